import PyProof.Rows.All
import Wide.All
import OpenK.AllK
import Wide.FinOn
import HandS.ForMost
import HandS.Evl
import HandS.IsInst
import HandS.Wide
import HandS.Flow
import HandS.Conv
import HandS.TryOnly
import HandS.GenOver
import HandS.AnyAll
import HandS.EndTab
import PyProof.SumAny
import HandS.TupAny
import KE.GoesMore
import KE.KRevSl
import HandS.Style
import HandS.Walk
import HandS.Iter
import PyProof.StrOps2
import HandS.Dict
import HandS.Words
import HandS.Rev
import HandS.SetKeys
import HandS.DictComp
import HandS.Zip
import KE.KDictZip
import HandS.EndOwn
import HandS.More
import PySem.Challenge.RW_lastproof_k08_weights
set_option Elab.async false
set_option linter.all false
set_option maxRecDepth 100000
set_option maxHeartbeats 4000000
namespace DL
open PySem PySem.Spec PyProof.Rows L2
open Evl (Ex)

/-- data, without the heap -/
inductive D where
  | none
  | bool (b : Bool)
  | int (i : Int)
  | str (s : Str)
  | list (xs : List D)
  | tuple (xs : List D)
  | dictK (ks : List Key) (vs : List D)
  | dictT (ks : List (List Key)) (vs : List D)
  | fn (j : Nat)

/-- a tuple of the heap, or a constant of the program: never a locked one -/
def St (K : PySem.W.Frag) (H : Hp) (a : Addr) (xs : List V) : Prop :=
  H a = some (.tup xs) ∨ ∃ (o : Obj) (its : Array Value) (n : Nat), K.lookup a = some o ∧ o.cls = .type "tuple" ∧ o.data = .seq its n ∧ its.size ≤ sizeLine ∧ Vals xs its.toList
theorem St.sq {K : PySem.W.Frag} {H : Hp} {a : Addr} {xs : List V} (h : St K H a xs) : SqT K H a xs := h.elim Evl.st_of Or.inr
theorem St.of {K : PySem.W.Frag} {H : Hp} {a : Addr} {xs : List V} (h : H a = some (.tup xs)) : St K H a xs := .inl h
mutual
inductive R (K : PySem.W.Frag) (H : Hp) : V → D → Prop
  | none : R K H .non .none
  | bool (b : Bool) : R K H (.bl b) (.bool b)
  | int (i : Int) : R K H (.int i) (.int i)
  | str (x : Str) : R K H (.str x) (.str x)
  | list {a : Addr} {xs : List V} {ds : List D} : SqL K H a xs → RA K H xs ds → R K H (.ref a) (.list ds)
  | tuple {a : Addr} {xs : List V} {ds : List D} : St K H a xs → RA K H xs ds → R K H (.ref a) (.tuple ds)
  | dictK {a : Addr} {kvs : List (Key × V)} {ks : List Key} {ds : List D} : H a = some (.dK kvs) → kvs.map (·.1) = ks → RA K H (kvs.map (·.2)) ds → R K H (.ref a) (.dictK ks ds)
  | dictT {a : Addr} {kvs : List (List Key × V)} {ks : List (List Key)} {ds : List D} : H a = some (.dT kvs) → kvs.map (·.1) = ks → RA K H (kvs.map (·.2)) ds → R K H (.ref a) (.dictT ks ds)
inductive RA (K : PySem.W.Frag) (H : Hp) : List V → List D → Prop
  | nil : RA K H [] []
  | cons {v : V} {vs : List V} {d : D} {ds : List D} : R K H v d → RA K H vs ds → RA K H (v :: vs) (d :: ds)
end

section
variable {K : PySem.W.Frag} {H H' V V' : Hp}
mutual
theorem R.mono (e : Ex H H') : ∀ (d : D) (v : L2.V), R K H v d → R K H' v d
  | .none, _, h => by cases h; exact .none
  | .bool b, _, h => by cases h; exact .bool b
  | .int i, _, h => by cases h; exact .int i
  | .str s, _, h => by cases h; exact .str s
  | .list ds, _, h => by
    cases h with
    | list hs ha => exact .list (Evl.ex_l e hs) (RA.mono e ds _ ha)
  | .tuple ds, _, h => by
    cases h with
    | tuple hs ha => exact .tuple (hs.imp (e _ _) id) (RA.mono e ds _ ha)
  | .dictK ks ds, _, h => by
    cases h with
    | dictK hs hk ha => exact .dictK (e _ _ hs) hk (RA.mono e ds _ ha)
  | .dictT ks ds, _, h => by
    cases h with
    | dictT hs hk ha => exact .dictT (e _ _ hs) hk (RA.mono e ds _ ha)
  | .fn j, _, h => by cases h
theorem RA.mono (e : Ex H H') : ∀ (ds : List D) (vs : List L2.V), RA K H vs ds → RA K H' vs ds
  | [], _, h => by cases h; exact .nil
  | d :: ds, _, h => by
    cases h with
    | cons h1 h2 => exact .cons (R.mono e d _ h1) (RA.mono e ds _ h2)
end
theorem RA.len : ∀ {ds : List D} {vs : List L2.V}, RA K H vs ds → vs.length = ds.length
  | [], _, h => by cases h; rfl
  | d :: ds, _, h => by
    cases h with
    | cons h1 h2 => rw [List.length_cons, List.length_cons, RA.len h2]
theorem RA.get : ∀ {ds : List D} {vs : List L2.V} {i : Nat} {d : D}, RA K H vs ds → ds[i]? = some d → ∃ v, vs[i]? = some v ∧ R K H v d
  | [], _, _, _, h, e => by simp at e
  | d :: ds, _, 0, d', h, e => by
    cases h with
    | cons h1 h2 =>
      have : d = d' := Option.some.inj e
      subst this
      exact ⟨_, rfl, h1⟩
  | d :: ds, _, i + 1, d', h, e => by
    cases h with
    | cons h1 h2 =>
      obtain ⟨v, hv, hr⟩ := RA.get (i := i) h2 e
      exact ⟨v, hv, hr⟩
theorem RA.getV : ∀ {ds : List D} {vs : List L2.V} {i : Nat} {v : L2.V}, RA K H vs ds → vs[i]? = some v → ∃ d, ds[i]? = some d ∧ R K H v d
  | [], _, _, _, h, e => by cases h; simp at e
  | d :: ds, _, 0, v', h, e => by
    cases h with
    | cons h1 h2 =>
      have := Option.some.inj e
      subst this
      exact ⟨_, rfl, h1⟩
  | d :: ds, _, i + 1, v', h, e => by
    cases h with
    | cons h1 h2 =>
      obtain ⟨v, hv, hr⟩ := RA.getV (i := i) h2 e
      exact ⟨v, hv, hr⟩
theorem RA.append : ∀ {ds es : List D} {vs us : List L2.V}, RA K H vs ds → RA K H us es → RA K H (vs ++ us) (ds ++ es)
  | [], _, _, _, h, k => by cases h; exact k
  | d :: ds, _, _, _, h, k => by
    cases h with
    | cons h1 h2 => exact .cons h1 (RA.append h2 k)
theorem RA.take (n : Nat) : ∀ {ds : List D} {vs : List L2.V}, RA K H vs ds → RA K H (vs.take n) (ds.take n) := by
  induction n with
  | zero => intro ds vs h; simp; exact .nil
  | succ n ih =>
    intro ds vs h
    cases ds with
    | nil => cases h; simp; exact .nil
    | cons d ds =>
      cases h with
      | cons h1 h2 =>
        simp only [List.take_succ_cons]
        exact .cons h1 (ih h2)
theorem RA.drop (n : Nat) : ∀ {ds : List D} {vs : List L2.V}, RA K H vs ds → RA K H (vs.drop n) (ds.drop n) := by
  induction n with
  | zero => intro ds vs h; exact h
  | succ n ih =>
    intro ds vs h
    cases ds with
    | nil => cases h; simp; exact .nil
    | cons d ds =>
      cases h with
      | cons h1 h2 =>
        simp only [List.drop_succ_cons]
        exact ih h2
theorem RA.set {v : L2.V} {d : D} (r : R K H v d) (n : Nat) : ∀ {ds : List D} {vs : List L2.V}, RA K H vs ds → RA K H (vs.set n v) (ds.set n d) := by
  induction n with
  | zero =>
    intro ds vs h
    cases h with
    | nil => exact .nil
    | cons h1 h2 => exact .cons r h2
  | succ n ih =>
    intro ds vs h
    cases h with
    | nil => exact .nil
    | cons h1 h2 => exact .cons h1 (ih h2)
theorem RA.rev : ∀ {ds : List D} {vs : List L2.V}, RA K H vs ds → RA K H vs.reverse ds.reverse
  | [], _, h => by cases h; exact .nil
  | d :: ds, _, h => by
    cases h with
    | cons h1 h2 =>
      rw [List.reverse_cons, List.reverse_cons]
      exact RA.append (RA.rev h2) (.cons h1 .nil)
theorem RA.ints : ∀ (ns : List Int), RA K H (ns.map L2.V.int) (ns.map D.int)
  | [] => .nil
  | n :: ns => .cons (.int n) (RA.ints ns)
theorem RA.ofInts : ∀ {ns : List Int} {vs : List L2.V}, RA K H vs (ns.map D.int) → vs = ns.map L2.V.int
  | [], _, h => by cases h; rfl
  | n :: ns, _, h => by
    cases h with
    | cons h1 h2 =>
      cases h1
      rw [RA.ofInts h2]
      rfl
end

/-! ### slots -/
/-- own p d: a container that nobody else sees, with the content d; p: a parameter -/
inductive Sl where
  | no
  | val (d : D)
  | own (p : Bool) (d : D)

/-- the content of an owned object at l -/
def OwnC (K : PySem.W.Frag) (V H : Hp) (l : Addr) : D → Prop
  | .list ds => ∃ xs, H l = some (.lst xs) ∧ RA K V xs ds
  | .dictK ks ds => ∃ kvs, H l = some (.dK kvs) ∧ kvs.map (·.1) = ks ∧ RA K V (kvs.map (·.2)) ds
  | .dictT ks ds => ∃ kvs, H l = some (.dT kvs) ∧ kvs.map (·.1) = ks ∧ RA K V (kvs.map (·.2)) ds
  | _ => False

def SlOk (K : PySem.W.Frag) (V H : Hp) : Option L2.V → Sl → Prop
  | _, .no => True
  | some v, .val d => R K V v d
  | some v, .own _ d => ∃ l, v = .ref l ∧ V l = none ∧ OwnC K V H l d
  | none, .val _ => False
  | none, .own _ _ => False

abbrev Nv := List Sl
def Own (env : Nv) (σ : L2.St) (l : Addr) : Prop := ∃ (i : Nat) (p : Bool) (d : D), env[i]? = some (Sl.own p d) ∧ σ[i]? = some (some (.ref l))
def OwnL (env : Nv) (σ : L2.St) (l : Addr) : Prop := ∃ (i : Nat) (d : D), env[i]? = some (Sl.own false d) ∧ σ[i]? = some (some (.ref l))
theorem OwnL.own {env : Nv} {σ : L2.St} {l : Addr} (h : OwnL env σ l) : Own env σ l := let ⟨i, d, h⟩ := h; ⟨i, false, d, h⟩

/-! ### the tables of the code objects of the defs that hold generator expressions -/
def tabNames : List Str := ["clause_weight"]
def IsTab (K : PySem.W.Frag) (P : Addr) : Prop := ∃ x ∈ tabNames, ∃ (fa : Addr) (o : Obj) (fd : FuncData) (c : Addr) (e : Value) (dd : Option Addr) (vs : Array Value) (sl : Array (Option Value)),
  PySem.W.nsIn K mainGlobals x = some (some (.ref fa)) ∧ K.lookup fa = some o ∧ o.data = .func fd ∧ fd.code = .ref c ∧ K.lookup c = some ⟨e, dd, .fields vs, sl⟩ ∧ vs[11]? = some (.ref P)
def TabsOk (K : PySem.W.Frag) (V H : Hp) : Prop := ∀ P, IsTab K P → V P = none ∧ GxR.TabG H P
theorem TabsOk.of {K : PySem.W.Frag} {V H H' : Hp} (h : TabsOk K V H) (e : ∀ (a : Addr) (q : Array Value), H a = some (.tbl q) → TriplesOk q.toList → ∃ q' : Array Value, H' a = some (.tbl q') ∧ TriplesOk q'.toList) : TabsOk K V H' := fun P i => by
  obtain ⟨h0, ps, h1, h2⟩ := h P i
  exact ⟨h0, e P ps h1 h2⟩
theorem TabsOk.ex {K : PySem.W.Frag} {V H H' : Hp} (h : TabsOk K V H) (e : Ex H H') : TabsOk K V H' := h.of fun a q h1 h2 => ⟨q, e a _ h1, h2⟩
structure NvOk (K : PySem.W.Frag) (V H : Hp) (σ : L2.St) (env : Nv) : Prop where
  len : σ.length = env.length
  sub : Ex V H
  slot : ∀ (i : Nat) (o : Option L2.V) (s : Sl), σ[i]? = some o → env[i]? = some s → SlOk K V H o s
  one : ∀ (i j : Nat) (p q : Bool) (d e : D) (l : Addr), env[i]? = some (.own p d) → env[j]? = some (.own q e) → σ[i]? = some (some (.ref l)) → σ[j]? = some (some (.ref l)) → i = j
  tabs : TabsOk K V H

theorem OwnC.there {K : PySem.W.Frag} {V H : Hp} {l : Addr} {d : D} (h : OwnC K V H l d) : ∃ o, H l = some o := by
  cases d with
  | list ds => obtain ⟨xs, h, _⟩ := h; exact ⟨_, h⟩
  | dictK ks ds => obtain ⟨xs, h, _⟩ := h; exact ⟨_, h⟩
  | dictT ks ds => obtain ⟨xs, h, _⟩ := h; exact ⟨_, h⟩
  | _ => exact h.elim
theorem OwnC.mono {K : PySem.W.Frag} {V H V' H' : Hp} {l : Addr} {d : D} (h : OwnC K V H l d) (e : Ex V V') (k : H' l = H l) : OwnC K V' H' l d := by
  cases d with
  | list ds => obtain ⟨xs, h, r⟩ := h; exact ⟨xs, k.trans h, RA.mono e _ _ r⟩
  | dictK ks ds => obtain ⟨xs, h, r1, r⟩ := h; exact ⟨xs, k.trans h, r1, RA.mono e _ _ r⟩
  | dictT ks ds => obtain ⟨xs, h, r1, r⟩ := h; exact ⟨xs, k.trans h, r1, RA.mono e _ _ r⟩
  | _ => exact h.elim
/-- an owned object, seen in the heap -/
theorem OwnC.seen {K : PySem.W.Frag} {V H : Hp} {l : Addr} {d : D} (h : OwnC K V H l d) (e : Ex V H) : R K H (.ref l) d := by
  cases d with
  | list ds => obtain ⟨xs, h, r⟩ := h; exact .list (Evl.sq_of h) (RA.mono e _ _ r)
  | dictK ks ds => obtain ⟨xs, h, r1, r⟩ := h; exact .dictK h r1 (RA.mono e _ _ r)
  | dictT ks ds => obtain ⟨xs, h, r1, r⟩ := h; exact .dictT h r1 (RA.mono e _ _ r)
  | _ => exact h.elim
/-- .. made visible -/
theorem OwnC.publish {K : PySem.W.Frag} {V H : Hp} {l : Addr} {d : D} (h : OwnC K V H l d) (hv : V l = none) : ∃ o, H l = some o ∧ R K (upd V l o) (.ref l) d := by
  have e : ∀ o, Ex V (upd V l o) := fun o => Evl.Ex.new hv
  cases d with
  | list ds => obtain ⟨xs, h, r⟩ := h; exact ⟨_, h, .list (Evl.sq_of upd_same) (RA.mono (e _) _ _ r)⟩
  | dictK ks ds => obtain ⟨xs, h, r1, r⟩ := h; exact ⟨_, h, .dictK upd_same r1 (RA.mono (e _) _ _ r)⟩
  | dictT ks ds => obtain ⟨xs, h, r1, r⟩ := h; exact ⟨_, h, .dictT upd_same r1 (RA.mono (e _) _ _ r)⟩
  | _ => exact h.elim

/-- no table of a def's code objects: such tables grow -/
def NT (o : HO) : Prop := ∀ q, o ≠ .tbl q
theorem OwnC.nt {K : PySem.W.Frag} {V H : Hp} {l : Addr} {d : D} (h : OwnC K V H l d) {o : HO} (e : H l = some o) : NT o := by
  intro q z
  subst z
  cases d with
  | list ds => obtain ⟨xs, h, _⟩ := h; rw [e] at h; cases h
  | dictK ks ds => obtain ⟨xs, h, _⟩ := h; rw [e] at h; cases h
  | dictT ks ds => obtain ⟨xs, h, _⟩ := h; rw [e] at h; cases h
  | _ => exact h.elim
theorem OwnC.ntup {K : PySem.W.Frag} {V H : Hp} {l : Addr} {d : D} (h : OwnC K V H l d) {xs : List L2.V} (e : H l = some (.tup xs)) : False := by
  cases d with
  | list ds => obtain ⟨xs, h, _⟩ := h; rw [e] at h; cases h
  | dictK ks ds => obtain ⟨xs, h, _⟩ := h; rw [e] at h; cases h
  | dictT ks ds => obtain ⟨xs, h, _⟩ := h; rw [e] at h; cases h
  | _ => exact h.elim
/-- nothing there yet, or a tuple: that may become visible -/
def FT (H : Hp) (a : Addr) : Prop := ∀ o, H a = some o → (∃ xs, o = .tup xs) ∨ ¬ NT o
theorem FT.none {H : Hp} {a : Addr} (h : H a = none) : FT H a := fun o e => by rw [h] at e; cases e
theorem FT.not {H : Hp} {a : Addr} (f : FT H a) {o : HO} (e : H a = some o) (n : NT o) (t : ∀ xs, o ≠ .tup xs) : False := (f o e).elim (fun ⟨xs, z⟩ => t xs z) fun z => z n
theorem OwnC.nft {K : PySem.W.Frag} {V H : Hp} {l : Addr} {d : D} (h : OwnC K V H l d) (f : FT H l) : False := by
  obtain ⟨o, e⟩ := h.there
  exact f.not e (h.nt e) fun xs z => by subst z; exact h.ntup e
/-- from one moment of a def's run to a later one -/
structure Adv (K : PySem.W.Frag) (σ : L2.St) (env : Nv) (σ' : L2.St) (env' : Nv) (V H V' H' : Hp) : Prop where
  ok : NvOk K V' H' σ' env'
  ex : Ex V V'
  fr : ∀ a, V' a ≠ none → V a ≠ none ∨ FT H a ∨ OwnL env σ a
  keep : ∀ a o, H a = some o → ¬ Own env σ a → NT o → H' a = some o
  tab : ∀ a q, H a = some (.tbl q) → TriplesOk q.toList → ∃ q', H' a = some (.tbl q') ∧ TriplesOk q'.toList
  dom : ∀ a, H a ≠ none → H' a ≠ none
  own : ∀ a, Own env' σ' a → Own env σ a ∨ H a = none
  ownL : ∀ a, OwnL env' σ' a → OwnL env σ a ∨ H a = none
  par : ∀ (i : Nat) (d : D), env[i]? = some (.own true d) → (∃ d', env'[i]? = some (.own true d')) ∧ σ'[i]? = σ[i]?

section
variable {K : PySem.W.Frag} {σ σ1 σ2 : L2.St} {env env1 env2 : Nv} {V H V1 H1 V2 H2 : Hp}
theorem Adv.refl (h : NvOk K V H σ env) : Adv K σ env σ env V H V H :=
  ⟨h, Evl.Ex.refl V, fun _ h => .inl h, fun _ _ h _ _ => h, fun _ q h t => ⟨q, h, t⟩, fun _ h => h, fun _ h => .inl h, fun _ h => .inl h, fun _ d h => ⟨⟨d, h⟩, rfl⟩⟩
theorem Adv.trans (a : Adv K σ env σ1 env1 V H V1 H1) (b : Adv K σ1 env1 σ2 env2 V1 H1 V2 H2) : Adv K σ env σ2 env2 V H V2 H2 := by
  have nn : ∀ x, H1 x = none → H x = none := fun x h => by
    cases q : H x with
    | none => rfl
    | some o => exact absurd h (a.dom x (by rw [q]; exact fun z => by cases z))
  refine ⟨b.ok, a.ex.trans b.ex, fun x h => ?_, fun x o h n t => ?_, fun x q h t => (let ⟨q1, h1, t1⟩ := a.tab x q h t; b.tab x q1 h1 t1), fun x h => b.dom x (a.dom x h), fun x h => ?_, fun x h => ?_, fun i d h => ?_⟩
  · rcases b.fr x h with h | h | h
    · exact a.fr x h
    · by_cases oL : OwnL env σ x
      · exact .inr (.inr oL)
      · refine .inr (.inl fun o ho => ?_)
        by_cases no : NT o
        · by_cases ow : Own env σ x
          · obtain ⟨i, p, d, y1, y2⟩ := ow
            cases p with
            | false => exact absurd ⟨i, d, y1, y2⟩ oL
            | true =>
              obtain ⟨⟨d', y3⟩, y4⟩ := a.par i d y1
              have := a.ok.slot i _ _ (y4.trans y2) y3
              obtain ⟨l, e, _, hc⟩ := this
              cases e
              exact (hc.nft h).elim
          · exact h o (a.keep x o ho ow no)
        · exact .inr no
    · rcases a.ownL x h with h | h
      · exact .inr (.inr h)
      · exact .inr (.inl (.none h))
  · refine b.keep x o (a.keep x o h n t) (fun q => ?_) t
    rcases a.own x q with k | k
    · exact n k
    · rw [h] at k; cases k
  · rcases b.own x h with h | h
    · exact a.own x h
    · exact .inr (nn x h)
  · rcases b.ownL x h with h | h
    · exact a.ownL x h
    · exact .inr (nn x h)
  · obtain ⟨⟨d1, h1⟩, e1⟩ := a.par i d h
    obtain ⟨h2, e2⟩ := b.par i d1 h1
    exact ⟨h2, e2.trans e1⟩

theorem NvOk.ownC (ok : NvOk K V H σ env) {i : Nat} {p : Bool} {d : D} (h : env[i]? = some (.own p d)) : ∃ l, σ[i]? = some (some (.ref l)) ∧ V l = none ∧ OwnC K V H l d := by
  have hl : i < σ.length := by rw [ok.len]; exact (List.getElem?_eq_some_iff.mp h).1
  have e : σ[i]? = some σ[i] := List.getElem?_eq_getElem hl
  have q := ok.slot i _ _ e h
  cases ho : σ[i] with
  | none => rw [ho] at q; exact q.elim
  | some v =>
    rw [ho] at q e
    obtain ⟨l, rfl, h1, h2⟩ := q
    exact ⟨l, e, h1, h2⟩
theorem NvOk.val (ok : NvOk K V H σ env) {i : Nat} {d : D} (h : env[i]? = some (.val d)) : ∃ v, σ[i]? = some (some v) ∧ R K V v d := by
  have hl : i < σ.length := by rw [ok.len]; exact (List.getElem?_eq_some_iff.mp h).1
  have e : σ[i]? = some σ[i] := List.getElem?_eq_getElem hl
  have q := ok.slot i _ _ e h
  cases ho : σ[i] with
  | none => rw [ho] at q; exact q.elim
  | some v => rw [ho] at q e; exact ⟨v, e, q⟩
theorem NvOk.ownH (ok : NvOk K V H σ env) {l : Addr} (h : Own env σ l) : V l = none ∧ ∃ o, H l = some o := by
  obtain ⟨i, p, d, h1, h2⟩ := h
  obtain ⟨l', e, hv, hc⟩ := ok.ownC h1
  rw [h2] at e
  cases e
  exact ⟨hv, hc.there⟩
theorem NvOk.notOwn (ok : NvOk K V H σ env) {l : Addr} (h : H l = none) : ¬ Own env σ l := fun q => by
  obtain ⟨_, o, ho⟩ := ok.ownH q
  rw [h] at ho
  cases ho

/-- what only lays new things -/
structure Al (V H V' H' : Hp) : Prop where
  ex : Ex V V'
  sub : Ex V' H'
  keep : Ex H H'
  fr : ∀ a, V' a ≠ none → V a ≠ none ∨ H a = none ∨ ∃ xs, H a = some (.tup xs)
theorem Al.refl (h : Ex V H) : Al V H V H := ⟨Evl.Ex.refl V, h, Evl.Ex.refl H, fun _ h => .inl h⟩
/-- .. visible -/
theorem Al.new {p : Addr} {o : HO} (h : Ex V H) (hp : H p = none) : Al V H (upd V p o) (upd H p o) := by
  have hv : V p = none := Evl.fresh_back h hp
  refine ⟨Evl.Ex.new hv, fun a u e => ?_, Evl.Ex.new hp, fun a e => ?_⟩
  · by_cases q : a = p
    · subst q; rw [upd_same] at e ⊢; exact e
    · rw [upd_ne q] at e ⊢; exact h a u e
  · by_cases q : a = p
    · subst q; exact .inr (.inl hp)
    · rw [upd_ne q] at e; exact .inl e
/-- .. hidden -/
theorem Al.hid {p : Addr} {o : HO} (h : Ex V H) (hp : H p = none) : Al V H V (upd H p o) :=
  ⟨Evl.Ex.refl V, h.trans (Evl.Ex.new hp), Evl.Ex.new hp, fun _ h => .inl h⟩
theorem Al.trans (a : Al V H V1 H1) (b : Al V1 H1 V2 H2) : Al V H V2 H2 :=
  ⟨a.ex.trans b.ex, b.sub, a.keep.trans b.keep, fun x h => by
    rcases b.fr x h with h | h | ⟨xs, h⟩
    · exact a.fr x h
    · exact .inr (.inl (Evl.fresh_back a.keep h))
    · cases q : H x with
      | none => exact .inr (.inl rfl)
      | some o =>
        have := a.keep x o q
        rw [h] at this
        cases this
        exact .inr (.inr ⟨xs, rfl⟩)⟩
/-- a tuple that is there becomes visible -/
theorem Al.tup {p : Addr} {xs : List L2.V} (h : Ex V H) (hp : H p = some (.tup xs)) : ∃ V', Al V H V' H ∧ V' p = some (.tup xs) := by
  cases q : V p with
  | some o =>
    have := h p o q
    rw [hp] at this
    cases this
    exact ⟨V, Al.refl h, q⟩
  | none =>
    refine ⟨upd V p (.tup xs), ⟨Evl.Ex.new q, fun a u e => ?_, Evl.Ex.refl H, fun a e => ?_⟩, upd_same⟩
    · by_cases z : a = p
      · subst z; rw [upd_same] at e; cases e; exact hp
      · rw [upd_ne z] at e; exact h a u e
    · by_cases z : a = p
      · subst z; exact .inr (.inr ⟨xs, hp⟩)
      · rw [upd_ne z] at e; exact .inl e
theorem NvOk.al (ok : NvOk K V H σ env) (a : Al V H V1 H1) : NvOk K V1 H1 σ env := by
  refine ⟨ok.len, a.sub, fun i o s h1 h2 => ?_, ok.one, ?tabs⟩
  case tabs =>
    intro P i
    obtain ⟨h0, ps, h1, h2⟩ := ok.tabs P i
    refine ⟨?_, ps, a.keep P _ h1, h2⟩
    cases z : V1 P with
    | none => rfl
    | some o =>
      rcases a.fr P (by rw [z]; exact fun y => by cases y) with k | k | ⟨ys, k⟩
      · exact absurd h0 k
      · rw [h1] at k; cases k
      · rw [h1] at k; cases k
  have q := ok.slot i o s h1 h2
  cases s with
  | no => cases o <;> trivial
  | val d =>
    cases o with
    | none => exact q
    | some v => exact R.mono a.ex _ _ q
  | own p d =>
    cases o with
    | none => exact q
    | some v =>
      obtain ⟨l, rfl, h3, h4⟩ := q
      obtain ⟨u, hu⟩ := h4.there
      refine ⟨l, rfl, ?_, h4.mono a.ex ((a.keep l u hu).trans hu.symm)⟩
      cases z : V1 l with
      | none => rfl
      | some u2 =>
        rcases a.fr l (by rw [z]; exact fun z => by cases z) with k | k | ⟨ys, k⟩
        · exact absurd h3 k
        · rw [hu] at k; cases k
        · exact (h4.ntup k).elim
theorem Al.adv (a : Al V H V1 H1) (ok : NvOk K V H σ env) : Adv K σ env σ env V H V1 H1 :=
  ⟨ok.al a, a.ex, fun x h => (a.fr x h).elim .inl fun k => .inr (.inl (k.elim .none fun ⟨xs, e⟩ => fun o z => by rw [e] at z; cases z; exact .inl ⟨xs, rfl⟩)), fun x o h _ _ => a.keep x o h, fun x q h t => ⟨q, a.keep x _ h, t⟩, (fun x h => by
    cases q : H x with
    | none => exact absurd q h
    | some o => rw [a.keep x o q]; exact fun z => by cases z), fun _ h => .inl h, fun _ h => .inl h, fun _ d h => ⟨⟨d, h⟩, rfl⟩⟩
end

/-! ### results -/
inductive Res where
  | val (d : D)
  | new (d : D)
  | own (i : Nat)

/-- v is the result of what began at σ0, env0, H0 -/
def ROk (K : PySem.W.Frag) (σ0 : L2.St) (env0 : Nv) (H0 V H : Hp) (σ : L2.St) (env : Nv) (v : L2.V) : Res → Prop
  | .val d => R K V v d
  | .new d => ∃ l, v = .ref l ∧ (H0 l = none ∨ OwnL env0 σ0 l) ∧ V l = none ∧ ¬ Own env σ l ∧ OwnC K V H l d
  | .own i => σ[i]? = some (some v) ∧ ∃ p d, env[i]? = some (.own p d)

/-- te, from env, gives the result and leaves env' -/
def Snd (K : PySem.W.Frag) (te : TE) (env : Nv) (r : Res) (env' : Nv) : Prop :=
  ∀ (σ : L2.St) (V H : Hp), NvOk K V H σ env → ∀ Q : VK, (∀ v V' H', Adv K σ env σ env' V H V' H' → ROk K σ env H V' H' σ env' v r → Q v H') → te σ H Q
def pub : Res → Res
  | .new d => .val d
  | r => r
section
variable {K : PySem.W.Frag} {σ σ1 σ2 σ0 : L2.St} {env env1 env2 env0 : Nv} {V H V1 H1 V2 H2 : Hp} {te : TE}
/-- a hidden thing is made visible -/
theorem Adv.show {l : Addr} {d : D} (a : Adv K σ env σ1 env1 V H V1 H1) (h0 : H l = none ∨ OwnL env σ l) (hv : V1 l = none) (hn : ¬ Own env1 σ1 l) (hc : OwnC K V1 H1 l d) :
    ∃ V2, Adv K σ env σ1 env1 V H V2 H1 ∧ R K V2 (.ref l) d := by
  obtain ⟨o, ho, r⟩ := hc.publish hv
  have hx : Ex V1 (upd V1 l o) := Evl.Ex.new hv
  refine ⟨upd V1 l o, ⟨⟨a.ok.len, fun b u e => ?_, fun i w s h1 h2 => ?_, a.ok.one, ?tabs⟩, a.ex.trans hx, fun b h => ?_, a.keep, a.tab, a.dom, a.own, a.ownL, a.par⟩, r⟩
  case tabs =>
    intro P i
    obtain ⟨h0, ps, h1, h2⟩ := a.ok.tabs P i
    exact ⟨by rw [upd_ne fun z => by subst z; exact hc.nt h1 ps rfl]; exact h0, ps, h1, h2⟩
  · by_cases q : b = l
    · subst q; rw [upd_same] at e; cases e; exact ho
    · rw [upd_ne q] at e; exact a.ok.sub b u e
  · have q := a.ok.slot i w s h1 h2
    cases s with
    | no => cases w <;> trivial
    | val e =>
      cases w with
      | none => exact q
      | some v => exact R.mono hx _ _ q
    | own p e =>
      cases w with
      | none => exact q
      | some v =>
        obtain ⟨b, rfl, h3, h4⟩ := q
        have nb : b ≠ l := fun z => by
          subst z
          exact hn ⟨i, p, e, h2, h1⟩
        exact ⟨b, rfl, by rw [upd_ne nb]; exact h3, h4.mono hx rfl⟩
  · by_cases q : b = l
    · subst q
      exact h0.elim (fun z => .inr (.inl (.none z))) fun z => .inr (.inr z)
    · rw [upd_ne q] at h; exact a.fr b h
theorem Snd.pub {r : Res} (h : Snd K te env r env1) : Snd K te env (DL.pub r) env1 := by
  cases r with
  | val d => exact h
  | own i => exact h
  | new d =>
    intro σ V H ok Q q
    refine h σ V H ok Q fun v V' H' a ⟨l, e, h0, hv, hn, hc⟩ => ?_
    obtain ⟨V2, a2, r2⟩ := a.show h0 hv hn hc
    subst e
    exact q _ V2 H' a2 r2
end
end DL

namespace DL
open PySem PySem.Spec PyProof.Rows L2
open Evl (Ex)

abbrev EvF := Nv → Option (Res × Nv)
abbrev EvA := Nv → Option (List Res × Nv)
abbrev EvT := Nv → Option (Bool × Nv)
def look (env : Nv) : Res → Option D
  | .val d => some d
  | .new d => some d
  | .own i => match env[i]? with
    | some (.own _ d) => some d
    | _ => none
def looks (env : Nv) : List Res → Option (List D)
  | [] => some []
  | r :: rs => (look env r).bind fun d => (looks env rs).bind fun ds => some (d :: ds)
/-- visible results -/
def vis : Res → Option D
  | .val d => some d
  | .new d => some d
  | .own _ => none
def viss : List Res → Option (List D)
  | [] => some []
  | r :: rs => (vis r).bind fun d => (viss rs).bind fun ds => some (d :: ds)
def opd (f : EvF) : EvF := fun env => (f env).bind fun p => some (pub p.1, p.2)
def argN : EvA := fun env => some ([], env)
def argC (f : EvF) (g : EvA) : EvA := fun env => (opd f env).bind fun p => (g p.2).bind fun q => some (p.1 :: q.1, q.2)

def Sd (K : PySem.W.Frag) (t : TE) (f : EvF) : Prop := ∀ env r env', f env = some (r, env') → Snd K t env r env'
def PD (X : Cx) (e : Expr) (f : EvF) : Prop := ∃ t, PE X e t ∧ Sd X.K t f

/-- an operand -/
def Held (K : PySem.W.Frag) (V : Hp) (σ : L2.St) (v : L2.V) : Res → Prop
  | .val d => R K V v d
  | .own i => σ[i]? = some (some v)
  | .new _ => False
inductive HeldA (K : PySem.W.Frag) (V : Hp) (σ : L2.St) : List L2.V → List Res → Prop
  | nil : HeldA K V σ [] []
  | cons {v r vs rs} : Held K V σ v r → HeldA K V σ vs rs → HeldA K V σ (v :: vs) (r :: rs)
def OpOk (K : PySem.W.Frag) (V H : Hp) (v : L2.V) (d : D) : Prop := R K V v d ∨ ∃ l, v = .ref l ∧ V l = none ∧ OwnC K V H l d
inductive OpA (K : PySem.W.Frag) (V H : Hp) : List L2.V → List D → Prop
  | nil : OpA K V H [] []
  | cons {v d vs ds} : OpOk K V H v d → OpA K V H vs ds → OpA K V H (v :: vs) (d :: ds)
section
variable {K : PySem.W.Frag} {σ : L2.St} {env env1 env2 : Nv} {V H V1 H1 V2 H2 : Hp} {v : L2.V} {te ta tb : TE}
theorem Held.mono {r : Res} (h : Held K V σ v r) (e : Ex V V1) : Held K V1 σ v r := by
  cases r with
  | val d => exact R.mono e _ _ h
  | own i => exact h
  | new d => exact h
theorem HeldA.mono {vs : List L2.V} {rs : List Res} (h : HeldA K V σ vs rs) (e : Ex V V1) : HeldA K V1 σ vs rs := by
  induction h with
  | nil => exact .nil
  | cons h _ ih => exact .cons (h.mono e) ih
theorem Held.look {r : Res} {d : D} (h : Held K V σ v r) (ok : NvOk K V H σ env) (e : look env r = some d) : OpOk K V H v d := by
  cases r with
  | val d' =>
    cases e
    exact .inl h
  | new d' => exact h.elim
  | own i =>
    have e' : (match env[i]? with
      | some (.own _ d) => some d
      | _ => none) = some d := e
    cases q : env[i]? with
    | none => rw [q] at e'; cases e'
    | some s =>
      rw [q] at e'
      cases s with
      | no => cases e'
      | val _ => cases e'
      | own p d' =>
        cases e'
        obtain ⟨l, h1, h2, h3⟩ := ok.ownC q
        have hv : σ[i]? = some (some v) := h
        rw [h1] at hv
        cases hv
        exact .inr ⟨l, rfl, h2, h3⟩
theorem HeldA.look {vs : List L2.V} {rs : List Res} (h : HeldA K V σ vs rs) (ok : NvOk K V H σ env) : ∀ {ds : List D}, looks env rs = some ds → OpA K V H vs ds := by
  induction h with
  | nil => intro ds e; cases e; exact .nil
  | cons h _ ih =>
    intro ds e
    simp only [looks, Option.bind_eq_some_iff] at e
    obtain ⟨d, e1, ds', e2, e3⟩ := e
    cases e3
    exact .cons (h.look ok e1) (ih e2)
theorem HeldA.vis {vs : List L2.V} {rs : List Res} (h : HeldA K V σ vs rs) : ∀ {ds : List D}, viss rs = some ds → RA K V vs ds := by
  induction h with
  | nil => intro ds e; cases e; exact .nil
  | @cons v r vs rs h _ ih =>
    intro ds e
    simp only [viss, Option.bind_eq_some_iff] at e
    obtain ⟨d, e1, ds', e2, e3⟩ := e
    cases e3
    refine .cons ?_ (ih e2)
    cases r with
    | val d' => cases e1; exact h
    | new d' => exact h.elim
    | own i => cases e1
theorem OpOk.seen {d : D} (h : OpOk K V H v d) (e : Ex V H) : R K H v d := by
  rcases h with h | ⟨l, rfl, _, h⟩
  · exact R.mono e _ _ h
  · exact h.seen e
theorem OpA.seen {vs : List L2.V} {ds : List D} (h : OpA K V H vs ds) (e : Ex V H) : RA K H vs ds := by
  induction h with
  | nil => exact .nil
  | cons h _ ih => exact .cons (h.seen e) ih
theorem ROk.held {r : Res} {σ0 : L2.St} {env0 : Nv} {H0 : Hp} (h : ROk K σ0 env0 H0 V H σ env v (pub r)) : Held K V σ v (pub r) := by
  cases r with
  | val d => exact h
  | new d => exact h
  | own i => exact h.1
theorem opd_snd {f : EvF} {r : Res} (h : Sd K te f) (e : opd f env = some (r, env1)) (ok : NvOk K V H σ env) {Q : VK} (q : ∀ v V' H', Adv K σ env σ env1 V H V' H' → Held K V' σ v r → Q v H') : te σ H Q := by
  simp only [opd, Option.bind_eq_some_iff] at e
  obtain ⟨⟨r0, e0⟩, e1, e2⟩ := e
  cases e2
  exact (h env r0 _ e1).pub σ V H ok Q fun v V' H' a h => q v V' H' a h.held

/-- what an operation gives: H the heap ahead -/
def RR (K : PySem.W.Frag) (H V' H' : Hp) (v : L2.V) : Res → Prop
  | .val d => R K V' v d
  | .new d => ∃ l, v = .ref l ∧ H l = none ∧ V' l = none ∧ OwnC K V' H' l d
  | .own _ => False
theorem RR.rok {r : Res} (a : Adv K σ env σ env1 V H V1 H1) (b : Al V1 H1 V2 H2) (h : RR K H1 V2 H2 v r) : ROk K σ env H V2 H2 σ env1 v r := by
  cases r with
  | val d => exact h
  | own i => exact h.elim
  | new d =>
    obtain ⟨l, e, h1, h2, h3⟩ := h
    refine ⟨l, e, .inl ?_, h2, a.ok.notOwn h1, h3⟩
    cases q : H l with
    | none => rfl
    | some o => exact absurd h1 (a.dom l (by rw [q]; exact fun z => by cases z))

def BinOk (K : PySem.W.Frag) (r : R2) (g : D → D → Option Res) : Prop :=
  ∀ (V H : Hp) (x y : L2.V) (d e : D) (res : Res), Ex V H → OpOk K V H x d → OpOk K V H y e → g d e = some res → ∀ Q : VK, (∀ v V' H', Al V H V' H' → RR K H V' H' v res → Q v H') → r x y H Q
def UnOk (K : PySem.W.Frag) (r : L2.V → Hp → VK → Prop) (g : D → Option Res) : Prop :=
  ∀ (V H : Hp) (x : L2.V) (d : D) (res : Res), Ex V H → OpOk K V H x d → g d = some res → ∀ Q : VK, (∀ v V' H', Al V H V' H' → RR K H V' H' v res → Q v H') → r x H Q
def CallOk (K : PySem.W.Frag) (r : List L2.V → Hp → VK → Prop) (g : List D → Option Res) : Prop :=
  ∀ (V H : Hp) (vs : List L2.V) (ds : List D) (res : Res), Ex V H → OpA K V H vs ds → g ds = some res → ∀ Q : VK, (∀ v V' H', Al V H V' H' → RR K H V' H' v res → Q v H') → r vs H Q

def iBin (g : D → D → Option Res) (fa fb : EvF) : EvF := fun env => (opd fa env).bind fun p => (opd fb p.2).bind fun q =>
  (look q.2 p.1).bind fun d => (look q.2 q.1).bind fun e => (g d e).bind fun r => some (r, q.2)
theorem sd_bin {r : R2} {g : D → D → Option Res} {fa fb : EvF} (hB : BinOk K r g) (ha : Sd K ta fa) (hb : Sd K tb fb) : Sd K (tOp r ta tb) (iBin g fa fb) := by
  intro env res env' e σ V H ok Q q
  simp only [iBin, Option.bind_eq_some_iff] at e
  obtain ⟨⟨ra, e1⟩, h1, ⟨rb, e2⟩, h2, d, h3, d', h4, r', h5, h6⟩ := e
  cases h6
  refine opd_snd ha h1 ok fun x V1 H1 a1 k1 => ?_
  refine opd_snd hb h2 a1.ok fun y V2 H2 a2 k2 => ?_
  have a := a1.trans a2
  exact hB V2 H2 x y d d' res a.ok.sub ((k1.mono a2.ex).look a.ok h3) (k2.look a.ok h4) h5 Q fun v V' H' b hr => q v V' H' (a.trans (b.adv a.ok)) (hr.rok a b)
def iUn (g : D → Option Res) (fa : EvF) : EvF := fun env => (opd fa env).bind fun p => (look p.2 p.1).bind fun d => (g d).bind fun r => some (r, p.2)
theorem sd_un {r : L2.V → Hp → VK → Prop} {g : D → Option Res} {fa : EvF} (hB : UnOk K r g) (ha : Sd K ta fa) : Sd K (tUn r ta) (iUn g fa) := by
  intro env res env' e σ V H ok Q q
  simp only [iUn, Option.bind_eq_some_iff] at e
  obtain ⟨⟨ra, e1⟩, h1, d, h3, r', h5, h6⟩ := e
  cases h6
  refine opd_snd ha h1 ok fun x V1 H1 a k1 => ?_
  exact hB V1 H1 x d res a.ok.sub (k1.look a.ok h3) h5 Q fun v V' H' b hr => q v V' H' (a.trans (b.adv a.ok)) (hr.rok a b)

/-! ### arguments -/
def SdA (K : PySem.W.Frag) (t : TA) (f : EvA) : Prop := ∀ env rs env', f env = some (rs, env') → ∀ (σ : L2.St) (V H : Hp), NvOk K V H σ env →
  ∀ Q : List L2.V → Hp → Prop, (∀ vs V' H', Adv K σ env σ env' V H V' H' → HeldA K V' σ vs rs → Q vs H') → t σ H Q
theorem sda_nil : SdA K tNil argN := by
  intro env rs env' e σ V H ok Q q
  cases e
  exact q [] V H (Adv.refl ok) .nil
theorem sda_cons {t : TA} {f : EvF} {g : EvA} (ha : Sd K te f) (hr : SdA K t g) : SdA K (tCons te t) (argC f g) := by
  intro env rs env' e σ V H ok Q q
  simp only [argC, Option.bind_eq_some_iff] at e
  obtain ⟨⟨ra, e1⟩, h1, ⟨rb, e2⟩, h2, h6⟩ := e
  cases h6
  refine opd_snd ha h1 ok fun x V1 H1 a1 k1 => ?_
  refine hr _ _ _ h2 σ V1 H1 a1.ok _ fun vs V2 H2 a2 k2 => ?_
  exact q _ V2 H2 (a1.trans a2) (.cons (k1.mono a2.ex) k2)
/-- a call by values -/
def iCB (g : List D → Option Res) (fs : EvA) : EvF := fun env => (fs env).bind fun p => (looks p.2 p.1).bind fun ds => (g ds).bind fun r => some (r, p.2)
theorem sd_cb {r : List L2.V → Hp → VK → Prop} {g : List D → Option Res} {t : TA} {fs : EvA} (hB : CallOk K r g) (ha : SdA K t fs) : Sd K (tCB r t) (iCB g fs) := by
  intro env res env' e σ V H ok Q q
  simp only [iCB, Option.bind_eq_some_iff] at e
  obtain ⟨⟨ra, e1⟩, h1, ds, h3, r', h5, h6⟩ := e
  cases h6
  refine ha _ _ _ h1 σ V H ok _ fun vs V1 H1 a k1 => ?_
  exact hB V1 H1 vs ds res a.ok.sub (k1.look a.ok h3) h5 Q fun v V' H' b hr => q v V' H' (a.trans (b.adv a.ok)) (hr.rok a b)
/-- tuples, lists -/
def iTup (fs : EvA) : EvF := fun env => (fs env).bind fun p => (viss p.1).bind fun ds => if ds.length ≤ 1000 then some (.val (.tuple ds), p.2) else none
def iLst (fs : EvA) : EvF := fun env => (fs env).bind fun p => (viss p.1).bind fun ds => if ds.length ≤ 1000 then some (.new (.list ds), p.2) else none
theorem sz1000 {n : Nat} (h : n ≤ 1000) : n ≤ sizeLine := Nat.le_of_lt (small1000 h)
theorem sd_tup {t : TA} {fs : EvA} (ha : SdA K t fs) : Sd K (tTup t) (iTup fs) := by
  intro env res env' e σ V H ok Q q
  simp only [iTup, Option.bind_eq_some_iff] at e
  obtain ⟨⟨ra, e1⟩, h1, ds, h3, h6⟩ := e
  split at h6
  · rename_i hz
    cases h6
    refine ha _ _ _ h1 σ V H ok _ fun vs V1 H1 a k1 => ?_
    have r := k1.vis h3
    refine ⟨sz1000 (by rw [r.len]; exact hz), fun p hp => ?_⟩
    have b : Al V1 H1 (upd V1 p (.tup vs)) (upd H1 p (.tup vs)) := Al.new a.ok.sub hp
    exact q _ _ _ (a.trans (b.adv a.ok)) (.tuple (St.of upd_same) (RA.mono b.ex _ _ r))
  · cases h6
theorem sd_lst {t : TA} {fs : EvA} (ha : SdA K t fs) : Sd K (tLst t) (iLst fs) := by
  intro env res env' e σ V H ok Q q
  simp only [iLst, Option.bind_eq_some_iff] at e
  obtain ⟨⟨ra, e1⟩, h1, ds, h3, h6⟩ := e
  split at h6
  · rename_i hz
    cases h6
    refine ha _ _ _ h1 σ V H ok _ fun vs V1 H1 a k1 => ?_
    have r := k1.vis h3
    refine ⟨sz1000 (by rw [r.len]; exact hz), fun p hp => ?_⟩
    have b : Al V1 H1 V1 (upd H1 p (.lst vs)) := Al.hid a.ok.sub hp
    refine q _ _ _ (a.trans (b.adv a.ok)) (RR.rok (r := .new (.list ds)) a b ⟨p, rfl, hp, Evl.fresh_back a.ok.sub hp, vs, upd_same, r⟩)
  · cases h6

/-! ### names, constants -/
def iVar (i : Nat) : EvF := fun env => match env[i]? with
  | some (.val d) => some (.val d, env)
  | some (.own _ _) => some (.own i, env)
  | _ => none
theorem sd_var (i : Nat) : Sd K (tVar i) (iVar i) := by
  intro env res env' e σ V H ok Q q
  unfold iVar at e
  split at e
  · rename_i d h
    cases e
    obtain ⟨v, h1, h2⟩ := ok.val h
    exact ⟨v, h1, q v V H (Adv.refl ok) h2⟩
  · rename_i p d h
    cases e
    obtain ⟨l, h1, h2, h3⟩ := ok.ownC h
    exact ⟨_, h1, q _ V H (Adv.refl ok) ⟨h1, p, d, h⟩⟩
  · cases e
def iCon (d : D) : EvF := fun env => some (.val d, env)
theorem sd_con {v : L2.V} {d : D} (h : R K (fun _ => none) v d) : Sd K (tC v) (iCon d) := by
  intro env res env' e σ V H ok Q q
  cases e
  exact q v V H (Adv.refl ok) (R.mono (fun a o z => by cases z) _ _ h)

/-! ### tests -/
def SdT (K : PySem.W.Frag) (t : TT) (f : EvT) : Prop := ∀ env b env', f env = some (b, env') → ∀ (σ : L2.St) (V H : Hp), NvOk K V H σ env →
  ∀ Q : Bool → Hp → Prop, (∀ V' H', Adv K σ env σ env' V H V' H' → Q b H') → t σ H Q
def isB : Res → Option Bool
  | .val (.bool b) => some b
  | _ => none
def iTst (f : EvF) : EvT := fun env => (f env).bind fun p => (isB p.1).bind fun b => some (b, p.2)
theorem R.isBool {b : Bool} (h : R K V v (.bool b)) : v = .bl b := by cases h; rfl
theorem isB_val {r : Res} {b : Bool} (h : isB r = some b) : r = .val (.bool b) := by
  cases r with
  | val d => cases d <;> first | (cases h; rfl) | cases h
  | _ => cases h
theorem sdt_test {f : EvF} (ha : Sd K te f) : SdT K (tTest te) (iTst f) := by
  intro env b env' e σ V H ok Q q
  simp only [iTst, Option.bind_eq_some_iff] at e
  obtain ⟨⟨r, e1⟩, h1, b', h2, h3⟩ := e
  cases h3
  have hr : r = _ := isB_val h2
  subst hr
  exact ha _ _ _ h1 σ V H ok _ fun v V' H' a k0 => ⟨b, R.isBool k0, q V' H' a⟩
def truD : D → Option Bool
  | .none => some false
  | .bool b => some b
  | .int i => some (i != 0)
  | .str s => if s.length ≤ 100000 then some ((s.length : Int) != 0) else none
  | .list ds => some (!ds.isEmpty)
  | .tuple ds => some (!ds.isEmpty)
  | .dictK ks _ => some (!ks.isEmpty)
  | _ => none
theorem RA.isEmpty {vs : List L2.V} {ds : List D} (h : RA K V vs ds) : vs.isEmpty = ds.isEmpty := by cases h <;> rfl
theorem truV_of {d : D} {b : Bool} (h : OpOk K V H v d) (sub : Ex V H) (e : truD d = some b) : TruV K v H b := by
  have r := h.seen sub
  cases d with
  | none => cases r; cases e; rfl
  | bool c => cases r; cases e; rfl
  | int i => cases r; cases e; rfl
  | str s =>
    cases r
    simp only [truD] at e
    split at e
    · rename_i hz
      cases e
      exact ⟨Evl.sz_of hz, rfl⟩
    · cases e
  | list ds =>
    cases r with
    | list hs ha => cases e; exact .inl ⟨_, hs, by rw [ha.isEmpty]⟩
  | tuple ds =>
    cases r with
    | tuple hs ha => cases e; exact .inr (.inl ⟨_, hs.sq, by rw [ha.isEmpty]⟩)
  | dictK ks ds =>
    cases r with
    | @dictK a kvs _ _ hs hk ha =>
      cases e
      refine .inr (.inr ⟨_, hs, ?_⟩)
      rw [← hk]
      cases kvs <;> rfl
  | dictT _ _ => cases e
  | fn j => cases e
def iTru (f : EvF) : EvT := fun env => (opd f env).bind fun p => (look p.2 p.1).bind fun d => (truD d).bind fun b => some (b, p.2)
theorem sdt_tru {f : EvF} (ha : Sd K te f) : SdT K (fun σ H Q => te σ H fun x H' => ∃ k, TruV K x H' k ∧ Q k H') (iTru f) := by
  intro env b env' e σ V H ok Q q
  simp only [iTru, Option.bind_eq_some_iff] at e
  obtain ⟨⟨r, e1⟩, h1, d, h2, b', h3, h4⟩ := e
  cases h4
  exact opd_snd ha h1 ok fun v V' H' a k => ⟨b, truV_of (k.look a.ok h2) a.ok.sub h3, q V' H' a⟩
def iNotT (f : EvT) : EvT := fun env => (f env).bind fun p => some (!p.1, p.2)
def iAndT (f g : EvT) : EvT := fun env => (f env).bind fun p => if p.1 = true then g p.2 else some (false, p.2)
def iOrT (f g : EvT) : EvT := fun env => (f env).bind fun p => if p.1 = true then some (true, p.2) else g p.2
variable {t u : TT} {f g : EvT}
theorem sdt_not (ha : SdT K t f) : SdT K (tNot t) (iNotT f) := by
  intro env b env' e σ V H ok Q q
  simp only [iNotT, Option.bind_eq_some_iff] at e
  obtain ⟨⟨c, e1⟩, h1, h2⟩ := e
  cases h2
  exact ha _ _ _ h1 σ V H ok _ q
theorem sdt_and (ha : SdT K t f) (hb : SdT K u g) : SdT K (tAnd t u) (iAndT f g) := by
  intro env b env' e σ V H ok Q q
  simp only [iAndT, Option.bind_eq_some_iff] at e
  obtain ⟨⟨c, e1⟩, h1, h2⟩ := e
  refine ha _ _ _ h1 σ V H ok _ fun V' H' a => ?_
  cases c with
  | true =>
    rw [if_pos rfl]
    rw [if_pos rfl] at h2
    exact hb _ _ _ h2 σ V' H' a.ok _ fun V2 H2 a2 => q V2 H2 (a.trans a2)
  | false =>
    rw [if_neg Bool.false_ne_true]
    rw [if_neg Bool.false_ne_true] at h2
    cases h2
    exact q V' H' a
theorem sdt_or (ha : SdT K t f) (hb : SdT K u g) : SdT K (tOr t u) (iOrT f g) := by
  intro env b env' e σ V H ok Q q
  simp only [iOrT, Option.bind_eq_some_iff] at e
  obtain ⟨⟨c, e1⟩, h1, h2⟩ := e
  refine ha _ _ _ h1 σ V H ok _ fun V' H' a => ?_
  cases c with
  | true =>
    rw [if_pos rfl]
    rw [if_pos rfl] at h2
    cases h2
    exact q V' H' a
  | false =>
    rw [if_neg Bool.false_ne_true]
    rw [if_neg Bool.false_ne_true] at h2
    exact hb _ _ _ h2 σ V' H' a.ok _ fun V2 H2 a2 => q V2 H2 (a.trans a2)
/-! ### and, or, not, if as values -/
def iAnd (fa fb : EvF) : EvF := fun env => (fa env).bind fun p => (isB p.1).bind fun b => if b = true then fb p.2 else some (.val (.bool false), p.2)
def iOr (fa fb : EvF) : EvF := fun env => (fa env).bind fun p => (isB p.1).bind fun b => if b = true then some (.val (.bool true), p.2) else fb p.2
def iNot (fa : EvF) : EvF := fun env => (fa env).bind fun p => (isB p.1).bind fun b => some (.val (.bool (!b)), p.2)
def iIf (c : EvT) (fa fb : EvF) : EvF := fun env => (c env).bind fun p => if p.1 = true then fa p.2 else fb p.2
theorem ROk.trans {r : Res} {V' H' : Hp} (a : Adv K σ env σ env1 V H V1 H1) (h : ROk K σ env1 H1 V' H' σ env2 v r) : ROk K σ env H V' H' σ env2 v r := by
  cases r with
  | val d => exact h
  | own i => exact h
  | new d =>
    obtain ⟨l, e, h1, h2⟩ := h
    refine ⟨l, e, ?_, h2⟩
    rcases h1 with h1 | h1
    · cases q : H l with
      | none => exact .inl rfl
      | some o => exact absurd h1 (a.dom l (by rw [q]; exact fun z => by cases z))
    · exact (a.ownL l h1).elim .inr .inl
variable {fa fb : EvF}
theorem sd_and (ha : Sd K ta fa) (hb : Sd K tb fb) : Sd K (tAndV ta tb) (iAnd fa fb) := by
  intro env res env' e σ V H ok Q q
  simp only [iAnd, Option.bind_eq_some_iff] at e
  obtain ⟨⟨r, e1⟩, h1, b, h2, h3⟩ := e
  have hr : r = _ := isB_val h2
  subst hr
  refine ha _ _ _ h1 σ V H ok _ fun v V' H' a k0 => ⟨b, R.isBool k0, ?_⟩
  cases b with
  | true =>
    rw [if_pos rfl]
    rw [if_pos rfl] at h3
    exact hb _ _ _ h3 σ V' H' a.ok _ fun v V2 H2 a2 k => q v V2 H2 (a.trans a2) (k.trans a)
  | false =>
    rw [if_neg Bool.false_ne_true]
    rw [if_neg Bool.false_ne_true] at h3
    cases h3
    exact q _ V' H' a (R.bool false)
theorem sd_or (ha : Sd K ta fa) (hb : Sd K tb fb) : Sd K (tOrV ta tb) (iOr fa fb) := by
  intro env res env' e σ V H ok Q q
  simp only [iOr, Option.bind_eq_some_iff] at e
  obtain ⟨⟨r, e1⟩, h1, b, h2, h3⟩ := e
  have hr : r = _ := isB_val h2
  subst hr
  refine ha _ _ _ h1 σ V H ok _ fun v V' H' a k0 => ⟨b, R.isBool k0, ?_⟩
  cases b with
  | true =>
    rw [if_pos rfl]
    rw [if_pos rfl] at h3
    cases h3
    exact q _ V' H' a (R.bool true)
  | false =>
    rw [if_neg Bool.false_ne_true]
    rw [if_neg Bool.false_ne_true] at h3
    exact hb _ _ _ h3 σ V' H' a.ok _ fun v V2 H2 a2 k => q v V2 H2 (a.trans a2) (k.trans a)
theorem sd_not (ha : Sd K ta fa) : Sd K (tNotV ta) (iNot fa) := by
  intro env res env' e σ V H ok Q q
  simp only [iNot, Option.bind_eq_some_iff] at e
  obtain ⟨⟨r, e1⟩, h1, b, h2, h3⟩ := e
  have hr : r = _ := isB_val h2
  subst hr
  cases h3
  exact ha _ _ _ h1 σ V H ok _ fun v V' H' a k0 => ⟨b, R.isBool k0, q _ V' H' a (R.bool _)⟩
theorem sd_if (hc : SdT K t f) (ha : Sd K ta fa) (hb : Sd K tb fb) : Sd K (tIf t ta tb) (iIf f fa fb) := by
  intro env res env' e σ V H ok Q q
  simp only [iIf, Option.bind_eq_some_iff] at e
  obtain ⟨⟨c, e1⟩, h1, h2⟩ := e
  refine hc _ _ _ h1 σ V H ok _ fun V' H' a => ?_
  cases c with
  | true =>
    rw [if_pos rfl]
    rw [if_pos rfl] at h2
    exact ha _ _ _ h2 σ V' H' a.ok _ fun v V2 H2 a2 k => q v V2 H2 (a.trans a2) (k.trans a)
  | false =>
    rw [if_neg Bool.false_ne_true]
    rw [if_neg Bool.false_ne_true] at h2
    exact hb _ _ _ h2 σ V' H' a.ok _ fun v V2 H2 a2 k => q v V2 H2 (a.trans a2) (k.trans a)
end
end DL

namespace DL
open PySem PySem.Spec PyProof.Rows L2
open Evl (Ex)

inductive Fl where
  | next (e : Nv)
  | ret (r : Res) (e : Nv)
  | brk (e : Nv)
  | cont (e : Nv)
abbrev StF := Nv → Option Fl
def FlQ (K : PySem.W.Frag) (σ : L2.St) (env : Nv) (V H : Hp) (E : Ends) : Fl → Prop
  | .next e => ∀ σ' V' H', Adv K σ env σ' e V H V' H' → E.nx σ' H'
  | .ret r e => ∀ v σ' V' H', Adv K σ env σ' e V H V' H' → ROk K σ env H V' H' σ' e v r → E.rt v H'
  | .brk e => ∀ σ' V' H', Adv K σ env σ' e V H V' H' → E.bk σ' H'
  | .cont e => ∀ σ' V' H', Adv K σ env σ' e V H V' H' → E.ct σ' H'
def SdS (K : PySem.W.Frag) (t : TS) (g : StF) : Prop := ∀ env fl, g env = some fl → ∀ (σ : L2.St) (V H : Hp), NvOk K V H σ env → ∀ E : Ends, FlQ K σ env V H E fl → t E σ H

section
variable {K : PySem.W.Frag} {σ σ1 σ2 : L2.St} {env env1 env2 : Nv} {V H V1 H1 V2 H2 : Hp} {v : L2.V} {te ta tb : TE} {E : Ends}
theorem ROk.trans2 {r : Res} {V' H' : Hp} (a : Adv K σ env σ1 env1 V H V1 H1) (h : ROk K σ1 env1 H1 V' H' σ2 env2 v r) : ROk K σ env H V' H' σ2 env2 v r := by
  cases r with
  | val d => exact h
  | own i => exact h
  | new d =>
    obtain ⟨l, e, h1, h2⟩ := h
    refine ⟨l, e, ?_, h2⟩
    rcases h1 with h1 | h1
    · cases q : H l with
      | none => exact .inl rfl
      | some o => exact absurd h1 (a.dom l (by rw [q]; exact fun z => by cases z))
    · exact (a.ownL l h1).elim .inr .inl
theorem FlQ.of {fl : Fl} (a : Adv K σ env σ1 env1 V H V1 H1) (h : FlQ K σ env V H E fl) : FlQ K σ1 env1 V1 H1 E fl := by
  cases fl with
  | next e => exact fun σ' V' H' b => h σ' V' H' (a.trans b)
  | ret r e => exact fun v σ' V' H' b k => h v σ' V' H' (a.trans b) (k.trans2 a)
  | brk e => exact fun σ' V' H' b => h σ' V' H' (a.trans b)
  | cont e => exact fun σ' V' H' b => h σ' V' H' (a.trans b)

/-! ### a slot is set -/
def setV (env : Nv) (i : Nat) (s : Sl) : Option Nv := match env[i]? with
  | none => none
  | some (.own true _) => none
  | some _ => some (env.set i s)
theorem setV_eq {i : Nat} {s : Sl} (h : setV env i s = some env2) : env2 = env.set i s ∧ i < env.length ∧ ∀ d, env[i]? ≠ some (.own true d) := by
  unfold setV at h
  split at h
  · cases h
  · cases h
  · rename_i x hne e
    cases h
    refine ⟨rfl, (List.getElem?_eq_some_iff.mp e).1, fun d z => ?_⟩
    rw [z] at e
    exact hne d (Option.some.inj e).symm
theorem adv_set {i : Nat} {s : Sl} (a : Adv K σ env σ1 env1 V H V1 H1) (e : setV env1 i s = some env2) (hs : SlOk K V1 H1 (some v) s)
    (ho : ∀ p d l, s = .own p d → v = .ref l → p = false ∧ (H l = none ∨ OwnL env σ l) ∧ ¬ Own env1 σ1 l) : Adv K σ env (σ1.set i (some v)) env2 V H V1 H1 := by
  obtain ⟨rfl, hi, hp⟩ := setV_eq e
  have hl : i < σ1.length := by rw [a.ok.len]; exact hi
  -- what is owned now
  have own1 : ∀ (j : Nat) (p : Bool) (d : D) (l : Addr), (env1.set i s)[j]? = some (.own p d) → (σ1.set i (some v))[j]? = some (some (.ref l)) → (j = i ∧ s = .own p d ∧ v = .ref l) ∨ (j ≠ i ∧ env1[j]? = some (.own p d) ∧ σ1[j]? = some (some (.ref l))) := by
    intro j p d l h1 h2
    by_cases q : j = i
    · subst q
      rw [List.getElem?_set_self hi] at h1
      rw [List.getElem?_set_self hl] at h2
      exact .inl ⟨rfl, Option.some.inj h1, Option.some.inj (Option.some.inj h2)⟩
    · rw [List.getElem?_set_ne (fun z => q z.symm)] at h1 h2
      exact .inr ⟨q, h1, h2⟩
  refine ⟨⟨?_, a.ok.sub, fun j o s' h1 h2 => ?_, fun j k p q d d' l h1 h2 h3 h4 => ?_, a.ok.tabs⟩, a.ex, a.fr, a.keep, a.tab, a.dom, fun l h => ?_, fun l h => ?_, fun j d h => ?_⟩
  · rw [List.length_set, List.length_set]; exact a.ok.len
  · by_cases q : j = i
    · subst q
      rw [List.getElem?_set_self hl] at h1
      rw [List.getElem?_set_self hi] at h2
      cases h1
      cases h2
      exact hs
    · rw [List.getElem?_set_ne (fun z => q z.symm)] at h1 h2
      exact a.ok.slot j o s' h1 h2
  · rcases own1 j p d l h1 h3 with ⟨e1, e2, e3⟩ | ⟨e1, e2, e3⟩ <;> rcases own1 k q d' l h2 h4 with ⟨f1, f2, f3⟩ | ⟨f1, f2, f3⟩
    · rw [e1, f1]
    · exact absurd ⟨k, q, d', f2, f3⟩ (ho p d l e2 e3).2.2
    · exact absurd ⟨j, p, d, e2, e3⟩ (ho q d' l f2 f3).2.2
    · exact a.ok.one j k p q d d' l e2 f2 e3 f3
  · obtain ⟨j, p, d, h1, h2⟩ := h
    rcases own1 j p d l h1 h2 with ⟨e1, e2, e3⟩ | ⟨e1, e2, e3⟩
    · exact (ho p d l e2 e3).2.1.elim .inr fun z => .inl z.own
    · exact a.own l ⟨j, p, d, e2, e3⟩
  · obtain ⟨j, d, h1, h2⟩ := h
    rcases own1 j false d l h1 h2 with ⟨e1, e2, e3⟩ | ⟨e1, e2, e3⟩
    · exact (ho false d l e2 e3).2.1.elim .inr .inl
    · exact a.ownL l ⟨j, d, e2, e3⟩
  · obtain ⟨⟨d', h1⟩, h2⟩ := a.par j d h
    have q : j ≠ i := fun z => hp d' (z ▸ h1)
    rw [List.getElem?_set_ne (fun z => q z.symm), List.getElem?_set_ne (fun z => q z.symm)]
    exact ⟨⟨d', h1⟩, h2⟩
/-- a slot is forgotten -/
theorem adv_no {i : Nat} {s0 : Sl} (a : Adv K σ env σ1 env1 V H V1 H1) (e : env1[i]? = some s0) (hp : ∀ d, s0 ≠ .own true d) : Adv K σ env σ1 (env1.set i .no) V H V1 H1 := by
  have hi := (List.getElem?_eq_some_iff.mp e).1
  have own1 : ∀ (j : Nat) (p : Bool) (d : D), (env1.set i .no)[j]? = some (.own p d) → j ≠ i ∧ env1[j]? = some (.own p d) := by
    intro j p d h1
    by_cases q : j = i
    · subst q
      rw [List.getElem?_set_self hi] at h1
      cases h1
    · rw [List.getElem?_set_ne (fun z => q z.symm)] at h1
      exact ⟨q, h1⟩
  refine ⟨⟨?_, a.ok.sub, fun j o s' h1 h2 => ?_, fun j k p q d d' l h1 h2 h3 h4 => a.ok.one j k p q d d' l (own1 _ _ _ h1).2 (own1 _ _ _ h2).2 h3 h4, a.ok.tabs⟩, a.ex, a.fr, a.keep, a.tab, a.dom, fun l h => ?_, fun l h => ?_, fun j d h => ?_⟩
  · rw [List.length_set]; exact a.ok.len
  · by_cases q : j = i
    · subst q
      rw [List.getElem?_set_self hi] at h2
      cases h2
      cases o <;> trivial
    · rw [List.getElem?_set_ne (fun z => q z.symm)] at h2
      exact a.ok.slot j o s' h1 h2
  · obtain ⟨j, p, d, h1, h2⟩ := h
    exact a.own l ⟨j, p, d, (own1 _ _ _ h1).2, h2⟩
  · obtain ⟨j, d, h1, h2⟩ := h
    exact a.ownL l ⟨j, d, (own1 _ _ _ h1).2, h2⟩
  · obtain ⟨⟨d', h1⟩, h2⟩ := a.par j d h
    have q : j ≠ i := fun z => by
      subst z
      rw [e] at h1
      exact hp d' (Option.some.inj h1)
    rw [List.getElem?_set_ne (fun z => q z.symm)]
    exact ⟨⟨d', h1⟩, h2⟩

/-! ### statements -/
def iNext : StF := fun env => some (.next env)
theorem sds_next : SdS K tNext iNext := by
  intro env fl e σ V H ok E q
  cases e
  exact q σ V H (Adv.refl ok)
def iSeq (f g : StF) : StF := fun env => match f env with
  | some (.next e) => g e
  | r => r
variable {t u : TS} {f g : StF}
theorem sds_seq (ha : SdS K t f) (hb : SdS K u g) : SdS K (tSeq t u) (iSeq f g) := by
  intro env fl e σ V H ok E q
  show t { E with nx := u E } σ H
  unfold iSeq at e
  cases hf : f env with
  | none => rw [hf] at e; cases e
  | some fl1 =>
    rw [hf] at e
    refine ha _ _ hf σ V H ok _ ?_
    cases fl1 with
    | next e1 =>
      intro σ' V' H' a
      exact hb _ _ e σ' V' H' a.ok E (q.of a)
    | ret r e1 => cases e; exact q
    | brk e1 => cases e; exact q
    | cont e1 => cases e; exact q
/-- a target: what it makes of the slots -/
abbrev TgF := Nv → D → Option Nv
def SdG (K : PySem.W.Frag) (t : TG) (g : TgF) : Prop := ∀ env d env', g env d = some env' → ∀ (σ : L2.St) (V H : Hp) (v : L2.V), NvOk K V H σ env → R K V v d →
  ∀ Q : L2.St → Hp → Prop, (∀ σ', Adv K σ env σ' env' V H V H → Q σ' H) → t v σ H Q
def iNm (i : Nat) : TgF := fun env d => setV env i (.val d)
theorem sdg_name (i : Nat) : SdG K (gName i) (iNm i) := by
  intro env d env' e σ V H v ok r Q q
  exact q _ (adv_set (Adv.refl ok) e r fun p d l z => by cases z)
abbrev TgsF := Nv → List D → Option Nv
def SdGs (K : PySem.W.Frag) (t : TGs) (g : TgsF) : Prop := ∀ env ds env', g env ds = some env' → ∀ (σ : L2.St) (V H : Hp) (vs : List L2.V), NvOk K V H σ env → RA K V vs ds →
  ∀ Q : L2.St → Hp → Prop, (∀ σ', Adv K σ env σ' env' V H V H → Q σ' H) → t vs σ H Q
def iGN : TgsF := fun env ds => match ds with
  | [] => some env
  | _ => none
def iGC (g : TgF) (gs : TgsF) : TgsF := fun env ds => match ds with
  | [] => none
  | d :: ds => (g env d).bind fun e => gs e ds
theorem sdgs_nil : SdGs K gNil iGN := by
  intro env ds env' e σ V H vs ok r Q q
  cases r with
  | nil => cases e; exact ⟨rfl, q σ (Adv.refl ok)⟩
  | cons _ _ => cases e
theorem sdgs_cons {t : TG} {ts : TGs} {g : TgF} {gs : TgsF} (h1 : SdG K t g) (h2 : SdGs K ts gs) : SdGs K (gCons t ts) (iGC g gs) := by
  intro env ds env' e σ V H vs ok r Q q
  cases r with
  | nil => cases e
  | @cons v vs d ds ra rb =>
    simp only [iGC, Option.bind_eq_some_iff] at e
    obtain ⟨e1, k1, k2⟩ := e
    exact ⟨v, vs, rfl, h1 _ _ _ k1 σ V H v ok ra _ fun σ' a => h2 _ _ _ k2 σ' V H vs a.ok rb Q fun σ2 a2 => q σ2 (a.trans a2)⟩
def gBoth (K : PySem.W.Frag) (n : Nat) (t : TGs) : TG := fun v σ H Q => gTup K n t v σ H Q ∨ gLst K n t v σ H Q
def iGT (gs : TgsF) (n : Nat) : TgF := fun env d => match d with
  | .tuple ds => if ds.length = n then gs env ds else none
  | .list ds => if ds.length = n then gs env ds else none
  | _ => none
theorem sdg_tup {ts : TGs} {gs : TgsF} {n : Nat} (h : SdGs K ts gs) : SdG K (gBoth K n ts) (iGT gs n) := by
  intro env d env' e σ V H v ok r Q q
  cases d with
  | tuple ds =>
    simp only [iGT] at e
    split at e
    · rename_i hn
      cases r with
      | @tuple a xs _ hs ha => exact .inl ⟨a, xs, rfl, Evl.ex_t ok.sub hs.sq, by rw [ha.len]; exact hn, h _ _ _ e σ V H xs ok ha Q q⟩
    · cases e
  | list ds =>
    simp only [iGT] at e
    split at e
    · rename_i hn
      cases r with
      | @list a xs _ hs ha => exact .inr ⟨a, xs, rfl, Evl.ex_l ok.sub hs, by rw [ha.len]; exact hn, h _ _ _ e σ V H xs ok ha Q q⟩
    · cases e
  | _ => cases e
theorem pg_both {X : Cx} {es : List Expr} {c n : Nat} {t : TGs} {pos : Pos} (hc : X.calm = true) (h : PGs X es t) (hn : (assignEach es X.env).length = n) (hst : (assignEach es X.env).findIdx? (·.1) = none) : PG X (.Tuple es c pos) (gBoth X.K n t) := by
  constructor
  intro pins s σ H v u Q I r hw
  rcases hw with hw | hw
  · exact (pg_tup hc h hn hst).run pins s σ H v u Q I r hw
  · exact (pg_lst hc h hn hst).run pins s σ H v u Q I r hw
/-- x = e: ow: the slot owns what is new -/
def iAsg (ow : Bool) (i : Nat) (f : EvF) : StF := fun env => (f env).bind fun p => match p.1 with
  | .val d => (setV p.2 i (.val d)).bind fun e => some (.next e)
  | .new d => (setV p.2 i (if ow then .own false d else .val d)).bind fun e => some (.next e)
  | .own _ => none
theorem sds_asg {ow : Bool} {i : Nat} {f : EvF} (ha : Sd K te f) : SdS K (tAsg te (gName i)) (iAsg ow i f) := by
  intro env fl e σ V H ok E q
  simp only [iAsg, Option.bind_eq_some_iff] at e
  obtain ⟨⟨r, e1⟩, h1, h2⟩ := e
  refine ha _ _ _ h1 σ V H ok _ fun v V' H' a k => ?_
  show E.nx (σ.set i (some v)) H'
  cases r with
  | val d =>
    simp only [Option.bind_eq_some_iff] at h2
    obtain ⟨e2, h3, h4⟩ := h2
    cases h4
    exact q _ V' H' (adv_set a h3 k fun p d l z => by cases z)
  | own j => cases h2
  | new d =>
    simp only [Option.bind_eq_some_iff] at h2
    obtain ⟨e2, h3, h4⟩ := h2
    cases h4
    obtain ⟨l, rfl, k1, k2, k3, k4⟩ := k
    cases ow with
    | true =>
      exact q _ V' H' (adv_set a h3 (show SlOk K V' H' (some (.ref l)) (.own false d) from ⟨l, rfl, k2, k4⟩) fun p d' l' z z2 => by
        cases z
        cases z2
        exact ⟨rfl, k1, k3⟩)
    | false =>
      obtain ⟨V2, a2, r2⟩ := a.show k1 k2 k3 k4
      exact q _ V2 H' (adv_set a2 h3 r2 fun p d l z => by cases z)
/-- target = e, the target a tuple of names -/
def iAsgT (g : TgF) (f : EvF) : StF := fun env => (opd f env).bind fun p => (vis p.1).bind fun d => (g p.2 d).bind fun e => some (.next e)
theorem sds_asgT {tg : TG} {g : TgF} {f : EvF} (hg : SdG K tg g) (ha : Sd K te f) : SdS K (tAsg te tg) (iAsgT g f) := by
  intro env fl e σ V H ok E q
  simp only [iAsgT, Option.bind_eq_some_iff] at e
  obtain ⟨⟨r, e1⟩, h1, d, h2, e2, h3, h4⟩ := e
  cases h4
  refine opd_snd ha h1 ok fun v V' H' a k => ?_
  have r0 : R K V' v d := by
    cases r with
    | val d' => cases h2; exact k
    | new d' => exact k.elim
    | own j => cases h2
  exact hg _ _ _ h3 σ V' H' v a.ok r0 _ fun σ' a2 => q _ _ _ (a.trans a2)
def iIfS (c : EvT) (f g : StF) : StF := fun env => (c env).bind fun p => if p.1 = true then f p.2 else g p.2
theorem sds_if {tc : TT} {c : EvT} (hc : SdT K tc c) (ha : SdS K t f) (hb : SdS K u g) : SdS K (tIfS tc t u) (iIfS c f g) := by
  intro env fl e σ V H ok E q
  simp only [iIfS, Option.bind_eq_some_iff] at e
  obtain ⟨⟨b, e1⟩, h1, h2⟩ := e
  refine hc _ _ _ h1 σ V H ok _ fun V' H' a => ?_
  cases b with
  | true =>
    rw [if_pos rfl]
    rw [if_pos rfl] at h2
    exact ha _ _ h2 σ V' H' a.ok E (q.of a)
  | false =>
    rw [if_neg Bool.false_ne_true]
    rw [if_neg Bool.false_ne_true] at h2
    exact hb _ _ h2 σ V' H' a.ok E (q.of a)
def iRet (f : EvF) : StF := fun env => (f env).bind fun p => match p.1 with
  | .val d => some (.ret (.val d) p.2)
  | .new d => some (.ret (.new d) p.2)
  | .own i => match p.2[i]? with
    | some (.own false d) => some (.ret (.new d) (p.2.set i .no))
    | _ => none
theorem sds_ret {f : EvF} (ha : Sd K te f) : SdS K (tRet te) (iRet f) := by
  intro env fl e σ V H ok E q
  simp only [iRet, Option.bind_eq_some_iff] at e
  obtain ⟨⟨r, e1⟩, h1, h2⟩ := e
  refine ha _ _ _ h1 σ V H ok _ fun v V' H' a k => ?_
  cases r with
  | val d => cases h2; exact q v σ V' H' a k
  | new d => cases h2; exact q v σ V' H' a k
  | own i =>
    have h2' : (match e1[i]? with
      | some (.own false d) => some (Fl.ret (.new d) (e1.set i .no))
      | _ => none) = some fl := h2
    cases hs : e1[i]? with
    | none => rw [hs] at h2'; cases h2'
    | some s =>
      rw [hs] at h2'
      cases s with
      | no => cases h2'
      | val _ => cases h2'
      | own p d =>
        cases p with
        | true => cases h2'
        | false =>
          cases h2'
          obtain ⟨l, g1, g2, g3⟩ := a.ok.ownC hs
          have kv : σ[i]? = some (some v) := k.1
          rw [g1] at kv
          cases kv
          have ol : OwnL e1 σ l := ⟨i, d, hs, g1⟩
          have hi := (List.getElem?_eq_some_iff.mp hs).1
          refine q _ σ V' H' (adv_no a hs fun d z => by cases z) ⟨l, rfl, (a.ownL l ol).elim .inr .inl, g2, ?_, g3⟩
          rintro ⟨j, p, d', z1, z2⟩
          by_cases qj : j = i
          · subst qj
            rw [List.getElem?_set_self hi] at z1
            cases z1
          · rw [List.getElem?_set_ne (fun z => qj z.symm)] at z1
            exact qj (a.ok.one j i p false d' d l z1 hs z2 g1)
def iRetN : StF := fun env => some (.ret (.val .none) env)
theorem sds_retN : SdS K tRetN iRetN := by
  intro env fl e σ V H ok E q
  cases e
  exact q .non σ V H (Adv.refl ok) .none
def iDrop (f : EvF) : StF := fun env => (f env).bind fun p => some (.next p.2)
theorem sds_drop {f : EvF} (ha : Sd K te f) : SdS K (tDrop te) (iDrop f) := by
  intro env fl e σ V H ok E q
  simp only [iDrop, Option.bind_eq_some_iff] at e
  obtain ⟨⟨r, e1⟩, h1, h2⟩ := e
  cases h2
  exact ha _ _ _ h1 σ V H ok _ fun v V' H' a k => q σ V' H' a
def iBrk : StF := fun env => some (.brk env)
def iCont : StF := fun env => some (.cont env)
theorem sds_brk : SdS K tBreak iBrk := by
  intro env fl e σ V H ok E q
  cases e
  exact q σ V H (Adv.refl ok)
theorem sds_cont : SdS K tCont iCont := by
  intro env fl e σ V H ok E q
  cases e
  exact q σ V H (Adv.refl ok)
/-- x op= e on ints -/
def iAug (i : Nat) (h : Int → Int → Int) (f : EvF) : StF := fun env => match env[i]? with
  | some (.val (.int a)) => (f env).bind fun p => match p.1 with
    | .val (.int b) => (setV p.2 i (.val (.int (h a b)))).bind fun e => some (.next e)
    | _ => none
  | _ => none
theorem sds_aug {i : Nat} {h : Int → Int → Int} {f : EvF} (ha : Sd K te f) : SdS K (tAug i te (ipI h)) (iAug i h f) := by
  intro env fl e σ V H ok E q
  unfold iAug at e
  split at e
  · rename_i x hx
    obtain ⟨w, hw, rw0⟩ := ok.val hx
    cases rw0
    refine ⟨_, hw, ?_⟩
    simp only [Option.bind_eq_some_iff] at e
    obtain ⟨⟨r, e1⟩, h1, h2⟩ := e
    refine ha _ _ _ h1 σ V H ok _ fun v V' H' a k => ?_
    split at h2
    · rename_i b hb
      have hb' : r = .val (.int b) := hb
      subst hb'
      cases k
      simp only [Option.bind_eq_some_iff] at h2
      obtain ⟨e2, h3, h4⟩ := h2
      cases h4
      exact ⟨_, _, rfl, rfl, q _ V' H' (adv_set a h3 (show SlOk K V' H' (some (.int (h x b))) (.val (.int (h x b))) from R.int _) fun p d l z => by cases z)⟩
    · cases h2
  · cases e

/-! ### loops -/
def floop (tg : TgF) (body : StF) : List D → Nv → Option Fl
  | [], env => some (.next env)
  | d :: ds, env => (tg env d).bind fun e1 => match body e1 with
    | some (.next e2) => floop tg body ds e2
    | some (.cont e2) => floop tg body ds e2
    | some (.brk e2) => some (.next e2)
    | some (.ret r e2) => some (.ret r e2)
    | none => none
/-- what a loop walks: the items are visible -/
def Mk (K : PySem.W.Frag) (J : It) (σ : L2.St) (V H : Hp) (ds : List D) : Prop :=
  ∀ (g : TG) (tb : TS) (E : Ends) (Pv : Nat → L2.St → Hp → Hp → Prop), Pv 0 σ V H → (∀ i σ1 V1 H1, Pv i σ1 V1 H1 → Ex V V1 ∧ Ex V1 H1) →
    (∀ i d σ1 V1 H1, ds[i]? = some d → Pv i σ1 V1 H1 → ∀ x V2 H2, Al V1 H1 V2 H2 → R K V2 x d →
      g x σ1 H2 fun σ2 H2 => tb { E with nx := fun σ' H' => ∃ V', Pv (i + 1) σ' V' H', ct := fun σ' H' => ∃ V', Pv (i + 1) σ' V' H', bk := E.nx } σ2 H2) →
    (∀ σ1 V1 H1, Pv ds.length σ1 V1 H1 → E.nx σ1 H1) →
    ∃ W : Nat → Nat → L2.St → Hp → Prop, (∃ m, W 0 m σ H) ∧ ∀ i m σ H, W i m σ H →
      (J.stop i H ∧ E.nx σ H) ∨ (J.go i H ∧ ∃ N : L2.St → Hp → Prop, (∀ σ' H', N σ' H' → ∃ m', m' < m ∧ W (i + 1) m' σ' H') ∧ ∀ x H', J.yld i H x H' → g x σ H' fun σ2 H2 => tb { E with nx := N, ct := N, bk := E.nx } σ2 H2)
/-- .. in a comprehension -/
def MkC (K : PySem.W.Frag) (J : It) (σ : L2.St) (V H : Hp) (ds : List D) : Prop :=
  ∀ (g : TG) (tt : TT) (te : TE) (vs : List Nat) (Dl : Addr) (Pv : Nat → Hp → Hp → Prop) (Qd : Hp → Prop), Pv 0 V (upd H Dl (.lst [])) → (∀ i V1 H1, Pv i V1 H1 → Ex V V1 ∧ Ex V1 H1) →
    (∀ i d V1 H1, ds[i]? = some d → Pv i V1 H1 → ∀ x V2 H2, Al V1 H1 V2 H2 → R K V2 x d → g x (wipe σ vs) H2 fun σ2 H2 => wipe σ2 vs = wipe σ vs ∧ tt σ2 H2 fun b H3 =>
      if b = true then te σ2 H3 fun y H4 => ∃ acc, H4 Dl = some (.lst acc) ∧ acc.length < sizeLine ∧ ∃ V', Pv (i + 1) V' (upd H4 Dl (.lst (acc ++ [y]))) else ∃ V', Pv (i + 1) V' H3) →
    (∀ V1 H1, Pv ds.length V1 H1 → Qd H1) →
    ∃ W : Nat → Nat → Hp → Prop, (∃ m, W 0 m (upd H Dl (.lst []))) ∧ ∀ i m H, W i m H →
      (J.stop i H ∧ Qd H) ∨ (J.go i H ∧ ∃ Nx : Hp → Prop, (∀ H', Nx H' → ∃ m', m' < m ∧ W (i + 1) m' H') ∧ ∀ x H', J.yld i H x H' → g x (wipe σ vs) H' fun σ2 H2 => wipe σ2 vs = wipe σ vs ∧ tt σ2 H2 fun b H3 =>
        if b = true then te σ2 H3 fun y H4 => ∃ acc, H4 Dl = some (.lst acc) ∧ acc.length < sizeLine ∧ Nx (upd H4 Dl (.lst (acc ++ [y]))) else Nx H3)
abbrev ItF := Nv → Option (List D × Nv)
def SdI (K : PySem.W.Frag) (wi : TI) (f : ItF) : Prop := ∀ env ds env', f env = some (ds, env') → ∀ (σ : L2.St) (V H : Hp), NvOk K V H σ env →
  ∀ Rr : It → Hp → Prop, (∀ J V' H', Adv K σ env σ env' V H V' H' → Mk K J σ V' H' ds ∧ MkC K J σ V' H' ds → Rr J H') → wi σ H Rr
def iFor (it : ItF) (g : TgF) (body : StF) : StF := fun env => (it env).bind fun p => floop g body p.1 p.2
theorem sds_for {wi : TI} {it : ItF} {tg : TG} {gt : TgF} {tb : TS} {body : StF} (hi : SdI K wi it) (hg : SdG K tg gt) (hb : SdS K tb body) : SdS K (tFor wi tg tb) (iFor it gt body) := by
  intro env fl e σ V H ok E q
  simp only [iFor, Option.bind_eq_some_iff] at e
  obtain ⟨⟨ds, e1⟩, h1, h2⟩ := e
  refine hi _ _ _ h1 σ V H ok _ fun J V' H' a mk => ?_
  have q' := q.of a
  replace mk := mk.1
  refine mk tg tb E (fun i σ1 V1 H1 => ∃ env', Adv K σ e1 σ1 env' V' H' V1 H1 ∧ floop gt body (ds.drop i) env' = some fl) ⟨e1, Adv.refl a.ok, h2⟩ (fun i σ1 V1 H1 ⟨env', b, _⟩ => ⟨b.ex, b.ok.sub⟩) ?_ ?_
  · intro i d σ1 V1 H1 hd ⟨env', b, hf⟩ x V2 H2 al r
    have e0 : ds.drop i = d :: ds.drop (i + 1) := by
      obtain ⟨hlt, rfl⟩ := List.getElem?_eq_some_iff.mp hd
      exact List.drop_eq_getElem_cons hlt
    rw [e0] at hf
    have b2 := b.trans (al.adv b.ok)
    simp only [floop, Option.bind_eq_some_iff] at hf
    obtain ⟨e2, g1, g2⟩ := hf
    refine hg _ _ _ g1 σ1 V2 H2 x b2.ok r _ fun σ2 a2 => ?_
    have a3 := b2.trans a2
    cases hbo : body e2 with
    | none => rw [hbo] at g2; cases g2
    | some fl1 =>
      rw [hbo] at g2
      refine hb _ _ hbo σ2 V2 H2 a3.ok _ ?_
      cases fl1 with
      | next e3 => exact fun σ' V' H' c => ⟨V', e3, a3.trans c, g2⟩
      | cont e3 => exact fun σ' V' H' c => ⟨V', e3, a3.trans c, g2⟩
      | brk e3 => cases g2; exact fun σ' V' H' c => q' σ' V' H' (a3.trans c)
      | ret r2 e3 => cases g2; exact fun v σ' V' H' c k => q' v σ' V' H' (a3.trans c) (k.trans2 a3)
  · intro σ1 V1 H1 ⟨env', b, hf⟩
    rw [List.drop_length] at hf
    cases hf
    exact q' σ1 V1 H1 b
theorem mk_list {a : Addr} {xs : List L2.V} {ds : List D} (hs : SqL K V a xs) (r : RA K V xs ds) : Mk K (Itl K a) σ V H ds := by
  intro g tb E Pv h0 hx hi hd
  refine for_list (xs := xs) (fun i σ1 H1 => ∃ V1, Pv i σ1 V1 H1) ⟨V, h0⟩ (fun i σ1 H1 _ ⟨V1, p⟩ => ?_) (fun i x σ1 H1 hxi ⟨V1, p⟩ => ?_) (fun σ1 H1 ⟨V1, p⟩ => ?_)
  · obtain ⟨p1, p2⟩ := hx i σ1 V1 H1 p
    exact Evl.ex_l (p1.trans p2) hs
  · obtain ⟨p1, p2⟩ := hx i σ1 V1 H1 p
    obtain ⟨d, hdi, rd⟩ := r.getV hxi
    exact hi i d σ1 V1 H1 hdi p x V1 H1 (Al.refl p2) (R.mono p1 _ _ rd)
  · rw [r.len] at p
    exact hd σ1 V1 H1 p
theorem mk_tup {a : Addr} {xs : List L2.V} {ds : List D} (hs : SqT K V a xs) (r : RA K V xs ds) : Mk K (Itt K a) σ V H ds := by
  intro g tb E Pv h0 hx hi hd
  refine for_tup (xs := xs) (fun i σ1 H1 => ∃ V1, Pv i σ1 V1 H1) ⟨V, h0⟩ (fun i σ1 H1 _ ⟨V1, p⟩ => ?_) (fun i x σ1 H1 hxi ⟨V1, p⟩ => ?_) (fun σ1 H1 ⟨V1, p⟩ => ?_)
  · obtain ⟨p1, p2⟩ := hx i σ1 V1 H1 p
    exact Evl.ex_t (p1.trans p2) hs
  · obtain ⟨p1, p2⟩ := hx i σ1 V1 H1 p
    obtain ⟨d, hdi, rd⟩ := r.getV hxi
    exact hi i d σ1 V1 H1 hdi p x V1 H1 (Al.refl p2) (R.mono p1 _ _ rd)
  · rw [r.len] at p
    exact hd σ1 V1 H1 p
theorem mkc_list {a : Addr} {xs : List L2.V} {ds : List D} (hs : SqL K V a xs) (r : RA K V xs ds) : MkC K (Itl K a) σ V H ds := by
  intro g tt te vs Dl Pv Qd h0 hx hi hd
  refine lc_list (xs := xs) (fun i H1 => ∃ V1, Pv i V1 H1) ⟨V, h0⟩ (fun i H1 _ ⟨V1, p⟩ => ?_) (fun i x H1 hxi ⟨V1, p⟩ => ?_) (fun H1 ⟨V1, p⟩ => ?_)
  · obtain ⟨p1, p2⟩ := hx i V1 H1 p
    exact Evl.ex_l (p1.trans p2) hs
  · obtain ⟨p1, p2⟩ := hx i V1 H1 p
    obtain ⟨d, hdi, rd⟩ := r.getV hxi
    exact hi i d V1 H1 hdi p x V1 H1 (Al.refl p2) (R.mono p1 _ _ rd)
  · rw [r.len] at p
    exact hd V1 H1 p
theorem mkc_tup {a : Addr} {xs : List L2.V} {ds : List D} (hs : SqT K V a xs) (r : RA K V xs ds) : MkC K (Itt K a) σ V H ds := by
  intro g tt te vs Dl Pv Qd h0 hx hi hd
  refine lc_tup (xs := xs) (fun i H1 => ∃ V1, Pv i V1 H1) ⟨V, h0⟩ (fun i H1 _ ⟨V1, p⟩ => ?_) (fun i x H1 hxi ⟨V1, p⟩ => ?_) (fun H1 ⟨V1, p⟩ => ?_)
  · obtain ⟨p1, p2⟩ := hx i V1 H1 p
    exact Evl.ex_t (p1.trans p2) hs
  · obtain ⟨p1, p2⟩ := hx i V1 H1 p
    obtain ⟨d, hdi, rd⟩ := r.getV hxi
    exact hi i d V1 H1 hdi p x V1 H1 (Al.refl p2) (R.mono p1 _ _ rd)
  · rw [r.len] at p
    exact hd V1 H1 p
def rngD (lo : Int) (n : Nat) : List D := (List.range n).map fun (k : Nat) => D.int (lo + (k : Int))
theorem rngD_len (lo : Int) (n : Nat) : (rngD lo n).length = n := by unfold rngD; rw [List.length_map, List.length_range]
theorem rngD_get {lo : Int} {n i : Nat} (h : i < n) : (rngD lo n)[i]? = some (.int (lo + (i : Int))) := by
  unfold rngD
  rw [List.getElem?_map, List.getElem?_range h]
  rfl
theorem mk_rng {lo : Int} {n : Nat} : Mk K (Itr lo n) σ V H (rngD lo n) := by
  intro g tb E Pv h0 hx hi hd
  refine for_range (lo := lo) (n := n) (fun i σ1 H1 => ∃ V1, Pv i σ1 V1 H1) ⟨V, h0⟩ (fun i σ1 H1 hin ⟨V1, p⟩ => ?_) (fun σ1 H1 ⟨V1, p⟩ => ?_)
  · obtain ⟨p1, p2⟩ := hx i σ1 V1 H1 p
    exact hi i _ σ1 V1 H1 (rngD_get hin) p _ V1 H1 (Al.refl p2) (R.int _)
  · rw [rngD_len] at hd
    exact hd σ1 V1 H1 p
theorem mkc_rng {lo : Int} {n : Nat} : MkC K (Itr lo n) σ V H (rngD lo n) := by
  intro g tt te vs Dl Pv Qd h0 hx hi hd
  refine lc_range (lo := lo) (n := n) (fun i H1 => ∃ V1, Pv i V1 H1) ⟨V, h0⟩ (fun i H1 hin ⟨V1, p⟩ => ?_) (fun H1 ⟨V1, p⟩ => ?_)
  · obtain ⟨p1, p2⟩ := hx i V1 H1 p
    exact hi i _ V1 H1 (rngD_get hin) p _ V1 H1 (Al.refl p2) (R.int _)
  · rw [rngD_len] at hd
    exact hd V1 H1 p
/-- a list or a tuple -/
def iOr2 (w1 w2 : TI) : TI := fun σ H R => w1 σ H R ∨ w2 σ H R
def iSeqI (f : EvF) : ItF := fun env => (opd f env).bind fun p => (vis p.1).bind fun d => match d with
  | .list ds => some (ds, p.2)
  | .tuple ds => some (ds, p.2)
  | _ => none
/-- a list or a tuple, whichever it is: the reading -/
def iSq (K : PySem.W.Frag) (tl : TE) : TI := fun σ H R => tl σ H fun x H1 => ∃ a, x = .ref a ∧ (((∃ xs, SqL K H1 a xs) ∧ R (Itl K a) H1) ∨ ((∃ xs, SqT K H1 a xs) ∧ R (Itt K a) H1))
theorem sdi_seq {f : EvF} (ha : Sd K te f) : SdI K (iSq K te) (iSeqI f) := by
  intro env ds env' e σ V H ok Rr q
  simp only [iSeqI, Option.bind_eq_some_iff] at e
  obtain ⟨⟨r, e1⟩, h1, d, h2, h3⟩ := e
  refine opd_snd ha h1 ok fun v V' H' a k => ?_
  have r0 : R K V' v d := by
    cases r with
    | val d' => cases h2; exact k
    | new d' => exact k.elim
    | own j => cases h2
  cases d with
  | list es =>
    cases h3
    cases r0 with
    | @list p xs _ hs hr => exact ⟨p, rfl, .inl ⟨⟨xs, Evl.ex_l a.ok.sub hs⟩, q _ V' H' a ⟨mk_list hs hr, mkc_list hs hr⟩⟩⟩
  | tuple es =>
    cases h3
    cases r0 with
    | @tuple p xs _ hs hr => exact ⟨p, rfl, .inr ⟨⟨xs, Evl.ex_t a.ok.sub hs.sq⟩, q _ V' H' a ⟨mk_tup hs.sq hr, mkc_tup hs.sq hr⟩⟩⟩
  | _ => cases h3
def smR (n : Int) : Bool := decide (-1000000000 ≤ n) && decide (n ≤ 1000000000)
theorem smR_in {n : Int} (h : smR n = true) : -(2 ^ 62) ≤ n ∧ n < 2 ^ 62 := by
  simp only [smR, Bool.and_eq_true, decide_eq_true_eq] at h
  omega
def iR1 (fs : EvA) : ItF := fun env => (fs env).bind fun p => match p.1 with
  | [.val (.int n)] => if smR n = true then some (rngD 0 n.toNat, p.2) else none
  | _ => none
theorem sdi_r1 {t : TA} {fs : EvA} (ha : SdA K t fs) : SdI K (iRng1 t) (iR1 fs) := by
  intro env ds env' e σ V H ok Rr q
  simp only [iR1, Option.bind_eq_some_iff] at e
  obtain ⟨⟨r, e1⟩, h1, h3⟩ := e
  refine ha _ _ _ h1 σ V H ok _ fun vs V' H' a k => ?_
  split at h3
  · rename_i n hn
    have hn' : r = [.val (.int n)] := hn
    subst hn'
    split at h3
    · rename_i hb
      cases h3
      cases k with
      | cons k1 k2 =>
        cases k1
        cases k2
        exact ⟨n, rfl, (smR_in hb).1, (smR_in hb).2, q _ V' H' a ⟨mk_rng, mkc_rng⟩⟩
    · cases h3
  · cases h3
def iR2 (fs : EvA) : ItF := fun env => (fs env).bind fun p => match p.1 with
  | [.val (.int m), .val (.int n)] => if smR m = true ∧ smR n = true then some (rngD m (n - m).toNat, p.2) else none
  | _ => none
theorem sdi_r2 {t : TA} {fs : EvA} (ha : SdA K t fs) : SdI K (iRng2 t) (iR2 fs) := by
  intro env ds env' e σ V H ok Rr q
  simp only [iR2, Option.bind_eq_some_iff] at e
  obtain ⟨⟨r, e1⟩, h1, h3⟩ := e
  refine ha _ _ _ h1 σ V H ok _ fun vs V' H' a k => ?_
  split at h3
  · rename_i m n hn
    have hn' : r = [.val (.int m), .val (.int n)] := hn
    subst hn'
    split at h3
    · rename_i hb
      cases h3
      cases k with
      | cons k1 k2 =>
        cases k1
        cases k2 with
        | cons k2 k3 =>
          cases k2
          cases k3
          exact ⟨m, n, rfl, ⟨(smR_in hb.1).1, (smR_in hb.1).2, (smR_in hb.2).1, (smR_in hb.2).2⟩, q _ V' H' a ⟨mk_rng, mkc_rng⟩⟩
    · cases h3
  · cases h3
/-- while, at most n turns -/
def wloop (c : EvT) (body : StF) : Nat → StF
  | 0, _ => none
  | n + 1, env => (c env).bind fun p => if p.1 = true then match body p.2 with
      | some (.next e2) => wloop c body n e2
      | some (.cont e2) => wloop c body n e2
      | some (.brk e2) => some (.next e2)
      | some (.ret r e2) => some (.ret r e2)
      | none => none
    else some (.next p.2)
theorem sds_while {tc : TT} {tb : TS} {c : EvT} {body : StF} (n : Nat) (hc : SdT K tc c) (hb : SdS K tb body) : SdS K (tWhile tc tb) (wloop c body n) := by
  intro env fl e σ V H ok E q
  refine ⟨fun m σ1 H1 => ∃ env1 V1, Adv K σ env σ1 env1 V H V1 H1 ∧ wloop c body m env1 = some fl, ⟨n, env, V, Adv.refl ok, e⟩, fun m σ1 H1 ⟨env1, V1, a, hw⟩ => ?_⟩
  cases m with
  | zero => cases hw
  | succ m =>
    simp only [wloop, Option.bind_eq_some_iff] at hw
    obtain ⟨⟨b, e2⟩, h1, h2⟩ := hw
    refine hc _ _ _ h1 σ1 V1 H1 a.ok _ fun V2 H2 a2 => ?_
    have a3 := a.trans a2
    cases b with
    | false =>
      rw [if_neg Bool.false_ne_true]
      rw [if_neg Bool.false_ne_true] at h2
      cases h2
      exact q σ1 V2 H2 a3
    | true =>
      rw [if_pos rfl]
      rw [if_pos rfl] at h2
      refine ⟨fun σ' H' => ∃ env1 V1, Adv K σ env σ' env1 V H V1 H' ∧ wloop c body m env1 = some fl, fun σ' H' ⟨e', V', b', w'⟩ => ⟨m, Nat.lt_succ_self m, e', V', b', w'⟩, ?_⟩
      cases hbo : body e2 with
      | none =>
        have h2' : (match body e2 with
          | some (.next e2) => wloop c body m e2
          | some (.cont e2) => wloop c body m e2
          | some (.brk e2) => some (.next e2)
          | some (.ret r e2) => some (.ret r e2)
          | none => none) = some fl := h2
        rw [hbo] at h2'; cases h2'
      | some fl1 =>
        have h2' : (match body e2 with
          | some (.next e2) => wloop c body m e2
          | some (.cont e2) => wloop c body m e2
          | some (.brk e2) => some (.next e2)
          | some (.ret r e2) => some (.ret r e2)
          | none => none) = some fl := h2
        rw [hbo] at h2'
        refine hb _ _ hbo σ1 V2 H2 a3.ok _ ?_
        cases fl1 with
        | next e3 => exact fun σ' V' H' c => ⟨e3, V', a3.trans c, h2'⟩
        | cont e3 => exact fun σ' V' H' c => ⟨e3, V', a3.trans c, h2'⟩
        | brk e3 => cases h2'; exact fun σ' V' H' c => q σ' V' H' (a3.trans c)
        | ret r2 e3 => cases h2'; exact fun v σ' V' H' c k => q v σ' V' H' (a3.trans c) (k.trans2 a3)
end
end DL

namespace DL
open PySem PySem.Spec PyProof.Rows L2
open Evl (Ex)

/-! ### defs and calls -/
abbrev Fn := List Sl → Option (Res × List Sl)
/-- what a def of this meaning promises -/
def spF (K : PySem.W.Frag) (n : Nat) (g : Fn) : Sp := fun vs H Q _ => vs.length = n ∧ ∃ V sls r sls', NvOk K V H (vs.map some) sls ∧ g sls = some (r, sls') ∧
  ∀ v V' H', Adv K (vs.map some) sls (vs.map some) sls' V H V' H' → ROk K (vs.map some) sls H V' H' (vs.map some) sls' v r → Q v H'

def slsOf (env : Nv) : List Res → Option (List Sl)
  | [] => some []
  | .val d :: rs => (slsOf env rs).bind fun ss => some (.val d :: ss)
  | .new d :: rs => none
  | .own i :: rs => (look env (.own i)).bind fun d => (slsOf env rs).bind fun ss => some (.own true d :: ss)
def has (i : Nat) : List Res → Bool
  | [] => false
  | .own j :: rs => j == i || has i rs
  | _ :: rs => has i rs
def dupFree : List Res → Bool
  | [] => true
  | .own j :: rs => !has j rs && dupFree rs
  | _ :: rs => dupFree rs
/-- what slot i holds behind the call -/
def back1 (i : Nat) : List Res → List Sl → Option D
  | .own j :: rs, .own _ d :: ss => if j = i then some d else back1 i rs ss
  | _ :: rs, _ :: ss => back1 i rs ss
  | _, _ => none
def backS (rs : List Res) (ss : List Sl) (i : Nat) : Sl → Sl
  | .own p d => match back1 i rs ss with
    | some d' => .own p d'
    | none => .own p d
  | s => s
def backGo (rs : List Res) (ss : List Sl) : Nat → Nv → Nv
  | _, [] => []
  | i, s :: env => backS rs ss i s :: backGo rs ss (i + 1) env
def back (rs : List Res) (ss : List Sl) (env : Nv) : Nv := backGo rs ss 0 env
theorem backGo_len {rs : List Res} {ss : List Sl} : ∀ {env : Nv} {i : Nat}, (backGo rs ss i env).length = env.length
  | [], _ => rfl
  | s :: env, i => by
    show (backGo rs ss (i + 1) env).length + 1 = env.length + 1
    rw [backGo_len]
theorem backGo_at {rs : List Res} {ss : List Sl} : ∀ {env : Nv} {i j : Nat}, (backGo rs ss i env)[j]? = (env[j]?).map (backS rs ss (i + j))
  | [], _, _ => rfl
  | s :: env, i, 0 => rfl
  | s :: env, i, j + 1 => by
    show (backGo rs ss (i + 1) env)[j]? = (env[j]?).map (backS rs ss (i + (j + 1)))
    rw [backGo_at, show i + 1 + j = i + (j + 1) by omega]
def notOwnR : Res → Bool
  | .own _ => false
  | _ => true
def iCall (g : Fn) (fs : EvA) : EvF := fun env => (fs env).bind fun p => (slsOf p.2 p.1).bind fun ss => if dupFree p.1 = true then
    (g ss).bind fun q => if notOwnR q.1 = true then some (q.1, back p.1 q.2 p.2) else none else none

section
variable {K : PySem.W.Frag} {σ σ1 σ2 : L2.St} {env env1 env2 : Nv} {V H V1 H1 V2 H2 : Hp} {v : L2.V} {te ta tb : TE}
theorem sls_len : ∀ {rs : List Res} {ss : List Sl}, slsOf env rs = some ss → ss.length = rs.length
  | [], ss, h => by cases h; rfl
  | .val d :: rs, ss, h => by
    simp only [slsOf, Option.bind_eq_some_iff] at h
    obtain ⟨s1, h1, h2⟩ := h
    cases h2
    rw [List.length_cons, List.length_cons, sls_len h1]
  | .new d :: rs, ss, h => by cases h
  | .own i :: rs, ss, h => by
    simp only [slsOf, Option.bind_eq_some_iff] at h
    obtain ⟨d, h0, s1, h1, h2⟩ := h
    cases h2
    rw [List.length_cons, List.length_cons, sls_len h1]
theorem look_own {i : Nat} {d : D} (h : look env (.own i) = some d) : ∃ p, env[i]? = some (.own p d) := by
  have h' : (match env[i]? with
    | some (.own _ d) => some d
    | _ => none) = some d := h
  cases q : env[i]? with
  | none => rw [q] at h'; cases h'
  | some s =>
    rw [q] at h'
    cases s with
    | no => cases h'
    | val _ => cases h'
    | own p d' => cases h'; exact ⟨p, rfl⟩
theorem heldA_len {vs : List L2.V} {rs : List Res} (h : HeldA K V σ vs rs) : vs.length = rs.length := by
  induction h with
  | nil => rfl
  | cons _ _ ih => rw [List.length_cons, List.length_cons, ih]
/-- the arguments one by one -/
theorem args_at {vs : List L2.V} {rs : List Res} (h : HeldA K V σ vs rs) : ∀ {ss : List Sl}, slsOf env rs = some ss → ∀ (k : Nat) (s : Sl), ss[k]? = some s →
    ∃ x, vs[k]? = some x ∧ ((∃ d, s = .val d ∧ R K V x d) ∨ ∃ i d p, s = .own true d ∧ rs[k]? = some (.own i) ∧ σ[i]? = some (some x) ∧ env[i]? = some (.own p d)) := by
  induction h with
  | nil => intro ss e k s hs; cases e; simp at hs
  | @cons x r vs rs h0 hr ih =>
    intro ss e k s hs
    cases r with
    | val d =>
      simp only [slsOf, Option.bind_eq_some_iff] at e
      obtain ⟨s1, h1, h2⟩ := e
      cases h2
      cases k with
      | zero => cases hs; exact ⟨x, rfl, .inl ⟨d, rfl, h0⟩⟩
      | succ k => exact ih h1 k s hs
    | new d => cases e
    | own i =>
      simp only [slsOf, Option.bind_eq_some_iff] at e
      obtain ⟨d, h3, s1, h1, h2⟩ := e
      cases h2
      cases k with
      | zero =>
        cases hs
        obtain ⟨p, hp⟩ := look_own h3
        exact ⟨x, rfl, .inr ⟨i, d, p, rfl, rfl, h0, hp⟩⟩
      | succ k => exact ih h1 k s hs
theorem args_own : ∀ {rs : List Res} {ss : List Sl} {k i : Nat}, slsOf env rs = some ss → rs[k]? = some (.own i) → ∃ d, ss[k]? = some (.own true d)
  | [], _, _, _, _, h => by simp at h
  | .val d :: rs, ss, k, i, e, h => by
    simp only [slsOf, Option.bind_eq_some_iff] at e
    obtain ⟨s1, h1, h2⟩ := e
    cases h2
    cases k with
    | zero => cases Option.some.inj h
    | succ k => exact args_own (rs := rs) (k := k) h1 h
  | .new d :: rs, ss, k, i, e, h => by cases e
  | .own j :: rs, ss, k, i, e, h => by
    simp only [slsOf, Option.bind_eq_some_iff] at e
    obtain ⟨d, h3, s1, h1, h2⟩ := e
    cases h2
    cases k with
    | zero => exact ⟨d, rfl⟩
    | succ k => exact args_own (rs := rs) (k := k) h1 h
theorem has_of {i : Nat} : ∀ {rs : List Res} {k : Nat}, rs[k]? = some (.own i) → has i rs = true
  | [], _, h => by simp at h
  | r :: rs, 0, h => by
    cases Option.some.inj h
    simp [has]
  | r :: rs, k + 1, h => by
    have q := has_of (rs := rs) (k := k) h
    cases r <;> simp [has, q]
theorem dup_free : ∀ {rs : List Res} {j k i : Nat}, dupFree rs = true → rs[j]? = some (.own i) → rs[k]? = some (.own i) → j = k
  | [], _, _, _, _, h, _ => by simp at h
  | r :: rs, 0, 0, _, _, _, _ => rfl
  | r :: rs, 0, k + 1, i, d, h1, h2 => by
    cases Option.some.inj h1
    simp only [dupFree, Bool.and_eq_true, Bool.not_eq_true'] at d
    rw [has_of (rs := rs) (k := k) h2] at d
    exact absurd d.1 (by decide)
  | r :: rs, j + 1, 0, i, d, h1, h2 => by
    cases Option.some.inj h2
    simp only [dupFree, Bool.and_eq_true, Bool.not_eq_true'] at d
    rw [has_of (rs := rs) (k := j) h1] at d
    exact absurd d.1 (by decide)
  | r :: rs, j + 1, k + 1, i, d, h1, h2 => by
    have d' : dupFree rs = true := by
      cases r with
      | own _ => simp only [dupFree, Bool.and_eq_true] at d; exact d.2
      | val _ => exact d
      | new _ => exact d
    rw [dup_free (rs := rs) (j := j) (k := k) d' h1 h2]
theorem back1_some : ∀ {i : Nat} {rs : List Res} {ss : List Sl} {d : D}, back1 i rs ss = some d → ∃ (k : Nat) (p : Bool), rs[k]? = some (.own i) ∧ ss[k]? = some (.own p d)
  | _, [], _, _, h => by simp [back1] at h
  | _, r :: _, [], _, h => by cases r <;> simp [back1] at h
  | i, r :: rs, s :: ss, d, h => by
    have rec' : back1 i rs ss = some d → ∃ (k : Nat) (p : Bool), (r :: rs)[k]? = some (.own i) ∧ (s :: ss)[k]? = some (.own p d) := fun h => by
      obtain ⟨k, p, h1, h2⟩ := back1_some (rs := rs) (ss := ss) h
      exact ⟨k + 1, p, h1, h2⟩
    cases r with
    | val _ => exact rec' h
    | new _ => exact rec' h
    | own j =>
      cases s with
      | no => exact rec' h
      | val _ => exact rec' h
      | own p d' =>
        simp only [back1] at h
        split at h
        · rename_i q
          subst q
          cases h
          exact ⟨0, p, rfl, rfl⟩
        · exact rec' h
theorem back1_none : ∀ {i k : Nat} {rs : List Res} {ss : List Sl} {p : Bool} {d : D}, back1 i rs ss = none → rs[k]? = some (.own i) → ss[k]? = some (.own p d) → False
  | _, _, [], _, _, _, _, h, _ => by simp at h
  | _, _, _ :: _, [], _, _, _, _, h => by simp at h
  | i, 0, r :: rs, s :: ss, p, d, h, h1, h2 => by
    cases Option.some.inj h1
    cases Option.some.inj h2
    simp [back1] at h
  | i, k + 1, r :: rs, s :: ss, p, d, h, h1, h2 => by
    have h' : back1 i rs ss = none := by
      cases r with
      | val _ => exact h
      | new _ => exact h
      | own j =>
        cases s with
        | no => exact h
        | val _ => exact h
        | own p d' =>
          simp only [back1] at h
          split at h
          · cases h
          · exact h
    exact back1_none (rs := rs) (ss := ss) (k := k) h' h1 h2
theorem back_at {rs : List Res} {ss : List Sl} {i : Nat} : (back rs ss env)[i]? = (env[i]?).map (backS rs ss i) := by
  unfold back
  rw [backGo_at, Nat.zero_add]
theorem back_own {rs : List Res} {ss : List Sl} {i : Nat} {p : Bool} {d : D} (h : (back rs ss env)[i]? = some (.own p d)) : ∃ d0, env[i]? = some (.own p d0) ∧ (back1 i rs ss = some d ∨ (back1 i rs ss = none ∧ d0 = d)) := by
  rw [back_at] at h
  cases q : env[i]? with
  | none => rw [q] at h; cases h
  | some s =>
    rw [q] at h
    cases s with
    | no => cases h
    | val _ => cases h
    | own p' d0 =>
      have h' : (match back1 i rs ss with
        | some d' => Sl.own p' d'
        | none => Sl.own p' d0) = .own p d := Option.some.inj h
      cases b : back1 i rs ss with
      | some d' => rw [b] at h'; cases h'; exact ⟨d0, rfl, .inl rfl⟩
      | none => rw [b] at h'; cases h'; exact ⟨d, rfl, .inr ⟨rfl, rfl⟩⟩
theorem own_back {rs : List Res} {ss : List Sl} {i : Nat} {p : Bool} {d : D} (h : env[i]? = some (.own p d)) : ∃ d', (back rs ss env)[i]? = some (.own p d') := by
  rw [back_at, h]
  cases b : back1 i rs ss with
  | some d' => exact ⟨d', by simp [b, backS]⟩
  | none => exact ⟨d, by simp [b, backS]⟩
theorem back_val {rs : List Res} {ss : List Sl} {i : Nat} {s : Sl} (h : (back rs ss env)[i]? = some s) (n : ∀ p d, s ≠ .own p d) : env[i]? = some s := by
  rw [back_at] at h
  cases q : env[i]? with
  | none => rw [q] at h; cases h
  | some s0 =>
    rw [q] at h
    cases s0 with
    | no => cases h; rfl
    | val _ => cases h; rfl
    | own p' d0 =>
      have h' : (match back1 i rs ss with
        | some d' => Sl.own p' d'
        | none => Sl.own p' d0) = s := Option.some.inj h
      cases b : back1 i rs ss with
      | some d' => rw [b] at h'; exact absurd h'.symm (n _ _)
      | none => rw [b] at h'; exact absurd h'.symm (n _ _)
theorem map_some_at {vs : List L2.V} {k : Nat} {o : Option L2.V} (h : (vs.map some)[k]? = some o) : ∃ x, o = some x ∧ vs[k]? = some x := by
  rw [List.getElem?_map] at h
  cases q : vs[k]? with
  | none => rw [q] at h; cases h
  | some x => rw [q] at h; cases h; exact ⟨x, rfl, rfl⟩
theorem map_some_of {vs : List L2.V} {k : Nat} {x : L2.V} (h : vs[k]? = some x) : (vs.map some)[k]? = some (some x) := by rw [List.getElem?_map, h]; rfl
/-- the callee's slots at its start -/
theorem args_ok {vs : List L2.V} {rs : List Res} {ss : List Sl} (ok : NvOk K V H σ env) (h : HeldA K V σ vs rs) (e : slsOf env rs = some ss) (df : dupFree rs = true) : NvOk K V H (vs.map some) ss := by
  refine ⟨by rw [List.length_map, sls_len e, heldA_len h], ok.sub, fun k o s h1 h2 => ?_, fun j k p q d d' l h1 h2 h3 h4 => ?_, ok.tabs⟩
  · obtain ⟨x, hx, c⟩ := args_at h e k s h2
    obtain ⟨y, rfl, hy⟩ := map_some_at h1
    rw [hx] at hy
    cases hy
    rcases c with ⟨d, rfl, r⟩ | ⟨i, d, p, rfl, _, g2, g3⟩
    · exact r
    · obtain ⟨l, k1, k2, k3⟩ := ok.ownC g3
      rw [g2] at k1
      cases k1
      exact ⟨l, rfl, k2, k3⟩
  · obtain ⟨x, hx, c⟩ := args_at h e j _ h1
    obtain ⟨y, hy, c'⟩ := args_at h e k _ h2
    rw [map_some_of hx] at h3
    rw [map_some_of hy] at h4
    cases h3
    cases h4
    rcases c with ⟨d, z, _⟩ | ⟨i, d, p, z, f1, f2, f3⟩
    · cases z
    rcases c' with ⟨d, z, _⟩ | ⟨i', d, p, z, g1, g2, g3⟩
    · cases z
    have : i = i' := ok.one i i' _ _ _ _ l f3 g3 f2 g2
    subst this
    exact dup_free df f1 g1
theorem sd_call {g : Fn} {t : TA} {fs : EvA} {n : Nat} {Xk : XK} (ha : SdA K t fs) (hn : ∀ env rs env', fs env = some (rs, env') → rs.length = n) : Sd K (tCall (spF K n g) [] Xk t) (iCall g fs) := by
  intro env res env' e σ V H ok Q q
  simp only [iCall, Option.bind_eq_some_iff] at e
  obtain ⟨⟨rs, e1⟩, h1, ss, h2, h3⟩ := e
  split at h3
  · rename_i df
    simp only [Option.bind_eq_some_iff] at h3
    obtain ⟨⟨r, ss'⟩, h4, h5⟩ := h3
    split at h5
    · rename_i hnr
      cases h5
      refine ha _ _ _ h1 σ V H ok _ fun vs V1 H1 a k => ?_
      have aok := args_ok a.ok k h2 df
      show spF K n g (vs ++ []) H1 Q Xk
      rw [List.append_nil]
      refine ⟨by rw [heldA_len k]; exact hn _ _ _ h1, V1, ss, r, ss', aok, h4, fun v V' H' b hr => ?_⟩
      -- an argument's own object is an own object here
      have ownA : ∀ l, Own ss (vs.map some) l → ∃ (i k0 : Nat) (p : Bool) (d : D), rs[k0]? = some (.own i) ∧ σ[i]? = some (some (.ref l)) ∧ e1[i]? = some (.own p d) ∧ vs[k0]? = some (.ref l) ∧ ss[k0]? = some (.own true d) := by
        rintro l ⟨k0, p, d, z1, z2⟩
        obtain ⟨x, hx, c⟩ := args_at k h2 k0 _ z1
        rw [map_some_of hx] at z2
        cases z2
        rcases c with ⟨d', z, _⟩ | ⟨i, d', p', z, g1, g2, g3⟩
        · cases z
        · cases z
          exact ⟨i, k0, p', d, g1, g2, g3, hx, z1⟩
      have noL : ∀ l, ¬ OwnL ss (vs.map some) l := by
        rintro l ⟨k0, d, z1, z2⟩
        obtain ⟨x, hx, c⟩ := args_at k h2 k0 _ z1
        rcases c with ⟨d', z, _⟩ | ⟨i, d', p', z, _⟩ <;> cases z
      have bok : NvOk K V' H' σ (back rs ss' e1) := by
        refine ⟨?_, b.ok.sub, fun i o s z1 z2 => ?_, fun i j p q d d' l z1 z2 z3 z4 => ?_, b.ok.tabs⟩
        · unfold back
          rw [backGo_len]
          exact a.ok.len
        · cases s with
          | no => cases o <;> trivial
          | val d =>
            have z3 := back_val z2 (fun p d z => by cases z)
            have z4 := a.ok.slot i o _ z1 z3
            cases o with
            | none => exact z4
            | some x => exact R.mono b.ex _ _ z4
          | own p d =>
            obtain ⟨d0, z3, z4⟩ := back_own z2
            obtain ⟨l, w1, w2, w3⟩ := a.ok.ownC z3
            rw [z1] at w1
            cases w1
            rcases z4 with z4 | ⟨z4, rfl⟩
            · obtain ⟨k0, p1, u1, u2⟩ := back1_some z4
              obtain ⟨l2, y1, y2, y3⟩ := b.ok.ownC u2
              obtain ⟨x, hx, hx2⟩ := map_some_at y1
              cases hx
              have hlen : ss.length = rs.length := sls_len h2
              obtain ⟨hk, _⟩ := List.getElem?_eq_some_iff.mp u1
              obtain ⟨x, hx3, c⟩ := args_at k h2 k0 ss[k0] (List.getElem?_eq_getElem (by omega))
              rw [hx2] at hx3
              cases hx3
              rcases c with ⟨d', z, r'⟩ | ⟨i', d', p', z, g1, g2, g3⟩
              · -- a visible argument is no own one
                exfalso
                obtain ⟨d9, hd9⟩ := args_own h2 u1
                rw [List.getElem?_eq_getElem (show k0 < ss.length by omega), z] at hd9
                cases hd9
              · rw [u1] at g1
                cases g1
                rw [g2] at z1
                cases z1
                exact ⟨_, rfl, y2, y3⟩
            · -- an own object that was no argument
              have nO : ¬ Own ss (vs.map some) l := fun z => by
                obtain ⟨i', k0, p', d', y1, y2, y3, y4, y5⟩ := ownA l z
                have : i = i' := a.ok.one i i' _ _ _ _ l z3 y3 z1 y2
                subst this
                obtain ⟨⟨d2, q1⟩, _⟩ := b.par k0 d' y5
                exact back1_none z4 y1 q1
              obtain ⟨o, ho⟩ := w3.there
              refine ⟨l, rfl, ?_, w3.mono b.ex ((b.keep l o ho nO (w3.nt ho)).trans ho.symm)⟩
              cases y : V' l with
              | none => rfl
              | some o2 =>
                rcases b.fr l (by rw [y]; exact fun z => by cases z) with m | m | m
                · exact absurd w2 m
                · exact (w3.nft m).elim
                · exact absurd m (noL l)
        · obtain ⟨d1, y1, _⟩ := back_own z1
          obtain ⟨d2, y2, _⟩ := back_own z2
          exact a.ok.one i j p q d1 d2 l y1 y2 z3 z4
      have adv : Adv K σ e1 σ (back rs ss' e1) V1 H1 V' H' := by
        refine ⟨bok, b.ex, fun l z => ?_, fun l o z n t => ?_, b.tab, b.dom, fun l z => ?_, fun l z => ?_, fun i d z => ⟨own_back z, rfl⟩⟩
        · rcases b.fr l z with m | m | m
          · exact .inl m
          · exact .inr (.inl m)
          · exact absurd m (noL l)
        · refine b.keep l o z (fun m => n ?_) t
          obtain ⟨i, k0, p, d, y1, y2, y3, y4, y5⟩ := ownA l m
          exact ⟨i, p, d, y3, y2⟩
        · obtain ⟨i, p, d, y1, y2⟩ := z
          obtain ⟨d1, y3, _⟩ := back_own y1
          exact .inl ⟨i, p, d1, y3, y2⟩
        · obtain ⟨i, d, y1, y2⟩ := z
          obtain ⟨d1, y3, _⟩ := back_own y1
          exact .inl ⟨i, d1, y3, y2⟩
      refine q v V' H' (a.trans adv) ?_
      cases r with
      | own i => cases hnr
      | val d => exact hr
      | new d =>
        obtain ⟨l, ev, w1, w2, w3, w4⟩ := hr
        have hl : H1 l = none := w1.elim id fun m => absurd m (noL l)
        refine ⟨l, ev, .inl ?_, w2, fun z => ?_, w4⟩
        · cases y : H l with
          | none => rfl
          | some o => exact absurd hl (a.dom l (by rw [y]; exact fun z => by cases z))
        · rcases adv.own l z with m | m
          · obtain ⟨_, o, ho⟩ := a.ok.ownH m
            rw [hl] at ho
            cases ho
          · obtain ⟨i, p, d', y1, y2⟩ := z
            obtain ⟨d1, y3, _⟩ := back_own y1
            obtain ⟨_, o, ho⟩ := a.ok.ownH ⟨i, p, d1, y3, y2⟩
            rw [hl] at ho
            cases ho
    · cases h5
  · cases h3
end
end DL

namespace DL
open PySem PySem.Spec PyProof.Rows L2
open Evl (Ex)

/-! ### a def by its body -/
def outs : List Sl → Nv → Option (List Sl)
  | [], _ => some []
  | _ :: _, [] => none
  | .own p _ :: ss, s :: e => match s with
    | .own true d => (outs ss e).bind fun o => some (.own p d :: o)
    | _ => none
  | s :: ss, _ :: e => (outs ss e).bind fun o => some (s :: o)
def parOnly : List Sl → Bool
  | [] => true
  | .own false _ :: _ => false
  | _ :: ss => parOnly ss
def runDef (n N : Nat) (g : StF) : Fn := fun sls => if sls.length = n ∧ n ≤ N ∧ parOnly sls = true then (g (sls ++ List.replicate (N - n) .no)).bind fun fl => match fl with
  | .next e => (outs sls e).bind fun o => some (.val .none, o)
  | .ret r e => if notOwnR r = true then (outs sls e).bind fun o => some (r, o) else none
  | _ => none else none
theorem par_only : ∀ {ss : List Sl} {k : Nat} {p : Bool} {d : D}, parOnly ss = true → ss[k]? = some (.own p d) → p = true
  | [], _, _, _, _, h => by simp at h
  | s :: ss, 0, p, d, e, h => by
    cases Option.some.inj h
    cases p with
    | true => rfl
    | false => cases e
  | s :: ss, k + 1, p, d, e, h => by
    have e' : parOnly ss = true := by
      cases s with
      | no => exact e
      | val _ => exact e
      | own p d => cases p with
        | true => exact e
        | false => cases e
    exact par_only (ss := ss) (k := k) e' h
theorem outs_len : ∀ {ss : List Sl} {e : Nv} {o : List Sl}, outs ss e = some o → o.length = ss.length
  | [], _, _, h => by cases h; rfl
  | _ :: _, [], _, h => by simp [outs] at h
  | s0 :: ss, s :: e, o, h => by
    cases s0 with
    | own p d0 =>
      cases s with
      | own p2 d =>
        cases p2 with
        | true =>
          simp only [outs, Option.bind_eq_some_iff] at h
          obtain ⟨o1, h1, h2⟩ := h
          cases h2
          rw [List.length_cons, List.length_cons, outs_len h1]
        | false => simp [outs] at h
      | _ => simp [outs] at h
    | no =>
      simp only [outs, Option.bind_eq_some_iff] at h
      obtain ⟨o1, h1, h2⟩ := h
      cases h2
      rw [List.length_cons, List.length_cons, outs_len h1]
    | val d =>
      simp only [outs, Option.bind_eq_some_iff] at h
      obtain ⟨o1, h1, h2⟩ := h
      cases h2
      rw [List.length_cons, List.length_cons, outs_len h1]
theorem outs_at : ∀ {ss : List Sl} {e : Nv} {o : List Sl} {k : Nat} {s : Sl}, outs ss e = some o → o[k]? = some s → (ss[k]? = some s ∧ ∀ p d, s ≠ .own p d) ∨ ∃ p d d0, s = .own p d ∧ ss[k]? = some (.own p d0) ∧ e[k]? = some (.own true d)
  | [], _, _, _, _, h, h2 => by cases h; simp at h2
  | _ :: _, [], _, _, _, h, _ => by simp [outs] at h
  | s0 :: ss, s :: e, o, k, s1, h, hk => by
    cases s0 with
    | own p d0 =>
      cases s with
      | own p2 d =>
        cases p2 with
        | true =>
          simp only [outs, Option.bind_eq_some_iff] at h
          obtain ⟨o1, h1, h2⟩ := h
          cases h2
          cases k with
          | zero => cases Option.some.inj hk; exact .inr ⟨p, d, d0, rfl, rfl, rfl⟩
          | succ k => exact outs_at (ss := ss) (e := e) (k := k) h1 hk
        | false => simp [outs] at h
      | _ => simp [outs] at h
    | no =>
      simp only [outs, Option.bind_eq_some_iff] at h
      obtain ⟨o1, h1, h2⟩ := h
      cases h2
      cases k with
      | zero => cases Option.some.inj hk; exact .inl ⟨rfl, fun p d z => by cases z⟩
      | succ k => exact outs_at (ss := ss) (e := e) (k := k) h1 hk
    | val d =>
      simp only [outs, Option.bind_eq_some_iff] at h
      obtain ⟨o1, h1, h2⟩ := h
      cases h2
      cases k with
      | zero => cases Option.some.inj hk; exact .inl ⟨rfl, fun p d z => by cases z⟩
      | succ k => exact outs_at (ss := ss) (e := e) (k := k) h1 hk
section
variable {K : PySem.W.Frag} {V H : Hp} {vs : List L2.V} {sls : List Sl}
theorem rep_own {ss : List Sl} {m k : Nat} {p : Bool} {d : D} (h : (ss ++ List.replicate m Sl.no)[k]? = some (.own p d)) : ss[k]? = some (.own p d) := by
  by_cases q : k < ss.length
  · rw [List.getElem?_append_left q] at h; exact h
  · rw [List.getElem?_append_right (by omega), List.getElem?_replicate] at h
    split at h <;> cases h
theorem start_ok {m : Nat} (ok : NvOk K V H (vs.map some) sls) : NvOk K V H (vs.map some ++ List.replicate m none) (sls ++ List.replicate m .no) := by
  have hl : vs.length = sls.length := by rw [← ok.len, List.length_map]
  refine ⟨by simp [hl], ok.sub, fun i o s h1 h2 => ?_, fun i j p q d e l h1 h2 h3 h4 => ?_, ok.tabs⟩
  · by_cases q : i < sls.length
    · rw [List.getElem?_append_left (by rw [List.length_map]; omega)] at h1
      rw [List.getElem?_append_left q] at h2
      exact ok.slot i o s h1 h2
    · rw [List.getElem?_append_right (by omega), List.getElem?_replicate] at h2
      split at h2
      · cases h2; cases o <;> trivial
      · cases h2
  · have k1 := rep_own h1
    have k2 := rep_own h2
    have b1 := (List.getElem?_eq_some_iff.mp k1).1
    have b2 := (List.getElem?_eq_some_iff.mp k2).1
    rw [List.getElem?_append_left (by rw [List.length_map]; omega)] at h3 h4
    exact ok.one i j p q d e l k1 k2 h3 h4
theorem body_ok {t : TS} {g : StF} {N : List Str} {n : Nat} {Q : VK} {Xk : XK} (h : SdS K t g) (sp : spF K n (runDef n N.length g) vs H Q Xk) : t { nx := fun _ H' => Q .non H', rt := Q } (L2.start N vs) H := by
  obtain ⟨hn, V, sls, r, sls', ok, e, q⟩ := sp
  have hl : vs.length = sls.length := by rw [← ok.len, List.length_map]
  unfold runDef at e
  split at e
  · rename_i hc
    obtain ⟨c1, c2, c3⟩ := hc
    simp only [Option.bind_eq_some_iff] at e
    obtain ⟨fl, h1, h2⟩ := e
    have ok0 : NvOk K V H (L2.start N vs) (sls ++ List.replicate (N.length - n) .no) := by
      have e0 : L2.start N vs = vs.map some ++ List.replicate (N.length - n) none := by unfold L2.start; rw [hn]
      rw [e0]
      exact start_ok ok
    -- what the body has done, seen by the caller
    have fin : ∀ (e1 : Nv) (o : List Sl) (σ' : L2.St) (V' H' : Hp), outs sls e1 = some o → Adv K (L2.start N vs) (sls ++ List.replicate (N.length - n) .no) σ' e1 V H V' H' → Adv K (vs.map some) sls (vs.map some) o V H V' H' := by
      intro e1 o σ' V' H' ho a
      have sa : ∀ (k : Nat), k < sls.length → (L2.start N vs)[k]? = (vs.map some)[k]? := fun k hk => by
        unfold L2.start
        rw [List.getElem?_append_left (by rw [List.length_map]; omega)]
      have oa : ∀ l, Own (sls ++ List.replicate (N.length - n) .no) (L2.start N vs) l ↔ Own sls (vs.map some) l := fun l => by
        constructor
        · rintro ⟨k, p, d, z1, z2⟩
          have z3 := rep_own z1
          rw [sa k (List.getElem?_eq_some_iff.mp z3).1] at z2
          exact ⟨k, p, d, z3, z2⟩
        · rintro ⟨k, p, d, z1, z2⟩
          have hk := (List.getElem?_eq_some_iff.mp z1).1
          exact ⟨k, p, d, by rw [List.getElem?_append_left hk]; exact z1, by rw [sa k hk]; exact z2⟩
      have noL : ∀ l, ¬ OwnL (sls ++ List.replicate (N.length - n) .no) (L2.start N vs) l := by
        rintro l ⟨k, d, z1, z2⟩
        cases par_only c3 (rep_own z1)
      have atk : ∀ (k : Nat) (p : Bool) (d : D), o[k]? = some (.own p d) → ∃ d0, sls[k]? = some (.own p d0) ∧ e1[k]? = some (.own true d) ∧ σ'[k]? = (vs.map some)[k]? := by
        intro k p d z
        rcases outs_at ho z with ⟨_, z2⟩ | ⟨p', d', d0, z1, z2, z3⟩
        · exact absurd rfl (z2 p d)
        · cases z1
          have hk := (List.getElem?_eq_some_iff.mp z2).1
          have hp := par_only c3 z2
          subst hp
          obtain ⟨_, z5⟩ := a.par k d0 (by rw [List.getElem?_append_left hk]; exact z2)
          exact ⟨d0, z2, z3, by rw [z5, sa k hk]⟩
      refine ⟨⟨by rw [List.length_map, outs_len ho, hl], a.ok.sub, fun k x s z1 z2 => ?_, fun i j p q d d' l z1 z2 z3 z4 => ?_, a.ok.tabs⟩, a.ex, fun l z => ?_, fun l x z m t => a.keep l x z (fun y => m ((oa l).mp y)) t, a.tab, a.dom, fun l z => ?_, fun l z => ?_, fun k d z => ?_⟩
      · cases s with
        | no => cases x <;> trivial
        | val d =>
          rcases outs_at ho z2 with ⟨y1, _⟩ | ⟨_, _, _, y, _⟩
          · have y2 := ok.slot k x _ z1 y1
            cases x with
            | none => exact y2
            | some x => exact R.mono a.ex _ _ y2
          · cases y
        | own p d =>
          obtain ⟨d0, y1, y2, y3⟩ := atk k p d z2
          rw [z1] at y3
          have y4 := a.ok.slot k x (.own true d) y3 y2
          cases x with
          | none => exact y4
          | some x => exact y4
      · obtain ⟨d1, y1, _⟩ := atk i p d z1
        obtain ⟨d2, y2, _⟩ := atk j q d' z2
        exact ok.one i j p q d1 d2 l y1 y2 z3 z4
      · rcases a.fr l z with y | y | y
        · exact .inl y
        · exact .inr (.inl y)
        · exact absurd y (noL l)
      · obtain ⟨k, p, d, z1, z2⟩ := z
        obtain ⟨d0, y1, _⟩ := atk k p d z1
        exact .inl ⟨k, p, d0, y1, z2⟩
      · obtain ⟨k, d, z1, z2⟩ := z
        obtain ⟨d0, y1, _⟩ := atk k false d z1
        cases par_only c3 y1
      · have hk := (List.getElem?_eq_some_iff.mp z).1
        have hk2 : k < o.length := by rw [outs_len ho]; exact hk
        refine ⟨?_, rfl⟩
        rcases outs_at ho (List.getElem?_eq_getElem hk2) with ⟨y1, y2⟩ | ⟨p, d1, d0, y1, y2, y3⟩
        · rw [z] at y1
          exact absurd (Option.some.inj y1).symm (y2 true d)
        · rw [z] at y2
          cases y2
          exact ⟨d1, by rw [← y1]; exact List.getElem?_eq_getElem hk2⟩
    have noL2 : ∀ l, ¬ OwnL (sls ++ List.replicate (N.length - n) .no) (L2.start N vs) l := by
      rintro l ⟨k, d, z1, z2⟩
      cases par_only c3 (rep_own z1)
    refine h _ _ h1 _ V H ok0 _ ?_
    cases fl with
    | next e1 =>
      dsimp only at h2
      simp only [Option.bind_eq_some_iff] at h2
      obtain ⟨o, h3, h4⟩ := h2
      cases h4
      exact fun σ' V' H' a => q .non V' H' (fin e1 _ σ' V' H' h3 a) .none
    | brk e1 => cases h2
    | cont e1 => cases h2
    | ret r1 e1 =>
      dsimp only at h2
      split at h2
      · rename_i hr
        simp only [Option.bind_eq_some_iff] at h2
        obtain ⟨o, h3, h4⟩ := h2
        cases h4
        intro v σ' V' H' a k
        have f := fin e1 _ σ' V' H' h3 a
        refine q v V' H' f ?_
        cases r with
        | own i => cases hr
        | val d => exact k
        | new d =>
          obtain ⟨l, ev, w1, w2, w3, w4⟩ := k
          have hl0 : H l = none := w1.elim id fun m => absurd m (noL2 l)
          refine ⟨l, ev, .inl hl0, w2, fun z => ?_, w4⟩
          rcases f.own l z with m | m
          · obtain ⟨_, x, hx⟩ := ok.ownH m
            rw [hl0] at hx
            cases hx
          · obtain ⟨k0, p, d', y1, y2⟩ := z
            rcases outs_at h3 y1 with ⟨_, y3⟩ | ⟨p', d1, d0, y3, y4, y5⟩
            · exact y3 p d' rfl
            · cases y3
              obtain ⟨_, x, hx⟩ := ok.ownH ⟨k0, p, d0, y4, y2⟩
              rw [hl0] at hx
              cases hx
      · cases h2
  · cases e
end

/-! ### the judgements -/
def TD (X : Cx) (e : Expr) (f : EvT) : Prop := ∃ t, PT X e t ∧ SdT X.K t f
def WD (X : Cx) (e : Expr) (f : EvT) : Prop := ∃ t, PW X e t ∧ SdT X.K t f
def AD (X : Cx) (es : List Expr) (f : EvA) : Prop := ∃ t, PA X es t ∧ SdA X.K t f
def StD (X : Cx) (st : Stmt) (f : StF) : Prop := ∃ t, PS X st t ∧ SdS X.K t f
def BD (X : Cx) (st : List Stmt) (f : StF) : Prop := ∃ t, PSs X st t ∧ SdS X.K t f
def GD (X : Cx) (e : Expr) (f : TgF) : Prop := ∃ t, PG X e t ∧ SdG X.K t f
def GsD (X : Cx) (es : List Expr) (f : TgsF) : Prop := ∃ t, PGs X es t ∧ SdGs X.K t f
def ID (X : Cx) (tg e : Expr) (f : ItF) : Prop := ∃ t, PI X tg e t ∧ SdI X.K t f
section
variable {P : Program} {w : World} {K : PySem.W.Frag} {mg : Str → Option Value} {base : Heap}
/-- THE RULE for a def: its body judged -/
theorem def_ok {x qual : Str} {st : Stmt} {f : Addr} {fd : FuncData} {N ps : List Str} {k : Nat} {g : StF} (F : Fun K x qual st f fd) (S : FnScope N ps (defScope st))
    (hbody : ∀ (cdv : Value) (A : Around) (outer : List Env) (s : Shared) (H : Hp) (E : XK), Room k (A.deeper (envOfC qual (defScope st) s.heap.objs.size f cdv)) → BD (cxOf CX0 P w K mg base N qual (defScope st) f cdv A outer s H E).nox (defBody st) g) :
    FnOk P w K mg base CX0 (k + 1) f fd ps (spF K ps.length (runDef ps.length N.length g)) := by
  refine F.ok S (fun vs H Q E h => h.1) (fun cdv A outer s H vs Q E hr h => ?_)
  obtain ⟨t, h1, h2⟩ := hbody cdv A outer s H E hr
  exact ⟨t, h1, body_ok h2 h⟩
/-- no call at all -/
theorem fn_none {f : Addr} {fd : FuncData} {ps : List Str} {n : Nat} : FnOk P w K mg base CX0 0 f fd ps (spF K n fun _ => none) := by
  have no : ∀ vs H Q E, ¬ spF K n (fun _ => none) vs H Q E := fun vs H Q E h => by
    obtain ⟨_, V, sls, r, sls', _, e, _⟩ := h
    cases e
  exact ⟨fun vs H Q E h => absurd h (no vs H Q E), fun A outer s H args us vs Q E _ _ _ _ h => absurd h (no vs H Q E)⟩
end
end DL

namespace DL
open PySem PySem.Spec PyProof.Rows L2
open Evl (Ex)

/-! ### operations -/
def rOr (r s : R2) : R2 := fun x y H Q => r x y H Q ∨ s x y H Q
theorem opOr {X : Cx} {f : Value → Value → Sem Value} {r s : R2} (h : OpR X f r) (k : OpR X f s) : OpR X f (rOr r s) := by
  intro pins st σ H x y v u Q I rx ry q
  rcases q with q | q
  · exact h pins st σ H x y v u Q I rx ry q
  · exact k pins st σ H x y v u Q I rx ry q
theorem ixOr {X : Cx} {r s : R2} (h : IxR X r) (k : IxR X s) : IxR X (rOr r s) := IxR.or h k
def alt (g h : D → D → Option Res) : D → D → Option Res := fun d e => match g d e with
  | some r => some r
  | none => h d e
section
variable {K : PySem.W.Frag} {σ σ1 : L2.St} {env env1 env2 : Nv} {V H V1 H1 V2 H2 : Hp} {v : L2.V} {te ta tb : TE}
theorem binOr {r s : R2} {g h : D → D → Option Res} (a : BinOk K r g) (b : BinOk K s h) : BinOk K (rOr r s) (alt g h) := by
  intro V H x y d e res sub hx hy hg Q q
  unfold alt at hg
  split at hg
  · rename_i r' hr
    cases hg
    exact .inl (a V H x y d e res sub hx hy hr Q q)
  · exact .inr (b V H x y d e res sub hx hy hg Q q)
theorem OpOk.int {i : Int} (h : OpOk K V H v (.int i)) : v = .int i := by
  rcases h with h | ⟨l, _, _, h⟩
  · cases h; rfl
  · exact h.elim
theorem OpOk.str {i : Str} (h : OpOk K V H v (.str i)) : v = .str i := by
  rcases h with h | ⟨l, _, _, h⟩
  · cases h; rfl
  · exact h.elim
theorem OpOk.bool {i : Bool} (h : OpOk K V H v (.bool i)) : v = .bl i := by
  rcases h with h | ⟨l, _, _, h⟩
  · cases h; rfl
  · exact h.elim
theorem OpOk.none (h : OpOk K V H v .none) : v = .non := by
  rcases h with h | ⟨l, _, _, h⟩
  · cases h; rfl
  · exact h.elim
theorem OpOk.tupleS {ds : List D} (h : OpOk K V H v (.tuple ds)) : ∃ a xs, v = .ref a ∧ St K V a xs ∧ RA K V xs ds := by
  rcases h with h | ⟨l, _, _, h⟩
  · cases h with
    | tuple h1 h2 => exact ⟨_, _, rfl, h1, h2⟩
  · exact h.elim
theorem OpOk.tuple {ds : List D} (h : OpOk K V H v (.tuple ds)) : ∃ a xs, v = .ref a ∧ SqT K V a xs ∧ RA K V xs ds := by
  rcases h with h | ⟨l, _, _, h⟩
  · cases h with
    | tuple h1 h2 => exact ⟨_, _, rfl, h1.sq, h2⟩
  · exact h.elim
/-- a list: visible or owned; its items are visible -/
theorem OpOk.list {ds : List D} (h : OpOk K V H v (.list ds)) (sub : Ex V H) : ∃ a xs, v = .ref a ∧ SqL K H a xs ∧ RA K V xs ds := by
  rcases h with h | ⟨l, rfl, _, xs, h1, h2⟩
  · cases h with
    | list h1 h2 => exact ⟨_, _, rfl, Evl.ex_l sub h1, h2⟩
  · exact ⟨l, xs, rfl, Evl.sq_of h1, h2⟩
def oI (c : Int → Int → Option D) : D → D → Option Res := fun d e => match d, e with
  | .int i, .int j => (c i j).map .val
  | _, _ => none
theorem bin_I0 {g : Int → Int → L2.V} {h : Int → Int → D} (hr : ∀ i j V, R K V (g i j) (h i j)) : BinOk K (rI0 g) (oI fun i j => some (h i j)) := by
  intro V H x y d e res sub hx hy hg Q q
  unfold oI at hg
  split at hg
  · cases hx.int
    cases hy.int
    cases hg
    exact ⟨_, _, rfl, rfl, q _ V H (Al.refl sub) (hr _ _ V)⟩
  · cases hg
theorem bin_I {C : Int → Int → Prop} {g : Int → Int → L2.V} {h : Int → Int → D} {c : Int → Int → Bool} (hc : ∀ i j, c i j = true → C i j) (hr : ∀ i j V, R K V (g i j) (h i j)) : BinOk K (rI C g) (oI fun i j => if c i j = true then some (h i j) else none) := by
  intro V H x y d e res sub hx hy hg Q q
  unfold oI at hg
  split at hg
  · cases hx.int
    cases hy.int
    simp only [Option.map_eq_some_iff] at hg
    obtain ⟨d9, hg, rfl⟩ := hg
    split at hg
    · rename_i hcc
      cases hg
      exact ⟨_, _, rfl, rfl, hc _ _ hcc, q _ V H (Al.refl sub) (hr _ _ V)⟩
    · cases hg
  · cases hg
/-- + -/
def gAddS : D → D → Option Res := fun d e => match d, e with
  | .str s, .str t => if s.length + t.length ≤ 100000 then some (.val (.str (s ++ t))) else none
  | _, _ => none
def gCatT : D → D → Option Res := fun d e => match d, e with
  | .tuple s, .tuple t => if s.length + t.length ≤ 100000 then some (.val (.tuple (s ++ t))) else none
  | _, _ => none
def gCatL : D → D → Option Res := fun d e => match d, e with
  | .list s, .list t => if s.length + t.length ≤ 100000 then some (.new (.list (s ++ t))) else none
  | _, _ => none
theorem bin_addS : BinOk K (fun x y H Q => ∃ i j, x = .str i ∧ y = .str j ∧ i.length + j.length ≤ sizeLine ∧ Q (.str (i ++ j)) H) gAddS := by
  intro V H x y d e res sub hx hy hg Q q
  unfold gAddS at hg
  split at hg
  · split at hg
    · rename_i hz
      cases hx.str
      cases hy.str
      cases hg
      exact ⟨_, _, rfl, rfl, Evl.sz_of hz, q _ V H (Al.refl sub) (.str _)⟩
    · cases hg
  · cases hg
theorem bin_catT : BinOk K (rCatA K) gCatT := by
  intro V H x y d e res sub hx hy hg Q q
  unfold gCatT at hg
  split at hg
  · split at hg
    · rename_i hz
      obtain ⟨a, xs, rfl, h1, h2⟩ := hx.tupleS
      obtain ⟨b, ys, rfl, h3, h4⟩ := hy.tupleS
      cases hg
      refine ⟨a, b, xs, ys, rfl, rfl, Evl.ex_t sub h1.sq, Evl.ex_t sub h3.sq, Evl.sz_of (by rw [h2.len, h4.len]; exact hz), fun z => ?_, fun _ z => ?_, fun _ _ p hp => ?_⟩
      · subst z
        cases h2
        exact q _ V H (Al.refl sub) (.tuple h3 h4)
      · subst z
        cases h4
        rw [List.append_nil] at q
        exact q _ V H (Al.refl sub) (.tuple h1 h2)
      · have b : Al V H (upd V p (.tup (xs ++ ys))) (upd H p (.tup (xs ++ ys))) := Al.new sub hp
        exact q _ _ _ b (.tuple (St.of upd_same) (RA.mono b.ex _ _ (h2.append h4)))
    · cases hg
  · cases hg
theorem bin_catL : BinOk K (fun x y H Q => ∃ a b xs ys, x = .ref a ∧ y = .ref b ∧ SqL K H a xs ∧ SqL K H b ys ∧ xs.length + ys.length ≤ sizeLine ∧ ∀ p, H p = none → Q (.ref p) (upd H p (.lst (xs ++ ys)))) gCatL := by
  intro V H x y d e res sub hx hy hg Q q
  unfold gCatL at hg
  split at hg
  · split at hg
    · rename_i hz
      obtain ⟨a, xs, rfl, h1, h2⟩ := hx.list sub
      obtain ⟨b, ys, rfl, h3, h4⟩ := hy.list sub
      cases hg
      refine ⟨a, b, xs, ys, rfl, rfl, h1, h3, Evl.sz_of (by rw [h2.len, h4.len]; exact hz), fun p hp => ?_⟩
      exact q _ _ _ (Al.hid sub hp) ⟨p, rfl, hp, Evl.fresh_back sub hp, _, upd_same, h2.append h4⟩
    · cases hg
  · cases hg

/-! ### == -/
def toPy : D → Option PyData
  | .none => some .none
  | .bool b => some (.bool b)
  | .int i => some (.int i)
  | .str s => some (.str s)
  | .list xs => (toPys xs).map .list
  | .tuple xs => (toPys xs).map .tuple
  | _ => none
where toPys : List D → Option (List PyData)
  | [] => some []
  | d :: ds => match toPy d, toPys ds with
    | some p, some ps => some (p :: ps)
    | _, _ => none
mutual
theorem dp_of : ∀ (d : D) (v : L2.V) (p : PyData), R K H v d → toPy d = some p → Dp K H v p
  | .none, _, _, h, e => by cases h; cases e; exact .non
  | .bool b, _, _, h, e => by cases h; cases e; exact .bl b
  | .int i, _, _, h, e => by cases h; cases e; exact .int i
  | .str s, _, _, h, e => by cases h; cases e; exact .str s
  | .list xs, _, _, h, e => by
    simp only [toPy, Option.map_eq_some_iff] at e
    obtain ⟨ps, e1, rfl⟩ := e
    cases h with
    | list h1 h2 => exact .lst h1 (dps_of xs _ ps h2 e1)
  | .tuple xs, _, _, h, e => by
    simp only [toPy, Option.map_eq_some_iff] at e
    obtain ⟨ps, e1, rfl⟩ := e
    cases h with
    | tuple h1 h2 => exact .tup h1.sq (dps_of xs _ ps h2 e1)
  | .dictK _ _, _, _, h, e => by simp [toPy] at e
  | .dictT _ _, _, _, h, e => by simp [toPy] at e
  | .fn _, _, _, h, e => by simp [toPy] at e
theorem dps_of : ∀ (ds : List D) (vs : List L2.V) (ps : List PyData), RA K H vs ds → toPy.toPys ds = some ps → DpAll K H vs ps
  | [], _, _, h, e => by cases h; cases e; exact .nil
  | d :: ds, _, _, h, e => by
    cases h with
    | cons h1 h2 =>
      simp only [toPy.toPys] at e
      split at e
      · rename_i p ps' q1 q2
        cases e
        exact .cons (dp_of d _ p h1 q1) (dps_of ds _ ps' h2 q2)
      · cases e
end
def scalD : D → Bool
  | .none => true
  | .bool _ => true
  | .int _ => true
  | .str _ => true
  | _ => false
/-- equal data (without dicts) -/
def eqD (d e : D) : Option Bool := match d, e with
  | .int i, .int j => some (decide (i = j))
  | .str i, .str j => some (decide (i = j))
  | .bool i, .bool j => some (decide (i = j))
  | _, _ => (toPy d).bind fun p => (toPy e).bind fun q => if SeqAt.shaped p = true ∧ SeqAt.shaped q = true then some (PyData.eqv p q) else none
def gEq : D → D → Option Res := fun d e => (eqD d e).map fun b => .val (.bool b)
def gNe : D → D → Option Res := fun d e => (eqD d e).map fun b => .val (.bool (!b))
theorem eqD_inv {d e : D} {b : Bool} {x y : L2.V} (hx : R K H x d) (hy : R K H y e) (h : eqD d e = some b) : (scal x y = true ∧ b = decide (x = y)) ∨ ∃ p q, Dp K H x p ∧ Dp K H y q ∧ SeqAt.shaped p = true ∧ SeqAt.shaped q = true ∧ b = PyData.eqv p q := by
  unfold eqD at h
  split at h
  · cases hx; cases hy; cases h; exact .inl ⟨rfl, by simp⟩
  · cases hx; cases hy; cases h; exact .inl ⟨rfl, by simp⟩
  · cases hx; cases hy; cases h; exact .inl ⟨rfl, by simp⟩
  · simp only [Option.bind_eq_some_iff] at h
    obtain ⟨p, h1, q, h2, h3⟩ := h
    split at h3
    · rename_i hs
      cases h3
      exact .inr ⟨p, q, dp_of _ _ _ hx h1, dp_of _ _ _ hy h2, hs.1, hs.2, rfl⟩
    · cases h3
theorem bin_eq : BinOk K (rOr rEq (rEqD K)) gEq := by
  intro V H x y d e res sub hx hy hg Q q
  simp only [gEq, Option.map_eq_some_iff] at hg
  obtain ⟨b, hb, rfl⟩ := hg
  rcases eqD_inv (hx.seen sub) (hy.seen sub) hb with ⟨h1, rfl⟩ | ⟨p, p', h1, h2, h3, h4, rfl⟩
  · exact .inl ⟨h1, q _ V H (Al.refl sub) (.bool _)⟩
  · exact .inr ⟨p, p', h1, h2, h3, h4, q _ V H (Al.refl sub) (.bool _)⟩
theorem bin_ne : BinOk K (rOr rNe (rNeD K)) gNe := by
  intro V H x y d e res sub hx hy hg Q q
  simp only [gNe, Option.map_eq_some_iff] at hg
  obtain ⟨b, hb, rfl⟩ := hg
  rcases eqD_inv (hx.seen sub) (hy.seen sub) hb with ⟨h1, rfl⟩ | ⟨p, p', h1, h2, h3, h4, rfl⟩
  · exact .inl ⟨h1, q _ V H (Al.refl sub) (.bool _)⟩
  · exact .inr ⟨p, p', h1, h2, h3, h4, q _ V H (Al.refl sub) (.bool _)⟩
/-- is None -/
def isNoneD : D → Bool
  | .none => true
  | _ => false
def gIs : D → D → Option Res := fun d e => match e with
  | .none => some (.val (.bool (isNoneD d)))
  | _ => none
def gIsN : D → D → Option Res := fun d e => match e with
  | .none => some (.val (.bool (!isNoneD d)))
  | _ => none
theorem non_iff {d : D} (h : R K H v d) : decide (v = .non) = isNoneD d := by cases h <;> rfl
theorem bin_is : BinOk K (fun x y H Q => y = .non ∧ Q (.bl (decide (x = .non))) H) gIs := by
  intro V H x y d e res sub hx hy hg Q q
  unfold gIs at hg
  split at hg
  · cases hg
    refine ⟨hy.none, ?_⟩
    rw [non_iff (hx.seen sub)]
    exact q _ V H (Al.refl sub) (.bool _)
  · cases hg
theorem bin_isN : BinOk K (fun x y H Q => y = .non ∧ Q (.bl (!decide (x = .non))) H) gIsN := by
  intro V H x y d e res sub hx hy hg Q q
  unfold gIsN at hg
  split at hg
  · cases hg
    refine ⟨hy.none, ?_⟩
    rw [non_iff (hx.seen sub)]
    exact q _ V H (Al.refl sub) (.bool _)
  · cases hg
/-- tuples of ints: < -/
def intsOf : List D → Option (List Int)
  | [] => some []
  | .int i :: ds => (intsOf ds).map (i :: ·)
  | _ :: _ => none
theorem intsOf_eq : ∀ {ds : List D} {ns : List Int}, intsOf ds = some ns → ds = ns.map D.int
  | [], ns, h => by cases h; rfl
  | d :: ds, ns, h => by
    cases d with
    | int i =>
      simp only [intsOf, Option.map_eq_some_iff] at h
      obtain ⟨ms, h1, rfl⟩ := h
      rw [intsOf_eq h1]
      rfl
    | _ => cases h
def gLtT : D → D → Option Res := fun d e => match d, e with
  | .tuple s, .tuple t => (intsOf s).bind fun ns => (intsOf t).bind fun ms => some (.val (.bool (HT.lexLt ns ms)))
  | _, _ => none
theorem bin_ltT : BinOk K (rLtT K) gLtT := by
  intro V H x y d e res sub hx hy hg Q q
  unfold gLtT at hg
  split at hg
  · simp only [Option.bind_eq_some_iff] at hg
    obtain ⟨ns, h1, ms, h2, h3⟩ := hg
    cases h3
    obtain ⟨a, xs, rfl, k1, k2⟩ := hx.tuple
    obtain ⟨b, ys, rfl, k3, k4⟩ := hy.tuple
    rw [intsOf_eq h1] at k2
    rw [intsOf_eq h2] at k4
    rw [k2.ofInts] at k1
    rw [k4.ofInts] at k3
    exact ⟨a, b, ns, ms, rfl, rfl, Evl.ex_t sub k1, Evl.ex_t sub k3, q _ V H (Al.refl sub) (.bool _)⟩
  · cases hg
/-- in -/
def flatD : D → Bool
  | .none => true
  | .bool _ => true
  | .int _ => true
  | .str _ => true
  | _ => false
def eqF : D → D → Bool
  | .none, .none => true
  | .bool a, .bool b => a == b
  | .bool a, .int b => (if a then 1 else 0) == b
  | .int a, .bool b => a == (if b then 1 else 0)
  | .int a, .int b => a == b
  | .str a, .str b => a == b
  | _, _ => false
theorem flat_of {d : D} (h : R K H v d) (e : flatD d = true) : flatV v = true := by cases h <;> first | rfl | cases e
theorem eqF_of {d e : D} {x y : L2.V} (h : R K H x d) (k : R K H y e) (f : flatD d = true) (f2 : flatD e = true) : eqV x y = eqF d e := by
  cases h <;> cases k <;> first | rfl | cases f | cases f2
theorem flats_of : ∀ {ds : List D} {vs : List L2.V}, RA K H vs ds → ds.all flatD = true → vs.all flatV = true
  | [], _, h, _ => by cases h; rfl
  | d :: ds, _, h, e => by
    cases h with
    | cons h1 h2 =>
      rw [List.all_cons, Bool.and_eq_true] at e ⊢
      exact ⟨flat_of h1 e.1, flats_of h2 e.2⟩
theorem inV_of {d : D} {x : L2.V} (hx : R K H x d) (f : flatD d = true) : ∀ {ds : List D} {vs : List L2.V}, RA K H vs ds → ds.all flatD = true → inV x vs = ds.any fun e => eqF e d
  | [], _, h, _ => by cases h; rfl
  | e :: ds, _, h, k => by
    cases h with
    | cons h1 h2 =>
      rw [List.all_cons, Bool.and_eq_true] at k
      have q := inV_of hx f h2 k.2
      unfold inV at q ⊢
      rw [List.any_cons, List.any_cons, q, eqF_of h1 hx k.1 f]
def itemsD : D → Option (List D)
  | .list ds => some ds
  | .tuple ds => some ds
  | _ => none
def gIn (neg : Bool) : D → D → Option Res := fun d e => (itemsD e).bind fun ds => if flatD d = true ∧ ds.all flatD = true then some (.val (.bool (if neg then !ds.any (fun e => eqF e d) else ds.any (fun e => eqF e d)))) else none
theorem bin_in {neg : Bool} : BinOk K (rIn K neg) (gIn neg) := by
  intro V H x y d e res sub hx hy hg Q q
  simp only [gIn, Option.bind_eq_some_iff] at hg
  obtain ⟨ds, h1, h2⟩ := hg
  split at h2
  · rename_i hf
    cases h2
    have rx := hx.seen sub
    cases e with
    | list es =>
      cases h1
      obtain ⟨a, xs, rfl, k1, k2⟩ := hy.list sub
      refine ⟨a, xs, rfl, .inl k1, flat_of rx hf.1, flats_of k2 hf.2, ?_⟩
      rw [inV_of rx hf.1 (RA.mono sub _ _ k2) hf.2]
      exact q _ V H (Al.refl sub) (.bool _)
    | tuple es =>
      cases h1
      obtain ⟨a, xs, rfl, k1, k2⟩ := hy.tuple
      refine ⟨a, xs, rfl, .inr (Evl.ex_t sub k1), flat_of rx hf.1, flats_of k2 hf.2, ?_⟩
      rw [inV_of rx hf.1 (RA.mono sub _ _ k2) hf.2]
      exact q _ V H (Al.refl sub) (.bool _)
    | _ => cases h1
  · cases h2
def gInS (neg : Bool) : D → D → Option Res := fun d e => match d, e with
  | .str s, .str t => some (.val (.bool (if neg then !(!(Builtin.Str.occurrences t s 0 t.length 1).isEmpty) else !(Builtin.Str.occurrences t s 0 t.length 1).isEmpty)))
  | _, _ => none
theorem bin_inS : BinOk K (fun x y H Q => ∃ i j, x = .str i ∧ y = .str j ∧ Q (.bl (!(Builtin.Str.occurrences j i 0 j.length 1).isEmpty)) H) (gInS false) := by
  intro V H x y d e res sub hx hy hg Q q
  unfold gInS at hg
  split at hg
  · cases hx.str
    cases hy.str
    cases hg
    exact ⟨_, _, rfl, rfl, q _ V H (Al.refl sub) (.bool _)⟩
  · cases hg
theorem bin_ninS : BinOk K (fun x y H Q => ∃ i j, x = .str i ∧ y = .str j ∧ Q (.bl (!(!(Builtin.Str.occurrences j i 0 j.length 1).isEmpty))) H) (gInS true) := by
  intro V H x y d e res sub hx hy hg Q q
  unfold gInS at hg
  split at hg
  · cases hx.str
    cases hy.str
    cases hg
    exact ⟨_, _, rfl, rfl, q _ V H (Al.refl sub) (.bool _)⟩
  · cases hg
/-- x[i] -/
def gIx : D → D → Option Res := fun d e => match d, e with
  | .list ds, .int i => (atI ds i).map .val
  | .tuple ds, .int i => (atI ds i).map .val
  | .str s, .int i => if s.length ≤ 100000 then (atI s.cps.toList i).map fun c => .val (.str ⟨#[c]⟩) else none
  | _, _ => none
theorem RA.atI {xs : List L2.V} {ds : List D} {i : Int} {d : D} (h : RA K V xs ds) (e : L2.atI ds i = some d) : ∃ x, L2.atI xs i = some x ∧ R K V x d := by
  unfold L2.atI at e ⊢
  rw [h.len]
  cases q : ixN ds.length i with
  | none => rw [q] at e; cases e
  | some j =>
    rw [q] at e
    obtain ⟨x, h1, h2⟩ := h.get e
    exact ⟨x, h1, h2⟩
theorem bin_ix : BinOk K (rIx K) gIx := by
  intro V H x y d e res sub hx hy hg Q q
  unfold gIx at hg
  split at hg
  · simp only [Option.map_eq_some_iff] at hg
    obtain ⟨d', h1, rfl⟩ := hg
    obtain ⟨a, xs, rfl, k1, k2⟩ := hx.list sub
    cases hy.int
    obtain ⟨z, h2, h3⟩ := k2.atI h1
    exact .inl ⟨a, xs, _, z, rfl, rfl, k1, h2, q z V H (Al.refl sub) h3⟩
  · simp only [Option.map_eq_some_iff] at hg
    obtain ⟨d', h1, rfl⟩ := hg
    obtain ⟨a, xs, rfl, k1, k2⟩ := hx.tuple
    cases hy.int
    obtain ⟨z, h2, h3⟩ := k2.atI h1
    exact .inr (.inl ⟨a, xs, _, z, rfl, rfl, Evl.ex_t sub k1, h2, q z V H (Al.refl sub) h3⟩)
  · split at hg
    · rename_i hz
      simp only [Option.map_eq_some_iff] at hg
      obtain ⟨c, h1, rfl⟩ := hg
      cases hx.str
      cases hy.int
      exact .inr (.inr ⟨_, _, c, rfl, rfl, Evl.sz_of hz, h1, q _ V H (Al.refl sub) (.str _)⟩)
    · cases hg
  · cases hg
/-! ### slices -/
abbrev EvO := Nv → Option (Option Int × Nv)
def SdO (K : PySem.W.Frag) (t : TO) (f : EvO) : Prop := ∀ env o env', f env = some (o, env') → ∀ (σ : L2.St) (V H : Hp), NvOk K V H σ env →
  ∀ Q : Option Int → Hp → Prop, (∀ V' H', Adv K σ env σ env' V H V' H' → Q o H') → t σ H Q
def iNoP : EvO := fun env => some (none, env)
def isI : Res → Option Int
  | .val (.int i) => some i
  | _ => none
theorem isI_val {r : Res} {b : Int} (h : isI r = some b) : r = .val (.int b) := by
  cases r with
  | val d => cases d <;> first | (cases h; rfl) | cases h
  | _ => cases h
def iPart (f : EvF) : EvO := fun env => (f env).bind fun p => (isI p.1).bind fun i => some (some i, p.2)
theorem sdo_none : SdO K tNoPart iNoP := by
  intro env o env' e σ V H ok Q q
  cases e
  exact q V H (Adv.refl ok)
theorem sdo_part {f : EvF} (ha : Sd K te f) : SdO K (tPart te) (iPart f) := by
  intro env o env' e σ V H ok Q q
  simp only [iPart, Option.bind_eq_some_iff] at e
  obtain ⟨⟨r, e1⟩, h1, i, h2, h3⟩ := e
  cases h3
  have hr : r = _ := isI_val h2
  subst hr
  refine ha _ _ _ h1 σ V H ok _ fun v V' H' a k => ?_
  cases k
  exact ⟨i, rfl, q V' H' a⟩
def cutD {α : Type} (xs : List α) (lo hi : Option Int) : List α := (xs.drop (HT.sIx xs.length 0 lo)).take (HT.sIx xs.length xs.length hi - HT.sIx xs.length 0 lo)
theorem RA.cut {xs : List L2.V} {ds : List D} {lo hi : Option Int} (h : RA K V xs ds) : RA K V (cutV xs lo hi) (cutD ds lo hi) := by
  unfold cutV cutD
  rw [h.len]
  exact (h.drop _).take _
def gSl : D → Option Int → Option Int → Option Res := fun d lo hi => match d with
  | .list ds => some (.new (.list (cutD ds lo hi)))
  | .tuple ds => some (.val (.tuple (cutD ds lo hi)))
  | .str s => if s.length ≤ 100000 then some (.val (.str (cutS s lo hi))) else none
  | _ => none
def rSlU (K : PySem.W.Frag) : L2.V → Option Int → Option Int → Hp → VK → Prop := fun x lo hi H Q => rSlL K x lo hi H Q ∨ rSlA K x lo hi H Q ∨ rSlS x lo hi H Q
def iSl (f : EvF) (lo hi : EvO) : EvF := fun env => (opd f env).bind fun p => (lo p.2).bind fun q => (hi q.2).bind fun r => (look r.2 p.1).bind fun d => (gSl d q.1 r.1).bind fun z => some (z, r.2)
theorem cut_whole {α : Type} {xs : List α} {lo hi : Option Int} (h : HT.sIx xs.length 0 lo = 0 ∧ HT.sIx xs.length xs.length hi = xs.length) : cutD xs lo hi = xs := by
  unfold cutD
  rw [h.1, h.2]
  simp
theorem sd_sl {f : EvF} {tl th : TO} {lo hi : EvO} (ha : Sd K te f) (h1 : SdO K tl lo) (h2 : SdO K th hi) : Sd K (tSl (rSlU K) te tl th) (iSl f lo hi) := by
  intro env res env' e σ V H ok Q q
  simp only [iSl, Option.bind_eq_some_iff] at e
  obtain ⟨⟨ra, e1⟩, k1, ⟨o1, e2⟩, k2, ⟨o2, e3⟩, k3, d, k4, z, k5, k6⟩ := e
  cases k6
  refine opd_snd ha k1 ok fun x V1 H1 a1 c1 => ?_
  refine h1 _ _ _ k2 σ V1 H1 a1.ok _ fun V2 H2 a2 => ?_
  refine h2 _ _ _ k3 σ V2 H2 a2.ok _ fun V3 H3 a3 => ?_
  have a := (a1.trans a2).trans a3
  have op := ((c1.mono a2.ex).mono a3.ex).look a.ok k4
  have go : ∀ v V' H', Al V3 H3 V' H' → RR K H3 V' H' v res → Q v H' := fun v V' H' b hr => q v V' H' (a.trans (b.adv a.ok)) (hr.rok a b)
  have k5' : gSl d o1 o2 = some res := k5
  unfold gSl at k5'
  split at k5'
  · cases k5'
    obtain ⟨l, xs, rfl, g1, g2⟩ := op.list a.ok.sub
    exact .inl ⟨l, xs, rfl, g1, fun p hp => go _ _ _ (Al.hid a.ok.sub hp) ⟨p, rfl, hp, Evl.fresh_back a.ok.sub hp, _, upd_same, g2.cut⟩⟩
  · cases k5'
    obtain ⟨l, xs, rfl, g1, g2⟩ := op.tupleS
    refine .inr (.inl ⟨l, xs, rfl, Evl.ex_t a.ok.sub g1.sq, fun hw => ?_, fun _ p hp => ?_⟩)
    · have hw' := hw
      rw [g2.len] at hw'
      rw [cut_whole hw'] at go
      exact go _ V3 H3 (Al.refl a.ok.sub) (.tuple g1 g2)
    · have b : Al V3 H3 (upd V3 p (.tup (cutV xs o1 o2))) (upd H3 p (.tup (cutV xs o1 o2))) := Al.new a.ok.sub hp
      exact go _ _ _ b (.tuple (St.of upd_same) (RA.mono b.ex _ _ g2.cut))
  · split at k5'
    · rename_i hz
      cases k5'
      cases op.str
      exact .inr (.inr ⟨_, rfl, Evl.sz_of hz, go _ V3 H3 (Al.refl a.ok.sub) (.str _)⟩)
    · cases k5'
  · cases k5'
end
end DL

namespace DL
open PySem PySem.Spec PyProof.Rows L2
open Evl (Ex)

/-! ### built-ins by values -/
def cOr (r s : List L2.V → Hp → VK → Prop) : List L2.V → Hp → VK → Prop := fun vs H Q => r vs H Q ∨ s vs H Q
theorem callOr {X : Cx} {f : Value} {r s : List L2.V → Hp → VK → Prop} (h : CallR X f r) (k : CallR X f s) : CallR X f (cOr r s) := by
  intro pins st σ H vs us Q I rv q
  rcases q with q | q
  · exact h pins st σ H vs us Q I rv q
  · exact k pins st σ H vs us Q I rv q
def altC (g h : List D → Option Res) : List D → Option Res := fun ds => match g ds with
  | some r => some r
  | none => h ds
section
variable {K : PySem.W.Frag} {σ σ1 : L2.St} {env env1 env2 : Nv} {V H V1 H1 V2 H2 : Hp} {v : L2.V} {te ta tb : TE}
theorem callOkOr {r s : List L2.V → Hp → VK → Prop} {g h : List D → Option Res} (a : CallOk K r g) (b : CallOk K s h) : CallOk K (cOr r s) (altC g h) := by
  intro V H vs ds res sub hv hg Q q
  unfold altC at hg
  split at hg
  · rename_i r' hr
    cases hg
    exact .inl (a V H vs ds res sub hv hr Q q)
  · exact .inr (b V H vs ds res sub hv hg Q q)
theorem OpA.one {vs : List L2.V} {d : D} (h : OpA K V H vs [d]) : ∃ v, vs = [v] ∧ OpOk K V H v d := by
  cases h with
  | cons h1 h2 => cases h2; exact ⟨_, rfl, h1⟩
def lenD : D → Option Int
  | .str s => if s.length ≤ 100000 then some (s.length : Int) else none
  | .list ds => some (ds.length : Int)
  | .tuple ds => some (ds.length : Int)
  | _ => none
def c1 (g : D → Option Res) : List D → Option Res := fun ds => match ds with
  | [d] => g d
  | _ => none
def gLen : D → Option Res := fun d => (lenD d).map fun i => .val (.int i)
theorem call_len_ok : CallOk K (fun xs H Q => ∃ x n, xs = [x] ∧ LenV K x H n ∧ Q (.int n) H) (c1 gLen) := by
  intro V H vs ds res sub hv hg Q q
  unfold c1 at hg
  split at hg
  · obtain ⟨v, rfl, hx⟩ := hv.one
    simp only [gLen, Option.map_eq_some_iff] at hg
    obtain ⟨i, h1, rfl⟩ := hg
    rename_i d
    cases d with
    | str s =>
      simp only [lenD] at h1
      split at h1
      · rename_i hz
        cases h1
        cases hx.str
        exact ⟨_, _, rfl, ⟨Evl.sz_of hz, rfl⟩, q _ V H (Al.refl sub) (.int _)⟩
      · cases h1
    | list ds =>
      cases h1
      obtain ⟨a, xs, rfl, k1, k2⟩ := hx.list sub
      exact ⟨_, _, rfl, .inl ⟨xs, k1, rfl⟩, q _ V H (Al.refl sub) (by rw [k2.len]; exact .int _)⟩
    | tuple ds =>
      cases h1
      obtain ⟨a, xs, rfl, k1, k2⟩ := hx.tuple
      exact ⟨_, _, rfl, .inr ⟨xs, Evl.ex_t sub k1, rfl⟩, q _ V H (Al.refl sub) (by rw [k2.len]; exact .int _)⟩
    | _ => cases h1
  · cases hg
def gInt : D → Option Res
  | .int i => some (.val (.int i))
  | .bool b => some (.val (.int (if b then 1 else 0)))
  | _ => none
theorem call_int_ok : CallOk K (fun xs H Q => (∃ i, xs = [.int i] ∧ Q (.int i) H) ∨ ∃ k, xs = [.bl k] ∧ Q (.int (if k then 1 else 0)) H) (c1 gInt) := by
  intro V H vs ds res sub hv hg Q q
  unfold c1 at hg
  split at hg
  · obtain ⟨v, rfl, hx⟩ := hv.one
    unfold gInt at hg
    split at hg
    · cases hg
      cases hx.int
      exact .inl ⟨_, rfl, q _ V H (Al.refl sub) (.int _)⟩
    · cases hg
      cases hx.bool
      exact .inr ⟨_, rfl, q _ V H (Al.refl sub) (.int _)⟩
    · cases hg
  · cases hg
def gList : D → Option Res := fun d => (itemsD d).map fun ds => .new (.list ds)
theorem call_list_ok : CallOk K (fun xs H Q => ∃ p ys, xs = [.ref p] ∧ (SqL K H p ys ∨ SqT K H p ys) ∧ ∀ l, H l = none → Q (.ref l) (upd H l (.lst ys))) (c1 gList) := by
  intro V H vs ds res sub hv hg Q q
  unfold c1 at hg
  split at hg
  · obtain ⟨v, rfl, hx⟩ := hv.one
    simp only [gList, Option.map_eq_some_iff] at hg
    obtain ⟨es, h1, rfl⟩ := hg
    rename_i d
    have fin : ∀ (xs : List L2.V), RA K V xs es → ∀ l, H l = none → Q (.ref l) (upd H l (.lst xs)) := fun xs r l hl => q _ _ _ (Al.hid sub hl) ⟨l, rfl, hl, Evl.fresh_back sub hl, xs, upd_same, r⟩
    cases d with
    | list ds =>
      cases h1
      obtain ⟨a, xs, rfl, k1, k2⟩ := hx.list sub
      exact ⟨_, _, rfl, .inl k1, fin xs k2⟩
    | tuple ds =>
      cases h1
      obtain ⟨a, xs, rfl, k1, k2⟩ := hx.tuple
      exact ⟨_, _, rfl, .inr (Evl.ex_t sub k1), fin xs k2⟩
    | _ => cases h1
  · cases hg
def gTuple : D → Option Res := fun d => (itemsD d).map fun ds => .val (.tuple ds)
theorem call_tuple_ok : CallOk K (fun xs H Q => ∃ p ys, xs = [.ref p] ∧ ((SqL K H p ys ∧ ∀ l, H l = none → Q (.ref l) (upd H l (.tup ys))) ∨ (SqT K H p ys ∧ Q (.ref p) H))) (c1 gTuple) := by
  intro V H vs ds res sub hv hg Q q
  unfold c1 at hg
  split at hg
  · obtain ⟨v, rfl, hx⟩ := hv.one
    simp only [gTuple, Option.map_eq_some_iff] at hg
    obtain ⟨es, h1, rfl⟩ := hg
    rename_i d
    cases d with
    | list ds =>
      cases h1
      obtain ⟨a, xs, rfl, k1, k2⟩ := hx.list sub
      exact ⟨_, _, rfl, .inl ⟨k1, fun l hl => by
        have b : Al V H (upd V l (.tup xs)) (upd H l (.tup xs)) := Al.new sub hl
        exact q _ _ _ b (.tuple (St.of upd_same) (RA.mono b.ex _ _ k2))⟩⟩
    | tuple ds =>
      cases h1
      obtain ⟨a, xs, rfl, k1, k2⟩ := hx.tupleS
      exact ⟨_, _, rfl, .inr ⟨Evl.ex_t sub k1.sq, q _ V H (Al.refl sub) (.tuple k1 k2)⟩⟩
    | _ => cases h1
  · cases hg
def boolsOf : List D → Option (List Bool)
  | [] => some []
  | .bool i :: ds => (boolsOf ds).map (i :: ·)
  | _ :: _ => none
theorem boolsOf_eq : ∀ {ds : List D} {bs : List Bool}, boolsOf ds = some bs → ds = bs.map D.bool
  | [], bs, h => by cases h; rfl
  | d :: ds, bs, h => by
    cases d with
    | bool i =>
      simp only [boolsOf, Option.map_eq_some_iff] at h
      obtain ⟨ms, h1, rfl⟩ := h
      rw [boolsOf_eq h1]
      rfl
    | _ => cases h
theorem RA.ofBools : ∀ {bs : List Bool} {vs : List L2.V}, RA K H vs (bs.map D.bool) → vs = bs.map L2.V.bl
  | [], _, h => by cases h; rfl
  | n :: ns, _, h => by
    cases h with
    | cons h1 h2 =>
      cases h1
      rw [RA.ofBools h2]
      rfl
def gAll (all : Bool) : D → Option Res
  | .list ds => (boolsOf ds).map fun bs => .val (.bool (if all then bs.all id else bs.any id))
  | _ => none
theorem call_all_ok : CallOk K (rAll K) (c1 (gAll true)) := by
  intro V H vs ds res sub hv hg Q q
  unfold c1 at hg
  split at hg
  · obtain ⟨v, rfl, hx⟩ := hv.one
    unfold gAll at hg
    split at hg
    · simp only [Option.map_eq_some_iff] at hg
      obtain ⟨bs, h1, rfl⟩ := hg
      obtain ⟨a, xs, rfl, k1, k2⟩ := hx.list sub
      rw [boolsOf_eq h1] at k2
      rw [k2.ofBools] at k1
      exact ⟨a, bs, rfl, k1, q _ V H (Al.refl sub) (.bool _)⟩
    · cases hg
  · cases hg
theorem call_any_ok : CallOk K (rAny K) (c1 (gAll false)) := by
  intro V H vs ds res sub hv hg Q q
  unfold c1 at hg
  split at hg
  · obtain ⟨v, rfl, hx⟩ := hv.one
    unfold gAll at hg
    split at hg
    · simp only [Option.map_eq_some_iff] at hg
      obtain ⟨bs, h1, rfl⟩ := hg
      obtain ⟨a, xs, rfl, k1, k2⟩ := hx.list sub
      rw [boolsOf_eq h1] at k2
      rw [k2.ofBools] at k1
      exact ⟨a, bs, rfl, k1, q _ V H (Al.refl sub) (.bool _)⟩
    · cases hg
  · cases hg
def gSum : D → Option Res
  | .list ds => (intsOf ds).map fun ns => .val (.int ns.sum)
  | _ => none
theorem call_sum_ok : CallOk K (rSum K) (c1 gSum) := by
  intro V H vs ds res sub hv hg Q q
  unfold c1 at hg
  split at hg
  · obtain ⟨v, rfl, hx⟩ := hv.one
    unfold gSum at hg
    split at hg
    · simp only [Option.map_eq_some_iff] at hg
      obtain ⟨bs, h1, rfl⟩ := hg
      obtain ⟨a, xs, rfl, k1, k2⟩ := hx.list sub
      rw [intsOf_eq h1] at k2
      rw [k2.ofInts] at k1
      exact ⟨a, bs, rfl, k1, q _ V H (Al.refl sub) (.int _)⟩
    · cases hg
  · cases hg

/-! ### isinstance -/
def tyName : D → Option String
  | .none => some "NoneType"
  | .bool _ => some "bool"
  | .int _ => some "int"
  | .str _ => some "str"
  | .list _ => some "list"
  | .tuple _ => some "tuple"
  | .dictK _ _ => some "dict"
  | .dictT _ _ => some "dict"
  | .fn _ => none
theorem tyX_of {d : D} {T : String} (h : R K H v d) (e : tyName d = some T) : TyX K H v (.type T) := by
  cases h with
  | none => cases e; exact .base .non
  | bool b => cases e; exact .base (.bl b)
  | int i => cases e; exact .base (.int i)
  | str x => cases e; exact .base (.str x)
  | list hs ha =>
    cases e
    rcases hs with (hs | ⟨o, hs⟩) | ⟨o, its, n, h1, h2, _⟩
    · exact .base (.lst hs)
    · exact .base (.frz hs)
    · exact .kList h1 h2
  | tuple hs ha =>
    cases e
    rcases hs with hs | ⟨o, its, n, h1, h2, _⟩
    · exact .base (.tup hs)
    · exact .kTuple h1 h2
  | dictK hs _ _ => cases e; exact .base (.dK hs)
  | dictT hs _ _ => cases e; exact .base (.dT hs)
def isiD (T : String) (d : D) : Option Bool := (tyName d).bind fun S => kitB S T
def iIsi (T : String) (f : EvF) : EvF := fun env => (opd f env).bind fun p => (look p.2 p.1).bind fun d => (isiD T d).bind fun b => some (.val (.bool b), p.2)
theorem sd_isi {f : EvF} {T : String} (ha : Sd K te f) : Sd K (tCB (rIsi K) (tCons te (tCons (tC (.ty T)) tNil))) (iIsi T f) := by
  intro env res env' e σ V H ok Q q
  simp only [iIsi, Option.bind_eq_some_iff] at e
  obtain ⟨⟨ra, e1⟩, h1, d, h3, b, h5, h6⟩ := e
  cases h6
  refine opd_snd ha h1 ok fun x V1 H1 a k1 => ?_
  have op := (k1.look a.ok h3).seen a.ok.sub
  simp only [isiD, Option.bind_eq_some_iff] at h5
  obtain ⟨S, g1, g2⟩ := h5
  exact ⟨x, .ty T, .type S, .type T, b, rfl, .ty T, tyX_of op g1, kit_ty g2, q _ V1 H1 a (.bool b)⟩

/-! ### an owned container is changed -/
theorem adv_upd {i : Nat} {p : Bool} {d d' : D} {l : Addr} {o : HO} (a : Adv K σ env σ1 env1 V H V1 H1) (e : env1[i]? = some (.own p d)) (hl : σ1[i]? = some (some (.ref l))) (hc : OwnC K V1 (upd H1 l o) l d') :
    Adv K σ env σ1 (env1.set i (.own p d')) V H V1 (upd H1 l o) := by
  obtain ⟨l', g1, g2, g3⟩ := a.ok.ownC e
  rw [hl] at g1
  cases g1
  obtain ⟨u, hu⟩ := g3.there
  have hi := (List.getElem?_eq_some_iff.mp e).1
  have own1 : ∀ (j : Nat) (q : Bool) (f : D), (env1.set i (.own p d'))[j]? = some (.own q f) → ∃ f0, env1[j]? = some (.own q f0) := by
    intro j q f h1
    by_cases z : j = i
    · subst z
      rw [List.getElem?_set_self hi] at h1
      cases h1
      exact ⟨d, e⟩
    · rw [List.getElem?_set_ne (fun y => z y.symm)] at h1
      exact ⟨f, h1⟩
  have ol : Own env1 σ1 l := ⟨i, p, d, e, hl⟩
  refine ⟨⟨by rw [List.length_set]; exact a.ok.len, fun b x hb => ?_, fun j w s h1 h2 => ?_, fun j k q q' f f' m h1 h2 h3 h4 => ?_, ?tabs⟩, a.ex, a.fr, fun b x hb n t => ?_, fun b q hb t => ?_, fun b hb => ?_, fun m h => ?_, fun m h => ?_, fun j f h => ?_⟩
  · have nb : b ≠ l := fun z => by rw [z, g2] at hb; cases hb
    rw [upd_ne nb]
    exact a.ok.sub b x hb
  · by_cases z : j = i
    · subst z
      rw [List.getElem?_set_self hi] at h2
      cases h2
      rw [hl] at h1
      cases h1
      exact ⟨l, rfl, g2, hc⟩
    · rw [List.getElem?_set_ne (fun y => z y.symm)] at h2
      have q := a.ok.slot j w s h1 h2
      cases s with
      | no => cases w <;> trivial
      | val f =>
        cases w with
        | none => exact q
        | some v => exact q
      | own q2 f =>
        cases w with
        | none => exact q
        | some v =>
          obtain ⟨m, rfl, k1, k2⟩ := q
          have nm : m ≠ l := fun y => by
            subst y
            exact z (a.ok.one j i q2 p f d m h2 e h1 hl)
          exact ⟨m, rfl, k1, k2.mono (Evl.Ex.refl _) (upd_ne nm)⟩
  · obtain ⟨f1, y1⟩ := own1 j q f h1
    obtain ⟨f2, y2⟩ := own1 k q' f' h2
    exact a.ok.one j k q q' f1 f2 m y1 y2 h3 h4
  case tabs =>
    exact a.ok.tabs.of fun b q hb t => ⟨q, by rw [upd_ne fun z => by subst z; exact g3.nt hb q rfl]; exact hb, t⟩
  · have k := a.keep b x hb n t
    by_cases z : b = l
    · subst z
      rcases a.own b ol with y | y
      · exact absurd y n
      · rw [hb] at y; cases y
    · rw [upd_ne z]; exact k
  · obtain ⟨q', h1, t1⟩ := a.tab b q hb t
    have nb : b ≠ l := fun z => by
      subst z
      exact g3.nt h1 q' rfl
    exact ⟨q', by rw [upd_ne nb]; exact h1, t1⟩
  · by_cases z : b = l
    · subst z; rw [upd_same]; exact fun y => by cases y
    · rw [upd_ne z]; exact a.dom b hb
  · obtain ⟨j, q, f, h1, h2⟩ := h
    obtain ⟨f1, y1⟩ := own1 j q f h1
    exact a.own m ⟨j, q, f1, y1, h2⟩
  · obtain ⟨j, f, h1, h2⟩ := h
    obtain ⟨f1, y1⟩ := own1 j false f h1
    exact a.ownL m ⟨j, f1, y1, h2⟩
  · obtain ⟨⟨f1, h1⟩, h2⟩ := a.par j f h
    by_cases z : j = i
    · subst z
      rw [e] at h1
      cases h1
      rw [List.getElem?_set_self hi]
      exact ⟨⟨d', rfl⟩, h2⟩
    · rw [List.getElem?_set_ne (fun y => z y.symm)]
      exact ⟨⟨f1, h1⟩, h2⟩
/-- x.append(e) -/
def iApp (i : Nat) (f : EvF) : StF := fun env => match env[i]? with
  | some (.own _ (.list _)) => (opd f env).bind fun p => (vis p.1).bind fun d => match p.2[i]? with
    | some (.own q (.list ds)) => if ds.length < 100000 then some (.next (p.2.set i (.own q (.list (ds ++ [d]))))) else none
    | _ => none
  | _ => none
theorem sds_app {i : Nat} {f : EvF} (ha : Sd K te f) : SdS K (tDrop (tBM K "list" rAppend (tVar i) (tCons te tNil))) (iApp i f) := by
  intro env fl e σ V H ok E q
  unfold iApp at e
  split at e
  · rename_i p0 d0 he0
    simp only [Option.bind_eq_some_iff] at e
    obtain ⟨⟨r, e1⟩, h1, d, h2, h3⟩ := e
    split at h3
    · rename_i p ds he
      split at h3
      · rename_i hz
        cases h3
        obtain ⟨l0, g1, g2, g3⟩ := ok.ownC he0
        refine ⟨_, g1, ?_, ?_⟩
        · obtain ⟨xs, hx, _⟩ := g3
          exact .inl ⟨rfl, xs, Evl.sq_of hx⟩
        · refine opd_snd ha h1 ok fun v V1 H1 a k => ?_
          obtain ⟨l, y1, y2, xs, y3, y4⟩ := a.ok.ownC he
          rw [g1] at y1
          cases y1
          have rv : R K V1 v d := by
            cases r with
            | val d' => cases h2; exact k
            | new d' => exact k.elim
            | own j => cases h2
          exact ⟨_, xs, v, rfl, rfl, y3, Evl.sz_lt (by rw [y4.len]; exact hz), q σ V1 _ (adv_upd a he g1 ⟨xs ++ [v], upd_same, y4.append (.cons rv .nil)⟩)⟩
      · cases h3
    · cases h3
  · cases e
/-- x.pop() -/
def iPop (i : Nat) : EvF := fun env => match env[i]? with
  | some (.own q (.list ds)) => (ds[ds.length - 1]?).map fun d => (.val d, env.set i (.own q (.list ds.dropLast)))
  | _ => none
theorem RA.dropLast {xs : List L2.V} {ds : List D} (h : RA K V xs ds) : RA K V xs.dropLast ds.dropLast := by
  rw [List.dropLast_eq_take, List.dropLast_eq_take, h.len]
  exact h.take _
theorem sd_pop {i : Nat} : Sd K (tBM0 K "list" rPop (tVar i)) (iPop i) := by
  intro env res env' e σ V H ok Q q
  unfold iPop at e
  split at e
  · rename_i p ds he
    simp only [Option.map_eq_some_iff] at e
    obtain ⟨d, h1, h2⟩ := e
    cases h2
    obtain ⟨l, y1, y2, xs, y3, y4⟩ := ok.ownC he
    refine ⟨_, y1, .inl ⟨rfl, xs, Evl.sq_of y3⟩, ?_⟩
    obtain ⟨z, h2, h3⟩ := y4.get h1
    rw [← y4.len] at h2
    exact ⟨l, xs, z, rfl, rfl, y3, h2, q z V _ (adv_upd (Adv.refl ok) he y1 ⟨xs.dropLast, upd_same, y4.dropLast⟩) h3⟩
  · cases e
/-- x.extend(e), e a list -/
def iExt (i : Nat) (f : EvF) : StF := fun env => match env[i]? with
  | some (.own _ (.list _)) => (f env).bind fun p => match p.1 with
    | .new (.list es) => match p.2[i]? with
      | some (.own q (.list ds)) => if ds.length + es.length ≤ 100000 then some (.next (p.2.set i (.own q (.list (ds ++ es))))) else none
      | _ => none
    | _ => none
  | _ => none
theorem sds_ext {i : Nat} {f : EvF} (ha : Sd K te f) : SdS K (tDrop (tBM K "list" rExtend (tVar i) (tCons te tNil))) (iExt i f) := by
  intro env fl e σ V H ok E q
  unfold iExt at e
  split at e
  · rename_i p0 d0 he0
    simp only [Option.bind_eq_some_iff] at e
    obtain ⟨⟨r, e1⟩, h1, h2⟩ := e
    split at h2
    · rename_i es hr
      have hr' : r = .new (.list es) := hr
      subst hr'
      split at h2
      · rename_i p ds he
        split at h2
        · rename_i hz
          cases h2
          obtain ⟨l0, g1, g2, g3⟩ := ok.ownC he0
          refine ⟨_, g1, ?_, ?_⟩
          · obtain ⟨xs, hx, _⟩ := g3
            exact .inl ⟨rfl, xs, Evl.sq_of hx⟩
          · refine ha _ _ _ h1 σ V H ok _ fun v V1 H1 a k => ?_
            obtain ⟨l, y1, y2, xs, y3, y4⟩ := a.ok.ownC he
            rw [g1] at y1
            cases y1
            obtain ⟨b, rfl, w1, w2, w3, zs, w4, w5⟩ := k
            exact ⟨_, b, xs, zs, rfl, rfl, y3, w4, Evl.sz_of (by rw [y4.len, w5.len]; exact hz), q σ V1 _ (adv_upd a he g1 ⟨xs ++ zs, upd_same, y4.append w5⟩)⟩
        · cases h2
      · cases h2
    · cases h2
  · cases e
/-- x becomes visible: nothing happens -/
def iFrz (i : Nat) : StF := fun env => match env[i]? with
  | some (.own false d) => some (.next (env.set i (.val d)))
  | some (.val _) => some (.next env)
  | _ => none
theorem adv_frz {i : Nat} {d : D} (a : Adv K σ env σ1 env1 V H V1 H1) (e : env1[i]? = some (.own false d)) : ∃ V2, Adv K σ env σ1 (env1.set i (.val d)) V H V2 H1 := by
  obtain ⟨l, g1, g2, g3⟩ := a.ok.ownC e
  have hi := (List.getElem?_eq_some_iff.mp e).1
  have a2 := adv_no a e fun d z => by cases z
  have nO : ¬ Own (env1.set i .no) σ1 l := by
    rintro ⟨j, p, d', z1, z2⟩
    by_cases qj : j = i
    · subst qj
      rw [List.getElem?_set_self hi] at z1
      cases z1
    · rw [List.getElem?_set_ne (fun z => qj z.symm)] at z1
      exact qj (a.ok.one j i p false d' d l z1 e z2 g1)
  obtain ⟨V2, a3, r⟩ := a2.show ((a.ownL l ⟨i, d, e, g1⟩).elim .inr .inl) g2 nO g3
  refine ⟨V2, ?_⟩
  have hs : σ1.set i (some (.ref l)) = σ1 := by
    apply List.ext_getElem?
    intro j
    by_cases qj : j = i
    · subst qj
      rw [List.getElem?_set_self (by rw [a.ok.len]; exact hi), g1]
    · rw [List.getElem?_set_ne (fun z => qj z.symm)]
  have a4 := adv_set (i := i) (s := .val d) (env2 := (env1.set i .no).set i (.val d)) a3 (by
    unfold setV
    rw [List.getElem?_set_self hi]) (show SlOk K V2 H1 (some (.ref l)) (.val d) from r) fun p d' l z => by cases z
  rw [hs, List.set_set] at a4
  exact a4
theorem sds_frz {i : Nat} {t : TS} {g : StF} (h : SdS K t g) : SdS K t (iSeq (iFrz i) g) := by
  intro env fl e σ V H ok E q
  unfold iSeq at e
  cases hf : iFrz i env with
  | none => rw [hf] at e; cases e
  | some f0 =>
    rw [hf] at e
    unfold iFrz at hf
    split at hf
    · rename_i d hd
      cases hf
      obtain ⟨V2, a⟩ := adv_frz (Adv.refl ok) hd
      exact h _ _ e σ V2 H a.ok E (q.of a)
    · cases hf
      exact h _ _ e σ V H ok E q
    · cases hf
end
end DL

namespace DL
open PySem PySem.Spec PyProof.Rows L2
open Evl (Ex)

/-! ### a walk over a list or a tuple -/
theorem pi_sq {X : Cx} {tg l : Expr} {tl : TE} (hl : PE X l tl) : PI X tg l (iSq X.K tl) := by
  constructor
  intro pins s σ H R I h
  apply thn (hl.run pins s σ H _ I h)
  rintro v s1 ⟨x, H1, I1, r1, a, rfl, q⟩
  cases r1
  have ev : ∀ (it : Obj) (b : Addr) (o : Obj), s1.heap.get? b = some o → (s1.heap.push it).get? b = some o := fun it b o e => Heap.get?_push_of_some _ e
  have one : ∀ (b : Addr), b ∈ [s1.heap.objs.size] → FpOk X pins H1 b := by
    intro b hb
    have hb' : b = s1.heap.objs.size := by simpa using hb
    rw [hb']
    exact I1.fpOk (Nat.le_refl _) (I1.hok.fresh (Nat.le_refl _))
  rcases q with ⟨⟨xs, hx⟩, q⟩ | ⟨⟨xs, hx⟩, q⟩
  · obtain ⟨its, _, pl, _⟩ := I1.list hx
    apply wpAny_pyIter_list pl.isList
    exact ⟨s1.heap.objs.size, [s1.heap.objs.size], _, _, H1, rfl, I1.kept (t' := s1.toks) (ev _),
      turn_list a _, ⟨_, Heap.get?_push_size _ rfl, rfl, rfl⟩, one, q⟩
  · obtain ⟨its, _, pl, _⟩ := I1.tuple hx
    apply wpAny_pyIter_tuple (show s1.heap.IsTuple a its.toArray from pl)
    exact ⟨s1.heap.objs.size, [s1.heap.objs.size], _, _, H1, rfl, I1.kept (t' := s1.toks) (ev _),
      turn_tuple a _, ⟨_, Heap.get?_push_size _ rfl, rfl, rfl⟩, one, q⟩

section
variable {K : PySem.W.Frag} {σ σ1 : L2.St} {env env1 env2 : Nv} {V H V1 H1 V2 H2 : Hp} {v : L2.V} {te ta tb : TE}
/-! ### comprehensions -/
def wipeN (env : Nv) : List Nat → Option Nv
  | [] => some env
  | v :: vs => (wipeN env vs).bind fun e => match e[v]? with
    | some (.own true _) => none
    | some _ => some (e.set v .no)
    | none => none
theorem adv_none {i : Nat} (a : Adv K σ env σ1 env1 V H V1 H1) (e : env1[i]? = some .no) : Adv K σ env (σ1.set i none) env1 V H V1 H1 := by
  have ow : ∀ (j : Nat) (p : Bool) (d : D) (l : Addr), env1[j]? = some (.own p d) → (σ1.set i none)[j]? = some (some (.ref l)) → σ1[j]? = some (some (.ref l)) := by
    intro j p d l h1 h2
    by_cases q : j = i
    · subst q; rw [e] at h1; cases h1
    · rw [List.getElem?_set_ne (fun z => q z.symm)] at h2; exact h2
  refine ⟨⟨by rw [List.length_set]; exact a.ok.len, a.ok.sub, fun j o s h1 h2 => ?_, fun j k p q d d' l h1 h2 h3 h4 => a.ok.one j k p q d d' l h1 h2 (ow j p d l h1 h3) (ow k q d' l h2 h4), a.ok.tabs⟩, a.ex, a.fr, a.keep, a.tab, a.dom, fun l h => ?_, fun l h => ?_, fun j d h => ?_⟩
  · by_cases q : j = i
    · subst q
      rw [e] at h2
      cases h2
      cases o <;> trivial
    · rw [List.getElem?_set_ne (fun z => q z.symm)] at h1
      exact a.ok.slot j o s h1 h2
  · obtain ⟨j, p, d, h1, h2⟩ := h
    exact a.own l ⟨j, p, d, h1, ow j p d l h1 h2⟩
  · obtain ⟨j, d, h1, h2⟩ := h
    exact a.ownL l ⟨j, d, h1, ow j false d l h1 h2⟩
  · obtain ⟨⟨d', h1⟩, h2⟩ := a.par j d h
    have q : j ≠ i := fun z => by subst z; rw [e] at h1; cases h1
    rw [List.getElem?_set_ne (fun z => q z.symm)]
    exact ⟨⟨d', h1⟩, h2⟩
/-- the slots' values are forgotten where nothing is said of them -/
theorem adv_wipe : ∀ {vs : List Nat} {env2 : Nv}, Adv K σ env σ1 env1 V H V1 H1 → wipeN env1 vs = some env2 → Adv K σ env (wipe σ1 vs) env2 V H V1 H1 ∧ Adv K σ env σ1 env2 V H V1 H1
  | [], env2, a, e => by cases e; exact ⟨a, a⟩
  | v :: vs, env2, a, e => by
    simp only [wipeN, Option.bind_eq_some_iff] at e
    obtain ⟨e1, h1, h2⟩ := e
    obtain ⟨b, b'⟩ := adv_wipe a h1
    split at h2
    · cases h2
    · rename_i s hne hs
      cases h2
      have hv := (List.getElem?_eq_some_iff.mp hs).1
      have n : ∀ d, s ≠ .own true d := fun d z => by subst z; exact hne d rfl
      exact ⟨adv_none (adv_no b hs n) (List.getElem?_set_self hv), adv_no b' hs n⟩
    · cases h2
def lcLoop (g : TgF) (c : EvT) (f : EvF) (vs : List Nat) : List D → Nv → List D → Option (List D × Nv)
  | [], env, acc => some (acc, env)
  | d :: ds, env, acc => (g env d).bind fun e1 => (c e1).bind fun p => if p.1 = true then
      (opd f p.2).bind fun q => (vis q.1).bind fun y => (wipeN q.2 vs).bind fun e3 => if acc.length < 100000 then lcLoop g c f vs ds e3 (acc ++ [y]) else none
    else (wipeN p.2 vs).bind fun e3 => lcLoop g c f vs ds e3 acc
def iLc (it : ItF) (g : TgF) (c : EvT) (f : EvF) (vs : List Nat) : EvF := fun env => (it env).bind fun p => (wipeN p.2 vs).bind fun e1 => (lcLoop g c f vs p.1 e1 []).bind fun q => some (.new (.list q.1), q.2)
/-- the slots in vs alone have changed -/
def SdGv (K : PySem.W.Frag) (t : TG) (g : TgF) (vs : List Nat) : Prop := ∀ env d env', g env d = some env' → ∀ (σ : L2.St) (V H : Hp) (v : L2.V), NvOk K V H σ env → R K V v d →
  ∀ Q : L2.St → Hp → Prop, (∀ σ', Adv K σ env σ' env' V H V H → wipe σ' vs = wipe σ vs → Q σ' H) → t v σ H Q
theorem wipe_set {σ : L2.St} {i : Nat} {x : Option L2.V} : ∀ {vs : List Nat}, i ∈ vs → wipe (σ.set i x) vs = wipe σ vs := by
  have comm : ∀ {τ : L2.St} {a b : Nat} {u w : Option L2.V}, a ≠ b → (τ.set a u).set b w = (τ.set b w).set a u := fun h => List.set_comm _ _ h
  have out : ∀ {vs : List Nat} {τ : L2.St}, i ∉ vs → wipe (τ.set i x) vs = (wipe τ vs).set i x := by
    intro vs
    induction vs with
    | nil => intro τ _; rfl
    | cons v vs ih =>
      intro τ h
      show (wipe (τ.set i x) vs).set v none = ((wipe τ vs).set v none).set i x
      rw [ih (fun z => h (List.mem_cons_of_mem _ z)), List.set_comm _ _ (fun z => h (by rw [z]; exact List.mem_cons_self))]
  intro vs
  induction vs with
  | nil => intro h; cases h
  | cons v vs ih =>
    intro h
    show (wipe (σ.set i x) vs).set v none = (wipe σ vs).set v none
    by_cases q : i ∈ vs
    · rw [ih q]
    · have e : i = v := (List.mem_cons.mp h).elim id fun z => absurd z q
      subst e
      rw [out q, List.set_set]
theorem wipe_wipe {σ : L2.St} : ∀ {vs : List Nat}, wipe (wipe σ vs) vs = wipe σ vs := by
  have gen : ∀ (ws vs : List Nat) (τ : L2.St), (∀ w ∈ ws, w ∈ vs) → wipe (wipe τ ws) vs = wipe τ vs := by
    intro ws
    induction ws with
    | nil => intro vs τ _; rfl
    | cons w ws ih =>
      intro vs τ h
      show wipe ((wipe τ ws).set w none) vs = wipe τ vs
      rw [wipe_set (h w List.mem_cons_self), ih vs τ fun z hz => h z (List.mem_cons_of_mem _ hz)]
  intro vs
  exact gen vs vs σ fun _ h => h
theorem sdgv_name {i : Nat} {vs : List Nat} (h : i ∈ vs) : SdGv K (gName i) (iNm i) vs := by
  intro env d env' e σ V H v ok r Q q
  exact q _ (adv_set (Adv.refl ok) e r fun p d l z => by cases z) (wipe_set h)
def SdGsv (K : PySem.W.Frag) (t : TGs) (g : TgsF) (vs : List Nat) : Prop := ∀ env ds env', g env ds = some env' → ∀ (σ : L2.St) (V H : Hp) (xs : List L2.V), NvOk K V H σ env → RA K V xs ds →
  ∀ Q : L2.St → Hp → Prop, (∀ σ', Adv K σ env σ' env' V H V H → wipe σ' vs = wipe σ vs → Q σ' H) → t xs σ H Q
theorem sdgsv_nil {vs : List Nat} : SdGsv K gNil iGN vs := by
  intro env ds env' e σ V H xs ok r Q q
  cases r with
  | nil => cases e; exact ⟨rfl, q σ (Adv.refl ok) rfl⟩
  | cons _ _ => cases e
theorem sdgsv_cons {t : TG} {ts : TGs} {g : TgF} {gs : TgsF} {vs : List Nat} (h1 : SdGv K t g vs) (h2 : SdGsv K ts gs vs) : SdGsv K (gCons t ts) (iGC g gs) vs := by
  intro env ds env' e σ V H xs ok r Q q
  cases r with
  | nil => cases e
  | @cons v xs d ds ra rb =>
    simp only [iGC, Option.bind_eq_some_iff] at e
    obtain ⟨e1, k1, k2⟩ := e
    exact ⟨v, xs, rfl, h1 _ _ _ k1 σ V H v ok ra _ fun σ' a w => h2 _ _ _ k2 σ' V H xs a.ok rb Q fun σ2 a2 w2 => q σ2 (a.trans a2) (w2.trans w)⟩
theorem sdgv_tup {ts : TGs} {gs : TgsF} {n : Nat} {vs : List Nat} (h : SdGsv K ts gs vs) : SdGv K (gBoth K n ts) (iGT gs n) vs := by
  intro env d env' e σ V H v ok r Q q
  cases d with
  | tuple ds =>
    simp only [iGT] at e
    split at e
    · rename_i hn
      cases r with
      | @tuple a xs _ hs ha => exact .inl ⟨a, xs, rfl, Evl.ex_t ok.sub hs.sq, by rw [ha.len]; exact hn, h _ _ _ e σ V H xs ok ha Q q⟩
    · cases e
  | list ds =>
    simp only [iGT] at e
    split at e
    · rename_i hn
      cases r with
      | @list a xs _ hs ha => exact .inr ⟨a, xs, rfl, Evl.ex_l ok.sub hs, by rw [ha.len]; exact hn, h _ _ _ e σ V H xs ok ha Q q⟩
    · cases e
  | _ => cases e
/-- the new list of a comprehension grows -/
theorem adv_grow {Dl : Addr} {o : HO} (a : Adv K σ env σ1 env1 V H V1 H1) (h0 : H Dl = none) (hv : V1 Dl = none) (hn : ¬ Own env1 σ1 Dl) (ht : TabsOk K V H) : Adv K σ env σ1 env1 V H V1 (upd H1 Dl o) := by
  refine ⟨⟨a.ok.len, fun b x hb => ?_, fun j w s h1 h2 => ?_, a.ok.one, ?tabs⟩, a.ex, a.fr, fun b x hb n t => ?_, fun b q hb t => ?_, fun b hb => ?_, a.own, a.ownL, a.par⟩
  · have nb : b ≠ Dl := fun z => by rw [z, hv] at hb; cases hb
    rw [upd_ne nb]
    exact a.ok.sub b x hb
  · have q := a.ok.slot j w s h1 h2
    cases s with
    | no => cases w <;> trivial
    | val f => cases w <;> exact q
    | own p f =>
      cases w with
      | none => exact q
      | some x =>
        obtain ⟨m, rfl, k1, k2⟩ := q
        have nm : m ≠ Dl := fun y => by subst y; exact hn ⟨j, p, f, h2, h1⟩
        exact ⟨m, rfl, k1, k2.mono (Evl.Ex.refl _) (upd_ne nm)⟩
  case tabs =>
    intro P i
    obtain ⟨_, ps, q1, q2⟩ := ht P i
    obtain ⟨ps', q3, q4⟩ := a.tab P ps q1 q2
    exact ⟨(a.ok.tabs P i).1, ps', by rw [upd_ne fun z => by rw [z, h0] at q1; cases q1]; exact q3, q4⟩
  · have nb : b ≠ Dl := fun z => by rw [z, h0] at hb; cases hb
    rw [upd_ne nb]
    exact a.keep b x hb n t
  · have nb : b ≠ Dl := fun z => by rw [z, h0] at hb; cases hb
    rw [upd_ne nb]
    exact a.tab b q hb t
  · by_cases z : b = Dl
    · subst z; exact absurd h0 hb
    · rw [upd_ne z]; exact a.dom b hb
theorem adv_hid {Dl : Addr} {o : HO} (a : Adv K σ1 env1 σ1 env2 V1 H1 V2 H2) (h0 : H1 Dl = some o) (hv : V1 Dl = none) (hn : ¬ Own env1 σ1 Dl) (ht : NT o := by intro q z; cases z) (htt : ∀ xs, o ≠ .tup xs := by intro q z; cases z) : H2 Dl = some o ∧ V2 Dl = none := by
  refine ⟨a.keep Dl o h0 hn ht, ?_⟩
  cases y : V2 Dl with
  | none => rfl
  | some o2 =>
    rcases a.fr Dl (by rw [y]; exact fun z => by cases z) with m | m | m
    · exact absurd hv m
    · exact (m.not h0 ht htt).elim
    · exact absurd m.own hn
theorem wipe_out {j : Nat} : ∀ {vs : List Nat}, j ∉ vs → (wipe σ vs)[j]? = σ[j]?
  | [], _ => rfl
  | v :: vs, h => by
    show ((wipe σ vs).set v none)[j]? = σ[j]?
    rw [List.getElem?_set_ne (fun z => h (by rw [z]; exact List.mem_cons_self)), wipe_out fun z => h (List.mem_cons_of_mem _ z)]
theorem wipeN_clean : ∀ {vs : List Nat} {e : Nv}, wipeN env vs = some e → ∀ j, j ∈ vs → e[j]? = some .no
  | [], _, _, _, h => by cases h
  | v :: vs, e, h, j, hj => by
    simp only [wipeN, Option.bind_eq_some_iff] at h
    obtain ⟨e1, h1, h2⟩ := h
    split at h2
    · cases h2
    · rename_i s hne hs
      cases h2
      have hv := (List.getElem?_eq_some_iff.mp hs).1
      by_cases q : j = v
      · subst q
        exact List.getElem?_set_self hv
      · rw [List.getElem?_set_ne (fun z => q z.symm)]
        exact wipeN_clean h1 j ((List.mem_cons.mp hj).elim (fun z => absurd z q) id)
    · cases h2
theorem own_orig {vs : List Nat} {e : Nv} {l : Addr} (cl : ∀ j, j ∈ vs → e[j]? = some .no) (h : Own e σ l) : Own e (wipe σ vs) l := by
  obtain ⟨j, p, d, z1, z2⟩ := h
  have hj : j ∉ vs := fun w => by rw [cl j w] at z1; cases z1
  exact ⟨j, p, d, z1, by rw [wipe_out hj]; exact z2⟩
theorem adv_orig {vs : List Nat} {e : Nv} (a : Adv K σ env (wipe σ vs) e V H V1 H1) (cl : ∀ j, j ∈ vs → e[j]? = some .no) : Adv K σ env σ e V H V1 H1 := by
  have ow : ∀ (j : Nat) (p : Bool) (d : D), e[j]? = some (.own p d) → (wipe σ vs)[j]? = σ[j]? := fun j p d h => wipe_out fun w => by rw [cl j w] at h; cases h
  refine ⟨⟨by rw [← wipe_length σ vs]; exact a.ok.len, a.ok.sub, fun j o s h1 h2 => ?_, fun j k p q d d' l h1 h2 h3 h4 => a.ok.one j k p q d d' l h1 h2 (by rw [ow j p d h1]; exact h3) (by rw [ow k q d' h2]; exact h4), a.ok.tabs⟩, a.ex, a.fr, a.keep, a.tab, a.dom, fun l h => a.own l (own_orig cl h), fun l h => ?_, fun j d h => ⟨(a.par j d h).1, rfl⟩⟩
  · by_cases q : j ∈ vs
    · rw [cl j q] at h2
      cases h2
      cases o <;> trivial
    · exact a.ok.slot j o s (by rw [wipe_out q]; exact h1) h2
  · obtain ⟨j, d, z1, z2⟩ := h
    exact a.ownL l ⟨j, d, z1, by rw [ow j false d z1]; exact z2⟩
theorem sd_lc {wi : TI} {it : ItF} {tg : TG} {g : TgF} {tt : TT} {c : EvT} {f : EvF} {vs : List Nat} (hi : SdI K wi it) (hg : SdGv K tg g vs) (hc : SdT K tt c) (hf : Sd K te f) : Sd K (tLc wi tg tt te vs) (iLc it g c f vs) := by
  intro env res env' e σ V H ok Q q
  simp only [iLc, Option.bind_eq_some_iff] at e
  obtain ⟨⟨ds, e0⟩, h1, e1, h2, ⟨out, e2⟩, h3, h4⟩ := e
  cases h4
  refine hi _ _ _ h1 σ V H ok _ fun J V' H' a mk Dl hD => ?_
  obtain ⟨aw, as⟩ := adv_wipe a h2
  have vD : V' Dl = none := Evl.fresh_back a.ok.sub hD
  have hD0 : H Dl = none := by
    cases y : H Dl with
    | none => rfl
    | some o => exact absurd hD (a.dom Dl (by rw [y]; exact fun z => by cases z))
  -- a state of the comprehension: σ stands, the block's slots are wiped
  refine mk.2 tg tt te vs Dl (fun i V1 H1 => ∃ env1 acc xs, Adv K σ env (wipe σ vs) env1 V H V1 H1 ∧ Adv K σ env σ env1 V H V1 H1 ∧ Ex V' V1 ∧ V1 Dl = none ∧ ¬ Own env1 (wipe σ vs) Dl ∧ H1 Dl = some (.lst xs) ∧ RA K V1 xs acc ∧ (∀ j, j ∈ vs → env1[j]? = some .no) ∧ lcLoop g c f vs (ds.drop i) env1 acc = some (out, e2)) _ ?_ ?_ ?_ ?_
  · have nO : ¬ Own e1 (wipe σ vs) Dl := aw.ok.notOwn hD
    have nO2 : ¬ Own e1 σ Dl := as.ok.notOwn hD
    exact ⟨e1, [], [], adv_grow aw hD0 vD nO ok.tabs, adv_grow as hD0 vD nO2 ok.tabs, Evl.Ex.refl _, vD, nO, upd_same, .nil, wipeN_clean h2, h3⟩
  · rintro i V1 H1 ⟨env1, acc, xs, b, b', x, _⟩
    exact ⟨x, b.ok.sub⟩
  · rintro i d V1 H1 hd ⟨env1, acc, xs, b, b', x1, d1, d2, d3, d4, d5, hl⟩ x V2 H2 al r
    have e0' : ds.drop i = d :: ds.drop (i + 1) := by
      obtain ⟨hlt, rfl⟩ := List.getElem?_eq_some_iff.mp hd
      exact List.drop_eq_getElem_cons hlt
    rw [e0'] at hl
    simp only [lcLoop, Option.bind_eq_some_iff] at hl
    obtain ⟨e3, g1, ⟨bb, e4⟩, g2, g3⟩ := hl
    have b2 := al.adv b.ok
    refine hg _ _ _ g1 (wipe σ vs) V2 H2 x b2.ok r _ fun σ3 a3 w3 => ⟨by rw [w3, wipe_wipe], ?_⟩
    refine hc _ _ _ g2 σ3 V2 H2 a3.ok _ fun V4 H4 a4 => ?_
    have a5 := (b2.trans a3).trans a4
    -- behind the turn: the slots wiped again, or as they stood ahead
    have back : ∀ (V5 H5 : Hp) (e5 e6 : Nv), Adv K (wipe σ vs) env1 σ3 e5 V1 H1 V5 H5 → wipeN e5 vs = some e6 → Adv K (wipe σ vs) env1 (wipe σ vs) e6 V1 H1 V5 H5 := by
      intro V5 H5 e5 e6 a6 hw
      have a7 := (adv_wipe a6 hw).1
      rw [w3, wipe_wipe] at a7
      exact a7
    cases bb with
    | true =>
      rw [if_pos rfl]
      rw [if_pos rfl] at g3
      simp only [Option.bind_eq_some_iff] at g3
      obtain ⟨⟨rr, e5⟩, g4, y, g5, e6, g6, g7⟩ := g3
      split at g7
      · rename_i hz
        refine opd_snd hf g4 a4.ok fun z V5 H5 a6 k => ?_
        have a7 := a5.trans a6
        have a8 := back V5 H5 e5 e6 a7 g6
        obtain ⟨y1, y2⟩ := adv_hid a8 d3 d1 d2
        have rz : R K V5 z y := by
          cases rr with
          | val d' => cases g5; exact k
          | new d' => exact k.elim
          | own j => cases g5
        have a9 := b.trans a8
        have nO : ¬ Own e6 (wipe σ vs) Dl := fun w => by
          rcases a8.own Dl w with m | m
          · exact d2 m
          · rw [d3] at m; cases m
        have clean := wipeN_clean g6
        have a10 : Adv K σ env σ e6 V H V5 H5 := adv_orig a9 clean
        refine ⟨xs, y1, Evl.sz_lt (by rw [d4.len]; exact hz), V5, e6, acc ++ [y], xs ++ [z], adv_grow a9 hD0 y2 nO ok.tabs, adv_grow a10 hD0 y2 ?_ ok.tabs, x1.trans a8.ex, y2, nO, upd_same, (RA.mono a8.ex _ _ d4).append (.cons rz .nil), clean, g7⟩
        exact fun w => nO (own_orig clean w)
      · cases g7
    | false =>
      rw [if_neg Bool.false_ne_true]
      rw [if_neg Bool.false_ne_true] at g3
      simp only [Option.bind_eq_some_iff] at g3
      obtain ⟨e6, g6, g7⟩ := g3
      have a8 := back V4 H4 e4 e6 a5 g6
      obtain ⟨y1, y2⟩ := adv_hid a8 d3 d1 d2
      have a9 := b.trans a8
      have nO : ¬ Own e6 (wipe σ vs) Dl := fun w => by
        rcases a8.own Dl w with m | m
        · exact d2 m
        · rw [d3] at m; cases m
      have clean := wipeN_clean g6
      exact ⟨V4, e6, acc, xs, a9, adv_orig a9 clean, x1.trans a8.ex, y2, nO, y1, RA.mono a8.ex _ _ d4, clean, g7⟩
  · rintro V1 H1 ⟨env1, acc, xs, b, b', x, d1, d2, d3, d4, d5, hl⟩
    rw [List.drop_length] at hl
    cases hl
    exact q _ V1 H1 b' ⟨Dl, rfl, .inl hD0, d1, fun w => d2 (own_orig d5 w), xs, d3, d4⟩
end
end DL

namespace DL
open PySem PySem.Spec PyProof.Rows L2
open Evl (Ex)

theorem hu64 {A : Around} {k : Nat} (hr : Room k A) : A.units + 64 < cLine := by have := hr.un; omega
theorem hu0 {A : Around} {k : Nat} (hr : Room k A) : A.units < cLine := by have := hr.un; omega
section
variable {X : Cx} {k : Nat} {a b e l : Expr} {es : List Expr} {pos p p2 : Pos} {fa fb f : EvF} {fs : EvA}
/-! ### expressions -/
theorem pdVar (i : Nat) {x : Str} (hN : X.N[i]? = some x := by rfl) (hv : Vis X.env.scope x := by first | exact Or.inl rfl | exact Or.inr (Or.inl rfl) | exact Or.inr (Or.inr rfl)) (hd : (x == ("__debug__" : Str)) = false := by decide)
    (hcd : (x == ("__classdict__" : Str)) = false := by decide) : PD X (.Name x pos) (iVar i) := ⟨_, pe_var hN hv hd hcd, sd_var i⟩
theorem pdInt {i : Int} {j : Nat} : PD X (.Constant (.int i) j pos) (iCon (.int i)) := ⟨_, pe_int, sd_con (.int i)⟩
theorem pdBool {i : Bool} {j : Nat} : PD X (.Constant (.bool i) j pos) (iCon (.bool i)) := ⟨_, pe_bl, sd_con (.bool i)⟩
theorem pdNone {j : Nat} : PD X (.Constant .none j pos) (iCon .none) := ⟨_, pe_non, sd_con .none⟩
theorem pdStr {s : Str} {j : Nat} : PD X (.Constant (.str s) j pos) (iCon (.str s)) := ⟨_, pe_str, sd_con (.str s)⟩
theorem pdGlob {x : Str} {u : Value} {v : L2.V} {d : D} (hg : Gl X x) (hm : X.mg x = some u) (r : RelV v u) (h : R X.K (fun _ => none) v d) (hd : (x == ("__debug__" : Str)) = false := by decide) : PD X (.Name x pos) (iCon d) := ⟨_, pe_glob hg hm r hd, sd_con h⟩
theorem pdBin {op : Operator} {r : R2} {g : D → D → Option Res} (ho : OpR X (binaryOp op) r) (hB : BinOk X.K r g) (ha : PD X a fa) (hb : PD X b fb) : PD X (.BinOp a op b pos) (iBin g fa fb) :=
  let ⟨_, h1, k1⟩ := ha; let ⟨_, h2, k2⟩ := hb; ⟨_, pe_op ho h1 h2, sd_bin hB k1 k2⟩
def gAdd : D → D → Option Res := alt (oI fun i j => some (.int (i + j))) (alt gAddS (alt gCatL gCatT))
theorem op_catS : OpR X (binaryOp .Add) (fun x y H Q => ∃ a b xs ys, x = .ref a ∧ y = .ref b ∧ SqL X.K H a xs ∧ SqL X.K H b ys ∧ xs.length + ys.length ≤ sizeLine ∧ ∀ p, H p = none → Q (.ref p) (upd H p (.lst (xs ++ ys)))) := by
  intro pins s σ H x y v u Q I rx ry h
  obtain ⟨a, b, xs, ys, rfl, rfl, hA, hB, hz, q⟩ := h
  cases rx
  cases ry
  obtain ⟨its, r, pl, _⟩ := I.list hA
  obtain ⟨its2, r2, pl2, _⟩ := I.list hB
  obtain ⟨⟨c, dd, dat, sl⟩, n, ho, hc, hd, hs⟩ := pl
  obtain ⟨⟨c2, dd2, dat2, sl2⟩, n2, ho2, hc2, hd2, hs2⟩ := pl2
  simp only at hc hd hs hc2 hd2 hs2
  subst hc hd hs hc2 hd2 hs2
  have l1 := r.length
  have l2 := r2.length
  have ea : its.toArray ++ its2.toArray = (its ++ its2).toArray := by simp
  refine concat_meets ⟨_, ho, rfl⟩ ⟨_, ho2, rfl⟩ noFill_list_add seq_list_add PySem.F.slot_list_add PySem.F.entry_list_add (PySem.F.args_list_add_2 _ _) (list_addW a b its.toArray its2.toArray n n2 none none sl sl2 (by rw [List.size_toArray, List.size_toArray]; omega)) ⟨ho, ho2, ?_⟩
  rw [ea]
  exact ⟨.ref _, _, I.lnew (t' := s.toks) (r.append r2) (by rw [List.length_append]; exact hz), rfl, q _ I.fresh⟩
theorem pdAdd (ha : PD X a fa) (hb : PD X b fb) : PD X (.BinOp a .Add b pos) (iBin gAdd fa fb) :=
  pdBin (opOr op_add (opOr op_add_str (opOr op_catS op_catA))) (binOr (bin_I0 fun _ _ _ => .int _) (binOr bin_addS (binOr bin_catL bin_catT))) ha hb
def gSub : D → D → Option Res := oI fun i j => some (.int (i - j))
theorem pdSub (ha : PD X a fa) (hb : PD X b fb) : PD X (.BinOp a .Sub b pos) (iBin gSub fa fb) := pdBin op_sub (bin_I0 fun _ _ _ => .int _) ha hb
def mulC (i j : Int) : Bool := (decide (-(2 ^ 64) < i) && decide (i < 2 ^ 64)) || (decide (-(2 ^ 64) < j) && decide (j < 2 ^ 64))
def gMul : D → D → Option Res := oI fun i j => if mulC i j = true then some (.int (i * j)) else none
theorem pdMul (ha : PD X a fa) (hb : PD X b fb) : PD X (.BinOp a .Mult b pos) (iBin gMul fa fb) :=
  pdBin op_mul (bin_I (c := mulC) (fun i j h => by
    simp only [mulC, Bool.or_eq_true, Bool.and_eq_true, decide_eq_true_eq] at h
    exact h) fun _ _ _ => .int _) ha hb
def sm (j : Int) : Bool := decide (-(2 ^ 64) < j) && decide (j < 2 ^ 64)
def gMulR : D → D → Option Res := oI fun i j => if sm j = true then some (.int (i * j)) else none
def gMulL : D → D → Option Res := oI fun i j => if sm i = true then some (.int (i * j)) else none
theorem pdMulR (ha : PD X a fa) (hb : PD X b fb) : PD X (.BinOp a .Mult b pos) (iBin gMulR fa fb) :=
  pdBin op_mul (bin_I (c := fun _ j => sm j) (fun i j h => by
    simp only [sm, Bool.and_eq_true, decide_eq_true_eq] at h
    exact .inr h) fun _ _ _ => .int _) ha hb
theorem pdMulL (ha : PD X a fa) (hb : PD X b fb) : PD X (.BinOp a .Mult b pos) (iBin gMulL fa fb) :=
  pdBin op_mul (bin_I (c := fun i _ => sm i) (fun i j h => by
    simp only [sm, Bool.and_eq_true, decide_eq_true_eq] at h
    exact .inl h) fun _ _ _ => .int _) ha hb
def gDiv : D → D → Option Res := oI fun i j => if (decide (0 < j) && decide (j < 2 ^ 64)) = true then some (.int (i / j)) else none
theorem pdDiv (ha : PD X a fa) (hb : PD X b fb) : PD X (.BinOp a .FloorDiv b pos) (iBin gDiv fa fb) :=
  pdBin op_fdivW (bin_I (c := fun _ j => decide (0 < j) && decide (j < 2 ^ 64)) (fun i j h => by
    simp only [Bool.and_eq_true, decide_eq_true_eq] at h
    exact wide_div (b := 64) h.1 (by omega) (by decide) (by decide)) fun _ _ _ => .int _) ha hb
def gMod : D → D → Option Res := oI fun i j => if decide (0 < j) = true then some (.int (i % j)) else none
theorem pdMod (ha : PD X a fa) (hb : PD X b fb) : PD X (.BinOp a .Mod b pos) (iBin gMod fa fb) :=
  pdBin op_mod (bin_I (c := fun _ j => decide (0 < j)) (fun i j h => of_decide_eq_true h) fun _ _ _ => .int _) ha hb
def gPow : D → D → Option Res := oI fun i j => if (decide (0 ≤ j) && decide (j ≤ 1000) && decide (i.natAbs < 2 ^ 64)) = true then some (.int (i ^ j.toNat)) else none
theorem pdPow (ha : PD X a fa) (hb : PD X b fb) : PD X (.BinOp a .Pow b pos) (iBin gPow fa fb) :=
  pdBin op_pow (bin_I (c := fun i j => decide (0 ≤ j) && decide (j ≤ 1000) && decide (i.natAbs < 2 ^ 64)) (fun i j h => by
    simp only [Bool.and_eq_true, decide_eq_true_eq] at h
    exact ⟨h.1.1, by omega, h.2⟩) fun _ _ _ => .int _) ha hb
def gNeg : D → Option Res
  | .int i => some (.val (.int (-i)))
  | _ => none
theorem un_neg_ok {K : PySem.W.Frag} : UnOk K (rU fun i => .int (-i)) gNeg := by
  intro V H x d res sub hx hg Q q
  unfold gNeg at hg
  split at hg
  · cases hg
    cases hx.int
    exact ⟨_, rfl, q _ V H (Al.refl sub) (.int _)⟩
  · cases hg
theorem pdNeg (ha : PD X a fa) : PD X (.UnaryOp .USub a pos) (iUn gNeg fa) := let ⟨_, h1, k1⟩ := ha; ⟨_, pe_un un_neg h1, sd_un un_neg_ok k1⟩
/-! comparisons -/
theorem pdCmp {op : CmpOp} {r : R2} {g : D → D → Option Res} (ho : OpR X (compareOp op) r) (hB : BinOk X.K r g) (hm : behindInMarks op b = false) (ha : PD X a fa) (hb : PD X b fb) : PD X (.Compare a [op] [b] pos) (iBin g fa fb) :=
  let ⟨_, h1, k1⟩ := ha; let ⟨_, h2, k2⟩ := hb; ⟨_, pe_cmpR ho h1 h2 hm, sd_bin hB k1 k2⟩
theorem tdCmp {op : CmpOp} {r : R2} {g : D → D → Option Res} (ho : OpR X (compareOp op) r) (hB : BinOk X.K r g) (hm : behindInMarks op b = false) (ha : PD X a fa) (hb : PD X b fb) : TD X (.Compare a [op] [b] pos) (iTst (iBin g fa fb)) :=
  let ⟨_, h1, k1⟩ := ha; let ⟨_, h2, k2⟩ := hb; ⟨_, pt_cmpR ho h1 h2 hm, sdt_test (sd_bin hB k1 k2)⟩
def gLt : D → D → Option Res := alt (oI fun i j => some (.bool (decide (i < j)))) gLtT
def gLe : D → D → Option Res := oI fun i j => some (.bool (decide (i ≤ j)))
def gGt : D → D → Option Res := oI fun i j => some (.bool (decide (j < i)))
def gGe : D → D → Option Res := oI fun i j => some (.bool (decide (j ≤ i)))
theorem oLt (hr : Room k X.A) : ∃ r, OpR X (compareOp .Lt) r ∧ BinOk X.K r gLt := ⟨_, opOr op_lt (op_ltT (hu0 hr)), binOr (bin_I0 fun _ _ _ => .bool _) bin_ltT⟩
theorem oLe : ∃ r, OpR X (compareOp .LtE) r ∧ BinOk X.K r gLe := ⟨_, op_le, bin_I0 fun _ _ _ => .bool _⟩
theorem oGt : ∃ r, OpR X (compareOp .Gt) r ∧ BinOk X.K r gGt := ⟨_, op_gt, bin_I0 fun _ _ _ => .bool _⟩
theorem oGe : ∃ r, OpR X (compareOp .GtE) r ∧ BinOk X.K r gGe := ⟨_, op_ge, bin_I0 fun _ _ _ => .bool _⟩
theorem oEq (hr : Room k X.A) : ∃ r, OpR X (compareOp .Eq) r ∧ BinOk X.K r gEq := ⟨_, opOr op_eq (op_eqD (hu64 hr)), bin_eq⟩
theorem oNe (hr : Room k X.A) : ∃ r, OpR X (compareOp .NotEq) r ∧ BinOk X.K r gNe := ⟨_, opOr op_ne (op_neD (hu64 hr)), bin_ne⟩
theorem oIs : ∃ r, OpR X (compareOp .Is) r ∧ BinOk X.K r gIs := ⟨_, op_isN, bin_is⟩
theorem oIsN : ∃ r, OpR X (compareOp .IsNot) r ∧ BinOk X.K r gIsN := ⟨_, op_notN, bin_isN⟩
theorem oIn : ∃ r, OpR X (compareOp .In) r ∧ BinOk X.K r (alt (gIn false) (gInS false)) := ⟨_, opOr op_in_seq op_in_str, binOr bin_in bin_inS⟩
theorem oNotIn : ∃ r, OpR X (compareOp .NotIn) r ∧ BinOk X.K r (alt (gIn true) (gInS true)) := ⟨_, opOr op_notIn_seq op_notin_str, binOr bin_in bin_ninS⟩
/-- a comparison as a value, as a test: o is oLt .. oNotIn -/
theorem pdC {op : CmpOp} {g : D → D → Option Res} (o : ∃ r, OpR X (compareOp op) r ∧ BinOk X.K r g) (hm : behindInMarks op b = false) (ha : PD X a fa) (hb : PD X b fb) : PD X (.Compare a [op] [b] pos) (iBin g fa fb) := let ⟨_, h, h'⟩ := o; pdCmp h h' hm ha hb
theorem tdC {op : CmpOp} {g : D → D → Option Res} (o : ∃ r, OpR X (compareOp op) r ∧ BinOk X.K r g) (hm : behindInMarks op b = false) (ha : PD X a fa) (hb : PD X b fb) : TD X (.Compare a [op] [b] pos) (iTst (iBin g fa fb)) := let ⟨_, h, h'⟩ := o; tdCmp h h' hm ha hb
/-! and, or, not, if -/
theorem pdOne {op : BoolOp} (ha : PD X a fa) : PD X (.BoolOp op [a] pos) fa := let ⟨_, h1, k1⟩ := ha; ⟨_, pe_one h1, k1⟩
theorem pdAnd {c : Expr} {rest : List Expr} (ha : PD X a fa) (hb : PD X (.BoolOp .And (c :: rest) pos) fb) : PD X (.BoolOp .And (a :: c :: rest) pos) (iAnd fa fb) := let ⟨_, h1, k1⟩ := ha; let ⟨_, h2, k2⟩ := hb; ⟨_, pe_and h1 h2, sd_and k1 k2⟩
theorem pdOr {c : Expr} {rest : List Expr} (ha : PD X a fa) (hb : PD X (.BoolOp .Or (c :: rest) pos) fb) : PD X (.BoolOp .Or (a :: c :: rest) pos) (iOr fa fb) := let ⟨_, h1, k1⟩ := ha; let ⟨_, h2, k2⟩ := hb; ⟨_, pe_or h1 h2, sd_or k1 k2⟩
theorem pdNot (ha : PD X a fa) : PD X (.UnaryOp .Not a pos) (iNot fa) := let ⟨_, h1, k1⟩ := ha; ⟨_, pe_not h1, sd_not k1⟩
theorem pdIfE {c : Expr} {fc : EvT} (hc : TD X c fc) (ha : PD X a fa) (hb : PD X b fb) : PD X (.IfExp c a b pos) (iIf fc fa fb) := let ⟨_, h0, k0⟩ := hc; let ⟨_, h1, k1⟩ := ha; let ⟨_, h2, k2⟩ := hb; ⟨_, pe_ifExp h0 h1 h2, sd_if k0 k1 k2⟩
theorem tdTru (ha : PD X a fa) (he : ∀ whole, isTrue a X.env whole = (do let v ← whole; standAt a.pos; holding [v] (truthy v)) := by intro _; rfl) : TD X a (iTru fa) := let ⟨_, h1, k1⟩ := ha; ⟨_, pt_truth h1 he, sdt_tru k1⟩
theorem tdNot {c : Expr} {fc : EvT} (hc : TD X c fc) : TD X (.UnaryOp .Not c pos) (iNotT fc) := let ⟨_, h0, k0⟩ := hc; ⟨_, pt_not h0, sdt_not k0⟩
theorem tdW {c : Expr} {fc : EvT} (hc : WD X c fc) : TD X c fc := let ⟨_, h0, k0⟩ := hc; ⟨_, h0.pt, k0⟩
theorem wdA1 {c : Expr} {fc : EvT} (hc : TD X c fc) : WD X (.BoolOp .And [c] pos) fc := let ⟨_, h0, k0⟩ := hc; ⟨_, pw_and1 h0, k0⟩
theorem wdO1 {c : Expr} {fc : EvT} (hc : TD X c fc) : WD X (.BoolOp .Or [c] pos) fc := let ⟨_, h0, k0⟩ := hc; ⟨_, pw_or1 h0, k0⟩
theorem wdA {c d : Expr} {rest : List Expr} {fc fd : EvT} (hc : TD X c fc) (hd : WD X (.BoolOp .And (d :: rest) pos) fd) : WD X (.BoolOp .And (c :: d :: rest) pos) (iAndT fc fd) := let ⟨_, h0, k0⟩ := hc; let ⟨_, h1, k1⟩ := hd; ⟨_, pw_and h0 h1, sdt_and k0 k1⟩
theorem wdO {c d : Expr} {rest : List Expr} {fc fd : EvT} (hc : TD X c fc) (hd : WD X (.BoolOp .Or (d :: rest) pos) fd) : WD X (.BoolOp .Or (c :: d :: rest) pos) (iOrT fc fd) := let ⟨_, h0, k0⟩ := hc; let ⟨_, h1, k1⟩ := hd; ⟨_, pw_or h0 h1, sdt_or k0 k1⟩
/-! displays, items, slices -/
theorem adNil : AD X [] argN := ⟨_, pa_nil, sda_nil⟩
theorem adCons {fs : EvA} (ha : PD X e f) (hs : AD X es fs) (he : starEach (e :: es) X.env = (false, eval e X.env) :: starEach es X.env := by rfl) : AD X (e :: es) (argC f fs) := let ⟨_, h1, k1⟩ := ha; let ⟨_, h2, k2⟩ := hs; ⟨_, pa_cons h1 h2 he, sda_cons k1 k2⟩
theorem pdTup {c : Nat} (hs : AD X es fs) : PD X (.Tuple es c pos) (iTup fs) := let ⟨_, h1, k1⟩ := hs; ⟨_, pe_tup h1, sd_tup k1⟩
theorem pdLst (hs : AD X es fs) : PD X (.List es pos) (iLst fs) := let ⟨_, h1, k1⟩ := hs; ⟨_, pe_lst h1, sd_lst k1⟩
theorem pdIx (ha : PD X a fa) (hb : PD X b fb) (hs : PlainIx b := by exact fun _ _ => rfl) : PD X (.Subscript a b pos) (iBin gIx fa fb) := let ⟨_, h1, k1⟩ := ha; let ⟨_, h2, k2⟩ := hb; ⟨_, pe_ix ix_seq h1 h2 hs, sd_bin bin_ix k1 k2⟩
def OD (X : Cx) (o : Option Expr) (f : EvO) : Prop := ∃ t, PO X o t ∧ SdO X.K t f
theorem odN : OD X none iNoP := ⟨_, po_none, sdo_none⟩
theorem odS (ha : PD X a fa) : OD X (some a) (iPart fa) := let ⟨_, h1, k1⟩ := ha; ⟨_, po_some h1, sdo_part k1⟩
theorem pdSl {lo hi : Option Expr} {fl fh : EvO} (ha : PD X a fa) (h1 : OD X lo fl) (h2 : OD X hi fh) : PD X (.Subscript a (.Slice lo hi none p2) pos) (iSl fa fl fh) :=
  let ⟨_, g1, k1⟩ := ha; let ⟨_, g2, k2⟩ := h1; let ⟨_, g3, k3⟩ := h2; ⟨_, pe_slice (sl_list.or (sl_tupA.or sl_str)) g1 g2 g3, sd_sl k1 k2 k3⟩
/-! built-ins -/
variable {x : Str}
theorem pdB {id : String} {r : List L2.V → Hp → VK → Prop} {g : List D → Option Res} (hc : CallR X (.builtin id) r) (hB : CallOk X.K r g) (hg : Gl X x) (hm : X.mg x = none) (hv : bootBuiltins x = some (.builtin id)) (ha : AD X (e :: es) fs) (hn : x ≠ "__name__" := by decide) (hdb : (x == ("__debug__" : Str)) = false := by decide)
    (he : starEach (e :: es) X.env = (false, eval e X.env) :: starEach es X.env := by rfl) (hpl : (backTo pos (starEach es X.env)).any (·.1) = false := by rfl) : PD X (.Call (.Name x p) (e :: es) [] pos) (iCB g fs) :=
  let ⟨_, h1, k1⟩ := ha; ⟨_, pe_callB hc hg hm hv h1 hn hdb he hpl, sd_cb hB k1⟩
theorem pdBT {id : String} {r : List L2.V → Hp → VK → Prop} {g : List D → Option Res} (hc : CallR X (.type id) r) (hB : CallOk X.K r g) (hg : Gl X x) (hm : X.mg x = none) (hv : bootBuiltins x = some (.type id)) (ha : AD X (e :: es) fs) (hn : x ≠ "__name__" := by decide) (hdb : (x == ("__debug__" : Str)) = false := by decide)
    (he : starEach (e :: es) X.env = (false, eval e X.env) :: starEach es X.env := by rfl) (hpl : (backTo pos (starEach es X.env)).any (·.1) = false := by rfl) : PD X (.Call (.Name x p) (e :: es) [] pos) (iCB g fs) :=
  let ⟨_, h1, k1⟩ := ha; ⟨_, pe_callTy hc hg hm hv h1 hn hdb he hpl, sd_cb hB k1⟩
end
end DL

namespace DL
open PySem PySem.Spec PyProof.Rows L2
open Evl (Ex)
section
variable {X : Cx} {k : Nat} {a b e l tg : Expr} {es : List Expr} {pos p p2 : Pos} {fa fb f : EvF} {fs : EvA} {x : Str} {st : Stmt} {rest body orelse : List Stmt} {g h : StF}
/-! ### the built-ins by name -/
theorem bLen (m : X.mg "len" = none) (hg : Gl X "len") (ha : AD X [e] fs) (he : starEach [e] X.env = (false, eval e X.env) :: starEach [] X.env := by rfl) : PD X (.Call (.Name "len" p) [e] [] pos) (iCB (c1 gLen) fs) :=
  pdB call_len call_len_ok hg m boot_len ha (by decide) (by decide) he
theorem bInt (m : X.mg "int" = none) (hg : Gl X "int") (ha : AD X [e] fs) (he : starEach [e] X.env = (false, eval e X.env) :: starEach [] X.env := by rfl) : PD X (.Call (.Name "int" p) [e] [] pos) (iCB (c1 gInt) fs) :=
  pdBT call_int1 call_int_ok hg m boot_int ha (by decide) (by decide) he
theorem bList (m : X.mg "list" = none) (hg : Gl X "list") (ha : AD X [e] fs) (he : starEach [e] X.env = (false, eval e X.env) :: starEach [] X.env := by rfl) : PD X (.Call (.Name "list" p) [e] [] pos) (iCB (c1 gList) fs) :=
  pdBT call_list_of call_list_ok hg m boot_list ha (by decide) (by decide) he
theorem bTuple (m : X.mg "tuple" = none) (hg : Gl X "tuple") (ha : AD X [e] fs) (he : starEach [e] X.env = (false, eval e X.env) :: starEach [] X.env := by rfl) : PD X (.Call (.Name "tuple" p) [e] [] pos) (iCB (c1 gTuple) fs) :=
  pdBT call_tuple_of call_tuple_ok hg m boot_tuple ha (by decide) (by decide) he
theorem bAll (hc : X.calm = true) (m : X.mg "all" = none) (hg : Gl X "all") (ha : AD X [e] fs) (he : starEach [e] X.env = (false, eval e X.env) :: starEach [] X.env := by rfl) : PD X (.Call (.Name "all" p) [e] [] pos) (iCB (c1 (gAll true)) fs) :=
  pdB (cr_all hc) call_all_ok hg m (by decide +kernel) ha (by decide) (by decide) he
theorem bAny (hc : X.calm = true) (m : X.mg "any" = none) (hg : Gl X "any") (ha : AD X [e] fs) (he : starEach [e] X.env = (false, eval e X.env) :: starEach [] X.env := by rfl) : PD X (.Call (.Name "any" p) [e] [] pos) (iCB (c1 (gAll false)) fs) :=
  pdB (cr_any hc) call_any_ok hg m (by decide +kernel) ha (by decide) (by decide) he
theorem bSum (hc : X.calm = true) (m : X.mg "sum" = none) (hg : Gl X "sum") (ha : AD X [e] fs) (he : starEach [e] X.env = (false, eval e X.env) :: starEach [] X.env := by rfl) : PD X (.Call (.Name "sum" p) [e] [] pos) (iCB (c1 gSum) fs) :=
  pdB (cr_sum hc) call_sum_ok hg m (by decide +kernel) ha (by decide) (by decide) he
/-- isinstance(e, T), T a built-in class by its name -/
theorem bIsi {T : Str} {n : String} (m : X.mg "isinstance" = none) (hg : Gl X "isinstance") (hT : Gl X T) (mT : X.mg T = none) (bT : bootBuiltins T = some (.type n)) (ha : PD X e f) (hn : T ≠ "__name__" := by decide) (hd : (T == ("__debug__" : Str)) = false := by decide)
    (he : starEach [e, .Name T p2] X.env = (false, eval e X.env) :: starEach [.Name T p2] X.env := by rfl) (he2 : starEach [.Name T p2] X.env = (false, eval (.Name T p2) X.env) :: starEach [] X.env := by rfl) (hpl : (backTo pos (starEach [.Name T p2] X.env)).any (·.1) = false := by rfl) :
    PD X (.Call (.Name "isinstance" p) [e, .Name T p2] [] pos) (iIsi n f) :=
  let ⟨_, h1, k1⟩ := ha
  ⟨_, pe_callB call_isi hg m boot_isinstance (pa_cons h1 (pa_cons (pe_bltn hT mT bT (show RelV (.ty n) (.type n) from rfl) hn hd) pa_nil he2) he) (by decide) (by decide) he hpl, sd_isi k1⟩
/-! ### calls of defs -/
def argLen : EvA → Nat → Prop := fun fs n => ∀ env rs env', fs env = some (rs, env') → rs.length = n
theorem argLen0 : argLen argN 0 := fun env rs env' h => by cases h; rfl
theorem argLenS {fs : EvA} {n : Nat} (h : argLen fs n) : argLen (argC f fs) (n + 1) := fun env rs env' q => by
  simp only [argC, Option.bind_eq_some_iff] at q
  obtain ⟨⟨r, e1⟩, h1, ⟨rs', e2⟩, h2, h3⟩ := q
  cases h3
  rw [List.length_cons, h _ _ _ h2]
theorem pdCall {F : Addr} {fd : FuncData} {ps : List Str} {n : Nat} {m : Fn} (G : FnOk X.prog X.w X.K X.mg X.base CX0 k F fd ps (spF X.K n m)) (hr : Room k X.A) (hg : Gl X x) (hm : X.mg x = some (.ref F)) (hk : PySem.W.keepIn X.K (.ref F) = true) (hb : Binds X.K fd ps [])
    (ha : AD X (e :: es) fs) (hl : argLen fs n) (hdb : (x == ("__debug__" : Str)) = false := by decide) (he : starEach (e :: es) X.env = (false, eval e X.env) :: starEach es X.env := by rfl) (hpl : (backTo pos (starEach es X.env)).any (·.1) = false := by rfl) :
    PD X (.Call (.Name x p) (e :: es) [] pos) (iCall m fs) :=
  let ⟨_, h1, k1⟩ := ha; ⟨_, pe_call G hr hg hm hk hb .nil pass0 h1 hdb he hpl, sd_call k1 hl⟩
/-! ### statements -/
theorem bdNil : BD X [] iNext := ⟨_, pss_nil, sds_next⟩
theorem bdCons (hs : StD X st g) (hr : BD X rest h) : BD X (st :: rest) (iSeq g h) := let ⟨_, h1, k1⟩ := hs; let ⟨_, h2, k2⟩ := hr; ⟨_, pss_cons h1 h2, sds_seq k1 k2⟩
theorem bdOne (hs : StD X st g) : BD X [st] g := let ⟨_, h1, k1⟩ := hs; ⟨_, pss_one h1, k1⟩
theorem bdFrz (i : Nat) (h : BD X rest g) : BD X rest (iSeq (iFrz i) g) := let ⟨_, h1, k1⟩ := h; ⟨_, h1, sds_frz k1⟩
theorem stAsg (ow : Bool) (i : Nat) (nd : X.N.Nodup) (he : PD X e f) (hi : X.N[i]? = some x := by rfl) (hx : Loc X.env.scope x := by first | exact Or.inl rfl | exact Or.inr rfl) (hf : X.fn x = true ∨ X.env.scope.names.lookup x = some .local := by first | exact .inl rfl | exact .inr rfl)
    (hs : swapsWithSole [.Name x p] e pos.line X.env = pure false := by rfl) (hw : swappedStores [.Name x p] e X.env = pure none := by rfl) (h1 : (assignEach [.Name x p] X.env).map (·.2) = [assign (.Name x p) X.env] := by rfl) : StD X (.Assign [.Name x p] e pos) (iAsg ow i f) :=
  let ⟨_, g1, k1⟩ := he; ⟨_, ps_asg g1 (pg_name nd hi hx hf) hs hw h1, sds_asg k1⟩
theorem gdName (i : Nat) (nd : X.N.Nodup) (hi : X.N[i]? = some x := by rfl) (hx : Loc X.env.scope x := by first | exact Or.inl rfl | exact Or.inr rfl) (hf : X.fn x = true ∨ X.env.scope.names.lookup x = some .local := by first | exact .inl rfl | exact .inr rfl) : GD X (.Name x p) (iNm i) := ⟨_, pg_name nd hi hx hf, sdg_name i⟩
theorem gsNil : GsD X [] iGN := ⟨_, pgs_nil, sdgs_nil⟩
theorem gsCons {g : TgF} {gs : TgsF} (h1 : GD X e g) (h2 : GsD X es gs) (hs : (assignEach (e :: es) X.env).map (·.2) = assign e X.env :: (assignEach es X.env).map (·.2) := by rfl) : GsD X (e :: es) (iGC g gs) := let ⟨_, g1, k1⟩ := h1; let ⟨_, g2, k2⟩ := h2; ⟨_, pgs_cons g1 g2 hs, sdgs_cons k1 k2⟩
theorem gdTup {c n : Nat} {gs : TgsF} (hc : X.calm = true) (h : GsD X es gs) (hn : (assignEach es X.env).length = n := by rfl) (hst : (assignEach es X.env).findIdx? (·.1) = none := by rfl) : GD X (.Tuple es c pos) (iGT gs n) := let ⟨_, g1, k1⟩ := h; ⟨_, pg_both hc g1 hn hst, sdg_tup k1⟩
theorem stAsgT {g : TgF} (hg : GD X tg g) (he : PD X e f) (hs : swapsWithSole [tg] e pos.line X.env = pure false := by rfl) (hw : swappedStores [tg] e X.env = pure none := by rfl) (h1 : (assignEach [tg] X.env).map (·.2) = [assign tg X.env] := by rfl) : StD X (.Assign [tg] e pos) (iAsgT g f) :=
  let ⟨_, g1, k1⟩ := he; let ⟨_, g2, k2⟩ := hg; ⟨_, ps_asg g1 g2 hs hw h1, sds_asgT k2 k1⟩
theorem stAdd (i : Nat) (nd : X.N.Nodup) (he : PD X e f) (hi : X.N[i]? = some x := by rfl) (hx : Loc X.env.scope x := by first | exact Or.inl rfl | exact Or.inr rfl) (hf : X.fn x = true ∨ X.env.scope.names.lookup x = some .local := by first | exact .inl rfl | exact .inr rfl) : StD X (.AugAssign (.Name x p) .Add e pos) (iAug i (fun i j => i + j) f) :=
  let ⟨_, g1, k1⟩ := he; ⟨_, ps_aug nd hi hx g1 ip_add hf, sds_aug k1⟩
theorem stIf {c : Expr} {fc : EvT} (hc : TD X c fc) (ha : BD X body g) (hb : BD X orelse h) : StD X (.If c body orelse pos) (iIfS fc g h) := let ⟨_, h0, k0⟩ := hc; let ⟨_, h1, k1⟩ := ha; let ⟨_, h2, k2⟩ := hb; ⟨_, ps_if h0 h1 h2, sds_if k0 k1 k2⟩
theorem stRet (he : PD X e f) : StD X (.Return (some e) pos) (iRet f) := let ⟨_, h1, k1⟩ := he; ⟨_, ps_ret h1, sds_ret k1⟩
theorem stRetN : StD X (.Return none pos) iRetN := ⟨_, ps_retN, sds_retN⟩
theorem stExpr (he : PD X e f) (hs : swapsWith e none pos.line X.env = pure false := by rfl) : StD X (.Expr e pos) (iDrop f) := let ⟨_, h1, k1⟩ := he; ⟨_, ps_expr h1 hs, sds_drop k1⟩
theorem stBrk : StD X (.Break pos) iBrk := ⟨_, ps_break, sds_brk⟩
theorem stCont : StD X (.Continue pos) iCont := ⟨_, ps_continue, sds_cont⟩
theorem stFor {it : ItF} {gt : TgF} (hc : X.calm = true) (hi : ID X tg e it) (hg : GD X tg gt) (hb : BD X body g) (hp : PassesOwn (model X.prog X.w) X.A X.env X.xe) (hs : ∀ x, foldedSetIterable e X.env x = pure x := by intro _; rfl) : StD X (.For tg e body [] pos) (iFor it gt g) :=
  let ⟨_, h0, k0⟩ := hi; let ⟨_, h1, k1⟩ := hg; let ⟨_, h2, k2⟩ := hb; ⟨_, ps_for hp hc h0 h1 h2 hs, sds_for k0 k1 k2⟩
theorem idSeq (he : PD X e f) : ID X tg e (iSeqI f) := let ⟨_, h1, k1⟩ := he; ⟨_, pi_sq h1, sdi_seq k1⟩
theorem idR1 (hg : Gl X "range") (hm : X.mg "range" = none) (ha : AD X [a] fs) (hs : starEach [a] X.env = [(false, eval a X.env)] := by rfl) : ID X tg (.Call (.Name "range" p) [a] [] pos) (iR1 fs) := let ⟨_, h1, k1⟩ := ha; ⟨_, pi_range1 hg hm h1 hs, sdi_r1 k1⟩
theorem idR2 (hg : Gl X "range") (hm : X.mg "range" = none) (ha : AD X [a, b] fs) (hs : starEach [a, b] X.env = [(false, eval a X.env), (false, eval b X.env)] := by rfl) (hs2 : starEach [b] X.env = [(false, eval b X.env)] := by rfl) : ID X tg (.Call (.Name "range" p) [a, b] [] pos) (iR2 fs) :=
  let ⟨_, h1, k1⟩ := ha; ⟨_, pi_range2 hg hm h1 hs hs2, sdi_r2 k1⟩
theorem stWhile {c : Expr} {fc : EvT} (n : Nat) (hc : TD X c fc) (hb : BD X body g) (hp : PassesOwn (model X.prog X.w) X.A X.env X.xe) : StD X (.While c body [] pos) (wloop fc g n) := let ⟨_, h0, k0⟩ := hc; let ⟨_, h1, k1⟩ := hb; ⟨_, ps_while hp h0 h1, sds_while n k0 k1⟩
theorem stApp (i : Nat) (he : PD X e f) {apos p : Pos} (hN : X.N[i]? = some x := by rfl) (hv : Vis X.env.scope x := by first | exact Or.inl rfl | exact Or.inr (Or.inl rfl) | exact Or.inr (Or.inr rfl)) (hd : (x == ("__debug__" : Str)) = false := by decide) (hcd : (x == ("__classdict__" : Str)) = false := by decide)
    (h1 : attributeBase (.Name x p) "append" X.env (eval (.Name x p) X.env) = eval (.Name x p) X.env := by rfl) (h2 : (apos.endLine == pos.line) = true := by rfl) (h3 : starEach [e] X.env = (false, eval e X.env) :: starEach [] X.env := by rfl) (h4 : (backTo pos (starEach [] X.env)).any (·.1) = false := by rfl)
    (h5 : ((backTo pos (starEach [e] X.env)).all (fun x => !x.1) && (backToKw pos (keywordEach [] X.env)).all (fun x => x.1.isSome) && decide ([e].length + ([] : List Keyword).length + (if ([] : List Keyword).isEmpty then 0 else 1) < 30)) = true := by rfl) (hs : swapsWith (.Call (.Attribute (.Name x p) "append" apos) [e] [] pos) none p2.line X.env = pure false := by rfl) : StD X (.Expr (.Call (.Attribute (.Name x p) "append" apos) [e] [] pos) p2) (iApp i f) :=
  let ⟨_, g1, k1⟩ := he
  ⟨_, ps_expr (pe_bm PySem.F.plainAttrs_list PySem.F.slot_list_append PySem.F.type_list_append mt_append (pe_var hN hv hd hcd) (pa_cons g1 pa_nil h3) h1 h5 h2 h3 h4) hs, sds_app k1⟩
theorem stExt (i : Nat) (he : PD X e f) {apos p : Pos} (hN : X.N[i]? = some x := by rfl) (hv : Vis X.env.scope x := by first | exact Or.inl rfl | exact Or.inr (Or.inl rfl) | exact Or.inr (Or.inr rfl)) (hd : (x == ("__debug__" : Str)) = false := by decide) (hcd : (x == ("__classdict__" : Str)) = false := by decide)
    (h1 : attributeBase (.Name x p) "extend" X.env (eval (.Name x p) X.env) = eval (.Name x p) X.env := by rfl) (h2 : (apos.endLine == pos.line) = true := by rfl) (h3 : starEach [e] X.env = (false, eval e X.env) :: starEach [] X.env := by rfl) (h4 : (backTo pos (starEach [] X.env)).any (·.1) = false := by rfl)
    (h5 : ((backTo pos (starEach [e] X.env)).all (fun x => !x.1) && (backToKw pos (keywordEach [] X.env)).all (fun x => x.1.isSome) && decide ([e].length + ([] : List Keyword).length + (if ([] : List Keyword).isEmpty then 0 else 1) < 30)) = true := by rfl) (hs : swapsWith (.Call (.Attribute (.Name x p) "extend" apos) [e] [] pos) none p2.line X.env = pure false := by rfl) : StD X (.Expr (.Call (.Attribute (.Name x p) "extend" apos) [e] [] pos) p2) (iExt i f) :=
  let ⟨_, g1, k1⟩ := he
  ⟨_, ps_expr (pe_bm PySem.F.plainAttrs_list PySem.F.slot_list_extend PySem.F.type_list_extend mt_extend (pe_var hN hv hd hcd) (pa_cons g1 pa_nil h3) h1 h5 h2 h3 h4) hs, sds_ext k1⟩
theorem pdPop (i : Nat) {apos p : Pos} (hN : X.N[i]? = some x := by rfl) (hv : Vis X.env.scope x := by first | exact Or.inl rfl | exact Or.inr (Or.inl rfl) | exact Or.inr (Or.inr rfl)) (hd : (x == ("__debug__" : Str)) = false := by decide) (hcd : (x == ("__classdict__" : Str)) = false := by decide)
    (h1 : attributeBase (.Name x p) "pop" X.env (eval (.Name x p) X.env) = eval (.Name x p) X.env := by rfl) (h2 : (apos.endLine == pos.line) = true := by rfl) : PD X (.Call (.Attribute (.Name x p) "pop" apos) [] [] pos) (iPop i) :=
  ⟨_, pe_bm0 PySem.F.plainAttrs_list PySem.F.slot_list_pop PySem.F.type_list_pop mt_pop (pe_var hN hv hd hcd) h1 h2, sd_pop⟩
end
end DL

namespace DL
open PySem PySem.Spec PyProof.Rows L2
open Evl (Ex)
theorem relI {i : Int} {t : Tok} : RelV (.int i) (.int i t) := ⟨t, rfl⟩
theorem relS {i : Str} {t : Tok} : RelV (.str i) (.str i t) := ⟨t, rfl⟩
theorem relR {a : Addr} : RelV (.ref a) (.ref a) := rfl
/-! ### one reading for a meaning -/
def cE (K : PySem.W.Frag) (f : EvF) : TE := fun σ H Q => ∀ t, Sd K t f → t σ H Q
theorem cE_sd {K : PySem.W.Frag} {f : EvF} : Sd K (cE K f) f := fun env r env' e σ V H ok Q q t ht => ht env r env' e σ V H ok Q q
theorem PD.canon {X : Cx} {e : Expr} {f : EvF} (h : PD X e f) : PE X e (cE X.K f) :=
  let ⟨t, h1, h2⟩ := h; ⟨fun pins s σ H Q I q => h1.run pins s σ H Q I (q t h2)⟩
def cT (K : PySem.W.Frag) (f : EvT) : TT := fun σ H Q => ∀ t, SdT K t f → t σ H Q
theorem cT_sd {K : PySem.W.Frag} {f : EvT} : SdT K (cT K f) f := fun env r env' e σ V H ok Q q t ht => ht env r env' e σ V H ok Q q
def TsD (X : Cx) (cs : List Expr) (f : EvT) : Prop := ∃ t, PTs X cs t ∧ SdT X.K t f
theorem TsD.canon {X : Cx} {cs : List Expr} {f : EvT} (h : TsD X cs f) : PTs X cs (cT X.K f) :=
  let ⟨t, h1, h2⟩ := h; ⟨fun pins s σ H Q I q => h1.run pins s σ H Q I (q t h2)⟩
def GDv (X : Cx) (e : Expr) (g : TgF) (vs : List Nat) : Prop := ∃ t, PG X e t ∧ SdGv X.K t g vs
def GsDv (X : Cx) (es : List Expr) (g : TgsF) (vs : List Nat) : Prop := ∃ t, PGs X es t ∧ SdGsv X.K t g vs
def cG (K : PySem.W.Frag) (g : TgF) (vs : List Nat) : TG := fun v σ H Q => ∀ t, SdGv K t g vs → t v σ H Q
theorem cG_sd {K : PySem.W.Frag} {g : TgF} {vs : List Nat} : SdGv K (cG K g vs) g vs := fun env d env' e σ V H v ok r Q q t ht => ht env d env' e σ V H v ok r Q q
theorem GDv.canon {X : Cx} {e : Expr} {g : TgF} {vs : List Nat} (h : GDv X e g vs) : PG X e (cG X.K g vs) :=
  let ⟨t, h1, h2⟩ := h; ⟨fun pins s σ H v u Q I r q => h1.run pins s σ H v u Q I r (q t h2)⟩
section
variable {X : Cx} {k : Nat} {a b c e l tg elt iter : Expr} {es ifs : List Expr} {pos p p2 : Pos} {fa fb f : EvF} {fs : EvA} {x : Str} {vs : List Nat}
theorem gvName {i : Nat} (nd : X.N.Nodup) (hm : i ∈ vs) (hi : X.N[i]? = some x := by rfl) (hx : Loc X.env.scope x := by first | exact Or.inl rfl | exact Or.inr rfl) (hf : X.fn x = true ∨ X.env.scope.names.lookup x = some .local := by first | exact .inl rfl | exact .inr rfl) : GDv X (.Name x p) (iNm i) vs := ⟨_, pg_name nd hi hx hf, sdgv_name hm⟩
theorem gvNil : GsDv X [] iGN vs := ⟨_, pgs_nil, sdgsv_nil⟩
theorem gvCons {g : TgF} {gs : TgsF} (h1 : GDv X e g vs) (h2 : GsDv X es gs vs) (hs : (assignEach (e :: es) X.env).map (·.2) = assign e X.env :: (assignEach es X.env).map (·.2) := by rfl) : GsDv X (e :: es) (iGC g gs) vs := let ⟨_, g1, k1⟩ := h1; let ⟨_, g2, k2⟩ := h2; ⟨_, pgs_cons g1 g2 hs, sdgsv_cons k1 k2⟩
theorem gvTup {c n : Nat} {gs : TgsF} (hc : X.calm = true) (h : GsDv X es gs vs) (hn : (assignEach es X.env).length = n := by rfl) (hst : (assignEach es X.env).findIdx? (·.1) = none := by rfl) : GDv X (.Tuple es c pos) (iGT gs n) vs := let ⟨_, g1, k1⟩ := h; ⟨_, pg_both hc g1 hn hst, sdgv_tup k1⟩
def iYes : EvT := fun env => some (true, env)
theorem tsNil : TsD X [] iYes := ⟨_, pts_nil, fun env b env' e σ V H ok Q q => by cases e; exact q V H (Adv.refl ok)⟩
theorem tsOne {fc : EvT} (h : TD X c fc) : TsD X [c] fc := let ⟨_, h1, k1⟩ := h; ⟨_, pts_one h1, k1⟩
theorem pdLc {scope : Scope} {own : List (Str × Nat)} {it : ItF} {g : TgF} {fc : EvT} (hc : X.calm = true) (nd : X.N.Nodup) (hi : ID X tg iter it) (ok : BlkOk X.N X.env.scope scope own)
    (hg : ∀ (s : Shared) (H : Hp) (C : Addr) (cl : List (Str × Addr)) (fp : List Addr), GDv (X.blk s H scope (compEnvC scope cl C X.env) fp) tg g (own.map (·.2)))
    (ht : ∀ (s : Shared) (H : Hp) (C : Addr) (cl : List (Str × Addr)) (fp : List Addr), TsD (X.blk s H scope (compEnvC scope cl C X.env) fp) ifs fc)
    (he : ∀ (s : Shared) (H : Hp) (C : Addr) (cl : List (Str × Addr)) (fp : List Addr), PD (X.blk s H scope (compEnvC scope cl C X.env) fp) elt f) (hs : ∀ x, foldedSetIterable iter X.env x = pure x := by intro _; rfl) :
    PD X (.ListComp elt [⟨tg, iter, ifs, 0⟩] scope pos) (iLc it g fc f (own.map (·.2))) :=
  let ⟨_, h0, k0⟩ := hi
  ⟨_, pe_lc (te := cE X.K f) (tt := cT X.K fc) (g := cG X.K g (own.map (·.2))) hc nd h0 ok (fun s H C cl fp => (hg s H C cl fp).canon) (fun s H C cl fp => (ht s H C cl fp).canon) (fun s H C cl fp => (he s H C cl fp).canon) hs, sd_lc k0 cG_sd cT_sd cE_sd⟩
theorem stAsgLc {scope : Scope} {own : List (Str × Nat)} {it : ItF} {g : TgF} {fc : EvT} {py spos : Pos} (ow : Bool) (i : Nat) (hc : X.calm = true) (nd : X.N.Nodup) (hy : X.N[i]? = some x) (hyl : X.env.scope.names.lookup x = some .local)
    (hsw : swapsWith (.ListComp elt [⟨tg, iter, ifs, 0⟩] scope pos) (some (.Name x py)) spos.line X.env = pure true) (hi : ID X tg iter it) (ok : BlkOk X.N X.env.scope scope own)
    (hg : ∀ (s : Shared) (H : Hp) (C : Addr) (cl : List (Str × Addr)) (fp : List Addr), GDv (X.blk s H scope (compEnvC scope cl C X.env) fp) tg g (own.map (·.2)))
    (ht : ∀ (s : Shared) (H : Hp) (C : Addr) (cl : List (Str × Addr)) (fp : List Addr), TsD (X.blk s H scope (compEnvC scope cl C X.env) fp) ifs fc)
    (he : ∀ (s : Shared) (H : Hp) (C : Addr) (cl : List (Str × Addr)) (fp : List Addr), PD (X.blk s H scope (compEnvC scope cl C X.env) fp) elt f) (hs : ∀ x, foldedSetIterable iter X.env x = pure x := by intro _; rfl) :
    StD X (.Assign [.Name x py] (.ListComp elt [⟨tg, iter, ifs, 0⟩] scope pos) spos) (iAsg ow i (iLc it g fc f (own.map (·.2)))) :=
  let ⟨_, h0, k0⟩ := hi
  ⟨_, ps_setLc (te := cE X.K f) (tt := cT X.K fc) (g := cG X.K g (own.map (·.2))) hc nd hy hyl hsw h0 ok (fun s H C cl fp => (hg s H C cl fp).canon) (fun s H C cl fp => (ht s H C cl fp).canon) (fun s H C cl fp => (he s H C cl fp).canon) hs, sds_asg (sd_lc k0 cG_sd cT_sd cE_sd)⟩
/-! ### a < b < c -/
def iChn (g g' : D → D → Option Res) (fa fb fc : EvF) : EvF := fun env => (opd fa env).bind fun p => (opd fb p.2).bind fun q => (look q.2 p.1).bind fun d => (look q.2 q.1).bind fun e => (g d e).bind fun r => (isB r).bind fun b =>
  if b = true then (opd fc q.2).bind fun s => (look s.2 q.1).bind fun e' => (look s.2 s.1).bind fun f => (g' e' f).bind fun r' => some (r', s.2) else some (.val (.bool false), q.2)
theorem sd_chn {K : PySem.W.Frag} {r r' : R2} {g g' : D → D → Option Res} {ta tb tc : TE} {fa fb fc : EvF} (h1 : BinOk K r g) (h2 : BinOk K r' g') (ha : Sd K ta fa) (hb : Sd K tb fb) (hc : Sd K tc fc) : Sd K (tChain r r' ta tb tc) (iChn g g' fa fb fc) := by
  intro env res env' e σ V H ok Q q
  simp only [iChn, Option.bind_eq_some_iff] at e
  obtain ⟨⟨ra, e1⟩, k1, ⟨rb, e2⟩, k2, d, k3, d', k4, rr, k5, b, k6, k7⟩ := e
  refine opd_snd ha k1 ok fun x V1 H1 a1 c1 => ?_
  refine opd_snd hb k2 a1.ok fun y V2 H2 a2 c2 => ?_
  have a := a1.trans a2
  have hr : rr = _ := isB_val k6
  subst hr
  refine h1 V2 H2 x y d d' _ a.ok.sub ((c1.mono a2.ex).look a.ok k3) (c2.look a.ok k4) k5 _ fun v V' H' al rv => ⟨b, R.isBool rv, ?_⟩
  have a3 := a.trans (al.adv a.ok)
  cases b with
  | false =>
    rw [if_neg Bool.false_ne_true]
    rw [if_neg Bool.false_ne_true] at k7
    cases k7
    exact q _ V' H' a3 (R.bool false)
  | true =>
    rw [if_pos rfl]
    rw [if_pos rfl] at k7
    simp only [Option.bind_eq_some_iff] at k7
    obtain ⟨⟨rc, e3⟩, m1, f', m2, f2, m3, r2, m4, m5⟩ := k7
    cases m5
    refine opd_snd hc m1 a3.ok fun z V3 H3 a4 c3 => ?_
    have a5 := a3.trans a4
    exact h2 V3 H3 y z f' f2 res a5.ok.sub ((((c2.mono al.ex)).mono a4.ex).look a5.ok m2) (c3.look a5.ok m3) m4 Q fun v V4 H4 b2 hr2 => q v V4 H4 (a5.trans (b2.adv a5.ok)) (hr2.rok a5 b2)
theorem pdChn {op op' : CmpOp} {g g' : D → D → Option Res} {fc : EvF} (o : ∃ r, OpR X (compareOp op) r ∧ BinOk X.K r g) (o' : ∃ r, OpR X (compareOp op') r ∧ BinOk X.K r g') (ha : PD X a fa) (hb : PD X b fb) (hc : PD X c fc) (hm : lastMarks [op, op'] [b, c] = false := by with_unfolding_all rfl) : PD X (.Compare a [op, op'] [b, c] pos) (iChn g g' fa fb fc) :=
  let ⟨_, h1, k1⟩ := o; let ⟨_, h2, k2⟩ := o'; let ⟨_, h3, k3⟩ := ha; let ⟨_, h4, k4⟩ := hb; let ⟨_, h5, k5⟩ := hc; ⟨_, pe_chain h1 h2 h3 h4 h5 hm, sd_chn k1 k2 k3 k4 k5⟩
theorem tdChn {op op' : CmpOp} {g g' : D → D → Option Res} {fc : EvF} (o : ∃ r, OpR X (compareOp op) r ∧ BinOk X.K r g) (o' : ∃ r, OpR X (compareOp op') r ∧ BinOk X.K r g') (ha : PD X a fa) (hb : PD X b fb) (hc : PD X c fc) (hm : lastMarks [op, op'] [b, c] = false := by with_unfolding_all rfl) : TD X (.Compare a [op, op'] [b, c] pos) (iTst (iChn g g' fa fb fc)) :=
  let ⟨_, h1, k1⟩ := o; let ⟨_, h2, k2⟩ := o'; let ⟨_, h3, k3⟩ := ha; let ⟨_, h4, k4⟩ := hb; let ⟨_, h5, k5⟩ := hc; ⟨_, pt_chain h1 h2 h3 h4 h5 hm, sdt_test (sd_chn k1 k2 k3 k4 k5)⟩
end
end DL

/-! The meanings, applied: what simp computes with. -/
namespace DL
open PySem L2
section
variable {env e : Nv} {f g fa fb fc : EvF} {fs : EvA} {c t : EvT} {s u : StF} {d d' : D} {r : Res} {i j : Int} {n : Nat}
@[simp] theorem iVar_ap : iVar n env = match env[n]? with
  | some (.val d) => some (.val d, env)
  | some (.own _ _) => some (.own n, env)
  | _ => none := rfl
@[simp] theorem iCon_ap : iCon d env = some (.val d, env) := rfl
@[simp] theorem pub_val : pub (.val d) = .val d := rfl
@[simp] theorem pub_new : pub (.new d) = .val d := rfl
@[simp] theorem pub_own : pub (.own n) = .own n := rfl
@[simp] theorem opd_ap : opd f env = (f env).bind fun p => some (pub p.1, p.2) := rfl
@[simp] theorem look_val : look env (.val d) = some d := rfl
@[simp] theorem look_new : look env (.new d) = some d := rfl
@[simp] theorem look_own' : look env (.own n) = match env[n]? with
  | some (.own _ d) => some d
  | _ => none := rfl
@[simp] theorem vis_val : vis (.val d) = some d := rfl
@[simp] theorem vis_new : vis (.new d) = some d := rfl
@[simp] theorem iBin_ap {o : D → D → Option Res} : iBin o fa fb env = (opd fa env).bind fun p => (opd fb p.2).bind fun q => (look q.2 p.1).bind fun d => (look q.2 q.1).bind fun e => (o d e).bind fun r => some (r, q.2) := rfl
@[simp] theorem iUn_ap {o : D → Option Res} : iUn o fa env = (opd fa env).bind fun p => (look p.2 p.1).bind fun d => (o d).bind fun r => some (r, p.2) := rfl
@[simp] theorem argN_ap : argN env = some ([], env) := rfl
@[simp] theorem argC_ap : argC f fs env = (opd f env).bind fun p => (fs p.2).bind fun q => some (p.1 :: q.1, q.2) := rfl
@[simp] theorem looks_nil : looks env [] = some [] := rfl
@[simp] theorem looks_cons {rs : List Res} : looks env (r :: rs) = (look env r).bind fun d => (looks env rs).bind fun ds => some (d :: ds) := rfl
@[simp] theorem viss_nil : viss [] = some [] := rfl
@[simp] theorem viss_cons {rs : List Res} : viss (r :: rs) = (vis r).bind fun d => (viss rs).bind fun ds => some (d :: ds) := rfl
@[simp] theorem iCB_ap {o : List D → Option Res} : iCB o fs env = (fs env).bind fun p => (looks p.2 p.1).bind fun ds => (o ds).bind fun r => some (r, p.2) := rfl
@[simp] theorem iTup_ap : iTup fs env = (fs env).bind fun p => (viss p.1).bind fun ds => if ds.length ≤ 1000 then some (.val (.tuple ds), p.2) else none := rfl
@[simp] theorem iLst_ap : iLst fs env = (fs env).bind fun p => (viss p.1).bind fun ds => if ds.length ≤ 1000 then some (.new (.list ds), p.2) else none := rfl
@[simp] theorem isB_ap {b : Bool} : isB (.val (.bool b)) = some b := rfl
@[simp] theorem isI_ap : isI (.val (.int i)) = some i := rfl
@[simp] theorem iTst_ap : iTst f env = (f env).bind fun p => (isB p.1).bind fun b => some (b, p.2) := rfl
@[simp] theorem iTru_ap : iTru f env = (opd f env).bind fun p => (look p.2 p.1).bind fun d => (truD d).bind fun b => some (b, p.2) := rfl
@[simp] theorem iNotT_ap : iNotT c env = (c env).bind fun p => some (!p.1, p.2) := rfl
@[simp] theorem iAndT_ap : iAndT c t env = (c env).bind fun p => if p.1 = true then t p.2 else some (false, p.2) := rfl
@[simp] theorem iOrT_ap : iOrT c t env = (c env).bind fun p => if p.1 = true then some (true, p.2) else t p.2 := rfl
@[simp] theorem iAnd_ap : iAnd fa fb env = (fa env).bind fun p => (isB p.1).bind fun b => if b = true then fb p.2 else some (.val (.bool false), p.2) := rfl
@[simp] theorem iOr_ap : iOr fa fb env = (fa env).bind fun p => (isB p.1).bind fun b => if b = true then some (.val (.bool true), p.2) else fb p.2 := rfl
@[simp] theorem iNot_ap : iNot fa env = (fa env).bind fun p => (isB p.1).bind fun b => some (.val (.bool (!b)), p.2) := rfl
@[simp] theorem iIf_ap : iIf c fa fb env = (c env).bind fun p => if p.1 = true then fa p.2 else fb p.2 := rfl
@[simp] theorem iSl_ap {lo hi : EvO} : iSl f lo hi env = (opd f env).bind fun p => (lo p.2).bind fun q => (hi q.2).bind fun r => (look r.2 p.1).bind fun d => (gSl d q.1 r.1).bind fun z => some (z, r.2) := rfl
@[simp] theorem iNoP_ap : iNoP env = some (none, env) := rfl
@[simp] theorem iPart_ap : iPart f env = (f env).bind fun p => (isI p.1).bind fun i => some (some i, p.2) := rfl
@[simp] theorem iIsi_ap {T : String} : iIsi T f env = (opd f env).bind fun p => (look p.2 p.1).bind fun d => (isiD T d).bind fun b => some (.val (.bool b), p.2) := rfl
@[simp] theorem iChn_ap {o o' : D → D → Option Res} : iChn o o' fa fb fc env = (opd fa env).bind fun p => (opd fb p.2).bind fun q => (look q.2 p.1).bind fun d => (look q.2 q.1).bind fun e => (o d e).bind fun r => (isB r).bind fun b =>
  if b = true then (opd fc q.2).bind fun s => (look s.2 q.1).bind fun e' => (look s.2 s.1).bind fun f => (o' e' f).bind fun r' => some (r', s.2) else some (.val (.bool false), q.2) := rfl
/-! operations -/
@[simp] theorem gAdd_int : gAdd (.int i) (.int j) = some (.val (.int (i + j))) := rfl
@[simp] theorem gAdd_str {x y : Str} : gAdd (.str x) (.str y) = if x.length + y.length ≤ 100000 then some (.val (.str (x ++ y))) else none := by
  unfold gAdd alt oI gAddS gCatT gCatL
  dsimp only
  split <;> simp_all
@[simp] theorem gAdd_tup {x y : List D} : gAdd (.tuple x) (.tuple y) = if x.length + y.length ≤ 100000 then some (.val (.tuple (x ++ y))) else none := rfl
@[simp] theorem gSub_int : DL.gSub (.int i) (.int j) = some (.val (.int (i - j))) := rfl
@[simp] theorem gMul_int : gMul (.int i) (.int j) = if mulC i j = true then some (.val (.int (i * j))) else none := by
  unfold gMul oI
  dsimp only
  split <;> rfl
@[simp] theorem gMulR_int : gMulR (.int i) (.int j) = if sm j = true then some (.val (.int (i * j))) else none := by
  unfold gMulR oI
  dsimp only
  split <;> rfl
@[simp] theorem gMulL_int : gMulL (.int i) (.int j) = if sm i = true then some (.val (.int (i * j))) else none := by
  unfold gMulL oI
  dsimp only
  split <;> rfl
@[simp] theorem gDiv_int : gDiv (.int i) (.int j) = if 0 < j ∧ j < 2 ^ 64 then some (.val (.int (i / j))) else none := by
  unfold gDiv oI
  simp only [Bool.and_eq_true, decide_eq_true_eq]
  split <;> rfl
@[simp] theorem gMod_int : gMod (.int i) (.int j) = if 0 < j then some (.val (.int (i % j))) else none := by
  unfold gMod oI
  simp only [decide_eq_true_eq]
  split <;> rfl
@[simp] theorem gPow_int : gPow (.int i) (.int j) = if 0 ≤ j ∧ j ≤ 1000 ∧ i.natAbs < 2 ^ 64 then some (.val (.int (i ^ j.toNat))) else none := by
  unfold gPow oI
  simp only [Bool.and_eq_true, decide_eq_true_eq, and_assoc]
  split <;> rfl
@[simp] theorem gNeg_int : gNeg (.int i) = some (.val (.int (-i))) := rfl
@[simp] theorem gLt_int : gLt (.int i) (.int j) = some (.val (.bool (decide (i < j)))) := rfl
@[simp] theorem gLe_int : gLe (.int i) (.int j) = some (.val (.bool (decide (i ≤ j)))) := rfl
@[simp] theorem gGt_int : gGt (.int i) (.int j) = some (.val (.bool (decide (j < i)))) := rfl
@[simp] theorem gGe_int : gGe (.int i) (.int j) = some (.val (.bool (decide (j ≤ i)))) := rfl
@[simp] theorem gEq_int : gEq (.int i) (.int j) = some (.val (.bool (decide (i = j)))) := rfl
@[simp] theorem gNe_int : gNe (.int i) (.int j) = some (.val (.bool (!decide (i = j)))) := rfl
@[simp] theorem gEq_str {x y : Str} : gEq (.str x) (.str y) = some (.val (.bool (decide (x = y)))) := rfl
@[simp] theorem gNe_str {x y : Str} : gNe (.str x) (.str y) = some (.val (.bool (!decide (x = y)))) := rfl
@[simp] theorem gEq_bool {x y : Bool} : gEq (.bool x) (.bool y) = some (.val (.bool (decide (x = y)))) := rfl
@[simp] theorem gNe_bool {x y : Bool} : gNe (.bool x) (.bool y) = some (.val (.bool (!decide (x = y)))) := rfl
@[simp] theorem gIs_ap : gIs d .none = some (.val (.bool (isNoneD d))) := rfl
@[simp] theorem gIsN_ap : gIsN d .none = some (.val (.bool (!isNoneD d))) := rfl
@[simp] theorem isNone_none : isNoneD .none = true := rfl
@[simp] theorem isNone_int : isNoneD (.int i) = false := rfl
@[simp] theorem isNone_tup {x : List D} : isNoneD (.tuple x) = false := rfl
@[simp] theorem isNone_str {x : Str} : isNoneD (.str x) = false := rfl
@[simp] theorem gIx_list {x : List D} : gIx (.list x) (.int i) = (atI x i).map .val := rfl
@[simp] theorem gIx_tup {x : List D} : gIx (.tuple x) (.int i) = (atI x i).map .val := rfl
@[simp] theorem gSl_tup {x : List D} {lo hi : Option Int} : gSl (.tuple x) lo hi = some (.val (.tuple (cutD x lo hi))) := rfl
@[simp] theorem gSl_list {x : List D} {lo hi : Option Int} : gSl (.list x) lo hi = some (.new (.list (cutD x lo hi))) := rfl
@[simp] theorem c1_ap {o : D → Option Res} : c1 o [d] = o d := rfl
@[simp] theorem gLen_list {x : List D} : gLen (.list x) = some (.val (.int (x.length : Int))) := rfl
@[simp] theorem gLen_tup {x : List D} : gLen (.tuple x) = some (.val (.int (x.length : Int))) := rfl
@[simp] theorem gInt_int : gInt (.int i) = some (.val (.int i)) := rfl
@[simp] theorem gList_list {x : List D} : gList (.list x) = some (.new (.list x)) := rfl
@[simp] theorem gList_tup {x : List D} : gList (.tuple x) = some (.new (.list x)) := rfl
@[simp] theorem gTuple_list {x : List D} : gTuple (.list x) = some (.val (.tuple x)) := rfl
@[simp] theorem gTuple_tup {x : List D} : gTuple (.tuple x) = some (.val (.tuple x)) := rfl
@[simp] theorem truD_none : truD .none = some false := rfl
@[simp] theorem truD_bool {b : Bool} : truD (.bool b) = some b := rfl
@[simp] theorem truD_int : truD (.int i) = some (i != 0) := rfl
@[simp] theorem truD_list {x : List D} : truD (.list x) = some (!x.isEmpty) := rfl
@[simp] theorem truD_tup {x : List D} : truD (.tuple x) = some (!x.isEmpty) := rfl
@[simp] theorem isi_int_int : isiD "int" (.int i) = some true := by show kitB "int" "int" = _; decide +kernel
@[simp] theorem isi_int_tup {x : List D} : isiD "int" (.tuple x) = some false := by show kitB "tuple" "int" = _; decide +kernel
@[simp] theorem isi_bool_bool {b : Bool} : isiD "bool" (.bool b) = some true := by show kitB "bool" "bool" = _; decide +kernel
@[simp] theorem isi_tup_tup {x : List D} : isiD "tuple" (.tuple x) = some true := by show kitB "tuple" "tuple" = _; decide +kernel
@[simp] theorem isi_list_list {x : List D} : isiD "list" (.list x) = some true := by show kitB "list" "list" = _; decide +kernel
@[simp] theorem isi_bool_int : isiD "bool" (.int i) = some false := by show kitB "int" "bool" = _; decide +kernel
/-! statements -/
theorem iSeq_next (h : s env = some (.next e)) : iSeq s u env = u e := by unfold iSeq; rw [h]
theorem iSeq_ret (h : s env = some (.ret r e)) : iSeq s u env = some (.ret r e) := by unfold iSeq; rw [h]
@[simp] theorem iNext_ap : iNext env = some (.next env) := rfl
@[simp] theorem iRet_val (h : f env = some (.val d, e)) : iRet f env = some (.ret (.val d) e) := by unfold iRet; rw [h]; rfl
@[simp] theorem iRet_new (h : f env = some (.new d, e)) : iRet f env = some (.ret (.new d) e) := by unfold iRet; rw [h]; rfl
theorem iIfS_true (h : c env = some (true, e)) : iIfS c s u env = s e := by unfold iIfS; rw [h]; rfl
theorem iIfS_false (h : c env = some (false, e)) : iIfS c s u env = u e := by unfold iIfS; rw [h]; rfl
theorem iAsg_val {ow : Bool} (h : f env = some (.val d, e)) (k : setV e n (.val d) = some env') : iAsg ow n f env = some (.next env') := by unfold iAsg; rw [h]; simp [k]
theorem iAsg_new {ow : Bool} (h : f env = some (.new d, e)) (k : setV e n (if ow then .own false d else .val d) = some env') : iAsg ow n f env = some (.next env') := by unfold iAsg; rw [h]; simp [k]
end
/-! ### what a body comes to -/
def Ret (P : Res → Nv → Prop) (o : Option Fl) : Prop := ∃ r e, o = some (.ret r e) ∧ P r e
def Nxt (P : Nv → Prop) (o : Option Fl) : Prop := ∃ e, o = some (.next e) ∧ P e
/-- it returns so, or goes on so -/
def RetOr (P : Res → Nv → Prop) (N : Nv → Prop) (o : Option Fl) : Prop := Ret P o ∨ Nxt N o
section
variable {s u : StF} {env e : Nv} {P N : Nv → Prop} {Q : Res → Nv → Prop} {W : Option Fl → Prop} {c : EvT} {f : EvF} {d : D} {n : Nat} {b : Bool}
theorem seq_ret (P : Nv → Prop) (h : Nxt P (s env)) (k : ∀ e, P e → Ret Q (u e)) : Ret Q (iSeq s u env) := by
  obtain ⟨e, h1, h2⟩ := h
  rw [iSeq_next h1]
  exact k e h2
theorem seq_nxt (P : Nv → Prop) (h : Nxt P (s env)) (k : ∀ e, P e → Nxt N (u e)) : Nxt N (iSeq s u env) := by
  obtain ⟨e, h1, h2⟩ := h
  rw [iSeq_next h1]
  exact k e h2
theorem seq_or (P : Nv → Prop) (h : RetOr Q P (s env)) (k : ∀ e, P e → Ret Q (u e)) : Ret Q (iSeq s u env) := by
  rcases h with ⟨r, e, h1, h2⟩ | h
  · exact ⟨r, e, iSeq_ret h1, h2⟩
  · exact seq_ret P h k
/-- a statement that is known -/
theorem seq_is (h : s env = some (.next e)) (k : W (u e)) : W (iSeq s u env) := by rw [iSeq_next h]; exact k
theorem if_b (h : c env = some (b, e)) (k1 : b = true → W (s e)) (k2 : b = false → W (u e)) : W (iIfS c s u env) := by
  cases b with
  | true => rw [iIfS_true h]; exact k1 rfl
  | false => rw [iIfS_false h]; exact k2 rfl
/-- a test told by a proposition -/
theorem if_p {p : Prop} [Decidable p] (h : c env = some (decide p, e)) (k1 : p → W (s e)) (k2 : ¬ p → W (u e)) : W (iIfS c s u env) :=
  if_b h (fun z => k1 (of_decide_eq_true z)) fun z => k2 (of_decide_eq_false z)
theorem ret_val (h : f env = some (.val d, e)) (q : Q (.val d) e) : Ret Q (iRet f env) := ⟨_, _, iRet_val h, q⟩
theorem ret_new (h : f env = some (.new d, e)) (q : Q (.new d) e) : Ret Q (iRet f env) := ⟨_, _, iRet_new h, q⟩
theorem ret_own (h : f env = some (.own n, e)) (k : e[n]? = some (.own false d)) (q : Q (.new d) (e.set n .no)) : Ret Q (iRet f env) := by
  refine ⟨_, _, ?_, q⟩
  unfold iRet
  rw [h]
  simp [k]
theorem asg_val {ow : Bool} {e' : Nv} (h : f env = some (.val d, e)) (k : setV e n (.val d) = some e') (p : P e') : Nxt P (iAsg ow n f env) := ⟨_, iAsg_val h k, p⟩
theorem asg_new {ow : Bool} {e' : Nv} (h : f env = some (.new d, e)) (k : setV e n (if ow then .own false d else .val d) = some e') (p : P e') : Nxt P (iAsg ow n f env) := ⟨_, iAsg_new h k, p⟩
theorem nxt_here (p : P env) : Nxt P (iNext env) := ⟨_, rfl, p⟩
/-- a def of this body -/
theorem run_of {n N : Nat} {g : StF} {sls : List Sl} {P : Res → List Sl → Prop} (h : Ret (fun r e => notOwnR r = true ∧ ∃ o, outs sls e = some o ∧ P r o) (g (sls ++ List.replicate (N - n) .no))) (hn : sls.length = n := by rfl) (h2 : n ≤ N := by decide) (hp : parOnly sls = true := by rfl) :
    ∃ r o, runDef n N g sls = some (r, o) ∧ P r o := by
  obtain ⟨r, e, h1, h3, o, h4, h5⟩ := h
  refine ⟨r, o, ?_, h5⟩
  unfold runDef
  rw [if_pos ⟨hn, h2, hp⟩, h1]
  simp [h3, h4]
/-- .. whose arguments are values -/
theorem run_val {n N : Nat} {g : StF} {sls : List Sl} {P : D → Prop} (h : Ret (fun r e => ∃ d, r = .val d ∧ outs sls e = some sls ∧ P d) (g (sls ++ List.replicate (N - n) .no))) (hn : sls.length = n := by rfl) (h2 : n ≤ N := by decide) (hp : parOnly sls = true := by rfl) :
    ∃ d, runDef n N g sls = some (.val d, sls) ∧ P d := by
  obtain ⟨r, e, h1, d, rfl, h4, h5⟩ := h
  refine ⟨d, ?_, h5⟩
  unfold runDef
  rw [if_pos ⟨hn, h2, hp⟩, h1]
  simp [h4, notOwnR]
theorem run_eq {n N : Nat} {g : StF} {sls : List Sl} {d : D} (h : Ret (fun r e => r = .val d ∧ outs sls e = some sls) (g (sls ++ List.replicate (N - n) .no))) (hn : sls.length = n := by rfl) (h2 : n ≤ N := by decide) (hp : parOnly sls = true := by rfl) : runDef n N g sls = some (.val d, sls) := by
  obtain ⟨r, e, h1, rfl, h4⟩ := h
  unfold runDef
  rw [if_pos ⟨hn, h2, hp⟩, h1]
  simp [h4, notOwnR]
theorem run_new {n N : Nat} {g : StF} {sls : List Sl} {d : D} (h : Ret (fun r e => r = .new d ∧ outs sls e = some sls) (g (sls ++ List.replicate (N - n) .no))) (hn : sls.length = n := by rfl) (h2 : n ≤ N := by decide) (hp : parOnly sls = true := by rfl) : runDef n N g sls = some (.new d, sls) := by
  obtain ⟨r, e, h1, rfl, h4⟩ := h
  unfold runDef
  rw [if_pos ⟨hn, h2, hp⟩, h1]
  simp [h4, notOwnR]
end
theorem opd_is {f : EvF} {env e : Nv} {r : Res} (h : f env = some (r, e)) : opd f env = some (pub r, e) := by unfold opd; rw [h]; rfl
section
variable {f fa fb : EvF} {c t : EvT} {env e e1 e2 : Nv} {r : Res} {d d' : D} {b : Bool}
theorem opd_val (h : f env = some (.val d, e)) : opd f env = some (.val d, e) := opd_is h
theorem opd_new (h : f env = some (.new d, e)) : opd f env = some (.val d, e) := opd_is h
theorem bop_is {g : D → D → Option Res} (ha : opd fa env = some (.val d, e1)) (hb : opd fb e1 = some (.val d', e2)) (hg : g d d' = some r) : iBin g fa fb env = some (r, e2) := by
  unfold iBin
  rw [ha]
  show ((opd fb e1).bind _) = _
  rw [hb]
  show ((g d d').bind _) = _
  rw [hg]
  rfl
theorem chn_t {g g' : D → D → Option Res} {fc : EvF} {d'' : D} {e3 : Nv} (ha : opd fa env = some (.val d, e1)) (hb : opd fb e1 = some (.val d', e2)) (hg : g d d' = some (.val (.bool true))) (hc : opd fc e2 = some (.val d'', e3)) (hg' : g' d' d'' = some r) : iChn g g' fa fb fc env = some (r, e3) := by
  unfold iChn
  rw [ha]
  show ((opd fb e1).bind _) = _
  rw [hb]
  show ((g d d').bind _) = _
  rw [hg]
  show ((opd fc e2).bind _) = _
  rw [hc]
  show ((g' d' d'').bind _) = _
  rw [hg']
  rfl
theorem tst_is (h : f env = some (.val (.bool b), e)) : iTst f env = some (b, e) := by unfold iTst; rw [h]; rfl
theorem tru_is (h : opd f env = some (.val d, e)) (k : truD d = some b) : iTru f env = some (b, e) := by
  unfold iTru
  rw [h]
  show ((truD d).bind _) = _
  rw [k]
  rfl
theorem notT_is (h : c env = some (b, e)) : iNotT c env = some (!b, e) := by unfold iNotT; rw [h]; rfl
theorem andT_t (h : c env = some (true, e)) : iAndT c t env = t e := by unfold iAndT; rw [h]; rfl
theorem andT_f (h : c env = some (false, e)) : iAndT c t env = some (false, e) := by unfold iAndT; rw [h]; rfl
theorem orT_t (h : c env = some (true, e)) : iOrT c t env = some (true, e) := by unfold iOrT; rw [h]; rfl
theorem orT_f (h : c env = some (false, e)) : iOrT c t env = t e := by unfold iOrT; rw [h]; rfl
theorem and_t (h : fa env = some (.val (.bool true), e)) : iAnd fa fb env = fb e := by unfold iAnd; rw [h]; rfl
theorem and_f (h : fa env = some (.val (.bool false), e)) : iAnd fa fb env = some (.val (.bool false), e) := by unfold iAnd; rw [h]; rfl
theorem not_is (h : fa env = some (.val (.bool b), e)) : iNot fa env = some (.val (.bool (!b)), e) := by unfold iNot; rw [h]; rfl
theorem cb_is {g : D → Option Res} (h : opd f env = some (.val d, e)) (k : g d = some r) : iCB (c1 g) (argC f argN) env = some (r, e) := by
  unfold iCB argC
  rw [h]
  show ((g d).bind _) = _
  rw [k]
  rfl
theorem tup1_is {d1 : D} (h1 : opd f env = some (.val d1, e1)) : DL.iTup (argC f argN) env = some (.val (.tuple [d1]), e1) := by
  have q : argC f argN env = some ([.val d1], e1) := by unfold argC; rw [h1]; rfl
  unfold DL.iTup
  rw [q]
  rfl
theorem tup2_is {d1 d2 : D} (h1 : opd f env = some (.val d1, e1)) (h2 : opd fa e1 = some (.val d2, e2)) : DL.iTup (argC f (argC fa argN)) env = some (.val (.tuple [d1, d2]), e2) := by
  have q : argC f (argC fa argN) env = some ([.val d1, .val d2], e2) := by
    unfold argC
    rw [h1]
    show (((opd fa e1).bind _).bind _) = _
    rw [h2]
    rfl
  unfold DL.iTup
  rw [q]
  rfl
theorem isi_is {T : String} (h : opd f env = some (.val d, e)) (k : isiD T d = some b) : iIsi T f env = some (.val (.bool b), e) := by
  unfold iIsi
  rw [h]
  show ((isiD T d).bind _) = _
  rw [k]
  rfl
end
/-! ### calls whose arguments are values -/
def vals : List D → List Res := List.map .val
theorem sls_vals {env : Nv} : ∀ {ds : List D}, slsOf env (vals ds) = some (ds.map .val)
  | [] => rfl
  | d :: ds => by
    show (slsOf env (vals ds)).bind _ = _
    rw [sls_vals]
    rfl
theorem dup_vals : ∀ {ds : List D}, dupFree (vals ds) = true
  | [] => rfl
  | d :: ds => dup_vals (ds := ds)
theorem back1_vals : ∀ {ds : List D} {ss : List Sl} {i : Nat}, back1 i (vals ds) ss = none
  | [], _, _ => rfl
  | d :: ds, [], _ => rfl
  | d :: ds, s :: ss, i => back1_vals (ds := ds) (ss := ss) (i := i)
theorem back_vals {ds : List D} {ss : List Sl} {env : Nv} : back (vals ds) ss env = env := by
  apply List.ext_getElem?
  intro i
  rw [back_at]
  cases env[i]? with
  | none => rfl
  | some s =>
    cases s with
    | no => rfl
    | val _ => rfl
    | own p d =>
      show some (match back1 i (vals ds) ss with
        | some d' => Sl.own p d'
        | none => Sl.own p d) = _
      rw [back1_vals]
theorem call_vals {g : Fn} {fs : EvA} {env e : Nv} {ds : List D} {r : Res} {o : List Sl} (h : fs env = some (vals ds, e)) (hg : g (ds.map .val) = some (r, o)) (hr : notOwnR r = true) : iCall g fs env = some (r, e) := by
  unfold iCall
  rw [h]
  simp [sls_vals, dup_vals, hg, hr, back_vals]
theorem call1 {g : Fn} {f : EvF} {env e : Nv} {d : D} {r : Res} {o : List Sl} (h : opd f env = some (.val d, e)) (hg : g [.val d] = some (r, o)) (hr : notOwnR r = true := by rfl) : iCall g (argC f argN) env = some (r, e) :=
  call_vals (ds := [d]) (by simp only [argC_ap, h, argN_ap, Option.bind_some]; rfl) hg hr
theorem call2 {g : Fn} {f f2 : EvF} {env e e2 : Nv} {d d2 : D} {r : Res} {o : List Sl} (h : opd f env = some (.val d, e)) (h2 : opd f2 e = some (.val d2, e2)) (hg : g [.val d, .val d2] = some (r, o)) (hr : notOwnR r = true := by rfl) : iCall g (argC f (argC f2 argN)) env = some (r, e2) :=
  call_vals (ds := [d, d2]) (by simp only [argC_ap, h, h2, argN_ap, Option.bind_some]; rfl) hg hr
theorem call3 {g : Fn} {f f2 f3 : EvF} {env e e2 e3 : Nv} {d d2 d3 : D} {r : Res} {o : List Sl} (h : opd f env = some (.val d, e)) (h2 : opd f2 e = some (.val d2, e2)) (h3 : opd f3 e2 = some (.val d3, e3)) (hg : g [.val d, .val d2, .val d3] = some (r, o)) (hr : notOwnR r = true := by rfl) :
    iCall g (argC f (argC f2 (argC f3 argN))) env = some (r, e3) :=
  call_vals (ds := [d, d2, d3]) (by simp only [argC_ap, h, h2, h3, argN_ap, Option.bind_some]; rfl) hg hr
/-- simp's form: arguments one by one -/
@[simp] theorem iCall1_ap {g : Fn} {f : EvF} {env : Nv} : iCall g (argC f argN) env = (opd f env).bind fun p => (slsOf p.2 [p.1]).bind fun ss => if dupFree [p.1] = true then (g ss).bind fun q => if notOwnR q.1 = true then some (q.1, back [p.1] q.2 p.2) else none else none := by
  unfold iCall
  simp only [argC_ap, argN_ap]
  cases opd f env <;> rfl
/-! ### loops -/
def Free (w : Sl) : Prop := ∀ d, w ≠ .own true d
theorem free_no : Free .no := fun d z => by cases z
theorem free_val {d : D} : Free (.val d) := fun d z => by cases z
theorem free_own {d : D} : Free (.own false d) := fun d z => by cases z
theorem setV_free {env : Nv} {i : Nat} {w s : Sl} (h : env[i]? = some w) (f : Free w) : setV env i s = some (env.set i s) := by
  unfold setV
  rw [h]
  cases w with
  | no => rfl
  | val _ => rfl
  | own p d => cases p with
    | true => exact absurd rfl (f d)
    | false => rfl
theorem floop_nxt {tg : TgF} {body : StF} : ∀ (ds : List D) (I : Nat → Nv → Prop) (k : Nat) (env : Nv), I k env → (∀ i d e, ds[i]? = some d → I (k + i) e → ∃ e1, tg e d = some e1 ∧ Nxt (I (k + i + 1)) (body e1)) → Nxt (I (k + ds.length)) (floop tg body ds env)
  | [], I, k, env, h, _ => ⟨env, rfl, h⟩
  | d :: ds, I, k, env, h, st => by
    obtain ⟨e1, h1, e2, h2, h3⟩ := st 0 d env rfl h
    have rec' := floop_nxt ds I (k + 1) e2 h3 fun i d e hd hi => by
      have := st (i + 1) d e hd (by rw [show k + (i + 1) = k + 1 + i by omega]; exact hi)
      rw [show k + (i + 1) + 1 = k + 1 + i + 1 by omega] at this
      exact this
    rw [show k + 1 + ds.length = k + (d :: ds).length by rw [List.length_cons]; omega] at rec'
    obtain ⟨e3, h4, h5⟩ := rec'
    refine ⟨e3, ?_, h5⟩
    simp only [floop, h1, Option.bind_some, h2]
    exact h4
/-- a loop that may leave by a return -/
theorem floop_or {tg : TgF} {body : StF} {Q : Res → Nv → Prop} : ∀ (ds : List D) (I : Nat → Nv → Prop) (k : Nat) (env : Nv), I k env → (∀ i d e, ds[i]? = some d → I (k + i) e → ∃ e1, tg e d = some e1 ∧ RetOr Q (I (k + i + 1)) (body e1)) → RetOr Q (I (k + ds.length)) (floop tg body ds env)
  | [], I, k, env, h, _ => .inr ⟨env, rfl, h⟩
  | d :: ds, I, k, env, h, st => by
    obtain ⟨e1, h1, h2⟩ := st 0 d env rfl h
    rcases h2 with ⟨r, e2, h2, h3⟩ | ⟨e2, h2, h3⟩
    · exact .inl ⟨r, e2, by simp only [floop, h1, Option.bind_some, h2], h3⟩
    have rec' := floop_or ds I (k + 1) e2 h3 fun i d e hd hi => by
      have := st (i + 1) d e hd (by rw [show k + (i + 1) = k + 1 + i by omega]; exact hi)
      rw [show k + (i + 1) + 1 = k + 1 + i + 1 by omega] at this
      exact this
    rw [show k + 1 + ds.length = k + (d :: ds).length by rw [List.length_cons]; omega] at rec'
    have e0 : floop tg body (d :: ds) env = floop tg body ds e2 := by simp only [floop, h1, Option.bind_some, h2]
    rw [e0]
    exact rec'
theorem for_nxt {it : ItF} {tg : TgF} {body : StF} {env e : Nv} {ds : List D} {N : Nv → Prop} (I : Nat → Nv → Prop) (hi : it env = some (ds, e)) (h0 : I 0 e) (st : ∀ i d e, ds[i]? = some d → I i e → ∃ e1, tg e d = some e1 ∧ Nxt (I (i + 1)) (body e1)) (hd : ∀ e, I ds.length e → N e) : Nxt N (iFor it tg body env) := by
  unfold iFor
  rw [hi]
  have h := floop_nxt (tg := tg) (body := body) ds I 0 e h0 fun i d e hd h => by
    rw [Nat.zero_add] at h ⊢
    exact st i d e hd h
  rw [Nat.zero_add] at h
  obtain ⟨e2, h1, h2⟩ := h
  exact ⟨e2, h1, hd e2 h2⟩
theorem for_or {it : ItF} {tg : TgF} {body : StF} {env e : Nv} {ds : List D} {N : Nv → Prop} {Q : Res → Nv → Prop} (I : Nat → Nv → Prop) (hi : it env = some (ds, e)) (h0 : I 0 e) (st : ∀ i d e, ds[i]? = some d → I i e → ∃ e1, tg e d = some e1 ∧ RetOr Q (I (i + 1)) (body e1)) (hd : ∀ e, I ds.length e → N e) : RetOr Q N (iFor it tg body env) := by
  unfold iFor
  rw [hi]
  have h := floop_or (tg := tg) (body := body) (Q := Q) ds I 0 e h0 fun i d e hd h => by
    rw [Nat.zero_add] at h ⊢
    exact st i d e hd h
  rw [Nat.zero_add] at h
  rcases h with h | ⟨e2, h1, h2⟩
  · exact .inl h
  · exact .inr ⟨e2, h1, hd e2 h2⟩
theorem rng_get {lo : Int} {n i : Nat} {d : D} (h : (rngD lo n)[i]? = some d) : d = .int (lo + (i : Int)) ∧ i < n := by
  have hi := (List.getElem?_eq_some_iff.mp h).1
  rw [rngD_len] at hi
  rw [rngD_get hi] at h
  exact ⟨(Option.some.inj h).symm, hi⟩
theorem smR_is {n : Nat} (h : n ≤ 1000000) : smR (n : Int) = true := by
  simp only [smR, Bool.and_eq_true, decide_eq_true_eq]
  omega
theorem r1_is {f : EvF} {env e : Nv} {n : Nat} (h : opd f env = some (.val (.int (n : Int)), e)) (hn : n ≤ 1000000) : iR1 (argC f argN) env = some (rngD 0 n, e) := by
  have q : argC f argN env = some ([.val (.int (n : Int))], e) := by
    unfold argC argN
    rw [h]
    rfl
  unfold iR1
  rw [q]
  exact if_pos (smR_is hn)
theorem app_is {f : EvF} {env e : Nv} {i : Nat} {d : D} {p p0 : Bool} {ds ds0 : List D} (h0 : env[i]? = some (.own p0 (.list ds0))) (h : opd f env = some (.val d, e)) (h1 : e[i]? = some (.own p (.list ds))) (hz : ds.length < 100000) : iApp i f env = some (.next (e.set i (.own p (.list (ds ++ [d]))))) := by
  unfold iApp
  rw [h0]
  simp only [h, Option.bind_some, vis_val, h1, hz, if_true]
end DL

/-! enumerate over a tuple; a list or a tuple backwards; a tuple at a list's end. -/
namespace L2
open PySem PySem.Spec PyProof.Rows
open Sem (wp)
open AutoSeq1 (wpAny_loadPart')
theorem meets_enumerate_newT (l : Addr) (items : Array Value) (n : Nat) (dct : Option Addr) (sl : Array (Option Value)) :
    Meets (Builtin.«enumerate.__new__» ⟨[.type "enumerate", .ref l], []⟩) (fun _ R s => s.heap.get? l = some { cls := .type "tuple", dict := dct, data := .seq items n, slots := sl } ∧
      R (.ok (.ret (.ref (s.heap.push { cls := .type "tuple_iterator", data := .fields #[.ref l, .int 0 0] }).objs.size)))
        { s with heap := (s.heap.push { cls := .type "tuple_iterator", data := .fields #[.ref l, .int 0 0] }).push { cls := .type "enumerate", data := .fields #[.none, .bool false, .ref s.heap.objs.size, rawInt 0, .none, .none] } }) :=
  .of_wp fun prog w A R s h => by
    obtain ⟨hp, g, d, tk, os⟩ := s; obtain ⟨hl, h⟩ := h
    have hsub := sub_enumerate
    have hL : Heap.IsTuple (Shared.heap ⟨hp, g, d, tk, os⟩) l items := ⟨_, hl, rfl, n, rfl⟩
    wp_walk using wpAny_loadPart' hl
    refine wpAny_stack_any fun st => wpAny_pure ?_
    split
    · rename_i c _ _ _ _ _
      cases (c == Value.type "enumerate")
      · wp_walk using wpAny_loadPart' hl, wpAny_pyIter_tuple hL
        exact ⟨_, rfl, h⟩
      · wp_walk using wpAny_loadPart' hl, wpAny_pyIter_tuple hL
        exact ⟨_, rfl, h⟩
    · wp_walk using wpAny_loadPart' hl, wpAny_pyIter_tuple hL
      exact ⟨_, rfl, h⟩
section
variable {prog : Program} {w : World} {A : Around} {E : Value → Shared → Prop} {s : Shared}
theorem call_enumerate_tuple {l : Addr} {items : Array Value} {Q : Value → Shared → Prop} (hL : s.heap.IsTuple l items)
    (h : ∀ h', IsEnum h' (s.heap.objs.size + 1) s.heap.objs.size 0 .none → h'.IsTupleIter s.heap.objs.size l 0 →
      (∀ b o, s.heap.get? b = some o → h'.get? b = some o) → Q (.ref (s.heap.objs.size + 1)) { s with heap := h' }) :
    wpAny (model prog w) A (call (.type "enumerate") [.ref l]) Q E s := by
  obtain ⟨⟨c, dct, dt, sl⟩, hl, hc, n, hd⟩ := hL
  replace hc : c = .type "tuple" := hc
  replace hd : dt = .seq items n := hd
  subst hc hd
  refine callType_new F.called_enumerate (by decide) (F.typeCall_enumerate_1 _) (F.newCall_enumerate_1 _) (fun obj => F.args_object_init_2 obj _) F.entry_enumerate_new
    (meets_enumerate_newT l items n dct sl) ⟨hl, ?_⟩
  have hz : (s.heap.push { cls := .type "tuple_iterator", data := .fields #[.ref l, .int 0 0] }).objs.size = s.heap.objs.size + 1 := Heap.size_push ..
  show _ ∧ _
  rw [hz]
  have he : IsEnum ((s.heap.push { cls := .type "tuple_iterator", data := .fields #[.ref l, .int 0 0] }).push
      { cls := .type "enumerate", data := .fields #[.none, .bool false, .ref s.heap.objs.size, rawInt 0, .none, .none] }) (s.heap.objs.size + 1) s.heap.objs.size 0 .none := by
    have := Heap.get?_push_size (s.heap.push { cls := .type "tuple_iterator", data := .fields #[.ref l, .int 0 0] })
      (o := { cls := .type "enumerate", data := .fields #[.none, .bool false, .ref s.heap.objs.size, rawInt 0, .none, .none] }) rfl
    rw [hz] at this; exact this
  refine ⟨⟨_, he, rfl⟩, h _ he ⟨_, Heap.get?_push_of_some _ (Heap.get?_push_size _ rfl), rfl, rfl⟩ fun b o x => Heap.get?_push_of_some _ (Heap.get?_push_of_some _ x)⟩
end
/-- the tuple at a, each item in a new pair -/
def IteT (K : PySem.W.Frag) (a : Addr) : It :=
  ⟨fun i H => ∃ (xs : List V) (x : V), SqT K H a xs ∧ xs[i]? = some x, fun i H v H' => ∃ T x, v = .ref T ∧ H T = none ∧ H' = upd H T (.tup [.int (i : Nat), x]) ∧ ∀ xs, SqT K H a xs → xs[i]? = some x, fun i H => ∃ xs : List V, SqT K H a xs ∧ xs.length = i⟩
theorem enum_ne {h : Heap} {e it a : Addr} {i : Int} {old : Value} {items : Array Value} (he : IsEnum h e it i old) (p : h.IsTuple a items) : e ≠ a := by
  intro z
  subst z
  obtain ⟨o, h1, h2, _⟩ := p
  rw [show h.get? e = some _ from he] at h1
  cases h1
  have q := Value.type.inj h2
  exact absurd q (by decide)
theorem titer_ne {h : Heap} {it a b : Addr} {i : Nat} {items : Array Value} (hi : h.IsTupleIter it b i) (p : h.IsTuple a items) : a ≠ it := by
  intro z
  subst z
  obtain ⟨o, h1, h2, _⟩ := p
  obtain ⟨o', g1, g2, _⟩ := hi
  rw [g1] at h1
  cases h1
  rw [g2] at h2
  have q := Value.type.inj h2
  exact absurd q (by decide)
theorem turn_enumT {P : Program} {w : World} {K : PySem.W.Frag} {elts : List Expr} {kk : Nat} {tpos : Pos} (a e it : Addr) :
    Turn P w K (.Tuple elts kk tpos) (IteT K a) [e, it] e (fun i h => (∃ old, IsEnum h e it ((i : Nat) : Int) old) ∧ h.IsTupleIter it a i ∧ e ≠ it) where
  mem := by simp
  obj := fun i h st b hb => by
    obtain ⟨⟨old, he⟩, ⟨o, ho, hc, hd⟩, _⟩ := st
    have e' : b = e ∨ b = it := by simpa using hb
    rcases e' with z | z
    · rw [z]; exact ⟨_, he, fun v q => nomatch q⟩
    · rw [z]; exact ⟨o, ho, fun v q => by rw [hd] at q; cases q⟩
  keep := fun i h h' st k => let ⟨⟨old, he⟩, hi, hne⟩ := st; ⟨⟨old, k e (by simp) _ he⟩, hi.at fun o q => k it (by simp) o q, hne⟩
  item := by
    intro X hP hw hK hc i pins s σ H E I hf st hg
    subst hP hw hK
    obtain ⟨⟨old, he⟩, hit, hne⟩ := st
    obtain ⟨xs, x, hq, hx⟩ := hg
    obtain ⟨its, rv, p, hz⟩ := I.tuple hq
    have p' : s.heap.IsTuple a its.toArray := p
    obtain ⟨u, hu, ru⟩ := rv.get hx
    have hil := (List.getElem?_eq_some_iff.mp hu).1
    have hel : e < s.heap.objs.size := Heap.lt_size he
    have hil2 : it < s.heap.objs.size := by obtain ⟨_, q, _⟩ := hit; exact Heap.lt_size q
    have D := Draws.tuple (prog := X.prog) (w := X.w) (A := X.A.in1) (show X.A.in1.handled = none from I.ok.hd hc) it a (titer_ne hit p') its.toArray
    have hef : e ∉ [it, a] := by
      intro z
      rcases List.mem_cons.mp z with z | z
      · exact hne z
      · exact enum_ne he p' (List.mem_singleton.mp z)
    refine wpAny_pyNext_enum_itemD D he ⟨hit, p'⟩ (by rw [List.size_toArray]; exact hil) hne hef fun x' h' tk hP' ho hit' hT hsz hk => ?_
    have hx' : x' = u := by
      have : its.toArray[i]? = some x' := hP'
      rw [List.getElem?_toArray, hu] at this
      exact (Option.some.inj this).symm
    subst hx'
    refine ⟨_, rfl, wpAny_letOwnedTupleGo_enum (s := { s with heap := h', toks := tk + 1 }) ho fun h'' he' sb => ?_⟩
    have hT2 : h''.get? s.heap.objs.size = some { cls := .type "tuple", data := .seq #[.int i tk, x'] } := (sb.2 _ (Nat.ne_of_gt hel)).trans hT
    have new : ObjOk X.prog X.w (upd H s.heap.objs.size (.tup [.int (i : Nat), x])) h'' s.heap.objs.size (.tup [.int (i : Nat), x]) :=
      ⟨by show 2 ≤ sizeLine; decide, [.int i tk, x'], .cons ⟨_, rfl⟩ (.cons ru .nil), ⟨_, hT2, rfl, _, rfl⟩⟩
    have I1 : Inv X pins σ (upd H s.heap.objs.size (.tup [.int (i : Nat), x])) { s with heap := h'', toks := tk + 1 } :=
      I.turnedNew (ch := [e, it]) (fun b ob hb q => (sb.2 b (fun z => hb (by simp [z]))).trans (hk b ob (fun z => hb (by simp [z])) (fun z => hb (by simp [z])) q)) hf (Nat.le_refl _) new
    refine ⟨.ref s.heap.objs.size, _, I1, rfl, ⟨_, x, rfl, I.hok.fresh (Nat.le_refl _), rfl, fun ys hy => by rw [I.tuple_inj hy hq]; exact hx⟩, ⟨⟨x', ?_⟩, hit'.1.at fun o q => (sb.2 it (Ne.symm hne)).trans q, hne⟩, fun b hb => ?_⟩
    · have e1 : ((i + 1 : Nat) : Int) = (i : Int) + 1 := by omega
      rw [e1]; exact he'
    · have hb' : b < s.heap.objs.size := by
        have e' : b = e ∨ b = it := by simpa using hb
        rcases e' with z | z
        · rw [z]; exact hel
        · rw [z]; exact hil2
      rw [upd_ne (Nat.ne_of_lt hb')]
      exact (hf b hb).1
  done := by
    intro X hP hw hK hc i pins s σ H E I hf st hg
    subst hP hw hK
    obtain ⟨⟨old, he⟩, hit, hne⟩ := st
    obtain ⟨xs, hq, hx⟩ := hg
    obtain ⟨its, rv, p, hz⟩ := I.tuple hq
    have p' : s.heap.IsTuple a its.toArray := p
    obtain ⟨f0, f1, f2, f3, f4, f5⟩ := hf it (by simp)
    have hl := rv.length
    have D := Draws.tuple (prog := X.prog) (w := X.w) (A := X.A.in1) (show X.A.in1.handled = none from I.ok.hd hc) it a (titer_ne hit p') its.toArray
    have hn : i = its.toArray.size := by rw [List.size_toArray]; omega
    subst hn
    exact wpAny_pyNext_enum_endD D he ⟨hit, p'⟩ fun h' eb => ⟨rfl, I.turned (t' := s.toks) (fun b o hb q => eb b o hb q) f0 f1 f3 f4 f5⟩
  self := fun A i s Q E st h => let ⟨⟨_, he⟩, _⟩ := st; wpAny_pyIter_enum he h
def iEnumT (K : PySem.W.Frag) (ta : TA) : TI := fun σ H R => ta σ H fun vs H1 => ∃ a xs, vs = [.ref a] ∧ SqT K H1 a xs ∧ R (IteT K a) H1
theorem pi_enumT {X : Cx} {e : Expr} {ta : TA} {p pos tpos : Pos} {elts : List Expr} {kk : Nat} (hg : Gl X "enumerate") (hm : X.mg "enumerate" = none) (ha : PA X [e] ta) (hs : starEach [e] X.env = [(false, eval e X.env)] := by rfl) :
    PI X (.Tuple elts kk tpos) (.Call (.Name "enumerate" p) [e] [] pos) (iEnumT X.K ta) := by
  refine ⟨fun pins s σ H R I h => ?_⟩
  refine Call_ (ld_blt I hg hm boot_enumerate (PyProof.Rows.callWith_type1 (thn (ha.run pos pins s σ H _ I h) fun us s1 ⟨vs, H1, I1, r1, q1⟩ => ?_) hs rfl))
  obtain ⟨a, xs, ex, hq, q⟩ := q1
  subst ex
  cases r1 with
  | cons r rr =>
    cases rr
    cases r
    obtain ⟨its, rv, p', hz⟩ := I1.tuple hq
    refine call_enumerate_tuple (show s1.heap.IsTuple a its.toArray from p') fun h' he hit hk => wpAny_pyIter_enum he ?_
    have I2 : Inv X pins σ H1 { s1 with heap := h' } := I1.kept (t' := s1.toks) hk
    refine ⟨s1.heap.objs.size + 1, [s1.heap.objs.size + 1, s1.heap.objs.size], _, _, H1, rfl, I2, turn_enumT a (s1.heap.objs.size + 1) s1.heap.objs.size, ⟨⟨.none, he⟩, hit, Nat.succ_ne_self _⟩, fun b hb => ?_, q⟩
    have e' : b = s1.heap.objs.size + 1 ∨ b = s1.heap.objs.size := by simpa using hb
    have hle : s1.heap.objs.size ≤ b := by
      rcases e' with z | z
      · rw [z]; exact Nat.le_add_right _ _
      · rw [z]; exact Nat.le_refl _
    exact I1.fpOk hle (I1.hok.fresh hle)
theorem walk_enumT {K : PySem.W.Frag} {a : Addr} {xs : List V} : Walk (IteT K a) xs.length (fun H => SqT K H a xs) (YPair (fun i => some (.int (i : Nat))) (fun i => xs[i]?)) := by
  refine ⟨fun i _ hi q => ⟨xs, xs[i], q, by simp [hi]⟩, fun _ q => ⟨xs, q, rfl⟩, fun i H v H' _ q y => ?_⟩
  obtain ⟨T, x, h1, h2, h3, h4⟩ := y
  exact ⟨T, .int (i : Nat), x, h1, h2, h3, rfl, h4 xs q⟩
end L2

namespace HT
open PySem PySem.Spec PyProof.Rows L2
section
variable {prog : Program} {w : World} {A : Around} {E : Value → Shared → Prop} {s : Shared}
theorem adjust_back (n : Nat) : Builtin.Slice.sliceAdjust none none (-1) (n : Int) = ((n : Int) - 1, -1) := by
  unfold Builtin.Slice.sliceAdjust
  simp
theorem places_back (n : Nat) : Builtin.Slice.slicePlaces ((n : Int) - 1) (-1) (-1) = n := by
  unfold Builtin.Slice.slicePlaces
  have h1 : ¬ ((-1 : Int) > 0) := by omega
  simp only [h1, if_false]
  rw [show (- -1 : Int) = 1 by decide, Int.ediv_one]
  split <;> omega
theorem pick_back (xs : Array Value) : ((List.range xs.size).filterMap fun (m : Nat) => xs[(((xs.size : Int) - 1) + (m : Int) * -1).toNat]?).toArray = xs.toList.reverse.toArray := by
  have e : (List.range xs.size).filterMap (fun (m : Nat) => xs[(((xs.size : Int) - 1) + (m : Int) * -1).toNat]?) = ((List.range xs.size).map fun k => xs.size - 1 - k).filterMap (xs[·]?) := by
    rw [List.filterMap_map]
    have cg : ∀ (l : List Nat) (f g : Nat → Option Value), (∀ m ∈ l, f m = g m) → l.filterMap f = l.filterMap g := by
      intro l f g
      induction l with
      | nil => intro _; rfl
      | cons m l ih =>
        intro h
        rw [List.filterMap_cons, List.filterMap_cons, h m List.mem_cons_self, ih fun z hz => h z (List.mem_cons_of_mem _ hz)]
    apply cg
    intro m hm
    have := List.mem_range.mp hm
    show xs[_]? = xs[xs.size - 1 - m]?
    have : (((xs.size : Int) - 1) + (m : Int) * -1).toNat = xs.size - 1 - m := by omega
    rw [this]
  rw [e, PySem.W.krv_range, List.filterMap_reverse, PySem.W.krv_all]
theorem sliceApplied_back {sl : Addr} {vs : Value} {n : Nat} {Q : Int × Int × Nat → Shared → Prop} (hs : s.heap.IsSliceOf sl .none .none vs) (ps : IsPart vs (some (-1)))
    (h : Q ((n : Int) - 1, -1, n) s) : wpAny (model prog w) A (Builtin.Slice.sliceApplied (.ref sl) (pure (n : Int))) Q E s := by
  obtain ⟨os, hos, hcs, hds⟩ := id hs
  unfold Builtin.Slice.sliceApplied Builtin.Slice.sliceFields
  refine wpAny_bind (wpAny_bind (wpAny_field hos hds (x := .none) rfl (wpAny_bind (wpAny_field hos hds (x := .none) rfl (wpAny_bind (wpAny_field hos hds (x := vs) rfl (wpAny_pure ?_)))))))
  refine wpAny_bind (slicePart_ ps ?_)
  show wpAny _ _ (if ((-1 : Int) == 0) = true then _ else _) _ _ s
  rw [if_neg (by decide)]
  refine wpAny_bind (slicePart_ .none (wpAny_bind (slicePart_ .none (wpAny_bind (wpAny_pure ?_)))))
  show wpAny _ _ (match Builtin.Slice.sliceAdjust none none (-1) (n : Int) with | (lo, hi) => pure (lo, (-1 : Int), Builtin.Slice.slicePlaces lo hi (-1))) _ _ s
  rw [adjust_back n]
  show wpAny _ _ (pure ((n : Int) - 1, (-1 : Int), Builtin.Slice.slicePlaces ((n : Int) - 1) (-1) (-1))) _ _ s
  rw [places_back]
  exact wpAny_pure h
theorem getItem_tuple_back {t sl : Addr} {items : Array Value} {vs : Value} {Q : Value → Shared → Prop} (ht : IsTup s.heap t items) (hs : s.heap.IsSliceOf sl .none .none vs) (ps : IsPart vs (some (-1)))
    (h : Q (.ref s.heap.objs.size) { s with heap := s.heap.push { cls := .type "tuple", data := .seq items.toList.reverse.toArray } })
    (hsz : items.size ≤ sizeLine) : wpAny (model prog w) A (getItem (.ref t) (.ref sl)) Q E s := by
  have htake : sizeOk (.seq items.toList.reverse.toArray) := by
    show items.toList.reverse.toArray.size ≤ sizeLine
    rw [List.size_toArray, List.length_reverse, Array.length_toList]
    exact hsz
  obtain ⟨os, hos, hcs, hds⟩ := id hs
  have hTs : s.TypeIs (.ref sl) "slice" := ⟨os, hos, hcs⟩
  unfold getItem
  try with_reducible refine wpAny_holding ?_
  first | refine wpAny_bind (wpAny_pure ?_) | skip
  refine wpAny_bind (wpAny_sequenceKey ht.typeIs (by decide) ?_)
  refine wpAny_bind (wpAny_callSpecial?_slot (name := Str.ofString "__getitem__") ht.typeIs PyProof.Rows.slot_tuple_getitem
    (wpAny_call_entry PyProof.Rows.slot_tuple_getitem ht.typeIs entry_tuple_getitem ?_ (args_tuple_getitem _ _)))
  show wpAny _ _ (Builtin.Tuple.tupleItemsOf (.ref t) >>= _) _ _ s
  refine wpAny_bind (tupleItemsOf_ ht ?_)
  refine wpAny_bind (wpAny_typeOf hTs ?_)
  rw [if_pos (by decide)]
  refine wpAny_bind (sliceApplied_back hs ps ?_)
  have hno : ¬ ((((items.size : Int) - 1) == 0 && (-1 : Int) == 1 && items.size == items.size) = true) := by
    intro q
    rw [Bool.and_eq_true, Bool.and_eq_true] at q
    exact absurd q.1.2 (by decide)
  show wpAny _ _ (if (((items.size : Int) - 1) == 0 && (-1 : Int) == 1 && items.size == items.size) = true then _ else _) _ _ s
  rw [if_neg hno, pick_back]
  first
    | exact wpAny_bind (m := Builtin.Tuple.tupleExact _) (wpAny_newObj_type (wpAny_pure ⟨_, rfl, wpAny_pure h⟩) htake)
    | exact wpAny_bind (m := Builtin.Tuple.tupleExact _) (wpAny_newObj_type (wpAny_bind (wpAny_pure (wpAny_pure ⟨_, rfl, wpAny_pure h⟩))) htake)
    | exact wpAny_bind (wpAny_bind (m := Builtin.Tuple.tupleExact _) (wpAny_newObj_type (wpAny_pure (wpAny_pure ⟨_, rfl, wpAny_pure h⟩)) htake))
    | exact wpAny_bind (wpAny_bind (m := Builtin.Tuple.tupleExact _) (wpAny_newObj_type (wpAny_pure ⟨_, rfl, wpAny_pure h⟩) htake))
end
end HT
namespace L2
open PySem PySem.Spec PyProof.Rows
section
variable {X : Cx}
/-- xs[::-1], a list or a tuple -/
def tRevU (K : PySem.W.Frag) (te : TE) : TE := fun σ H Q => te σ H fun x H1 => (∃ a xs, x = .ref a ∧ SqL K H1 a xs ∧ ∀ p, H1 p = none → Q (.ref p) (upd H1 p (.lst xs.reverse))) ∨ (∃ a xs, x = .ref a ∧ SqT K H1 a xs ∧ ∀ p, H1 p = none → Q (.ref p) (upd H1 p (.tup xs.reverse)))
theorem pe_revU {e : Expr} {te : TE} {k : Nat} {p1 p2 p3 pos : Pos} (he : PE X e te) : PE X (.Subscript e (.Slice none none (some (.UnaryOp .USub (.Constant (.int 1) k p1) p2)) p3) pos) (tRevU X.K te) := by
  refine ⟨fun pins s σ H Q I h => ?_⟩
  refine Subscript_ (thn (he.run pins s σ H _ I h) fun v s1 ⟨x, H1, I1, r1, q1⟩ => ?_)
  have hst : PO X (some (.UnaryOp .USub (.Constant (.int 1) k p1) p2)) (tPart (tUn (rU fun i => .int (-i)) (tC (.int 1)))) := po_some (pe_un un_neg pe_int)
  refine wpAny_Slice ?_
  rw [evalPart_none]
  refine wpAny_pure ?_
  refine wpAny_pure ?_
  refine thn (hst.run pins s1 σ H1 (fun o H4 => o = some (-1) ∧ H4 = H1) I1 ⟨1, rfl, -1, rfl, rfl, rfl⟩) fun vs s4 ⟨o, H4, I4, ps, eo, e4⟩ => ?_
  subst eo e4
  have I5 : Inv X pins σ H4 { s4 with heap := s4.heap.push { cls := .type "slice", data := .fields #[.none, .none, vs] } } := I4.kept (t' := s4.toks) fun b ob q => Heap.get?_push_of_some _ q
  rcases q1 with ⟨a, xs, ex, hx, q⟩ | ⟨a, xs, ex, hx, q⟩
  · subst ex
    cases r1
    obtain ⟨its, r, ht, hz⟩ := I5.list hx
    have hlen := r.length
    show wpAny (model X.prog X.w) X.A (subscriptTail e (.Slice none none (some (.UnaryOp .USub (.Constant (.int 1) k p1) p2)) p3) (.ref a) (.ref s4.heap.objs.size)) (EP X pins σ Q) X.xe { s4 with heap := s4.heap.push { cls := .type "slice", data := .fields #[.none, .none, vs] } }
    refine tail_any (ops := [.ref a, .ref s4.heap.objs.size]) ht.isList.typeIs (PySem.slot_list_getitem.lookup) ?_ (by with_unfolding_all rfl)
    refine wpAny_getItem_list_slice ht.isList (Heap.IsSliceOf.new _ .none .none vs) .none .none ps (by decide) ?_ (by rw [List.size_toArray]; omega)
    rw [PySem.W.krv_pick]
    refine ⟨.ref _, _, I5.laid (t' := s4.toks) (o := .lst xs.reverse) (fun b ob q => Heap.get?_push_of_some _ q) (Nat.le_refl _) ?_, rfl, q _ (I5.hok.fresh (Nat.le_refl _))⟩
    exact ⟨by rw [List.length_reverse]; exact hz, _, 0, r.reverse, Heap.get?_push_size _ rfl⟩
  · subst ex
    cases r1
    obtain ⟨its, r, ht, hz⟩ := I5.tuple hx
    have hlen := r.length
    show wpAny (model X.prog X.w) X.A (subscriptTail e (.Slice none none (some (.UnaryOp .USub (.Constant (.int 1) k p1) p2)) p3) (.ref a) (.ref s4.heap.objs.size)) (EP X pins σ Q) X.xe { s4 with heap := s4.heap.push { cls := .type "slice", data := .fields #[.none, .none, vs] } }
    refine tail_any (ops := [.ref a, .ref s4.heap.objs.size]) (show IsTup _ a its.toArray from ht).typeIs (PyProof.Rows.slot_tuple_getitem.lookup) ?_ (by with_unfolding_all rfl)
    refine HT.getItem_tuple_back (show IsTup _ a its.toArray from ht) (Heap.IsSliceOf.new _ .none .none vs) ps ?_ (by rw [List.size_toArray]; omega)
    refine ⟨.ref _, _, I5.laid (t' := s4.toks) (o := .tup xs.reverse) (fun b ob q => Heap.get?_push_of_some _ q) (Nat.le_refl _) ?_, rfl, q _ (I5.hok.fresh (Nat.le_refl _))⟩
    exact ⟨by rw [List.length_reverse]; exact hz, its.reverse, r.reverse, _, Heap.get?_push_size _ rfl, rfl, _, rfl⟩
theorem list_extend_list_tupU (l : Addr) (items : Array Value) (n : Nat) (b : Addr) (items2 : Array Value) (n2 : Nat) (dct : Option Addr) (sl : Array (Option Value)) (hs0 : ¬(!items.isEmpty && Builtin.List.listTooLong (items.size + items2.size)) = true) (hs1 : items.size ≤ sizeLine) (hs2 : items.size + items2.size ≤ sizeLine + 1) :
    Meets (Builtin.«list.extend» ⟨[.ref l, .ref b], []⟩) (fun _ R s => s.heap.get? l = some { cls := .type "list", dict := none, data := .seq items n, slots := #[] } ∧ s.heap.get? b = some { cls := .type "tuple", dict := dct, data := .seq items2 n2, slots := sl } ∧ R (.ok (.ret Value.none)) { s with heap := s.heap.update l (Obj.mapSeq fun x => x ++ items2), toks := s.toks }) :=
  .of_wp fun prog w A R s h => by
    obtain ⟨hp, g, d, tk, os⟩ := s; obtain ⟨hl, hb, h⟩ := h; have f1 := AutoSeq1.idx_int; have f2 := AutoSeq1.sub_tuple_tuple; have f3 := AutoSeq1.sub_list_list; have f4 := AutoSeq1.sub_tuple_list; have f5 := AutoSeq1.sub_list_tuple;
    have hz' : (items ++ items2).size ≤ sizeLine + 1 := by rw [Array.size_append]; exact hs2
    wp_walk using (PySem.wpAny_updateSeq hl rfl (hz := hs1) (_hz' := hz')), wpAny_loadPart' hl, wpAny_loadPart' hb; exact ⟨_, rfl, h⟩
/-- a list or a tuple at a list's end -/
def rExtU (K : PySem.W.Frag) : V → List V → Hp → VK → Prop := fun x vs H Q => ∃ l b xs zs, x = .ref l ∧ vs = [.ref b] ∧ H l = some (.lst xs) ∧ (H b = some (.lst zs) ∨ SqT K H b zs) ∧ xs.length + zs.length ≤ sizeLine ∧ Q .non (upd H l (.lst (xs ++ zs)))
theorem mt_extU : MtM X "list.extend" (rExtU X.K) := by
  intro pins s σ H x vs v us Q I rx rv h
  obtain ⟨l, b, xs, zs, rfl, rfl, hH, hB, hz, q⟩ := h
  cases rx
  obtain ⟨u, rfl, ru⟩ := rv.one
  cases ru
  obtain ⟨z, its, n, r, hl, e⟩ := I.lstM hH
  rcases hB with hB | hB
  · obtain ⟨z2, its2, n2, r2, hl2, e2⟩ := I.lstM hB
    have hsz : its.toArray.size + its2.toArray.size ≤ sizeLine := by rw [List.size_toArray, List.size_toArray]; omega
    have hlong : ¬ (!its.toArray.isEmpty && Builtin.List.listTooLong (its.toArray.size + its2.toArray.size)) = true := by
      rw [notLongL hsz, Bool.and_false]
      exact Bool.false_ne_true
    refine call_meets F.slot_list_extend ⟨_, e, rfl⟩ F.entry_list_extend (F.args_list_extend_2 _ _)
      (AutoSeq1.list_extend_list_list_0 l its.toArray n b its2.toArray n2 hlong (by rw [List.size_toArray]; omega) (by omega)) ⟨e, e2, ?_⟩
    refine ⟨.non, _, I.lset (its' := its ++ its2) hH e (by simp) (r.append r2) ?_, rfl, q⟩
    rw [List.length_append]
    omega
  · obtain ⟨its2, r2, p2, z2⟩ := I.tuple hB
    obtain ⟨⟨c, dct, dt, sl⟩, e2, hc, n2, hd⟩ := p2
    replace hc : c = .type "tuple" := hc
    replace hd : dt = .seq its2.toArray n2 := hd
    subst hc hd
    have hl2 := r2.length
    have hsz : its.toArray.size + its2.toArray.size ≤ sizeLine := by rw [List.size_toArray, List.size_toArray]; omega
    have hlong : ¬ (!its.toArray.isEmpty && Builtin.List.listTooLong (its.toArray.size + its2.toArray.size)) = true := by
      rw [notLongL hsz, Bool.and_false]
      exact Bool.false_ne_true
    refine call_meets F.slot_list_extend ⟨_, e, rfl⟩ F.entry_list_extend (F.args_list_extend_2 _ _)
      (list_extend_list_tupU l its.toArray n b its2.toArray n2 dct sl hlong (by rw [List.size_toArray]; omega) (by omega)) ⟨e, e2, ?_⟩
    refine ⟨.non, _, I.lset (its' := its ++ its2) hH e (by simp) (r.append r2) ?_, rfl, q⟩
    rw [List.length_append]
    omega
end
end L2

/-! enumerate, x[::-1], x.extend(tuple), as meanings. -/
namespace DL
open PySem PySem.Spec PyProof.Rows L2
open Evl (Ex)
section
variable {K : PySem.W.Frag} {σ σ1 : L2.St} {env env1 env2 : Nv} {V H V1 H1 V2 H2 : Hp} {v : L2.V} {te ta tb : TE}
/-! x[::-1] -/
def gRev : D → Option Res
  | .list ds => some (.new (.list ds.reverse))
  | .tuple ds => some (.val (.tuple ds.reverse))
  | _ => none
def iRev (f : EvF) : EvF := fun env => (opd f env).bind fun p => (look p.2 p.1).bind fun d => (gRev d).bind fun z => some (z, p.2)
theorem sd_rev {f : EvF} (ha : Sd K te f) : Sd K (tRevU K te) (iRev f) := by
  intro env res env' e σ V H ok Q q
  simp only [iRev, Option.bind_eq_some_iff] at e
  obtain ⟨⟨ra, e1⟩, k1, d, k4, z, k5, k6⟩ := e
  cases k6
  refine opd_snd ha k1 ok fun x V3 H3 a c1 => ?_
  have op := c1.look a.ok k4
  have go : ∀ v V' H', Al V3 H3 V' H' → RR K H3 V' H' v res → Q v H' := fun v V' H' b hr => q v V' H' (a.trans (b.adv a.ok)) (hr.rok a b)
  have k5' : gRev d = some res := k5
  unfold gRev at k5'
  split at k5'
  · cases k5'
    obtain ⟨l, xs, rfl, g1, g2⟩ := op.list a.ok.sub
    exact .inl ⟨l, xs, rfl, g1, fun p hp => go _ _ _ (Al.hid a.ok.sub hp) ⟨p, rfl, hp, Evl.fresh_back a.ok.sub hp, _, upd_same, g2.rev⟩⟩
  · cases k5'
    obtain ⟨l, xs, rfl, g1, g2⟩ := op.tuple
    refine .inr ⟨l, xs, rfl, Evl.ex_t a.ok.sub g1, fun p hp => ?_⟩
    have b : Al V3 H3 (upd V3 p (.tup xs.reverse)) (upd H3 p (.tup xs.reverse)) := Al.new a.ok.sub hp
    exact go _ _ _ b (.tuple (St.of upd_same) (RA.mono b.ex _ _ g2.rev))
  · cases k5'
/-! x.extend(e), e a new list or a tuple -/
def iExU (i : Nat) (f : EvF) : StF := fun env => match env[i]? with
  | some (.own _ (.list _)) => (f env).bind fun p => match p.1 with
    | .new (.list es) => match p.2[i]? with
      | some (.own q (.list ds)) => if ds.length + es.length ≤ 100000 then some (.next (p.2.set i (.own q (.list (ds ++ es))))) else none
      | _ => none
    | .val (.tuple es) => match p.2[i]? with
      | some (.own q (.list ds)) => if ds.length + es.length ≤ 100000 then some (.next (p.2.set i (.own q (.list (ds ++ es))))) else none
      | _ => none
    | _ => none
  | _ => none
theorem sds_exU {i : Nat} {f : EvF} (ha : Sd K te f) : SdS K (tDrop (tBM K "list" (rExtU K) (tVar i) (tCons te tNil))) (iExU i f) := by
  intro env fl e σ V H ok E q
  unfold iExU at e
  split at e
  · rename_i p0 d0 he0
    simp only [Option.bind_eq_some_iff] at e
    obtain ⟨⟨r, e1⟩, h1, h2⟩ := e
    split at h2
    · rename_i es hr
      have hr' : r = .new (.list es) := hr
      subst hr'
      split at h2
      · rename_i p ds he
        split at h2
        · rename_i hz
          cases h2
          obtain ⟨l0, g1, g2, g3⟩ := ok.ownC he0
          refine ⟨_, g1, ?_, ?_⟩
          · obtain ⟨xs, hx, _⟩ := g3
            exact .inl ⟨rfl, xs, Evl.sq_of hx⟩
          · refine ha _ _ _ h1 σ V H ok _ fun v V1 H1 a k => ?_
            obtain ⟨l, y1, y2, xs, y3, y4⟩ := a.ok.ownC he
            rw [g1] at y1
            cases y1
            obtain ⟨b, rfl, w1, w2, w3, zs, w4, w5⟩ := k
            exact ⟨_, b, xs, zs, rfl, rfl, y3, .inl w4, Evl.sz_of (by rw [y4.len, w5.len]; exact hz), q σ V1 _ (adv_upd a he g1 ⟨xs ++ zs, upd_same, y4.append w5⟩)⟩
        · cases h2
      · cases h2
    · rename_i es hr
      have hr' : r = .val (.tuple es) := hr
      subst hr'
      split at h2
      · rename_i p ds he
        split at h2
        · rename_i hz
          cases h2
          obtain ⟨l0, g1, g2, g3⟩ := ok.ownC he0
          refine ⟨_, g1, ?_, ?_⟩
          · obtain ⟨xs, hx, _⟩ := g3
            exact .inl ⟨rfl, xs, Evl.sq_of hx⟩
          · refine ha _ _ _ h1 σ V H ok _ fun v V1 H1 a k => ?_
            obtain ⟨l, y1, y2, xs, y3, y4⟩ := a.ok.ownC he
            rw [g1] at y1
            cases y1
            have k' : R K V1 v (.tuple es) := k
            cases k' with
            | @tuple b zs _ w4 w5 => exact ⟨_, b, xs, zs, rfl, rfl, y3, .inr (Evl.ex_t a.ok.sub w4.sq), Evl.sz_of (by rw [y4.len, w5.len]; exact hz), q σ V1 _ (adv_upd a he g1 ⟨xs ++ zs, upd_same, y4.append w5⟩)⟩
        · cases h2
      · cases h2
    · cases h2
  · cases e
/-! enumerate(t), a tuple -/
def enumD (ds : List D) : List D := ds.mapIdx fun (i : Nat) (d : D) => D.tuple [D.int (i : Int), d]
theorem enumD_get (ds : List D) (i : Nat) : (enumD ds)[i]? = (ds[i]?).map fun d => D.tuple [.int (i : Int), d] := by unfold enumD; rw [List.getElem?_mapIdx]
theorem enumD_len (ds : List D) : (enumD ds).length = ds.length := by unfold enumD; rw [List.length_mapIdx]
def iEnumI (fs : EvA) : ItF := fun env => (fs env).bind fun p => match p.1 with
  | [.val (.tuple ds)] => some (enumD ds, p.2)
  | _ => none
theorem pair_new {V1 H1 : Hp} {T : Addr} {x : L2.V} {d : D} {i : Nat} (s : Ex V1 H1) (hT : H1 T = none) (r : R K V1 x d) : Al V1 H1 (upd V1 T (.tup [.int (i : Nat), x])) (upd H1 T (.tup [.int (i : Nat), x])) ∧ R K (upd V1 T (.tup [.int (i : Nat), x])) (.ref T) (.tuple [.int (i : Int), d]) := by
  have b : Al V1 H1 (upd V1 T (.tup [.int (i : Nat), x])) (upd H1 T (.tup [.int (i : Nat), x])) := Al.new s hT
  exact ⟨b, .tuple (St.of upd_same) (.cons (.int _) (.cons (R.mono b.ex _ _ r) .nil))⟩
theorem mk_enumT {a : Addr} {xs : List L2.V} {ds : List D} (hs : SqT K V a xs) (r : RA K V xs ds) : Mk K (IteT K a) σ V H (enumD ds) := by
  intro g tb E Pv h0 hx hi hd
  refine for_it (n := xs.length) walk_enumT (fun i σ1 H1 => ∃ V1, Pv i σ1 V1 H1) ⟨V, h0⟩ (fun i σ1 H1 _ ⟨V1, p⟩ => ?_) (fun i x σ1 H1 H' hlt ⟨V1, p⟩ y => ?_) (fun σ1 H1 ⟨V1, p⟩ => ?_)
  · obtain ⟨p1, p2⟩ := hx i σ1 V1 H1 p
    exact Evl.ex_t (p1.trans p2) hs
  · obtain ⟨p1, p2⟩ := hx i σ1 V1 H1 p
    obtain ⟨T, z, u, rfl, hT, rfl, hz, hu⟩ := y
    cases hz
    obtain ⟨d, hdi, rd⟩ := r.getV hu
    obtain ⟨b, rb⟩ := pair_new (i := i) p2 hT (R.mono p1 _ _ rd)
    exact hi i _ σ1 V1 H1 (by rw [enumD_get, hdi]; rfl) p _ _ _ b rb
  · rw [r.len, ← enumD_len] at p
    exact hd σ1 V1 H1 p
theorem mkc_enumT {a : Addr} {xs : List L2.V} {ds : List D} (hs : SqT K V a xs) (r : RA K V xs ds) : MkC K (IteT K a) σ V H (enumD ds) := by
  intro g tt te vs Dl Pv Qd h0 hx hi hd
  refine lc_it (n := xs.length) walk_enumT (fun i H1 => ∃ V1, Pv i V1 H1) ⟨V, h0⟩ (fun i H1 _ ⟨V1, p⟩ => ?_) (fun i x H1 H' hlt ⟨V1, p⟩ y => ?_) (fun H1 ⟨V1, p⟩ => ?_)
  · obtain ⟨p1, p2⟩ := hx i V1 H1 p
    exact Evl.ex_t (p1.trans p2) hs
  · obtain ⟨p1, p2⟩ := hx i V1 H1 p
    obtain ⟨T, z, u, rfl, hT, rfl, hz, hu⟩ := y
    cases hz
    obtain ⟨d, hdi, rd⟩ := r.getV hu
    obtain ⟨b, rb⟩ := pair_new (i := i) p2 hT (R.mono p1 _ _ rd)
    exact hi i _ V1 H1 (by rw [enumD_get, hdi]; rfl) p _ _ _ b rb
  · rw [r.len, ← enumD_len] at p
    exact hd V1 H1 p
theorem sdi_enum {t : TA} {fs : EvA} (ha : SdA K t fs) : SdI K (iEnumT K t) (iEnumI fs) := by
  intro env ds env' e σ V H ok Rr q
  simp only [iEnumI, Option.bind_eq_some_iff] at e
  obtain ⟨⟨r, e1⟩, h1, h3⟩ := e
  refine ha _ _ _ h1 σ V H ok _ fun vs V' H' a k => ?_
  split at h3
  · rename_i es hn
    have hn' : r = [.val (.tuple es)] := hn
    subst hn'
    cases h3
    cases k with
    | @cons v0 _ _ _ k1 k2 =>
      cases k2
      have k1' : R K V' v0 (.tuple es) := k1
      cases k1' with
      | @tuple b zs _ w4 w5 => exact ⟨b, zs, rfl, Evl.ex_t a.ok.sub w4.sq, q _ V' H' a ⟨mk_enumT w4.sq w5, mkc_enumT w4.sq w5⟩⟩
  · cases h3
end
section
variable {X : Cx} {k : Nat} {a b c e l iter : Expr} {es ifs : List Expr} {pos p p2 : Pos} {fa fb f : EvF} {fs : EvA} {x : Str}
theorem pdRev {k : Nat} {p1 p2 p3 pos : Pos} (he : PD X e f) : PD X (.Subscript e (.Slice none none (some (.UnaryOp .USub (.Constant (.int 1) k p1) p2)) p3) pos) (iRev f) := let ⟨_, h1, k1⟩ := he; ⟨_, pe_revU h1, sd_rev k1⟩
theorem idEnum {tpos : Pos} {elts : List Expr} {kk : Nat} (hg : Gl X "enumerate") (hm : X.mg "enumerate" = none) (ha : AD X [a] fs) (hs : starEach [a] X.env = [(false, eval a X.env)] := by rfl) : ID X (.Tuple elts kk tpos) (.Call (.Name "enumerate" p) [a] [] pos) (iEnumI fs) := let ⟨_, h1, k1⟩ := ha; ⟨_, pi_enumT hg hm h1 hs, sdi_enum k1⟩
theorem stExU (i : Nat) (he : PD X e f) {apos p : Pos} (hN : X.N[i]? = some x := by rfl) (hv : Vis X.env.scope x := by first | exact Or.inl rfl | exact Or.inr (Or.inl rfl) | exact Or.inr (Or.inr rfl)) (hd : (x == ("__debug__" : Str)) = false := by decide) (hcd : (x == ("__classdict__" : Str)) = false := by decide)
    (h1 : attributeBase (.Name x p) "extend" X.env (eval (.Name x p) X.env) = eval (.Name x p) X.env := by rfl) (h2 : (apos.endLine == pos.line) = true := by rfl) (h3 : starEach [e] X.env = (false, eval e X.env) :: starEach [] X.env := by rfl) (h4 : (backTo pos (starEach [] X.env)).any (·.1) = false := by rfl)
    (h5 : ((backTo pos (starEach [e] X.env)).all (fun x => !x.1) && (backToKw pos (keywordEach [] X.env)).all (fun x => x.1.isSome) && decide ([e].length + ([] : List Keyword).length + (if ([] : List Keyword).isEmpty then 0 else 1) < 30)) = true := by rfl) (hs : swapsWith (.Call (.Attribute (.Name x p) "extend" apos) [e] [] pos) none p2.line X.env = pure false := by rfl) : StD X (.Expr (.Call (.Attribute (.Name x p) "extend" apos) [e] [] pos) p2) (iExU i f) :=
  let ⟨_, g1, k1⟩ := he
  ⟨_, ps_expr (pe_bm PySem.F.plainAttrs_list PySem.F.slot_list_extend PySem.F.type_list_extend mt_extU (pe_var hN hv hd hcd) (pa_cons g1 pa_nil h3) h1 h5 h2 h3 h4) hs, sds_exU k1⟩
end
end DL

/-! text * int; x[i] = e. -/
namespace L2
open PySem PySem.Spec PyProof.Rows
def repS (z : Str) (k : Nat) : Str := ⟨(List.replicate k z.cps).foldl (· ++ ·) #[]⟩
theorem rep_size (a : Array Nat) : ∀ (k : Nat) (b : Array Nat), ((List.replicate k a).foldl (· ++ ·) b).size = b.size + k * a.size
  | 0, b => by simp
  | k + 1, b => by
    rw [List.replicate_succ, List.foldl_cons, rep_size a k (b ++ a), Array.size_append, Nat.succ_mul]
    omega
section
variable {X : Cx}
theorem op_repS : OpR X (binaryOp .Mult) (fun x y H Q => ∃ (z : Str) (k : Int), x = .str z ∧ y = .int k ∧ 2 ≤ k ∧ k ≤ 1000 ∧ 1 ≤ z.length ∧ z.length ≤ 1000 ∧ Q (.str (repS z k.toNat)) H) := by
  intro pins s σ H x y v u Q I rx ry h
  obtain ⟨z, k, rfl, rfl, h0, h1, h2, h3, q⟩ := h
  obtain ⟨t, rfl⟩ := rx
  obtain ⟨t', rfl⟩ := ry
  have hc : ¬ k < 1 := by omega
  have hn : (k == 1 || z.length == 0) = false := by
    rw [Bool.or_eq_false_iff]
    exact ⟨beq_eq_false_iff_ne.mpr (by omega), beq_eq_false_iff_ne.mpr (by omega)⟩
  have sl : (1000000 : Nat) ≤ sizeLine := by decide
  have ml : z.length * k.toNat ≤ 1000 * 1000 := Nat.mul_le_mul h3 (by omega)
  refine PySem.P.mul_str (by
      have h2 : ¬ k ≥ 2 ^ 63 := by omega
      have h4 : ¬ k < -(2 ^ 63 : Int) := by omega
      rw [decide_eq_false h4, decide_eq_false h2]; rfl) (fun _ _ z => ?_) (fun _ _ => ?_) ?_
  · have e : (2 ^ 63 - 1 : Int) / 1000 ≤ (2 ^ 63 - 1) / k := by
      have hk : (2 ^ 63 - 1 : Int) / 1000 * k ≤ 2 ^ 63 - 1 := by
        have : (2 ^ 63 - 1 : Int) / 1000 * k ≤ (2 ^ 63 - 1 : Int) / 1000 * 1000 := Int.mul_le_mul_of_nonneg_left h1 (by decide)
        have e2 : (2 ^ 63 - 1 : Int) / 1000 * 1000 ≤ 2 ^ 63 - 1 := by decide
        omega
      exact (Int.le_ediv_iff_mul_le (by omega)).mpr hk
    have e3 : (1000 : Int) ≤ (2 ^ 63 - 1) / 1000 := by decide
    omega
  · show decide (z.length * k.toNat > sizeLine) = false
    exact decide_eq_false (by omega)
  · rw [if_neg hc, if_neg (by rw [hn]; exact Bool.false_ne_true)]
    exact ⟨by
      show (repS z k.toNat).cps.size ≤ sizeLine
      show ((List.replicate k.toNat z.cps).foldl (· ++ ·) #[]).size ≤ sizeLine
      rw [rep_size]
      have : k.toNat * z.cps.size ≤ 1000 * 1000 := Nat.mul_le_mul (by omega) h3
      simp only [List.size_toArray, List.length_nil]
      omega, .str (repS z k.toNat), H, I.tok _, ⟨_, rfl⟩, q⟩
end
end L2
namespace DL
open PySem PySem.Spec PyProof.Rows L2
open Evl (Ex)
section
variable {K : PySem.W.Frag} {σ σ1 : L2.St} {env env1 env2 : Nv} {V H V1 H1 V2 H2 : Hp} {v : L2.V} {te ta tb ti : TE}
def gMulS : D → D → Option Res := fun d e => match d, e with
  | .str z, .int k => if 2 ≤ k ∧ k ≤ 1000 ∧ 1 ≤ z.length ∧ z.length ≤ 1000 then some (.val (.str (repS z k.toNat))) else none
  | _, _ => none
theorem bin_mulS : BinOk K (fun x y H Q => ∃ (z : Str) (k : Int), x = .str z ∧ y = .int k ∧ 2 ≤ k ∧ k ≤ 1000 ∧ 1 ≤ z.length ∧ z.length ≤ 1000 ∧ Q (.str (repS z k.toNat)) H) gMulS := by
  intro V H x y d e res sub hx hy hg Q q
  unfold gMulS at hg
  split at hg
  · split at hg
    · rename_i hz
      cases hg
      cases hx.str
      cases hy.int
      exact ⟨_, _, rfl, rfl, hz.1, hz.2.1, hz.2.2.1, hz.2.2.2, q _ V H (Al.refl sub) (.str _)⟩
    · cases hg
  · cases hg
/-! x[i] = e -/
def iStL (i : Nat) (g f : EvF) : StF := fun env => (opd f env).bind fun p => (vis p.1).bind fun d => match p.2[i]? with
  | some (.own _ (.list _)) => (opd g p.2).bind fun r => (isI r.1).bind fun k => match r.2[i]? with
    | some (.own q (.list ds)) => (L2.ixN ds.length k).bind fun j => some (.next (r.2.set i (.own q (.list (ds.set j d)))))
    | _ => none
  | _ => none
theorem sds_stL {i : Nat} {g f : EvF} (ha : Sd K te f) (hg : Sd K ti g) : SdS K (tAsg te (L2.gSub (tVar i) ti rSetL)) (iStL i g f) := by
  intro env fl e σ V H ok E q
  simp only [iStL, Option.bind_eq_some_iff] at e
  obtain ⟨⟨r, e1⟩, h1, d, h2, h3⟩ := e
  split at h3
  · rename_i q0 ds0 he0
    simp only [Option.bind_eq_some_iff] at h3
    obtain ⟨⟨r2, e2⟩, h4, k, h5, h6⟩ := h3
    split at h6
    · rename_i q1 ds he
      simp only [Option.bind_eq_some_iff] at h6
      obtain ⟨j, h7, h8⟩ := h6
      cases h8
      refine opd_snd ha h1 ok fun v V1 H1 a1 k1 => ?_
      have r0 : R K V1 v d := by
        cases r with
        | val d' => cases h2; exact k1
        | new d' => exact k1.elim
        | own j => cases h2
      obtain ⟨l0, g1, g2, g3⟩ := a1.ok.ownC he0
      refine ⟨_, g1, ?_⟩
      refine opd_snd hg h4 a1.ok fun w V2 H2 a2 k2 => ?_
      have a := a1.trans a2
      have hr : r2 = .val (.int k) := isI_val h5
      subst hr
      have k2' : R K V2 w (.int k) := k2
      cases k2'
      obtain ⟨l, y1, y2, xs, y3, y4⟩ := a.ok.ownC he
      rw [g1] at y1
      cases y1
      refine ⟨_, xs, k, j, rfl, rfl, y3, by rw [y4.len]; exact h7, ?_⟩
      exact q σ V2 _ (adv_upd a he g1 ⟨xs.set j v, upd_same, RA.set (R.mono a2.ex _ _ r0) j y4⟩)
    · cases h6
  · cases h3
end
section
variable {X : Cx} {k : Nat} {a b c e l i iter : Expr} {es ifs : List Expr} {pos p p2 : Pos} {fa fb f g : EvF} {fs : EvA} {x : Str}
theorem pdMulS (ha : PD X a fa) (hb : PD X b fb) : PD X (.BinOp a .Mult b pos) (iBin gMulS fa fb) := pdBin op_repS bin_mulS ha hb
theorem stStL (n : Nat) (he : PD X e f) (hi : PD X i g) (hN : X.N[n]? = some x := by rfl) (hv : Vis X.env.scope x := by first | exact Or.inl rfl | exact Or.inr (Or.inl rfl) | exact Or.inr (Or.inr rfl)) (hd : (x == ("__debug__" : Str)) = false := by decide) (hcd : (x == ("__classdict__" : Str)) = false := by decide)
    (hs : swapsWithSole [.Subscript (.Name x p) i p2] e pos.line X.env = pure false := by rfl) (hw : swappedStores [.Subscript (.Name x p) i p2] e X.env = pure none := by rfl) (h1 : (assignEach [.Subscript (.Name x p) i p2] X.env).map (·.2) = [assign (.Subscript (.Name x p) i p2) X.env] := by rfl)
    (ha : ∀ v, assign (.Subscript (.Name x p) i p2) X.env v = (do
      let ov ← holding [v] (eval (.Name x p) X.env)
      let iv ← holding [v, ov] (eval i X.env)
      standAt p2
      holding [v, ov, iv] (setItem ov iv v)
      release [v, ov, iv] []) := by intro _; rfl) : StD X (.Assign [.Subscript (.Name x p) i p2] e pos) (iStL n g f) :=
  let ⟨_, g1, k1⟩ := he; let ⟨_, g2, k2⟩ := hi
  ⟨_, ps_asg g1 (pg_sub (pe_var hN hv hd hcd) g2 set_list ha) hs hw h1, sds_stL k1 k2⟩
end
end DL

/-! Dicts whose keys are ints or texts. -/
namespace DL
open PySem PySem.Spec PyProof.Rows L2
open Evl (Ex)
def keyD : D → Option Key
  | .int n => some (.inl n)
  | .str s => some (.inr s)
  | _ => none
def findD : List Key → List D → Key → Option D
  | k :: ks, d :: ds, q => if k = q then some d else findD ks ds q
  | _, _, _ => none
def putD : List Key → List D → Key → D → List Key × List D
  | k :: ks, d :: ds, q, x => if k = q then (k :: ks, x :: ds) else let r := putD ks ds q x; (k :: r.1, d :: r.2)
  | _, _, q, x => ([q], [x])
section
variable {K : PySem.W.Frag} {σ σ1 : L2.St} {env env1 env2 : Nv} {V H V1 H1 V2 H2 : Hp} {v : L2.V} {te ta tb ti td ty tx tv : TE}
theorem key_of {y : L2.V} {d : D} {k : Key} (h : R K H y d) (e : keyD d = some k) : y = kV k := by
  cases d with
  | int n => cases h; cases e; rfl
  | str s => cases h; cases e; rfl
  | _ => cases e
theorem dk_of {x : L2.V} {ks : List Key} {ds : List D} (h : OpOk K V H x (.dictK ks ds)) (sub : Ex V H) : ∃ a kvs, x = .ref a ∧ H a = some (.dK kvs) ∧ kvs.map (·.1) = ks ∧ RA K V (kvs.map (·.2)) ds := by
  rcases h with h | ⟨l, rfl, hv, kvs, h1, h2, h3⟩
  · cases h with
    | @dictK a kvs _ _ h1 h2 h3 => exact ⟨a, kvs, rfl, sub _ _ h1, h2, h3⟩
  · exact ⟨l, kvs, rfl, h1, h2, h3⟩
theorem find_val (q : Key) : ∀ (kvs : List (Key × L2.V)) (ds : List D), RA K V (kvs.map (·.2)) ds → (∀ d, findD (kvs.map (·.1)) ds q = some d → ∃ v, valV kvs q = some v ∧ R K V v d) ∧ (findD (kvs.map (·.1)) ds q = none → valV kvs q = none)
  | [], ds, _ => by
    constructor
    · intro d h
      cases ds <;> cases h
    · intro _; rfl
  | kv :: kvs, ds, h => by
    cases h with
    | @cons v d vs ds a t =>
      obtain ⟨h1, h2⟩ := find_val q kvs _ t
      by_cases e : kv.1 = q
      · constructor
        · intro x hx
          simp only [List.map_cons, findD, if_pos e] at hx
          cases hx
          exact ⟨kv.2, valV_pos e, a⟩
        · intro hx
          simp only [List.map_cons, findD, if_pos e] at hx
          cases hx
      · constructor
        · intro x hx
          simp only [List.map_cons, findD, if_neg e] at hx
          obtain ⟨v, g1, g2⟩ := h1 x hx
          exact ⟨v, by rw [valV_neg e]; exact g1, g2⟩
        · intro hx
          simp only [List.map_cons, findD, if_neg e] at hx
          rw [valV_neg e]
          exact h2 hx
/-! d.get(k, x) -/
def iDGet2 (f g h : EvF) : EvF := fun env => (opd f env).bind fun p => (look p.2 p.1).bind fun d0 => match d0 with
  | .dictK _ _ => (opd g p.2).bind fun q => (opd h q.2).bind fun r => (look r.2 p.1).bind fun d => match d with
    | .dictK ks ds => (look r.2 q.1).bind fun y => (keyD y).bind fun k => (vis r.1).bind fun z => some (.val ((findD ks ds k).getD z), r.2)
    | _ => none
  | _ => none
theorem sd_dget2 {f g h : EvF} (ha : Sd K td f) (hb : Sd K ty g) (hc : Sd K tx h) : Sd K (tDGet2 td ty tx) (iDGet2 f g h) := by
  intro env res env' e σ V H ok Q q
  simp only [iDGet2, Option.bind_eq_some_iff] at e
  obtain ⟨⟨r1, e1⟩, k1, d0, k2, e⟩ := e
  cases d0 with
  | dictK ks0 ds0 =>
    simp only [Option.bind_eq_some_iff] at e
    obtain ⟨⟨r2, e2⟩, k3, ⟨r3, e3⟩, k4, d, k5, e⟩ := e
    cases d with
    | dictK ks ds =>
      simp only [Option.bind_eq_some_iff] at e
      obtain ⟨y, k6, k, k7, z, k8, k9⟩ := e
      cases k9
      refine opd_snd ha k1 ok fun x V1 H1 a1 c1 => ?_
      obtain ⟨a, kvs, rfl, h1, _, _⟩ := dk_of (c1.look a1.ok k2) a1.ok.sub
      refine ⟨a, rfl, .inl ⟨kvs, .inl h1⟩, ?_⟩
      refine opd_snd hb k3 a1.ok fun w V2 H2 a2 c2 => ?_
      refine opd_snd hc k4 a2.ok fun u V3 H3 a3 c3 => ?_
      have a4 := (a1.trans a2).trans a3
      obtain ⟨a', kvs', e', h2, h3, h4⟩ := dk_of (((c1.mono a2.ex).mono a3.ex).look a4.ok k5) a4.ok.sub
      cases e'
      have hy := ((c2.mono a3.ex).look a4.ok k6).seen a4.ok.sub
      have hk := key_of hy k7
      subst hk
      have rz : R K V3 u z := by
        cases r3 with
        | val d' => cases k8; exact c3
        | new d' => exact c3.elim
        | own j => cases k8
      refine ⟨valV kvs' k, DGet.k h2, ?_⟩
      subst h3
      obtain ⟨g1, g2⟩ := find_val k kvs' ds h4
      cases hf : findD (kvs'.map (·.1)) ds k with
      | none =>
        rw [g2 hf]
        exact q _ V3 H3 a4 (show R K V3 u ((findD (kvs'.map (·.1)) ds k).getD z) by rw [hf]; exact rz)
      | some d =>
        obtain ⟨v, v1, v2⟩ := g1 d hf
        rw [v1]
        exact q _ V3 H3 a4 (show R K V3 v ((findD (kvs'.map (·.1)) ds k).getD z) by rw [hf]; exact v2)
    | _ => cases e
  | _ => cases e
/-! d[k], it is there -/
def iDGet (f g : EvF) : EvF := fun env => (opd f env).bind fun p => (opd g p.2).bind fun q => (look q.2 p.1).bind fun d => match d with
  | .dictK ks ds => (look q.2 q.1).bind fun y => (keyD y).bind fun k => (findD ks ds k).bind fun x => some (.val x, q.2)
  | _ => none
theorem sd_dget {f g : EvF} (ha : Sd K td f) (hb : Sd K ty g) : Sd K (tDGet td ty) (iDGet f g) := by
  intro env res env' e σ V H ok Q q
  simp only [iDGet, Option.bind_eq_some_iff] at e
  obtain ⟨⟨r1, e1⟩, k1, ⟨r2, e2⟩, k3, d, k5, e⟩ := e
  cases d with
  | dictK ks ds =>
    simp only [Option.bind_eq_some_iff] at e
    obtain ⟨y, k6, k, k7, z, k8, k9⟩ := e
    cases k9
    refine opd_snd ha k1 ok fun x V1 H1 a1 c1 => ?_
    refine opd_snd hb k3 a1.ok fun w V2 H2 a2 c2 => ?_
    have a4 := a1.trans a2
    obtain ⟨a', kvs', rfl, h2, h3, h4⟩ := dk_of ((c1.mono a2.ex).look a4.ok k5) a4.ok.sub
    have hy := (c2.look a4.ok k6).seen a4.ok.sub
    have hk := key_of hy k7
    subst hk
    subst h3
    obtain ⟨g1, g2⟩ := find_val k kvs' ds h4
    obtain ⟨v, v1, v2⟩ := g1 _ k8
    refine ⟨a', v, rfl, ?_, q _ V2 H2 a4 v2⟩
    have := DGet.k (k := k) h2
    rw [v1] at this
    exact this
  | _ => cases e
/-! k in d -/
def iDIn (neg : Bool) (g f : EvF) : EvF := fun env => (opd g env).bind fun q => (opd f q.2).bind fun p => (look p.2 p.1).bind fun d => match d with
  | .dictK ks ds => (look p.2 q.1).bind fun y => (keyD y).bind fun k => some (.val (.bool (if neg then !(findD ks ds k).isSome else (findD ks ds k).isSome)), p.2)
  | _ => none
theorem sd_din {f g : EvF} (hb : Sd K ty g) (ha : Sd K td f) : Sd K (tDIn ty td) (iDIn false g f) ∧ Sd K (tDNotIn ty td) (iDIn true g f) := by
  have go : ∀ neg env res env', iDIn neg g f env = some (res, env') → ∀ (σ : L2.St) (V H : Hp), NvOk K V H σ env → ∀ Q : VK, (∀ (b : Bool) V' H', Adv K σ env σ env' V H V' H' → res = .val (.bool (if neg then !b else b)) → Q (.bl (if neg then !b else b)) H') →
      ty σ H fun y H1 => td σ H1 fun x H2 => ∃ a o, x = .ref a ∧ DGet H2 a y o ∧ Q (.bl (if neg then !o.isSome else o.isSome)) H2 := by
    intro neg env res env' e σ V H ok Q q
    simp only [iDIn, Option.bind_eq_some_iff] at e
    obtain ⟨⟨r2, e1⟩, k3, ⟨r1, e2⟩, k1, d, k5, e⟩ := e
    cases d with
    | dictK ks ds =>
      simp only [Option.bind_eq_some_iff] at e
      obtain ⟨y, k6, k, k7, k9⟩ := e
      cases k9
      refine opd_snd hb k3 ok fun w V1 H1 a1 c2 => ?_
      refine opd_snd ha k1 a1.ok fun x V2 H2 a2 c1 => ?_
      have a4 := a1.trans a2
      obtain ⟨a', kvs', rfl, h2, h3, h4⟩ := dk_of (c1.look a4.ok k5) a4.ok.sub
      have hy := ((c2.mono a2.ex).look a4.ok k6).seen a4.ok.sub
      have hk := key_of hy k7
      subst hk
      subst h3
      obtain ⟨g1, g2⟩ := find_val k kvs' ds h4
      have es : (valV kvs' k).isSome = (findD (kvs'.map (·.1)) ds k).isSome := by
        cases hf : findD (kvs'.map (·.1)) ds k with
        | none => rw [g2 hf]; rfl
        | some d =>
          obtain ⟨v, v1, _⟩ := g1 d hf
          rw [v1]
          rfl
      refine ⟨a', valV kvs' k, rfl, DGet.k h2, ?_⟩
      rw [es]
      exact q _ V2 H2 a4 rfl
    | _ => cases e
  constructor
  · intro env res env' e σ V H ok Q q
    exact go false env res env' e σ V H ok Q fun b V' H' a hr => q _ V' H' a (by rw [hr]; exact .bool _)
  · intro env res env' e σ V H ok Q q
    exact go true env res env' e σ V H ok Q fun b V' H' a hr => q _ V' H' a (by rw [hr]; exact .bool _)
/-! {} -/
def iDNew : EvF := fun env => some (.new (.dictK [] []), env)
theorem sd_dnew : Sd K tDNewK iDNew := by
  intro env res env' e σ V H ok Q q
  cases e
  intro p hp
  have b : Al V H V (upd H p (.dK [])) := Al.hid ok.sub hp
  exact q _ V _ ((Adv.refl ok).trans (b.adv ok)) ⟨p, rfl, .inl hp, Evl.fresh_back ok.sub hp, fun w => ok.notOwn hp w, [], upd_same, rfl, .nil⟩
/-! d[k] = e, d a container of its own -/
def iDPut (i : Nat) (g f : EvF) : StF := fun env => (opd f env).bind fun p => (vis p.1).bind fun x => match p.2[i]? with
  | some (.own _ (.dictK _ _)) => (opd g p.2).bind fun r => (look r.2 r.1).bind fun y => (keyD y).bind fun k => match r.2[i]? with
    | some (.own q (.dictK ks ds)) => if ds.length < 100000 ∧ ks.Nodup then some (.next (r.2.set i (.own q (.dictK (putD ks ds k x).1 (putD ks ds k x).2)))) else none
    | _ => none
  | _ => none
theorem put_len (q : Key) (x : D) : ∀ (ks : List Key) (ds : List D), ks.length = ds.length → (putD ks ds q x).1.length = (putD ks ds q x).2.length
  | [], [], _ => rfl
  | [], _ :: _, h => by cases h
  | _ :: _, [], h => by cases h
  | k :: ks, d :: ds, h => by
    unfold putD
    by_cases e : k = q
    · rw [if_pos e]; simpa using h
    · rw [if_neg e]
      have := put_len q x ks ds (by simpa using h)
      simpa using this
theorem put_val (q : Key) {v : L2.V} {x : D} (hv : R K V v x) : ∀ (kvs : List (Key × L2.V)) (ds : List D), (kvs.map (·.1)).Nodup → RA K V (kvs.map (·.2)) ds → (putK kvs q v).map (·.1) = (putD (kvs.map (·.1)) ds q x).1 ∧ RA K V ((putK kvs q v).map (·.2)) (putD (kvs.map (·.1)) ds q x).2
  | [], ds, _, h => by
    cases h
    exact ⟨rfl, .cons hv .nil⟩
  | kv :: kvs, ds, nd, h => by
    cases h with
    | @cons w vs d ds a t =>
      rw [List.map_cons, List.nodup_cons] at nd
      obtain ⟨i1, i2⟩ := put_val q hv kvs _ nd.2 t
      by_cases e : kv.1 = q
      · have pk : putK (kv :: kvs) q v = (kv.1, v) :: kvs := by
          unfold putK
          have any : ((kv :: kvs).any fun kv => decide (kv.1 = q)) = true := by simp [e]
          rw [if_pos any, List.map_cons, if_pos e]
          congr 1
          have : kvs.map (fun kv => if kv.1 = q then (kv.1, v) else kv) = kvs.map id := by
            apply List.map_congr_left
            intro z hz
            have : z.1 ≠ q := fun y => nd.1 (by rw [e, ← y]; exact List.mem_map.mpr ⟨z, hz, rfl⟩)
            rw [if_neg this]
            rfl
          rw [this, List.map_id]
        rw [pk]
        simp only [List.map_cons, putD, if_pos e]
        exact ⟨trivial, .cons hv t⟩
      · have pk : putK (kv :: kvs) q v = kv :: putK kvs q v := by
          unfold putK
          have any : ((kv :: kvs).any fun kv => decide (kv.1 = q)) = (kvs.any fun kv => decide (kv.1 = q)) := by simp [e]
          rw [any]
          by_cases h : (kvs.any fun kv => decide (kv.1 = q)) = true
          · rw [if_pos h, if_pos h, List.map_cons, if_neg e]
          · rw [if_neg h, if_neg h]
            rfl
        rw [pk]
        simp only [List.map_cons, putD, if_neg e]
        exact ⟨by rw [i1], .cons a i2⟩
theorem sds_dput {i : Nat} {g f : EvF} (hv : Sd K tv f) (hg : Sd K ty g) : SdS K (sDPut (tVar i) ty tv) (iDPut i g f) := by
  intro env fl e σ V H ok E q
  simp only [iDPut, Option.bind_eq_some_iff] at e
  obtain ⟨⟨r, e1⟩, h1, x, h2, h3⟩ := e
  split at h3
  · rename_i q0 ks0 ds0 he0
    simp only [Option.bind_eq_some_iff] at h3
    obtain ⟨⟨r2, e2⟩, h4, y, h5, k, h6, h7⟩ := h3
    split at h7
    · rename_i q1 ks ds he
      split at h7
      · rename_i hz
        cases h7
        refine opd_snd hv h1 ok fun v V1 H1 a1 k1 => ?_
        have r0 : R K V1 v x := by
          cases r with
          | val d' => cases h2; exact k1
          | new d' => exact k1.elim
          | own j => cases h2
        obtain ⟨l0, g1, g2, g3⟩ := a1.ok.ownC he0
        refine ⟨_, g1, ?_⟩
        refine opd_snd hg h4 a1.ok fun w V2 H2 a2 k2 => ?_
        have a := a1.trans a2
        have hy := (k2.look a.ok h5).seen a.ok.sub
        have hk := key_of hy h6
        subst hk
        obtain ⟨l, y1, y2, kvs, y3, y4, y5⟩ := a.ok.ownC he
        rw [g1] at y1
        cases y1
        subst y4
        obtain ⟨p1, p2⟩ := put_val k (R.mono a2.ex _ _ r0) kvs ds hz.2 y5
        have hl : kvs.length < sizeLine := Evl.sz_lt (by have := y5.len; rw [List.length_map] at this; rw [this]; exact hz.1)
        refine ⟨_, _, rfl, DPut.k y3 hl, ?_⟩
        exact q σ V2 _ (adv_upd a he g1 ⟨putK kvs k v, upd_same, p1, p2⟩)
      · cases h7
    · cases h7
  · cases h3
end
section
variable {X : Cx} {k : Nat} {o e i value : Expr} {pos pos' p apos cpos : Pos} {f g h : EvF} {x : Str}
theorem pdDGet2 {k : Nat} (hr : Room k X.A) (ha : PD X o f) (hb : PD X e g) (hc : PD X i h) (m : M2 X o "get" apos e i cpos := by exact ⟨by rfl, by rfl, by rfl, by rfl⟩) : PD X (.Call (.Attribute o "get" apos) [e, i] [] cpos) (iDGet2 f g h) :=
  let ⟨_, h1, k1⟩ := ha; let ⟨_, h2, k2⟩ := hb; let ⟨_, h3, k3⟩ := hc; ⟨_, pe_dget2 (hu_of hr) h1 h2 h3 m, sd_dget2 k1 k2 k3⟩
theorem pdDGet {k : Nat} (hr : Room k X.A) (ha : PD X o f) (hb : PD X i g) (hs : NoSl i := by intro _ _; rfl) : PD X (.Subscript o i pos) (iDGet f g) :=
  let ⟨_, h1, k1⟩ := ha; let ⟨_, h2, k2⟩ := hb; ⟨_, pe_dget (hu_of hr) h1 h2 hs, sd_dget k1 k2⟩
theorem pdDNew : PD X (.Dict [] [] pos) iDNew := ⟨_, pe_dnewK, sd_dnew⟩
theorem stDPut {k : Nat} (n : Nat) (hr : Room k X.A) (he : PD X value f) (hi : PD X i g) (hN : X.N[n]? = some x := by rfl) (hv : Vis X.env.scope x := by first | exact Or.inl rfl | exact Or.inr (Or.inl rfl) | exact Or.inr (Or.inr rfl)) (hd : (x == ("__debug__" : Str)) = false := by decide) (hcd : (x == ("__classdict__" : Str)) = false := by decide)
    (hs : swapsWith value (some (.Subscript (.Name x p) i pos')) pos.line X.env = pure false := by rfl) : StD X (.Assign [.Subscript (.Name x p) i pos'] value pos) (iDPut n g f) :=
  let ⟨_, g1, k1⟩ := he; let ⟨_, g2, k2⟩ := hi
  ⟨_, ps_dput (hu_of hr) (pe_var hN hv hd hcd) g2 g1 hs, sds_dput k1 k2⟩
end
end DL

/-! [(k, d[k]) for k in d]; x.reverse(). -/
namespace DL
open PySem PySem.Spec PyProof.Rows L2
open Evl (Ex)
def keyT : Key → D
  | .inl n => .int n
  | .inr s => .str s
def pairsD : List Key → List D → List D
  | k :: ks, d :: ds => .tuple [keyT k, d] :: pairsD ks ds
  | _, _ => []
theorem pairsD_get : ∀ (ks : List Key) (ds : List D) (i : Nat) (k : Key) (d : D), ks[i]? = some k → ds[i]? = some d → (pairsD ks ds)[i]? = some (.tuple [keyT k, d])
  | [], _, _, _, _, h, _ => by cases h
  | _ :: _, [], _, _, _, _, h => by cases h
  | k :: ks, d :: ds, 0, _, _, h1, h2 => by cases h1; cases h2; rfl
  | k :: ks, d :: ds, i + 1, _, _, h1, h2 => pairsD_get ks ds i _ _ h1 h2
theorem pairsD_len : ∀ (ks : List Key) (ds : List D), ks.length = ds.length → (pairsD ks ds).length = ks.length
  | [], [], _ => rfl
  | [], _ :: _, h => by cases h
  | _ :: _, [], h => by cases h
  | k :: ks, d :: ds, h => by
    show (pairsD ks ds).length + 1 = _
    rw [pairsD_len ks ds (by simpa using h)]
    rfl
theorem valV_at : ∀ (kvs : List (Key × L2.V)) (i : Nat) (k : Key) (w : L2.V), (kvs.map (·.1)).Nodup → kvs[i]? = some (k, w) → valV kvs k = some w
  | [], _, _, _, _, h => by cases h
  | kv :: kvs, 0, k, w, _, h => by cases h; exact valV_pos rfl
  | kv :: kvs, i + 1, k, w, nd, h => by
    rw [List.map_cons, List.nodup_cons] at nd
    have h' : kvs[i]? = some (k, w) := h
    have ne : ¬ kv.1 = k := fun e => nd.1 (by rw [e]; exact List.mem_map.mpr ⟨(k, w), List.mem_of_getElem? h', rfl⟩)
    rw [valV_neg ne]
    exact valV_at kvs i k w nd.2 h'
section
variable {K : PySem.W.Frag} {σ σ1 : L2.St} {env env1 env2 : Nv} {V H V1 H1 V2 H2 : Hp} {v : L2.V} {te ta tb ti td ty tx tv : TE}
theorem R.key (k : Key) : R K V (kV k) (keyT k) := by
  cases k with
  | inl n => exact .int n
  | inr s => exact .str s
theorem Al.hidden {D : Addr} {o : HO} (a : Al V H V1 H1) (h : H D = none) (v : V1 D = none) : Al V H V1 (upd H1 D o) := by
  refine ⟨a.ex, fun x u e => ?_, fun x u e => ?_, a.fr⟩
  · have n : x ≠ D := fun z => by rw [z, v] at e; cases e
    rw [upd_ne n]
    exact a.sub x u e
  · have n : x ≠ D := fun z => by rw [z, h] at e; cases e
    rw [upd_ne n]
    exact a.keep x u e
theorem ifT {A B : Prop} (h : A) : (if true = true then A else B) := by rw [if_pos rfl]; exact h
def dictAt : Option Sl → Option (List Key × List D)
  | some (.val (.dictK ks ds)) => some (ks, ds)
  | some (.own _ (.dictK ks ds)) => some (ks, ds)
  | _ => none
def iPairs (i j : Nat) : EvF := fun env => (dictAt env[i]?).bind fun p => if i ≠ j ∧ j < env.length ∧ p.2.length ≤ 100000 ∧ p.1.Nodup then some (.new (.list (pairsD p.1 p.2)), env) else none
theorem dictAt_at {ks : List Key} {ds : List D} {i : Nat} (ok : NvOk K V H σ env) (h : dictAt env[i]? = some (ks, ds)) : ∃ d kvs, σ[i]? = some (some (.ref d)) ∧ H d = some (.dK kvs) ∧ kvs.map (·.1) = ks ∧ RA K V (kvs.map (·.2)) ds := by
  unfold dictAt at h
  split at h
  · rename_i he
    cases h
    obtain ⟨v, h1, h2⟩ := ok.val he
    cases h2 with
    | @dictK d kvs _ _ g1 g2 g3 => exact ⟨d, kvs, h1, ok.sub _ _ g1, g2, g3⟩
  · rename_i he
    cases h
    obtain ⟨l, g1, _, kvs, g3, g4, g5⟩ := ok.ownC he
    exact ⟨l, kvs, g1, g3, g4, g5⟩
  · cases h
theorem sd_pairs {i j : Nat} : Sd K (tLockE (tLc (iKeys (tVar i)) (gName j) tYes (tTup (tCons (tVar j) (tCons (tDGet (tVar i) (tVar j)) tNil))) [j])) (iPairs i j) := by
  intro env res env' e σ V H ok Q q
  unfold iPairs at e
  simp only [Option.bind_eq_some_iff] at e
  obtain ⟨⟨ks, ds⟩, he, e⟩ := e
  · split at e
    · rename_i hc
      cases e
      obtain ⟨hij, hj, hz, nd⟩ := hc
      replace hz : ds.length ≤ 100000 := hz
      replace nd : ks.Nodup := nd
      obtain ⟨d, kvs, h1, hd, g2, g3⟩ := dictAt_at ok he
      · subst g2
        have hjσ : j < σ.length := by rw [ok.len]; exact hj
        have lens : kvs.length = ds.length := by have := g3.len; rwa [List.length_map] at this
        refine ⟨d, .dK kvs, hd, trivial, fun od => ?_⟩
        refine ⟨.ref d, h1, d, od, rfl, .inl ⟨kvs, upd_same, ?_⟩⟩
        intro D hD
        have nD : D ≠ d := fun z => by rw [z, upd_same] at hD; cases hD
        have hD' : H D = none := by rw [upd_ne nD] at hD; exact hD
        have vD0 : V D = none := Evl.fresh_back ok.sub hD'
        refine lc_it (n := kvs.length) walk_keys (fun m Hc => ∃ (V1 : Hp) (acc : List L2.V), Al V H V1 (upd Hc d (.dK kvs)) ∧ V1 D = none ∧ Hc d = some (.frz od (.dK kvs)) ∧ Hc D = some (.lst acc) ∧ RA K V1 acc ((pairsD (kvs.map (·.1)) ds).take m)) ⟨V, [], ?_, vD0, by rw [upd_ne (Ne.symm nD), upd_same], upd_same, .nil⟩ (fun m Hc _ ⟨V1, acc, _, _, fz, _, _⟩ => fz) ?_ ?_
        · have e0 : upd (upd (upd H d (.frz od (.dK kvs))) D (.lst [])) d (.dK kvs) = upd H D (.lst []) := by
            funext b
            by_cases hb : b = d
            · subst hb; rw [upd_same, upd_ne (Ne.symm nD), hd]
            · rw [upd_ne hb]
              by_cases hb2 : b = D
              · subst hb2; rw [upd_same, upd_same]
              · rw [upd_ne hb2, upd_ne hb2, upd_ne hb]
          rw [e0]
          exact Al.hid ok.sub hD'
        · rintro m x Hc H' hlt ⟨V1, acc, al, vD, fz, hDl, ra⟩ ⟨rfl, k, w, hk, rfl⟩
          have wv : valV kvs k = some w := valV_at kvs m k w nd hk
          have sj : ((wipe σ [j]).set j (some (kV k)))[j]? = some (some (kV k)) := List.getElem?_set_self (by rw [wipe_length]; exact hjσ)
          have si : ((wipe σ [j]).set j (some (kV k)))[i]? = some (some (.ref d)) := by
            show ((σ.set j none).set j (some (kV k)))[i]? = _
            rw [List.getElem?_set_ne (Ne.symm hij), List.getElem?_set_ne (Ne.symm hij)]
            exact h1
          refine ⟨?_, ?_⟩
          · show (((σ.set j none).set j (some (kV k))).set j none) = σ.set j none
            rw [List.set_set, List.set_set]
          · unfold tYes
            refine ifT ?_
            refine ⟨kV k, sj, .ref d, si, kV k, sj, d, w, rfl, .inl ⟨kvs, k, .inr ⟨od, fz⟩, rfl, wv.symm⟩, ?_⟩
            refine ⟨by show 2 ≤ sizeLine; decide, fun p hp => ?_⟩
            have npd : p ≠ d := fun z => by rw [z, fz] at hp; cases hp
            have npD : p ≠ D := fun z => by rw [z, hDl] at hp; cases hp
            have al1 : upd H' d (.dK kvs) p = none := by rw [upd_ne npd]; exact hp
            have al2 := al.trans (Al.new (o := .tup [kV k, w]) al.sub al1)
            have vD2 : upd V1 p (.tup [kV k, w]) D = none := by rw [upd_ne (Ne.symm npD)]; exact vD
            have al3 := Al.hidden (D := D) (o := .lst (acc ++ [.ref p])) al2 hD' vD2
            have ee : upd (upd (upd H' p (.tup [kV k, w])) D (.lst (acc ++ [.ref p]))) d (.dK kvs) = upd (upd (upd H' d (.dK kvs)) p (.tup [kV k, w])) D (.lst (acc ++ [.ref p])) := by
              funext b
              by_cases hb : b = d
              · subst hb; rw [upd_same, upd_ne (Ne.symm nD), upd_ne (Ne.symm npd), upd_same]
              · rw [upd_ne hb]
                by_cases hb2 : b = D
                · subst hb2; rw [upd_same, upd_same]
                · rw [upd_ne hb2, upd_ne hb2]
                  by_cases hb3 : b = p
                  · subst hb3; rw [upd_same, upd_same]
                  · rw [upd_ne hb3, upd_ne hb3, upd_ne hb]
            have kk : (kvs.map (·.1))[m]? = some k := by rw [List.getElem?_map, hk]; rfl
            obtain ⟨dd, d1, d2⟩ := g3.getV (show (kvs.map (·.2))[m]? = some w by rw [List.getElem?_map, hk]; rfl)
            have pg := pairsD_get _ _ m k dd kk d1
            have al0 : acc.length ≤ 99999 := by
              have := ra.len
              rw [List.length_take] at this
              omega
            refine ⟨acc, by rw [upd_ne (Ne.symm npD)]; exact hDl, Evl.sz_lt (by omega), upd V1 p (.tup [kV k, w]), acc ++ [.ref p], by rw [ee]; exact al3, vD2, by rw [upd_ne (Ne.symm nD), upd_ne (Ne.symm npd)]; exact fz, upd_same, ?_⟩
            rw [List.take_add_one, pg]
            have ex1 : Ex V1 (upd V1 p (.tup [kV k, w])) := (Al.new (o := .tup [kV k, w]) al.sub al1).ex
            exact (RA.mono ex1 _ _ ra).append (.cons (.tuple (St.of upd_same) (.cons (R.key k) (.cons (R.mono (al.ex.trans ex1) _ _ d2) .nil))) .nil)
        · rintro Hc ⟨V1, acc, al, vD, fz, hDl, ra⟩
          refine ⟨fz, q _ V1 _ (al.adv ok) ⟨D, rfl, .inl hD', vD, fun w => ok.notOwn hD' w, acc, by rw [upd_ne nD]; exact hDl, ?_⟩⟩
          rw [List.take_of_length_le (by rw [pairsD_len _ _ (by rw [List.length_map]; exact lens), List.length_map]; exact Nat.le_refl _)] at ra
          exact ra
    · cases e
/-! x.reverse() -/
def iRvs (i : Nat) : EvF := fun env => match env[i]? with
  | some (.own q (.list ds)) => some (.val .none, env.set i (.own q (.list ds.reverse)))
  | _ => none
theorem sd_rvs {i : Nat} : Sd K (tBM0 K "list" rReverse (tVar i)) (iRvs i) := by
  intro env res env' e σ V H ok Q q
  unfold iRvs at e
  split at e
  · rename_i p ds he
    cases e
    obtain ⟨l, y1, y2, xs, y3, y4⟩ := ok.ownC he
    refine ⟨_, y1, .inl ⟨rfl, xs, Evl.sq_of y3⟩, ?_⟩
    exact ⟨l, xs, rfl, rfl, y3, q _ V _ (adv_upd (Adv.refl ok) he y1 ⟨xs.reverse, upd_same, y4.rev⟩) .none⟩
  · cases e
end
section
variable {X : Cx} {k : Nat} {o e i value : Expr} {pos pos' p cpos : Pos} {f g h : EvF} {x y : Str}
theorem pdRvs (i : Nat) {apos p : Pos} (hN : X.N[i]? = some x := by rfl) (hv : Vis X.env.scope x := by first | exact Or.inl rfl | exact Or.inr (Or.inl rfl) | exact Or.inr (Or.inr rfl)) (hd : (x == ("__debug__" : Str)) = false := by decide) (hcd : (x == ("__classdict__" : Str)) = false := by decide)
    (h1 : attributeBase (.Name x p) "reverse" X.env (eval (.Name x p) X.env) = eval (.Name x p) X.env := by rfl) (h2 : (apos.endLine == pos.line) = true := by rfl) : PD X (.Call (.Attribute (.Name x p) "reverse" apos) [] [] pos) (iRvs i) :=
  ⟨_, pe_bm0 PySem.F.plainAttrs_list PySem.F.slot_list_reverse PySem.F.type_list_reverse mt_reverse (pe_var hN hv hd hcd) h1 h2, sd_rvs⟩
theorem pdPairs {k : Nat} {scope : Scope} {px px2 py py2 py3 pos2 pos3 : Pos} {c : Nat} (i j : Nat) (hr : Room k X.A) (hc : X.calm = true) (nd : X.N.Nodup) (ok : BlkOk X.N X.env.scope scope [(y, j)]) (hi : PE X (.Name x px) (tVar i))
    (hg : ∀ (s : Shared) (H : Hp) (C : Addr) (cl : List (Str × Addr)) (fp : List Addr), PG (X.blk s H scope (compEnvC scope cl C X.env) fp) (.Name y py) (gName j))
    (hk : ∀ (s : Shared) (H : Hp) (C : Addr) (cl : List (Str × Addr)) (fp : List Addr), PE (X.blk s H scope (compEnvC scope cl C X.env) fp) (.Name y py2) (tVar j))
    (ht : ∀ (s : Shared) (H : Hp) (C : Addr) (cl : List (Str × Addr)) (fp : List Addr), PE (X.blk s H scope (compEnvC scope cl C X.env) fp) (.Name x px2) (tVar i))
    (hk2 : ∀ (s : Shared) (H : Hp) (C : Addr) (cl : List (Str × Addr)) (fp : List Addr), PE (X.blk s H scope (compEnvC scope cl C X.env) fp) (.Name y py3) (tVar j)) :
    PD X (.ListComp (.Tuple [.Name y py2, .Subscript (.Name x px2) (.Name y py3) pos2] c pos3) [⟨.Name y py, .Name x px, [], 0⟩] scope pos) (iPairs i j) :=
  ⟨_, pe_lock (pe_lc (own := [(y, j)]) hc nd (pi_keys hi) ok hg (fun _ _ _ _ _ => pts_nil) (fun s H C cl fp => pe_tup (pa_cons (hk s H C cl fp) (pa_cons (pe_dget (X := X.blk s H scope (compEnvC scope cl C X.env) fp) (hu_of hr) (ht s H C cl fp) (hk2 s H C cl fp) (by intro _ _; rfl)) pa_nil)))), sd_pairs⟩
end
end DL

/-! Dead slots forgotten; walks; reversed; setdefault; dict comprehensions. -/
namespace DL
open PySem PySem.Spec PyProof.Rows L2
open Evl (Ex)
section
variable {K : PySem.W.Frag} {σ σ1 : L2.St} {env env1 env2 : Nv} {V H V1 H1 V2 H2 : Hp} {v : L2.V} {te ta tb ti td ty tx tv : TE} {t u : TS} {f g : StF}
/-! ### dead slots -/
def iBef (vs : List Nat) (f : StF) : StF := fun env => (wipeN env vs).bind f
theorem sds_bef {vs : List Nat} (h : SdS K t f) : SdS K t (iBef vs f) := by
  intro env fl e σ V H ok E q
  simp only [iBef, Option.bind_eq_some_iff] at e
  obtain ⟨e1, h1, h2⟩ := e
  have a := (adv_wipe (Adv.refl ok) h1).2
  exact h _ _ h2 σ V H a.ok E (q.of a)
def wfl (vs : List Nat) : Fl → Option Fl
  | .next e => (wipeN e vs).map .next
  | .cont e => (wipeN e vs).map .cont
  | .brk e => (wipeN e vs).map .brk
  | .ret r e => some (.ret r e)
def iAft (vs : List Nat) (f : StF) : StF := fun env => (f env).bind (wfl vs)
theorem sds_aft {vs : List Nat} (h : SdS K t f) : SdS K t (iAft vs f) := by
  intro env fl e σ V H ok E q
  simp only [iAft, Option.bind_eq_some_iff] at e
  obtain ⟨fl1, h1, h2⟩ := e
  refine h _ _ h1 σ V H ok E ?_
  cases fl1 with
  | next e1 =>
    simp only [wfl, Option.map_eq_some_iff] at h2
    obtain ⟨e2, h3, rfl⟩ := h2
    exact fun σ' V' H' a => q σ' V' H' (adv_wipe a h3).2
  | cont e1 =>
    simp only [wfl, Option.map_eq_some_iff] at h2
    obtain ⟨e2, h3, rfl⟩ := h2
    exact fun σ' V' H' a => q σ' V' H' (adv_wipe a h3).2
  | brk e1 =>
    simp only [wfl, Option.map_eq_some_iff] at h2
    obtain ⟨e2, h3, rfl⟩ := h2
    exact fun σ' V' H' a => q σ' V' H' (adv_wipe a h3).2
  | ret r e1 =>
    cases h2
    exact q
/-! ### one of two meanings -/
def iAlt (f g : EvF) : EvF := fun env => match f env with
  | some r => some r
  | none => g env
def tEither (t u : TE) : TE := fun σ H Q => t σ H Q ∨ u σ H Q
theorem sd_alt {f g : EvF} (h : Sd K ta f) (k : Sd K tb g) : Sd K (tEither ta tb) (iAlt f g) := by
  intro env res env' e σ V H ok Q q
  unfold iAlt at e
  split at e
  · rename_i r hr
    cases e
    exact .inl (h _ _ _ hr σ V H ok Q q)
  · exact .inr (k _ _ _ e σ V H ok Q q)
/-! ### a walk -/
/-- J walks ds while what is visible in V stands -/
def WkOk (K : PySem.W.Frag) (J : It) (V : Hp) (ds : List D) : Prop := ∃ (n : Nat) (G : Hp → Prop) (Y : Nat → Hp → L2.V → Hp → Prop), n = ds.length ∧ Walk J n G Y ∧ (∀ V1 H1, Ex V V1 → Ex V1 H1 → G H1) ∧
  ∀ i d V1 H1 x H', ds[i]? = some d → Ex V V1 → Ex V1 H1 → Y i H1 x H' → ∃ V2, Al V1 H1 V2 H' ∧ R K V2 x d
theorem WkOk.mk {J : It} {ds : List D} (w : WkOk K J V ds) : Mk K J σ V H ds ∧ MkC K J σ V H ds := by
  obtain ⟨n, G, Y, rfl, w, hG, hY⟩ := w
  constructor
  · intro g tb E Pv h0 hx hi hd
    refine for_it w (fun i σ1 H1 => ∃ V1, Pv i σ1 V1 H1) ⟨V, h0⟩ (fun i σ1 H1 _ ⟨V1, p⟩ => hG V1 H1 (hx _ _ _ _ p).1 (hx _ _ _ _ p).2) ?_ (fun σ1 H1 ⟨V1, p⟩ => hd σ1 V1 H1 p)
    rintro i x σ1 H1 H' hlt ⟨V1, p⟩ y
    obtain ⟨p1, p2⟩ := hx i σ1 V1 H1 p
    obtain ⟨V2, al, r⟩ := hY i _ V1 H1 x H' (List.getElem?_eq_getElem hlt) p1 p2 y
    exact hi i _ σ1 V1 H1 (List.getElem?_eq_getElem hlt) p x V2 H' al r
  · intro g tt te vs Dl Pv Qd h0 hx hi hd
    refine lc_it w (fun i H1 => ∃ V1, Pv i V1 H1) ⟨V, h0⟩ (fun i H1 _ ⟨V1, p⟩ => hG V1 H1 (hx _ _ _ p).1 (hx _ _ _ p).2) ?_ (fun H1 ⟨V1, p⟩ => hd V1 H1 p)
    rintro i x H1 H' hlt ⟨V1, p⟩ y
    obtain ⟨p1, p2⟩ := hx i V1 H1 p
    obtain ⟨V2, al, r⟩ := hY i _ V1 H1 x H' (List.getElem?_eq_getElem hlt) p1 p2 y
    exact hi i _ V1 H1 (List.getElem?_eq_getElem hlt) p x V2 H' al r
def SdW (K : PySem.W.Frag) (wi : TI) (f : ItF) : Prop := ∀ env ds env', f env = some (ds, env') → ∀ (σ : L2.St) (V H : Hp), NvOk K V H σ env →
  ∀ Rr : It → Hp → Prop, (∀ J V' H', Adv K σ env σ env' V H V' H' → WkOk K J V' ds → Rr J H') → wi σ H Rr
theorem SdW.i {wi : TI} {f : ItF} (h : SdW K wi f) : SdI K wi f := fun env ds env' e σ V H ok Rr q => h env ds env' e σ V H ok Rr fun J V' H' a w => q J V' H' a w.mk
theorem wk_list {a : Addr} {xs : List L2.V} {ds : List D} (hs : SqL K V a xs) (r : RA K V xs ds) : WkOk K (Itl K a) V ds := by
  refine ⟨xs.length, _, _, r.len, walk_list, fun V1 H1 e1 e2 => Evl.ex_l (e1.trans e2) hs, ?_⟩
  rintro i d V1 H1 x H' hd e1 e2 ⟨rfl, hx⟩
  obtain ⟨d', h1, h2⟩ := r.getV hx
  rw [hd] at h1
  cases h1
  exact ⟨V1, Al.refl e2, R.mono e1 _ _ h2⟩
theorem wk_tup {a : Addr} {xs : List L2.V} {ds : List D} (hs : SqT K V a xs) (r : RA K V xs ds) : WkOk K (Itt K a) V ds := by
  refine ⟨xs.length, _, _, r.len, walk_tup, fun V1 H1 e1 e2 => Evl.ex_t (e1.trans e2) hs, ?_⟩
  rintro i d V1 H1 x H' hd e1 e2 ⟨rfl, hx⟩
  obtain ⟨d', h1, h2⟩ := r.getV hx
  rw [hd] at h1
  cases h1
  exact ⟨V1, Al.refl e2, R.mono e1 _ _ h2⟩
theorem walk_revT {a : Addr} {xs : List L2.V} : Walk (RT.ItvT K a xs.length) xs.length (fun H => SqT K H a xs) (fun i H x H' => H' = H ∧ xs[xs.length - 1 - i]? = some x) :=
  ⟨fun i _ hi q => ⟨hi, xs, xs[xs.length - 1 - i]'(by omega), q, by simp [show xs.length - 1 - i < xs.length by omega]⟩, fun _ _ => Nat.le_refl _, fun _ _ _ _ _ q y => ⟨y.1, y.2 xs q⟩⟩
theorem rev_at {α : Type} {xs : List α} {i : Nat} {d : α} (h : xs.reverse[i]? = some d) : xs[xs.length - 1 - i]? = some d := by
  have hi : i < xs.reverse.length := (List.getElem?_eq_some_iff.mp h).1
  rw [List.length_reverse] at hi
  rwa [List.getElem?_reverse hi] at h
theorem wk_rev {a : Addr} {xs : List L2.V} {ds : List D} (hs : SqL K V a xs) (r : RA K V xs ds) : WkOk K (Itv K a xs.length) V ds.reverse := by
  refine ⟨xs.length, _, _, by rw [List.length_reverse]; exact r.len, walk_rev, fun V1 H1 e1 e2 => Evl.ex_l (e1.trans e2) hs, ?_⟩
  rintro i d V1 H1 x H' hd e1 e2 ⟨rfl, hx⟩
  obtain ⟨d', h1, h2⟩ := r.getV hx
  rw [r.len, rev_at hd] at h1
  cases h1
  exact ⟨V1, Al.refl e2, R.mono e1 _ _ h2⟩
theorem wk_revT {a : Addr} {xs : List L2.V} {ds : List D} (hs : SqT K V a xs) (r : RA K V xs ds) : WkOk K (RT.ItvT K a xs.length) V ds.reverse := by
  refine ⟨xs.length, _, _, by rw [List.length_reverse]; exact r.len, walk_revT, fun V1 H1 e1 e2 => Evl.ex_t (e1.trans e2) hs, ?_⟩
  rintro i d V1 H1 x H' hd e1 e2 ⟨rfl, hx⟩
  obtain ⟨d', h1, h2⟩ := r.getV hx
  rw [r.len, rev_at hd] at h1
  cases h1
  exact ⟨V1, Al.refl e2, R.mono e1 _ _ h2⟩
theorem sdw_seq {f : EvF} (ha : Sd K te f) : SdW K (iSq K te) (iSeqI f) := by
  intro env ds env' e σ V H ok Rr q
  simp only [iSeqI, Option.bind_eq_some_iff] at e
  obtain ⟨⟨r, e1⟩, h1, d, h2, h3⟩ := e
  refine opd_snd ha h1 ok fun v V' H' a k => ?_
  have r0 : R K V' v d := by
    cases r with
    | val d' => cases h2; exact k
    | new d' => exact k.elim
    | own j => cases h2
  cases d with
  | list es =>
    cases h3
    cases r0 with
    | @list p xs _ hs hr => exact ⟨p, rfl, .inl ⟨⟨xs, Evl.ex_l a.ok.sub hs⟩, q _ V' H' a (wk_list hs hr)⟩⟩
  | tuple es =>
    cases h3
    cases r0 with
    | @tuple p xs _ hs hr => exact ⟨p, rfl, .inr ⟨⟨xs, Evl.ex_t a.ok.sub hs.sq⟩, q _ V' H' a (wk_tup hs.sq hr)⟩⟩
  | _ => cases h3
/-- reversed(x) -/
def iRevI (f : EvF) : ItF := fun env => (iSeqI f env).map fun p => (p.1.reverse, p.2)
theorem sdw_rev {f : EvF} (ha : Sd K te f) : SdW K (RT.iRevA K te) (iRevI f) := by
  intro env ds env' e σ V H ok Rr q
  simp only [iRevI, Option.map_eq_some_iff] at e
  obtain ⟨⟨ds0, e0⟩, e, e2⟩ := e
  cases e2
  simp only [iSeqI, Option.bind_eq_some_iff] at e
  obtain ⟨⟨r, e1⟩, h1, d, h2, h3⟩ := e
  refine opd_snd ha h1 ok fun v V' H' a k => ?_
  have r0 : R K V' v d := by
    cases r with
    | val d' => cases h2; exact k
    | new d' => exact k.elim
    | own j => cases h2
  cases d with
  | list es =>
    cases h3
    cases r0 with
    | @list p xs _ hs hr => exact ⟨p, xs, rfl, .inl ⟨Evl.ex_l a.ok.sub hs, q _ V' H' a (wk_rev hs hr)⟩⟩
  | tuple es =>
    cases h3
    cases r0 with
    | @tuple p xs _ hs hr => exact ⟨p, xs, rfl, .inr ⟨Evl.ex_t a.ok.sub hs.sq, q _ V' H' a (wk_revT hs.sq hr)⟩⟩
  | _ => cases h3
/-! ### d.setdefault(k, x), d a container of its own -/
def iDSet (i : Nat) (g f : EvF) : EvF := fun env => match env[i]? with
  | some (.own _ (.dictK _ _)) => (opd g env).bind fun r => (opd f r.2).bind fun s => (look s.2 r.1).bind fun y => (keyD y).bind fun k => (vis s.1).bind fun x => match s.2[i]? with
    | some (.own q (.dictK ks ds)) => if ds.length < 100000 ∧ ks.Nodup then match findD ks ds k with
      | some z => some (.val z, s.2)
      | none => some (.val x, s.2.set i (.own q (.dictK (putD ks ds k x).1 (putD ks ds k x).2))) else none
    | _ => none
  | _ => none
theorem sd_dset {i : Nat} {g f : EvF} (hg : Sd K ty g) (hf : Sd K tx f) : Sd K (tDSetd (tVar i) ty tx) (iDSet i g f) := by
  intro env res env' e σ V H ok Q q
  unfold iDSet at e
  split at e
  · rename_i q0 ks0 ds0 he0
    simp only [Option.bind_eq_some_iff] at e
    obtain ⟨⟨r1, e1⟩, h1, ⟨r2, e2⟩, h2, y, h3, k, h4, x, h5, h6⟩ := e
    split at h6
    · rename_i q1 ks ds he
      split at h6
      · rename_i hz
        obtain ⟨l0, g1, g2, kvs0, g3, _⟩ := ok.ownC he0
        refine ⟨_, g1, _, rfl, .inl ⟨kvs0, .inl g3⟩, ?_⟩
        refine opd_snd hg h1 ok fun v V1 H1 a1 k1 => ?_
        refine opd_snd hf h2 a1.ok fun w V2 H2 a2 k2 => ?_
        have a := a1.trans a2
        have rx : R K V2 w x := by
          cases r2 with
          | val d' => cases h5; exact k2
          | new d' => exact k2.elim
          | own j => cases h5
        have hy := ((k1.mono a2.ex).look a.ok h3).seen a.ok.sub
        have hk := key_of hy h4
        subst hk
        obtain ⟨l, y1, y2, kvs, y3, y4, y5⟩ := a.ok.ownC he
        rw [g1] at y1
        cases y1
        subst y4
        have hl : kvs.length < sizeLine := Evl.sz_lt (by have := y5.len; rw [List.length_map] at this; rw [this]; exact hz.1)
        obtain ⟨f1, f2⟩ := find_val k kvs ds y5
        refine ⟨kvs, k, y3, rfl, hl, fun v hv => ?_, fun hn => ?_⟩
        · cases hfd : findD (kvs.map (·.1)) ds k with
          | none => rw [f2 hfd] at hv; cases hv
          | some z =>
            rw [hfd] at h6
            cases h6
            obtain ⟨v', v1, v2⟩ := f1 z hfd
            rw [hv] at v1
            cases v1
            exact q v V2 H2 a v2
        · cases hfd : findD (kvs.map (·.1)) ds k with
          | some z =>
            obtain ⟨v', v1, v2⟩ := f1 z hfd
            rw [hn] at v1
            cases v1
          | none =>
            rw [hfd] at h6
            cases h6
            obtain ⟨p1, p2⟩ := put_val k rx kvs ds hz.2 y5
            exact q w V2 _ (adv_upd a he g1 ⟨putK kvs k w, upd_same, p1, p2⟩) rx
      · cases h6
    · cases h6
  · cases e
/-! ### list(d) -/
def keysD (ks : List Key) : List D := ks.map keyT
theorem ra_keys : ∀ kvs : List (Key × L2.V), RA K V (kvs.map fun kv => kV kv.1) (keysD (kvs.map (·.1)))
  | [] => .nil
  | kv :: kvs => .cons (R.key kv.1) (ra_keys kvs)
def gListD : D → Option Res
  | .dictK ks _ => some (.new (.list (keysD ks)))
  | _ => none
theorem call_listD_ok : CallOk K (fun xs H Q => ∃ (a : Addr) (kvs : List (Key × L2.V)), xs = [.ref a] ∧ Rd H a (.dK kvs) ∧ ∀ p, H p = none → Q (.ref p) (upd H p (.lst (kvs.map fun kv => kV kv.1)))) (c1 gListD) := by
  intro V H vs ds res sub hv hg Q q
  unfold c1 at hg
  split at hg
  · obtain ⟨v, rfl, hx⟩ := hv.one
    rename_i d
    cases d with
    | dictK ks es =>
      cases hg
      obtain ⟨a, kvs, rfl, h1, h2, h3⟩ := dk_of hx sub
      subst h2
      refine ⟨a, kvs, rfl, .inl h1, fun l hl => ?_⟩
      exact q _ _ _ (Al.hid sub hl) ⟨l, rfl, hl, Evl.fresh_back sub hl, _, upd_same, ra_keys kvs⟩
    | _ => cases hg
  · cases hg
/-! ### dict comprehensions -/
def dcLoop (g : TgF) (c : EvT) (fk fv : EvF) (vs : List Nat) : List D → Nv → List Key → List D → Option (List Key × List D × Nv)
  | [], env, ks, es => some (ks, es, env)
  | d :: ds, env, ks, es => (g env d).bind fun e1 => (c e1).bind fun p => if p.1 = true then
      (opd fk p.2).bind fun q => (opd fv q.2).bind fun r => (look r.2 q.1).bind fun y => (keyD y).bind fun k => (vis r.1).bind fun x => (wipeN r.2 vs).bind fun e3 =>
        if es.length < 100000 ∧ ks.Nodup then dcLoop g c fk fv vs ds e3 (putD ks es k x).1 (putD ks es k x).2 else none
    else (wipeN p.2 vs).bind fun e3 => dcLoop g c fk fv vs ds e3 ks es
def iDc (it : ItF) (g : TgF) (c : EvT) (fk fv : EvF) (vs : List Nat) : EvF := fun env => (it env).bind fun p => (wipeN p.2 vs).bind fun e1 => (dcLoop g c fk fv vs p.1 e1 [] []).bind fun q => some (.new (.dictK q.1 q.2.1), q.2.2)
theorem dc_it {J : It} {n : Nat} {G : Hp → Prop} {Y : Nat → Hp → L2.V → Hp → Prop} (w : Walk J n G Y) {g : TG} {tt : TT} {tk tv : TE} {vs : List Nat} {σ : L2.St} {H1 : Hp} {D : Addr} {Qd : Hp → Prop} (Pv : Nat → Hp → Prop) (h0 : Pv 0 (upd H1 D (.dK []))) (hG : ∀ i H, i ≤ n → Pv i H → G H)
    (hs : ∀ i x H H', i < n → Pv i H → Y i H x H' → g x (wipe σ vs) H' fun σ2 H2 => wipe σ2 vs = wipe σ vs ∧ tt σ2 H2 fun b H3 =>
      if b = true then tk σ2 H3 fun y H4 => tv σ2 H4 fun z H5 => ∃ kvs k, y = kV k ∧ H5 D = some (.dK kvs) ∧ kvs.length < sizeLine ∧ Pv (i + 1) (upd H5 D (.dK (putK kvs k z))) else Pv (i + 1) H3) (hd : ∀ H, Pv n H → Qd H) :
    ∃ W : Nat → Nat → Hp → Prop, (∃ m, W 0 m (upd H1 D (.dK []))) ∧ ∀ i m H, W i m H →
      (J.stop i H ∧ Qd H) ∨ (J.go i H ∧ ∃ Nx : Hp → Prop, (∀ H', Nx H' → ∃ m', m' < m ∧ W (i + 1) m' H') ∧ ∀ x H', J.yld i H x H' → g x (wipe σ vs) H' fun σ2 H2 => wipe σ2 vs = wipe σ vs ∧ tt σ2 H2 fun b H3 =>
        if b = true then tk σ2 H3 fun y H4 => tv σ2 H4 fun z H5 => ∃ kvs k, y = kV k ∧ H5 D = some (.dK kvs) ∧ kvs.length < sizeLine ∧ Nx (upd H5 D (.dK (putK kvs k z))) else Nx H3) := by
  refine ⟨fun i m H => m = n - i ∧ i ≤ n ∧ Pv i H, ⟨n, by simp, Nat.zero_le _, h0⟩, ?_⟩
  rintro i m H ⟨rfl, hi, p⟩
  have q := hG i H hi p
  by_cases hlt : i < n
  · refine .inr ⟨w.goes i H hlt q, Pv (i + 1), fun H' p' => ⟨n - (i + 1), by omega, rfl, hlt, p'⟩, fun x H' y => hs i x H H' hlt p (w.yields i H x H' hlt q y)⟩
  · have e : i = n := by omega
    subst e
    exact .inl ⟨w.stops H q, hd H p⟩
theorem sd_dc {wi : TI} {it : ItF} {tg : TG} {g : TgF} {tt : TT} {c : EvT} {tk tv : TE} {fk fv : EvF} {vs : List Nat} (hi : SdW K wi it) (hg : SdGv K tg g vs) (hc : SdT K tt c) (hk : Sd K tk fk) (hv : Sd K tv fv) : Sd K (tDc wi tg tt tk tv vs) (iDc it g c fk fv vs) := by
  intro env res env' e σ V H ok Q q
  simp only [iDc, Option.bind_eq_some_iff] at e
  obtain ⟨⟨ds, e0⟩, h1, e1, h2, ⟨oks, oes, e2⟩, h3, h4⟩ := e
  cases h4
  refine hi _ _ _ h1 σ V H ok _ fun J V' H' a wk Dl hD => ?_
  obtain ⟨n, G, Y, hn, w, hG, hY⟩ := wk
  obtain ⟨aw, as⟩ := adv_wipe a h2
  have vD : V' Dl = none := Evl.fresh_back a.ok.sub hD
  have hD0 : H Dl = none := by
    cases y : H Dl with
    | none => rfl
    | some o => exact absurd hD (a.dom Dl (by rw [y]; exact fun z => by cases z))
  refine dc_it w (fun i H1 => ∃ V1 env1 ks es kvs, Adv K σ env (wipe σ vs) env1 V H V1 H1 ∧ Adv K σ env σ env1 V H V1 H1 ∧ Ex V' V1 ∧ V1 Dl = none ∧ ¬ Own env1 (wipe σ vs) Dl ∧ H1 Dl = some (.dK kvs) ∧ kvs.map (·.1) = ks ∧ RA K V1 (kvs.map (·.2)) es ∧ (∀ j, j ∈ vs → env1[j]? = some .no) ∧ dcLoop g c fk fv vs (ds.drop i) env1 ks es = some (oks, oes, e2)) ?_ ?_ ?_ ?_
  · have nO : ¬ Own e1 (wipe σ vs) Dl := aw.ok.notOwn hD
    exact ⟨V', e1, [], [], [], adv_grow aw hD0 vD nO ok.tabs, adv_grow as hD0 vD (as.ok.notOwn hD) ok.tabs, Evl.Ex.refl _, vD, nO, upd_same, rfl, .nil, wipeN_clean h2, h3⟩
  · rintro i H1 _ ⟨V1, env1, ks, es, kvs, b, b', x, _⟩
    exact hG V1 H1 x b.ok.sub
  · rintro i x H1 H2 hlt ⟨V1, env1, ks, es, kvs, b, b', x1, d1, d2, d3, d4, d5, d6, hl⟩ yy
    have hlt' : i < ds.length := by omega
    obtain ⟨V2, al, r⟩ := hY i _ V1 H1 x H2 (List.getElem?_eq_getElem hlt') x1 b.ok.sub yy
    rw [List.drop_eq_getElem_cons hlt'] at hl
    simp only [dcLoop, Option.bind_eq_some_iff] at hl
    obtain ⟨e3, g1, ⟨bb, e4⟩, g2, g3⟩ := hl
    have b2 := al.adv b.ok
    refine hg _ _ _ g1 (wipe σ vs) V2 H2 x b2.ok r _ fun σ3 a3 w3 => ⟨by rw [w3, wipe_wipe], ?_⟩
    refine hc _ _ _ g2 σ3 V2 H2 a3.ok _ fun V4 H4 a4 => ?_
    have a5 := (b2.trans a3).trans a4
    have back : ∀ (V5 H5 : Hp) (e5 e6 : Nv), Adv K (wipe σ vs) env1 σ3 e5 V1 H1 V5 H5 → wipeN e5 vs = some e6 → Adv K (wipe σ vs) env1 (wipe σ vs) e6 V1 H1 V5 H5 := by
      intro V5 H5 e5 e6 a6 hw
      have a7 := (adv_wipe a6 hw).1
      rw [w3, wipe_wipe] at a7
      exact a7
    cases bb with
    | true =>
      rw [if_pos rfl]
      rw [if_pos rfl] at g3
      simp only [Option.bind_eq_some_iff] at g3
      obtain ⟨⟨rk, e5⟩, g4, ⟨rv, e6⟩, g5, y, g6, k, g7, z, g8, e7, g9, g10⟩ := g3
      split at g10
      · rename_i hz
        refine opd_snd hk g4 a4.ok fun vk V5 H5 a6 c5 => ?_
        refine opd_snd hv g5 a6.ok fun vv V6 H6 a7 c6 => ?_
        have a8 := (a5.trans a6).trans a7
        have a9 := back V6 H6 e6 e7 a8 g9
        obtain ⟨y1, y2⟩ := adv_hid a9 d3 d1 d2
        have rz : R K V6 vv z := by
          cases rv with
          | val d' => cases g8; exact c6
          | new d' => exact c6.elim
          | own j => cases g8
        have hy := ((c5.mono a7.ex).look a8.ok g6).seen a8.ok.sub
        have hkk := key_of hy g7
        have a10 := b.trans a9
        have nO : ¬ Own e7 (wipe σ vs) Dl := fun w => by
          rcases a9.own Dl w with m | m
          · exact d2 m
          · rw [d3] at m; cases m
        have clean := wipeN_clean g9
        have a11 : Adv K σ env σ e7 V H V6 H6 := adv_orig a10 clean
        have ra6 := RA.mono a9.ex _ _ d5
        have hl6 : kvs.length < sizeLine := Evl.sz_lt (by have := d5.len; rw [List.length_map] at this; rw [this]; exact hz.1)
        have ndk : (kvs.map (·.1)).Nodup := by rw [d4]; exact hz.2
        obtain ⟨p1, p2⟩ := put_val k rz kvs es ndk ra6
        rw [d4] at p1 p2
        refine ⟨kvs, k, hkk, y1, hl6, V6, e7, _, _, putK kvs k vv, adv_grow a10 hD0 y2 nO ok.tabs, adv_grow a11 hD0 y2 ?_ ok.tabs, x1.trans a9.ex, y2, nO, upd_same, p1, p2, clean, g10⟩
        exact fun w => nO (own_orig clean w)
      · cases g10
    | false =>
      rw [if_neg Bool.false_ne_true]
      rw [if_neg Bool.false_ne_true] at g3
      simp only [Option.bind_eq_some_iff] at g3
      obtain ⟨e6, g6, g7⟩ := g3
      have a8 := back V4 H4 e4 e6 a5 g6
      obtain ⟨y1, y2⟩ := adv_hid a8 d3 d1 d2
      have a9 := b.trans a8
      have nO : ¬ Own e6 (wipe σ vs) Dl := fun w => by
        rcases a8.own Dl w with m | m
        · exact d2 m
        · rw [d3] at m; cases m
      have clean := wipeN_clean g6
      exact ⟨V4, e6, ks, es, kvs, a9, adv_orig a9 clean, x1.trans a8.ex, y2, nO, y1, d4, RA.mono a8.ex _ _ d5, clean, g7⟩
  · rintro H1 ⟨V1, env1, ks, es, kvs, b, b', x, d1, d2, d3, d4, d5, d6, hl⟩
    rw [hn, List.drop_length] at hl
    cases hl
    exact q _ V1 H1 b' ⟨Dl, rfl, .inl hD0, d1, fun w => d2 (own_orig d6 w), kvs, d3, d4, d5⟩
end
def IW (X : Cx) (tg e : Expr) (f : ItF) : Prop := ∃ t, PI X tg e t ∧ SdW X.K t f
section
variable {X : Cx} {k : Nat} {a b e l tg elt iter kx vx o : Expr} {es ifs : List Expr} {pos p p2 : Pos} {fa fb f g h : EvF} {fs : EvA} {x : Str} {vs : List Nat} {st : Stmt} {rest : List Stmt} {sf : StF}
theorem stBef (vs : List Nat) (h : StD X st sf) : StD X st (iBef vs sf) := let ⟨_, h1, k1⟩ := h; ⟨_, h1, sds_bef k1⟩
theorem stAft (vs : List Nat) (h : StD X st sf) : StD X st (iAft vs sf) := let ⟨_, h1, k1⟩ := h; ⟨_, h1, sds_aft k1⟩
theorem bdAft (vs : List Nat) (h : BD X rest sf) : BD X rest (iAft vs sf) := let ⟨_, h1, k1⟩ := h; ⟨_, h1, sds_aft k1⟩
theorem pdAlt (h : PD X e f) (k : PD X e g) : PD X e (iAlt f g) := by
  obtain ⟨t, h1, h2⟩ := h
  obtain ⟨u, k1, k2⟩ := k
  exact ⟨tEither t u, ⟨fun pins s σ H Q I q => q.elim (h1.run pins s σ H Q I) (k1.run pins s σ H Q I)⟩, sd_alt h2 k2⟩
theorem iwSeq (he : PD X e f) : IW X tg e (iSeqI f) := let ⟨_, h1, k1⟩ := he; ⟨_, pi_sq h1, sdw_seq k1⟩
theorem iwRev (hg : Gl X "reversed") (hm : X.mg "reversed" = none) (he : PD X e f) (hs : starEach [e] X.env = (false, eval e X.env) :: starEach [] X.env := by rfl) : IW X tg (.Call (.Name "reversed" p) [e] [] pos) (iRevI f) :=
  let ⟨_, h1, k1⟩ := he; ⟨_, RT.pi_revA hg hm h1 hs, sdw_rev k1⟩
theorem IW.d {it : ItF} (h : IW X tg e it) : ID X tg e it := let ⟨_, h1, k1⟩ := h; ⟨_, h1, k1.i⟩
theorem pdDSet (n : Nat) {apos cpos p : Pos} (hi : PD X e g) (hf : PD X o f) (hN : X.N[n]? = some x := by rfl) (hv : Vis X.env.scope x := by first | exact Or.inl rfl | exact Or.inr (Or.inl rfl) | exact Or.inr (Or.inr rfl)) (hd : (x == ("__debug__" : Str)) = false := by decide) (hcd : (x == ("__classdict__" : Str)) = false := by decide)
    (m : M2 X (.Name x p) "setdefault" apos e o cpos := by exact ⟨by rfl, by rfl, by rfl, by rfl⟩) : PD X (.Call (.Attribute (.Name x p) "setdefault" apos) [e, o] [] cpos) (iDSet n g f) :=
  let ⟨_, g1, k1⟩ := hi; let ⟨_, g2, k2⟩ := hf
  ⟨_, pe_dsetd (pe_var hN hv hd hcd) g1 g2 m, sd_dset k1 k2⟩
theorem bListU (hc : X.calm = true) (m : X.mg "list" = none) (hg : Gl X "list") (ha : AD X [e] fs) (he : starEach [e] X.env = (false, eval e X.env) :: starEach [] X.env := by rfl) : PD X (.Call (.Name "list" p) [e] [] pos) (iCB (altC (c1 gList) (c1 gListD)) fs) :=
  pdBT (callOr call_list_of (call_listD hc)) (callOkOr call_list_ok call_listD_ok) hg m boot_list ha (by decide) (by decide) he
theorem pdDIn {k : Nat} (hr : Room k X.A) (hm : behindInMarks .In b = false) (hb : PD X a g) (ha : PD X b f) : PD X (.Compare a [.In] [b] pos) (iDIn false g f) :=
  let ⟨_, g1, k1⟩ := hb; let ⟨_, g2, k2⟩ := ha; ⟨_, pe_cmp (pc_din (hu_of hr) g1 g2) hm, (sd_din k1 k2).1⟩
theorem pdDNotIn {k : Nat} (hr : Room k X.A) (hm : behindInMarks .NotIn b = false) (hb : PD X a g) (ha : PD X b f) : PD X (.Compare a [.NotIn] [b] pos) (iDIn true g f) :=
  let ⟨_, g1, k1⟩ := hb; let ⟨_, g2, k2⟩ := ha; ⟨_, pe_cmp (pc_dnotin (hu_of hr) g1 g2) hm, (sd_din k1 k2).2⟩
end
end DL

/-! Dict comprehensions in the generator's words; enumerate of a list or a tuple. -/
namespace DL
open PySem PySem.Spec PyProof.Rows L2
open Evl (Ex)
section
variable {X : Cx}
theorem ps_setDc {i : Nat} {y : Str} {py : Pos} {kx vx tg iter : Expr} {ifs : List Expr} {scope : Scope} {own : List (Str × Nat)} {pos spos : Pos} {wi : TI} {g : TG} {tt : TT} {tk tv : TE} (hc : X.calm = true) (hN : X.N.Nodup) (hy : X.N[i]? = some y) (hyl : X.env.scope.names.lookup y = some .local)
    (hsw : swapsWith (.DictComp kx vx [⟨tg, iter, ifs, 0⟩] scope pos) (some (.Name y py)) spos.line X.env = pure true) (hi : PI X tg iter wi) (ok : BlkOk X.N X.env.scope scope own)
    (hg : ∀ (s : Shared) (H : Hp) (C : Addr) (cl : List (Str × Addr)) (fp : List Addr), PG (X.blk s H scope (compEnvC scope cl C X.env) fp) tg g) (ht : ∀ (s : Shared) (H : Hp) (C : Addr) (cl : List (Str × Addr)) (fp : List Addr), PTs (X.blk s H scope (compEnvC scope cl C X.env) fp) ifs tt)
    (hk : ∀ (s : Shared) (H : Hp) (C : Addr) (cl : List (Str × Addr)) (fp : List Addr), PE (X.blk s H scope (compEnvC scope cl C X.env) fp) kx tk)
    (he : ∀ (s : Shared) (H : Hp) (C : Addr) (cl : List (Str × Addr)) (fp : List Addr), PE (X.blk s H scope (compEnvC scope cl C X.env) fp) vx tv) (hs : ∀ x, foldedSetIterable iter X.env x = pure x := by intro _; rfl) :
    PS X (.Assign [.Name y py] (.DictComp kx vx [⟨tg, iter, ifs, 0⟩] scope pos) spos) (tAsg (tDc wi g tt tk tv (own.map (·.2))) (gName i)) := by
  refine ⟨fun pins s σ H D I h => ?_⟩
  rw [exec_Assign_Name_used _ _ _ _ hsw]
  refine wpAny_bind (wpAny_standAt (wpAny_bind ?_))
  show wpAny _ X.A (do let _ ← comprehension (.DictComp kx vx [⟨tg, iter, ifs, 0⟩] scope pos) scope X.env (firstIterPos [⟨tg, iter, ifs, 0⟩] pos) newDict false (eval iter X.env) (some (assign (.Name y py) X.env))) _ _ s
  have h : tDc wi g tt tk tv (own.map (·.2)) σ H (fun x H1 => gName i x σ H1 D.nx) := h
  refine wpAny_bind (thn (dc_core (Qf := fun _ s' => SP X pins D .next s') hc hN I hi ok hg ht hk he hs h fun L C s' m H' I' q hn f => ?_) fun _ s' hq => wpAny_pure (wpAny_pure hq))
  show wpAny _ _ (assign (.Name y py) X.env (.ref L)) _ _ _
  refine wpAny_assign_Name (store_ok2 (v := V.ref L) I' hN hy (.inl hyl) rfl (fun s2 I2 ⟨a, sb, ha⟩ => ?_) (.inr hyl))
  obtain ⟨f0, f1, f2, f3, f4, f5⟩ := f
  have haC : C ≠ a := by
    rcases ha with z | z
    · rw [z]; exact f1
    · exact fun e => f4 y a z e.symm
  refine ⟨m, hn.sameBut sb haC, fun h3 sb3 => ?_⟩
  exact ⟨_, H', I2.turned (t' := s2.toks) (fun b o hb e => (sb3.2 b hb).trans e) f0 f1 f3 f4 f5, q⟩
theorem sw_trueD {kx vx : Expr} {gs : List Comprehension} {scope : Scope} {pos py : Pos} {y : Str} {l : Nat} {env : Env} (hk : env.scope.kind = .function) (hy : env.scope.names.lookup y = some .local) (hl : (py.line == pos.line) = true)
    (ha : (scope.names.any fun (n, k) => n == y && (k == .local || k == .cell)) = false) : swapsWith (.DictComp kx vx gs scope pos) (some (.Name y py)) l env = pure true := by
  have ky : env.kindOf y = some .local := hy
  have hb : env.blockKind = .function := by unfold Env.blockKind; rw [hk]; rfl
  unfold swapsWith
  simp only [hb, ky, ha, Expr.pos, hl]
  rfl
end
section
variable {K : PySem.W.Frag} {σ σ1 : L2.St} {env env1 env2 : Nv} {V H V1 H1 V2 H2 : Hp} {v : L2.V} {te ta tb ti td ty tx tv : TE} {t u : TS} {f g : StF}
theorem wk_enumT {a : Addr} {xs : List L2.V} {ds : List D} (hs : SqT K V a xs) (r : RA K V xs ds) : WkOk K (IteT K a) V (enumD ds) := by
  refine ⟨xs.length, _, _, by rw [enumD_len]; exact r.len, walk_enumT, fun V1 H1 e1 e2 => Evl.ex_t (e1.trans e2) hs, ?_⟩
  rintro i d V1 H1 x H' hd e1 e2 ⟨T, z, u, rfl, hT, rfl, hz, hu⟩
  cases hz
  obtain ⟨d', h1, h2⟩ := r.getV hu
  rw [enumD_get, h1] at hd
  cases hd
  obtain ⟨b, rb⟩ := pair_new (i := i) e2 hT (R.mono e1 _ _ h2)
  exact ⟨_, b, rb⟩
theorem wk_enum {a : Addr} {xs : List L2.V} {ds : List D} (hs : SqL K V a xs) (r : RA K V xs ds) : WkOk K (Ite K a) V (enumD ds) := by
  refine ⟨xs.length, _, _, by rw [enumD_len]; exact r.len, walk_enum, fun V1 H1 e1 e2 => Evl.ex_l (e1.trans e2) hs, ?_⟩
  rintro i d V1 H1 x H' hd e1 e2 ⟨T, z, u, rfl, hT, rfl, hz, hu⟩
  cases hz
  obtain ⟨d', h1, h2⟩ := r.getV hu
  rw [enumD_get, h1] at hd
  cases hd
  obtain ⟨b, rb⟩ := pair_new (i := i) e2 hT (R.mono e1 _ _ h2)
  exact ⟨_, b, rb⟩
def iEnumU (fs : EvA) : ItF := fun env => (fs env).bind fun p => match p.1 with
  | [.val (.tuple ds)] => some (enumD ds, p.2)
  | [.val (.list ds)] => some (enumD ds, p.2)
  | _ => none
theorem sdw_enumU {t : TA} {fs : EvA} (ha : SdA K t fs) : SdW K (iOr2 (iEnum K t) (iEnumT K t)) (iEnumU fs) := by
  intro env ds env' e σ V H ok Rr q
  simp only [iEnumU, Option.bind_eq_some_iff] at e
  obtain ⟨⟨r, e1⟩, h1, h3⟩ := e
  have r2 : ∃ es, (r = [.val (.tuple es)] ∨ r = [.val (.list es)]) ∧ ds = enumD es ∧ env' = e1 := by
    split at h3
    · rename_i es hn
      cases h3
      exact ⟨es, .inl hn, rfl, rfl⟩
    · rename_i es hn
      cases h3
      exact ⟨es, .inr hn, rfl, rfl⟩
    · cases h3
  obtain ⟨es, hr, rfl, rfl⟩ := r2
  rcases hr with rfl | rfl
  · refine .inr (ha _ _ _ h1 σ V H ok _ fun vs V' H' a k => ?_)
    cases k with
    | @cons v0 _ _ _ k1 k2 =>
      cases k2
      have k1' : R K V' v0 (.tuple es) := k1
      cases k1' with
      | @tuple b zs _ w4 w5 => exact ⟨b, zs, rfl, Evl.ex_t a.ok.sub w4.sq, q _ V' H' a (wk_enumT w4.sq w5)⟩
  · refine .inl (ha _ _ _ h1 σ V H ok _ fun vs V' H' a k => ?_)
    cases k with
    | @cons v0 _ _ _ k1 k2 =>
      cases k2
      have k1' : R K V' v0 (.list es) := k1
      cases k1' with
      | @list b zs _ w4 w5 => exact ⟨b, zs, rfl, Evl.ex_l a.ok.sub w4, q _ V' H' a (wk_enum w4 w5)⟩
end
section
variable {X : Cx} {k : Nat} {a b e l tg elt iter kx vx o : Expr} {es ifs : List Expr} {pos p p2 : Pos} {fa fb f g h : EvF} {fs : EvA} {x : Str} {vs : List Nat} {st : Stmt} {rest : List Stmt} {sf : StF}
theorem pi_or {w1 w2 : TI} (h1 : PI X tg e w1) (h2 : PI X tg e w2) : PI X tg e (iOr2 w1 w2) := ⟨fun pins s σ H R I q => q.elim (h1.run pins s σ H R I) (h2.run pins s σ H R I)⟩
theorem iwEnum {tpos : Pos} {elts : List Expr} {kk : Nat} (hg : Gl X "enumerate") (hm : X.mg "enumerate" = none) (ha : AD X [a] fs) (hs : starEach [a] X.env = [(false, eval a X.env)] := by rfl) : IW X (.Tuple elts kk tpos) (.Call (.Name "enumerate" p) [a] [] pos) (iEnumU fs) :=
  let ⟨_, h1, k1⟩ := ha; ⟨_, pi_or (pi_enum hg hm h1 hs) (pi_enumT hg hm h1 hs), sdw_enumU k1⟩
theorem pdDc {scope : Scope} {own : List (Str × Nat)} {it : ItF} {g : TgF} {fc : EvT} {fk fv : EvF} (hc : X.calm = true) (nd : X.N.Nodup) (hi : IW X tg iter it) (ok : BlkOk X.N X.env.scope scope own)
    (hg : ∀ (s : Shared) (H : Hp) (C : Addr) (cl : List (Str × Addr)) (fp : List Addr), GDv (X.blk s H scope (compEnvC scope cl C X.env) fp) tg g (own.map (·.2)))
    (ht : ∀ (s : Shared) (H : Hp) (C : Addr) (cl : List (Str × Addr)) (fp : List Addr), TsD (X.blk s H scope (compEnvC scope cl C X.env) fp) ifs fc)
    (hk : ∀ (s : Shared) (H : Hp) (C : Addr) (cl : List (Str × Addr)) (fp : List Addr), PD (X.blk s H scope (compEnvC scope cl C X.env) fp) kx fk)
    (hv : ∀ (s : Shared) (H : Hp) (C : Addr) (cl : List (Str × Addr)) (fp : List Addr), PD (X.blk s H scope (compEnvC scope cl C X.env) fp) vx fv) (hs : ∀ x, foldedSetIterable iter X.env x = pure x := by intro _; rfl) :
    PD X (.DictComp kx vx [⟨tg, iter, ifs, 0⟩] scope pos) (iDc it g fc fk fv (own.map (·.2))) :=
  let ⟨_, h0, k0⟩ := hi
  ⟨_, pe_dc (tk := cE X.K fk) (tv := cE X.K fv) (tt := cT X.K fc) (g := cG X.K g (own.map (·.2))) hc nd h0 ok (fun s H C cl fp => (hg s H C cl fp).canon) (fun s H C cl fp => (ht s H C cl fp).canon) (fun s H C cl fp => (hk s H C cl fp).canon) (fun s H C cl fp => (hv s H C cl fp).canon) hs, sd_dc k0 cG_sd cT_sd cE_sd cE_sd⟩
theorem stAsgDc {scope : Scope} {own : List (Str × Nat)} {it : ItF} {g : TgF} {fc : EvT} {fk fv : EvF} {py spos : Pos} (ow : Bool) (i : Nat) (hc : X.calm = true) (nd : X.N.Nodup) (hy : X.N[i]? = some x) (hyl : X.env.scope.names.lookup x = some .local)
    (hsw : swapsWith (.DictComp kx vx [⟨tg, iter, ifs, 0⟩] scope pos) (some (.Name x py)) spos.line X.env = pure true) (hi : IW X tg iter it) (ok : BlkOk X.N X.env.scope scope own)
    (hg : ∀ (s : Shared) (H : Hp) (C : Addr) (cl : List (Str × Addr)) (fp : List Addr), GDv (X.blk s H scope (compEnvC scope cl C X.env) fp) tg g (own.map (·.2)))
    (ht : ∀ (s : Shared) (H : Hp) (C : Addr) (cl : List (Str × Addr)) (fp : List Addr), TsD (X.blk s H scope (compEnvC scope cl C X.env) fp) ifs fc)
    (hk : ∀ (s : Shared) (H : Hp) (C : Addr) (cl : List (Str × Addr)) (fp : List Addr), PD (X.blk s H scope (compEnvC scope cl C X.env) fp) kx fk)
    (hv : ∀ (s : Shared) (H : Hp) (C : Addr) (cl : List (Str × Addr)) (fp : List Addr), PD (X.blk s H scope (compEnvC scope cl C X.env) fp) vx fv) (hs : ∀ x, foldedSetIterable iter X.env x = pure x := by intro _; rfl) :
    StD X (.Assign [.Name x py] (.DictComp kx vx [⟨tg, iter, ifs, 0⟩] scope pos) spos) (iAsg ow i (iDc it g fc fk fv (own.map (·.2)))) :=
  let ⟨_, h0, k0⟩ := hi
  ⟨_, ps_setDc (tk := cE X.K fk) (tv := cE X.K fv) (tt := cT X.K fc) (g := cG X.K g (own.map (·.2))) hc nd hy hyl hsw h0 ok (fun s H C cl fp => (hg s H C cl fp).canon) (fun s H C cl fp => (ht s H C cl fp).canon) (fun s H C cl fp => (hk s H C cl fp).canon) (fun s H C cl fp => (hv s H C cl fp).canon) hs, sds_asg (sd_dc k0 cG_sd cT_sd cE_sd cE_sd)⟩
end
end DL

/-! What simp evaluates bodies with. -/
namespace DL
open PySem L2
section
variable {env e : Nv} {f g fa fb fc : EvF} {fs : EvA} {c t : EvT} {s u : StF} {d d' : D} {r : Res} {i j n : Nat} {o : Option Fl} {vs : List Nat} {it : ItF} {tg : TgF}
def sqF (o : Option Fl) (g : StF) : Option Fl := match o with
  | some (.next e) => g e
  | r => r
theorem iSeq_ev : iSeq s u env = sqF (s env) u := rfl
theorem sq_next : sqF (some (.next e)) u = u e := rfl
theorem sq_ret : sqF (some (.ret r e)) u = some (.ret r e) := rfl
theorem sq_brk : sqF (some (.brk e)) u = some (.brk e) := rfl
theorem sq_cont : sqF (some (.cont e)) u = some (.cont e) := rfl
theorem sq_none : sqF none u = none := rfl
theorem sq_ite {p : Prop} [Decidable p] {a b : Option Fl} : sqF (if p then a else b) u = if p then sqF a u else sqF b u := by split <;> rfl
theorem iNext_ev : iNext env = some (.next env) := rfl
def asF (ow : Bool) (i : Nat) (o : Option (Res × Nv)) : Option Fl := match o with
  | some (.val d, e) => (setV e i (.val d)).map .next
  | some (.new d, e) => (setV e i (if ow then .own false d else .val d)).map .next
  | _ => none
theorem iAsg_ev {ow : Bool} : iAsg ow i f env = asF ow i (f env) := by
  unfold iAsg asF
  cases f env with
  | none => rfl
  | some p =>
    obtain ⟨r, e⟩ := p
    cases r with
    | val d => simp only [Option.bind_some]; cases setV e i (.val d) <;> rfl
    | new d => simp only [Option.bind_some]; cases setV e i (if ow then Sl.own false d else .val d) <;> rfl
    | own _ => rfl
theorem as_val {ow : Bool} : asF ow i (some (.val d, e)) = (setV e i (.val d)).map .next := rfl
theorem as_new_t : asF true i (some (.new d, e)) = (setV e i (.own false d)).map .next := rfl
theorem as_new_f : asF false i (some (.new d, e)) = (setV e i (.val d)).map .next := rfl
def setF (o : Option Sl) (env : Nv) (i : Nat) (s : Sl) : Option Nv := match o with
  | none => none
  | some (.own true _) => none
  | some _ => some (env.set i s)
theorem setV_ev {s : Sl} : setV env i s = setF env[i]? env i s := rfl
theorem set_no {s : Sl} : setF (some .no) env i s = some (env.set i s) := rfl
theorem set_val {s : Sl} : setF (some (.val d)) env i s = some (env.set i s) := rfl
theorem set_own {s : Sl} : setF (some (.own false d)) env i s = some (env.set i s) := rfl
def vaF (o : Option Sl) (n : Nat) (env : Nv) : Option (Res × Nv) := match o with
  | some (.val d) => some (.val d, env)
  | some (.own _ _) => some (.own n, env)
  | _ => none
theorem iVar_ev : iVar n env = vaF env[n]? n env := rfl
theorem va_val : vaF (some (.val d)) n env = some (.val d, env) := rfl
theorem va_own {p : Bool} : vaF (some (.own p d)) n env = some (.own n, env) := rfl
def loF (o : Option Sl) : Option D := match o with
  | some (.own _ d) => some d
  | _ => none
theorem look_ev : look env (.own n) = loF env[n]? := rfl
theorem lo_own {p : Bool} : loF (some (.own p d)) = some d := rfl
theorem iIfS_ev : iIfS c s u env = (c env).bind fun p => if p.1 = true then s p.2 else u p.2 := rfl
def retF (o : Option (Res × Nv)) : Option Fl := match o with
  | some (.val d, e) => some (.ret (.val d) e)
  | some (.new d, e) => some (.ret (.new d) e)
  | some (.own i, e) => match e[i]? with
    | some (.own false d) => some (.ret (.new d) (e.set i .no))
    | _ => none
  | none => none
theorem iRet_ev : iRet f env = retF (f env) := by
  unfold iRet retF
  cases f env with
  | none => rfl
  | some p =>
    obtain ⟨r, e⟩ := p
    cases r <;> rfl
theorem ret_val' : retF (some (.val d, e)) = some (.ret (.val d) e) := rfl
theorem ret_new' : retF (some (.new d, e)) = some (.ret (.new d) e) := rfl
def roF (o : Option Sl) (i : Nat) (e : Nv) : Option Fl := match o with
  | some (.own false d) => some (.ret (.new d) (e.set i .no))
  | _ => none
theorem ret_own' : retF (some (.own i, e)) = roF e[i]? i e := rfl
theorem ro_own : roF (some (.own false d)) i e = some (.ret (.new d) (e.set i .no)) := rfl
theorem iRetN_ev : iRetN env = some (.ret (.val .none) env) := rfl
theorem iDrop_ev : iDrop f env = (f env).bind fun p => some (.next p.2) := rfl
theorem iBrk_ev : iBrk env = some (.brk env) := rfl
theorem iCont_ev : iCont env = some (.cont env) := rfl
theorem iBef_ev : iBef vs s env = (wipeN env vs).bind s := rfl
theorem iAft_ev : iAft vs s env = (s env).bind (wfl vs) := rfl
theorem wfl_next : wfl vs (.next e) = (wipeN e vs).map .next := rfl
theorem wfl_cont : wfl vs (.cont e) = (wipeN e vs).map .cont := rfl
theorem wfl_brk : wfl vs (.brk e) = (wipeN e vs).map .brk := rfl
theorem wfl_ret : wfl vs (.ret r e) = some (.ret r e) := rfl
def wpF (o : Option Sl) (i : Nat) (e : Nv) : Option Nv := match o with
  | some (.own true _) => none
  | some _ => some (e.set i .no)
  | none => none
theorem wipe_nil : wipeN env [] = some env := rfl
theorem wipe_cons : wipeN env (i :: vs) = (wipeN env vs).bind fun e => wpF e[i]? i e := rfl
theorem wp_no : wpF (some .no) i e = some (e.set i .no) := rfl
theorem wp_val : wpF (some (.val d)) i e = some (e.set i .no) := rfl
theorem wp_own : wpF (some (.own false d)) i e = some (e.set i .no) := rfl
theorem iFor_ev : iFor it tg s env = (it env).bind fun p => floop tg s p.1 p.2 := rfl
theorem iNm_ev : iNm i env d = setV env i (.val d) := rfl
theorem iGT_tup {gs : TgsF} {ds : List D} : iGT gs n env (.tuple ds) = if ds.length = n then gs env ds else none := rfl
theorem iGT_list {gs : TgsF} {ds : List D} : iGT gs n env (.list ds) = if ds.length = n then gs env ds else none := rfl
theorem iGN_ev : iGN env [] = some env := rfl
theorem iGC_ev {gs : TgsF} {ds : List D} : iGC tg gs env (d :: ds) = (tg env d).bind fun e => gs e ds := rfl
theorem iAsgT_ev : iAsgT tg f env = (opd f env).bind fun p => (vis p.1).bind fun d => (tg p.2 d).bind fun e => some (.next e) := rfl
theorem iCall_ev {g : Fn} : iCall g fs env = (fs env).bind fun p => (slsOf p.2 p.1).bind fun ss => if dupFree p.1 = true then (g ss).bind fun q => if notOwnR q.1 = true then some (q.1, back p.1 q.2 p.2) else none else none := rfl
theorem sls_nil : slsOf env [] = some [] := rfl
theorem sls_val {rs : List Res} : slsOf env (.val d :: rs) = (slsOf env rs).bind fun ss => some (.val d :: ss) := rfl
theorem sls_own {rs : List Res} : slsOf env (.own i :: rs) = (look env (.own i)).bind fun d => (slsOf env rs).bind fun ss => some (.own true d :: ss) := rfl
theorem dup_nil : dupFree [] = true := rfl
theorem dup_val {rs : List Res} : dupFree (.val d :: rs) = dupFree rs := rfl
theorem dup_own {rs : List Res} : dupFree (.own i :: rs) = (!has i rs && dupFree rs) := rfl
theorem has_nil : has i [] = false := rfl
theorem has_val {rs : List Res} : has i (.val d :: rs) = has i rs := rfl
theorem has_own {rs : List Res} : has i (.own j :: rs) = (j == i || has i rs) := rfl
theorem now_val : notOwnR (.val d) = true := rfl
theorem now_new : notOwnR (.new d) = true := rfl
theorem back_ev {rs : List Res} {ss : List Sl} : back rs ss env = backGo rs ss 0 env := rfl
theorem bg_nil {rs : List Res} {ss : List Sl} : backGo rs ss i [] = [] := rfl
theorem bg_cons {rs : List Res} {ss : List Sl} {s : Sl} : backGo rs ss i (s :: env) = backS rs ss i s :: backGo rs ss (i + 1) env := rfl
theorem bs_no {rs : List Res} {ss : List Sl} : backS rs ss i .no = .no := rfl
theorem bs_val {rs : List Res} {ss : List Sl} : backS rs ss i (.val d) = .val d := rfl
def bsF (o : Option D) (p : Bool) (d : D) : Sl := match o with
  | some d' => .own p d'
  | none => .own p d
theorem bs_own {rs : List Res} {ss : List Sl} {p : Bool} : backS rs ss i (.own p d) = bsF (back1 i rs ss) p d := rfl
theorem bsf_some {p : Bool} : bsF (some d') p d = .own p d' := rfl
theorem bsf_none {p : Bool} : bsF none p d = .own p d := rfl
theorem b1_nil {ss : List Sl} : back1 i [] ss = none := by cases ss <;> rfl
theorem b1_val {rs : List Res} {s : Sl} {ss : List Sl} : back1 i (.val d :: rs) (s :: ss) = back1 i rs ss := rfl
theorem b1_own {rs : List Res} {p : Bool} {ss : List Sl} : back1 i (.own j :: rs) (.own p d :: ss) = if j = i then some d else back1 i rs ss := rfl
/-! containers of its own -/
def ap1 (o : Option Sl) (k : Option Fl) : Option Fl := match o with
  | some (.own _ (.list _)) => k
  | _ => none
def ap1E (o : Option Sl) (k : Option (Res × Nv)) : Option (Res × Nv) := match o with
  | some (.own _ (.list _)) => k
  | _ => none
theorem ap1_list {p : Bool} {ds : List D} {k : Option Fl} : ap1 (some (.own p (.list ds))) k = k := rfl
def apF (o : Option Sl) (i : Nat) (d : D) (e : Nv) : Option Fl := match o with
  | some (.own q (.list ds)) => if ds.length < 100000 then some (.next (e.set i (.own q (.list (ds ++ [d]))))) else none
  | _ => none
theorem apF_list {p : Bool} {ds : List D} : apF (some (.own p (.list ds))) i d e = if ds.length < 100000 then some (.next (e.set i (.own p (.list (ds ++ [d]))))) else none := rfl
theorem iApp_ev : iApp i f env = ap1 env[i]? ((opd f env).bind fun p => (vis p.1).bind fun d => apF p.2[i]? i d p.2) := by
  unfold iApp ap1
  rcases env[i]? with _ | (_ | _ | ⟨_, d⟩) <;> try rfl
  all_goals (cases d <;> rfl)
def exF (o : Option Sl) (i : Nat) (es : List D) (e : Nv) : Option Fl := match o with
  | some (.own q (.list ds)) => if ds.length + es.length ≤ 100000 then some (.next (e.set i (.own q (.list (ds ++ es))))) else none
  | _ => none
theorem exF_list {p : Bool} {ds es : List D} : exF (some (.own p (.list ds))) i es e = if ds.length + es.length ≤ 100000 then some (.next (e.set i (.own p (.list (ds ++ es))))) else none := rfl
def exV (r : Res) : Option (List D) := match r with
  | .new (.list es) => some es
  | .val (.tuple es) => some es
  | _ => none
theorem exV_new {es : List D} : exV (.new (.list es)) = some es := rfl
theorem exV_tup {es : List D} : exV (.val (.tuple es)) = some es := rfl
theorem iExU_ev : iExU i f env = ap1 env[i]? ((f env).bind fun p => (exV p.1).bind fun es => exF p.2[i]? i es p.2) := by
  unfold iExU ap1
  rcases env[i]? with _ | (_ | _ | ⟨_, d⟩) <;> try rfl
  cases d <;> try rfl
  dsimp only
  cases f env with
  | none => rfl
  | some p =>
    obtain ⟨r, e⟩ := p
    simp only [Option.bind_some]
    rcases r with d | d | _ <;> try rfl
    · cases d <;> rfl
    · cases d <;> rfl
def poF (o : Option Sl) (i : Nat) (e : Nv) : Option (Res × Nv) := match o with
  | some (.own q (.list ds)) => (ds[ds.length - 1]?).map fun d => (.val d, e.set i (.own q (.list ds.dropLast)))
  | _ => none
theorem iPop_ev : iPop i env = poF env[i]? i env := rfl
theorem po_snoc {p : Bool} {ds : List D} : poF (some (.own p (.list (ds ++ [d])))) i e = some (.val d, e.set i (.own p (.list ds))) := by
  unfold poF
  simp
theorem iStL_ev : iStL i g f env = (opd f env).bind fun p => (vis p.1).bind fun d => ap1 p.2[i]? ((opd g p.2).bind fun r => (isI r.1).bind fun k => (match r.2[i]? with
    | some (.own q (.list ds)) => (L2.ixN ds.length k).bind fun j => some (Fl.next (r.2.set i (.own q (.list (ds.set j d)))))
    | _ => none)) := by
  unfold iStL ap1
  cases opd f env with
  | none => rfl
  | some p =>
    simp only [Option.bind_some]
    all_goals try (
      cases vis p.1 with
      | none => rfl
      | some d =>
        simp only [Option.bind_some]
        all_goals try (rcases p.2[i]? with _ | (_ | _ | ⟨_, d⟩) <;> try rfl)
        all_goals (cases d <;> rfl))
def fzF (o : Option Sl) (i : Nat) (e : Nv) : Option Fl := match o with
  | some (.own false d) => some (.next (e.set i (.val d)))
  | some (.val _) => some (.next e)
  | _ => none
theorem iFrz_ev : iFrz i env = fzF env[i]? i env := rfl
theorem fz_own : fzF (some (.own false d)) i e = some (.next (e.set i (.val d))) := rfl
theorem fz_val : fzF (some (.val d)) i e = some (.next e) := rfl
theorem iRev_ev : iRev f env = (opd f env).bind fun p => (look p.2 p.1).bind fun d => (gRev d).bind fun z => some (z, p.2) := rfl
theorem gRev_list {ds : List D} : gRev (.list ds) = some (.new (.list ds.reverse)) := rfl
theorem gRev_tup {ds : List D} : gRev (.tuple ds) = some (.val (.tuple ds.reverse)) := rfl
/-! walks -/
theorem iSeqI_ev : iSeqI f env = (opd f env).bind fun p => (vis p.1).bind fun d => (match d with
  | .list ds => some (ds, p.2)
  | .tuple ds => some (ds, p.2)
  | _ => none) := rfl
theorem iRevI_ev : iRevI f env = (iSeqI f env).map fun p => (p.1.reverse, p.2) := rfl
theorem iEnumU_ev : iEnumU fs env = (fs env).bind fun p => (match p.1 with
  | [.val (.tuple ds)] => some (enumD ds, p.2)
  | [.val (.list ds)] => some (enumD ds, p.2)
  | _ => none) := rfl
def r1F (rs : List Res) (e : Nv) : Option (List D × Nv) := match rs with
  | [.val (.int n)] => if smR n = true then some (rngD 0 n.toNat, e) else none
  | _ => none
theorem iR1_ev : iR1 fs env = (fs env).bind fun p => r1F p.1 p.2 := rfl
theorem r1_int {k : Int} (h : smR k = true) : r1F [.val (.int k)] e = some (rngD 0 k.toNat, e) := by
  unfold r1F
  simp [h]
/-! loops over data made of a list: the slots at the head are told by a state -/
theorem fl_nil : floop tg s [] env = some (.next env) := rfl
theorem fl_cons {ds : List D} : floop tg s (d :: ds) env = (tg env d).bind fun e1 => match s e1 with
    | some (.next e2) => floop tg s ds e2
    | some (.cont e2) => floop tg s ds e2
    | some (.brk e2) => some (.next e2)
    | some (.ret r e2) => some (.ret r e2)
    | none => none := rfl
/-- one turn -/
def turn (tg : TgF) (s : StF) (env : Nv) (d : D) : Option Fl := (tg env d).bind s
theorem turn_ev : turn tg s env d = (tg env d).bind s := rfl
theorem fl_next {ds : List D} {e2 : Nv} (h : turn tg s env d = some (.next e2)) : floop tg s (d :: ds) env = floop tg s ds e2 := by
  rw [fl_cons]
  unfold turn at h
  cases q : tg env d with
  | none => rw [q] at h; cases h
  | some e1 => rw [q] at h; simp only [Option.bind_some] at h ⊢; rw [h]
theorem fl_cont {ds : List D} {e2 : Nv} (h : turn tg s env d = some (.cont e2)) : floop tg s (d :: ds) env = floop tg s ds e2 := by
  rw [fl_cons]
  unfold turn at h
  cases q : tg env d with
  | none => rw [q] at h; cases h
  | some e1 => rw [q] at h; simp only [Option.bind_some] at h ⊢; rw [h]
theorem fl_ret {ds : List D} {e2 : Nv} (h : turn tg s env d = some (.ret r e2)) : floop tg s (d :: ds) env = some (.ret r e2) := by
  rw [fl_cons]
  unfold turn at h
  cases q : tg env d with
  | none => rw [q] at h; cases h
  | some e1 => rw [q] at h; simp only [Option.bind_some] at h ⊢; rw [h]
theorem fl_brk {ds : List D} {e2 : Nv} (h : turn tg s env d = some (.brk e2)) : floop tg s (d :: ds) env = some (.next e2) := by
  rw [fl_cons]
  unfold turn at h
  cases q : tg env d with
  | none => rw [q] at h; cases h
  | some e1 => rw [q] at h; simp only [Option.bind_some] at h ⊢; rw [h]
/-- a fold: the slots are E of a state; I holds of what is left and the state -/
theorem floop_fold {α S : Type} {dn : α → D} (E : S → Nv) (step : S → α → S) (I : List α → S → Prop) (h : ∀ x xs st, I (x :: xs) st → turn tg s (E st) (dn x) = some (.next (E (step st x))) ∧ I xs (step st x)) :
    ∀ (xs : List α) (st : S), I xs st → floop tg s (xs.map dn) (E st) = some (.next (E (xs.foldl step st))) ∧ I [] (xs.foldl step st)
  | [], st, hI => ⟨rfl, hI⟩
  | x :: xs, st, hI => by
    obtain ⟨h1, h2⟩ := h x xs st hI
    rw [List.map_cons, fl_next h1, List.foldl_cons]
    exact floop_fold E step I h xs _ h2
/-- any loop that goes through, by an invariant -/
theorem floop_inv {α : Type} {dn : α → D} (I : List α → Nv → Prop) (h : ∀ x xs e, I (x :: xs) e → ∃ e2, (turn tg s e (dn x) = some (.next e2) ∨ turn tg s e (dn x) = some (.cont e2)) ∧ I xs e2) :
    ∀ (xs : List α) (e : Nv), I xs e → ∃ e2, floop tg s (xs.map dn) e = some (.next e2) ∧ I [] e2
  | [], e, hI => ⟨e, rfl, hI⟩
  | x :: xs, e, hI => by
    obtain ⟨e2, h1, h2⟩ := h x xs e hI
    obtain ⟨e3, h3, h4⟩ := floop_inv I h xs e2 h2
    refine ⟨e3, ?_, h4⟩
    rcases h1 with h1 | h1
    · rw [List.map_cons, fl_next h1, h3]
    · rw [List.map_cons, fl_cont h1, h3]
/-- a search: the slots stay as they were till it returns -/
theorem floop_find {α : Type} {dn : α → D} {E : Nv} (p : α → Bool) (rr : α → Res) (ee : α → Nv) (xs : List α) (h : ∀ x ∈ xs, turn tg s E (dn x) = if p x = true then some (.ret (rr x) (ee x)) else some (.next E)) :
    floop tg s (xs.map dn) E = match xs.find? p with
      | some x => some (.ret (rr x) (ee x))
      | none => some (.next E) := by
  induction xs with
  | nil => rfl
  | cons x xs ih =>
    have h1 := h x List.mem_cons_self
    rw [List.map_cons, List.find?_cons]
    by_cases q : p x = true
    · rw [if_pos q] at h1
      rw [fl_ret h1, q]
    · rw [if_neg q] at h1
      have q' : p x = false := by simpa using q
      rw [fl_next h1, q', ih fun y hy => h y (List.mem_cons_of_mem _ hy)]
theorem rngD_map (lo : Int) (n : Nat) : rngD lo n = (List.range n).map fun (k : Nat) => D.int (lo + (k : Int)) := rfl
/-- a range in which nothing is read -/
theorem floop_rng {E : Nat → Nv} {lo : Int} {n : Nat} (h : ∀ k, k < n → turn tg s (E k) (.int (lo + (k : Int))) = some (.next (E (k + 1)))) : floop tg s (rngD lo n) (E 0) = some (.next (E n)) := by
  have go : ∀ m k, k + m = n → floop tg s ((List.range' k m).map fun (k : Nat) => D.int (lo + (k : Int))) (E k) = some (.next (E n)) := by
    intro m
    induction m with
    | zero => intro k hk; rw [Nat.add_zero] at hk; subst hk; rfl
    | succ m ih =>
      intro k hk
      rw [List.range'_succ, List.map_cons, fl_next (h k (by omega))]
      exact ih (k + 1) (by omega)
  rw [rngD_map, List.range_eq_range']
  exact go n 0 (Nat.zero_add n)
/-- a while by a measure -/
theorem wl_false {n : Nat} (h : c env = some (false, e)) (hn : 0 < n) : wloop c s n env = some (.next e) := by
  obtain ⟨m, rfl⟩ : ∃ m, n = m + 1 := ⟨n - 1, by omega⟩
  unfold wloop
  rw [h]
  rfl
theorem wl_true {n : Nat} {e1 e2 : Nv} (h : c env = some (true, e1)) (hs : s e1 = some (.next e2)) : wloop c s (n + 1) env = wloop c s n e2 := by
  conv => lhs; unfold wloop
  rw [h]
  simp only [Option.bind_some, if_true, hs]
theorem wl_ret {n : Nat} {e1 e2 : Nv} (h : c env = some (true, e1)) (hs : s e1 = some (.ret r e2)) : wloop c s (n + 1) env = some (.ret r e2) := by
  conv => lhs; unfold wloop
  rw [h]
  simp only [Option.bind_some, if_true, hs]
theorem wl_brk {n : Nat} {e1 e2 : Nv} (h : c env = some (true, e1)) (hs : s e1 = some (.brk e2)) : wloop c s (n + 1) env = some (.next e2) := by
  conv => lhs; unfold wloop
  rw [h]
  simp only [Option.bind_some, if_true, hs]
/-! defs -/
theorem run_ret {n N : Nat} {g : StF} {sls o : List Sl} {e : Nv} (h : g (sls ++ List.replicate (N - n) .no) = some (.ret r e)) (ho : outs sls e = some o) (hr : notOwnR r = true := by rfl) (hn : sls.length = n := by rfl) (h2 : n ≤ N := by decide) (hp : parOnly sls = true := by rfl) : runDef n N g sls = some (r, o) := by
  unfold runDef
  rw [if_pos ⟨hn, h2, hp⟩, h]
  simp [hr, ho]
theorem run_next {n N : Nat} {g : StF} {sls o : List Sl} {e : Nv} (h : g (sls ++ List.replicate (N - n) .no) = some (.next e)) (ho : outs sls e = some o) (hn : sls.length = n := by rfl) (h2 : n ≤ N := by decide) (hp : parOnly sls = true := by rfl) : runDef n N g sls = some (.val .none, o) := by
  unfold runDef
  rw [if_pos ⟨hn, h2, hp⟩, h]
  simp [ho]
theorem seq_ex {W : Option Fl → Prop} (P : Nv → Prop) (h : ∃ e, s env = some (.next e) ∧ P e) (k : ∀ e, P e → W (u e)) : W (iSeq s u env) := by
  obtain ⟨e, h1, h2⟩ := h
  rw [iSeq_next h1]
  exact k e h2
theorem ncast {n : Nat} : ((no_index (OfNat.ofNat n) : Nat) : Int) = OfNat.ofNat n := rfl
theorem at0 {α : Type} {a : α} {xs : List α} : L2.atI (a :: xs) 0 = some a := atI_nat (j := 0) rfl
theorem at1 {α : Type} {a b : α} {xs : List α} : L2.atI (a :: b :: xs) 1 = some b := atI_nat (j := 1) rfl
theorem at2 {α : Type} {a b c : α} {xs : List α} : L2.atI (a :: b :: c :: xs) 2 = some c := atI_nat (j := 2) rfl
theorem ix0 {n : Nat} : L2.ixN (n + 1) 0 = some 0 := by
  unfold L2.ixN
  simp
theorem ix1 {n : Nat} : L2.ixN (n + 2) 1 = some 1 := by
  unfold L2.ixN
  simp
  omega
theorem ix2 {n : Nat} : L2.ixN (n + 3) 2 = some 2 := by
  unfold L2.ixN
  simp
  omega
end
end DL

/-! list(zip(t, u)) of two tuples. -/
namespace DZ
open PySem PySem.Spec PyProof.Rows L2 RZ
theorem zip_no_len : typeLookup (.type "zip") "__len__" = pure none := by rw [typeLookup_type, builtinLookup_eq_fast]; kernel_rfl
theorem zip_no_hint : typeLookup (.type "zip") "__length_hint__" = pure none := by rw [typeLookup_type, builtinLookup_eq_fast]; kernel_rfl
section
variable {prog : Program} {w : World} {A : Around} {E : Value → Shared → Prop} {s : Shared} {z TI TO T i1 i2 l1 l2 : Addr} {xs ys : Array Value} {x y : Value} {k : Nat} {f : Bool} {oT : Obj}
theorem held_item {Q : Value → Shared → Prop} (D : ZipApart z TI TO i1 i2 l1 l2) (zz : IsZipHeld s.heap z TI TO T f) (tt : s.heap.get? T = some oT) (ti : IsPair s.heap TI (.ref i1) (.ref i2)) (j1 : s.heap.IsTupleIter i1 l1 k) (j2 : s.heap.IsTupleIter i2 l2 k) (t1 : s.heap.IsTuple l1 xs) (t2 : s.heap.IsTuple l2 ys) (ex : xs[k]? = some x) (ey : ys[k]? = some y)
    (q : ∀ h', IsZipHeld h' z TI TO T true → h'.IsTupleIter i1 l1 (k + 1) → h'.IsTupleIter i2 l2 (k + 1) → IsPair h' s.heap.objs.size x y → h'.objs.size = s.heap.objs.size + 1 → (∀ c o, c ≠ z → c ≠ i1 → c ≠ i2 → s.heap.get? c = some o → h'.get? c = some o) → Q (.ref s.heap.objs.size) { s with heap := h' }) :
    wpAny (model prog w) A (Builtin.«zip.__next__» ⟨[.ref z], []⟩) (fun r s' => ∃ v, r = .done (.ret v) ∧ Q v s') E s := by
  show wpAny _ _ (field (Value.ref z) 2 >>= _) _ _ _; refine wpAny_bind (wpAny_field zz rfl (x := .bool false) rfl ?_)
  show wpAny _ _ (field (Value.ref z) 3 >>= _) _ _ _; refine wpAny_bind (wpAny_field zz rfl (x := .ref TI) rfl (?_))
  refine wpAny_bind (wpAny_seqItems ti rfl ?_); show wpAny _ _ (Builtin.SmallTypes.ownedTupleIsFree (.ref z) >>= _) _ _ _
  refine wpAny_bind (wpAny_tupleHeld_zip zz tt fun a1 za sa => ?_); simp only [Bool.false_eq_true, if_false]
  refine wpAny_bind ?_; rw [← Array.forIn_toList]; simp only [List.forIn_cons, List.forIn_nil]
  refine wpAny_bind (wpAny_bind (wpAny_holding ?_)); show wpAny _ _ (Builtin.SmallTypes.nextOf (.ref i1) >>= _) _ _ _
  refine wpAny_bind (nextOf_tuple_item (s := { s with heap := a1 }) (j1.extBut sa.extBut D.i1z) (t1.extBut sa.extBut D.l1z) ex fun a2 ja sb => wpAny_pure ?_); refine wpAny_pure ?_
  refine wpAny_bind (wpAny_bind (wpAny_holding ?_)); show wpAny _ _ (Builtin.SmallTypes.nextOf (.ref i2) >>= _) _ _ _
  refine wpAny_bind (nextOf_tuple_item (s := { s with heap := a2 }) ((j2.extBut sa.extBut D.i2z).extBut sb.extBut D.i12.symm) ((t2.extBut sa.extBut D.l2z).extBut sb.extBut D.l2i1) ey fun a3 jb sc => wpAny_pure ?_); refine wpAny_pure (wpAny_pure ?_)
  show wpAny _ _ (newTuple [x, y] >>= _) _ _ _; refine wpAny_bind (wpAny_newTuple ?_)
  have sz : a3.objs.size = s.heap.objs.size := by rw [sc.1, sb.1, sa.1]
  have z3 : IsZipHeld a3 z TI TO T true := sc.extBut _ _ D.i2z.symm (sb.extBut _ _ D.i1z.symm za)
  have kp : ∀ c o, c ≠ z → c ≠ i1 → c ≠ i2 → s.heap.get? c = some o → a3.get? c = some o := fun c o n1 n2 n3 e => sc.extBut _ _ n3 (sb.extBut _ _ n2 (sa.extBut _ _ n1 e))
  have ja3 : a3.IsTupleIter i1 l1 (k + 1) := ja.extBut sc.extBut D.i12
  refine wpAny_pure ⟨_, rfl, ?_⟩; show Q (.ref a3.objs.size) _
  have pp : IsPair (a3.push { cls := .type "tuple", data := .seq #[x, y] }) a3.objs.size x y := Heap.get?_push_size _ rfl
  have z4 : (a3.push { cls := .type "tuple", data := .seq #[x, y] }).objs.size = a3.objs.size + 1 := Heap.size_push ..
  rw [sz] at pp z4 ⊢
  exact q _ (Heap.get?_push_of_some _ z3) (ja3.at fun o e => Heap.get?_push_of_some _ e) (jb.at fun o e => Heap.get?_push_of_some _ e) pp z4 fun c o n1 n2 n3 e => Heap.get?_push_of_some _ (kp c o n1 n2 n3 e)
theorem held_end {Q : Fin → Shared → Prop} (hh : A.handled = none) (D : ZipApart z TI TO i1 i2 l1 l2) (zz : IsZipHeld s.heap z TI TO T f) (tt : s.heap.get? T = some oT) (ti : IsPair s.heap TI (.ref i1) (.ref i2)) (j1 : s.heap.IsTupleIter i1 l1 k) (j2 : s.heap.IsTupleIter i2 l2 k) (t1 : s.heap.IsTuple l1 xs) (t2 : s.heap.IsTuple l2 ys) (he : xs[k]? = none ∨ ys[k]? = none)
    (q : ∀ h' e, (∀ c o, c ≠ z → c ≠ i1 → c ≠ i2 → s.heap.get? c = some o → h'.get? c = some o) → (∃ o, h'.get? e = some o ∧ o.cls = .type "StopIteration") → E (.ref e) { s with heap := h' }) :
    wpAny (model prog w) A (Builtin.«zip.__next__» ⟨[.ref z], []⟩) Q E s := by
  show wpAny _ _ (field (Value.ref z) 2 >>= _) _ _ _; refine wpAny_bind (wpAny_field zz rfl (x := .bool false) rfl ?_)
  show wpAny _ _ (field (Value.ref z) 3 >>= _) _ _ _; refine wpAny_bind (wpAny_field zz rfl (x := .ref TI) rfl (?_))
  refine wpAny_bind (wpAny_seqItems ti rfl ?_); show wpAny _ _ (Builtin.SmallTypes.ownedTupleIsFree (.ref z) >>= _) _ _ _
  refine wpAny_bind (wpAny_tupleHeld_zip zz tt fun a1 za sa => ?_); simp only [Bool.false_eq_true, if_false]
  refine wpAny_bind ?_; rw [← Array.forIn_toList]; simp only [List.forIn_cons, List.forIn_nil]
  refine wpAny_bind (wpAny_bind (wpAny_holding ?_)); show wpAny _ _ (Builtin.SmallTypes.nextOf (.ref i1) >>= _) _ _ _
  cases hx : xs[k]? with
  | none =>
    refine wpAny_bind (nextOf_tuple_end (s := { s with heap := a1 }) hh (j1.extBut sa.extBut D.i1z) (t1.extBut sa.extBut D.l1z) hx fun a2 e sb o => ?_)
    exact q a2 e (fun c o n1 n2 _ e2 => sb _ _ n2 (sa.extBut _ _ n1 e2)) o
  | some x =>
    have hy : ys[k]? = none := he.elim (fun z => by rw [hx] at z; cases z) id
    refine wpAny_bind (nextOf_tuple_item (s := { s with heap := a1 }) (j1.extBut sa.extBut D.i1z) (t1.extBut sa.extBut D.l1z) hx fun a2 ja sb => wpAny_pure ?_); refine wpAny_pure ?_
    refine wpAny_bind (wpAny_bind (wpAny_holding ?_)); show wpAny _ _ (Builtin.SmallTypes.nextOf (.ref i2) >>= _) _ _ _
    refine wpAny_bind (nextOf_tuple_end (s := { s with heap := a2 }) hh ((j2.extBut sa.extBut D.i2z).extBut sb.extBut D.i12.symm) ((t2.extBut sa.extBut D.l2z).extBut sb.extBut D.l2i1) hy fun a3 e sc o => ?_)
    exact q a3 e (fun c o n1 n2 n3 e2 => sc _ _ n3 (sb.extBut _ _ n2 (sa.extBut _ _ n1 e2))) o
theorem ne_ {a b : Nat} (h : a < b ∨ b < a) : a ≠ b := by omega
theorem lt_ {a b : Nat} (h : a < b) : a < b := h
/-- a zip of two tuples, k pairs taken; what was handed out lies from N on -/
def ZSt (h : Heap) (z TI TO i1 i2 l1 l2 N k : Nat) : Prop :=
  IsPair h TI (.ref i1) (.ref i2) ∧ h.IsTupleIter i1 l1 k ∧ h.IsTupleIter i2 l2 k ∧ ((IsZip h z TI TO .none ∧ ∃ a b, IsPair h TO a b) ∨ ∃ T f oT, IsZipHeld h z TI TO T f ∧ h.get? T = some oT ∧ N ≤ T)
structure Lo (z TI TO i1 i2 l1 l2 N : Nat) : Prop where
  z : z < N
  TI : TI < N
  TO : TO < N
  i1 : i1 < N
  i2 : i2 < N
  l1 : l1 < N
  l2 : l2 < N
variable {N : Nat}
theorem ZSt.is {h : Heap} (st : ZSt h z TI TO i1 i2 l1 l2 N k) : ∃ o, h.get? z = some o ∧ o.cls = .type "zip" := by
  obtain ⟨_, _, _, ⟨q, _⟩ | ⟨_, _, _, q, _⟩⟩ := st
  · exact ⟨_, q, rfl⟩
  · exact ⟨_, q, rfl⟩
theorem next_item {Q : Option Value → Shared → Prop} (D : ZipApart z TI TO i1 i2 l1 l2) (L : Lo z TI TO i1 i2 l1 l2 N) (hN : N ≤ s.heap.objs.size) (st : ZSt s.heap z TI TO i1 i2 l1 l2 N k) (t1 : s.heap.IsTuple l1 xs) (t2 : s.heap.IsTuple l2 ys) (ex : xs[k]? = some x) (ey : ys[k]? = some y)
    (q : ∀ h', ZSt h' z TI TO i1 i2 l1 l2 N (k + 1) → IsPair h' s.heap.objs.size x y → h'.objs.size = s.heap.objs.size + 1 → (∀ c o, c ≠ z → c ≠ TO → c ≠ i1 → c ≠ i2 → s.heap.get? c = some o → h'.get? c = some o) → Q (some (.ref s.heap.objs.size)) { s with heap := h' }) :
    wpAny (model prog w) A (pyNext (.ref z)) Q E s := by
  obtain ⟨o, ho, hc⟩ := st.is
  have hTy : s.TypeIs (.ref z) "zip" := ⟨_, ho, hc⟩
  obtain ⟨ti, j1, j2, st⟩ := st
  rcases st with ⟨zz, a, b, to⟩ | ⟨T, f, oT, zz, tt, nT⟩
  · refine pyNext_zipT_item D zz ti to j1 j2 t1 t2 ex ey fun h' hz hto g1 g2 hp hs hk => ?_
    exact q h' ⟨hk _ _ D.TIz D.TITO D.TIi1 D.TIi2 ti, g1, g2, .inr ⟨s.heap.objs.size, false, _, hz, hp, hN⟩⟩ hp hs hk
  · unfold pyNext
    refine wpAny_bind (wpAny_attempt (wpAny_callSpecial?_slot (name := Str.ofString "__next__") hTy F.slot_zip_next (wpAny_call_entry F.slot_zip_next hTy F.entry_zip_next (held_item D zz tt ti j1 j2 t1 t2 ex ey fun h' hz g1 g2 hp hs hk => wpAny_pure ?_) (F.args_zip_next_1 _))))
    exact q h' ⟨hk _ _ D.TIz D.TIi1 D.TIi2 ti, g1, g2, .inr ⟨T, true, _, hz, hk _ _ (Nat.ne_of_gt (Nat.lt_of_lt_of_le L.z nT)) (Nat.ne_of_gt (Nat.lt_of_lt_of_le L.i1 nT)) (Nat.ne_of_gt (Nat.lt_of_lt_of_le L.i2 nT)) tt, nT⟩⟩ hp hs fun c o m1 _ m3 m4 e => hk c o m1 m3 m4 e
theorem next_end {Q : Option Value → Shared → Prop} (hh : A.handled = none) (D : ZipApart z TI TO i1 i2 l1 l2) (st : ZSt s.heap z TI TO i1 i2 l1 l2 N k) (t1 : s.heap.IsTuple l1 xs) (t2 : s.heap.IsTuple l2 ys) (he : xs[k]? = none ∨ ys[k]? = none)
    (q : ∀ h', (∀ c o, c ≠ z → c ≠ TO → c ≠ i1 → c ≠ i2 → s.heap.get? c = some o → h'.get? c = some o) → Q none { s with heap := h' }) : wpAny (model prog w) A (pyNext (.ref z)) Q E s := by
  obtain ⟨o, ho, hc⟩ := st.is
  have hTy : s.TypeIs (.ref z) "zip" := ⟨_, ho, hc⟩
  obtain ⟨ti, j1, j2, ⟨zz, a, b, to⟩ | ⟨T, f, oT, zz, tt, nT⟩⟩ := st
  · exact pyNext_zipT_end hh D zz ti to j1 j2 t1 t2 he q
  · unfold pyNext
    refine wpAny_bind (wpAny_attempt (wpAny_callSpecial?_slot (name := Str.ofString "__next__") hTy F.slot_zip_next (wpAny_call_entry F.slot_zip_next hTy F.entry_zip_next (held_end hh D zz tt ti j1 j2 t1 t2 he fun h' e hk o => ?_) (F.args_zip_next_1 _))))
    obtain ⟨o, ho, hc⟩ := o
    refine wpAny_bind (wpAny_isInstance (T := "StopIteration") (b := true) ⟨o, ho, hc⟩ isSubtype_stop ?_)
    exact wpAny_pure (q _ fun c o m1 _ m3 m4 e => hk c o m1 m3 m4 e)
theorem ZSt.keep {h h' : Heap} (L : Lo z TI TO i1 i2 l1 l2 N) (st : ZSt h z TI TO i1 i2 l1 l2 N k) {S : Addr} (hk : ∀ b o, b ≠ S → h.get? b = some o → h'.get? b = some o) (n1 : z ≠ S) (n2 : TI ≠ S) (n3 : TO ≠ S) (n4 : i1 ≠ S) (n5 : i2 ≠ S) (n6 : S < N) : ZSt h' z TI TO i1 i2 l1 l2 N k := by
  obtain ⟨ti, j1, j2, st⟩ := st
  refine ⟨hk _ _ n2 ti, j1.at fun o e => hk _ o n4 e, j2.at fun o e => hk _ o n5 e, ?_⟩
  rcases st with ⟨zz, a, b, to⟩ | ⟨T, f, oT, zz, tt, r⟩
  · exact .inl ⟨hk _ _ n1 zz, a, b, hk _ _ n3 to⟩
  · exact .inr ⟨T, f, oT, hk _ _ n1 zz, hk _ _ (Nat.ne_of_gt (Nat.lt_of_lt_of_le n6 r)) tt, r⟩
/-- the pairs that were made: their addresses, all from N on -/
structure Got (h : Heap) (xs ys : Array Value) (N : Nat) (ads : List Addr) : Prop where
  pr : ∀ (j : Nat) a, ads[j]? = some a → ∃ x y, xs[j]? = some x ∧ ys[j]? = some y ∧ IsPair h a x y
  low : ∀ a ∈ ads, N ≤ a
  nd : ads.Nodup
theorem Got.lt {h : Heap} {N : Nat} {ads : List Addr} (g : Got h xs ys N ads) : ∀ a ∈ ads, a < h.objs.size := fun a ha => by
  obtain ⟨j, hj⟩ := List.getElem?_of_mem ha
  obtain ⟨x, y, _, _, p⟩ := g.pr j a hj
  exact Heap.lt_size p
theorem Got.keep {h h' : Heap} {N : Nat} {ads : List Addr} (g : Got h xs ys N ads) (hk : ∀ b o, N ≤ b → h.get? b = some o → h'.get? b = some o) : Got h' xs ys N ads :=
  ⟨fun j a e => let ⟨x, y, e1, e2, p⟩ := g.pr j a e; ⟨x, y, e1, e2, hk a _ (g.low a (List.mem_of_getElem? e)) p⟩, g.low, g.nd⟩
theorem Got.snoc {h : Heap} {N T : Nat} {ads : List Addr} (g : Got h xs ys N ads) (ex : xs[ads.length]? = some x) (ey : ys[ads.length]? = some y) (p : IsPair h T x y) (hN : N ≤ T) (hT : ∀ a ∈ ads, a < T) : Got h xs ys N (ads ++ [T]) := by
  refine ⟨fun j a e => ?_, fun a ha => ?_, ?_⟩
  · by_cases hj : j < ads.length
    · rw [List.getElem?_append_left hj] at e
      exact g.pr j a e
    · rw [List.getElem?_append_right (by omega)] at e
      have : j = ads.length := by
        rcases Nat.lt_or_ge (j - ads.length) 1 with q | q
        · omega
        · rw [List.getElem?_eq_none (by simpa using q)] at e; cases e
      subst this
      rw [Nat.sub_self] at e
      cases e
      exact ⟨x, y, ex, ey, p⟩
  · rcases List.mem_append.mp ha with q | q
    · exact g.low a q
    · rw [List.mem_singleton.mp q]; exact hN
  · rw [List.nodup_append]
    refine ⟨g.nd, by simp, fun a ha b hb e => ?_⟩
    have := hT a ha
    rw [List.mem_singleton.mp hb] at e
    subst e
    exact Nat.lt_irrefl _ this
abbrev lobj (ads : List Addr) (c : Nat) : Obj := { cls := .type "list", dict := none, data := .seq (ads.map Value.ref).toArray c, slots := #[] }
theorem zl_loop {R : Result → Shared → Prop} {S : Addr} {res : Value} {n : Nat} (hh : A.handled = none) (D : ZipApart z TI TO i1 i2 l1 l2) (L : Lo z TI TO i1 i2 l1 l2 N) (hn : n = min xs.size ys.size) (hz : n ≤ sizeLine) (b6 : S < N)
    (s1 : z ≠ S) (s2 : TI ≠ S) (s3 : TO ≠ S) (s4 : i1 ≠ S) (s5 : i2 ≠ S) (s6 : l1 ≠ S) (s7 : l2 ≠ S) :
    ∀ (m i : Nat) (s : Shared) (ads : List Addr) (c : Nat), n - i = m → i ≤ n → ZSt s.heap z TI TO i1 i2 l1 l2 N i → s.heap.IsTuple l1 xs → s.heap.IsTuple l2 ys → N ≤ s.heap.objs.size → s.heap.get? S = some (lobj ads c) → Got s.heap xs ys N ads → ads.length = i →
      (∀ h' ads' c', (∀ b o, b ∉ [z, TO, i1, i2, S] → s.heap.get? b = some o → h'.get? b = some o) → h'.get? S = some (lobj ads' c') → Got h' xs ys N ads' → ads'.length = n → R (.ok (.ret res)) { s with heap := h' }) →
      codeAny (model prog w) A (.builtin "list.extend.loop" ⟨[.ref S, .ref z, res], []⟩) R s := by
  have l1' := L.z; have l2' := L.TI; have l3' := L.TO; have l4' := L.i1; have l5' := L.i2
  have nz : ∀ a : Nat, N ≤ a → a ≠ z ∧ a ≠ TO ∧ a ≠ i1 ∧ a ≠ i2 ∧ a ≠ S := fun a q => ⟨Nat.ne_of_gt (Nat.lt_of_lt_of_le l1' q), Nat.ne_of_gt (Nat.lt_of_lt_of_le l3' q), Nat.ne_of_gt (Nat.lt_of_lt_of_le l4' q), Nat.ne_of_gt (Nat.lt_of_lt_of_le l5' q), Nat.ne_of_gt (Nat.lt_of_lt_of_le b6 q)⟩
  intro m
  induction m with
  | zero =>
    intro i s ads c hm hi st t1 t2 hN hS g hl hR
    have e : i = n := by omega
    refine codeAny_builtin F.entry_extend_loop ?_; rw [Around.under_plainId F.plain_extend_loop _]
    show wpAny _ A.in1 (pyNext (.ref z) >>= _) _ _ s
    have he : xs[i]? = none ∨ ys[i]? = none := by
      rcases Nat.le_total xs.size ys.size with q | q
      · exact .inl (Array.getElem?_eq_none (by omega))
      · exact .inr (Array.getElem?_eq_none (by omega))
    refine wpAny_bind (next_end (A := A.in1) hh D st t1 t2 he fun h' hk => ?_)
    refine wpAny_pure (hR h' ads c (fun b o hb e => hk b o (fun z => hb (by simp [z])) (fun z => hb (by simp [z])) (fun z => hb (by simp [z])) (fun z => hb (by simp [z])) e) (hk S _ s1.symm s3.symm s4.symm s5.symm hS) (g.keep fun b o hb e => ?_) (by omega))
    obtain ⟨q1, q2, q3, q4, q5⟩ := nz b hb
    exact hk b o q1 q2 q3 q4 e
  | succ m ih =>
    intro i s ads c hm hi st t1 t2 hN hS g hl hR
    have hlt : i < n := by omega
    refine codeAny_builtin F.entry_extend_loop ?_; rw [Around.under_plainId F.plain_extend_loop _]
    show wpAny _ A.in1 (pyNext (.ref z) >>= _) _ _ s
    have h1 : i < xs.size := by omega
    have h2 : i < ys.size := by omega
    refine wpAny_bind (next_item D L hN st t1 t2 (Array.getElem?_eq_getElem h1) (Array.getElem?_eq_getElem h2) fun h' st' hp hs hk => ?_)
    have hS' := hk S _ s1.symm s3.symm s4.symm s5.symm hS
    show wpAny _ A.in1 (updateSeq S (·.push (Value.ref s.heap.objs.size)) >>= _) _ _ _; refine wpAny_bind ?_
    have ea : (ads.map Value.ref).toArray.push (.ref s.heap.objs.size) = ((ads ++ [s.heap.objs.size]).map Value.ref).toArray := by simp
    have oth : ∀ b o, b ≠ S → h'.get? b = some o → (h'.update S (Obj.mapSeq (·.push (Value.ref s.heap.objs.size)))).get? b = some o := fun b o hb e => (Heap.get?_update_other _ _ (Ne.symm hb)).trans e
    have gT : ∀ a ∈ ads, a < s.heap.objs.size := g.lt
    have up : ∀ b o, b ∉ [z, TO, i1, i2, S] → s.heap.get? b = some o → (h'.update S (Obj.mapSeq (·.push (Value.ref s.heap.objs.size)))).get? b = some o := fun b o hb e =>
      oth b o (fun z => hb (by simp [z])) (hk b o (fun z => hb (by simp [z])) (fun z => hb (by simp [z])) (fun z => hb (by simp [z])) (fun z => hb (by simp [z])) e)
    have nin : ∀ a : Nat, N ≤ a → a ∉ [z, TO, i1, i2, S] := fun a q => by
      obtain ⟨q1, q2, q3, q4, q5⟩ := nz a q
      simp [q1, q2, q3, q4, q5]
    have ls : (ads.map Value.ref).toArray.size = i := by simp [hl]
    obtain ⟨c2, e2⟩ : ∃ c2, (h'.update S (Obj.mapSeq (·.push (Value.ref s.heap.objs.size)))).get? S = some (lobj (ads ++ [s.heap.objs.size]) c2) := ⟨_, by unfold lobj; rw [← ea]; exact Heap.get?_update_self _ hS' rfl⟩
    refine wpAny_updateSeq hS' rfl (wpAny_pure ⟨plainId_quiet F.plain_extend_loop _, ih (i + 1) _ (ads ++ [s.heap.objs.size]) c2 (by omega) hlt (st'.keep L oth s1 s2 s3 s4 s5 b6) ?_ ?_ ?_ ?_ ?_ ?_ fun h'' ads' c' hk2 hS2 g2 hl2 => ?_⟩) ?_ ?_
    · exact let ⟨o, ho, r⟩ := t1; ⟨o, up _ o (by simp [D.l1z, D.l1TO, D.l1i1, D.l1i2, s6]) ho, r⟩
    · exact let ⟨o, ho, r⟩ := t2; ⟨o, up _ o (by simp [D.l2z, D.l2TO, D.l2i1, D.l2i2, s7]) ho, r⟩
    · show N ≤ (h'.update S _).objs.size
      rw [Heap.size_update, hs]; omega
    · exact e2
    · refine Got.snoc (g.keep fun b o hb e => up b o (nin b hb) e) (x := xs[i]) (y := ys[i]) ?_ ?_ ?_ hN gT
      · rw [hl]; exact Array.getElem?_eq_getElem h1
      · rw [hl]; exact Array.getElem?_eq_getElem h2
      · exact oth _ _ (nz _ hN).2.2.2.2 hp
    · simp [hl]
    · exact hR h'' ads' c' (fun b o hb e => hk2 b o hb (up b o hb e)) hS2 g2 hl2
    · rw [ls]; omega
    · show ((ads.map Value.ref).toArray.push _).size ≤ sizeLine + 1
      rw [Array.size_push, ls]; omega
theorem list_zip {a b : Addr} {Q : Value → Shared → Prop} (hh : A.handled = none) (t1 : s.heap.IsTuple a xs) (t2 : s.heap.IsTuple b ys) (hz : min xs.size ys.size ≤ sizeLine)
    (q : ∀ h' l ads c, (∀ b o, s.heap.get? b = some o → h'.get? b = some o) → s.heap.objs.size ≤ l → l ∉ ads → h'.get? l = some (lobj ads c) → Got h' xs ys s.heap.objs.size ads → ads.length = min xs.size ys.size → Q (.ref l) { s with heap := h' }) :
    wpAny (model prog w) A (call (.type "zip") [.ref a, .ref b]) (fun u s1 => wpAny (model prog w) A (call (.type "list") [u]) Q E s1) E s := by
  have a1 : @LT.lt Nat _ a s.heap.objs.size := let ⟨_, e, _⟩ := t1; Heap.lt_size e
  have a2 : @LT.lt Nat _ b s.heap.objs.size := let ⟨_, e, _⟩ := t2; Heap.lt_size e
  refine call_zipT t1 t2 fun h1 hz1 hTI hTO j1 j2 hs hk => ?_
  have D := PySem.W.ktu_apart s.heap.objs.size a b a1 a2
  generalize hn : s.heap.objs.size = n0 at *
  have st : ZSt h1 (n0 + 4) (n0 + 2) (n0 + 3) n0 (n0 + 1) a b (n0 + 6) 0 := ⟨hTI, j1, j2, .inl ⟨hz1, _, _, hTO⟩⟩
  have u1 : h1.IsTuple a xs := let ⟨o, ho, r⟩ := t1; ⟨o, hk _ o ho, r⟩
  have u2 : h1.IsTuple b ys := let ⟨o, ho, r⟩ := t2; ⟨o, hk _ o ho, r⟩
  have L : Lo (n0 + 4) (n0 + 2) (n0 + 3) n0 (n0 + 1) a b (n0 + 6) := ⟨lt_ (by omega), lt_ (by omega), lt_ (by omega), lt_ (by omega), lt_ (by omega), lt_ (by omega), lt_ (by omega)⟩
  refine callType_codes (Q₁ := fun obj s₁ => obj = .ref h1.objs.size ∧ s₁ = { s with heap := h1.push { cls := .type "list", data := .seq #[] } }) F.called_list (F.typeCall_list_1 _) F.entry_list_init (code_list_new _ ⟨rfl, rfl⟩) fun obj s2 g => ?_
  obtain ⟨rfl, rfl⟩ := g
  rw [hs]
  have eS : (h1.push { cls := .type "list", data := .seq #[] }).get? (n0 + 5) = some { cls := .type "list", data := .seq #[] } := by rw [← hs]; exact Heap.get?_push_size _ rfl
  refine ⟨⟨_, eS, rfl⟩, F.args_list_init_2 _ _, ?_⟩
  show wpAny _ A.in1.in1 (Builtin.List.listItems (.ref (n0 + 5)) >>= fun old => Builtin.List.listUpdate (.ref (n0 + 5)) (fun _ => #[]) >>= fun _ => letGo old.toList.reverse >>= fun _ => Builtin.List.listExtendWith (.ref (n0 + 5)) (.ref (n0 + 4)) .none) _ _ _
  refine wpAny_bind ?_; unfold Builtin.List.listItems; refine wpAny_bind (wpAny_seqItems eS rfl (wpAny_pure ?_))
  show wpAny _ A.in1.in1 (updateSeq (n0 + 5) (fun _ => #[]) >>= fun _ => letGo (#[] : Array Value).toList.reverse >>= fun _ => Builtin.List.listExtendWith (.ref (n0 + 5)) (.ref (n0 + 4)) .none) _ _ _
  refine wpAny_bind (wpAny_updateSeq eS rfl ?_)
  generalize eh2 : (h1.push { cls := .type "list", data := .seq #[] }).update (n0 + 5) (Obj.mapSeq (fun _ => (#[] : Array Value))) = h2
  have e2 : h2.get? (n0 + 5) = some { cls := .type "list", data := .seq #[] 0 } := by rw [← eh2]; exact Heap.get?_update_self (Obj.mapSeq (fun _ => (#[] : Array Value))) eS rfl
  have k2 : ∀ c o, c ≠ n0 + 5 → h1.get? c = some o → h2.get? c = some o := fun c o hc e => by rw [← eh2]; exact (Heap.get?_update_other _ _ (Ne.symm hc)).trans (Heap.get?_push_of_some _ e)
  have z2 : h2.objs.size = n0 + 6 := by rw [← eh2, Heap.size_update, Heap.size_push, hs]
  refine wpAny_bind (wpAny_letGo ?_)
  have st2 := st.keep (S := n0 + 5) L k2 (ne_ (by omega)) (ne_ (by omega)) (ne_ (by omega)) (ne_ (by omega)) (ne_ (by omega)) (lt_ (by omega))
  obtain ⟨oz, hoz, hcz⟩ := st2.is
  have hTy : Shared.TypeIs { s with heap := h2 } (.ref (n0 + 4)) "zip" := ⟨oz, hoz, hcz⟩
  unfold Builtin.List.listExtendWith
  refine wpAny_bind (wpAny_typeOf hTy ?_)
  have g1 : Builtin.List.listSameRef (.ref (n0 + 5)) (.ref (n0 + 4)) = false := by simp [Builtin.List.listSameRef]
  have g2 : (Value.type "zip" == Value.type "list") = false := by decide
  have g3 : (Value.type "zip" == Value.type "tuple") = false := by decide
  simp only [g1, g2, g3, Bool.or_false, Bool.false_eq_true, if_false]
  have hz2 : IsZip h2 (n0 + 4) (n0 + 2) (n0 + 3) .none := k2 _ _ (ne_ (by omega)) hz1
  refine wpAny_bind (wpAny_pyIter_zip hz2 ?_)
  refine wpAny_bind (wpAny_holding ?_); unfold Builtin.List.listLengthHint
  refine wpAny_bind (wpAny_specialOf hTy zip_no_len ?_)
  show wpAny _ A.in1.in1 (specialOf (Value.ref (n0 + 4)) (Str.ofString "__length_hint__") >>= _) _ _ _
  refine wpAny_bind (wpAny_specialOf hTy zip_no_hint ?_); refine wpAny_pure ?_
  show wpAny _ A.in1.in1 (rule "list.extend.makes-room" >>= fun _ => Builtin.List.listTouch (.ref (n0 + 5)) >>= fun _ => again (.builtin "list.extend.loop" ⟨[.ref (n0 + 5), .ref (n0 + 4), .none], []⟩)) _ _ _
  refine wpAny_bind (wpAny_rule ?_); refine wpAny_bind ?_
  show wpAny _ A.in1.in1 (updateSeq (n0 + 5) (·.push .none) >>= fun _ => updateSeq (n0 + 5) (·.pop)) _ _ _
  refine wpAny_bind (wpAny_updateSeq e2 rfl ?_)
  have e3 := Heap.get?_update_self (Obj.mapSeq (·.push Value.none)) e2 rfl
  refine wpAny_updateSeq (hz := by seq_fits) e3 rfl ?_
  have e4 := Heap.get?_update_self (Obj.mapSeq (·.pop)) e3 rfl
  generalize eh4 : (h2.update (n0 + 5) (Obj.mapSeq (·.push Value.none))).update (n0 + 5) (Obj.mapSeq (·.pop)) = h4 at e4
  have k4 : ∀ c o, c ≠ n0 + 5 → h2.get? c = some o → h4.get? c = some o := fun c o hc e => by rw [← eh4]; exact (Heap.get?_update_other _ _ (Ne.symm hc)).trans ((Heap.get?_update_other _ _ (Ne.symm hc)).trans e)
  have z4 : h4.objs.size = n0 + 6 := by rw [← eh4, Heap.size_update, Heap.size_update, z2]
  have st4 := st2.keep (S := n0 + 5) L k4 (ne_ (by omega)) (ne_ (by omega)) (ne_ (by omega)) (ne_ (by omega)) (ne_ (by omega)) (lt_ (by omega))
  obtain ⟨c4, e5⟩ : ∃ c4, h4.get? (n0 + 5) = some (lobj [] c4) := ⟨_, e4⟩
  have v1 : h4.IsTuple a xs := let ⟨o, ho, r⟩ := u1; ⟨o, k4 _ o (ne_ (by omega)) (k2 _ o (ne_ (by omega)) ho), r⟩
  have v2 : h4.IsTuple b ys := let ⟨o, ho, r⟩ := u2; ⟨o, k4 _ o (ne_ (by omega)) (k2 _ o (ne_ (by omega)) ho), r⟩
  refine wpAny_pure ⟨plainId_quiet F.plain_extend_loop _, zl_loop (A := A.in1) (N := n0 + 6) (n := min xs.size ys.size) hh D L rfl hz (lt_ (by omega)) (ne_ (by omega)) (ne_ (by omega)) (ne_ (by omega)) (ne_ (by omega)) (ne_ (by omega)) (ne_ (by omega)) (ne_ (by omega)) _ 0 { s with heap := h4 } [] c4 rfl (Nat.zero_le _) st4 v1 v2 (by show n0 + 6 ≤ h4.objs.size; omega) e5 (Got.mk (fun j a e => by simp at e) (fun a ha => by cases ha) List.nodup_nil) rfl fun h5 ads c5 hk5 eS5 g5 hl5 => ?_⟩
  refine ⟨rfl, q h5 (n0 + 5) ads c5 (fun c o e => ?_) (by omega) (fun m => ?_) eS5 ⟨g5.pr, fun a ha => ?_, g5.nd⟩ hl5⟩
  · have hc : @LT.lt Nat _ c n0 := hn ▸ Heap.lt_size e
    have nn : ∀ m : Nat, n0 ≤ m → ¬ c = m := fun m hm => Nat.ne_of_lt (Nat.lt_of_lt_of_le hc hm)
    refine hk5 c o ?_ (k4 c o (nn _ (by omega)) (k2 c o (nn _ (by omega)) (hk c o e)))
    simp [nn (n0 + 4) (by omega), nn (n0 + 3) (by omega), nn n0 (by omega), nn (n0 + 1) (by omega), nn (n0 + 5) (by omega)]
  · have := g5.low _ m
    exact absurd this (by show ¬ (n0 + 6 ≤ n0 + 5); omega)
  · have := g5.low a ha
    exact Nat.le_trans (by omega) this
end
/-! ### as a rule -/
def layF (H : Hp) : List (Addr × V × V) → Hp
  | [] => H
  | p :: L => upd (layF H L) p.1 (.tup [p.2.1, p.2.2])
theorem layF_old {H : Hp} {b : Addr} : ∀ {L : List (Addr × V × V)}, b ∉ L.map (·.1) → layF H L b = H b
  | [], _ => rfl
  | p :: L, h => by
    rw [List.map_cons, List.mem_cons, not_or] at h
    show upd (layF H L) p.1 _ b = _
    rw [upd_ne h.1, layF_old h.2]
theorem layF_at {H : Hp} : ∀ {L : List (Addr × V × V)} {p : Addr × V × V}, (L.map (·.1)).Nodup → p ∈ L → layF H L p.1 = some (.tup [p.2.1, p.2.2])
  | q :: L, p, nd, hp => by
    rw [List.map_cons, List.nodup_cons] at nd
    show upd (layF H L) q.1 _ p.1 = _
    rcases List.mem_cons.mp hp with rfl | hp
    · rw [upd_same]
    · rw [upd_ne (fun e => nd.1 (List.mem_map.mpr ⟨p, hp, e⟩)), layF_at nd.2 hp]
def tLZip (K : PySem.W.Frag) (ta : TA) : TE := fun σ H Q => ta σ H fun vs H1 => ∃ a b xs ys, vs = [.ref a, .ref b] ∧ SqT K H1 a xs ∧ SqT K H1 b ys ∧ min xs.length ys.length ≤ 1000 ∧
  ∀ (L : List (Addr × V × V)) (l : Addr), L.map (·.2) = xs.zip ys → (L.map (·.1)).Nodup → (∀ p ∈ L, H1 p.1 = none) → H1 l = none → l ∉ L.map (·.1) → Q (.ref l) (upd (layF H1 L) l (.lst (L.map fun p => .ref p.1)))
theorem vals_refs : ∀ ads : List Addr, Vals (ads.map V.ref) (ads.map Value.ref)
  | [] => .nil
  | a :: ads => .cons rfl (vals_refs ads)
theorem pe_lzip {X : Cx} {e e2 : Expr} {ta : TA} {p p2 q pos : Pos} (hg : Gl X "list") (hm : X.mg "list" = none) (hg2 : Gl X "zip") (hm2 : X.mg "zip" = none) (ha : PA X [e, e2] ta) (hc : X.calm = true)
    (hs : starEach [e, e2] X.env = (false, eval e X.env) :: starEach [e2] X.env := by rfl) (hpl : (backTo q (starEach [e2] X.env)).any (·.1) = false := by rfl)
    (na : starEach [.Call (.Name "zip" p2) [e, e2] [] q] X.env = (false, eval (.Call (.Name "zip" p2) [e, e2] [] q) X.env) :: starEach [] X.env := by rfl) :
    PE X (.Call (.Name "list" p) [.Call (.Name "zip" p2) [e, e2] [] q] [] pos) (tLZip X.K ta) := by
  refine ⟨fun pins s σ H Q I h => ?_⟩
  refine Call_ (ld_blt I hg hm boot_list ?_)
  refine PyProof.Rows.callWith_type1 (PyProof.Rows.args_cons ?_ na) na rfl
  refine Call_ (ld_blt I hg2 hm2 PyProof.Rows.boot_zip (PyProof.Rows.callWith_type1 (thn (ha.run q pins s σ H _ I h) fun us s1 ⟨vs, H1, I1, r1, q1⟩ => ?_) hs hpl))
  obtain ⟨a, b, xs, ys, rfl, h1, h2, hz, q1⟩ := q1
  cases r1 with
  | cons r rr =>
    cases rr with
    | cons r' rr =>
      cases rr
      cases r
      cases r'
      obtain ⟨is1, v1, p1, _⟩ := I1.tuple h1
      obtain ⟨is2, v2, p2, _⟩ := I1.tuple h2
      have n1 := v1.length
      have n2 := v2.length
      have en : min is1.toArray.size is2.toArray.size = min xs.length ys.length := by simp [n1, n2]
      refine thn (list_zip (I1.ok.hd hc) p1 p2 (by rw [en]; exact DL.sz1000 hz) fun h' l ads c hk hl hnl el g el2 => ?_) fun u s2 g => PyProof.Rows.args_nil g
      rw [en] at el2
      have zl : (xs.zip ys).length = ads.length := by rw [List.length_zip, el2]
      have m1 : (ads.zip (xs.zip ys)).map (·.1) = ads := by rw [List.map_fst_zip (Nat.le_of_eq zl.symm)]
      have m2 : (ads.zip (xs.zip ys)).map (·.2) = xs.zip ys := by rw [List.map_snd_zip (Nat.le_of_eq zl)]
      have fr : ∀ a ∈ ads, H1 a = none := fun a ha => I1.hok.fresh (g.low a ha)
      have fl : H1 l = none := I1.hok.fresh hl
      have old : ∀ c u, H1 c = some u → upd (layF H1 (ads.zip (xs.zip ys))) l (.lst ((ads.zip (xs.zip ys)).map fun p => .ref p.1)) c = some u := fun c u e => by
        rw [upd_ne (fun z => by rw [z, fl] at e; cases e), layF_old (by rw [m1]; exact fun z => by rw [fr c z] at e; cases e)]
        exact e
      have low : ∀ c o, s1.heap.get? c = some o → upd (layF H1 (ads.zip (xs.zip ys))) l (.lst ((ads.zip (xs.zip ys)).map fun p => .ref p.1)) c = H1 c := fun c o e => by
        have hc := Heap.lt_size e
        rw [upd_ne (Nat.ne_of_lt (Nat.lt_of_lt_of_le hc hl)), layF_old]
        rw [m1]
        exact fun z => Nat.lt_irrefl _ (Nat.lt_of_lt_of_le hc (g.low c z))
      refine ⟨.ref l, _, I1.un (t' := s1.toks) (h' := h') (H' := upd (layF H1 (ads.zip (xs.zip ys))) l (.lst ((ads.zip (xs.zip ys)).map fun p => .ref p.1))) ⟨fun b o e _ _ _ => hk b o e, fun b o e _ _ _ => ⟨o.slots, hk b o e⟩, fun b o e n _ => by rw [low b o e]; exact n, fun b o e _ => ⟨o, hk b o e⟩, fun b u e => old b _ e, fun b o u e => old b _ e, fun b ps e => ⟨#[], by rw [old b _ e]; simp⟩⟩ ?_, rfl, q1 _ l m2 (by rw [m1]; exact g.nd) (fun p hp => fr p.1 ?_) fl (by rw [m1]; exact hnl)⟩
      · intro b u e
        by_cases hb : b = l
        · subst hb
          rw [upd_same] at e
          cases e
          have er : (ads.zip (xs.zip ys)).map (fun p => V.ref p.1) = ads.map V.ref := by
            conv => rhs; rw [← m1, List.map_map]
            rfl
          rw [er]
          exact ⟨by rw [List.length_map, el2]; exact DL.sz1000 hz, ads.map Value.ref, c, vals_refs ads, el⟩
        · rw [upd_ne hb] at e
          by_cases hm : b ∈ ads
          · rw [← m1] at hm
            obtain ⟨p, hp, rfl⟩ := List.mem_map.mp hm
            rw [layF_at (by rw [m1]; exact g.nd) hp] at e
            cases e
            obtain ⟨j, hj⟩ := List.getElem?_of_mem hp
            rw [List.getElem?_zip_eq_some] at hj
            obtain ⟨hj1, hj2⟩ := hj
            rw [List.getElem?_zip_eq_some] at hj2
            obtain ⟨x, y, e1, e2, pr⟩ := g.pr j _ hj1
            obtain ⟨x', g1, g2⟩ := v1.get hj2.1
            obtain ⟨y', g3, g4⟩ := v2.get hj2.2
            have e1' : x = x' := by rw [List.getElem?_toArray] at e1; exact Option.some.inj (e1.symm.trans g1)
            have e2' : y = y' := by rw [List.getElem?_toArray] at e2; exact Option.some.inj (e2.symm.trans g3)
            subst e1'
            subst e2'
            exact ⟨by show 2 ≤ sizeLine; decide, [x, y], .cons g2 (.cons g4 .nil), ⟨_, pr, rfl, _, rfl⟩⟩
          · rw [layF_old (by rw [m1]; exact hm)] at e
            exact (I1.hok b u e).stay (fun c v _ q => hk c v q) (fun c q => old c _ q) fun c xs q => old c _ q
      · rw [← m1]
        exact List.mem_map.mpr ⟨p, hp, rfl⟩
end DZ
namespace DL
open PySem PySem.Spec PyProof.Rows L2
open Evl (Ex)
section
variable {K : PySem.W.Frag} {σ σ1 : L2.St} {env env1 env2 : Nv} {V H V1 H1 V2 H2 : Hp}
def gLZip (ds es : List D) : D := .list ((ds.zip es).map fun p => .tuple [p.1, p.2])
def iLZip (fs : EvA) : EvF := fun env => (fs env).bind fun p => match p.1 with
  | [.val (.tuple ds), .val (.tuple es)] => if min ds.length es.length ≤ 1000 then some (.new (gLZip ds es), p.2) else none
  | _ => none
theorem al_lay (h : Ex V H) : ∀ (L : List (Addr × L2.V × L2.V)), (L.map (·.1)).Nodup → (∀ p ∈ L, H p.1 = none) → Al V H (DZ.layF V L) (DZ.layF H L)
  | [], _, _ => Al.refl h
  | p :: L, nd, hf => by
    rw [List.map_cons, List.nodup_cons] at nd
    have a := al_lay h L nd.2 fun q hq => hf q (List.mem_cons_of_mem _ hq)
    refine a.trans (Al.new a.sub ?_)
    rw [DZ.layF_old nd.1]
    exact hf p List.mem_cons_self
theorem ra_zip (e : Ex V V1) : ∀ (L : List (Addr × L2.V × L2.V)) (xs ys : List L2.V) (ds es : List D), L.map (·.2) = xs.zip ys → RA K V xs ds → RA K V ys es → (∀ p ∈ L, V1 p.1 = some (.tup [p.2.1, p.2.2])) → RA K V1 (L.map fun p => .ref p.1) ((ds.zip es).map fun p => .tuple [p.1, p.2])
  | L, [], ys, ds, es, hL, r1, r2, hp => by
    cases r1
    rw [List.zip_nil_left] at hL
    rw [List.map_eq_nil_iff.mp hL]
    exact .nil
  | L, x :: xs, [], ds, es, hL, r1, r2, hp => by
    cases r2
    rw [List.zip_nil_right] at hL
    rw [List.map_eq_nil_iff.mp hL, List.zip_nil_right]
    exact .nil
  | [], x :: xs, y :: ys, ds, es, hL, r1, r2, hp => by simp at hL
  | p :: L, x :: xs, y :: ys, ds, es, hL, r1, r2, hp => by
    cases r1 with
    | cons a1 a2 =>
      cases r2 with
      | cons b1 b2 =>
        rw [List.map_cons, List.zip_cons_cons, List.cons.injEq] at hL
        rw [List.zip_cons_cons, List.map_cons, List.map_cons]
        have q := hp p List.mem_cons_self
        rw [hL.1] at q
        exact .cons (.tuple (St.of q) (.cons (R.mono e _ _ a1) (.cons (R.mono e _ _ b1) .nil))) (ra_zip e L xs ys _ _ hL.2 a2 b2 fun p hp' => hp p (List.mem_cons_of_mem _ hp'))
theorem sd_lzip {t : TA} {fs : EvA} (ha : SdA K t fs) : Sd K (DZ.tLZip K t) (iLZip fs) := by
  intro env res env' e σ V H ok Q q
  simp only [iLZip, Option.bind_eq_some_iff] at e
  obtain ⟨⟨ra, e1⟩, h1, h3⟩ := e
  split at h3
  · rename_i ds es hn
    have hn' : ra = [.val (.tuple ds), .val (.tuple es)] := hn
    subst hn'
    split at h3
    · rename_i hz
      cases h3
      refine ha _ _ _ h1 σ V H ok _ fun vs V1 H1 a k => ?_
      cases k with
      | @cons v0 _ _ _ k1 k2 =>
        cases k2 with
        | @cons v1 _ _ _ k2 k3 =>
          cases k3
          have k1' : R K V1 v0 (.tuple ds) := k1
          have k2' : R K V1 v1 (.tuple es) := k2
          cases k1' with
          | @tuple a0 xs _ w1 w2 =>
            cases k2' with
            | @tuple b0 ys _ w3 w4 =>
              refine ⟨a0, b0, xs, ys, rfl, Evl.ex_t a.ok.sub w1.sq, Evl.ex_t a.ok.sub w3.sq, by rw [w2.len, w4.len]; exact hz, fun L l m nd fr fl nl => ?_⟩
              have b1 := al_lay a.ok.sub L nd fr
              have hl : DZ.layF H1 L l = none := by rw [DZ.layF_old nl]; exact fl
              have b2 : Al (DZ.layF V1 L) (DZ.layF H1 L) (DZ.layF V1 L) (upd (DZ.layF H1 L) l (.lst (L.map fun p => .ref p.1))) := Al.hid b1.sub hl
              have b := b1.trans b2
              exact q _ _ _ (a.trans (b.adv a.ok)) (RR.rok (r := .new (gLZip ds es)) a b ⟨l, rfl, fl, by rw [DZ.layF_old nl]; exact Evl.fresh_back a.ok.sub fl, _, upd_same, ra_zip b1.ex L xs ys ds es m w2 w4 fun p hp => DZ.layF_at nd hp⟩)
    · cases h3
  · cases h3
end
section
variable {X : Cx} {e e2 : Expr} {fs : EvA} {p p2 q pos : Pos}
theorem bLZip (hc : X.calm = true) (hg : Gl X "list") (hm : X.mg "list" = none) (hg2 : Gl X "zip") (hm2 : X.mg "zip" = none) (ha : AD X [e, e2] fs)
    (hs : starEach [e, e2] X.env = (false, eval e X.env) :: starEach [e2] X.env := by rfl) (hpl : (backTo q (starEach [e2] X.env)).any (·.1) = false := by rfl)
    (na : starEach [.Call (.Name "zip" p2) [e, e2] [] q] X.env = (false, eval (.Call (.Name "zip" p2) [e, e2] [] q) X.env) :: starEach [] X.env := by rfl) :
    PD X (.Call (.Name "list" p) [.Call (.Name "zip" p2) [e, e2] [] q] [] pos) (iLZip fs) :=
  let ⟨_, h1, k1⟩ := ha; ⟨_, DZ.pe_lzip hg hm hg2 hm2 h1 hc hs hpl na, sd_lzip k1⟩
end
end DL

/-! More of what simp evaluates bodies with. -/
namespace DL
open PySem L2
section
variable {env e : Nv} {f g h fa fb fc : EvF} {fs : EvA} {c t : EvT} {s u : StF} {d d' : D} {r : Res} {i j n : Nat} {o : Option Fl} {vs : List Nat} {it : ItF} {tg : TgF}
theorem iDGet2_ev : iDGet2 f g h env = (opd f env).bind fun p => (look p.2 p.1).bind fun d0 => match d0 with
  | .dictK _ _ => (opd g p.2).bind fun q => (opd h q.2).bind fun r => (look r.2 p.1).bind fun d => match d with
    | .dictK ks ds => (look r.2 q.1).bind fun y => (keyD y).bind fun k => (vis r.1).bind fun z => some (.val ((findD ks ds k).getD z), r.2)
    | _ => none
  | _ => none := rfl
theorem iDGet_ev : iDGet f g env = (opd f env).bind fun p => (opd g p.2).bind fun q => (look q.2 p.1).bind fun d => match d with
  | .dictK ks ds => (look q.2 q.1).bind fun y => (keyD y).bind fun k => (findD ks ds k).bind fun x => some (.val x, q.2)
  | _ => none := rfl
theorem iDIn_ev {neg : Bool} : iDIn neg g f env = (opd g env).bind fun q => (opd f q.2).bind fun p => (look p.2 p.1).bind fun d => match d with
  | .dictK ks ds => (look p.2 q.1).bind fun y => (keyD y).bind fun k => some (.val (.bool (if neg then !(findD ks ds k).isSome else (findD ks ds k).isSome)), p.2)
  | _ => none := rfl
theorem keyD_int {k : Int} : keyD (.int k) = some (.inl k) := rfl
theorem keyD_str {k : Str} : keyD (.str k) = some (.inr k) := rfl
theorem iDNew_ev : iDNew env = some (.new (.dictK [] []), env) := rfl
def dpF (o : Option Sl) (i : Nat) (k : Key) (x : D) (e : Nv) : Option Fl := match o with
  | some (.own q (.dictK ks ds)) => if ds.length < 100000 ∧ ks.Nodup then some (.next (e.set i (.own q (.dictK (putD ks ds k x).1 (putD ks ds k x).2)))) else none
  | _ => none
theorem dpF_own {q : Bool} {ks : List Key} {ds : List D} {k : Key} {x : D} : dpF (some (.own q (.dictK ks ds))) i k x e = if ds.length < 100000 ∧ ks.Nodup then some (.next (e.set i (.own q (.dictK (putD ks ds k x).1 (putD ks ds k x).2)))) else none := rfl
def dp1 (o : Option Sl) (k : Option Fl) : Option Fl := match o with
  | some (.own _ (.dictK _ _)) => k
  | _ => none
theorem dp1_own {q : Bool} {ks : List Key} {ds : List D} {k : Option Fl} : dp1 (some (.own q (.dictK ks ds))) k = k := rfl
theorem iDPut_ev : iDPut i g f env = (opd f env).bind fun p => (vis p.1).bind fun x => dp1 p.2[i]? ((opd g p.2).bind fun r => (look r.2 r.1).bind fun y => (keyD y).bind fun k => dpF r.2[i]? i k x r.2) := by
  unfold iDPut dp1 dpF
  rfl
def ds1 (o : Option Sl) (k : Option (Res × Nv)) : Option (Res × Nv) := match o with
  | some (.own _ (.dictK _ _)) => k
  | _ => none
theorem ds1_own {q : Bool} {ks : List Key} {ds : List D} {k : Option (Res × Nv)} : ds1 (some (.own q (.dictK ks ds))) k = k := rfl
def dsF (o : Option Sl) (i : Nat) (k : Key) (x : D) (e : Nv) : Option (Res × Nv) := match o with
  | some (.own q (.dictK ks ds)) => if ds.length < 100000 ∧ ks.Nodup then match findD ks ds k with
      | some z => some (.val z, e)
      | none => some (.val x, e.set i (.own q (.dictK (putD ks ds k x).1 (putD ks ds k x).2))) else none
  | _ => none
theorem dsF_own {q : Bool} {ks : List Key} {ds : List D} {k : Key} {x : D} : dsF (some (.own q (.dictK ks ds))) i k x e = if ds.length < 100000 ∧ ks.Nodup then match findD ks ds k with
      | some z => some (.val z, e)
      | none => some (.val x, e.set i (.own q (.dictK (putD ks ds k x).1 (putD ks ds k x).2))) else none := rfl
theorem iDSet_ev : iDSet i g f env = ds1 env[i]? ((opd g env).bind fun r => (opd f r.2).bind fun s => (look s.2 r.1).bind fun y => (keyD y).bind fun k => (vis s.1).bind fun x => dsF s.2[i]? i k x s.2) := by
  unfold iDSet ds1 dsF
  rfl
def lzF (rs : List Res) (e : Nv) : Option (Res × Nv) := match rs with
  | [.val (.tuple ds), .val (.tuple es)] => if min ds.length es.length ≤ 1000 then some (.new (gLZip ds es), e) else none
  | _ => none
theorem lzF_tup {ds es : List D} : lzF [.val (.tuple ds), .val (.tuple es)] e = if min ds.length es.length ≤ 1000 then some (.new (gLZip ds es), e) else none := rfl
theorem iLZip_ev : iLZip fs env = (fs env).bind fun p => lzF p.1 p.2 := rfl
theorem iDc_ev {g : TgF} {fk fv : EvF} : iDc it g c fk fv vs env = (it env).bind fun p => (wipeN p.2 vs).bind fun e1 => (dcLoop g c fk fv vs p.1 e1 [] []).bind fun q => some (.new (.dictK q.1 q.2.1), q.2.2) := rfl
theorem iLc_ev {g : TgF} : iLc it g c f vs env = (it env).bind fun p => (wipeN p.2 vs).bind fun e1 => (lcLoop g c f vs p.1 e1 []).bind fun q => some (.new (.list q.1), q.2) := rfl
theorem dA_val {ks : List Key} {ds : List D} : dictAt (some (.val (.dictK ks ds))) = some (ks, ds) := rfl
theorem dA_own {ks : List Key} {ds : List D} {p : Bool} : dictAt (some (.own p (.dictK ks ds))) = some (ks, ds) := rfl
theorem iPairs_ev : iPairs i j env = (dictAt env[i]?).bind fun p => if i ≠ j ∧ j < env.length ∧ p.2.length ≤ 100000 ∧ p.1.Nodup then some (.new (.list (pairsD p.1 p.2)), env) else none := rfl
theorem alC_list {ds : List D} (h : ds.length ≤ 100000) : altC (c1 gList) (c1 gListD) [.list ds] = (c1 gList) [.list ds] := by
  unfold altC
  cases q : c1 gList [.list ds] <;> rfl
theorem alC_dict {ks : List Key} {ds : List D} : altC (c1 gList) (c1 gListD) [.dictK ks ds] = some (.new (.list (keysD ks))) := rfl
theorem any_ints {k : Int} : ∀ xs : List Int, (xs.map D.int).any (fun e => eqF e (.int k)) = decide (k ∈ xs)
  | [] => by simp
  | x :: xs => by
    rw [List.map_cons, List.any_cons, any_ints xs]
    by_cases h : x = k
    · simp [eqF, h]
    · simp [eqF, h, Ne.symm h]
theorem flat_ints : ∀ xs : List Int, (xs.map D.int).all flatD = true
  | [] => rfl
  | x :: xs => by rw [List.map_cons, List.all_cons, flat_ints xs]; rfl
theorem in_ints {k : Int} {xs : List Int} : alt (gIn false) (gInS false) (.int k) (.list (xs.map .int)) = some (.val (.bool (decide (k ∈ xs)))) := by
  have : gIn false (.int k) (.list (xs.map .int)) = some (.val (.bool (decide (k ∈ xs)))) := by
    simp only [gIn, itemsD, Option.bind_some, flat_ints, any_ints]
    rfl
  unfold alt
  rw [this]
theorem notin_ints {k : Int} {xs : List Int} : alt (gIn true) (gInS true) (.int k) (.list (xs.map .int)) = some (.val (.bool (!decide (k ∈ xs)))) := by
  have : gIn true (.int k) (.list (xs.map .int)) = some (.val (.bool (!decide (k ∈ xs)))) := by
    simp only [gIn, itemsD, Option.bind_some, flat_ints, any_ints]
    rfl
  unfold alt
  rw [this]
theorem gAdd_list {xs ys : List D} (h : xs.length + ys.length ≤ 100000) : gAdd (.list xs) (.list ys) = some (.new (.list (xs ++ ys))) := by
  have : gCatL (.list xs) (.list ys) = some (.new (.list (xs ++ ys))) := by unfold gCatL; exact if_pos h
  simp only [gAdd, alt, this]
  rfl
def augF (o : Option Sl) (i : Nat) (h : Int → Int → Int) (k : Option (Res × Nv)) : Option Fl := match o with
  | some (.val (.int a)) => k.bind fun p => match p.1 with
    | .val (.int b) => (setV p.2 i (.val (.int (h a b)))).bind fun e => some (.next e)
    | _ => none
  | _ => none
theorem augF_int {a b : Int} {h : Int → Int → Int} : augF (some (.val (.int a))) i h (some (.val (.int b), e)) = (setV e i (.val (.int (h a b)))).bind fun e => some (.next e) := rfl
theorem iAug_ev {h : Int → Int → Int} : iAug i h f env = augF env[i]? i h (f env) := by
  unfold iAug augF
  rfl
end
end DL

/-! A comprehension over a list that nobody else sees; its turns leave everything as it was. -/
namespace DL
open PySem PySem.Spec PyProof.Rows L2
open Evl (Ex)
open Classical in
noncomputable def lcLoopO (g : TgF) (c : EvT) (f : EvF) (vs : List Nat) (E : Nv) : List D → List D → Option (List D)
  | [], acc => some acc
  | d :: ds, acc => (g E d).bind fun e1 => (c e1).bind fun p => if p.1 = true then
      (opd f p.2).bind fun q => (vis q.1).bind fun y => (wipeN q.2 vs).bind fun e3 => if e3 = E ∧ acc.length < 100000 then lcLoopO g c f vs E ds (acc ++ [y]) else none
    else (wipeN p.2 vs).bind fun e3 => if e3 = E then lcLoopO g c f vs E ds acc else none
noncomputable def iLcO (i : Nat) (g : TgF) (c : EvT) (f : EvF) (vs : List Nat) : EvF := fun env => match env[i]? with
  | some (.own _ (.list ds)) => if i ∈ vs then none else (wipeN env vs).bind fun e1 => (lcLoopO g c f vs e1 ds []).bind fun out => some (.new (.list out), e1)
  | _ => none
section
variable {K : PySem.W.Frag} {σ σ1 : L2.St} {env env1 env2 : Nv} {V H V1 H1 V2 H2 : Hp} {v : L2.V} {te ta tb ti td ty tx tv : TE} {t u : TS}
theorem walk_own {a : Addr} {n : Nat} : Walk (Itl K a) n (fun H => ∃ xs, SqL K H a xs ∧ xs.length = n) (fun i H x H' => H' = H ∧ ∀ xs, SqL K H a xs → xs[i]? = some x) :=
  ⟨fun i _ hi ⟨xs, q, e⟩ => ⟨xs, xs[i]'(by omega), q, by simp [show i < xs.length by omega]⟩, fun _ ⟨xs, q, e⟩ => ⟨xs, q, Nat.le_of_eq e⟩, fun _ _ _ _ _ q y => y⟩
theorem sd_lcO {i : Nat} {tg : TG} {g : TgF} {tt : TT} {c : EvT} {f : EvF} {vs : List Nat} (hg : SdGv K tg g vs) (hc : SdT K tt c) (hf : Sd K te f) : Sd K (tLc (iSq K (tVar i)) tg tt te vs) (iLcO i g c f vs) := by
  intro env res env' e σ V H ok Q q
  unfold iLcO at e
  split at e
  · rename_i p ds he
    split at e
    · cases e
    · rename_i hiv
      simp only [Option.bind_eq_some_iff] at e
      obtain ⟨e1, h2, out, h3, h4⟩ := e
      simp only [Option.some.injEq, Prod.mk.injEq] at h4
      obtain ⟨rfl, rfl⟩ := h4
      obtain ⟨l, y1, y2, xs0, y3, y4⟩ := ok.ownC he
      obtain ⟨aw, as⟩ := adv_wipe (Adv.refl ok) h2
      have clean := wipeN_clean h2
      have own1 : ∀ {ws : List Nat} {e0 e2 : Nv}, i ∉ ws → wipeN e0 ws = some e2 → e2[i]? = e0[i]? := by
        intro ws
        induction ws with
        | nil => intro e0 e2 _ h; cases h; rfl
        | cons w ws ih =>
          intro e0 e2 hw h
          simp only [wipeN, Option.bind_eq_some_iff] at h
          obtain ⟨e3, g1, g2⟩ := h
          have := ih (fun z => hw (List.mem_cons_of_mem _ z)) g1
          split at g2
          · cases g2
          · cases g2
            rw [List.getElem?_set_ne (fun z => hw (by rw [z]; exact List.mem_cons_self)), this]
          · cases g2
      have he1 : e1[i]? = some (.own p (.list ds)) := (own1 hiv h2).trans he
      have sl : (wipe σ vs)[i]? = some (some (.ref l)) := (wipe_out hiv).trans y1
      -- the list, later on
      have at_ : ∀ V1 H1, Adv K σ env (wipe σ vs) e1 V H V1 H1 → ∃ xs, H1 l = some (.lst xs) ∧ RA K V1 xs ds := fun V1 H1 b => by
        obtain ⟨l2, z1, z2, z3⟩ := b.ok.ownC he1
        rw [sl] at z1
        cases z1
        exact z3
      refine ⟨.ref l, y1, l, rfl, .inl ⟨⟨xs0, Evl.sq_of y3⟩, fun Dl hD => ?_⟩⟩
      have vD : V Dl = none := Evl.fresh_back ok.sub hD
      refine lc_it (n := ds.length) walk_own (fun m H1 => ∃ V1 acc xs, Adv K σ env (wipe σ vs) e1 V H V1 H1 ∧ Adv K σ env σ e1 V H V1 H1 ∧ Ex V V1 ∧ V1 Dl = none ∧ ¬ Own e1 (wipe σ vs) Dl ∧ H1 Dl = some (.lst xs) ∧ RA K V1 xs acc ∧ lcLoopO g c f vs e1 (ds.drop m) acc = some out) ?_ ?_ ?_ ?_
      · have nO : ¬ Own e1 (wipe σ vs) Dl := aw.ok.notOwn hD
        have nO2 : ¬ Own e1 σ Dl := as.ok.notOwn hD
        exact ⟨V, [], [], adv_grow aw hD vD nO ok.tabs, adv_grow as hD vD nO2 ok.tabs, Evl.Ex.refl _, vD, nO, upd_same, .nil, h3⟩
      · rintro m H1 _ ⟨V1, acc, xs, b, _⟩
        obtain ⟨ys, z1, z2⟩ := at_ V1 H1 b
        exact ⟨ys, Evl.sq_of z1, z2.len⟩
      · rintro m x H1 H' hlt ⟨V1, acc, xs, b, b', x1, d1, d2, d3, d4, hl⟩ ⟨rfl, hx⟩
        obtain ⟨ys, z1, z2⟩ := at_ V1 H' b
        obtain ⟨d, hd, r⟩ := z2.getV (hx ys (Evl.sq_of z1))
        have e0' : ds.drop m = d :: ds.drop (m + 1) := by
          obtain ⟨hlt, rfl⟩ := List.getElem?_eq_some_iff.mp hd
          exact List.drop_eq_getElem_cons hlt
        rw [e0'] at hl
        simp only [lcLoopO, Option.bind_eq_some_iff] at hl
        obtain ⟨e3, g1, ⟨bb, e4⟩, g2, g3⟩ := hl
        refine hg _ _ _ g1 (wipe σ vs) V1 H' x b.ok r _ fun σ3 a3 w3 => ⟨by rw [w3, wipe_wipe], ?_⟩
        refine hc _ _ _ g2 σ3 V1 H' a3.ok _ fun V4 H4 a4 => ?_
        have a5 := a3.trans a4
        have back : ∀ (V5 H5 : Hp) (e5 e6 : Nv), Adv K (wipe σ vs) e1 σ3 e5 V1 H' V5 H5 → wipeN e5 vs = some e6 → Adv K (wipe σ vs) e1 (wipe σ vs) e6 V1 H' V5 H5 := by
          intro V5 H5 e5 e6 a6 hw
          have a7 := (adv_wipe a6 hw).1
          rw [w3, wipe_wipe] at a7
          exact a7
        cases bb with
        | true =>
          rw [if_pos rfl]
          rw [if_pos rfl] at g3
          simp only [Option.bind_eq_some_iff] at g3
          obtain ⟨⟨rr, e5⟩, g4, y, g5, e6, g6, g7⟩ := g3
          split at g7
          · rename_i hz
            obtain ⟨rfl, hz⟩ := hz
            refine opd_snd hf g4 a4.ok fun z V5 H5 a6 k => ?_
            have a7 := a5.trans a6
            have a8 := back V5 H5 e5 _ a7 g6
            obtain ⟨y1, y2⟩ := adv_hid a8 d3 d1 d2
            have rz : R K V5 z y := by
              cases rr with
              | val d' => cases g5; exact k
              | new d' => exact k.elim
              | own j => cases g5
            have a9 := b.trans a8
            have a10 : Adv K σ env σ e6 V H V5 H5 := adv_orig a9 clean
            refine ⟨xs, y1, Evl.sz_lt (by rw [d4.len]; exact hz), V5, acc ++ [y], xs ++ [z], adv_grow a9 hD y2 d2 ok.tabs, adv_grow a10 hD y2 ?_ ok.tabs, x1.trans a8.ex, y2, d2, upd_same, (RA.mono a8.ex _ _ d4).append (.cons rz .nil), g7⟩
            exact fun w => d2 (own_orig clean w)
          · cases g7
        | false =>
          rw [if_neg Bool.false_ne_true]
          rw [if_neg Bool.false_ne_true] at g3
          simp only [Option.bind_eq_some_iff] at g3
          obtain ⟨e6, g6, g7⟩ := g3
          split at g7
          · rename_i hz
            subst hz
            have a8 := back V4 H4 e4 _ a5 g6
            obtain ⟨y1, y2⟩ := adv_hid a8 d3 d1 d2
            have a9 := b.trans a8
            exact ⟨V4, acc, xs, a9, adv_orig a9 clean, x1.trans a8.ex, y2, d2, y1, RA.mono a8.ex _ _ d4, g7⟩
          · cases g7
      · rintro H1 ⟨V1, acc, xs, b, b', x, d1, d2, d3, d4, hl⟩
        rw [List.drop_length] at hl
        cases hl
        exact q _ V1 H1 b' ⟨Dl, rfl, .inl hD, d1, fun w => d2 (own_orig clean w), xs, d3, d4⟩
  · cases e
end
section
variable {X : Cx} {k : Nat} {a b e l tg elt iter kx vx o : Expr} {es ifs : List Expr} {pos p p2 : Pos} {fa fb f g h : EvF} {fs : EvA} {x : Str} {vs : List Nat}
theorem pdLcO (i : Nat) {scope : Scope} {own : List (Str × Nat)} {g : TgF} {fc : EvT} (hc : X.calm = true) (nd : X.N.Nodup) (hN : X.N[i]? = some x) (hv : Vis X.env.scope x) (ok : BlkOk X.N X.env.scope scope own)
    (hg : ∀ (s : Shared) (H : Hp) (C : Addr) (cl : List (Str × Addr)) (fp : List Addr), GDv (X.blk s H scope (compEnvC scope cl C X.env) fp) tg g (own.map (·.2)))
    (ht : ∀ (s : Shared) (H : Hp) (C : Addr) (cl : List (Str × Addr)) (fp : List Addr), TsD (X.blk s H scope (compEnvC scope cl C X.env) fp) ifs fc)
    (he : ∀ (s : Shared) (H : Hp) (C : Addr) (cl : List (Str × Addr)) (fp : List Addr), PD (X.blk s H scope (compEnvC scope cl C X.env) fp) elt f) (hd : (x == ("__debug__" : Str)) = false := by decide) (hcd : (x == ("__classdict__" : Str)) = false := by decide) (hs : ∀ z, foldedSetIterable (.Name x p) X.env z = pure z := by intro _; rfl) :
    PD X (.ListComp elt [⟨tg, .Name x p, ifs, 0⟩] scope pos) (iLcO i g fc f (own.map (·.2))) :=
  ⟨_, pe_lc (te := cE X.K f) (tt := cT X.K fc) (g := cG X.K g (own.map (·.2))) hc nd (pi_sq (pe_var hN hv hd hcd)) ok (fun s H C cl fp => (hg s H C cl fp).canon) (fun s H C cl fp => (ht s H C cl fp).canon) (fun s H C cl fp => (he s H C cl fp).canon) hs, sd_lcO cG_sd cT_sd cE_sd⟩
end
section
variable {env : Nv} {g : TgF} {c : EvT} {f : EvF} {vs : List Nat} {i : Nat}
noncomputable def lcOF (o : Option Sl) (i : Nat) (g : TgF) (c : EvT) (f : EvF) (vs : List Nat) (env : Nv) : Option (Res × Nv) := match o with
  | some (.own _ (.list ds)) => if i ∈ vs then none else (wipeN env vs).bind fun e1 => (lcLoopO g c f vs e1 ds []).bind fun out => some (.new (.list out), e1)
  | _ => none
theorem lcOF_own {p : Bool} {ds : List D} : lcOF (some (.own p (.list ds))) i g c f vs env = if i ∈ vs then none else (wipeN env vs).bind fun e1 => (lcLoopO g c f vs e1 ds []).bind fun out => some (.new (.list out), e1) := rfl
theorem iLcO_ev : iLcO i g c f vs env = lcOF env[i]? i g c f vs env := rfl
theorem lcO_map {α : Type} {dn gg : α → D} {E : Nv} {j : Nat} (hj : E[j]? = some .no) : ∀ (xs : List α) (acc : List D), (∀ x ∈ xs, opd f (E.set j (.val (dn x))) = some (.val (gg x), E.set j (.val (dn x)))) → acc.length + xs.length ≤ 90000 →
    lcLoopO (iNm j) iYes f [j] E (xs.map dn) acc = some (acc ++ xs.map gg)
  | [], acc, _, _ => by rw [List.map_nil, List.map_nil, List.append_nil]; rfl
  | x :: xs, acc, h, hl => by
    rw [List.length_cons] at hl
    have hjl := (List.getElem?_eq_some_iff.mp hj).1
    have t : iNm j E (dn x) = some (E.set j (.val (dn x))) := by rw [iNm_ev, setV_ev, hj]; rfl
    have w : wipeN (E.set j (.val (dn x))) [j] = some E := by
      rw [wipe_cons, wipe_nil, Option.bind_some, List.getElem?_set_self hjl, wp_val, List.set_set]
      congr 1
      apply List.ext_getElem?
      intro i
      by_cases q : i = j
      · subst q
        rw [List.getElem?_set_self hjl, hj]
      · rw [List.getElem?_set_ne (fun z => q z.symm)]
    have rec' := lcO_map hj xs (acc ++ [gg x]) (fun z hz => h z (List.mem_cons_of_mem _ hz)) (by rw [List.length_append, List.length_singleton]; omega)
    have hz : acc.length < 100000 := by omega
    simp only [List.map_cons, lcLoopO, t, Option.bind_some, iYes, if_true, h x List.mem_cons_self, vis_val, w, true_and, hz, rec', List.append_assoc]
    rfl
end
end DL

/-! {k: d[k] for k in d} -/
namespace DL
open PySem PySem.Spec PyProof.Rows L2
open Evl (Ex)
theorem putK_new {k : Key} {w : L2.V} {kvs : List (Key × L2.V)} (h : k ∉ kvs.map (·.1)) : putK kvs k w = kvs ++ [(k, w)] := by
  unfold putK
  rw [if_neg]
  intro e
  rw [List.any_eq_true] at e
  obtain ⟨p, hp, e⟩ := e
  exact h (List.mem_map.mpr ⟨p, hp, of_decide_eq_true e⟩)
section
variable {K : PySem.W.Frag} {σ σ1 : L2.St} {env env1 env2 : Nv} {V H V1 H1 V2 H2 : Hp} {v : L2.V} {te ta tb ti td ty tx tv : TE}
def iCopyD (i j : Nat) : EvF := fun env => (dictAt env[i]?).bind fun p => if i ≠ j ∧ j < env.length ∧ p.2.length < 100000 ∧ p.1.Nodup then some (.new (.dictK p.1 p.2), env) else none
theorem iCopyD_ev {i j : Nat} : iCopyD i j env = (dictAt env[i]?).bind fun p => if i ≠ j ∧ j < env.length ∧ p.2.length < 100000 ∧ p.1.Nodup then some (.new (.dictK p.1 p.2), env) else none := rfl
theorem sd_copyD {i j : Nat} : Sd K (tLockE (tDc (iKeys (tVar i)) (gName j) tYes (tVar j) (tDGet (tVar i) (tVar j)) [j])) (iCopyD i j) := by
  intro env res env' e σ V H ok Q q
  unfold iCopyD at e
  simp only [Option.bind_eq_some_iff] at e
  obtain ⟨⟨ks, ds⟩, he, e⟩ := e
  split at e
  · rename_i hc
    cases e
    obtain ⟨hij, hj, hz, nd⟩ := hc
    replace hz : ds.length < 100000 := hz
    replace nd : ks.Nodup := nd
    obtain ⟨d, kvs, h1, hd, g2, g3⟩ := dictAt_at ok he
    subst g2
    have hjσ : j < σ.length := by rw [ok.len]; exact hj
    have lens : kvs.length = ds.length := by have := g3.len; rwa [List.length_map] at this
    refine ⟨d, .dK kvs, hd, trivial, fun od => ?_⟩
    refine ⟨.ref d, h1, d, od, rfl, .inl ⟨kvs, upd_same, ?_⟩⟩
    intro D hD
    have nD : D ≠ d := fun z => by rw [z, upd_same] at hD; cases hD
    have hD' : H D = none := by rw [upd_ne nD] at hD; exact hD
    refine dc_it (n := kvs.length) walk_keys (fun m Hc => Hc d = some (.frz od (.dK kvs)) ∧ Hc D = some (.dK (kvs.take m)) ∧ ∀ b, b ≠ d → b ≠ D → Hc b = H b) ⟨by rw [upd_ne (Ne.symm nD), upd_same], by rw [upd_same]; rfl, fun b n1 n2 => by rw [upd_ne n2, upd_ne n1]⟩ (fun m Hc _ ⟨fz, _⟩ => fz) ?_ ?_
    · rintro m x Hc H' hlt ⟨fz, hDl, ob⟩ ⟨rfl, k, w, hk, rfl⟩
      have wv : valV kvs k = some w := valV_at kvs m k w nd hk
      have sj : ((wipe σ [j]).set j (some (kV k)))[j]? = some (some (kV k)) := List.getElem?_set_self (by rw [wipe_length]; exact hjσ)
      have si : ((wipe σ [j]).set j (some (kV k)))[i]? = some (some (.ref d)) := by
        show ((σ.set j none).set j (some (kV k)))[i]? = _
        rw [List.getElem?_set_ne (Ne.symm hij), List.getElem?_set_ne (Ne.symm hij)]
        exact h1
      refine ⟨?_, ?_⟩
      · show (((σ.set j none).set j (some (kV k))).set j none) = σ.set j none
        rw [List.set_set, List.set_set]
      · unfold tYes
        refine ifT ?_
        have nk : k ∉ (kvs.take m).map (·.1) := fun hm => by
          obtain ⟨p, hp, e⟩ := List.mem_map.mp hm
          obtain ⟨n, hn⟩ := List.getElem?_of_mem hp
          have hn2 : n < m := by
            have := (List.getElem?_eq_some_iff.mp hn).1
            rw [List.length_take] at this
            omega
          rw [List.getElem?_take_of_lt hn2] at hn
          have e1 : (kvs.map (·.1))[n]? = some k := by rw [List.getElem?_map, hn]; exact congrArg some e
          have e2 : (kvs.map (·.1))[m]? = some k := by rw [List.getElem?_map, hk]; rfl
          have l1 := (List.getElem?_eq_some_iff.mp e1).1
          have := (List.getElem?_inj l1 nd).mp (e1.trans e2.symm)
          omega
        refine ⟨kV k, sj, .ref d, si, kV k, sj, d, w, rfl, .inl ⟨kvs, k, .inr ⟨od, fz⟩, rfl, wv.symm⟩, kvs.take m, k, rfl, hDl, Evl.sz_lt (by rw [List.length_take]; omega), ?_, ?_, ?_⟩
        · rw [upd_ne (Ne.symm nD)]; exact fz
        · rw [upd_same, putK_new nk, List.take_add_one, hk]; rfl
        · intro b n1 n2
          rw [upd_ne n2]
          exact ob b n1 n2
    · rintro Hc ⟨fz, hDl, ob⟩
      rw [List.take_length] at hDl
      have ee : upd Hc d (.dK kvs) = upd H D (.dK kvs) := by
        funext b
        by_cases hb : b = d
        · subst hb; rw [upd_same, upd_ne (Ne.symm nD), hd]
        · rw [upd_ne hb]
          by_cases hb2 : b = D
          · subst hb2; rw [upd_same, hDl]
          · rw [upd_ne hb2]; exact ob b hb hb2
      refine ⟨fz, ?_⟩
      rw [ee]
      have al : Al V H V (upd H D (.dK kvs)) := Al.hid ok.sub hD'
      exact q _ V _ (al.adv ok) ⟨D, rfl, .inl hD', Evl.fresh_back ok.sub hD', fun w => ok.notOwn hD' w, kvs, upd_same, rfl, g3⟩
  · cases e
end
/-! a while loop without a bound of its own -/
theorem wloop_up {c : EvT} {s : StF} {fl : Fl} : ∀ {n m : Nat} {env : Nv}, wloop c s n env = some fl → n ≤ m → wloop c s m env = some fl
  | 0, _, _, h, _ => by cases h
  | n + 1, 0, _, _, hm => by omega
  | n + 1, m + 1, env, h, hm => by
    unfold wloop at h ⊢
    rw [Option.bind_eq_some_iff] at h ⊢
    obtain ⟨p, h1, h2⟩ := h
    refine ⟨p, h1, ?_⟩
    split at h2
    · rename_i hp
      rw [if_pos hp]
      cases hb : s p.2 with
      | none => rw [hb] at h2; cases h2
      | some f =>
        rw [hb] at h2
        cases f with
        | next e => exact wloop_up h2 (by omega)
        | cont e => exact wloop_up h2 (by omega)
        | brk e => exact h2
        | ret r e => exact h2
    · rename_i hp
      rw [if_neg hp]
      exact h2
open Classical in
noncomputable def wloopU (c : EvT) (s : StF) : StF := fun env => if h : ∃ n, (wloop c s n env).isSome = true then wloop c s h.choose env else none
theorem wloopU_of {c : EvT} {s : StF} {fl : Fl} {n : Nat} {env : Nv} (h : wloop c s n env = some fl) : wloopU c s env = some fl := by
  have hx : ∃ n, (wloop c s n env).isSome = true := ⟨n, by rw [h]; rfl⟩
  unfold wloopU
  rw [dif_pos hx]
  obtain ⟨fl', h'⟩ := Option.isSome_iff_exists.mp hx.choose_spec
  have e1 := wloop_up h' (Nat.le_max_left hx.choose n)
  have e2 := wloop_up h (Nat.le_max_right hx.choose n)
  rw [h', ← e2, e1]
theorem sds_whileU {K : PySem.W.Frag} {tc : TT} {tb : TS} {c : EvT} {body : StF} (hc : SdT K tc c) (hb : SdS K tb body) : SdS K (tWhile tc tb) (wloopU c body) := by
  intro env fl e
  unfold wloopU at e
  split at e
  · rename_i h
    exact sds_while h.choose hc hb env fl e
  · cases e
section
variable {X : Cx} {k : Nat} {a b c : Expr} {pos : Pos} {f g : EvF} {fc : EvT} {body : StF} {bs os : List Stmt}
theorem tdDIn (hr : Room k X.A) (hm : behindInMarks .In b = false) (hb : PD X a g) (ha : PD X b f) : TD X (.Compare a [.In] [b] pos) (iTst (iDIn false g f)) :=
  let ⟨_, g1, k1⟩ := hb; let ⟨_, g2, k2⟩ := ha; ⟨_, pt_cmp (pc_din (hu_of hr) g1 g2) hm, sdt_test (sd_din k1 k2).1⟩
theorem tdDNotIn (hr : Room k X.A) (hm : behindInMarks .NotIn b = false) (hb : PD X a g) (ha : PD X b f) : TD X (.Compare a [.NotIn] [b] pos) (iTst (iDIn true g f)) :=
  let ⟨_, g1, k1⟩ := hb; let ⟨_, g2, k2⟩ := ha; ⟨_, pt_cmp (pc_dnotin (hu_of hr) g1 g2) hm, sdt_test (sd_din k1 k2).2⟩
end
theorem stWhileU {X : Cx} {c : Expr} {pos : Pos} {body : List Stmt} {fc : EvT} {g : StF} (hc : TD X c fc) (hb : BD X body g) (hp : PassesOwn (model X.prog X.w) X.A X.env X.xe) : StD X (.While c body [] pos) (wloopU fc g) := let ⟨_, h0, k0⟩ := hc; let ⟨_, h1, k1⟩ := hb; ⟨_, ps_while hp h0 h1, sds_whileU k0 k1⟩
section
variable {X : Cx} {x y z : Str}
theorem stCopyD {k : Nat} {scope : Scope} {pz px px2 py py2 py3 pos2 pos spos : Pos} (ow : Bool) (a i j : Nat) (hr : Room k X.A) (hc : X.calm = true) (nd : X.N.Nodup) (hz : X.N[a]? = some z) (hzl : X.env.scope.names.lookup z = some .local)
    (hsw : swapsWith (.DictComp (.Name y py2) (.Subscript (.Name x px2) (.Name y py3) pos2) [⟨.Name y py, .Name x px, [], 0⟩] scope pos) (some (.Name z pz)) spos.line X.env = pure true) (ok : BlkOk X.N X.env.scope scope [(y, j)]) (hi : PE X (.Name x px) (tVar i))
    (hg : ∀ (s : Shared) (H : Hp) (C : Addr) (cl : List (Str × Addr)) (fp : List Addr), PG (X.blk s H scope (compEnvC scope cl C X.env) fp) (.Name y py) (gName j))
    (hk : ∀ (s : Shared) (H : Hp) (C : Addr) (cl : List (Str × Addr)) (fp : List Addr), PE (X.blk s H scope (compEnvC scope cl C X.env) fp) (.Name y py2) (tVar j))
    (ht : ∀ (s : Shared) (H : Hp) (C : Addr) (cl : List (Str × Addr)) (fp : List Addr), PE (X.blk s H scope (compEnvC scope cl C X.env) fp) (.Name x px2) (tVar i))
    (hk2 : ∀ (s : Shared) (H : Hp) (C : Addr) (cl : List (Str × Addr)) (fp : List Addr), PE (X.blk s H scope (compEnvC scope cl C X.env) fp) (.Name y py3) (tVar j)) :
    StD X (.Assign [.Name z pz] (.DictComp (.Name y py2) (.Subscript (.Name x px2) (.Name y py3) pos2) [⟨.Name y py, .Name x px, [], 0⟩] scope pos) spos) (iAsg ow a (iCopyD i j)) :=
  ⟨tAsg (tLockE (tDc (iKeys (tVar i)) (gName j) tYes (tVar j) (tDGet (tVar i) (tVar j)) [j])) (gName a),
    ps_lock (ps_setDc (own := [(y, j)]) hc nd hz hzl hsw (pi_keys hi) ok hg (fun _ _ _ _ _ => pts_nil) hk (fun s H C cl fp => pe_dget (X := X.blk s H scope (compEnvC scope cl C X.env) fp) (hu_of hr) (ht s H C cl fp) (hk2 s H C cl fp) (by intro _ _; rfl))),
    sds_asg sd_copyD⟩
end
end DL

/-! Two fors in one comprehension. -/
namespace DL
open PySem PySem.Spec PyProof.Rows L2
open Evl (Ex)
section
variable {K : PySem.W.Frag} {σ σ1 σ2 : L2.St} {env env1 env2 : Nv} {V H V1 H1 V2 H2 : Hp} {v : L2.V} {te : TE}
theorem wipe_sub {vs : List Nat} : ∀ {us : List Nat} {σ : L2.St}, (∀ i ∈ us, i ∈ vs) → wipe (wipe σ us) vs = wipe σ vs
  | [], _, _ => rfl
  | u :: us, σ, h => by
    show wipe ((wipe σ us).set u none) vs = _
    rw [wipe_set (h u List.mem_cons_self), wipe_sub fun i hi => h i (List.mem_cons_of_mem _ hi)]
theorem adv_hid2 {Dl : Addr} {o : HO} (a : Adv K σ1 env1 σ2 env2 V1 H1 V2 H2) (h0 : H1 Dl = some o) (hv : V1 Dl = none) (hn : ¬ Own env1 σ1 Dl) (ht : NT o := by intro q z; cases z) (htt : ∀ xs, o ≠ .tup xs := by intro q z; cases z) : H2 Dl = some o ∧ V2 Dl = none := by
  refine ⟨a.keep Dl o h0 hn ht, ?_⟩
  cases y : V2 Dl with
  | none => rfl
  | some o2 =>
    rcases a.fr Dl (by rw [y]; exact fun z => by cases z) with m | m | m
    · exact absurd hv m
    · exact (m.not h0 ht htt).elim
    · exact absurd m.own hn
def lc2Loop (g : TgF) (c : EvT) (it1 : ItF) (g1 : TgF) (c1 : EvT) (f : EvF) (vs vs1 : List Nat) : List D → Nv → List D → Option (List D × Nv)
  | [], env, acc => some (acc, env)
  | d :: ds, env, acc => (g env d).bind fun e1 => (c e1).bind fun p => if p.1 = true then
      (it1 p.2).bind fun q => (wipeN q.2 vs1).bind fun e4 => (lcLoop g1 c1 f vs1 q.1 e4 acc).bind fun r => (wipeN r.2 vs).bind fun e6 => lc2Loop g c it1 g1 c1 f vs vs1 ds e6 r.1
    else (wipeN p.2 vs).bind fun e3 => lc2Loop g c it1 g1 c1 f vs vs1 ds e3 acc
def iLc2 (it : ItF) (g : TgF) (c : EvT) (it1 : ItF) (g1 : TgF) (c1 : EvT) (f : EvF) (vs vs1 : List Nat) : EvF := fun env => (it env).bind fun p => (wipeN p.2 vs).bind fun e1 => (lc2Loop g c it1 g1 c1 f vs vs1 p.1 e1 []).bind fun q => some (.new (.list q.1), q.2)
theorem sd_lc2 {wi wi1 : TI} {it it1 : ItF} {tg tg1 : TG} {g g1 : TgF} {tt tt1 : TT} {c c1 : EvT} {f : EvF} {vs vs1 : List Nat} (hi : SdW K wi it) (hg : SdGv K tg g vs) (hc : SdT K tt c) (hi1 : SdW K wi1 it1) (hg1 : SdGv K tg1 g1 vs1) (hc1 : SdT K tt1 c1) (hf : Sd K te f) (hvs : ∀ i ∈ vs1, i ∈ vs) :
    Sd K (tLc2 wi tg tt wi1 tg1 tt1 te vs vs1) (iLc2 it g c it1 g1 c1 f vs vs1) := by
  intro env res env' e σ V H ok Q q
  simp only [iLc2, Option.bind_eq_some_iff] at e
  obtain ⟨⟨ds, e0⟩, h1, e1, h2, ⟨out, e2⟩, h3, h4⟩ := e
  cases h4
  refine hi _ _ _ h1 σ V H ok _ fun J V' H' a wk Dl hD => ?_
  obtain ⟨n, G, Y, rfl, wlk, hG, hY⟩ := wk
  obtain ⟨aw, as⟩ := adv_wipe a h2
  have vD : V' Dl = none := Evl.fresh_back a.ok.sub hD
  have hD0 : H Dl = none := by
    cases y : H Dl with
    | none => rfl
    | some o => exact absurd hD (a.dom Dl (by rw [y]; exact fun z => by cases z))
  refine ⟨fun i m Hx => m = ds.length - i ∧ i ≤ ds.length ∧ ∃ V1 env1 acc xs, Adv K σ env (wipe σ vs) env1 V H V1 Hx ∧ Adv K σ env σ env1 V H V1 Hx ∧ Ex V' V1 ∧ V1 Dl = none ∧ ¬ Own env1 (wipe σ vs) Dl ∧ Hx Dl = some (.lst xs) ∧ RA K V1 xs acc ∧ (∀ j, j ∈ vs → env1[j]? = some .no) ∧ lc2Loop g c it1 g1 c1 f vs vs1 (ds.drop i) env1 acc = some (out, e2), ⟨ds.length, by simp, Nat.zero_le _, ?_⟩, ?_⟩
  · have nO : ¬ Own e1 (wipe σ vs) Dl := aw.ok.notOwn hD
    have nO2 : ¬ Own e1 σ Dl := as.ok.notOwn hD
    exact ⟨V', e1, [], [], adv_grow aw hD0 vD nO ok.tabs, adv_grow as hD0 vD nO2 ok.tabs, Evl.Ex.refl _, vD, nO, upd_same, .nil, wipeN_clean h2, h3⟩
  · rintro i m Hx ⟨rfl, hin, V1, env1, acc, xs, b, b', x1, d1, d2, d3, d4, d5, hl⟩
    have gx := hG V1 Hx x1 b.ok.sub
    rcases Nat.eq_or_lt_of_le hin with ei | hlt
    · subst ei
      rw [List.drop_length] at hl
      cases hl
      exact .inl ⟨wlk.stops Hx gx, q _ V1 Hx b' ⟨Dl, rfl, .inl hD0, d1, fun w => d2 (own_orig d5 w), xs, d3, d4⟩⟩
    refine .inr ⟨wlk.goes i Hx hlt gx, fun H' => ∃ V1 env1 acc xs, Adv K σ env (wipe σ vs) env1 V H V1 H' ∧ Adv K σ env σ env1 V H V1 H' ∧ Ex V' V1 ∧ V1 Dl = none ∧ ¬ Own env1 (wipe σ vs) Dl ∧ H' Dl = some (.lst xs) ∧ RA K V1 xs acc ∧ (∀ j, j ∈ vs → env1[j]? = some .no) ∧ lc2Loop g c it1 g1 c1 f vs vs1 (ds.drop (i + 1)) env1 acc = some (out, e2), fun H' p => ⟨ds.length - (i + 1), by omega, rfl, hlt, p⟩, fun x H' y => ?_⟩
    obtain ⟨V2, al, r⟩ := hY i ds[i] V1 Hx x H' (List.getElem?_eq_getElem hlt) x1 b.ok.sub (wlk.yields i Hx x H' hlt gx y)
    rw [List.drop_eq_getElem_cons hlt] at hl
    simp only [lc2Loop, Option.bind_eq_some_iff] at hl
    obtain ⟨e3, k1, ⟨bb, e4⟩, k2, k3⟩ := hl
    have b2 := al.adv b.ok
    refine hg _ _ _ k1 (wipe σ vs) V2 H' x b2.ok r _ fun σ3 a3 w3 => ⟨by rw [w3, wipe_wipe], ?_⟩
    refine hc _ _ _ k2 σ3 V2 H' a3.ok _ fun V4 H4 a4 => ?_
    have a5 := (b2.trans a3).trans a4
    cases bb with
    | false =>
      rw [if_neg Bool.false_ne_true]
      rw [if_neg Bool.false_ne_true] at k3
      simp only [Option.bind_eq_some_iff] at k3
      obtain ⟨e6, g6, g7⟩ := k3
      have a8 : Adv K (wipe σ vs) env1 (wipe σ vs) e6 V1 Hx V4 H4 := by
        have a7 := (adv_wipe a5 g6).1
        rw [w3, wipe_wipe] at a7
        exact a7
      obtain ⟨y1, y2⟩ := adv_hid2 a8 d3 d1 d2
      have a9 := b.trans a8
      have nO : ¬ Own e6 (wipe σ vs) Dl := fun w => by
        rcases a8.own Dl w with m | m
        · exact d2 m
        · rw [d3] at m; cases m
      have clean := wipeN_clean g6
      exact ⟨V4, e6, acc, xs, a9, adv_orig a9 clean, x1.trans a8.ex, y2, nO, y1, RA.mono a8.ex _ _ d4, clean, g7⟩
    | true =>
      rw [if_pos rfl]
      rw [if_pos rfl] at k3
      simp only [Option.bind_eq_some_iff] at k3
      obtain ⟨⟨ds1, e5⟩, k4, e6, k5, ⟨acc9, e9⟩, k6, e10, k7, k8⟩ := k3
      refine hi1 _ _ _ k4 σ3 V4 H4 a5.ok _ fun J1 V5 H5 a6 wk1 => ?_
      obtain ⟨n1, G1, Y1, rfl, wlk1, hG1, hY1⟩ := wk1
      have a7 := a5.trans a6
      obtain ⟨y1, y2⟩ := adv_hid2 a7 d3 d1 d2
      have a7w := (adv_wipe a7 k5).1
      have nO5 : ¬ Own e6 (wipe σ3 vs1) Dl := fun w => by
        rcases a7w.own Dl w with m | m
        · exact d2 m
        · rw [d3] at m; cases m
      refine ⟨fun j k Hy => k = ds1.length - j ∧ j ≤ ds1.length ∧ ∃ V6 env6 acc6 xs6, Adv K σ env (wipe σ3 vs1) env6 V H V6 Hy ∧ Ex V5 V6 ∧ V6 Dl = none ∧ ¬ Own env6 (wipe σ3 vs1) Dl ∧ Hy Dl = some (.lst xs6) ∧ RA K V6 xs6 acc6 ∧ lcLoop g1 c1 f vs1 (ds1.drop j) env6 acc6 = some (acc9, e9), ⟨ds1.length, by simp, Nat.zero_le _, V5, e6, acc, xs, b.trans a7w, Evl.Ex.refl _, y2, nO5, y1, RA.mono a7.ex _ _ d4, k6⟩, ?_⟩
      rintro j k Hy ⟨rfl, hjn, V6, env6, acc6, xs6, c6, x6, u1, u2, u3, u4, hl6⟩
      have gy := hG1 V6 Hy x6 c6.ok.sub
      rcases Nat.eq_or_lt_of_le hjn with ej | hjl
      · subst ej
        rw [List.drop_length] at hl6
        cases hl6
        refine .inl ⟨wlk1.stops Hy gy, ?_⟩
        have cw := (adv_wipe c6 k7).1
        have rw' := (adv_wipe (Adv.refl c6.ok) k7).1
        rw [wipe_sub hvs, w3, wipe_wipe] at cw rw'
        have nO : ¬ Own e10 (wipe σ vs) Dl := fun w => by
          rcases rw'.own Dl w with m | m
          · exact u2 m
          · rw [u3] at m; cases m
        have clean := wipeN_clean k7
        exact ⟨V6, e10, acc9, xs6, cw, adv_orig cw clean, x1.trans (a7.ex.trans x6), u1, nO, u3, u4, clean, k8⟩
      refine .inr ⟨wlk1.goes j Hy hjl gy, fun H' => ∃ V6 env6 acc6 xs6, Adv K σ env (wipe σ3 vs1) env6 V H V6 H' ∧ Ex V5 V6 ∧ V6 Dl = none ∧ ¬ Own env6 (wipe σ3 vs1) Dl ∧ H' Dl = some (.lst xs6) ∧ RA K V6 xs6 acc6 ∧ lcLoop g1 c1 f vs1 (ds1.drop (j + 1)) env6 acc6 = some (acc9, e9), fun H' p => ⟨ds1.length - (j + 1), by omega, rfl, hjl, p⟩, fun x H' y => ?_⟩
      obtain ⟨V7, al7, r7⟩ := hY1 j ds1[j] V6 Hy x H' (List.getElem?_eq_getElem hjl) x6 c6.ok.sub (wlk1.yields j Hy x H' hjl gy y)
      rw [List.drop_eq_getElem_cons hjl] at hl6
      simp only [lcLoop, Option.bind_eq_some_iff] at hl6
      obtain ⟨e11, p1, ⟨b1, e12⟩, p2, p3⟩ := hl6
      have c7 := al7.adv c6.ok
      refine hg1 _ _ _ p1 (wipe σ3 vs1) V7 H' x c7.ok r7 _ fun σ8 a8 w8 => ⟨by rw [w8, wipe_wipe], ?_⟩
      refine hc1 _ _ _ p2 σ8 V7 H' a8.ok _ fun V9 H9 a9 => ?_
      have a10 := (c7.trans a8).trans a9
      have back : ∀ (V5 H5 : Hp) (e5 e6 : Nv), Adv K (wipe σ3 vs1) env6 σ8 e5 V6 Hy V5 H5 → wipeN e5 vs1 = some e6 → Adv K (wipe σ3 vs1) env6 (wipe σ3 vs1) e6 V6 Hy V5 H5 := by
        intro V5 H5 e5 e6 a6 hw
        have a7 := (adv_wipe a6 hw).1
        rw [w8, wipe_wipe] at a7
        exact a7
      cases b1 with
      | true =>
        rw [if_pos rfl]
        rw [if_pos rfl] at p3
        simp only [Option.bind_eq_some_iff] at p3
        obtain ⟨⟨rr, e13⟩, p4, yy, p5, e14, p6, p7⟩ := p3
        split at p7
        · rename_i hz
          refine opd_snd hf p4 a9.ok fun z V10 H10 a11 kk => ?_
          have a12 := back V10 H10 e13 e14 (a10.trans a11) p6
          obtain ⟨z1, z2⟩ := adv_hid2 a12 u3 u1 u2
          have rz : R K V10 z yy := by
            cases rr with
            | val d' => cases p5; exact kk
            | new d' => exact kk.elim
            | own j => cases p5
          have nO : ¬ Own e14 (wipe σ3 vs1) Dl := fun w => by
            rcases a12.own Dl w with m | m
            · exact u2 m
            · rw [u3] at m; cases m
          exact ⟨xs6, z1, Evl.sz_lt (by rw [u4.len]; exact hz), V10, e14, acc6 ++ [yy], xs6 ++ [z], adv_grow (c6.trans a12) hD0 z2 nO ok.tabs, x6.trans a12.ex, z2, nO, upd_same, (RA.mono a12.ex _ _ u4).append (.cons rz .nil), p7⟩
        · cases p7
      | false =>
        rw [if_neg Bool.false_ne_true]
        rw [if_neg Bool.false_ne_true] at p3
        simp only [Option.bind_eq_some_iff] at p3
        obtain ⟨e14, p6, p7⟩ := p3
        have a12 := back V9 H9 e12 e14 a10 p6
        obtain ⟨z1, z2⟩ := adv_hid2 a12 u3 u1 u2
        have nO : ¬ Own e14 (wipe σ3 vs1) Dl := fun w => by
          rcases a12.own Dl w with m | m
          · exact u2 m
          · rw [u3] at m; cases m
        exact ⟨V9, e14, acc6, xs6, c6.trans a12, x6.trans a12.ex, z2, nO, z1, RA.mono a12.ex _ _ u4, p7⟩
end

def cI (K : PySem.W.Frag) (f : ItF) : TI := fun σ H Q => ∀ t, SdW K t f → t σ H Q
theorem cI_sd {K : PySem.W.Frag} {f : ItF} : SdW K (cI K f) f := fun env ds env' e σ V H ok Rr q t ht => ht env ds env' e σ V H ok Rr q
theorem IW.canon {X : Cx} {tg e : Expr} {f : ItF} (h : IW X tg e f) : PI X tg e (cI X.K f) :=
  let ⟨t, h1, h2⟩ := h; ⟨fun pins s σ H Q I q => h1.run pins s σ H Q I (q t h2)⟩
section
variable {X : Cx} {elt tg iter tg1 iter1 : Expr} {ifs ifs1 : List Expr} {pos : Pos} {x : Str} {f : EvF}
theorem stAsgLc2 {scope : Scope} {own : List (Str × Nat)} {vs1 : List Nat} {it it1 : ItF} {g g1 : TgF} {fc fc1 : EvT} {py spos : Pos} (ow : Bool) (i : Nat) (hc : X.calm = true) (nd : X.N.Nodup) (hy : X.N[i]? = some x) (hyl : X.env.scope.names.lookup x = some .local)
    (hsw : swapsWith (.ListComp elt [⟨tg, iter, ifs, 0⟩, ⟨tg1, iter1, ifs1, 0⟩] scope pos) (some (.Name x py)) spos.line X.env = pure true) (hi : IW X tg iter it) (ok : BlkOk X.N X.env.scope scope own) (hv : ∀ i ∈ vs1, i ∈ own.map (·.2))
    (hg : ∀ (s : Shared) (H : Hp) (C : Addr) (cl : List (Str × Addr)) (fp : List Addr), GDv (X.blk s H scope (compEnvC scope cl C X.env) fp) tg g (own.map (·.2)))
    (ht : ∀ (s : Shared) (H : Hp) (C : Addr) (cl : List (Str × Addr)) (fp : List Addr), TsD (X.blk s H scope (compEnvC scope cl C X.env) fp) ifs fc)
    (hi1 : ∀ (s : Shared) (H : Hp) (C : Addr) (cl : List (Str × Addr)) (fp : List Addr), IW (X.blk s H scope (compEnvC scope cl C X.env) fp) tg1 iter1 it1)
    (hg1 : ∀ (s : Shared) (H : Hp) (C : Addr) (cl : List (Str × Addr)) (fp : List Addr), GDv (X.blk s H scope (compEnvC scope cl C X.env) fp) tg1 g1 vs1)
    (ht1 : ∀ (s : Shared) (H : Hp) (C : Addr) (cl : List (Str × Addr)) (fp : List Addr), TsD (X.blk s H scope (compEnvC scope cl C X.env) fp) ifs1 fc1)
    (he : ∀ (s : Shared) (H : Hp) (C : Addr) (cl : List (Str × Addr)) (fp : List Addr), PD (X.blk s H scope (compEnvC scope cl C X.env) fp) elt f) (hs : ∀ x, foldedSetIterable iter X.env x = pure x := by intro _; rfl) (hs1 : ∀ env x, foldedSetIterable iter1 env x = pure x := by intro _ _; rfl) :
    StD X (.Assign [.Name x py] (.ListComp elt [⟨tg, iter, ifs, 0⟩, ⟨tg1, iter1, ifs1, 0⟩] scope pos) spos) (iAsg ow i (iLc2 it g fc it1 g1 fc1 f (own.map (·.2)) vs1)) :=
  let ⟨_, h0, k0⟩ := hi
  ⟨_, ps_setLc2 (te := cE X.K f) (tt := cT X.K fc) (tt1 := cT X.K fc1) (g := cG X.K g (own.map (·.2))) (g1 := cG X.K g1 vs1) (wi1 := cI X.K it1) hc nd hy hyl hsw h0 ok hv (fun s H C cl fp => (hg s H C cl fp).canon) (fun s H C cl fp => (ht s H C cl fp).canon) (fun s H C cl fp => (hi1 s H C cl fp).canon) (fun s H C cl fp => (hg1 s H C cl fp).canon) (fun s H C cl fp => (ht1 s H C cl fp).canon) (fun s H C cl fp => (he s H C cl fp).canon) hs hs1,
    sds_asg (sd_lc2 k0 cG_sd cT_sd cI_sd cG_sd cT_sd cE_sd hv)⟩
end
end DL

/-! max of a list, list.count. -/
namespace DL
open PySem PySem.Spec PyProof.Rows L2
open Evl (Ex)
section
variable {K : PySem.W.Frag} {σ σ1 σ2 : L2.St} {env env1 env2 : Nv} {V H V1 H1 V2 H2 : Hp} {v : L2.V} {te to : TE} {ta : TA}
def mx : List Int → Int
  | [] => 0
  | [a] => a
  | a :: b :: as => max a (mx (b :: as))
theorem mx_ok : ∀ {ns : List Int}, 0 < ns.length → mx ns ∈ ns ∧ ∀ y ∈ ns, y ≤ mx ns
  | [], h => by simp at h
  | [a], _ => ⟨by simp [mx], fun y hy => by rw [List.mem_singleton.mp hy]; exact Int.le_refl _⟩
  | a :: b :: as, _ => by
    obtain ⟨h1, h2⟩ := mx_ok (ns := b :: as) (by simp)
    rw [mx]
    refine ⟨?_, fun y hy => ?_⟩
    · rcases Int.le_total a (mx (b :: as)) with h | h
      · rw [Int.max_eq_right h]; exact List.mem_cons_of_mem _ h1
      · rw [Int.max_eq_left h]; exact List.mem_cons_self
    · rcases List.mem_cons.mp hy with rfl | hy
      · exact Int.le_max_left _ _
      · exact Int.le_trans (h2 y hy) (Int.le_max_right _ _)
def gMax : D → Option Res
  | .list ds => (intsOf ds).bind fun ns => if 0 < ns.length then some (.val (.int (mx ns))) else none
  | _ => none
theorem call_max_ok : CallOk K (rMax K) (c1 gMax) := by
  intro V H vs ds res sub hv hg Q q
  unfold c1 at hg
  split at hg
  · obtain ⟨v, rfl, hx⟩ := hv.one
    unfold gMax at hg
    split at hg
    · simp only [Option.bind_eq_some_iff] at hg
      obtain ⟨bs, h1, h2⟩ := hg
      split at h2
      · rename_i hne
        cases h2
        obtain ⟨a, xs, rfl, k1, k2⟩ := hx.list sub
        rw [intsOf_eq h1] at k2
        rw [k2.ofInts] at k1
        refine ⟨a, bs, rfl, k1, hne, fun m hm hall => ?_⟩
        obtain ⟨m1, m2⟩ := mx_ok hne
        have : m = mx bs := Int.le_antisymm (m2 m hm) (hall _ m1)
        rw [this]
        exact q _ V H (Al.refl sub) (.int _)
      · cases h2
    · cases hg
  · cases hg
def rCnt (K : PySem.W.Frag) : L2.V → List L2.V → Hp → VK → Prop := fun x xs H Q => ∃ (a : Addr) (i : Int) (ds : List PyData), x = L2.V.ref a ∧ xs = [L2.V.int i] ∧ Dp K H (L2.V.ref a) (.list ds) ∧ PyData.canLayAll0 ds = true ∧ Q (.int ((ds.countP fun y => PyData.eqv y (.int i) : Nat) : Int)) H
theorem mt_cnt {X : Cx} (hu : X.A.units + 1 < cLine) : MtR X "list.count" (rCnt X.K) := by
  intro pins s σ H x xs v us Q I rx rxs h
  obtain ⟨a, i, ds, rfl, rfl, hl, hxs, q⟩ := h
  cases rx
  cases rxs with
  | cons ry rt =>
    rename_i uy ut
    cases rt
    obtain ⟨bs, r1⟩ := Dp.reads I (.int i) (.int i) uy (.int i) ry
    have hroom : X.A.units + 1 + min (PyData.depthAll ds) (PyData.depth (.int i)) < cLine := by
      have : PyData.depth (.int i) = 0 := by simp [PyData.depth]
      rw [this, Nat.min_zero]
      omega
    cases hl with
    | lst hs ha =>
      obtain ⟨its, rv, ⟨⟨cls, dd, data, sls⟩, n, ho, hc, hdn, hdt⟩, hlen⟩ := I.list hs
      simp only at hc hdt
      subst hc hdt
      obtain ⟨as, h4⟩ := Dp.readsAll I ds _ its ha rv
      have hmap : its.map (SeqAt.readOf s.heap) = ds := SeqAt.readsAll_map ds its as hxs h4
      refine call_meets PySem.F.slot_list_count ⟨_, ho, rfl⟩ PySem.F.entry_list_count (PySem.F.args_list_count_2 _ _)
        (SeqAt.list_countAt a its.toArray n dd sls uy (fun u => PyData.eqv (SeqAt.readOf s.heap u) (.int i))) ⟨ho, SeqAt.items_eqAt (vs := its.toArray) (show ReadsAll s.heap its.toArray.toList ds as from h4) r1 hxs (by simp [PyData.canLay0]) hroom, ?_⟩
      have e : its.toArray.toList.countP (fun u => PyData.eqv (SeqAt.readOf s.heap u) (.int i)) = ds.countP fun y => PyData.eqv y (.int i) := by
        rw [← hmap, List.countP_map]
        rfl
      rw [e]
      exact ⟨.int _, H, I.tok _, ⟨_, rfl⟩, q⟩
def iCnt (fo : EvF) (fs : EvA) : EvF := fun env => (opd fo env).bind fun p => match p.1 with
  | .val (.list xs) => (fs p.2).bind fun q => match q.1 with
    | [.val (.int i)] => (toPy.toPys xs).bind fun ps => if PyData.canLayAll0 ps = true then some (.val (.int ((ps.countP fun y => PyData.eqv y (.int i) : Nat) : Int)), q.2) else none
    | _ => none
  | _ => none
theorem R.tyList {a : L2.V} {ds : List D} (h : R K H a (.list ds)) : tyV K "list" a H := by
  cases h with
  | list hs _ => exact .inl ⟨rfl, _, hs⟩
theorem sd_cnt {fo : EvF} {fs : EvA} (ho : Sd K to fo) (ha : SdA K ta fs) : Sd K (tBM K "list" (rCnt K) to ta) (iCnt fo fs) := by
  intro env res env' e σ V H ok Q q
  simp only [iCnt, Option.bind_eq_some_iff] at e
  obtain ⟨⟨r, e1⟩, h1, h2⟩ := e
  refine opd_snd ho h1 ok fun x V1 H1 a1 k1 => ?_
  split at h2
  · rename_i xs hr
    have hr' : r = .val (.list xs) := hr
    subst hr'
    simp only [Option.bind_eq_some_iff] at h2
    obtain ⟨⟨rs, e2⟩, h3, h4⟩ := h2
    have k1' : R K V1 x (.list xs) := k1
    refine ⟨R.tyList (R.mono a1.ok.sub _ _ k1'), ?_⟩
    refine ha _ _ _ h3 σ V1 H1 a1.ok _ fun vs V2 H2 a2 k2 => ?_
    split at h4
    · rename_i i hrs
      have hrs' : rs = [.val (.int i)] := hrs
      subst hrs'
      simp only [Option.bind_eq_some_iff] at h4
      obtain ⟨ps, h5, h6⟩ := h4
      split at h6
      · rename_i hcan
        cases h6
        have k3 : R K H2 x (.list xs) := R.mono (a2.ex.trans a2.ok.sub) _ _ k1'
        have k4 := dp_of _ _ (.list ps) k3 (by simp only [toPy, h5, Option.map_some])
        cases k2 with
        | cons k5 k6 =>
          cases k6
          have k5' : R K V2 _ (.int i) := k5
          cases k5'
          cases k3 with
          | list hs hr => exact ⟨_, i, ps, rfl, rfl, k4, hcan, q _ V2 H2 (a1.trans a2) (R.int _)⟩
      · cases h6
    · cases h4
  · cases h2
end
section
variable {X : Cx} {k : Nat} {o e : Expr} {pos p : Pos} {f : EvF} {fs : EvA}
theorem bMax (hc : X.calm = true) (m : X.mg "max" = none) (hg : Gl X "max") (ha : AD X [e] fs) (he : starEach [e] X.env = (false, eval e X.env) :: starEach [] X.env := by rfl) : PD X (.Call (.Name "max" p) [e] [] pos) (iCB (c1 gMax) fs) :=
  pdB (cr_max hc) call_max_ok hg m (by decide +kernel) ha (by decide) (by decide) he
theorem pdCnt {apos cpos : Pos} (hr : Room k X.A) (ho : PD X o f) (ha : AD X [e] fs)
    (hbase : attributeBase o "count" X.env (eval o X.env) = eval o X.env := by rfl)
    (hfew : ((backTo cpos (starEach [e] X.env)).all (fun x => !x.1) && (backToKw cpos (keywordEach [] X.env)).all (fun x => x.1.isSome)
      && decide ([e].length + ([] : List Keyword).length + (if ([] : List Keyword).isEmpty then 0 else 1) < 30)) = true := by rfl)
    (hline : (apos.endLine == cpos.line) = true := by rfl) (hs : starEach [e] X.env = (false, eval e X.env) :: starEach [] X.env := by rfl) (hplain : (backTo cpos (starEach [] X.env)).any (·.1) = false := by rfl) :
    PD X (.Call (.Attribute o "count" apos) [e] [] cpos) (iCnt f fs) :=
  let ⟨_, h1, k1⟩ := ho; let ⟨_, h2, k2⟩ := ha
  ⟨_, pe_bm PySem.F.plainAttrs_list PySem.F.slot_list_count PySem.F.type_list_count (mt_cnt (hu_of hr)) h1 h2 hbase hfew hline hs hplain, sd_cnt k1 k2⟩
end
end DL

/-! A generator expression, walked while an invariant of one's own holds: Inn i, ahead of the i-th item. -/
namespace GX
open PySem
open Sem (wp)
section
variable {prog : Program} {w : World} {A : Around}
def gR (Fn : Shared → Prop) : GenEnd := fun n _ r s => r = .ok .next ∧ n = 1 ∧ Fn s
/-- behind item i the walk goes on where ct i; live i: it has come to item i -/
def live (ct : Nat → Bool) (i : Nat) : Prop := ∀ j, j < i → ct j = true
theorem live_succ {ct : Nat → Bool} {i : Nat} (h : live ct i) (e : ct i = true) : live ct (i + 1) := fun j hj => by
  by_cases z : j = i
  · rw [z]; exact e
  · exact h j (by omega)
def gY (n : Nat) (ct : Nat → Bool) (F : Nat → Value → Prop) (Inn Out : Nat → Shared → Prop) : Protocol := fun m _ v s kap => ∃ i, i + m = n ∧ i < n ∧ F i v ∧ Out (i + 1) s ∧ (ct i = true → ∀ s'', Inn (i + 1) s'' → kap (.send .none) s'')
theorem seg_loop {elt iter tg : Expr} {scope : Scope} {pos : Pos} {I : Addr} {cenv : Env} {n : Nat} {ct : Nat → Bool} {F : Nat → Value → Prop} {Inn Out : Nat → Shared → Prop} {Fn : Shared → Prop}
    (hco : cenv.scope.isCoroutine = false)
    (step : ∀ i s, i < n → live ct i → Inn i s → wpAny (model prog w) (A.over (.compLoop (.GeneratorExp elt [⟨tg, iter, [], 0⟩] scope pos) 0 (.ref I) .none cenv) []) (pyNext (.ref I)) (fun r s1 => ∃ v, r = some v ∧
      wpAny (model prog w) (A.over (.compLoop (.GeneratorExp elt [⟨tg, iter, [], 0⟩] scope pos) 0 (.ref I) .none cenv) []) (letOwnedTupleGo tg (.ref I) v) (fun _ s1' =>
      wpAny (model prog w) (A.over (.compLoop (.GeneratorExp elt [⟨tg, iter, [], 0⟩] scope pos) 0 (.ref I) .none cenv) []) (assign tg cenv v) (fun _ s2 =>
        wpAny (model prog w) (A.over (.compLoop (.GeneratorExp elt [⟨tg, iter, [], 0⟩] scope pos) 0 (.ref I) .none cenv) []) (eval elt cenv) (fun y s3 => F i y ∧ Out (i + 1) s3) (fun _ _ => False) s2) (fun _ _ => False) s1') (fun _ _ => False) s1) (fun _ _ => False) s)
    (last : ∀ s, live ct n → Inn n s → wpAny (model prog w) (A.over (.compLoop (.GeneratorExp elt [⟨tg, iter, [], 0⟩] scope pos) 0 (.ref I) .none cenv) []) (pyNext (.ref I)) (fun r s1 => r = none ∧ Fn s1) (fun _ _ => False) s) :
    ∀ (k i : Nat) (s₀ s : Shared), n - i = k → i ≤ n → live ct i → Inn i s →
      Seg (model prog w) A (gR Fn) (gY n ct F Inn Out) (k + 1) s₀
        (.compLoop (.GeneratorExp elt [⟨tg, iter, [], 0⟩] scope pos) 0 (.ref I) .none cenv)
        ((model prog w).den (.compLoop (.GeneratorExp elt [⟨tg, iter, [], 0⟩] scope pos) 0 (.ref I) .none cenv)) [] s := by
  intro k
  induction k with
  | zero =>
    intro i s₀ s hk hi hlv hin
    have e : i = n := by omega
    subst e
    show Seg _ A _ _ _ s₀ _ ((compTurn (.GeneratorExp elt [⟨tg, iter, [], 0⟩] scope pos) 0 (.ref I) .none cenv).onRaise (leaving cenv)) [] s
    rw [compTurn_gen, Sem.onRaise_eq_wrap]
    refine seg_bind_wrap (wpAny_standAt ?_)
    refine seg_bind_wrap (wpAny_mono (last s hlv hin) (fun r s1 h => ?_) fun _ _ e => e.elim)
    obtain ⟨rfl, hF⟩ := h
    exact seg_end (.ok .next) ⟨rfl, rfl, hF⟩
  | succ k ih =>
    intro i s₀ s hk hi hlv hin
    have hlt : i < n := by omega
    show Seg _ A _ _ _ s₀ _ ((compTurn (.GeneratorExp elt [⟨tg, iter, [], 0⟩] scope pos) 0 (.ref I) .none cenv).onRaise (leaving cenv)) [] s
    rw [compTurn_gen, Sem.onRaise_eq_wrap]
    refine seg_bind_wrap (wpAny_standAt ?_)
    refine seg_bind_wrap (wpAny_mono (step i s hlt hlv hin) (fun r s1 h1 => ?_) fun _ _ e => e.elim)
    obtain ⟨v, rfl, h1⟩ := h1
    refine seg_bind_wrap (wpAny_mono h1 (fun _ s1' h1' => ?_) fun _ _ e => e.elim)
    refine seg_bind_wrap (wpAny_mono h1' (fun _ s2 h2 => ?_) fun _ _ e => e.elim)
    refine seg_bind_wrap (wpAny_of_eq (a := true) (by rfl) ?_)
    simp only [if_true]
    have hy : ∀ v, yieldOut cenv v = yieldValue v := fun v => by simp only [yieldOut, hco, Bool.false_eq_true, if_false]
    simp only [hy]
    rw [Sem.bind_eq_wrap', Sem.bind_eq_wrap', Sem.wrap_wrap, Sem.wrap_wrap]
    refine seg_wrap (wpAny_mono h2 (fun y s4 h4 => ?_) fun _ _ e => e.elim)
    obtain ⟨hF, hI⟩ := h4
    exact seg_at (seg_yield rfl rfl rfl ⟨i, by omega, hlt, hF, hI, fun hct s'' hs'' => seg_again rfl (ih (i + 1) s'' s'' (by omega) hlt (live_succ hlv hct) hs'')⟩)
theorem seg_start {elt iter tg : Expr} {scope : Scope} {pos : Pos} {I : Addr} {cenv : Env} {n : Nat} {R : GenEnd} {Y : Protocol} {Inn : Nat → Shared → Prop}
    (self : ∀ (A' : Around) s (Q : Value → Shared → Prop) E, Inn 0 s → Q (.ref I) s → wpAny (model prog w) A' (pyIter (.ref I)) Q E s) (s₀ s : Shared) (hin : Inn 0 s)
    (loop : Seg (model prog w) A R Y n s₀ (.compLoop (.GeneratorExp elt [⟨tg, iter, [], 0⟩] scope pos) 0 (.ref I) .none cenv) ((model prog w).den (.compLoop (.GeneratorExp elt [⟨tg, iter, [], 0⟩] scope pos) 0 (.ref I) .none cenv)) [] s) :
    Seg (model prog w) A R Y n s₀ (.compStart (.GeneratorExp elt [⟨tg, iter, [], 0⟩] scope pos) 0 (.ref I) .none cenv)
      ((model prog w).den (.compStart (.GeneratorExp elt [⟨tg, iter, [], 0⟩] scope pos) 0 (.ref I) .none cenv)) [] s := by
  show Seg _ A _ _ _ s₀ _ ((compStart (.GeneratorExp elt [⟨tg, iter, [], 0⟩] scope pos) 0 (.ref I) .none cenv).onRaise (leaving cenv)) [] s
  unfold compStart
  rw [Sem.onRaise_eq_wrap]
  show Seg _ A _ _ _ s₀ _ ((ask >>= _).wrap _ _ _ _) [] s
  refine seg_bind_wrap (wpAny_askSetting ?_)
  split
  · exact seg_again rfl loop
  · first
      | exact seg_bind_wrap (wpAny_rule (seg_bind_wrap (wpAny_standAt (seg_bind_wrap (self _ s _ _ hin (seg_again rfl loop))))))
      | (refine seg_bind_wrap (wpAny_rule ?_); show Seg _ A _ _ _ s₀ _ ((standAt iter.pos >>= _).wrap _ _ _ _) [] s; exact seg_bind_wrap (wpAny_standAt (seg_bind_wrap (self _ s _ _ hin (seg_again rfl loop)))))
/-- the generator at a, the g-th, ahead of item j -/
def GAt (prog : Program) (w : World) (A : Around) (g n : Nat) (ct : Nat → Bool) (F : Nat → Value → Prop) (Inn Out : Nat → Shared → Prop) (Fn : Shared → Prop) (j : Nat) (s : Shared) : Prop :=
  ∃ gs, s.gens[g]? = some gs ∧ ∀ s'', Inn j s'' → gs.Goes (model prog w) A.in1 (gR Fn) (gY n ct F Inn Out) (n - j + 1) (.send .none) s''
/-- what the invariants must be like -/
structure InnOk (a : Addr) (g : Nat) (Inn Out : Nat → Shared → Prop) : Prop where
  isGen : ∀ j s, Inn j s → s.heap.IsGen a g
  noLimit : ∀ j s, Inn j s → s.heap.NoLimit
  size : ∀ j s, Out j s → g < s.gens.size
  set : ∀ j s x, x.bare = true → Inn j s → Inn j (s.setGen g x)
  setO : ∀ j s x, x.bare = true → Out j s → Out j (s.setGen g x)
variable {a : Addr} {g n : Nat} {ct : Nat → Bool} {F : Nat → Value → Prop} {Inn Out : Nat → Shared → Prop} {Fn : Shared → Prop}
theorem gat_set {s : Shared} {x : GenState} (h : g < s.gens.size) : (s.setGen g x).gens[g]? = some x := by simp [Shared.setGen, h]
theorem gat_item (hh : A.handled = none) (hroom : A.depth < recursionLimit) (ok : InnOk a g Inn Out) {j : Nat} {s : Shared} (hj : j < n) (hi : Inn j s) (st : GAt prog w A g n ct F Inn Out Fn j s) {Q : Option Value → Shared → Prop} {E : Value → Shared → Prop}
    (hQ : ∀ v s', F j v → Out (j + 1) s' → (ct j = true → GAt prog w A g n ct F Inn Out Fn (j + 1) s') → Q (some v) s') : wpAny (model prog w) A (pyNext (.ref a)) Q E s := by
  obtain ⟨gs, hgs, hgo⟩ := st
  refine wpAny_pyNext_genexpQ (P := fun n _ s => n = 1 ∧ Fn s) hh (ok.noLimit _ _ hi) hroom (ok.isGen _ _ hi) hgs (hgo _ (ok.set _ _ _ rfl hi)) (fun v s₁ gs' hb hv => ?_) (fun s₁ hp h' hk => ?_)
  · obtain ⟨i, hin, hlt, hF, hI, hkap⟩ := hv
    have e : i = j := by omega
    subst e
    refine hQ v _ hF (ok.setO _ _ _ hb hI) fun hct => ⟨gs', gat_set (ok.size _ _ hI), fun s'' hs => ?_⟩
    have e2 : n - i = n - (i + 1) + 1 := by omega
    have hk := hkap hct s'' hs
    dsimp only at hk
    rw [e2] at hk
    exact hk
  · have := hp.1
    omega
theorem gat_done (hh : A.handled = none) (hroom : A.depth < recursionLimit) (ok : InnOk a g Inn Out) {s : Shared} (hi : Inn n s) (st : GAt prog w A g n ct F Inn Out Fn n s) {Q : Option Value → Shared → Prop} {E : Value → Shared → Prop}
    (hQ : ∀ s₁, Fn s₁ → ∀ h', (∀ b o, s₁.heap.get? b = some o → h'.get? b = some o) → Q none { s₁.setGen g .finished with heap := h' }) : wpAny (model prog w) A (pyNext (.ref a)) Q E s := by
  obtain ⟨gs, hgs, hgo⟩ := st
  rw [Nat.sub_self] at hgo
  refine wpAny_pyNext_genexpQ (P := fun n _ s => n = 1 ∧ Fn s) hh (ok.noLimit _ _ hi) hroom (ok.isGen _ _ hi) hgs (hgo _ (ok.set _ _ _ rfl hi)) (fun v s₁ gs' hb hv => ?_) (fun s₁ hp h' hk => hQ s₁ hp.2 h' hk)
  obtain ⟨i, hin, hlt, hF, hI, hkap⟩ := hv
  exact absurd hin (by omega)
/-- where a walk ends: behind its last item, or behind the first that stops it -/
def ends (ct : Nat → Bool) (n j : Nat) : Prop := (j = n ∧ live ct n) ∨ ∃ i, j = i + 1 ∧ live ct i ∧ ct i = false
/-- what stands when the walk ends -/
def GPost (g n : Nat) (ct : Nat → Bool) (Out : Nat → Shared → Prop) (Fn : Shared → Prop) (s : Shared) : Prop := (∃ i, live ct i ∧ ct i = false ∧ Out (i + 1) s) ∨ live ct n ∧ ∃ s₁ h', Fn s₁ ∧ (∀ b o, s₁.heap.get? b = some o → h'.get? b = some o) ∧ s = { s₁.setGen g .finished with heap := h' }
variable {R : Result → Shared → Prop}
theorem all_loop (hh : A.in1.handled = none) (hroom : A.in1.depth < recursionLimit) (ok : InnOk a g Inn Inn) (htr : TruthOf prog w A.in1 F ct) : ∀ (k i : Nat) (s : Shared), n - i = k → i ≤ n → live ct i → Inn i s → GAt prog w A.in1 g n ct F Inn Inn Fn i s →
    (∀ s', GPost g n ct Inn Fn s' → R (.ok (.ret (.bool (((List.range n).drop i).all ct)))) s') → codeAny (model prog w) A (.builtin "all.loop" ⟨[.ref a], []⟩) R s := by
  intro k
  induction k with
  | zero =>
    intro i s hk hi hlv hin0 hst hR
    have hin : i = n := by omega
    subst hin
    refine codeAny_builtin PySem.F.entry_all_loop ?_
    rw [Around.under_plainId PySem.F.plain_all_loop _]
    show wpAny _ A.in1 (pyNext (.ref a) >>= _) _ _ s
    refine wpAny_bind (gat_done hh hroom ok hin0 hst fun s₁ hF h' hk' => ?_)
    refine wpAny_bind (wpAny_rule (wpAny_pure ?_))
    have := hR _ (.inr ⟨hlv, s₁, h', hF, hk', rfl⟩)
    rw [List.drop_of_length_le (by simp)] at this
    exact this
  | succ k ih =>
    intro i s hk hi hlv hin0 hst hR
    have hlt : i < n := by omega
    have hd : (List.range n).drop i = i :: (List.range n).drop (i + 1) := by
      rw [List.drop_eq_getElem_cons (by simpa using hlt)]; simp
    refine codeAny_builtin PySem.F.entry_all_loop ?_
    rw [Around.under_plainId PySem.F.plain_all_loop _]
    show wpAny _ A.in1 (pyNext (.ref a) >>= _) _ _ s
    refine wpAny_bind (gat_item hh hroom ok hlt hin0 hst fun v s' hP hI' hst' => ?_)
    refine wpAny_bind (wpAny_holding (htr i v _ _ _ hP ?_))
    refine wpAny_bind (wpAny_letGo ?_)
    cases hb : ct i with
    | true =>
      simp only [if_true]
      refine wpAny_pure ⟨plainId_quiet PySem.F.plain_all_loop _, ih (i + 1) _ (by omega) hlt (live_succ hlv hb) hI' (hst' hb) fun s'' hm' => ?_⟩
      have := hR s'' hm'
      rw [hd, List.all_cons, hb, Bool.true_and] at this
      exact this
    | false =>
      simp only [Bool.false_eq_true, if_false]
      refine wpAny_bind (wpAny_rule (wpAny_pure ?_))
      have := hR s' (.inl ⟨i, hlv, hb, hI'⟩)
      rw [hd, List.all_cons, hb, Bool.false_and] at this
      exact this
theorem call_all {E : Value → Shared → Prop} {s : Shared} {Q : Value → Shared → Prop} (hh : A.in1.handled = none) (hroom : A.in1.depth < recursionLimit) (ok : InnOk a g Inn Inn) (htr : TruthOf prog w A.in1 F ct)
    (hi : Inn 0 s) (hst : GAt prog w A.in1 g n ct F Inn Inn Fn 0 s) (hQ : ∀ s', GPost g n ct Inn Fn s' → Q (.bool ((List.range n).all ct)) s') :
    wpAny (model prog w) A (call (.builtin "all") [.ref a]) Q E s := by
  refine call_function_tree PySem.F.kind_all PySem.F.plain_all PySem.F.entry_all (PySem.F.args_all1 _) ?_
  unfold Builtin.«all»
  refine wpAny_bind (m := oneArg "all" _) (wpAny_pure ?_)
  refine wpAny_bind (wpAny_pyIter_gen (ok.isGen _ _ hi) ?_)
  exact wpAny_pure ⟨plainId_quiet PySem.F.plain_all_loop _, all_loop hh hroom ok htr n 0 s rfl (Nat.zero_le _) (fun j hj => absurd hj (Nat.not_lt_zero _)) hi hst fun s' hm => by simpa using hQ s' hm⟩
theorem any_loop (hh : A.in1.handled = none) (hroom : A.in1.depth < recursionLimit) (ok : InnOk a g Inn Inn) (tr : Nat → Bool) (hct : ∀ i, ct i = !tr i) (htr : TruthOf prog w A.in1 F tr) : ∀ (k i : Nat) (s : Shared), n - i = k → i ≤ n → live ct i → Inn i s → GAt prog w A.in1 g n ct F Inn Inn Fn i s →
    (∀ s', GPost g n ct Inn Fn s' → R (.ok (.ret (.bool (((List.range n).drop i).any tr)))) s') → codeAny (model prog w) A (.builtin "any.loop" ⟨[.ref a], []⟩) R s := by
  intro k
  induction k with
  | zero =>
    intro i s hk hi hlv hin0 hst hR
    have hin : i = n := by omega
    subst hin
    refine codeAny_builtin PySem.F.entry_any_loop ?_
    rw [Around.under_plainId PySem.F.plain_any_loop _]
    show wpAny _ A.in1 (pyNext (.ref a) >>= _) _ _ s
    refine wpAny_bind (gat_done hh hroom ok hin0 hst fun s₁ hF h' hk' => ?_)
    refine wpAny_bind (wpAny_rule (wpAny_pure ?_))
    have := hR _ (.inr ⟨hlv, s₁, h', hF, hk', rfl⟩)
    rw [List.drop_of_length_le (by simp)] at this
    exact this
  | succ k ih =>
    intro i s hk hi hlv hin0 hst hR
    have hlt : i < n := by omega
    have hd : (List.range n).drop i = i :: (List.range n).drop (i + 1) := by
      rw [List.drop_eq_getElem_cons (by simpa using hlt)]; simp
    refine codeAny_builtin PySem.F.entry_any_loop ?_
    rw [Around.under_plainId PySem.F.plain_any_loop _]
    show wpAny _ A.in1 (pyNext (.ref a) >>= _) _ _ s
    refine wpAny_bind (gat_item hh hroom ok hlt hin0 hst fun v s' hP hI' hst' => ?_)
    refine wpAny_bind (wpAny_holding (htr i v _ _ _ hP ?_))
    refine wpAny_bind (wpAny_letGo ?_)
    cases hb : tr i with
    | false =>
      simp only [Bool.false_eq_true, if_false]
      refine wpAny_pure ⟨plainId_quiet PySem.F.plain_any_loop _, ih (i + 1) _ (by omega) hlt (live_succ hlv (by rw [hct, hb]; rfl)) hI' (hst' (by rw [hct, hb]; rfl)) fun s'' hm' => ?_⟩
      have := hR s'' hm'
      rw [hd, List.any_cons, hb, Bool.false_or] at this
      exact this
    | true =>
      simp only [if_true]
      refine wpAny_bind (wpAny_rule (wpAny_pure ?_))
      have := hR s' (.inl ⟨i, hlv, by rw [hct, hb]; rfl, hI'⟩)
      rw [hd, List.any_cons, hb, Bool.true_or] at this
      exact this
theorem call_any {E : Value → Shared → Prop} {s : Shared} {Q : Value → Shared → Prop} (hh : A.in1.handled = none) (hroom : A.in1.depth < recursionLimit) (ok : InnOk a g Inn Inn) (tr : Nat → Bool) (hct : ∀ i, ct i = !tr i) (htr : TruthOf prog w A.in1 F tr)
    (hi : Inn 0 s) (hst : GAt prog w A.in1 g n ct F Inn Inn Fn 0 s) (hQ : ∀ s', GPost g n ct Inn Fn s' → Q (.bool ((List.range n).any tr)) s') :
    wpAny (model prog w) A (call (.builtin "any") [.ref a]) Q E s := by
  refine call_function_tree PySem.F.kind_any PySem.F.plain_any PySem.F.entry_any (PySem.F.args_any1 _) ?_
  unfold Builtin.«any»
  refine wpAny_bind (m := oneArg "any" _) (wpAny_pure ?_)
  refine wpAny_bind (wpAny_pyIter_gen (ok.isGen _ _ hi) ?_)
  exact wpAny_pure ⟨plainId_quiet PySem.F.plain_any_loop _, any_loop hh hroom ok tr hct htr n 0 s rfl (Nat.zero_le _) (fun j hj => absurd hj (Nat.not_lt_zero _)) hi hst fun s' hm => by simpa using hQ s' hm⟩
/-- the sum's own list -/
def sumObj (z : Int) (t : Tok) (c : Nat) : Obj := { cls := .type "list", dict := none, data := .seq #[.int z t] c, slots := #[] }
/-- the sum's own list has another content -/
structure Wr (S : Addr) (s s' : Shared) : Prop where
  gens : s'.gens = s.gens
  os : s'.os = s.os
  drawn : s'.drawn = s.drawn
  heap : ∀ b, b ≠ S → s'.heap.get? b = s.heap.get? b
/-- what the invariants say of the sum's list -/
structure SumOk (S : Addr) (val : Nat → Int) (Inn Out : Nat → Shared → Prop) : Prop where
  inn : ∀ j s, Inn j s → ∃ t c, s.heap.get? S = some (sumObj (preSum val j) t c)
  out : ∀ j s, Out (j + 1) s → ∃ t c, s.heap.get? S = some (sumObj (preSum val j) t c)
  up : ∀ j s s' t c, Out (j + 1) s → Wr S s s' → s'.heap.get? S = some (sumObj (preSum val (j + 1)) t c) → Inn (j + 1) s'
theorem sum_loop (hh : A.in1.handled = none) (hroom : A.in1.depth < recursionLimit) (ok : InnOk a g Inn Out) (val : Nat → Int) (hF : ∀ i v, F i v → ∃ t, v = .int (val i) t) (hct : ∀ i, ct i = true) {S : Addr} (so : SumOk S val Inn Out) :
    ∀ (k i : Nat) (s : Shared) (st : Int), (st = 0 ∨ st = 2) → n - i = k → i ≤ n → Inn i s → GAt prog w A.in1 g n ct F Inn Out Fn i s →
    (∀ s' t', (∃ s₁ h', Fn s₁ ∧ (∀ b o, s₁.heap.get? b = some o → h'.get? b = some o) ∧ s' = { s₁.setGen g .finished with heap := h' }) → R (.ok (.ret (.int (preSum val n) t'))) s') → codeAny (model prog w) A (.builtin "sum.loop" ⟨[.ref a, .ref S, rawInt st, rawInt 0], []⟩) R s := by
  intro k
  induction k with
  | zero =>
    intro i s st hst2 hk hi hin0 hst hR
    have hin : i = n := by omega
    subst hin
    obtain ⟨tA, c, hS⟩ := so.inn _ _ hin0
    refine codeAny_builtin PySem.F.entry_sum_loop ?_
    rw [Around.under_plainId PySem.F.plain_sum_loop _]
    show wpAny _ A.in1 (seqItems? (.ref S) >>= _) _ _ s
    refine wpAny_bind (wpAny_seqItems hS rfl ?_)
    show wpAny _ A.in1 (tryCatch (pyNext (.ref a)) _ >>= _) _ _ s
    refine wpAny_bind (wpAny_tryCatch (gat_done hh hroom ok hin0 hst fun s₁ hF h' hk' => ?_))
    exact wpAny_pure (hR _ tA ⟨s₁, h', hF, hk', rfl⟩)
  | succ k ih =>
    intro i s st hst2 hk hi hin0 hst hR
    have hlt : i < n := by omega
    obtain ⟨tA, c, hS⟩ := so.inn _ _ hin0
    refine codeAny_builtin PySem.F.entry_sum_loop ?_
    rw [Around.under_plainId PySem.F.plain_sum_loop _]
    show wpAny _ A.in1 (seqItems? (.ref S) >>= _) _ _ s
    refine wpAny_bind (wpAny_seqItems hS rfl ?_)
    show wpAny _ A.in1 (tryCatch (pyNext (.ref a)) _ >>= _) _ _ s
    refine wpAny_bind (wpAny_tryCatch (gat_item hh hroom ok hlt hin0 hst fun v s' hP hO hst' => ?_))
    obtain ⟨t, rfl⟩ := hF i v hP
    obtain ⟨tB, c', hS'⟩ := so.out _ _ hO
    have e : preSum val (i + 1) = preSum val i + val i := by first | rfl | (simp [preSum]; done) | (unfold preSum; simp [List.range_succ])
    have fin : ∀ (s2 : Shared) (t2 : Tok) (c2 : Nat), Wr S s' s2 → s2.heap.get? S = some (sumObj (preSum val i + val i) t2 c2) → Inn (i + 1) s2 ∧ GAt prog w A.in1 g n ct F Inn Out Fn (i + 1) s2 := fun s2 t2 c2 wr2 h2 => by
      refine ⟨so.up i s' s2 t2 c2 hO wr2 (by rw [e]; exact h2), ?_⟩
      obtain ⟨gs, hgs, hgo⟩ := hst' (hct i)
      exact ⟨gs, by rw [wr2.gens]; exact hgs, hgo⟩
    rcases hst2 with rfl | rfl
    · show wpAny _ A.in1 (if (_ : Bool) = true then (mkInt (preSum val i + val i) >>= _) else _) _ _ _
      split
      · refine wpAny_bind (wpAny_mkInt ?_)
        show wpAny _ A.in1 (updateSeq S (fun _ => #[.int (preSum val i + val i) s'.toks]) >>= _) _ _ _
        refine wpAny_bind ?_
        refine wpAny_updateSeq hS' rfl (wpAny_pure ⟨plainId_quiet PySem.F.plain_sum_loop _, ?_⟩)
        have q := fin { s' with heap := s'.heap.update S (Obj.mapSeq fun _ => #[Value.int (preSum val i + val i) s'.toks]), toks := s'.toks + 1 } _ _ ⟨rfl, rfl, rfl, fun b hb => Heap.get?_update_other _ _ (fun h : S = b => hb h.symm)⟩ (Heap.get?_update_self _ hS' rfl)
        exact ih (i + 1) _ 0 (.inl rfl) (by omega) hlt q.1 q.2 hR
      · refine wpAny_bind (wpAny_rule ?_)
        refine wpAny_bind (wpAny_attempt (wpAny_holding (wpAny_add_int ?_)))
        show wpAny _ A.in1 (updateSeq S (fun _ => #[.int (preSum val i + val i) s'.toks]) >>= _) _ _ _
        refine wpAny_bind (wpAny_updateSeq hS' rfl ?_)
        have hS₂ := Heap.get?_update_self (Obj.mapSeq fun _ => #[Value.int (preSum val i + val i) s'.toks]) hS' rfl
        refine wpAny_bind (wpAny_letGo ?_)
        refine wpAny_bind (wpAny_updateSeq hS₂ rfl (wpAny_pure ⟨plainId_quiet PySem.F.plain_sum_loop _, ?_⟩))
        refine (fun q => ih (i + 1) _ 2 (.inr rfl) (by omega) hlt (And.left q) (And.right q) hR) (fin _ _ _ ⟨rfl, rfl, rfl, fun b hb => ?_⟩ (Heap.get?_update_self _ hS₂ rfl))
        exact (Heap.get?_update_other _ _ (fun h : S = b => hb h.symm)).trans (Heap.get?_update_other _ _ (fun h : S = b => hb h.symm))
    · show wpAny _ A.in1 ((holding [Value.int (val i) t] (binaryOp .Add (.int (preSum val i) tA) (.int (val i) t))).attempt >>= _) _ _ _
      refine wpAny_bind (wpAny_attempt (wpAny_holding (wpAny_add_int ?_)))
      show wpAny _ A.in1 (updateSeq S (fun _ => #[.int (preSum val i + val i) s'.toks]) >>= _) _ _ _
      refine wpAny_bind (wpAny_updateSeq hS' rfl ?_)
      have hS₂ := Heap.get?_update_self (Obj.mapSeq fun _ => #[Value.int (preSum val i + val i) s'.toks]) hS' rfl
      refine wpAny_bind (wpAny_letGo ?_)
      refine wpAny_bind (wpAny_updateSeq hS₂ rfl (wpAny_pure ⟨plainId_quiet PySem.F.plain_sum_loop _, ?_⟩))
      refine (fun q => ih (i + 1) _ 2 (.inr rfl) (by omega) hlt (And.left q) (And.right q) hR) (fin _ _ _ ⟨rfl, rfl, rfl, fun b hb => ?_⟩ (Heap.get?_update_self _ hS₂ rfl))
      exact (Heap.get?_update_other _ _ (fun h : S = b => hb h.symm)).trans (Heap.get?_update_other _ _ (fun h : S = b => hb h.symm))
theorem call_sum {E : Value → Shared → Prop} {s : Shared} {Q : Value → Shared → Prop} (hh : A.in1.handled = none) (hroom : A.in1.depth < recursionLimit) (ok : InnOk a g Inn Out) (val : Nat → Int) (hF : ∀ i v, F i v → ∃ t, v = .int (val i) t) (hct : ∀ i, ct i = true) (so : SumOk s.heap.objs.size val Inn Out)
    (hg : s.heap.IsGen a g) (hi : ∀ s' t, s'.heap = s.heap.push (sumObj 0 t 0) → s'.gens = s.gens → s'.os = s.os → s'.drawn = s.drawn → Inn 0 s') (hst : GAt prog w A.in1 g n ct F Inn Out Fn 0 s)
    (hQ : ∀ s' t', (∃ s₁ h', Fn s₁ ∧ (∀ b o, s₁.heap.get? b = some o → h'.get? b = some o) ∧ s' = { s₁.setGen g .finished with heap := h' }) → Q (.int (preSum val n) t') s') :
    wpAny (model prog w) A (call (.builtin "sum") [.ref a]) Q E s := by
  refine call_function_tree PySem.F.kind_sum PySem.F.plain_sum PySem.F.entry_sum (PySem.F.args_sum1 _) ?_
  unfold Builtin.«sum»
  simp only [List.length_cons, List.length_nil]
  rw [if_neg (by decide)]
  refine wpAny_bind (wpAny_of_eq (show Builtin.Builtins.bindParams "sum" ["start"] 0 { } = pure [none] from rfl) ?_)
  refine wpAny_bind (wpAny_pyIter_gen hg ?_)
  refine wpAny_bind (wpAny_mkInt ?_)
  refine wpAny_bind (wpAny_pure ?_)
  simp only [List.forIn_cons, List.forIn_nil]
  refine wpAny_bind (wpAny_bind (wpAny_bind (wpAny_isInstance (T := "int") (b := false) (typeIs_int _ _ _) sub_int_str ?_)))
  simp only [Bool.false_eq_true, if_false]
  refine wpAny_pure (wpAny_bind (wpAny_bind (wpAny_isInstance (T := "int") (b := false) (typeIs_int _ _ _) sub_int_bytes ?_)))
  simp only [Bool.false_eq_true, if_false]
  refine wpAny_pure (wpAny_bind (wpAny_bind (wpAny_isInstance (T := "int") (b := false) (typeIs_int _ _ _) sub_int_bytearray ?_)))
  simp only [Bool.false_eq_true, if_false]
  refine wpAny_pure (wpAny_pure ?_)
  refine wpAny_bind (wpAny_newObj_type ?_)
  refine wpAny_pure ⟨plainId_quiet PySem.F.plain_sum_loop _, sum_loop hh hroom ok val hF hct so n 0 _ 0 (.inl rfl) rfl (Nat.zero_le _) (hi _ s.toks rfl rfl rfl rfl) hst fun s' t' hm => ?_⟩
  exact hQ s' t' hm
end
end GX

/-! all, any, sum of a generator expression whose element may call defs: rules in the hand layer's words. -/
namespace GX
open PySem PySem.Spec PyProof.Rows L2
theorem inv_more {X : Cx} {pins : List (Addr × Obj)} {σ : L2.St} {H : Hp} {s : Shared} {h' : Heap} {g' : Array GenState} {d' : Drawn} {t' : Nat} (I : Inv X pins σ H s) (k : ∀ b o, s.heap.get? b = some o → h'.get? b = some o) (hg : AllBare g') :
    Inv X pins σ H { s with heap := h', gens := g', drawn := d', toks := t' } := by
  refine I.step (g' := g') (d' := d') (ch := []) (fun b hb => absurd hb (by simp)) (fun b o _ _ _ e n => k b o e) (fun b o _ _ _ e n => ⟨o.slots, k b o e⟩)
    (fun b o _ e n => n) (fun b o _ e => ⟨o, k b o e⟩) (fun b xs e => e) (fun b o u e => e) (fun b qs e => ⟨#[], by rw [e]; simp⟩) (fun m hn => ?_) (fun b u e => ?_) hg
  · obtain ⟨ob, es, ep, ho, r⟩ := hn
    exact ⟨ob, es, ep, k _ ob ho, r⟩
  · exact (I.hok b u e).stay (fun d v hd q => k d v q) (fun d q => q) fun d xs q => q
/-- only generators' states have changed -/
theorem inv_gens {X : Cx} {pins : List (Addr × Obj)} {σ : L2.St} {H : Hp} {s : Shared} {g' : Array GenState} (I : Inv X pins σ H s) (hg : AllBare g') : Inv X pins σ H { s with gens := g' } :=
  ⟨I.ok, I.os, hg, I.base, I.loc, I.cell, I.free, I.freeC, I.pin, I.hok, I.len⟩
/-- the sum's list is written -/
theorem inv_sum {X : Cx} {gp : List (Addr × Obj)} {σ : L2.St} {H : Hp} {s s' : Shared} {S : Addr} {o o' : Obj} (hpn : ∀ p ∈ X.pn, p.1 ≠ S) (hgp : ∀ p ∈ gp, p.1 ≠ S) (hS : X.s_0.heap.objs.size ≤ S) (hc : ∀ x c, X.env.cells.lookup x = some c → c ≠ S)
    (I : Inv X ((S, o) :: gp) σ H s) (wr : Wr S s s') (h' : s'.heap.get? S = some o') (nc : ∀ v, o'.data ≠ .cell v) : Inv X ((S, o') :: gp) σ H s' := by
  obtain ⟨p1, p2, p3, p4, p5⟩ := I.pin (S, o) (List.mem_append_right _ List.mem_cons_self)
  have I0 : Inv X gp σ H s := I.pins_of fun p hp => I.pin p (List.mem_append_right _ (List.mem_cons_of_mem _ hp))
  have p2 : H S = none := p2
  have nt : ∀ b u, H b = some u → b ≠ S := fun b u q hb => by rw [hb, p2] at q; cases q
  obtain ⟨hh, g, d, t, os⟩ := s'
  obtain ⟨w1, w2, w3, w4⟩ := wr
  have ho : os = s.os := w2
  have hg : g = s.gens := w1
  subst ho hg
  have w4 : ∀ b, b ≠ S → hh.get? b = s.heap.get? b := w4
  have nc0 : ∀ b, b ∉ [S] → b ≠ S := fun b hb e => hb (by rw [e]; exact List.mem_singleton.mpr rfl)
  have J : Inv X gp σ H { s with heap := hh, gens := s.gens, drawn := d, toks := t } := by
    refine I0.step (g' := s.gens) (t' := t) (d' := d) (ch := [S]) (fun b hb => ?_)
      (fun b ob _ _ hc q _ => (w4 b (nc0 b hc)).trans q) (fun b ob _ _ hc q _ => ⟨ob.slots, (w4 b (nc0 b hc)).trans q⟩) (fun _ _ _ _ n => n) (fun b ob hc q => ⟨ob, (w4 b (nc0 b hc)).trans q⟩)
      (fun _ _ q => q) (fun _ _ _ q => q) (fun b ps q => ⟨#[], by rw [q]; simp⟩) (fun m hm => ?_) (fun b u q => ?_) I0.bare
    · rw [List.mem_singleton.mp hb]
      refine ⟨.inr hS, p3, hc, fun p hp => ?_⟩
      rcases List.mem_append.mp hp with hp | hp
      · exact hpn p hp
      · exact hgp p hp
    · obtain ⟨ob, es, ep, ho, r⟩ := hm
      exact ⟨ob, es, ep, (w4 _ (Ne.symm p3)).trans ho, r⟩
    · refine (I0.hok b u q).stay (fun c v hc y => (w4 c ?_).trans y) (fun _ y => y) fun _ _ y => y
      rcases hc with y | y
      · rw [y]; exact nt b u q
      · exact nt c _ y
  refine J.pins_of fun p hp => ?_
  rcases List.mem_cons.mp hp with hp | hp
  · rw [hp]
    exact ⟨h', p2, p3, p4, nc⟩
  · exact J.pin p (List.mem_append_right _ hp)

/-- the generator's own context -/
abbrev genX (X : Cx) (s : Shared) (H : Hp) (scope : Scope) (cenv : Env) (fp : List Addr) (A' : Around) : Cx :=
  { X with s_0 := s, H_0 := H, A := A', env := cenv, outer := X.stack, stack := cenv :: X.stack, ex := fp, fn := fun x => scope.names.lookup x == some .cell, pn := [], xe := fun _ _ => False }
section
variable {X : Cx} {pins : List (Addr × Obj)} {σ : L2.St} {H : Hp} {s : Shared}
theorem gen_start {scope : Scope} {own : List (Str × Nat)} {fp : List Addr} {a : Addr} {cenv : Env} {gobj : Obj} {code : Value} {A' : Around} {h5 : Heap} {g5 : Array GenState} {t5 : Nat} {m0 : Str → Option Value}
    (I : Inv X pins σ H s) (ok : BlkOk X.N X.env.scope scope own) (hN : X.N.Nodup) (hfp : ∀ b ∈ fp, FpOk X pins H b ∧ b < s.heap.objs.size)
    (hcenv : cenv = genEnv scope (cloFrom X.env.cells scope.names []) s.heap.objs.size code builtinsNs X.env) (hnc : ∀ y ∈ scope.names, y.2 ≠ .cell)
    (hA : X.calm = true → A'.handled = none) (hF : A'.frames = some (cenv :: X.stack))
    (kp : ∀ b o, s.heap.get? b = some o → h5.get? b = some o) (hns : h5.Ns s.heap.objs.size m0) (hga : h5.get? a = some gobj) (ha : s.heap.objs.size < a) (hgob : ∀ v, gobj.data ≠ .cell v) (hb : AllBare g5) :
    Inv (genX X s H scope cenv fp A') [(a, gobj)] (wipe σ (own.map (·.2))) H { s with heap := h5, gens := g5, toks := t5 } := by
  have hfree : ∀ y ∈ scope.names, y.2 = .free → ∃ c, X.env.cells.lookup y.1 = some c := fun y hy e => by
    rcases ok.free y hy e with k | k
    · exact I.ok.has _ (.inl k)
    · exact I.ok.has _ (.inr k)
  have hL : cenv.locals = s.heap.objs.size := by rw [hcenv]; rfl
  have hcl : cenv.cells = cloFrom X.env.cells scope.names [] := by rw [hcenv]; rfl
  have hsc : cenv.scope = scope := by rw [hcenv]; rfl
  have mem : ∀ {y c}, cenv.cells.lookup y = some c → X.env.cells.lookup y = some c ∧ c < s.heap.objs.size := fun {y c} e => by
    rw [hcl] at e
    rcases cloFrom_mem (PySem.mem_of_lookup e) with hm | ⟨h1, rfl⟩
    · cases hm
    · obtain ⟨c, hc⟩ := hfree _ h1 rfl
      rw [hc]
      obtain ⟨w, z⟩ := I.cell _ _ hc
      exact ⟨rfl, z.lt⟩
  have look : ∀ {y}, scope.names.lookup y = some .free → ∃ c, cenv.cells.lookup y = some c ∧ X.env.cells.lookup y = some c := fun {y} hl => by
    have hy : (y, NameKind.free) ∈ scope.names := PySem.mem_of_lookup hl
    obtain ⟨c', e'⟩ := mem_lookup (cloFrom_has (cells := X.env.cells) (acc := []) hy)
    rw [← hcl] at e'
    exact ⟨c', e', (mem e').1⟩
  have noc : ∀ y, scope.names.lookup y ≠ some .cell := fun y z => hnc (y, .cell) (PySem.mem_of_lookup z) rfl
  have kof : ∀ y, cenv.kindOf y = scope.names.lookup y := fun y => by
    unfold Env.kindOf
    rw [hsc]
  have okB : (genX X s H scope cenv fp A').Ok := by
    refine ⟨I.ok.mod, by show cenv.scope.kind = _; rw [hsc]; exact ok.kind, by show cenv.globals = _; rw [hcenv]; exact I.ok.glob, by show cenv.builtins = _; rw [hcenv]; rfl, by show s.heap.objs.size ≤ cenv.locals; rw [hL]; exact Nat.le_refl _,
      fun y z c e1 e2 => I.ok.inj y z c (mem e1).1 (mem e2).1, fun y hy => ?_, fun y c z e => ?_, hA, hF, .inr ⟨rfl, by show cenv.frame = some cenv.locals; rw [hcenv]; rfl⟩, fun b hb => ⟨?_, fun y c e z => ?_⟩, I.bs, Nat.le_trans I.ok.bsz I.sz, fun b o e hb => ?_, fun b hb z => ?_, I.stack, I.stkFree⟩
    · show ∃ c, cenv.cells.lookup y = some c
      have hy : cenv.kindOf y = some .cell ∨ cenv.kindOf y = some .free := hy
      rw [kof] at hy
      rcases hy with hy | hy
      · exact absurd hy (noc y)
      · obtain ⟨c, h1, _⟩ := look hy
        exact ⟨c, h1⟩
    · have z : (scope.names.lookup y == some NameKind.cell) = true := z
      have z : scope.names.lookup y = some .cell := by simpa using z
      exact absurd z (noc y)
    · show b ≠ cenv.locals
      rw [hL]; exact Nat.ne_of_lt (hfp b hb).2
    · exact (hfp b hb).1.2.2.2.2.1 y c (mem e).1 z
    · rcases (hfp b hb).1.2.2.2.1 with z | z
      · exact I.ok.noex b o e z
      · exact absurd (Nat.lt_of_lt_of_le (Heap.lt_size e) (Nat.le_trans I.ok.bsz z)) (Nat.lt_irrefl _)
    · rcases List.mem_cons.mp (I.stkSub b z) with z | z
      · exact (hfp b hb).1.2.1 z
      · exact (hfp b hb).1.2.2.1 z
  refine ⟨okB, rfl, hb, Un.kept kp, ⟨m0, ?_, fun i y av e1 e2 e3 => ?_⟩, fun y c e => ?_, ?_, fun y c e => ?_, fun p hp => ?_, I.hok.kept kp, by rw [wipe_length]; exact I.len⟩
  · show Heap.Ns _ cenv.locals _
    rw [hL]
    exact hns
  · obtain ⟨e2, hne⟩ := wipe_some e2
    have hfr : scope.names.lookup y = some .free := by
      have key : ∀ k, scope.names.lookup y = some k → k = .local ∨ k = .cell ∨ k = .free → scope.names.lookup y = some .free := fun k e hk' => by
        have no : ¬ (k = .local ∨ k = .cell) := fun hh => by
          rcases ok.own _ (PySem.mem_of_lookup e) hh with e' | e'
          · obtain ⟨p, hp, hpy⟩ := List.mem_map.mp e'
            have e3 := ok.ix p hp
            have : p.1 = y := hpy
            rw [this] at e3
            exact hne (List.mem_map.mpr ⟨p, hp, nodup_ix hN e3 e1⟩)
          · exact e' (List.mem_of_getElem? e1)
        rcases hk' with rfl | rfl | rfl
        · exact absurd (.inl rfl) no
        · exact absurd (.inr rfl) no
        · exact e
      have e3 : Vis cenv.scope y := e3
      rw [hsc] at e3
      rcases e3 with e3 | e3 | e3
      · exact key _ e3 (.inl rfl)
      · exact key _ e3 (.inr (.inl rfl))
      · exact e3
    obtain ⟨m, hn, hl⟩ := I.loc
    have hvis : Vis X.env.scope y := (ok.free _ (PySem.mem_of_lookup hfr) rfl).elim (fun k => .inr (.inl k)) (fun k => .inr (.inr k))
    obtain ⟨w, r, q⟩ := hl i y av e1 e2 hvis
    refine ⟨w, r, .inr ⟨.inr ((kof y).trans hfr), ?_⟩⟩
    obtain ⟨c, h1, h2⟩ := look hfr
    rcases q with ⟨k, _⟩ | ⟨_, c', e', z⟩
    · have k : X.env.scope.names.lookup y = some .local := k
      rcases ok.free _ (PySem.mem_of_lookup hfr) rfl with k' | k' <;> rw [show X.env.scope.names.lookup y = _ from k'] at k <;> cases k
    · rw [h2] at e'; cases e'
      exact ⟨c, h1, z.keeps kp⟩
  · obtain ⟨w, z⟩ := I.cell y c (mem e).1
    exact ⟨w, z.keeps kp⟩
  · show H cenv.locals = none
    rw [hL]; exact I.hok.fresh (Nat.le_refl _)
  · exact I.freeC y c (mem e).1
  · have hp' : p = (a, gobj) := by simpa using (show p ∈ ([] : List (Addr × Obj)) ++ [(a, gobj)] from hp)
    subst hp'
    refine ⟨hga, I.hok.fresh (Nat.le_of_lt ha), ?_, fun z => ?_, hgob⟩
    · show a ≠ cenv.locals
      rw [hL]; exact Nat.ne_of_gt ha
    · rcases List.mem_cons.mp (I.stkSub a z) with z | z
      · have := I.lt
        rw [z] at ha
        exact absurd (Nat.lt_trans this ha) (Nat.lt_irrefl _)
      · exact I.nofs (Nat.le_of_lt ha) z
end
end GX

namespace GX
open PySem PySem.Spec PyProof.Rows L2
theorem bare_set {s : Shared} {g : Nat} {x : GenState} (h : AllBare s.gens) (hx : x.bare = true) : AllBare (s.setGen g x).gens := fun y hy => by
  have hy : y ∈ s.gens.setIfInBounds g x := hy
  rcases Array.mem_or_eq_of_mem_setIfInBounds hy with z | z
  · exact h y z
  · rw [z]; exact hx
def GInn (X' : Cx) (p0 : Addr × Obj) (σ' : L2.St) (fp : List Addr) (tn : Nat → Heap → Prop) (W : Nat → Hp → Prop) (g : Nat) (Pq : List (Addr × Obj) → Prop) (j : Nat) (s : Shared) : Prop :=
  g < s.gens.size ∧ ∃ gp H, Pq gp ∧ Inv X' (p0 :: gp) σ' H s ∧ tn j s.heap ∧ (∀ b ∈ fp, H b = none) ∧ W j H
def GFin (X' : Cx) (p0 : Addr × Obj) (σ' : L2.St) (W : Nat → Hp → Prop) (g : Nat) (Pq : List (Addr × Obj) → Prop) (j : Nat) (s : Shared) : Prop :=
  g < s.gens.size ∧ ∃ gp H, Pq gp ∧ Inv X' (p0 :: gp) σ' H s ∧ W j H
def genCode (elt tg iter : Expr) (scope : Scope) (pos : Pos) (it : Addr) (cenv : Env) : Code := .compLoop (.GeneratorExp elt [⟨tg, iter, [], 0⟩] scope pos) 0 (.ref it) .none cenv
theorem over_gen {A : Around} {elt tg iter : Expr} {scope : Scope} {pos : Pos} {it : Addr} {cenv : Env} : A.over (.compLoop (.GeneratorExp elt [⟨tg, iter, [], 0⟩] scope pos) 0 (.ref it) .none cenv) [] = A.deeper cenv := by
  first
    | rfl
    | (obtain ⟨hd, d, fr, gs, u⟩ := A; simp [Around.over, Around.deeper, marksOver, frameCount, unitsOf, envsOf, guardsOf, pushEnvs, pushGuards, Code.envs, Code.env?, Code.isFrame, Code.guards, Code.isGuard, Code.weight, Code.frames, Code.isCreation, Code.isCaller, Code.cUnits])
theorem room_gen {A : Around} {k : Nat} (r : Room (k + 1) A) (cenv : Env) : Room k (A.in1.in1.deeper cenv) :=
  ⟨r.hd, by have := r.dp; show A.depth + 1 + 3 * k + 5 < _; omega, by have := r.un; show A.units + 1 + 1 + 3 + 16 * k + 200 < _; omega⟩
/-- the generator g at a, ready to be walked -/
structure GRdy (X : Cx) (pins : List (Addr × Obj)) (σ : L2.St) (vs : List Nat) (n : Nat) (ct : Nat → Bool) (Fv : Nat → L2.V → Prop) (W : Nat → Hp → Prop) (a g : Addr) (s5 : Shared) (X' : Cx) (gobj : Obj) (fp : List Addr) (tn : Nat → Heap → Prop) : Prop where
  inv : GInn X' (a, gobj) (wipe σ vs) fp tn W g (· = []) 0 s5
  isg : ∀ h : Heap, h.get? a = some gobj → h.IsGen a g
  lt : a + 1 = s5.heap.objs.size
  keep : ∀ i (h h' : Heap), tn i h → (∀ b ∈ fp, ∀ o, h.get? b = some o → h'.get? b = some o) → tn i h'
  fplt : ∀ b ∈ fp, b < a
  loc : X'.env.locals < a
  pn : X'.pn = []
  s0 : X'.s_0.heap.objs.size ≤ a
  prog : X'.prog = X.prog
  w : X'.w = X.w
  cells : ∀ x c, X'.env.cells.lookup x = some c → c < a
  gat : ∀ (Pn Po : Nat → List (Addr × Obj) → Prop), (∀ i gp, Pn i gp → Po (i + 1) gp) → (∀ i gp, Pn i gp → ∀ p ∈ gp, a < p.1) →
    GAt X.prog X.w X.A.in1 g n ct (fun i v => ∃ y, RelV y v ∧ Fv i y) (fun j => GInn X' (a, gobj) (wipe σ vs) fp tn W g (Pn j) j) (fun j => GInn X' (a, gobj) (wipe σ vs) fp tn W g (Po j) j) (fun s => GFin X' (a, gobj) (wipe σ vs) W g (Pn n) n s) 0 s5
  back : ∀ gp H' s', Inv X' ((a, gobj) :: gp) (wipe σ vs) H' s' → Inv X pins σ H' s'
section
variable {X : Cx} {pins : List (Addr × Obj)} {σ : L2.St} {H : Hp} {s : Shared}
theorem gen_make {c P : Addr} {elt tg iter : Expr} {gpos : Pos} {scope : Scope} {own : List (Str × Nat)} {wi : TI} {g : TG} {te : TE} {k : Nat} {Q' : Value → Shared → Prop} {B : Nat → (Nat → Bool) → (Nat → L2.V → Prop) → (Nat → Hp → Prop) → Prop}
    (hc : X.calm = true) (hr : Room (k + 1) X.A) (TB : GxR.TabB X.base X.mg c P) (hcode : X.env.code = .ref c) (hN : X.N.Nodup) (ok : BlkOk X.N X.env.scope scope own) (hco : scope.isCoroutine = false) (hnc : ∀ y ∈ scope.names, y.2 ≠ .cell) (h0 : scope.names.lookup (".0" : Str) = some NameKind.local)
    (hi : PI X tg iter wi)
    (hg : ∀ (s : Shared) (H : Hp) (C : Addr) (code : Value) (fp : List Addr) (A' : Around), Room k A' → PG (genX X s H scope (genEnv scope (cloFrom X.env.cells scope.names []) C code builtinsNs X.env) fp A') tg g)
    (he : ∀ (s : Shared) (H : Hp) (C : Addr) (code : Value) (fp : List Addr) (A' : Around), Room k A' → PE (genX X s H scope (genEnv scope (cloFrom X.env.cells scope.names []) C code builtinsNs X.env) fp A') elt te)
    (hs : ∀ v, genFold iter X.env v = pure v) (I : Inv X pins σ H s)
    (h : wi σ H fun J H1 => GxR.TabG H1 P ∧ ∀ H1', GxR.Tabbed P H1 H1' → ∃ n ct Fv W, W 0 H1' ∧
      (∀ i H, i < n → live ct i → W i H → J.go i H ∧ ∀ x H', J.yld i H x H' → g x (wipe σ (own.map (·.2))) H' fun σ2 H2 => wipe σ2 (own.map (·.2)) = wipe σ (own.map (·.2)) ∧ te σ2 H2 fun y H4 => Fv i y ∧ W (i + 1) H4) ∧
      (∀ H, live ct n → W n H → J.stop n H) ∧ B n ct Fv W)
    (hQ : ∀ n ct Fv W a g s5 X' gobj fp tn, B n ct Fv W → GRdy X pins σ (own.map (·.2)) n ct Fv W a g s5 X' gobj fp tn → Q' (.ref a) s5) :
    wpAny (model X.prog X.w) X.A (eval (.GeneratorExp elt [⟨tg, iter, [], 0⟩] scope gpos) X.env) Q' X.xe s := by
  have hfree : ∀ y ∈ scope.names, y.2 = .free → ∃ c, X.env.cells.lookup y.1 = some c := fun y hy e => by
    rcases ok.free y hy e with k | k
    · exact I.ok.has _ (.inl k)
    · exact I.ok.has _ (.inr k)
  refine wpAny_GeneratorExp_make hco (closure_ok hfree) hnc h0 ok.kind (by have := hr.dp; omega) ?_ hs
  refine thn (hi.run pins s σ H _ I h) fun xv s1 hx => thn hx fun itv s2 h2 => ?_
  obtain ⟨it, fp, tn, J, H2, e, I2, T, st2, f2, ⟨ps, hP, ht⟩, q⟩ := h2
  subst e
  have hPs : s2.heap.get? P = some { cls := .none, data := .fields ps } := I2.hok P _ hP
  have hPlt : P < s2.heap.objs.size := Heap.lt_size hPs
  have cd : PySem.W.CodeHd s2.heap c P := TB.code.keeps I2.bk
  have cont : ∀ (code : Value) (h3 : Heap) (tk : Nat) (ps' : Array Value), Heap.ExtBut P s2.heap h3 → s2.heap.objs.size ≤ h3.objs.size → h3.get? P = some { cls := .none, data := .fields ps' } → (∃ more, ps' = ps ++ more) → TriplesOk ps'.toList →
      wpAny (model X.prog X.w) X.A (builtinsFor X.env.globals X.env.builtins) (fun bi s₄ =>
        ∀ h', h'.Ns s₄.heap.objs.size (fun y => if y = ".0" then some (.ref it) else none) → Heap.SameBut s₄.heap.objs.size (s₄.heap.push { cls := .type "frame", data := .dict #[] }) h' →
          Q' (.ref h'.objs.size) { s₄ with
            gens := s₄.gens.push (.fresh (.compStart (.GeneratorExp elt [⟨tg, iter, [], 0⟩] scope gpos) 0 (.ref it) .none (genEnv scope (cloFrom X.env.cells scope.names []) s₄.heap.objs.size code bi X.env))),
            toks := s₄.toks + 1 + 1 + 1,
            heap := h'.push { cls := .type "generator", data := .fields #[.int s₄.gens.size 0, .str "<genexpr>" (s₄.toks + 1), .str (X.env.qual ++ "<genexpr>") (s₄.toks + 1 + 1)] } }) X.xe { s2 with heap := h3, toks := tk } := by
    intro code h3 tk ps' hx hsz hP3 hmore ht3
    obtain ⟨bm, ob, e1, e2, e3, e4, e5, e6, e7, e8⟩ := TB.bm
    have keep3 : ∀ b u, b ≠ P → s2.heap.get? b = some u → h3.get? b = some u := fun b u hb e => hx b u hb e
    refine wpAny_builtinsFor (m := X.mg) (by rw [I2.ok.glob]; exact (I2.mod.glob.keeps I2.bk).extBut hx TB.gP) e1 e2 (keep3 _ _ e4 (I2.bk _ _ e5)) e6 e7 e8 ?_
    intro h' hn' hs'
    obtain ⟨more, em⟩ := hmore
    have I4 : Inv X pins σ (upd H2 P (.tbl (ps ++ more))) { s2 with heap := h3, toks := tk } := GxR.inv_tab (g' := s2.gens) (d' := s2.drawn) (t' := tk) I2 hP (fun b u hb e => keep3 b u hb e) (by rw [← em]; exact hP3) I2.bare
    have hT : GxR.Tabbed P H2 (upd H2 P (.tbl (ps ++ more))) := ⟨⟨ps ++ more, upd_same, by rw [← em]; exact ht3⟩, fun b hb => upd_ne hb⟩
    obtain ⟨n, ct, Fv, W, w0, hstep, hlast, hB⟩ := q _ hT
    generalize hH4 : upd H2 P (.tbl (ps ++ more)) = H4 at I4 w0
    have hsz' : h'.objs.size = h3.objs.size + 1 := by rw [hs'.1, Heap.size_push]
    have keep4 : ∀ b o, h3.get? b = some o → h'.get? b = some o := fun b o e => hs'.extBut b o (Nat.ne_of_lt (Heap.lt_size e)) (Heap.get?_push_of_some _ e)
    generalize hgo : ({ cls := .type "generator", data := .fields #[.int (s2.gens.size : Int) 0, .str "<genexpr>" (tk + 1), .str (X.env.qual ++ "<genexpr>") (tk + 1 + 1)] } : Obj) = gobj
    have keep5 : ∀ b o, h3.get? b = some o → (h'.push gobj).get? b = some o := fun b o e => Heap.get?_push_of_some _ (keep4 b o e)
    generalize hce : genEnv scope (cloFrom X.env.cells scope.names []) h3.objs.size code builtinsNs X.env = cenv
    have nP : ∀ b ∈ fp, b ≠ P := fun b hb z => by
      have := (f2 b hb).1
      rw [z, hP] at this
      cases this
    have f4 : ∀ b ∈ fp, FpOk X pins H4 b ∧ b < h3.objs.size := fun b hb => by
      obtain ⟨o, e, _⟩ := T.obj _ _ st2 b hb
      refine ⟨⟨?_, (f2 b hb).2⟩, Nat.lt_of_lt_of_le (Heap.lt_size e) hsz⟩
      rw [← hH4, upd_ne (nP b hb)]
      exact (f2 b hb).1
    have st5 : tn 0 (h'.push gobj) := T.keep _ _ _ st2 fun b hb o e => keep5 b o (keep3 b o (nP b hb) e)
    have gnc : ∀ v, gobj.data ≠ .cell v := fun v z => by rw [← hgo] at z; cases z
    have hae : h3.objs.size < h'.objs.size := by rw [hsz']; exact Nat.lt_succ_self _
    have I5 := gen_start (A' := X.A.in1.in1.deeper cenv) (t5 := tk + 1 + 1 + 1) (g5 := s2.gens.push (.fresh (.compStart (.GeneratorExp elt [⟨tg, iter, [], 0⟩] scope gpos) 0 (.ref it) .none cenv))) I4 ok hN f4 hce.symm hnc (fun _ => hr.hd)
      (by show (X.A.in1.in1.deeper cenv).frames = _; unfold Around.deeper; show (X.A.in1.in1.frames.map _) = _ ; rw [show X.A.in1.in1.frames = some X.stack from I2.ok.frames]; rfl) keep5 (hn'.push gobj) (Heap.get?_push_size _ (by rw [← hgo]; rfl)) hae gnc (I4.bare.push rfl)
    have hm : (wipe σ (own.map (·.2))).length = σ.length := wipe_length _ _
    have I4f := f4
    have pg := hg { s2 with heap := h3, toks := tk } H4 h3.objs.size code fp (X.A.in1.in1.deeper cenv) (room_gen hr cenv)
    have pe := he { s2 with heap := h3, toks := tk } H4 h3.objs.size code fp (X.A.in1.in1.deeper cenv) (room_gen hr cenv)
    rw [hce] at pg pe
    have cL : cenv.locals = h3.objs.size := by rw [← hce]; rfl
    have stat : ∀ {gp : List (Addr × Obj)} {σ' : L2.St} {H' : Hp} {s' : Shared}, (∀ p ∈ gp, h'.objs.size < p.1) → Inv (genX X { s2 with heap := h3, toks := tk } H4 scope cenv fp (X.A.in1.in1.deeper cenv)) ((h'.objs.size, gobj) :: gp) σ' H' s' → (∀ b ∈ fp, H' b = none) → ∀ b ∈ fp, FpOk (genX X { s2 with heap := h3, toks := tk } H4 scope cenv fp (X.A.in1.in1.deeper cenv)) ((h'.objs.size, gobj) :: gp) H' b := fun {gp σ' H' s'} hgp I' hn b hb =>
      ⟨hn b hb, (I'.ok.exf b hb).1, I'.ok.exfs b hb, .inl hb, fun x c e => (I'.ok.exf b hb).2 x c e, fun p hp => by
        have hlt := (f4 b hb).2
        rcases List.mem_cons.mp (show p ∈ ([] : List (Addr × Obj)) ++ _ from hp) with z | z
        · rw [z]; exact Nat.ne_of_gt (Nat.lt_trans hlt hae)
        · exact Nat.ne_of_gt (Nat.lt_trans (Nat.lt_trans hlt hae) (hgp p z))⟩
    refine hQ n ct Fv W h'.objs.size s2.gens.size _ (genX X { s2 with heap := h3, toks := tk } H4 scope cenv fp (X.A.in1.in1.deeper cenv)) gobj fp tn hB ?_
    refine { inv := ⟨?_, [], H4, rfl, I5, st5, fun b hb => (f4 b hb).1.1, w0⟩, isg := ?_, lt := ?_, keep := T.keep, fplt := fun b hb => Nat.lt_trans (f4 b hb).2 hae, loc := by show cenv.locals < _; rw [cL]; exact hae, pn := rfl, s0 := Nat.le_of_lt hae, prog := rfl, w := rfl, cells := ?_, gat := ?_, back := ?_ }
    · show s2.gens.size < (s2.gens.push _).size
      rw [Array.size_push]; exact Nat.lt_succ_self _
    · intro h hh
      rw [← hgo] at hh
      exact ⟨_, _, _, hh, rfl, rfl, rfl⟩
    · show h'.objs.size + 1 = (h'.push _).objs.size
      rw [Heap.size_push]
    · intro x c' e
      obtain ⟨v, z⟩ := I5.cell x c' e
      have e : cenv.cells.lookup x = some c' := e
      rw [← hce] at e
      rcases cloFrom_mem (PySem.mem_of_lookup (show (cloFrom X.env.cells scope.names []).lookup x = some c' from e)) with hm | ⟨h1, h2⟩
      · cases hm
      · obtain ⟨c2, hc2⟩ := hfree _ h1 rfl
        rw [hc2] at h2
        obtain ⟨v2, z2⟩ := I2.cell _ _ hc2
        have l2 := z2.lt
        have h3' : c' = c2 := h2
        rw [h3']
        exact Nat.lt_of_lt_of_le l2 (Nat.le_trans hsz (Nat.le_of_lt hae))
    · intro Pn Po hPo hgp
      refine ⟨_, Array.getElem?_push_size .., fun s'' hin => ⟨rfl, ?_⟩⟩
      refine seg_start (Inn := fun j => GInn (genX X { s2 with heap := h3, toks := tk } H4 scope cenv fp (X.A.in1.in1.deeper cenv)) (h'.objs.size, gobj) (wipe σ (own.map (·.2))) fp tn W s2.gens.size (Pn j) j) (fun A' s' Q E hi' hq => ?_) s'' s'' hin ?_
      · obtain ⟨_, gp, H', _, _, st', _⟩ := hi'
        exact T.self A' 0 s' Q E st' hq
      · refine seg_loop (by rw [← hce]; exact hco) (fun i s' hlt hlv hi' => ?_) (fun s' hlv hi' => ?_) n 0 s'' s'' (Nat.sub_zero n) (Nat.zero_le _) (fun j hj => absurd hj (Nat.not_lt_zero _)) hin
        · rw [over_gen]
          obtain ⟨hgs, gp, H', hpn, I', st', n', w'⟩ := hi'
          have hgp' := hgp i gp hpn
          obtain ⟨hgo', hy⟩ := hstep i H' hlt hlv w'
          have ti := T.item (genX X { s2 with heap := h3, toks := tk } H4 scope cenv fp (X.A.in1.in1.deeper cenv)) rfl rfl rfl hc i _ s' _ H' (fun _ _ => False) I' (stat hgp' I' n') st' hgo'
          refine GenW.wpAny_gsz (n := s2.gens.size + 1) hgs (wpAny_mono ti (fun r s6 h6 hz6 => ?_) fun _ _ e => e.elim)
          obtain ⟨u, hu, h6⟩ := h6
          refine ⟨u, hu, GenW.wpAny_gsz (n := s2.gens.size + 1) hz6 (wpAny_mono h6 (fun _ s7 h7 hz7 => ?_) fun _ _ e => e.elim)⟩
          obtain ⟨x, H7, I7, r7, y7, st7, n7⟩ := h7
          have I7' := I7.pinned (stat hgp' I7 n7) (T.obj _ _ st7)
          refine GenW.wpAny_gsz (n := s2.gens.size + 1) hz7 (wpAny_mono (pg.run _ s7 _ H7 x u _ I7' r7 (hy x H7 y7)) (fun _ s8 h8 hz8 => ?_) fun _ _ e => e.elim)
          obtain ⟨σ8, H8, I8, hw8, q8⟩ := h8
          refine GenW.wpAny_gsz (n := s2.gens.size + 1) hz8 (wpAny_mono (pe.run _ s8 σ8 H8 _ I8 q8) (fun v s9 h9 hz9 => ?_) fun _ _ e => e.elim)
          obtain ⟨y, H9, I9, r9, hF9, w9⟩ := h9
          refine ⟨⟨y, r9, hF9⟩, hz9, gp, H9, hPo i gp hpn, ?_⟩
          have pin' : ∀ b ∈ fp, ∀ o, s7.heap.get? b = some o → s9.heap.get? b = some o ∧ H9 b = none := fun b hb o e =>
            let z := I9.pin (b, o) (List.mem_append_right _ (List.mem_append_right _ (mem_pinsAt hb e)))
            ⟨z.1, z.2.1⟩
          have hl : (wipe σ (own.map (·.2))).length = σ8.length := by rw [← hw8, wipe_length]
          refine ⟨I9.unpinned.weak hl (fun j v e => ?_), T.keep _ _ _ st7 fun b hb o e => (pin' b hb o e).1, fun b hb => ?_, w9⟩
          · rw [← hw8] at e
            exact (wipe_some e).1
          · obtain ⟨o, e, _⟩ := T.obj _ _ st7 b hb
            exact (pin' b hb o e).2
        · rw [over_gen]
          obtain ⟨hgs, gp, H', hpn, I', st', n', w'⟩ := hi'
          have td := T.done (genX X { s2 with heap := h3, toks := tk } H4 scope cenv fp (X.A.in1.in1.deeper cenv)) rfl rfl rfl hc n _ s' _ H' (fun _ _ => False) I' (stat (hgp n gp hpn) I' n') st' (hlast H' hlv w')
          refine GenW.wpAny_gsz (n := s2.gens.size + 1) hgs (wpAny_mono td (fun r s6 h6 hz6 => ?_) fun _ _ e => e.elim)
          exact ⟨h6.1, hz6, gp, H', hpn, h6.2, w'⟩
    · intro gp H' s' I'
      exact I4.call' (ch := fp) I'.os I'.base I'.hok I'.bare fun b hb => ⟨(f4 b hb).1.2.2.2.1, (f4 b hb).1.2.1, (f4 b hb).1.2.2.2.2.1, (f4 b hb).1.2.2.2.2.2⟩
  refine ⟨I2.nolimit, ?_⟩
  cases hf : codeAmong gpos ps.toList with
  | none =>
    refine wpAny_genexprCodeX hcode (cd.code hPs ht) (cd.tab hPs) hf fun c' h' tk hx hge hlt hco' _ htab' _ => ?_
    obtain ⟨o1, vs, f1, tf, fl, tg, inF, tx, tt, op, _, _, _, _, _, _, _, _, _, htr, _⟩ := hco'
    exact cont _ h' tk _ hx (Nat.le_trans hge (Nat.le_of_lt hlt)) htab'.2 ⟨_, rfl⟩ htr
  | some cv =>
    refine wpAny_genexprCode_hit hcode (cd.code hPs ht) hf ?_
    exact cont cv s2.heap s2.toks ps (Heap.ExtBut.refl _ _) (Nat.le_refl _) hPs ⟨#[], by simp⟩ ht
end
end GX

namespace GX
open PySem PySem.Spec PyProof.Rows L2
def tGen (P : Addr) (wi : TI) (g : TG) (te : TE) (vs : List Nat) (σ : L2.St) (H : Hp) (B : Nat → (Nat → Bool) → (Nat → L2.V → Prop) → (Nat → Hp → Prop) → Prop) : Prop :=
  wi σ H fun J H1 => GxR.TabG H1 P ∧ ∀ H1', GxR.Tabbed P H1 H1' → ∃ n ct Fv W, W 0 H1' ∧
      (∀ i H, i < n → live ct i → W i H → J.go i H ∧ ∀ x H', J.yld i H x H' → g x (wipe σ vs) H' fun σ2 H2 => wipe σ2 vs = wipe σ vs ∧ te σ2 H2 fun y H4 => Fv i y ∧ W (i + 1) H4) ∧
      (∀ H, live ct n → W n H → J.stop n H) ∧ B n ct Fv W
def tAllG (P : Addr) (wi : TI) (g : TG) (te : TE) (vs : List Nat) : TE := fun σ H Q => tGen P wi g te vs σ H fun n ct Fv W => (∀ i v, Fv i v → v = .bl (ct i)) ∧ ∀ j H, ends ct n j → W j H → Q (.bl ((List.range n).all ct)) H
def tAnyG (P : Addr) (wi : TI) (g : TG) (te : TE) (vs : List Nat) : TE := fun σ H Q => tGen P wi g te vs σ H fun n ct Fv W => (∀ i v, Fv i v → v = .bl (!ct i)) ∧ ∀ j H, ends ct n j → W j H → Q (.bl ((List.range n).any fun i => !ct i)) H
def tSumG (P : Addr) (wi : TI) (g : TG) (te : TE) (vs : List Nat) : TE := fun σ H Q => tGen P wi g te vs σ H fun n ct Fv W => (∀ i, ct i = true) ∧ ∃ val : Nat → Int, (∀ i v, Fv i v → v = .int (val i)) ∧ ∀ H, W n H → Q (.int (preSum val n)) H
section
variable {X : Cx} {pins : List (Addr × Obj)} {σ : L2.St} {H : Hp} {s : Shared} {vs : List Nat} {n : Nat} {ct : Nat → Bool} {Fv : Nat → L2.V → Prop} {W : Nat → Hp → Prop} {a g : Addr} {s5 : Shared} {X' : Cx} {gobj : Obj} {fp : List Addr} {tn : Nat → Heap → Prop}
theorem innOk (G : GRdy X pins σ vs n ct Fv W a g s5 X' gobj fp tn) (Pn Po : Nat → List (Addr × Obj) → Prop) :
    InnOk a g (fun j => GInn X' (a, gobj) (wipe σ vs) fp tn W g (Pn j) j) (fun j => GInn X' (a, gobj) (wipe σ vs) fp tn W g (Po j) j) where
  isGen := fun j s ⟨_, gp, H, _, I, _⟩ => G.isg _ (I.pin (a, gobj) (List.mem_append_right _ List.mem_cons_self)).1
  noLimit := fun j s ⟨_, gp, H, _, I, _⟩ => I.nolimit
  size := fun j s h => h.1
  set := fun j s x hx ⟨h1, gp, H, h2, I, h3⟩ => ⟨by rw [GenW.setGen_size]; exact h1, gp, H, h2, inv_gens I (bare_set I.bare hx), h3⟩
  setO := fun j s x hx ⟨h1, gp, H, h2, I, h3⟩ => ⟨by rw [GenW.setGen_size]; exact h1, gp, H, h2, inv_gens I (bare_set I.bare hx), h3⟩
theorem fin_inv (G : GRdy X pins σ vs n ct Fv W a g s5 X' gobj fp tn) {Pq : List (Addr × Obj) → Prop} {s₁ : Shared} {h' : Heap} (f : GFin X' (a, gobj) (wipe σ vs) W g Pq n s₁) (k : ∀ b o, s₁.heap.get? b = some o → h'.get? b = some o) :
    ∃ H', Inv X pins σ H' { s₁.setGen g .finished with heap := h' } ∧ W n H' := by
  obtain ⟨hgs, gp, H', hpn, I', w'⟩ := f
  have J := G.back gp H' s₁ I'
  exact ⟨H', inv_more (s := s₁) (g' := (s₁.setGen g .finished).gens) (d' := s₁.drawn) (t' := s₁.toks) J k (bare_set J.bare rfl), w'⟩
theorem post_inv (G : GRdy X pins σ vs n ct Fv W a g s5 X' gobj fp tn) {Pq : Nat → List (Addr × Obj) → Prop} {s' : Shared}
    (h : GPost g n ct (fun j => GInn X' (a, gobj) (wipe σ vs) fp tn W g (Pq j) j) (fun s => GFin X' (a, gobj) (wipe σ vs) W g (Pq n) n s) s') : ∃ j H', ends ct n j ∧ Inv X pins σ H' s' ∧ W j H' := by
  rcases h with ⟨j, hl, hj, _, gp, H', _, I', _, _, w'⟩ | ⟨hl, s₁, h', f, k, rfl⟩
  · exact ⟨j + 1, H', .inr ⟨j, rfl, hl, hj⟩, G.back gp H' s' I', w'⟩
  · obtain ⟨H', J, w'⟩ := fin_inv G f k
    exact ⟨n, H', .inl ⟨rfl, hl⟩, J, w'⟩
theorem pe_allG {c P : Addr} {elt tg iter : Expr} {p pos gpos : Pos} {scope : Scope} {own : List (Str × Nat)} {wi : TI} {g : TG} {te : TE} {k : Nat}
    (hgl : Gl X "all") (hm : X.mg "all" = none) (hb : bootBuiltins "all" = some (.builtin "all")) (hc : X.calm = true) (hr : Room (k + 1) X.A) (TB : GxR.TabB X.base X.mg c P) (hcode : X.env.code = .ref c) (hN : X.N.Nodup) (ok : BlkOk X.N X.env.scope scope own) (hco : scope.isCoroutine = false) (hnc : ∀ y ∈ scope.names, y.2 ≠ .cell) (h0 : scope.names.lookup (".0" : Str) = some NameKind.local)
    (hi : PI X tg iter wi)
    (hg : ∀ (s : Shared) (H : Hp) (C : Addr) (code : Value) (fp : List Addr) (A' : Around), Room k A' → PG (genX X s H scope (genEnv scope (cloFrom X.env.cells scope.names []) C code builtinsNs X.env) fp A') tg g)
    (he : ∀ (s : Shared) (H : Hp) (C : Addr) (code : Value) (fp : List Addr) (A' : Around), Room k A' → PE (genX X s H scope (genEnv scope (cloFrom X.env.cells scope.names []) C code builtinsNs X.env) fp A') elt te)
    (hs : ∀ v, genFold iter X.env v = pure v := by intro _; rfl)
    (hst : starEach [.GeneratorExp elt [⟨tg, iter, [], 0⟩] scope gpos] X.env = (false, eval (.GeneratorExp elt [⟨tg, iter, [], 0⟩] scope gpos) X.env) :: starEach [] X.env := by rfl) :
    PE X (.Call (.Name "all" p) [.GeneratorExp elt [⟨tg, iter, [], 0⟩] scope gpos] [] pos) (tAllG P wi g te (own.map (·.2))) := by
  refine ⟨fun pins s σ H Q I h => ?_⟩
  refine wpAny_Call_Name_kw (ld_blt I hgl hm hb ?_)
  refine PyProof.Rows.callWith_builtin1 ?_ hst (by rfl)
  rw [hst]
  show wpAny _ _ (spliced ((false, eval (.GeneratorExp elt [⟨tg, iter, [], 0⟩] scope gpos) X.env) :: backTo pos (starEach [] X.env))) _ _ s
  refine Calls.spliced_cons (gen_make hc hr TB hcode hN ok hco hnc h0 hi hg he hs I h fun n ct Fv W a g s5 X' gobj fp tn hB G => ?_)
  refine Calls.spliced_nil ?_
  refine call_all (ct := ct) (n := n) hr.hd (by have := hr.dp; show X.A.depth < _; omega) (innOk G (fun _ gp => gp = []) fun _ gp => gp = []) (fun i v s Q E hF hQ => ?_) G.inv (G.gat _ _ (fun i gp h => h) fun i gp h p hp => by rw [h] at hp; cases hp) fun s' hp => ?_
  · obtain ⟨y, r, hF⟩ := hF
    rw [hB.1 i y hF] at r
    cases r
    exact wpAny_truthy_bool hQ
  · obtain ⟨j, H', hj, J, w'⟩ := post_inv G hp
    exact ⟨.bl _, H', J, rfl, hB.2 j H' hj w'⟩
theorem pe_anyG {c P : Addr} {elt tg iter : Expr} {p pos gpos : Pos} {scope : Scope} {own : List (Str × Nat)} {wi : TI} {g : TG} {te : TE} {k : Nat}
    (hgl : Gl X "any") (hm : X.mg "any" = none) (hb : bootBuiltins "any" = some (.builtin "any")) (hc : X.calm = true) (hr : Room (k + 1) X.A) (TB : GxR.TabB X.base X.mg c P) (hcode : X.env.code = .ref c) (hN : X.N.Nodup) (ok : BlkOk X.N X.env.scope scope own) (hco : scope.isCoroutine = false) (hnc : ∀ y ∈ scope.names, y.2 ≠ .cell) (h0 : scope.names.lookup (".0" : Str) = some NameKind.local)
    (hi : PI X tg iter wi)
    (hg : ∀ (s : Shared) (H : Hp) (C : Addr) (code : Value) (fp : List Addr) (A' : Around), Room k A' → PG (genX X s H scope (genEnv scope (cloFrom X.env.cells scope.names []) C code builtinsNs X.env) fp A') tg g)
    (he : ∀ (s : Shared) (H : Hp) (C : Addr) (code : Value) (fp : List Addr) (A' : Around), Room k A' → PE (genX X s H scope (genEnv scope (cloFrom X.env.cells scope.names []) C code builtinsNs X.env) fp A') elt te)
    (hs : ∀ v, genFold iter X.env v = pure v := by intro _; rfl)
    (hst : starEach [.GeneratorExp elt [⟨tg, iter, [], 0⟩] scope gpos] X.env = (false, eval (.GeneratorExp elt [⟨tg, iter, [], 0⟩] scope gpos) X.env) :: starEach [] X.env := by rfl) :
    PE X (.Call (.Name "any" p) [.GeneratorExp elt [⟨tg, iter, [], 0⟩] scope gpos] [] pos) (tAnyG P wi g te (own.map (·.2))) := by
  refine ⟨fun pins s σ H Q I h => ?_⟩
  refine wpAny_Call_Name_kw (ld_blt I hgl hm hb ?_)
  refine PyProof.Rows.callWith_builtin1 ?_ hst (by rfl)
  rw [hst]
  show wpAny _ _ (spliced ((false, eval (.GeneratorExp elt [⟨tg, iter, [], 0⟩] scope gpos) X.env) :: backTo pos (starEach [] X.env))) _ _ s
  refine Calls.spliced_cons (gen_make hc hr TB hcode hN ok hco hnc h0 hi hg he hs I h fun n ct Fv W a g s5 X' gobj fp tn hB G => ?_)
  refine Calls.spliced_nil ?_
  refine call_any (ct := ct) (n := n) hr.hd (by have := hr.dp; show X.A.depth < _; omega) (innOk G (fun _ gp => gp = []) fun _ gp => gp = []) (fun i => !ct i) (fun i => by simp) (fun i v s Q E hF hQ => ?_) G.inv (G.gat _ _ (fun i gp h => h) fun i gp h p hp => by rw [h] at hp; cases hp) fun s' hp => ?_
  · obtain ⟨y, r, hF⟩ := hF
    rw [hB.1 i y hF] at r
    cases r
    exact wpAny_truthy_bool hQ
  · obtain ⟨j, H', hj, J, w'⟩ := post_inv G hp
    exact ⟨.bl _, H', J, rfl, hB.2 j H' hj w'⟩
theorem pe_sumG {c P : Addr} {elt tg iter : Expr} {p pos gpos : Pos} {scope : Scope} {own : List (Str × Nat)} {wi : TI} {g : TG} {te : TE} {k : Nat}
    (hgl : Gl X "sum") (hm : X.mg "sum" = none) (hb : bootBuiltins "sum" = some (.builtin "sum")) (hc : X.calm = true) (hr : Room (k + 1) X.A) (TB : GxR.TabB X.base X.mg c P) (hcode : X.env.code = .ref c) (hN : X.N.Nodup) (ok : BlkOk X.N X.env.scope scope own) (hco : scope.isCoroutine = false) (hnc : ∀ y ∈ scope.names, y.2 ≠ .cell) (h0 : scope.names.lookup (".0" : Str) = some NameKind.local)
    (hi : PI X tg iter wi)
    (hg : ∀ (s : Shared) (H : Hp) (C : Addr) (code : Value) (fp : List Addr) (A' : Around), Room k A' → PG (genX X s H scope (genEnv scope (cloFrom X.env.cells scope.names []) C code builtinsNs X.env) fp A') tg g)
    (he : ∀ (s : Shared) (H : Hp) (C : Addr) (code : Value) (fp : List Addr) (A' : Around), Room k A' → PE (genX X s H scope (genEnv scope (cloFrom X.env.cells scope.names []) C code builtinsNs X.env) fp A') elt te)
    (hs : ∀ v, genFold iter X.env v = pure v := by intro _; rfl)
    (hst : starEach [.GeneratorExp elt [⟨tg, iter, [], 0⟩] scope gpos] X.env = (false, eval (.GeneratorExp elt [⟨tg, iter, [], 0⟩] scope gpos) X.env) :: starEach [] X.env := by rfl) :
    PE X (.Call (.Name "sum" p) [.GeneratorExp elt [⟨tg, iter, [], 0⟩] scope gpos] [] pos) (tSumG P wi g te (own.map (·.2))) := by
  refine ⟨fun pins s σ H Q I h => ?_⟩
  refine wpAny_Call_Name_kw (ld_blt I hgl hm hb ?_)
  refine PyProof.Rows.callWith_builtin1 ?_ hst (by rfl)
  rw [hst]
  show wpAny _ _ (spliced ((false, eval (.GeneratorExp elt [⟨tg, iter, [], 0⟩] scope gpos) X.env) :: backTo pos (starEach [] X.env))) _ _ s
  refine Calls.spliced_cons (gen_make hc hr TB hcode hN ok hco hnc h0 hi hg he hs I h fun n ct Fv W a g s5 X' gobj fp tn hB G => ?_)
  refine Calls.spliced_nil ?_
  obtain ⟨hct, val, hval, hq⟩ := hB
  have aS : a < s5.heap.objs.size := by rw [← G.lt]; exact Nat.lt_succ_self _
  have hPo : ∀ (i : Nat) (gp : List (Addr × Obj)), (∃ t c, gp = [(s5.heap.objs.size, sumObj (preSum val i) t c)]) → (∃ t c, gp = [(s5.heap.objs.size, sumObj (preSum val (i + 1 - 1)) t c)]) := fun i gp h => h
  refine call_sum (ct := ct) (n := n) (F := fun i v => ∃ y, RelV y v ∧ Fv i y) hr.hd (by have := hr.dp; show X.A.depth < _; omega) (innOk G (fun i gp => ∃ t c, gp = [(s5.heap.objs.size, sumObj (preSum val i) t c)]) fun i gp => ∃ t c, gp = [(s5.heap.objs.size, sumObj (preSum val (i - 1)) t c)]) val (fun i v hF => ?_) hct ?_
    (G.isg _ ?_) (fun s' t e1 e2 e3 e4 => ?_) (G.gat _ _ hPo fun i gp ⟨t, c, h⟩ p hp => ?_) fun s' t' hp => ?_
  · obtain ⟨y, r, hF⟩ := hF
    rw [hval i y hF] at r
    obtain ⟨t, rfl⟩ := _root_.id r
    exact ⟨t, rfl⟩
  · refine ⟨fun j s' ⟨_, gp, H', ⟨t, c, hgp⟩, I', _⟩ => ?_, fun j s' ⟨_, gp, H', ⟨t, c, hgp⟩, I', _⟩ => ?_, fun j s' s'' t c ⟨h1, gp, H', ⟨t0, c0, hgp⟩, I', st', n', w'⟩ wr h2 => ?_⟩
    · subst hgp
      exact ⟨t, c, (I'.pin (s5.heap.objs.size, sumObj (preSum val j) t c) (List.mem_append_right _ (List.mem_cons_of_mem _ List.mem_cons_self))).1⟩
    · subst hgp
      exact ⟨t, c, (I'.pin (s5.heap.objs.size, sumObj (preSum val j) t c) (List.mem_append_right _ (List.mem_cons_of_mem _ List.mem_cons_self))).1⟩
    · subst hgp
      have sw : Inv X' ((s5.heap.objs.size, sumObj (preSum val j) t0 c0) :: [(a, gobj)]) (wipe σ (own.map (·.2))) H' s' := I'.pins_of fun p hp => I'.pin p (List.mem_append_right _ (by
        rcases List.mem_cons.mp hp with z | z
        · rw [z]; exact List.mem_cons_of_mem _ List.mem_cons_self
        · rw [List.mem_singleton.mp z]; exact List.mem_cons_self))
      have J := inv_sum (fun p hp => by rw [G.pn] at hp; cases hp) (fun p hp => by rw [List.mem_singleton.mp hp]; exact Nat.ne_of_lt aS) (Nat.le_trans G.s0 (Nat.le_of_lt aS)) (fun x c' e => Nat.ne_of_lt (Nat.lt_trans (G.cells x c' e) aS)) sw wr h2 (fun v z => by cases z)
      refine ⟨by rw [wr.gens]; exact h1, [(s5.heap.objs.size, sumObj (preSum val (j + 1)) t c)], H', ⟨t, c, rfl⟩, J.pins_of fun p hp => J.pin p (List.mem_append_right _ (by
        rcases List.mem_cons.mp hp with z | z
        · rw [z]; exact List.mem_cons_of_mem _ List.mem_cons_self
        · rw [List.mem_singleton.mp z]; exact List.mem_cons_self)), G.keep _ _ _ st' fun b hb o e => ?_, n', w'⟩
      rw [wr.heap b (Nat.ne_of_lt (Nat.lt_trans (G.fplt b hb) aS))]
      exact e
  · obtain ⟨_, gp, H', hgp, I', _⟩ := G.inv
    exact (I'.pin (a, gobj) (List.mem_append_right _ List.mem_cons_self)).1
  · obtain ⟨h1, gp, H', hgp, I', st', n', w'⟩ := G.inv
    subst hgp
    obtain ⟨hh, gg, d, tt, os⟩ := s'
    dsimp only at e1 e2 e3 e4
    subst e1 e2 e3 e4
    have J : Inv X' [(a, gobj)] (wipe σ (own.map (·.2))) H' { s5 with heap := s5.heap.push (sumObj 0 t 0), gens := s5.gens, drawn := s5.drawn, toks := tt } := inv_more I' (fun b o e => Heap.get?_push_of_some _ e) I'.bare
    refine ⟨h1, [(s5.heap.objs.size, sumObj (preSum val 0) t 0)], H', ⟨t, 0, rfl⟩, J.pins_of fun p hp => ?_, G.keep _ _ _ st' fun b hb o e => Heap.get?_push_of_some _ e, n', w'⟩
    rcases List.mem_cons.mp hp with z | z
    · rw [z]; exact J.pin (a, gobj) (List.mem_append_right _ List.mem_cons_self)
    · rw [List.mem_singleton.mp z]
      exact ⟨Heap.get?_push_size _ rfl, I'.hok.fresh (Nat.le_refl _), Nat.ne_of_gt (Nat.lt_trans G.loc aS), I'.nofs (Nat.le_refl _), fun v z => by cases z⟩
  · rw [h] at hp
    rw [List.mem_singleton.mp hp]
    exact aS
  · obtain ⟨s₁, h', f, k, rfl⟩ := hp
    obtain ⟨H', J, w'⟩ := fin_inv G f k
    exact ⟨.int _, H', J, ⟨t', rfl⟩, hq H' w'⟩
end
end GX

/-! all, any, sum of a generator expression: meanings. -/
namespace DL
open PySem PySem.Spec PyProof.Rows L2
open Evl (Ex)
/-- one item: the value of the element, and the slots behind it -/
def gStep (g : TgF) (f : EvF) (vs : List Nat) (e : Nv) (d : D) : Option (D × Nv) := (g e d).bind fun e1 => (f e1).bind fun q => match q.1 with
  | .val y => (wipeN q.2 vs).bind fun e3 => some (y, e3)
  | _ => none
def gRun (go : D → Bool) (stp : Nv → D → Option (D × Nv)) : List D → Nv → Option (List D × Nv)
  | [], e => some ([], e)
  | d :: ds, e => (stp e d).bind fun q => if go q.1 = true then (gRun go stp ds q.2).bind fun r => some (q.1 :: r.1, r.2) else some ([q.1], q.2)
def goT : D → Bool
  | .bool b => b
  | _ => false
def goF : D → Bool
  | .bool b => !b
  | _ => false
def isBd : D → Bool
  | .bool _ => true
  | _ => false
def isId : D → Bool
  | .int _ => true
  | _ => false
def intD : D → Int
  | .int z => z
  | _ => 0
def iAllG (it : ItF) (g : TgF) (f : EvF) (vs : List Nat) : EvF := fun env => (it env).bind fun p => (wipeN p.2 vs).bind fun e1 => (gRun goT (gStep g f vs) p.1 e1).bind fun r => if r.1.all isBd = true then some (.val (.bool (r.1.all goT)), r.2) else none
def iAnyG (it : ItF) (g : TgF) (f : EvF) (vs : List Nat) : EvF := fun env => (it env).bind fun p => (wipeN p.2 vs).bind fun e1 => (gRun goF (gStep g f vs) p.1 e1).bind fun r => if r.1.all isBd = true then some (.val (.bool (r.1.any goT)), r.2) else none
def iSumG (it : ItF) (g : TgF) (f : EvF) (vs : List Nat) : EvF := fun env => (it env).bind fun p => (wipeN p.2 vs).bind fun e1 => (gRun (fun _ => true) (gStep g f vs) p.1 e1).bind fun r => if r.1.all isId = true then some (.val (.int (r.1.map intD).sum), r.2) else none
theorem gRun_len {go : D → Bool} {stp : Nv → D → Option (D × Nv)} : ∀ {ds : List D} {e : Nv} {r : List D × Nv}, gRun go stp ds e = some r → r.1.length ≤ ds.length
  | [], e, r, h => by cases h; exact Nat.le_refl _
  | d :: ds, e, r, h => by
    simp only [gRun, Option.bind_eq_some_iff] at h
    obtain ⟨q, h1, h2⟩ := h
    split at h2
    · obtain ⟨r', h3, h4⟩ := Option.bind_eq_some_iff.mp h2
      cases h4
      exact Nat.succ_le_succ (gRun_len h3)
    · cases h2
      exact Nat.succ_le_succ (Nat.zero_le _)
theorem gRun_full {go : D → Bool} {stp : Nv → D → Option (D × Nv)} (hg : ∀ d, go d = true) : ∀ {ds : List D} {e : Nv} {r : List D × Nv}, gRun go stp ds e = some r → r.1.length = ds.length
  | [], e, r, h => by cases h; rfl
  | d :: ds, e, r, h => by
    simp only [gRun, Option.bind_eq_some_iff] at h
    obtain ⟨q, h1, h2⟩ := h
    rw [if_pos (hg _)] at h2
    obtain ⟨r', h3, h4⟩ := Option.bind_eq_some_iff.mp h2
    cases h4
    exact congrArg Nat.succ (gRun_full hg h3)
def ctOf (go : D → Bool) (ys : List D) (i : Nat) : Bool := match ys[i]? with
  | some y => go y
  | none => true
theorem all_ctOf {go : D → Bool} {ys : List D} {n : Nat} (h : ys.length ≤ n) : (List.range n).all (ctOf go ys) = ys.all go := by
  rw [Bool.eq_iff_iff, List.all_eq_true, List.all_eq_true]
  constructor
  · intro q y hy
    obtain ⟨i, hi, rfl⟩ := List.getElem_of_mem hy
    have := q i (List.mem_range.mpr (Nat.lt_of_lt_of_le hi h))
    unfold ctOf at this
    rw [List.getElem?_eq_getElem hi] at this
    exact this
  · intro q i hi
    unfold ctOf
    cases z : ys[i]? with
    | none => rfl
    | some y => exact q y (List.mem_of_getElem? z)
theorem preSum_take (val : Nat → Int) (ys : List D) (h : ∀ (i : Nat) (y : D), ys[i]? = some y → val i = intD y) : ∀ j, j ≤ ys.length → preSum val j = ((ys.take j).map intD).sum
  | 0, _ => by simp [preSum]
  | j + 1, hj => by
    have hj' : j < ys.length := hj
    rw [List.take_succ, List.getElem?_eq_getElem hj', Option.toList_some, List.map_append, List.sum_append, ← preSum_take val ys h j (Nat.le_of_lt hj')]
    show preSum val j + val j = _
    rw [h j _ (List.getElem?_eq_getElem hj')]
    simp
section
variable {K : PySem.W.Frag} {σ σ1 σ2 : L2.St} {env env1 env2 : Nv} {V H V1 H1 V2 H2 : Hp} {v : L2.V} {te : TE}
/-- a table has grown -/
theorem adv_tab {P : Addr} {H3 : Hp} (a : Adv K σ env σ1 env1 V H V1 H1) (i : IsTab K P) (t : GxR.Tabbed P H1 H3) : Adv K σ env σ1 env1 V H V1 H3 := by
  obtain ⟨h0, ps, h1, h2⟩ := a.ok.tabs P i
  obtain ⟨⟨ps3, h3, h4⟩, h5⟩ := t
  have ne : ∀ {b : Addr} {o : HO}, H1 b = some o → NT o → b ≠ P := fun e n z => by
    subst z
    rw [h1] at e
    cases e
    exact n ps rfl
  refine ⟨⟨a.ok.len, fun b o e => ?_, fun j o s e1 e2 => ?_, a.ok.one, fun P' i' => ?_⟩, a.ex, a.fr, fun b o e n nt => ?_, fun b q e tq => ?_, fun b e => ?_, a.own, a.ownL, a.par⟩
  · rw [h5 b fun z => by subst z; rw [h0] at e; cases e]
    exact a.ok.sub b o e
  · have q := a.ok.slot j o s e1 e2
    cases s with
    | no => cases o <;> trivial
    | val d => cases o <;> exact q
    | own p d =>
      cases o with
      | none => exact q
      | some v =>
        obtain ⟨l, rfl, z1, z2⟩ := q
        obtain ⟨u, hu⟩ := z2.there
        exact ⟨l, rfl, z1, z2.mono (Evl.Ex.refl _) (h5 l (ne hu (z2.nt hu)))⟩
  · obtain ⟨q0, qs, q1, q2⟩ := a.ok.tabs P' i'
    refine ⟨q0, ?_⟩
    by_cases z : P' = P
    · subst z; exact ⟨ps3, h3, h4⟩
    · exact ⟨qs, by rw [h5 P' z]; exact q1, q2⟩
  · have e1 := a.keep b o e n nt
    rw [h5 b (ne e1 nt)]
    exact e1
  · obtain ⟨q', e1, t1⟩ := a.tab b q e tq
    by_cases z : b = P
    · subst z; exact ⟨ps3, h3, h4⟩
    · exact ⟨q', by rw [h5 b z]; exact e1, t1⟩
  · by_cases z : b = P
    · subst z; rw [h3]; exact fun y => by cases y
    · rw [h5 b z]; exact a.dom b e
theorem sd_gen {P : Addr} {wi : TI} {it : ItF} {tg : TG} {g : TgF} {f : EvF} {vs : List Nat} (go : D → Bool) (iT : IsTab K P) (hi : SdW K wi it) (hg : SdGv K tg g vs) (hf : Sd K te f)
    {ds : List D} {e0 e1 eF : Nv} {ys : List D} (h1 : it env = some (ds, e0)) (h2 : wipeN e0 vs = some e1) (h3 : gRun go (gStep g f vs) ds e1 = some (ys, eF)) (ok : NvOk K V H σ env)
    {B : Nat → (Nat → Bool) → (Nat → L2.V → Prop) → (Nat → Hp → Prop) → Prop}
    (q : ∀ W : Nat → Hp → Prop, (∀ j H2, GX.ends (ctOf go ys) ds.length j → W j H2 → ∃ V2, Adv K σ env σ eF V H V2 H2) →
      B ds.length (ctOf go ys) (fun i v => ∃ y V1, ys[i]? = some y ∧ R K V1 v y) W) : GX.tGen P wi tg te vs σ H B := by
  refine hi _ _ _ h1 σ V H ok _ fun J V' H' a wk => ?_
  refine ⟨(a.ok.tabs P iT).2, fun H1' tb => ?_⟩
  obtain ⟨aw, as⟩ := adv_wipe a h2
  have aw1 := adv_tab aw iT tb
  have as1 := adv_tab as iT tb
  obtain ⟨n, G, Y, hn, wlk, hG, hY⟩ := wk
  subst hn
  let St (j : Nat) (e : Nv) : Prop := (GX.live (ctOf go ys) j → gRun go (gStep g f vs) (ds.drop j) e = some (ys.drop j, eF)) ∧ ((∃ i, j = i + 1 ∧ GX.live (ctOf go ys) i ∧ ctOf go ys i = false) → e = eF)
  refine ⟨ds.length, ctOf go ys, _, fun j H2 => ∃ V2 e2, Adv K σ env (wipe σ vs) e2 V H V2 H2 ∧ Adv K σ env σ e2 V H V2 H2 ∧ Ex V' V2 ∧ (∀ j, j ∈ vs → e2[j]? = some .no) ∧ St j e2, ?_, ?_, ?_, q _ ?_⟩
  · exact ⟨V', e1, aw1, as1, Evl.Ex.refl _, wipeN_clean h2, fun _ => by simpa using h3, fun ⟨i, z, _⟩ => by omega⟩
  · rintro i H2 hlt hlv ⟨V2, e2, b, b', x1, cl, s1, s2⟩
    have hr := s1 hlv
    have hd : ds.drop i = ds[i] :: ds.drop (i + 1) := List.drop_eq_getElem_cons hlt
    rw [hd] at hr
    simp only [gRun, Option.bind_eq_some_iff] at hr
    obtain ⟨⟨y, e5⟩, g1, g2⟩ := hr
    simp only [gStep, Option.bind_eq_some_iff] at g1
    obtain ⟨e3, k1, ⟨rr, e4⟩, k2, k3⟩ := g1
    have k4 : rr = .val y ∧ wipeN e4 vs = some e5 := by
      cases rr with
      | val y' =>
        simp only [Option.bind_eq_some_iff] at k3
        obtain ⟨e6, k5, k6⟩ := k3
        cases k6
        exact ⟨rfl, k5⟩
      | new y' => cases k3
      | own j => cases k3
    obtain ⟨rfl, k5⟩ := k4
    have gh := hG V2 H2 x1 b.ok.sub
    refine ⟨wlk.goes i H2 hlt gh, fun x H3 yl => ?_⟩
    obtain ⟨V3, al, r⟩ := hY i ds[i] V2 H2 x H3 (List.getElem?_eq_getElem hlt) x1 b.ok.sub (wlk.yields i H2 x H3 hlt gh yl)
    have b2 := al.adv b.ok
    refine hg _ _ _ k1 (wipe σ vs) V3 H3 x b2.ok r _ fun σ3 a3 w3 => ⟨by rw [w3, wipe_wipe], ?_⟩
    refine hf _ _ _ k2 σ3 V3 H3 a3.ok _ fun z V4 H4 a4 k => ?_
    have a6 := (b2.trans a3).trans a4
    have a7 := (adv_wipe a6 k5).1
    rw [w3, wipe_wipe] at a7
    have a9 := b.trans a7
    have clean := wipeN_clean k5
    have dropE : ys.drop i = y :: ys.drop (i + 1) ∧ ys[i]? = some y := by
      have hy : ∃ r, ys.drop i = y :: r := by
        split at g2
        · obtain ⟨r', g3, g4⟩ := Option.bind_eq_some_iff.mp g2
          exact ⟨r'.1, (congrArg Prod.fst (Option.some.inj g4)).symm⟩
        · exact ⟨[], (congrArg Prod.fst (Option.some.inj g2)).symm⟩
      obtain ⟨r, hr⟩ := hy
      have hl : i < ys.length := by
        by_cases z : i < ys.length
        · exact z
        · rw [List.drop_of_length_le (by omega)] at hr; cases hr
      rw [List.drop_eq_getElem_cons hl] at hr ⊢
      injection hr with e1 e2
      exact ⟨by rw [e1], by rw [List.getElem?_eq_getElem hl, e1]⟩
    obtain ⟨dE, yE⟩ := dropE
    have ctE : ctOf go ys i = go y := by unfold ctOf; rw [yE]
    refine ⟨⟨y, V4, yE, k⟩, V4, e5, a9, adv_orig a9 clean, x1.trans (al.ex.trans (a3.ex.trans a4.ex)), clean, fun hlv2 => ?_, fun ⟨i', z1, z2, z3⟩ => ?_⟩
    · have hgo : go y = true := by rw [← ctE]; exact hlv2 i (Nat.lt_succ_self i)
      rw [if_pos hgo] at g2
      obtain ⟨r', g3, g4⟩ := Option.bind_eq_some_iff.mp g2
      have g5 := Option.some.inj g4
      rw [dE] at g5
      have g6 : r' = (ys.drop (i + 1), eF) := by
        injection g5 with p1 p2
        injection p1 with p3 p4
        exact Prod.ext p4 p2
      rw [g3, g6]
    · have : i' = i := by omega
      subst this
      rw [ctE] at z3
      rw [if_neg (by rw [z3]; exact Bool.false_ne_true)] at g2
      exact congrArg Prod.snd (Option.some.inj g2)
  · rintro H2 hlv ⟨V2, e2, b, b', x1, cl, s1, s2⟩
    exact wlk.stops H2 (hG V2 H2 x1 b.ok.sub)
  · rintro j H2 he ⟨V2, e2, b, b', x1, cl, s1, s2⟩
    refine ⟨V2, ?_⟩
    have : e2 = eF := by
      rcases he with ⟨rfl, hlv⟩ | hst
      · have := s1 hlv
        rw [List.drop_length] at this
        exact congrArg Prod.snd (Option.some.inj this)
      · exact s2 hst
    rw [← this]
    exact b'
theorem sd_allG {P : Addr} {wi : TI} {it : ItF} {tg : TG} {g : TgF} {f : EvF} {vs : List Nat} (iT : IsTab K P) (hi : SdW K wi it) (hg : SdGv K tg g vs) (hf : Sd K te f) : Sd K (GX.tAllG P wi tg te vs) (iAllG it g f vs) := by
  intro env res env' e σ V H ok Q q
  simp only [iAllG, Option.bind_eq_some_iff] at e
  obtain ⟨⟨ds, e0⟩, h1, e1, h2, ⟨ys, eF⟩, h3, h4⟩ := e
  split at h4
  · rename_i hB
    cases h4
    refine sd_gen goT iT hi hg hf h1 h2 h3 ok fun W hW => ⟨fun i v hv => ?_, fun j H2 he hw => ?_⟩
    · obtain ⟨y, V1, hy, r⟩ := hv
      have hb := List.all_eq_true.mp hB y (List.mem_of_getElem? hy)
      cases y with
      | bool b =>
        unfold ctOf
        rw [hy]
        exact R.isBool r
      | _ => cases hb
    · obtain ⟨V2, a⟩ := hW j H2 he hw
      rw [all_ctOf (gRun_len h3)]
      exact q _ V2 H2 a (.bool _)
  · cases h4
theorem sd_anyG {P : Addr} {wi : TI} {it : ItF} {tg : TG} {g : TgF} {f : EvF} {vs : List Nat} (iT : IsTab K P) (hi : SdW K wi it) (hg : SdGv K tg g vs) (hf : Sd K te f) : Sd K (GX.tAnyG P wi tg te vs) (iAnyG it g f vs) := by
  intro env res env' e σ V H ok Q q
  simp only [iAnyG, Option.bind_eq_some_iff] at e
  obtain ⟨⟨ds, e0⟩, h1, e1, h2, ⟨ys, eF⟩, h3, h4⟩ := e
  split at h4
  · rename_i hB
    cases h4
    refine sd_gen goF iT hi hg hf h1 h2 h3 ok fun W hW => ⟨fun i v hv => ?_, fun j H2 he hw => ?_⟩
    · obtain ⟨y, V1, hy, r⟩ := hv
      have hb := List.all_eq_true.mp hB y (List.mem_of_getElem? hy)
      cases y with
      | bool b =>
        unfold ctOf
        rw [hy]
        show v = .bl (!(!b))
        rw [Bool.not_not]
        exact R.isBool r
      | _ => cases hb
    · obtain ⟨V2, a⟩ := hW j H2 he hw
      have e2 : ((List.range ds.length).any fun i => !ctOf goF ys i) = ys.any goT := by
        have e3 : ((List.range ds.length).any fun i => !ctOf goF ys i) = !((List.range ds.length).all (ctOf goF ys)) := by rw [List.not_all_eq_any_not]
        rw [e3, all_ctOf (gRun_len h3), List.not_all_eq_any_not]
        rw [Bool.eq_iff_iff, List.any_eq_true, List.any_eq_true]
        have key : ∀ y ∈ ys, (!goF y) = goT y := fun y hy => by
          have hb := List.all_eq_true.mp hB y hy
          cases y with
          | bool b => show (!(!b)) = b; rw [Bool.not_not]
          | _ => cases hb
        exact ⟨fun ⟨y, hy, z⟩ => ⟨y, hy, by rw [← key y hy]; exact z⟩, fun ⟨y, hy, z⟩ => ⟨y, hy, by rw [key y hy]; exact z⟩⟩
      rw [e2]
      exact q _ V2 H2 a (.bool _)
  · cases h4
theorem sd_sumG {P : Addr} {wi : TI} {it : ItF} {tg : TG} {g : TgF} {f : EvF} {vs : List Nat} (iT : IsTab K P) (hi : SdW K wi it) (hg : SdGv K tg g vs) (hf : Sd K te f) : Sd K (GX.tSumG P wi tg te vs) (iSumG it g f vs) := by
  intro env res env' e σ V H ok Q q
  simp only [iSumG, Option.bind_eq_some_iff] at e
  obtain ⟨⟨ds, e0⟩, h1, e1, h2, ⟨ys, eF⟩, h3, h4⟩ := e
  have hlen : ys.length = ds.length := gRun_full (fun _ => rfl) h3
  split at h4
  · rename_i hB
    cases h4
    have hct : ∀ i, ctOf (fun _ => true) ys i = true := fun i => by unfold ctOf; split <;> rfl
    refine sd_gen (fun _ => true) iT hi hg hf h1 h2 h3 ok fun W hW => ⟨hct, fun i => match ys[i]? with
      | some y => intD y
      | none => 0, fun i v hv => ?_, fun H2 hw => ?_⟩
    · obtain ⟨y, V1, hy, r⟩ := hv
      have hb := List.all_eq_true.mp hB y (List.mem_of_getElem? hy)
      cases y with
      | int b =>
        simp only [hy]
        cases r
        rfl
      | _ => cases hb
    · obtain ⟨V2, a⟩ := hW ds.length H2 (.inl ⟨rfl, fun j _ => hct j⟩) hw
      have e2 := preSum_take (fun i => match ys[i]? with
        | some y => intD y
        | none => 0) ys (fun i y hy => by simp only [hy]) ds.length (by omega)
      rw [← hlen, List.take_length] at e2
      rw [← hlen, e2]
      exact q _ V2 H2 a (.int _)
  · cases h4
end
end DL

/-! all, any, sum of a generator expression: derivation rules, defs that hold them, and the end. -/
namespace DL
open PySem PySem.Spec PyProof.Rows L2
open Evl (Ex)
section
variable {X : Cx} {k : Nat} {a b e tg elt iter : Expr} {pos p gpos : Pos} {f : EvF} {c P : Addr}
theorem pdAllG {scope : Scope} {own : List (Str × Nat)} {it : ItF} {g : TgF} (hgl : Gl X "all") (hm : X.mg "all" = none) (hb : bootBuiltins "all" = some (.builtin "all")) (hc : X.calm = true) (hr : Room (k + 1) X.A) (TB : GxR.TabB X.base X.mg c P) (hcode : X.env.code = .ref c) (iT : IsTab X.K P) (nd : X.N.Nodup) (ok : BlkOk X.N X.env.scope scope own)
    (hco : scope.isCoroutine = false) (hnc : ∀ y ∈ scope.names, y.2 ≠ .cell) (h0 : scope.names.lookup (".0" : Str) = some NameKind.local) (hi : IW X tg iter it)
    (hg : ∀ (s : Shared) (H : Hp) (C : Addr) (code : Value) (fp : List Addr) (A' : Around), Room k A' → GDv (GX.genX X s H scope (genEnv scope (cloFrom X.env.cells scope.names []) C code builtinsNs X.env) fp A') tg g (own.map (·.2)))
    (he : ∀ (s : Shared) (H : Hp) (C : Addr) (code : Value) (fp : List Addr) (A' : Around), Room k A' → PD (GX.genX X s H scope (genEnv scope (cloFrom X.env.cells scope.names []) C code builtinsNs X.env) fp A') elt f)
    (hs : ∀ v, genFold iter X.env v = pure v := by intro _; rfl)
    (hst : starEach [.GeneratorExp elt [⟨tg, iter, [], 0⟩] scope gpos] X.env = (false, eval (.GeneratorExp elt [⟨tg, iter, [], 0⟩] scope gpos) X.env) :: starEach [] X.env := by rfl) :
    PD X (.Call (.Name "all" p) [.GeneratorExp elt [⟨tg, iter, [], 0⟩] scope gpos] [] pos) (iAllG it g f (own.map (·.2))) :=
  let ⟨_, h1, k1⟩ := hi
  ⟨_, GX.pe_allG (te := cE X.K f) (g := cG X.K g (own.map (·.2))) hgl hm hb hc hr TB hcode nd ok hco hnc h0 h1 (fun s H C code fp A' r => (hg s H C code fp A' r).canon) (fun s H C code fp A' r => (he s H C code fp A' r).canon) hs hst, sd_allG iT k1 cG_sd cE_sd⟩
theorem pdAnyG {scope : Scope} {own : List (Str × Nat)} {it : ItF} {g : TgF} (hgl : Gl X "any") (hm : X.mg "any" = none) (hb : bootBuiltins "any" = some (.builtin "any")) (hc : X.calm = true) (hr : Room (k + 1) X.A) (TB : GxR.TabB X.base X.mg c P) (hcode : X.env.code = .ref c) (iT : IsTab X.K P) (nd : X.N.Nodup) (ok : BlkOk X.N X.env.scope scope own)
    (hco : scope.isCoroutine = false) (hnc : ∀ y ∈ scope.names, y.2 ≠ .cell) (h0 : scope.names.lookup (".0" : Str) = some NameKind.local) (hi : IW X tg iter it)
    (hg : ∀ (s : Shared) (H : Hp) (C : Addr) (code : Value) (fp : List Addr) (A' : Around), Room k A' → GDv (GX.genX X s H scope (genEnv scope (cloFrom X.env.cells scope.names []) C code builtinsNs X.env) fp A') tg g (own.map (·.2)))
    (he : ∀ (s : Shared) (H : Hp) (C : Addr) (code : Value) (fp : List Addr) (A' : Around), Room k A' → PD (GX.genX X s H scope (genEnv scope (cloFrom X.env.cells scope.names []) C code builtinsNs X.env) fp A') elt f)
    (hs : ∀ v, genFold iter X.env v = pure v := by intro _; rfl)
    (hst : starEach [.GeneratorExp elt [⟨tg, iter, [], 0⟩] scope gpos] X.env = (false, eval (.GeneratorExp elt [⟨tg, iter, [], 0⟩] scope gpos) X.env) :: starEach [] X.env := by rfl) :
    PD X (.Call (.Name "any" p) [.GeneratorExp elt [⟨tg, iter, [], 0⟩] scope gpos] [] pos) (iAnyG it g f (own.map (·.2))) :=
  let ⟨_, h1, k1⟩ := hi
  ⟨_, GX.pe_anyG (te := cE X.K f) (g := cG X.K g (own.map (·.2))) hgl hm hb hc hr TB hcode nd ok hco hnc h0 h1 (fun s H C code fp A' r => (hg s H C code fp A' r).canon) (fun s H C code fp A' r => (he s H C code fp A' r).canon) hs hst, sd_anyG iT k1 cG_sd cE_sd⟩
theorem pdSumG {scope : Scope} {own : List (Str × Nat)} {it : ItF} {g : TgF} (hgl : Gl X "sum") (hm : X.mg "sum" = none) (hb : bootBuiltins "sum" = some (.builtin "sum")) (hc : X.calm = true) (hr : Room (k + 1) X.A) (TB : GxR.TabB X.base X.mg c P) (hcode : X.env.code = .ref c) (iT : IsTab X.K P) (nd : X.N.Nodup) (ok : BlkOk X.N X.env.scope scope own)
    (hco : scope.isCoroutine = false) (hnc : ∀ y ∈ scope.names, y.2 ≠ .cell) (h0 : scope.names.lookup (".0" : Str) = some NameKind.local) (hi : IW X tg iter it)
    (hg : ∀ (s : Shared) (H : Hp) (C : Addr) (code : Value) (fp : List Addr) (A' : Around), Room k A' → GDv (GX.genX X s H scope (genEnv scope (cloFrom X.env.cells scope.names []) C code builtinsNs X.env) fp A') tg g (own.map (·.2)))
    (he : ∀ (s : Shared) (H : Hp) (C : Addr) (code : Value) (fp : List Addr) (A' : Around), Room k A' → PD (GX.genX X s H scope (genEnv scope (cloFrom X.env.cells scope.names []) C code builtinsNs X.env) fp A') elt f)
    (hs : ∀ v, genFold iter X.env v = pure v := by intro _; rfl)
    (hst : starEach [.GeneratorExp elt [⟨tg, iter, [], 0⟩] scope gpos] X.env = (false, eval (.GeneratorExp elt [⟨tg, iter, [], 0⟩] scope gpos) X.env) :: starEach [] X.env := by rfl) :
    PD X (.Call (.Name "sum" p) [.GeneratorExp elt [⟨tg, iter, [], 0⟩] scope gpos] [] pos) (iSumG it g f (own.map (·.2))) :=
  let ⟨_, h1, k1⟩ := hi
  ⟨_, GX.pe_sumG (te := cE X.K f) (g := cG X.K g (own.map (·.2))) hgl hm hb hc hr TB hcode nd ok hco hnc h0 h1 (fun s H C code fp A' r => (hg s H C code fp A' r).canon) (fun s H C code fp A' r => (he s H C code fp A' r).canon) hs hst, sd_sumG iT k1 cG_sd cE_sd⟩
end
section
variable {P : Program} {w : World} {K : PySem.W.Frag} {mg : Str → Option Value} {base : Heap}
/-- THE RULE for a def that holds a generator expression: its code object is known -/
theorem def_okC {x qual : Str} {st : Stmt} {f : Addr} {fd : FuncData} {N ps : List Str} {k : Nat} {g : StF} {c : Addr} (F : Fun K x qual st f fd) (hcd : fd.code = .ref c) (S : FnScope N ps (defScope st))
    (hbody : ∀ (A : Around) (outer : List Env) (s : Shared) (H : Hp) (E : XK), Room k (A.deeper (envOfC qual (defScope st) s.heap.objs.size f (.ref c))) → BD (cxOf CX0 P w K mg base N qual (defScope st) f (.ref c) A outer s H E).nox (defBody st) g) :
    FnOk P w K mg base CX0 (k + 1) f fd ps (spF K ps.length (runDef ps.length N.length g)) := by
  obtain ⟨oc, od, kV, doc, pm, an, cdv, ct, osl, rfl, lk, hcd2⟩ := F.ex
  have e : cdv = .ref c := hcd
  subst e
  refine fn_of lk hcd2 S (fun vs H Q E h => h.1) fun A outer s H vs Q E hr h => ?_
  obtain ⟨t, h1, h2⟩ := hbody A outer s H E hr
  exact ⟨t, h1.nox, body_ok h2 h⟩
/-! ### the end -/
def noT (H : Hp) : Hp := fun a => match H a with
  | some (.tbl _) => none
  | o => o
theorem noT_of {H : Hp} {a : Addr} {o : HO} (h : H a = some o) (n : NT o) : noT H a = some o := by
  unfold noT
  rw [h]
  cases o with
  | tbl q => exact absurd rfl (n q)
  | _ => rfl
theorem noT_sub {H : Hp} : Ex (noT H) H := fun a o h => by
  unfold noT at h
  cases z : H a with
  | none => rw [z] at h; cases h
  | some o' =>
    rw [z] at h
    cases o' with
    | tbl q => cases h
    | _ => exact h
theorem noT_tbl {H : Hp} {a : Addr} {q : Array Value} (h : H a = some (.tbl q)) : noT H a = none := by unfold noT; rw [h]
theorem sql_noT {K : PySem.W.Frag} {H : Hp} {a : Addr} {xs : List L2.V} (h : SqL K H a xs) : SqL K (noT H) a xs := by
  rcases h with h | h
  · rcases h with h | ⟨o, h⟩
    · exact .inl (.inl (noT_of h fun q z => by cases z))
    · exact .inl (.inr ⟨o, noT_of h fun q z => by cases z⟩)
  · exact .inr h
/-- what the law's def promises, to what is asked of it -/
theorem to_lawT {K : PySem.W.Frag} {F : Fn} {cs : List (Addr × Addr)} (hl : ∀ ns : List Int, ns.length ≤ 63 → ∃ o, F [.val (.list (ns.map D.int))] = some (.val (.bool true), o)) (ht : ∀ P, IsTab K P → ∃ p ∈ cs, p.2 = P)
    (H : Hp) (a : Addr) (ns : List Int) (hn : ns.length ≤ 63) (hT : ∀ p ∈ cs, H p.2 = some (.tbl #[])) (hS : SqL K H a (ns.map L2.V.int)) : spF K 1 F [.ref a] H (fun v _ => v = .bl true) fun _ _ _ => False := by
  obtain ⟨o, ho⟩ := hl ns hn
  refine ⟨rfl, noT H, _, _, o, ⟨rfl, noT_sub, fun i v s h1 h2 => ?_, fun i j p q d e l h1 => ?_, fun P i => ?_⟩, ho, fun v V' H' _ r => ?_⟩
  · cases i with
    | zero => cases h1; cases h2; exact R.list (sql_noT hS) (RA.ints ns)
    | succ i => simp at h1
  · cases i with
    | zero => cases h1
    | succ i => simp at h1
  · obtain ⟨p, hp, rfl⟩ := ht P i
    exact ⟨noT_tbl (hT p hp), #[], hT p hp, trivial⟩
  · exact R.isBool r
/-- the end of a row whose defs hold generator expressions: every def's table is empty there -/
theorem walk_ofAll {l : PySem.W.OpenLaw} {n k : Nat} {q : Program} {loose : List Str} {XP : (Str → Option Value) → Heap → Prop} {YP : World → Heap → Prop} {d : DefRec} {K : Params → PySem.W.Frag} {CX : World → CXT} {x : Str}
    (hn : l.most = some n) (hn2 : n ≤ sizeLine) (hdf : d.params.defaults = []) (hr : Room k callerA) (hY : ∀ (w : World) (h : Heap), YP w h → (K w.params).In h)
    (F : ∀ (w : World) (mg : Str → Option Value) (fa : Addr) (h : Heap), YP w h → (K w.params).In h → h.Ns mainGlobals mg → mg d.name = some (.ref fa) →
      (∀ (y : Str) (f : Addr), ((recsOf q).any fun e => e.name == y) = true → mg y = some (.ref f) → LamX.OwnTab (K w.params) f h) → LamX.LawAtS l w (K w.params) (CX w) k n x mg fa h)
    (hCX : ∀ (w : World) (H : Hp) (s : Shared) (e : Value) (s' : Shared), CX w [] H s (fun _ _ _ => False) e s' → False) :
    PySem.W.WalkO q loose XP YP l.row.toRowW d [] (fun f vs => PySem.call f vs) := by
  refine Att.attach_callB hn hdf fun w s₀ s₁ mg mb fa o pm cd doc a vs ns G Y ho hd hcd hmg hobj hints hlen hbits hg => ?_
  have KX := hY w _ Y
  have own : ∀ (y : Str) (f : Addr), ((recsOf q).any fun e => e.name == y) = true → mg y = some (.ref f) → LamX.OwnTab (K w.params) f s₁.heap := fun y f hrec hmy c P o1 fd1 e dd vs1 sl k1 k2 k3 k4 k5 => by
    obtain ⟨dL, hm, hn1⟩ := List.any_eq_true.mp hrec
    have hn2 : dL.name = y := beq_iff_eq.mp hn1
    obtain ⟨a', o', fd', c', P', h1, h2, h3, h4, h5, h6⟩ := G.T.tab dL hm
    rw [hn2, hmy] at h1
    cases h1
    have g1 := KX _ _ k1
    rw [g1] at h2
    cases h2
    rw [k2] at h3
    cases h3
    rw [k3] at h4
    cases h4
    obtain ⟨⟨oc, vc, e1, _, e3, e4⟩, hP⟩ := h6
    have g2 := KX _ _ k4
    rw [g2] at e1
    cases e1
    cases e3
    rw [k5] at e4
    cases e4
    exact hP
  obtain ⟨fd, cs, sp, hT, nT, C, hb, hsp, hF⟩ := F w mg fa _ Y KX G.T.g hmg own
  exact LamX.law_callTs KX G.T.g G.T.b G.T.builtins G.T.nolimit hg hT nT C G.T.bmain hobj hints (Nat.le_trans hlen hn2) hr hF hb (fun H hH hS => hsp H a ns hlen hbits hH hS) fun H e s' => hCX w H s₁ e s'
end
end DL

/-! a walk over zip of two tuples or two lists -/
namespace DL
open PySem PySem.Spec PyProof.Rows L2
open Evl (Ex)
def zipD (ds es : List D) : List D := (ds.zip es).map fun p => D.tuple [p.1, p.2]
theorem zipD_get {ds es : List D} {i : Nat} {d : D} (h : (zipD ds es)[i]? = some d) : ∃ x y, ds[i]? = some x ∧ es[i]? = some y ∧ d = .tuple [x, y] := by
  unfold zipD at h
  rw [List.getElem?_map] at h
  cases z : (ds.zip es)[i]? with
  | none => rw [z] at h; cases h
  | some p =>
    rw [z] at h
    cases h
    obtain ⟨h1, h2⟩ := List.getElem?_zip_eq_some.mp z
    exact ⟨_, _, h1, h2, rfl⟩
theorem zipD_len (ds es : List D) : (zipD ds es).length = min ds.length es.length := by unfold zipD; rw [List.length_map, List.length_zip]
section
variable {K : PySem.W.Frag} {σ σ1 : L2.St} {env env1 env2 : Nv} {V H V1 H1 : Hp}
theorem walk_zipT {a b : Addr} {xs ys : List L2.V} {n : Nat} (hn : n = min xs.length ys.length) : Walk (RZ.ItzT K a b) n (fun H => SqT K H a xs ∧ SqT K H b ys) (YPair (fun i => xs[i]?) (fun i => ys[i]?)) := by
  subst hn
  refine ⟨fun i _ hi q => ?_, fun _ q => ⟨xs, ys, q.1, q.2, by omega⟩, fun i H v H' _ q y => ?_⟩
  · have h1 : i < xs.length := by omega
    have h2 : i < ys.length := by omega
    exact ⟨xs, ys, xs[i], ys[i], q.1, q.2, by simp [h1], by simp [h2]⟩
  · obtain ⟨T, x, z, h1, h2, h3, h4, h5⟩ := y
    exact ⟨T, x, z, h1, h2, h3, h4 xs q.1, h5 ys q.2⟩
theorem two_new {T : Addr} {x y : L2.V} {d e : D} (s : Ex V1 H1) (hT : H1 T = none) (r : R K V1 x d) (r2 : R K V1 y e) :
    Al V1 H1 (upd V1 T (.tup [x, y])) (upd H1 T (.tup [x, y])) ∧ R K (upd V1 T (.tup [x, y])) (.ref T) (.tuple [d, e]) := by
  have b : Al V1 H1 (upd V1 T (.tup [x, y])) (upd H1 T (.tup [x, y])) := Al.new s hT
  exact ⟨b, .tuple (St.of upd_same) (.cons (R.mono b.ex _ _ r) (.cons (R.mono b.ex _ _ r2) .nil))⟩
theorem wk_zipT {a b : Addr} {xs ys : List L2.V} {ds es : List D} (hs : SqT K V a xs) (r : RA K V xs ds) (hs2 : SqT K V b ys) (r2 : RA K V ys es) : WkOk K (RZ.ItzT K a b) V (zipD ds es) := by
  refine ⟨min xs.length ys.length, _, _, by rw [zipD_len, r.len, r2.len], walk_zipT rfl, fun V1 H1 e1 e2 => ⟨Evl.ex_t (e1.trans e2) hs, Evl.ex_t (e1.trans e2) hs2⟩, ?_⟩
  rintro i d V1 H1 x H' hd e1 e2 ⟨T, z, u, rfl, hT, rfl, hz, hu⟩
  obtain ⟨x1, y1, h1, h2, rfl⟩ := zipD_get hd
  obtain ⟨d1, k1, q1⟩ := r.getV hz
  obtain ⟨d2, k2, q2⟩ := r2.getV hu
  rw [h1] at k1
  rw [h2] at k2
  cases k1
  cases k2
  obtain ⟨b, rb⟩ := two_new e2 hT (R.mono e1 _ _ q1) (R.mono e1 _ _ q2)
  exact ⟨_, b, rb⟩
theorem wk_zipL {a b : Addr} {xs ys : List L2.V} {ds es : List D} (hs : SqL K V a xs) (r : RA K V xs ds) (hs2 : SqL K V b ys) (r2 : RA K V ys es) : WkOk K (Itz K a b) V (zipD ds es) := by
  refine ⟨min xs.length ys.length, _, _, by rw [zipD_len, r.len, r2.len], walk_zip rfl, fun V1 H1 e1 e2 => ⟨Evl.ex_l (e1.trans e2) hs, Evl.ex_l (e1.trans e2) hs2⟩, ?_⟩
  rintro i d V1 H1 x H' hd e1 e2 ⟨T, z, u, rfl, hT, rfl, hz, hu⟩
  obtain ⟨x1, y1, h1, h2, rfl⟩ := zipD_get hd
  obtain ⟨d1, k1, q1⟩ := r.getV hz
  obtain ⟨d2, k2, q2⟩ := r2.getV hu
  rw [h1] at k1
  rw [h2] at k2
  cases k1
  cases k2
  obtain ⟨b, rb⟩ := two_new e2 hT (R.mono e1 _ _ q1) (R.mono e1 _ _ q2)
  exact ⟨_, b, rb⟩
def zF : List Res → Nv → Option (List D × Nv)
  | [.val (.tuple ds), .val (.tuple es)], e => some (zipD ds es, e)
  | [.val (.list ds), .val (.list es)], e => some (zipD ds es, e)
  | _, _ => none
def iZipU (fs : EvA) : ItF := fun env => (fs env).bind fun p => zF p.1 p.2
theorem iZipU_ev {fs : EvA} : iZipU fs env = (fs env).bind fun p => zF p.1 p.2 := rfl
theorem zF_tup {ds es : List D} : zF [.val (.tuple ds), .val (.tuple es)] env = some (zipD ds es, env) := rfl
theorem zF_list {ds es : List D} : zF [.val (.list ds), .val (.list es)] env = some (zipD ds es, env) := rfl
theorem sdw_zipU {t : TA} {fs : EvA} (ha : SdA K t fs) : SdW K (RZ.iZipA K t) (iZipU fs) := by
  intro env ds env' e σ V H ok Rr q
  simp only [iZipU, Option.bind_eq_some_iff] at e
  obtain ⟨⟨r, e1⟩, h1, h3⟩ := e
  have r2 : ∃ xs ys, (r = [.val (.tuple xs), .val (.tuple ys)] ∨ r = [.val (.list xs), .val (.list ys)]) ∧ ds = zipD xs ys ∧ env' = e1 := by
    dsimp only at h3
    unfold zF at h3
    split at h3
    · cases h3
      exact ⟨_, _, .inl rfl, rfl, rfl⟩
    · cases h3
      exact ⟨_, _, .inr rfl, rfl, rfl⟩
    · cases h3
  obtain ⟨xs, ys, hr, rfl, rfl⟩ := r2
  refine ha _ _ _ h1 σ V H ok _ fun vs V' H' a k => ?_
  rcases hr with rfl | rfl
  · cases k with
    | @cons v0 _ _ _ k1 k2 =>
      cases k2 with
      | @cons v1 _ _ _ k2 k3 =>
        cases k3
        have k1' : R K V' v0 (.tuple xs) := k1
        have k2' : R K V' v1 (.tuple ys) := k2
        cases k1' with
        | @tuple b zs _ w4 w5 =>
          cases k2' with
          | @tuple b2 zs2 _ w6 w7 => exact ⟨b, b2, zs, zs2, rfl, .inr ⟨Evl.ex_t a.ok.sub w4.sq, Evl.ex_t a.ok.sub w6.sq, q _ V' H' a (wk_zipT w4.sq w5 w6.sq w7)⟩⟩
  · cases k with
    | @cons v0 _ _ _ k1 k2 =>
      cases k2 with
      | @cons v1 _ _ _ k2 k3 =>
        cases k3
        have k1' : R K V' v0 (.list xs) := k1
        have k2' : R K V' v1 (.list ys) := k2
        cases k1' with
        | @list b zs _ w4 w5 =>
          cases k2' with
          | @list b2 zs2 _ w6 w7 => exact ⟨b, b2, zs, zs2, rfl, .inl ⟨Evl.ex_l a.ok.sub w4, Evl.ex_l a.ok.sub w6, q _ V' H' a (wk_zipL w4 w5 w6 w7)⟩⟩
end
section
variable {X : Cx} {e e2 : Expr} {fs : EvA} {p pos : Pos}
theorem iwZip {tpos : Pos} {elts : List Expr} {kk : Nat} (hg : Gl X "zip") (hm : X.mg "zip" = none) (ha : AD X [e, e2] fs) (hs : starEach [e, e2] X.env = (false, eval e X.env) :: starEach [e2] X.env := by rfl) (hpl : (backTo pos (starEach [e2] X.env)).any (·.1) = false := by rfl) :
    IW X (.Tuple elts kk tpos) (.Call (.Name "zip" p) [e, e2] [] pos) (iZipU fs) :=
  let ⟨_, h1, k1⟩ := ha; ⟨_, RZ.pi_zipA hg hm h1 hs hpl, sdw_zipU k1⟩
end
end DL

/-! x.insert(i, y) on an own list -/
namespace DL
open PySem PySem.Spec PyProof.Rows L2
open Evl (Ex)
def insF (o : Option Sl) (i : Nat) (k : Int) (d : D) (e : Nv) : Option Fl := match o with
  | some (.own q (.list ds)) => if ds.length < 100000 ∧ 0 ≤ k ∧ k < 4611686018427387904 then some (.next (e.set i (.own q (.list (ds.take k.toNat ++ [d] ++ ds.drop k.toNat))))) else none
  | _ => none
def insA (i : Nat) : List Res → Nv → Option Fl
  | [.val (.int k), .val d], e => insF e[i]? i k d e
  | _, _ => none
def iIns (i : Nat) (fs : EvA) : StF := fun env => ap1 env[i]? ((fs env).bind fun p => insA i p.1 p.2)
section
variable {K : PySem.W.Frag} {σ σ1 : L2.St} {env env1 env2 : Nv} {V H V1 H1 : Hp}
theorem iIns_ev {i : Nat} {fs : EvA} : iIns i fs env = ap1 env[i]? ((fs env).bind fun p => insA i p.1 p.2) := rfl
theorem insA_val {i : Nat} {k : Int} {d : D} : insA i [.val (.int k), .val d] env = insF env[i]? i k d env := rfl
theorem insF_list {i : Nat} {k : Int} {d : D} {q : Bool} {ds : List D} : insF (some (.own q (.list ds))) i k d env = if ds.length < 100000 ∧ 0 ≤ k ∧ k < 4611686018427387904 then some (.next (env.set i (.own q (.list (ds.take k.toNat ++ [d] ++ ds.drop k.toNat))))) else none := rfl
def rIns : L2.V → List L2.V → Hp → VK → Prop := fun x vs H Q => ∃ (l : Addr) (xs : List L2.V) (i : Int) (y : L2.V), x = .ref l ∧ vs = [.int i, y] ∧ H l = some (.lst xs) ∧ xs.length < sizeLine ∧ 0 ≤ i ∧ i < 2 ^ 63 ∧ Q .non (upd H l (.lst (xs.take i.toNat ++ [y] ++ xs.drop i.toNat)))
theorem sds_ins {i : Nat} {t : TA} {fs : EvA} (ha : SdA K t fs) : SdS K (tDrop (tBM K "list" rIns (tVar i) t)) (iIns i fs) := by
  intro env fl e σ V H ok E q
  unfold iIns ap1 at e
  split at e
  · rename_i p0 d0 he0
    simp only [Option.bind_eq_some_iff] at e
    obtain ⟨⟨r, e1⟩, h1, h2⟩ := e
    dsimp only at h2
    unfold insA at h2
    split at h2
    · rename_i k d
      unfold insF at h2
      split at h2
      · rename_i p ds he
        split at h2
        · rename_i hz
          cases h2
          obtain ⟨l0, g1, g2, g3⟩ := ok.ownC he0
          refine ⟨_, g1, ?_, ?_⟩
          · obtain ⟨xs, hx, _⟩ := g3
            exact .inl ⟨rfl, xs, Evl.sq_of hx⟩
          · refine ha _ _ _ h1 σ V H ok _ fun vs V1 H1 a kk => ?_
            obtain ⟨l, y1, y2, xs, y3, y4⟩ := a.ok.ownC he
            rw [g1] at y1
            cases y1
            cases kk with
            | @cons v0 _ _ _ k1 k2 =>
              cases k2 with
              | @cons v1 _ _ _ k2 k3 =>
                cases k3
                have k1' : R K V1 v0 (.int k) := k1
                have k2' : R K V1 v1 d := k2
                cases k1'
                exact ⟨_, xs, k, v1, rfl, rfl, y3, Evl.sz_lt (by rw [y4.len]; exact hz.1), hz.2.1, Int.lt_of_lt_of_le hz.2.2 (by decide), q σ V1 _ (adv_upd a he g1 ⟨_, upd_same, ((y4.take _).append (.cons k2' .nil)).append (y4.drop _)⟩)⟩
        · cases h2
      · cases h2
    · cases h2
  · cases e
end
section
variable {X : Cx} {a b : Expr} {fs : EvA} {x : Str} {p2 pos : Pos}
theorem stIns (i : Nat) (ha : AD X [a, b] fs) {apos p : Pos} (hN : X.N[i]? = some x := by rfl) (hv : Vis X.env.scope x := by first | exact Or.inl rfl | exact Or.inr (Or.inl rfl) | exact Or.inr (Or.inr rfl)) (hd : (x == ("__debug__" : Str)) = false := by decide) (hcd : (x == ("__classdict__" : Str)) = false := by decide)
    (h1 : attributeBase (.Name x p) "insert" X.env (eval (.Name x p) X.env) = eval (.Name x p) X.env := by rfl) (h2 : (apos.endLine == pos.line) = true := by rfl) (h3 : starEach [a, b] X.env = (false, eval a X.env) :: starEach [b] X.env := by rfl) (h4 : (backTo pos (starEach [b] X.env)).any (·.1) = false := by rfl)
    (h5 : ((backTo pos (starEach [a, b] X.env)).all (fun x => !x.1) && (backToKw pos (keywordEach [] X.env)).all (fun x => x.1.isSome) && decide ([a, b].length + ([] : List Keyword).length + (if ([] : List Keyword).isEmpty then 0 else 1) < 30)) = true := by rfl) (hs : swapsWith (.Call (.Attribute (.Name x p) "insert" apos) [a, b] [] pos) none p2.line X.env = pure false := by rfl) : StD X (.Expr (.Call (.Attribute (.Name x p) "insert" apos) [a, b] [] pos) p2) (iIns i fs) :=
  let ⟨_, g1, k1⟩ := ha
  ⟨_, ps_expr (pe_bm PySem.F.plainAttrs_list PySem.F.slot_list_insert PySem.F.type_list_insert mt_insert (pe_var hN hv hd hcd) g1 h1 h5 h2 h3 h4) hs, sds_ins k1⟩
end
end DL

/-! dicts whose keys are tuples -/
namespace DL
open PySem PySem.Spec PyProof.Rows L2
open Evl (Ex)
theorem key_ofS {X : Cx} {pins : List (Addr × Obj)} {σ : L2.St} {H : Hp} {s : Shared} {a : Addr} {ks : List Key} (I : Inv X pins σ H s) (e : SqT X.K H a (ks.map kV)) : (tupleKind (mixKind X.prog X.w)).is s.heap ks a := by
  obtain ⟨its, r, ⟨o, h1, h2, n, h3⟩, _⟩ := I.tuple e
  exact ⟨o, its.toArray, n, h1, h2, h3, by simpa using items_are r⟩
/-- what the dict at a holds at the tuple y -/
def DGetS (K : PySem.W.Frag) (H : Hp) (a : Addr) (y : L2.V) (r : Option L2.V) : Prop := ∃ kvs k b, Rd H a (.dT kvs) ∧ y = .ref b ∧ SqT K H b (k.map kV) ∧ r = valV kvs k
section
variable {X : Cx} {pins : List (Addr × Obj)} {σ : L2.St} {H : Hp} {s : Shared} {a : Addr} {y d : L2.V} {u r : Value} {o : Option L2.V} {A : Around} {E : Value → Shared → Prop}
theorem d_get2S {Q : Value → Shared → Prop} (hu : A.units + 1 < cLine) (I : Inv X pins σ H s) (g : DGetS X.K H a y o) (ry : RelV y u) (rd : RelV d r) (h : ∀ w' s', Inv X pins σ H s' → RelV (o.getD d) w' → Q w' s') :
    wpAny (model X.prog X.w) A (call (.builtin "dict.get") [.ref a, u, r]) Q E s := by
  obtain ⟨kvs, k, b, e, ey, eb, l⟩ := g
  subst ey
  cases (show u = Value.ref b from ry)
  obtain ⟨z, hd, xs, rel, dd⟩ := dt_rd I.hok e
  refine call_meetsIn PySem.F.slot_dict_get dd.typeIs PySem.F.entry_dict_get (PySem.F.args_dict_get_3 _ _ _) (meetsH_dict_get_default (tupleKind (mixKind X.prog X.w)) a b hd r) ⟨tupleKind_room_in1 hu, k, xs, key_ofS I eb, dd, h _ _ (I.tok _) ?_⟩
  rw [l]
  exact (rel.val k).getD rd
end
def tTGet2 (K : PySem.W.Frag) (td ty tx : TE) : TE := fun σ H Q => td σ H fun x H1 => ∃ a, x = .ref a ∧ IsD H1 a ∧ ty σ H1 fun y H2 => tx σ H2 fun z H3 => ∃ o, DGetS K H3 a y o ∧ Q (o.getD z) H3
theorem pe_tget2 {X : Cx} {o e f : Expr} {apos cpos : Pos} {td ty tx : TE} (hu : X.A.units + 1 < cLine) (ho : PE X o td) (he : PE X e ty) (hf : PE X f tx) (m : M2 X o "get" apos e f cpos) : PE X (.Call (.Attribute o "get" apos) [e, f] [] cpos) (tTGet2 X.K td ty tx) := by
  refine ⟨fun pins s σ H Q I h => ?_⟩
  refine wpAny_Call_method m.base m.few m.line PySem.F.plainAttrs_dict PySem.F.slot_dict_get PySem.F.type_dict_get (thn (ho.run pins s σ H _ I h) fun u s1 ⟨x, H1, I1, rx, a, ex, d, q1⟩ => ?_)
  subst ex
  obtain rfl : u = Value.ref a := rx
  obtain ⟨t1, t2, _⟩ := isD_at I1 d
  refine ⟨t1, t2, ?_⟩
  rw [m.trees]
  refine Calls.callWith_builtin rfl (Calls.evalArgs_plain (Calls.spliced_cons (thn (he.run pins s1 σ H1 _ I1 q1) fun iv s2 ⟨y, H2, I2, ry, q2⟩ =>
    Calls.spliced_cons (thn (hf.run pins s2 σ H2 _ I2 q2) fun fv s3 ⟨z, H3, I3, rz, ov, g, q3⟩ => Calls.spliced_nil ?_))))
  exact d_get2S hu I3 g ry rz fun w' s4 I4 rw' => ⟨_, H3, I4, rw', q3⟩
/-! keys as data -/
def keysOf : List D → Option (List Key)
  | [] => some []
  | d :: ds => (keyD d).bind fun k => (keysOf ds).map (k :: ·)
def keyTD : D → Option (List Key)
  | .tuple ds => keysOf ds
  | _ => none
def findT : List (List Key) → List D → List Key → Option D
  | k :: ks, d :: ds, q => if k = q then some d else findT ks ds q
  | _, _, _ => none
def putT : List (List Key) → List D → List Key → D → List (List Key) × List D
  | k :: ks, d :: ds, q, x => if k = q then (k :: ks, x :: ds) else let r := putT ks ds q x; (k :: r.1, d :: r.2)
  | _, _, q, x => ([q], [x])
def tupK (k : List Key) : D := .tuple (k.map keyT)
def pairsT : List (List Key) → List D → List D
  | k :: ks, d :: ds => .tuple [tupK k, d] :: pairsT ks ds
  | _, _ => []
/-- no constant of the program is the tuple k -/
def NoTup (K : PySem.W.Frag) (k : List Key) : Prop := ∀ (a : Addr) (o : Obj) (its : Array Value) (n : Nat), K.lookup a = some o → o.cls = .type "tuple" → o.data = .seq its n → ¬ Vals (k.map kV) its.toList
section
variable {K : PySem.W.Frag} {σ σ1 : L2.St} {env env1 env2 : Nv} {V H V1 H1 V2 H2 : Hp} {v : L2.V} {te ta tb ti td ty tx tv : TE}
theorem keys_of : ∀ {ds : List D} {vs : List L2.V} {k : List Key}, RA K V vs ds → keysOf ds = some k → vs = k.map kV
  | [], _, _, h, e => by cases h; cases e; rfl
  | d :: ds, _, k, h, e => by
    cases h with
    | cons h1 h2 =>
      simp only [keysOf, Option.bind_eq_some_iff, Option.map_eq_some_iff] at e
      obtain ⟨q, e1, ks, e2, rfl⟩ := e
      rw [key_of h1 e1, keys_of h2 e2]
      rfl
theorem keyT_of {y : L2.V} {d : D} {k : List Key} (h : R K V y d) (e : keyTD d = some k) : ∃ b, y = .ref b ∧ St K V b (k.map kV) := by
  cases d with
  | tuple ds =>
    cases h with
    | tuple hs ha =>
      rw [keys_of ha e] at hs
      exact ⟨_, rfl, hs⟩
  | _ => cases e
theorem dt_of' {x : L2.V} {ks : List (List Key)} {ds : List D} (h : OpOk K V H x (.dictT ks ds)) (sub : Ex V H) : ∃ a kvs, x = .ref a ∧ H a = some (.dT kvs) ∧ kvs.map (·.1) = ks ∧ RA K V (kvs.map (·.2)) ds := by
  rcases h with h | ⟨l, rfl, hv, kvs, h1, h2, h3⟩
  · cases h with
    | @dictT a kvs _ _ h1 h2 h3 => exact ⟨a, kvs, rfl, sub _ _ h1, h2, h3⟩
  · exact ⟨l, kvs, rfl, h1, h2, h3⟩
theorem valT_neg {kv : List Key × L2.V} {kvs : List (List Key × L2.V)} {q : List Key} (h : ¬ kv.1 = q) : valV (kv :: kvs) q = valV kvs q := by
  simp [valV, List.find?, h]
theorem valT_pos {kv : List Key × L2.V} {kvs : List (List Key × L2.V)} {q : List Key} (h : kv.1 = q) : valV (kv :: kvs) q = some kv.2 := by
  simp [valV, List.find?, h]
theorem findT_val (q : List Key) : ∀ (kvs : List (List Key × L2.V)) (ds : List D), RA K V (kvs.map (·.2)) ds → (∀ d, findT (kvs.map (·.1)) ds q = some d → ∃ v, valV kvs q = some v ∧ R K V v d) ∧ (findT (kvs.map (·.1)) ds q = none → valV kvs q = none)
  | [], ds, _ => ⟨fun d h => (by cases h), fun _ => rfl⟩
  | kv :: kvs, ds, h => by
    cases h with
    | @cons w vs d ds a t =>
      obtain ⟨h1, h2⟩ := findT_val q kvs ds t
      by_cases e : kv.1 = q
      · refine ⟨fun d' hd => ?_, fun hd => ?_⟩
        · simp only [List.map_cons, findT, if_pos e] at hd
          cases hd
          exact ⟨_, valT_pos e, a⟩
        · simp only [List.map_cons, findT, if_pos e] at hd
          cases hd
      · refine ⟨fun d' hd => ?_, fun hd => ?_⟩
        · simp only [List.map_cons, findT, if_neg e] at hd
          rw [valT_neg e]
          exact h1 d' hd
        · simp only [List.map_cons, findT, if_neg e] at hd
          rw [valT_neg e]
          exact h2 hd
/-! d.get(k, x) -/
def iTGet2 (f g h : EvF) : EvF := fun env => (opd f env).bind fun p => (look p.2 p.1).bind fun d0 => match d0 with
  | .dictT _ _ => (opd g p.2).bind fun q => (opd h q.2).bind fun r => (look r.2 p.1).bind fun d => match d with
    | .dictT ks ds => (look r.2 q.1).bind fun y => (keyTD y).bind fun k => (vis r.1).bind fun z => some (.val ((findT ks ds k).getD z), r.2)
    | _ => none
  | _ => none
theorem sd_tget2 {f g h : EvF} (ha : Sd K td f) (hb : Sd K ty g) (hc : Sd K tx h) : Sd K (tTGet2 K td ty tx) (iTGet2 f g h) := by
  intro env res env' e σ V H ok Q q
  simp only [iTGet2, Option.bind_eq_some_iff] at e
  obtain ⟨⟨r1, e1⟩, k1, d0, k2, e⟩ := e
  cases d0 with
  | dictT ks0 ds0 =>
    simp only [Option.bind_eq_some_iff] at e
    obtain ⟨⟨r2, e2⟩, k3, ⟨r3, e3⟩, k4, d, k5, e⟩ := e
    cases d with
    | dictT ks ds =>
      simp only [Option.bind_eq_some_iff] at e
      obtain ⟨y, k6, k, k7, z, k8, k9⟩ := e
      cases k9
      refine opd_snd ha k1 ok fun x V1 H1 a1 c1 => ?_
      obtain ⟨a, kvs, rfl, h1, _, _⟩ := dt_of' (c1.look a1.ok k2) a1.ok.sub
      refine ⟨a, rfl, .inr ⟨kvs, .inl h1⟩, ?_⟩
      refine opd_snd hb k3 a1.ok fun w V2 H2 a2 c2 => ?_
      refine opd_snd hc k4 a2.ok fun u V3 H3 a3 c3 => ?_
      have a4 := (a1.trans a2).trans a3
      obtain ⟨a', kvs', e', h2, h3, h4⟩ := dt_of' (((c1.mono a2.ex).mono a3.ex).look a4.ok k5) a4.ok.sub
      cases e'
      have hy := ((c2.mono a3.ex).look a4.ok k6).seen a4.ok.sub
      obtain ⟨b, rfl, hb⟩ := keyT_of hy k7
      have rz : R K V3 u z := by
        cases r3 with
        | val d' => cases k8; exact c3
        | new d' => exact c3.elim
        | own j => cases k8
      refine ⟨valV kvs' k, ⟨kvs', k, b, .inl h2, rfl, hb.sq, rfl⟩, ?_⟩
      subst h3
      obtain ⟨g1, g2⟩ := findT_val k kvs' ds h4
      cases hf : findT (kvs'.map (·.1)) ds k with
      | none =>
        rw [g2 hf]
        exact q _ V3 H3 a4 (show R K V3 u ((findT (kvs'.map (·.1)) ds k).getD z) by rw [hf]; exact rz)
      | some d =>
        obtain ⟨v, v1, v2⟩ := g1 d hf
        rw [v1]
        exact q _ V3 H3 a4 (show R K V3 v ((findT (kvs'.map (·.1)) ds k).getD z) by rw [hf]; exact v2)
    | _ => cases e
  | _ => cases e
/-! {} -/
def iTNew : EvF := fun env => some (.new (.dictT [] []), env)
theorem sd_tnew : Sd K tDNewT iTNew := by
  intro env res env' e σ V H ok Q q
  cases e
  intro p hp
  have b : Al V H V (upd H p (.dT [])) := Al.hid ok.sub hp
  exact q _ V _ ((Adv.refl ok).trans (b.adv ok)) ⟨p, rfl, .inl hp, Evl.fresh_back ok.sub hp, fun w => ok.notOwn hp w, [], upd_same, rfl, .nil⟩
/-! d[k] = e -/
def okK : List Key → Bool
  | [.inl a, .inl _, .inl _] => decide (a ≠ 0)
  | _ => false
def NoSym (K : PySem.W.Frag) : Prop := ∀ k, okK k = true → NoTup K k
def symObj (o : Obj) : Bool := match o.data with
  | .seq its _ => match its.toList with
    | [.int a _, .int _ _, .int _ _] => decide (a ≠ 0)
    | _ => false
  | _ => false
def noSymB (K : PySem.W.Frag) : Bool := K.all fun p => !symObj p.2
theorem lookup_mem {a : Addr} {o : Obj} : ∀ {K : PySem.W.Frag}, K.lookup a = some o → (a, o) ∈ K
  | [], h => by cases h
  | (b, u) :: K, h => by
    unfold List.lookup at h
    split at h
    · rename_i e
      cases h
      have : a = b := by simpa using e
      rw [this]
      exact List.mem_cons_self
    · exact List.mem_cons_of_mem _ (lookup_mem h)
theorem noSym_of {K : PySem.W.Frag} (h : noSymB K = true) : NoSym K := by
  intro k hk a o its n h1 h2 h3 h4
  have m := List.all_eq_true.mp h _ (lookup_mem h1)
  unfold okK at hk
  split at hk
  · rename_i x y z
    have ha : x ≠ 0 := by simpa using hk
    obtain ⟨us, hus⟩ : ∃ us, us = its.toList := ⟨_, rfl⟩
    rw [← hus] at h4
    have h5 : ∃ t1 t2 t3, us = [Value.int x t1, .int y t2, .int z t3] := by
      cases h4 with
      | cons q1 h4 =>
        cases h4 with
        | cons q2 h4 =>
          cases h4 with
          | cons q3 h4 =>
            cases h4
            obtain ⟨t1, rfl⟩ := q1
            obtain ⟨t2, rfl⟩ := q2
            obtain ⟨t3, rfl⟩ := q3
            exact ⟨t1, t2, t3, rfl⟩
    obtain ⟨t1, t2, t3, h5⟩ := h5
    rw [hus] at h5
    simp only [symObj, h3, h5, Bool.not_eq_true', decide_eq_false_iff_not] at m
    exact m ha
  · cases hk
def iTPut (i : Nat) (g f : EvF) : StF := fun env => (opd f env).bind fun p => (vis p.1).bind fun x => match p.2[i]? with
  | some (.own _ (.dictT _ _)) => (opd g p.2).bind fun r => (look r.2 r.1).bind fun y => (keyTD y).bind fun k => match r.2[i]? with
    | some (.own q (.dictT ks ds)) => if ds.length < 100000 ∧ ks.Nodup ∧ okK k = true then some (.next (r.2.set i (.own q (.dictT (putT ks ds k x).1 (putT ks ds k x).2)))) else none
    | _ => none
  | _ => none
theorem putT_val (q : List Key) {v : L2.V} {x : D} (hv : R K V v x) : ∀ (kvs : List (List Key × L2.V)) (ds : List D), (kvs.map (·.1)).Nodup → RA K V (kvs.map (·.2)) ds → (putK kvs q v).map (·.1) = (putT (kvs.map (·.1)) ds q x).1 ∧ RA K V ((putK kvs q v).map (·.2)) (putT (kvs.map (·.1)) ds q x).2
  | [], ds, _, h => by
    cases h
    exact ⟨rfl, .cons hv .nil⟩
  | kv :: kvs, ds, nd, h => by
    cases h with
    | @cons w vs d ds a t =>
      rw [List.map_cons, List.nodup_cons] at nd
      obtain ⟨i1, i2⟩ := putT_val q hv kvs _ nd.2 t
      by_cases e : kv.1 = q
      · have pk : putK (kv :: kvs) q v = (kv.1, v) :: kvs := by
          unfold putK
          have any : ((kv :: kvs).any fun kv => decide (kv.1 = q)) = true := by simp [e]
          rw [if_pos any, List.map_cons, if_pos e]
          congr 1
          have : kvs.map (fun kv => if kv.1 = q then (kv.1, v) else kv) = kvs.map id := by
            apply List.map_congr_left
            intro z hz
            have : z.1 ≠ q := fun y => nd.1 (by rw [e, ← y]; exact List.mem_map.mpr ⟨z, hz, rfl⟩)
            rw [if_neg this]
            rfl
          rw [this, List.map_id]
        rw [pk]
        simp only [List.map_cons, putT, if_pos e]
        exact ⟨trivial, .cons hv t⟩
      · have pk : putK (kv :: kvs) q v = kv :: putK kvs q v := by
          unfold putK
          have any : ((kv :: kvs).any fun kv => decide (kv.1 = q)) = (kvs.any fun kv => decide (kv.1 = q)) := by simp [e]
          rw [any]
          by_cases h : (kvs.any fun kv => decide (kv.1 = q)) = true
          · rw [if_pos h, if_pos h, List.map_cons, if_neg e]
          · rw [if_neg h, if_neg h]
            rfl
        rw [pk]
        simp only [List.map_cons, putT, if_neg e]
        exact ⟨by rw [i1], .cons a i2⟩
theorem sds_tput {i : Nat} {g f : EvF} (hK : NoSym K) (hv : Sd K tv f) (hg : Sd K ty g) : SdS K (sDPut (tVar i) ty tv) (iTPut i g f) := by
  intro env fl e σ V H ok E q
  simp only [iTPut, Option.bind_eq_some_iff] at e
  obtain ⟨⟨r, e1⟩, h1, x, h2, h3⟩ := e
  split at h3
  · rename_i q0 ks0 ds0 he0
    simp only [Option.bind_eq_some_iff] at h3
    obtain ⟨⟨r2, e2⟩, h4, y, h5, k, h6, h7⟩ := h3
    split at h7
    · rename_i q1 ks ds he
      split at h7
      · rename_i hz
        cases h7
        refine opd_snd hv h1 ok fun v V1 H1 a1 k1 => ?_
        have r0 : R K V1 v x := by
          cases r with
          | val d' => cases h2; exact k1
          | new d' => exact k1.elim
          | own j => cases h2
        obtain ⟨l0, g1, g2, g3⟩ := a1.ok.ownC he0
        refine ⟨_, g1, ?_⟩
        refine opd_snd hg h4 a1.ok fun w V2 H2 a2 k2 => ?_
        have a := a1.trans a2
        have hy := (k2.look a.ok h5).seen a.ok.sub
        obtain ⟨b, rfl, hb⟩ := keyT_of hy h6
        have hb2 : H2 b = some (.tup (k.map kV)) := by
          rcases hb with hb | ⟨o, its, n, hb1, hb2, hb3, _, hb4⟩
          · exact hb
          · exact (hK k hz.2.2 b o its n hb1 hb2 hb3 hb4).elim
        obtain ⟨l, y1, y2, kvs, y3, y4, y5⟩ := a.ok.ownC he
        rw [g1] at y1
        cases y1
        subst y4
        obtain ⟨p1, p2⟩ := putT_val k (R.mono a2.ex _ _ r0) kvs ds hz.2.1 y5
        have hl : kvs.length < sizeLine := Evl.sz_lt (by have := y5.len; rw [List.length_map] at this; rw [this]; exact hz.1)
        refine ⟨_, _, rfl, DPut.t y3 hb2 hl, ?_⟩
        exact q σ V2 _ (adv_upd a he g1 ⟨putK kvs k v, upd_same, p1, p2⟩)
      · cases h7
    · cases h7
  · cases h3
/-! [(k, d[k]) for k in d] -/
theorem pairsT_get : ∀ (ks : List (List Key)) (ds : List D) (i : Nat) (k : List Key) (d : D), ks[i]? = some k → ds[i]? = some d → (pairsT ks ds)[i]? = some (.tuple [tupK k, d])
  | _ :: _, _ :: _, 0, _, _, h, g => by cases h; cases g; rfl
  | _ :: ks, _ :: ds, i + 1, k, d, h, g => pairsT_get ks ds i k d h g
  | [], _, _, _, _, h, _ => by cases h
  | _ :: _, [], _, _, _, _, g => by cases g
theorem pairsT_len : ∀ (ks : List (List Key)) (ds : List D), ks.length = ds.length → (pairsT ks ds).length = ks.length
  | [], [], _ => rfl
  | [], _ :: _, h => by cases h
  | _ :: _, [], h => by cases h
  | k :: ks, d :: ds, h => by
    rw [pairsT, List.length_cons, List.length_cons, pairsT_len ks ds (by simpa using h)]
theorem valT_at : ∀ (kvs : List (List Key × L2.V)) (i : Nat) (k : List Key) (w : L2.V), (kvs.map (·.1)).Nodup → kvs[i]? = some (k, w) → valV kvs k = some w
  | [], _, _, _, _, h => by cases h
  | kv :: kvs, 0, k, w, _, h => by cases h; exact valT_pos rfl
  | kv :: kvs, i + 1, k, w, nd, h => by
    rw [List.map_cons, List.nodup_cons] at nd
    have h' : kvs[i]? = some (k, w) := h
    have ne : ¬ kv.1 = k := fun e => nd.1 (by rw [e]; exact List.mem_map.mpr ⟨(k, w), List.mem_of_getElem? h', rfl⟩)
    rw [valT_neg ne]
    exact valT_at kvs i k w nd.2 h'
theorem ra_keyT : ∀ k : List Key, RA K V (k.map kV) (k.map keyT)
  | [] => .nil
  | x :: xs => .cons (R.key x) (ra_keyT xs)
def dictAtT : Option Sl → Option (List (List Key) × List D)
  | some (.val (.dictT ks ds)) => some (ks, ds)
  | some (.own _ (.dictT ks ds)) => some (ks, ds)
  | _ => none
def iPairsT (i j : Nat) : EvF := fun env => (dictAtT env[i]?).bind fun p => if i ≠ j ∧ j < env.length ∧ p.2.length ≤ 100000 ∧ p.1.Nodup then some (.new (.list (pairsT p.1 p.2)), env) else none
theorem dictAtT_at {ks : List (List Key)} {ds : List D} {i : Nat} (ok : NvOk K V H σ env) (h : dictAtT env[i]? = some (ks, ds)) : ∃ d kvs, σ[i]? = some (some (.ref d)) ∧ H d = some (.dT kvs) ∧ kvs.map (·.1) = ks ∧ RA K V (kvs.map (·.2)) ds := by
  unfold dictAtT at h
  split at h
  · rename_i he
    cases h
    obtain ⟨v, h1, h2⟩ := ok.val he
    cases h2 with
    | @dictT d kvs _ _ g1 g2 g3 => exact ⟨d, kvs, h1, ok.sub _ _ g1, g2, g3⟩
  · rename_i he
    cases h
    obtain ⟨l, g1, _, kvs, g3, g4, g5⟩ := ok.ownC he
    exact ⟨l, kvs, g1, g3, g4, g5⟩
  · cases h
theorem sd_pairsT {i j : Nat} : Sd K (tLockE (tLc (iKeys (tVar i)) (gName j) tYes (tTup (tCons (tVar j) (tCons (tDGet (tVar i) (tVar j)) tNil))) [j])) (iPairsT i j) := by
  intro env res env' e σ V H ok Q q
  unfold iPairsT at e
  simp only [Option.bind_eq_some_iff] at e
  obtain ⟨⟨ks, ds⟩, he, e⟩ := e
  · split at e
    · rename_i hc
      cases e
      obtain ⟨hij, hj, hz, nd⟩ := hc
      replace hz : ds.length ≤ 100000 := hz
      replace nd : ks.Nodup := nd
      obtain ⟨d, kvs, h1, hd, g2, g3⟩ := dictAtT_at ok he
      · subst g2
        have hjσ : j < σ.length := by rw [ok.len]; exact hj
        have lens : kvs.length = ds.length := by have := g3.len; rwa [List.length_map] at this
        refine ⟨d, .dT kvs, hd, trivial, fun od => ?_⟩
        refine ⟨.ref d, h1, d, od, rfl, .inr ⟨kvs, upd_same, ?_⟩⟩
        intro D hD
        have nD : D ≠ d := fun z => by rw [z, upd_same] at hD; cases hD
        have hD' : H D = none := by rw [upd_ne nD] at hD; exact hD
        have vD0 : V D = none := Evl.fresh_back ok.sub hD'
        refine lc_it (n := kvs.length) walk_keysT (fun m Hc => ∃ (V1 : Hp) (acc : List L2.V), Al V H V1 (upd Hc d (.dT kvs)) ∧ V1 D = none ∧ Hc d = some (.frz od (.dT kvs)) ∧ Hc D = some (.lst acc) ∧ RA K V1 acc ((pairsT (kvs.map (·.1)) ds).take m)) ⟨V, [], ?_, vD0, by rw [upd_ne (Ne.symm nD), upd_same], upd_same, .nil⟩ (fun m Hc _ ⟨V1, acc, _, _, fz, _, _⟩ => fz) ?_ ?_
        · have e0 : upd (upd (upd H d (.frz od (.dT kvs))) D (.lst [])) d (.dT kvs) = upd H D (.lst []) := by
            funext b
            by_cases hb : b = d
            · subst hb; rw [upd_same, upd_ne (Ne.symm nD), hd]
            · rw [upd_ne hb]
              by_cases hb2 : b = D
              · subst hb2; rw [upd_same, upd_same]
              · rw [upd_ne hb2, upd_ne hb2, upd_ne hb]
          rw [e0]
          exact Al.hid ok.sub hD'
        · rintro m x Hc H' hlt ⟨V1, acc, al, vD, fz, hDl, ra⟩ ⟨rfl, k, w, p0, hk, rfl, hp0⟩
          have n0d : p0 ≠ d := fun z => by rw [z, fz] at hp0; cases hp0
          have n0D : p0 ≠ D := fun z => by rw [z, hDl] at hp0; cases hp0
          have hp0' : upd H' d (.dT kvs) p0 = some (.tup (k.map kV)) := by rw [upd_ne n0d]; exact hp0
          obtain ⟨V0, alt, v0⟩ := Al.tup al.sub hp0'
          have al' := al.trans alt
          have vD' : V0 D = none := by
            cases y : V0 D with
            | none => rfl
            | some o =>
              rcases alt.fr D (by rw [y]; exact fun z => by cases z) with m | m | ⟨ys, m⟩
              · exact absurd vD m
              · rw [upd_ne nD, hDl] at m; cases m
              · rw [upd_ne nD, hDl] at m; cases m
          have wv : valV kvs k = some w := valT_at kvs m k w nd hk
          have sj : ((wipe σ [j]).set j (some (.ref p0)))[j]? = some (some (.ref p0)) := List.getElem?_set_self (by rw [wipe_length]; exact hjσ)
          have si : ((wipe σ [j]).set j (some (.ref p0)))[i]? = some (some (.ref d)) := by
            show ((σ.set j none).set j (some (.ref p0)))[i]? = _
            rw [List.getElem?_set_ne (Ne.symm hij), List.getElem?_set_ne (Ne.symm hij)]
            exact h1
          refine ⟨?_, ?_⟩
          · show (((σ.set j none).set j (some (.ref p0))).set j none) = σ.set j none
            rw [List.set_set, List.set_set]
          · unfold tYes
            refine ifT ?_
            refine ⟨.ref p0, sj, .ref d, si, .ref p0, sj, d, w, rfl, .inr ⟨kvs, k, p0, .inr ⟨od, fz⟩, rfl, hp0, wv.symm⟩, ?_⟩
            refine ⟨by show 2 ≤ sizeLine; decide, fun p hp => ?_⟩
            have npd : p ≠ d := fun z => by rw [z, fz] at hp; cases hp
            have npD : p ≠ D := fun z => by rw [z, hDl] at hp; cases hp
            have al1 : upd H' d (.dT kvs) p = none := by rw [upd_ne npd]; exact hp
            have al2 := al'.trans (Al.new (o := .tup [.ref p0, w]) al'.sub al1)
            have vD2 : upd V0 p (.tup [.ref p0, w]) D = none := by rw [upd_ne (Ne.symm npD)]; exact vD'
            have al3 := Al.hidden (D := D) (o := .lst (acc ++ [.ref p])) al2 hD' vD2
            have ee : upd (upd (upd H' p (.tup [.ref p0, w])) D (.lst (acc ++ [.ref p]))) d (.dT kvs) = upd (upd (upd H' d (.dT kvs)) p (.tup [.ref p0, w])) D (.lst (acc ++ [.ref p])) := by
              funext b
              by_cases hb : b = d
              · subst hb; rw [upd_same, upd_ne (Ne.symm nD), upd_ne (Ne.symm npd), upd_same]
              · rw [upd_ne hb]
                by_cases hb2 : b = D
                · subst hb2; rw [upd_same, upd_same]
                · rw [upd_ne hb2, upd_ne hb2]
                  by_cases hb3 : b = p
                  · subst hb3; rw [upd_same, upd_same]
                  · rw [upd_ne hb3, upd_ne hb3, upd_ne hb]
            have kk : (kvs.map (·.1))[m]? = some k := by rw [List.getElem?_map, hk]; rfl
            obtain ⟨dd, d1, d2⟩ := g3.getV (show (kvs.map (·.2))[m]? = some w by rw [List.getElem?_map, hk]; rfl)
            have pg := pairsT_get _ _ m k dd kk d1
            have al0 : acc.length ≤ 99999 := by
              have := ra.len
              rw [List.length_take] at this
              omega
            refine ⟨acc, by rw [upd_ne (Ne.symm npD)]; exact hDl, Evl.sz_lt (by omega), upd V0 p (.tup [.ref p0, w]), acc ++ [.ref p], by rw [ee]; exact al3, vD2, by rw [upd_ne (Ne.symm nD), upd_ne (Ne.symm npd)]; exact fz, upd_same, ?_⟩
            rw [List.take_add_one, pg]
            have ex1 : Ex V0 (upd V0 p (.tup [.ref p0, w])) := (Al.new (o := .tup [.ref p0, w]) al'.sub al1).ex
            have r0 : R K (upd V0 p (.tup [.ref p0, w])) (.ref p0) (tupK k) := R.mono ex1 _ _ (.tuple (St.of v0) (ra_keyT k))
            exact (RA.mono (alt.ex.trans ex1) _ _ ra).append (.cons (.tuple (St.of upd_same) (.cons r0 (.cons (R.mono (al'.ex.trans ex1) _ _ d2) .nil))) .nil)
        · rintro Hc ⟨V1, acc, al, vD, fz, hDl, ra⟩
          refine ⟨fz, q _ V1 _ (al.adv ok) ⟨D, rfl, .inl hD', vD, fun w => ok.notOwn hD' w, acc, by rw [upd_ne nD]; exact hDl, ?_⟩⟩
          rw [List.take_of_length_le (by rw [pairsT_len _ _ (by rw [List.length_map]; exact lens), List.length_map]; exact Nat.le_refl _)] at ra
          exact ra
    · cases e
end
section
variable {X : Cx} {k : Nat} {o e i value : Expr} {pos pos' p apos cpos : Pos} {f g h : EvF} {x y : Str}
theorem pdTGet2 {k : Nat} (hr : Room k X.A) (ha : PD X o f) (hb : PD X e g) (hc : PD X i h) (m : M2 X o "get" apos e i cpos := by exact ⟨by rfl, by rfl, by rfl, by rfl⟩) : PD X (.Call (.Attribute o "get" apos) [e, i] [] cpos) (iTGet2 f g h) :=
  let ⟨_, h1, k1⟩ := ha; let ⟨_, h2, k2⟩ := hb; let ⟨_, h3, k3⟩ := hc; ⟨_, pe_tget2 (hu_of hr) h1 h2 h3 m, sd_tget2 k1 k2 k3⟩
theorem pdTNew : PD X (.Dict [] [] pos) iTNew := ⟨_, pe_dnewT, sd_tnew⟩
theorem stTPut {k : Nat} (n : Nat) (hK : NoSym X.K) (hr : Room k X.A) (he : PD X value f) (hi : PD X i g) (hN : X.N[n]? = some x := by rfl) (hv : Vis X.env.scope x := by first | exact Or.inl rfl | exact Or.inr (Or.inl rfl) | exact Or.inr (Or.inr rfl)) (hd : (x == ("__debug__" : Str)) = false := by decide) (hcd : (x == ("__classdict__" : Str)) = false := by decide)
    (hs : swapsWith value (some (.Subscript (.Name x p) i pos')) pos.line X.env = pure false := by rfl) : StD X (.Assign [.Subscript (.Name x p) i pos'] value pos) (iTPut n g f) :=
  let ⟨_, g1, k1⟩ := he; let ⟨_, g2, k2⟩ := hi
  ⟨_, ps_dput (hu_of hr) (pe_var hN hv hd hcd) g2 g1 hs, sds_tput hK k1 k2⟩
theorem pdPairsT {k : Nat} {scope : Scope} {px px2 py py2 py3 pos2 pos3 : Pos} {c : Nat} (i j : Nat) (hr : Room k X.A) (hc : X.calm = true) (nd : X.N.Nodup) (ok : BlkOk X.N X.env.scope scope [(y, j)]) (hi : PE X (.Name x px) (tVar i))
    (hg : ∀ (s : Shared) (H : Hp) (C : Addr) (cl : List (Str × Addr)) (fp : List Addr), PG (X.blk s H scope (compEnvC scope cl C X.env) fp) (.Name y py) (gName j))
    (hk : ∀ (s : Shared) (H : Hp) (C : Addr) (cl : List (Str × Addr)) (fp : List Addr), PE (X.blk s H scope (compEnvC scope cl C X.env) fp) (.Name y py2) (tVar j))
    (ht : ∀ (s : Shared) (H : Hp) (C : Addr) (cl : List (Str × Addr)) (fp : List Addr), PE (X.blk s H scope (compEnvC scope cl C X.env) fp) (.Name x px2) (tVar i))
    (hk2 : ∀ (s : Shared) (H : Hp) (C : Addr) (cl : List (Str × Addr)) (fp : List Addr), PE (X.blk s H scope (compEnvC scope cl C X.env) fp) (.Name y py3) (tVar j)) :
    PD X (.ListComp (.Tuple [.Name y py2, .Subscript (.Name x px2) (.Name y py3) pos2] c pos3) [⟨.Name y py, .Name x px, [], 0⟩] scope pos) (iPairsT i j) :=
  ⟨_, pe_lock (pe_lc (own := [(y, j)]) hc nd (pi_keys hi) ok hg (fun _ _ _ _ _ => pts_nil) (fun s H C cl fp => pe_tup (pa_cons (hk s H C cl fp) (pa_cons (pe_dget (X := X.blk s H scope (compEnvC scope cl C X.env) fp) (hu_of hr) (ht s H C cl fp) (hk2 s H C cl fp) (by intro _ _; rfl)) pa_nil)))), sd_pairsT⟩
end
/-! what simp evaluates with -/
section
variable {env e : Nv} {f g h : EvF} {i j : Nat} {ks : List (List Key)} {ds : List D} {k : List Key} {q : Bool} {x : D} {z : Option Fl}
theorem iTGet2_ev : iTGet2 f g h env = (opd f env).bind fun p => (look p.2 p.1).bind fun d0 => match d0 with
  | .dictT _ _ => (opd g p.2).bind fun q => (opd h q.2).bind fun r => (look r.2 p.1).bind fun d => match d with
    | .dictT ks ds => (look r.2 q.1).bind fun y => (keyTD y).bind fun k => (vis r.1).bind fun z => some (.val ((findT ks ds k).getD z), r.2)
    | _ => none
  | _ => none := rfl
theorem iTNew_ev : iTNew env = some (.new (.dictT [] []), env) := rfl
def tpF (o : Option Sl) (i : Nat) (k : List Key) (x : D) (e : Nv) : Option Fl := match o with
  | some (.own q (.dictT ks ds)) => if ds.length < 100000 ∧ ks.Nodup ∧ okK k = true then some (.next (e.set i (.own q (.dictT (putT ks ds k x).1 (putT ks ds k x).2)))) else none
  | _ => none
theorem tpF_own : tpF (some (.own q (.dictT ks ds))) i k x e = if ds.length < 100000 ∧ ks.Nodup ∧ okK k = true then some (.next (e.set i (.own q (.dictT (putT ks ds k x).1 (putT ks ds k x).2)))) else none := rfl
def tp1 (o : Option Sl) (k : Option Fl) : Option Fl := match o with
  | some (.own _ (.dictT _ _)) => k
  | _ => none
theorem tp1_own : tp1 (some (.own q (.dictT ks ds))) z = z := rfl
theorem iTPut_ev : iTPut i g f env = (opd f env).bind fun p => (vis p.1).bind fun x => tp1 p.2[i]? ((opd g p.2).bind fun r => (look r.2 r.1).bind fun y => (keyTD y).bind fun k => tpF r.2[i]? i k x r.2) := by
  unfold iTPut tp1 tpF
  rfl
theorem dAT_val : dictAtT (some (.val (.dictT ks ds))) = some (ks, ds) := rfl
theorem dAT_own : dictAtT (some (.own q (.dictT ks ds))) = some (ks, ds) := rfl
theorem iPairsT_ev : iPairsT i j env = (dictAtT env[i]?).bind fun p => if i ≠ j ∧ j < env.length ∧ p.2.length ≤ 100000 ∧ p.1.Nodup then some (.new (.list (pairsT p.1 p.2)), env) else none := rfl
theorem keyTD_tup {ds : List D} : keyTD (.tuple ds) = keysOf ds := rfl
theorem keyTD_sym {a b c : Int} : keyTD (.tuple [.int a, .int b, .int c]) = some [.inl a, .inl b, .inl c] := rfl
theorem keyT_inl {a : Int} : keyT (.inl a) = .int a := rfl
end
end DL

/-! Data that equal themselves. -/
namespace Sh
open PySem L2 DL
def Py (n : Nat) (d : D) : Prop := ∃ p, toPy d = some p ∧ p.canLay0 = true ∧ p.depth ≤ n ∧ PyData.eqv p p = true
def Pys (n : Nat) (ds : List D) : Prop := ∃ ps, toPy.toPys ds = some ps ∧ PyData.canLayAll0 ps = true ∧ PyData.depthAll ps ≤ n ∧ PyData.eqvAll ps ps = true
theorem Py.none {n : Nat} : Py n .none := ⟨.none, rfl, by simp [PyData.canLay0], by simp [PyData.depth], by simp [PyData.eqv]⟩
theorem Py.int {n : Nat} {i : Int} : Py n (.int i) := ⟨.int i, rfl, by simp [PyData.canLay0], by simp [PyData.depth], by simp [PyData.eqv]⟩
theorem Py.bool {n : Nat} {b : Bool} : Py n (.bool b) := ⟨.bool b, rfl, by simp [PyData.canLay0], by simp [PyData.depth], by simp [PyData.eqv]⟩
theorem Py.str {n : Nat} {s : Str} (h : PyData.strOk s = true) : Py n (.str s) := ⟨.str s, rfl, by simp [PyData.canLay0, h], by simp [PyData.depth], by simp [PyData.eqv]⟩
theorem Pys.nil {n : Nat} : Pys n [] := ⟨[], rfl, by simp [PyData.canLayAll0], by simp [PyData.depthAll], by simp [PyData.eqvAll]⟩
theorem Pys.cons {n : Nat} {d : D} {ds : List D} (h : Py n d) (k : Pys n ds) : Pys n (d :: ds) := by
  obtain ⟨p, h1, h2, h3, h4⟩ := h
  obtain ⟨ps, k1, k2, k3, k4⟩ := k
  refine ⟨p :: ps, by simp only [toPy.toPys, h1, k1], by simp only [PyData.canLayAll0, h2, k2, Bool.and_self], ?_, by simp only [PyData.eqvAll, h4, k4, Bool.and_self]⟩
  simp only [PyData.depthAll]
  omega
theorem Py.tuple {n : Nat} {ds : List D} (k : Pys n ds) : Py (n + 1) (.tuple ds) := by
  obtain ⟨ps, k1, k2, k3, k4⟩ := k
  refine ⟨.tuple ps, by simp only [toPy, k1, Option.map_some], by simp only [PyData.canLay0, k2], ?_, by simp only [PyData.eqv, k4]⟩
  simp only [PyData.depth]
  omega
theorem Py.list {n : Nat} {ds : List D} (k : Pys n ds) : Py (n + 1) (.list ds) := by
  obtain ⟨ps, k1, k2, k3, k4⟩ := k
  refine ⟨.list ps, by simp only [toPy, k1, Option.map_some], by simp only [PyData.canLay0, k2], ?_, by simp only [PyData.eqv, k4]⟩
  simp only [PyData.depth]
  omega
theorem Py.mono {n m : Nat} {d : D} (h : Py n d) (k : n ≤ m) : Py m d := let ⟨p, h1, h2, h3, h4⟩ := h; ⟨p, h1, h2, Nat.le_trans h3 k, h4⟩
theorem Pys.mono {n m : Nat} {d : List D} (h : Pys n d) (k : n ≤ m) : Pys m d := let ⟨p, h1, h2, h3, h4⟩ := h; ⟨p, h1, h2, Nat.le_trans h3 k, h4⟩
theorem Pys.of {n : Nat} : ∀ {ds : List D}, (∀ d ∈ ds, Py n d) → Pys n ds
  | [], _ => .nil
  | d :: ds, h => .cons (h d List.mem_cons_self) (Pys.of fun x hx => h x (List.mem_cons_of_mem _ hx))
theorem Py.shaped {n : Nat} {d : D} (h : Py n d) (hn : n ≤ 64) : ∃ p, toPy d = some p ∧ SeqAt.shaped p = true ∧ PyData.eqv p p = true := by
  obtain ⟨p, h1, h2, h3, h4⟩ := h
  refine ⟨p, h1, ?_, h4⟩
  unfold SeqAt.shaped
  rw [h2]
  have : p.depth ≤ 64 := Nat.le_trans h3 hn
  simp [this]
theorem Py.eqD {n : Nat} {d : D} (h : Py n d) (hn : n ≤ 64) : DL.eqD d d = some true := by
  obtain ⟨p, h1, h2, h3⟩ := h.shaped hn
  have k : (toPy d).bind (fun p => (toPy d).bind fun q => if SeqAt.shaped p = true ∧ SeqAt.shaped q = true then some (PyData.eqv p q) else Option.none) = some true := by
    rw [h1, Option.bind_some, Option.bind_some, if_pos ⟨h2, h2⟩, h3]
  cases d with
  | int i => simp [DL.eqD]
  | str i => simp [DL.eqD]
  | bool i => simp [DL.eqD]
  | _ => exact k
theorem Py.gEq {n : Nat} {d : D} (h : Py n d) (hn : n ≤ 64) : DL.gEq d d = some (.val (.bool true)) := by unfold DL.gEq; rw [h.eqD hn]; rfl
theorem Py.gNe {n : Nat} {d : D} (h : Py n d) (hn : n ≤ 64) : DL.gNe d d = some (.val (.bool false)) := by unfold DL.gNe; rw [h.eqD hn]; rfl
end Sh

namespace LS
open PySem PySem.Spec PyProof.Rows L2 DL
/-! is_variable -/
def m_is_variable  : StF :=
    (iRet (iIsi "int" (iVar 0)))
def f_is_variable  : Fn := runDef 1 1 (m_is_variable )
def F_is_variable : Fn := f_is_variable 
/-! subterms -/
def b1_subterms (g_is_variable : Fn) : StF :=
    (iAft [3] (iSeq (iAsg false 3 (iPop 2))
    (iSeq (iApp 1 (iVar 3))
    (iIfS (iNotT (iTru (iCall g_is_variable (argC (iVar 3) argN)))) (iExU 2 (iRev (iBin gIx (iVar 3) (iCon (.int 1))))) iNext))))
def m_subterms (g_is_variable : Fn) : StF :=
    (iSeq (iAsg true 1 (iLst argN))
    (iSeq (iAsg true 2 (iLst (argC (iVar 0) argN)))
    (iSeq (iAft [3] (iBef [3] (wloop (iTru (iVar 2))
      (b1_subterms g_is_variable) 1000000)))
    (iRet (iVar 1)))))
def f_subterms (g_is_variable : Fn) : Fn := runDef 1 4 (m_subterms g_is_variable)
def F_subterms : Fn := f_subterms F_is_variable
/-! variables -/
def m_variables (g_subterms : Fn) (g_is_variable : Fn) : StF :=
    (iSeq (iAsg false 1 (iDc (iSeqI (iCall g_subterms (argC (iVar 0) argN))) (iNm 2) (iTru (iCall g_is_variable (argC (iVar 2) argN))) (iVar 2) (iCon (.bool true)) [2]))
    (iRet (iCB (altC (c1 gList) (c1 gListD)) (argC (iVar 1) argN))))
def f_variables (g_subterms : Fn) (g_is_variable : Fn) : Fn := runDef 1 3 (m_variables g_subterms g_is_variable)
def F_variables : Fn := f_variables F_subterms F_is_variable
/-! put -/
def m_put (g_put : Fn) (g_is_variable : Fn) : StF :=
    (iSeq (iIfS (iTru (iCall g_is_variable (argC (iVar 0) argN))) (iRet (iDGet2 (iVar 1) (iVar 0) (iVar 0))) iNext)
    (iRet (iTup (argC (iBin gIx (iVar 0) (iCon (.int 0))) (argC (iCB (c1 gTuple) (argC (iLc (iSeqI (iBin gIx (iVar 0) (iCon (.int 1)))) (iNm 2) iYes (iCall g_put (argC (iVar 2) (argC (iVar 1) argN))) [2]) argN)) argN)))))
def f_put (g_put : Fn) (g_is_variable : Fn) : Fn := runDef 2 3 (m_put g_put g_is_variable)
def it_put : Nat → Fn
  | 0 => fun _ => none
  | n + 1 => f_put (it_put n) F_is_variable
def F_put : Fn := it_put 12
/-! put_literal -/
def m_put_literal (g_put : Fn) : StF :=
    (iSeq (iAsgT (iGT (iGC (iNm 2) (iGC (iNm 3) (iGC (iNm 4) iGN))) 3) (iVar 0))
    (iRet (iTup (argC (iVar 2) (argC (iCall g_put (argC (iVar 3) (argC (iVar 1) argN))) (argC (iCall g_put (argC (iVar 4) (argC (iVar 1) argN))) argN))))))
def f_put_literal (g_put : Fn) : Fn := runDef 2 5 (m_put_literal g_put)
def F_put_literal : Fn := f_put_literal F_put
/-! put_clause -/
def m_put_clause (g_put_literal : Fn) : StF :=
    (iRet (iCB (c1 gTuple) (argC (iLc (iSeqI (iVar 0)) (iNm 2) iYes (iCall g_put_literal (argC (iVar 2) (argC (iVar 1) argN))) [2]) argN)))
def f_put_clause (g_put_literal : Fn) : Fn := runDef 2 3 (m_put_clause g_put_literal)
def F_put_clause : Fn := f_put_clause F_put_literal
/-! clause_variables -/
def b1_clause_variables (g_variables : Fn) : StF :=
    (iAft [3] (iDPut 1 (iVar 3) (iCon (.bool true))))
def b2_clause_variables (g_variables : Fn) : StF :=
    (iAft [2, 3] (iAft [3] (iBef [3] (iFor (iSeqI (iBin gAdd (iCall g_variables (argC (iBin gIx (iVar 2) (iCon (.int 1))) argN)) (iCall g_variables (argC (iBin gIx (iVar 2) (iCon (.int 2))) argN)))) (iNm 3)
      (b1_clause_variables g_variables)))))
def m_clause_variables (g_variables : Fn) : StF :=
    (iSeq (iAsg true 1 iDNew)
    (iSeq (iAft [2, 3] (iBef [2, 3] (iFor (iSeqI (iVar 0)) (iNm 2)
      (b2_clause_variables g_variables))))
    (iRet (iCB (altC (c1 gList) (c1 gListD)) (argC (iVar 1) argN)))))
def f_clause_variables (g_variables : Fn) : Fn := runDef 1 4 (m_clause_variables g_variables)
def F_clause_variables : Fn := f_clause_variables F_variables
/-! renumbered -/
def m_renumbered (g_put_clause : Fn) (g_clause_variables : Fn) : StF :=
    (iSeq (iAsg false 1 (iDc (iEnumU (argC (iCall g_clause_variables (argC (iVar 0) argN)) argN)) (iGT (iGC (iNm 2) (iGC (iNm 3) iGN)) 2) iYes (iVar 3) (iVar 2) [2, 3]))
    (iRet (iTup (argC (iCall g_put_clause (argC (iVar 0) (argC (iVar 1) argN))) (argC (iVar 1) argN)))))
def f_renumbered (g_put_clause : Fn) (g_clause_variables : Fn) : Fn := runDef 1 4 (m_renumbered g_put_clause g_clause_variables)
def F_renumbered : Fn := f_renumbered F_put_clause F_clause_variables
/-! _law_cell -/
def m__law_cell  : StF :=
    (iSeq (iAsg false 2 (iBin gAdd (iBin gMulL (iCon (.int 7)) (iVar 1)) (iCon (.int 3))))
    (iSeq (iIfS (iTst (iBin gLt (iVar 1) (iCB (c1 gLen) (argC (iVar 0) argN)))) (iAsg false 2 (iBin gIx (iVar 0) (iVar 1))) iNext)
    (iSeq (iIfS (iTst (iBin gLt (iVar 2) (iCon (.int 0)))) (iAsg false 2 (iBin DL.gSub (iCon (.int 1)) (iBin gMulL (iCon (.int 2)) (iVar 2)))) iNext)
    (iSeq (iAft [3, 4, 5] (iIfS (iTst (iBin gLt (iVar 2) (iCon (.int 1000000000)))) (iSeq (iAsg false 3 (iBin gMod (iCB (c1 gInt) (argC (iBin gAdd (iBin gAdd (iBin gMulR (iVar 2) (iCon (.int 48271))) (iBin gMulR (iVar 1) (iCon (.int 69621)))) (iCon (.int 11))) argN)) (iCon (.int 2147483647))))
    (iSeq (iAsg false 4 (iBin gMod (iCB (c1 gInt) (argC (iBin gAdd (iBin gAdd (iBin gMulR (iVar 3) (iCon (.int 16807))) (iBin gMulR (iVar 1) (iCon (.int 31)))) (iCon (.int 1013))) argN)) (iCon (.int 2147483629))))
    (iSeq (iAsg false 5 (iBin gMod (iCB (c1 gInt) (argC (iBin gAdd (iBin gAdd (iBin gMulR (iVar 4) (iCon (.int 39373))) (iVar 3)) (iCon (.int 77))) argN)) (iCon (.int 2147483587))))
    (iAsg false 2 (iBin gAdd (iBin gMulR (iBin gAdd (iBin gMulR (iVar 5) (iCon (.int 2147483647))) (iVar 4)) (iCon (.int 2147483647))) (iVar 3)))))) iNext))
    (iRet (iVar 2))))))
def f__law_cell  : Fn := runDef 2 6 (m__law_cell )
def F__law_cell : Fn := f__law_cell 
/-! _law_is_integer -/
def m__law_is_integer  : StF :=
    (iRet (iAnd (iIsi "int" (iVar 0)) (iNot (iIsi "bool" (iVar 0)))))
def f__law_is_integer  : Fn := runDef 1 1 (m__law_is_integer )
def F__law_is_integer : Fn := f__law_is_integer 
/-! _law_symbol -/
def m__law_symbol  : StF :=
    (iSeq (iAsg false 1 (iLst (argC (iTup (argC (iCon (.int 2)) (argC (iCon (.int 0)) (argC (iCon (.int 0)) argN)))) (argC (iTup (argC (iCon (.int 2)) (argC (iCon (.int 1)) (argC (iCon (.int 0)) argN)))) (argC (iTup (argC (iCon (.int 3)) (argC (iCon (.int 0)) (argC (iCon (.int 0)) argN)))) (argC (iTup (argC (iCon (.int 2)) (argC (iCon (.int 2)) (argC (iCon (.int 0)) argN)))) (argC (iTup (argC (iCon (.int 3)) (argC (iCon (.int 4)) (argC (iCon (.int 1)) argN)))) argN)))))))
    (iRet (iBin gIx (iVar 1) (iBin gMod (iCB (c1 gInt) (argC (iVar 0) argN)) (iCon (.int 5))))))
def f__law_symbol  : Fn := runDef 1 2 (m__law_symbol )
def F__law_symbol : Fn := f__law_symbol 
/-! _law_term -/
def b1__law_term (g__law_term : Fn) (g__law_symbol : Fn) : StF :=
    (iAft [6, 7] (iSeq (iAsg false 7 (iCall g__law_term (argC (iVar 0) (argC (iBin DL.gSub (iVar 1) (iCon (.int 1))) argN))))
    (iSeq (iApp 5 (iBin gIx (iVar 7) (iCon (.int 0))))
    (iAsg false 0 (iBin gIx (iVar 7) (iCon (.int 1)))))))
def m__law_term (g__law_term : Fn) (g__law_symbol : Fn) : StF :=
    (iSeq (iAsg false 2 (iBin gMod (iCB (c1 gInt) (argC (iVar 0) argN)) (iCon (.int 5))))
    (iSeq (iAsg false 0 (iBin gDiv (iVar 0) (iCon (.int 5))))
    (iSeq (iIfS (iTst (iBin gLt (iVar 2) (iCon (.int 2)))) (iRet (iTup (argC (iBin gMod (iCB (c1 gInt) (argC (iVar 0) argN)) (iCon (.int 3))) (argC (iBin gDiv (iVar 0) (iCon (.int 3))) argN)))) iNext)
    (iSeq (iAsg false 3 (iBin gMod (iCB (c1 gInt) (argC (iVar 0) argN)) (iCon (.int 3))))
    (iSeq (iAsg false 0 (iBin gDiv (iVar 0) (iCon (.int 3))))
    (iSeq (iIfS (iTst (iBin gEq (iVar 1) (iCon (.int 0)))) (iAsg false 3 (iCon (.int 0))) iNext)
    (iSeq (iAsg false 4 (iCall g__law_symbol (argC (iBin gMod (iCB (c1 gInt) (argC (iVar 0) argN)) (iCon (.int 5))) argN)))
    (iSeq (iAsg false 0 (iBin gDiv (iVar 0) (iCon (.int 5))))
    (iSeq (iAsg true 5 (iLst argN))
    (iSeq (iAft [6, 7] (iBef [6, 7] (iFor (iR1 (argC (iVar 3) argN)) (iNm 6)
      (b1__law_term g__law_term g__law_symbol))))
    (iRet (iTup (argC (iTup (argC (iVar 4) (argC (iCB (c1 gTuple) (argC (iVar 5) argN)) argN))) (argC (iVar 0) argN))))))))))))))
def f__law_term (g__law_term : Fn) (g__law_symbol : Fn) : Fn := runDef 2 8 (m__law_term g__law_term g__law_symbol)
def it__law_term : Nat → Fn
  | 0 => fun _ => none
  | n + 1 => f__law_term (it__law_term n) F__law_symbol
def F__law_term : Fn := it__law_term 12
/-! _law_atom -/
def b1__law_atom (g__law_term : Fn) : StF :=
    (iAft [6, 7] (iSeq (iAsg false 7 (iCall g__law_term (argC (iVar 0) (argC (iVar 1) argN))))
    (iSeq (iApp 5 (iBin gIx (iVar 7) (iCon (.int 0))))
    (iAsg false 0 (iBin gIx (iVar 7) (iCon (.int 1)))))))
def m__law_atom (g__law_term : Fn) : StF :=
    (iSeq (iAsg false 2 (iLst (argC (iTup (argC (iCon (.int 1)) (argC (iCon (.int 0)) (argC (iCon (.int 0)) argN)))) (argC (iTup (argC (iCon (.int 1)) (argC (iCon (.int 1)) (argC (iCon (.int 0)) argN)))) (argC (iTup (argC (iCon (.int 4)) (argC (iCon (.int 0)) (argC (iCon (.int 0)) argN)))) (argC (iTup (argC (iCon (.int 1)) (argC (iCon (.int 2)) (argC (iCon (.int 0)) argN)))) (argC (iTup (argC (iCon (.int 5)) (argC (iCon (.int 2)) (argC (iCon (.int 0)) argN)))) (argC (iTup (argC (iCon (.int 0)) (argC (iCon (.int 0)) (argC (iCon (.int 0)) argN)))) argN))))))))
    (iSeq (iAsg false 3 (iBin gIx (iVar 2) (iBin gMod (iCB (c1 gInt) (argC (iVar 0) argN)) (iCon (.int 6)))))
    (iSeq (iAsg false 0 (iBin gDiv (iVar 0) (iCon (.int 6))))
    (iSeq (iAsg false 4 (iBin gMod (iCB (c1 gInt) (argC (iVar 0) argN)) (iCon (.int 3))))
    (iSeq (iAsg false 0 (iBin gDiv (iVar 0) (iCon (.int 3))))
    (iSeq (iAsg true 5 (iLst argN))
    (iSeq (iAft [6, 7] (iBef [6, 7] (iFor (iR1 (argC (iVar 4) argN)) (iNm 6)
      (b1__law_atom g__law_term))))
    (iRet (iTup (argC (iTup (argC (iVar 3) (argC (iCB (c1 gTuple) (argC (iVar 5) argN)) argN))) (argC (iVar 0) argN)))))))))))
def f__law_atom (g__law_term : Fn) : Fn := runDef 2 8 (m__law_atom g__law_term)
def F__law_atom : Fn := f__law_atom F__law_term
/-! _law_literal -/
def m__law_literal (g__law_term : Fn) (g__law_atom : Fn) : StF :=
    (iSeq (iAsg false 2 (iBin gEq (iBin gMod (iCB (c1 gInt) (argC (iVar 0) argN)) (iCon (.int 2))) (iCon (.int 0))))
    (iSeq (iAsg false 3 (iBin gMod (iBin gDiv (iVar 0) (iCon (.int 2))) (iCon (.int 3))))
    (iSeq (iAsg false 0 (iBin gDiv (iVar 0) (iCon (.int 6))))
    (iSeq (iAft [6] (iIfS (iTst (iBin gEq (iVar 3) (iCon (.int 0)))) (iSeq (iAsg false 6 (iCall g__law_atom (argC (iVar 0) (argC (iVar 1) argN))))
    (iRet (iTup (argC (iTup (argC (iVar 2) (argC (iBin gIx (iVar 6) (iCon (.int 0))) (argC (iTup (argC (iTup (argC (iCon (.int 0)) (argC (iCon (.int 0)) (argC (iCon (.int 0)) argN)))) (argC (iTup argN) argN))) argN)))) (argC (iBin gIx (iVar 6) (iCon (.int 1))) argN))))) iNext))
    (iSeq (iAsg false 4 (iCall g__law_term (argC (iVar 0) (argC (iVar 1) argN))))
    (iSeq (iAsg false 5 (iCall g__law_term (argC (iBin gIx (iVar 4) (iCon (.int 1))) (argC (iVar 1) argN))))
    (iRet (iTup (argC (iTup (argC (iVar 2) (argC (iBin gIx (iVar 4) (iCon (.int 0))) (argC (iBin gIx (iVar 5) (iCon (.int 0))) argN)))) (argC (iBin gIx (iVar 5) (iCon (.int 1))) argN))))))))))
def f__law_literal (g__law_term : Fn) (g__law_atom : Fn) : Fn := runDef 2 7 (m__law_literal g__law_term g__law_atom)
def F__law_literal : Fn := f__law_literal F__law_term F__law_atom
/-! _law_clause -/
def b1__law_clause (g__law_literal : Fn) : StF :=
    (iAft [5, 6] (iSeq (iAsg false 6 (iCall g__law_literal (argC (iVar 0) (argC (iVar 2) argN))))
    (iSeq (iApp 4 (iBin gIx (iVar 6) (iCon (.int 0))))
    (iSeq (iAsg false 0 (iBin gIx (iVar 6) (iCon (.int 1))))
    (iIfS (iTst (iBin gEq (iBin gMod (iBin gDiv (iVar 0) (iCon (.int 3))) (iCon (.int 4))) (iCon (.int 1)))) (iApp 4 (iBin gIx (iVar 4) (iBin gMod (iCB (c1 gInt) (argC (iVar 0) argN)) (iCB (c1 gLen) (argC (iVar 4) argN))))) iNext)))))
def m__law_clause (g__law_literal : Fn) : StF :=
    (iSeq (iAsg false 3 (iBin gMod (iCB (c1 gInt) (argC (iVar 0) argN)) (iBin gAdd (iVar 1) (iCon (.int 1)))))
    (iSeq (iAsg false 0 (iBin gDiv (iVar 0) (iBin gAdd (iVar 1) (iCon (.int 1)))))
    (iSeq (iAsg true 4 (iLst argN))
    (iSeq (iAft [0, 5, 6] (iBef [5, 6] (iFor (iR1 (argC (iVar 3) argN)) (iNm 5)
      (b1__law_clause g__law_literal))))
    (iRet (iCB (c1 gTuple) (argC (iVar 4) argN)))))))
def f__law_clause (g__law_literal : Fn) : Fn := runDef 3 7 (m__law_clause g__law_literal)
def F__law_clause : Fn := f__law_clause F__law_literal
/-! _law_is_variable -/
def m__law_is_variable  : StF :=
    (iRet (iIsi "int" (iVar 0)))
def f__law_is_variable  : Fn := runDef 1 1 (m__law_is_variable )
def F__law_is_variable : Fn := f__law_is_variable 
/-! _law_put -/
def b1__law_put (g__law_put : Fn) (g__law_is_variable : Fn) : StF :=
    (iAft [2] (iIfS (iTst (iBin gEq (iBin gIx (iVar 2) (iCon (.int 0))) (iVar 0))) (iRet (iBin gIx (iVar 2) (iCon (.int 1)))) iNext))
def m__law_put (g__law_put : Fn) (g__law_is_variable : Fn) : StF :=
    (iSeq (iAft [2] (iIfS (iTru (iCall g__law_is_variable (argC (iVar 0) argN))) (iSeq (iAft [2] (iBef [2] (iFor (iSeqI (iVar 1)) (iNm 2)
      (b1__law_put g__law_put g__law_is_variable))))
    (iRet (iVar 0))) iNext))
    (iRet (iTup (argC (iBin gIx (iVar 0) (iCon (.int 0))) (argC (iCB (c1 gTuple) (argC (iLc (iSeqI (iBin gIx (iVar 0) (iCon (.int 1)))) (iNm 3) iYes (iCall g__law_put (argC (iVar 3) (argC (iVar 1) argN))) [3]) argN)) argN)))))
def f__law_put (g__law_put : Fn) (g__law_is_variable : Fn) : Fn := runDef 2 4 (m__law_put g__law_put g__law_is_variable)
def it__law_put : Nat → Fn
  | 0 => fun _ => none
  | n + 1 => f__law_put (it__law_put n) F__law_is_variable
def F__law_put : Fn := it__law_put 12
/-! _law_put_clause -/
def m__law_put_clause (g__law_put : Fn) : StF :=
    (iRet (iCB (c1 gTuple) (argC (iLc (iSeqI (iVar 0)) (iNm 2) iYes (iTup (argC (iBin gIx (iVar 2) (iCon (.int 0))) (argC (iCall g__law_put (argC (iBin gIx (iVar 2) (iCon (.int 1))) (argC (iVar 1) argN))) (argC (iCall g__law_put (argC (iBin gIx (iVar 2) (iCon (.int 2))) (argC (iVar 1) argN))) argN)))) [2]) argN)))
def f__law_put_clause (g__law_put : Fn) : Fn := runDef 2 3 (m__law_put_clause g__law_put)
def F__law_put_clause : Fn := f__law_put_clause F__law_put
/-! _law_variables -/
def b1__law_variables (g__law_variables : Fn) (g__law_is_variable : Fn) : StF :=
    (iAft [2] (iAsg false 1 (iCall g__law_variables (argC (iVar 2) (argC (iVar 1) argN)))))
def m__law_variables (g__law_variables : Fn) (g__law_is_variable : Fn) : StF :=
    (iSeq (iIfS (iTru (iCall g__law_is_variable (argC (iVar 0) argN))) (iSeq (iIfS (iTst (iBin (alt (gIn true) (gInS true)) (iVar 0) (iVar 1))) (iAsg false 1 (iBin gAdd (iVar 1) (iLst (argC (iVar 0) argN)))) iNext)
    (iRet (iVar 1))) iNext)
    (iSeq (iAft [2] (iBef [2] (iFor (iSeqI (iBin gIx (iVar 0) (iCon (.int 1)))) (iNm 2)
      (b1__law_variables g__law_variables g__law_is_variable))))
    (iRet (iVar 1))))
def f__law_variables (g__law_variables : Fn) (g__law_is_variable : Fn) : Fn := runDef 2 3 (m__law_variables g__law_variables g__law_is_variable)
def it__law_variables : Nat → Fn
  | 0 => fun _ => none
  | n + 1 => f__law_variables (it__law_variables n) F__law_is_variable
def F__law_variables : Fn := it__law_variables 12
/-! _law_clause_variables -/
def b1__law_clause_variables (g__law_variables : Fn) : StF :=
    (iAft [2] (iSeq (iAsg false 1 (iCall g__law_variables (argC (iBin gIx (iVar 2) (iCon (.int 1))) (argC (iVar 1) argN))))
    (iAsg false 1 (iCall g__law_variables (argC (iBin gIx (iVar 2) (iCon (.int 2))) (argC (iVar 1) argN))))))
def m__law_clause_variables (g__law_variables : Fn) : StF :=
    (iSeq (iAsg false 1 (iLst argN))
    (iSeq (iAft [2] (iBef [2] (iFor (iSeqI (iVar 0)) (iNm 2)
      (b1__law_clause_variables g__law_variables))))
    (iRet (iVar 1))))
def f__law_clause_variables (g__law_variables : Fn) : Fn := runDef 1 3 (m__law_clause_variables g__law_variables)
def F__law_clause_variables : Fn := f__law_clause_variables F__law_variables
/-! _law_pairs -/
def m__law_pairs  : StF :=
    (iRet (iPairs 0 1))
def f__law_pairs  : Fn := runDef 1 2 (m__law_pairs )
def F__law_pairs : Fn := f__law_pairs 
/-! _law_numbers -/
def b1__law_numbers  : StF :=
    (iAsg false 4 (iBin gAdd (iVar 4) (iCon (.int 1))))
def b2__law_numbers  : StF :=
    (iAft [4] (iSeq (iAsg false 4 (iBin gMod (iCB (c1 gInt) (argC (iVar 0) argN)) (iVar 1)))
    (iSeq (wloop (iTst (iBin (alt (gIn false) (gInS false)) (iVar 4) (iVar 2)))
      (b1__law_numbers) 1000000)
    (iSeq (iApp 2 (iVar 4))
    (iAsg false 0 (iBin gDiv (iVar 0) (iVar 1)))))))
def m__law_numbers  : StF :=
    (iSeq (iAsg false 1 (iCon (.int 9)))
    (iSeq (iIfS (iTst (iBin gEq (iBin gMod (iCB (c1 gInt) (argC (iVar 0) argN)) (iCon (.int 4))) (iCon (.int 0)))) (iAsg false 1 (iBin gPow (iCon (.int 10)) (iCon (.int 12)))) iNext)
    (iSeq (iAsg false 0 (iBin gDiv (iVar 0) (iCon (.int 4))))
    (iSeq (iAsg true 2 (iLst argN))
    (iSeq (iAft [0, 4] (iBef [4] (iFor (iR1 (argC (iCon (.int 3)) argN)) (iNm 3)
      (b2__law_numbers))))
    (iRet (iLc (iR1 (argC (iCon (.int 3)) argN)) (iNm 3) iYes (iTup (argC (iVar 3) (argC (iBin gIx (iVar 2) (iVar 3)) argN))) [3])))))))
def f__law_numbers  : Fn := runDef 1 5 (m__law_numbers )
def F__law_numbers : Fn := f__law_numbers 
/-! _law_substitution -/
def b1__law_substitution (g__law_term : Fn) : StF :=
    (iAft [3, 4] (iSeq (iAft [4] (iIfS (iTst (iBin gNe (iBin gMod (iCB (c1 gInt) (argC (iVar 0) argN)) (iCon (.int 4))) (iCon (.int 3)))) (iSeq (iAsg false 4 (iCall g__law_term (argC (iBin gDiv (iVar 0) (iCon (.int 4))) (argC (iVar 1) argN))))
    (iSeq (iApp 2 (iTup (argC (iVar 3) (argC (iBin gIx (iVar 4) (iCon (.int 0))) argN))))
    (iAsg false 0 (iBin gIx (iVar 4) (iCon (.int 1)))))) iNext))
    (iAsg false 0 (iBin gDiv (iVar 0) (iCon (.int 4))))))
def m__law_substitution (g__law_term : Fn) : StF :=
    (iSeq (iAsg true 2 (iLst argN))
    (iSeq (iAft [0, 3, 4] (iBef [3, 4] (iFor (iR1 (argC (iCon (.int 3)) argN)) (iNm 3)
      (b1__law_substitution g__law_term))))
    (iRet (iVar 2))))
def f__law_substitution (g__law_term : Fn) : Fn := runDef 2 5 (m__law_substitution g__law_term)
def F__law_substitution : Fn := f__law_substitution F__law_term
/-! _law_is_truth -/
def m__law_is_truth  : StF :=
    (iRet (iAnd (iIsi "bool" (iVar 0)) (iBin gEq (iVar 0) (iVar 1))))
def f__law_is_truth  : Fn := runDef 2 2 (m__law_is_truth )
def F__law_is_truth : Fn := f__law_is_truth 
end LS

/-! Terms as data; equality of terms. -/
namespace Sh
open PySem L2 DL
inductive T where
  | v (i : Int)
  | c (k a b : Int) (ts : List T)
noncomputable instance T.dec : DecidableEq T := fun a b => Classical.propDecidable _
def sym (k a b : Int) : D := .tuple [.int k, .int a, .int b]
mutual
def enc : T → D
  | .v i => .int i
  | .c k a b ts => .tuple [sym k a b, .tuple (encs ts)]
def encs : List T → List D
  | [] => []
  | t :: ts => enc t :: encs ts
end
theorem encs_map : ∀ ts : List T, encs ts = ts.map enc
  | [] => rfl
  | t :: ts => by rw [encs, encs_map ts]; rfl
theorem encs_len (ts : List T) : (encs ts).length = ts.length := by rw [encs_map, List.length_map]
theorem encs_app (ts us : List T) : encs (ts ++ us) = encs ts ++ encs us := by rw [encs_map, encs_map, encs_map, List.map_append]
theorem enc_v (i : Int) : enc (.v i) = .int i := rfl
theorem enc_c (k a b : Int) (ts : List T) : enc (.c k a b ts) = .tuple [sym k a b, .tuple (encs ts)] := rfl
def isF (k a b : Int) : Prop := (k = 2 ∧ (a = 0 ∨ a = 1 ∨ a = 2) ∧ b = 0) ∨ (k = 3 ∧ a = 0 ∧ b = 0) ∨ (k = 3 ∧ a = 4 ∧ b = 1)
def isP (k a b : Int) : Prop := (k = 1 ∧ (a = 0 ∨ a = 1 ∨ a = 2) ∧ b = 0) ∨ (k = 4 ∧ a = 0 ∧ b = 0) ∨ (k = 5 ∧ a = 2 ∧ b = 0) ∨ (k = 0 ∧ a = 0 ∧ b = 0)
/-- at most n levels, at most two arguments, functions alone, variables from 0 to 2 -/
def Small : Nat → T → Prop
  | _, .v i => 0 ≤ i ∧ i ≤ 2
  | 0, .c k a b ts => isF k a b ∧ ts = []
  | n + 1, .c k a b ts => isF k a b ∧ ts.length ≤ 2 ∧ ∀ t ∈ ts, Small n t
/-- an atom over terms of at most n levels -/
def Atom (n : Nat) : T → Prop
  | .v _ => False
  | .c k a b ts => isP k a b ∧ ts.length ≤ 2 ∧ ∀ t ∈ ts, Small n t
/-- at most n levels -/
def Deep : Nat → T → Prop
  | _, .v _ => True
  | 0, .c _ _ _ _ => False
  | n + 1, .c _ _ _ ts => ∀ t ∈ ts, Deep n t
theorem Deep.mono {n : Nat} : ∀ {m : Nat} {t : T}, Deep n t → n ≤ m → Deep m t := by
  induction n with
  | zero =>
    intro m t h _
    cases t with
    | v i => cases m <;> trivial
    | c k a b ts => exact h.elim
  | succ n ih =>
    intro m t h hm
    cases t with
    | v i => cases m <;> trivial
    | c k a b ts =>
      cases m with
      | zero => omega
      | succ m => exact fun t ht => ih (h t ht) (by omega)
/-- at most n levels, at most m arguments -/
def Bd (m : Nat) : Nat → T → Prop
  | _, .v _ => True
  | 0, .c _ _ _ _ => False
  | n + 1, .c _ _ _ ts => ts.length ≤ m ∧ ∀ t ∈ ts, Bd m n t
theorem Bd.deep {m : Nat} : ∀ {n : Nat} {t : T}, Bd m n t → Deep n t
  | 0, .v _, _ => trivial
  | _ + 1, .v _, _ => trivial
  | 0, .c k a b ts, h => h.elim
  | n + 1, .c k a b ts, h => fun t ht => Bd.deep (h.2 t ht)
theorem Bd.mono {m m' : Nat} (hm : m ≤ m') : ∀ {n n' : Nat} {t : T}, Bd m n t → n ≤ n' → Bd m' n' t
  | _, 0, .v _, _, _ => trivial
  | _, _ + 1, .v _, _, _ => trivial
  | 0, _, .c k a b ts, h, _ => h.elim
  | n + 1, 0, .c k a b ts, h, q => by omega
  | n + 1, n' + 1, .c k a b ts, h, q => ⟨Nat.le_trans h.1 hm, fun t ht => Bd.mono hm (h.2 t ht) (by omega)⟩
theorem Small.bd : ∀ {n : Nat} {t : T}, Small n t → Bd 2 (n + 1) t
  | 0, .v _, _ => trivial
  | _ + 1, .v _, _ => trivial
  | 0, .c k a b ts, h => by rw [h.2]; exact ⟨by simp, fun t ht => by cases ht⟩
  | n + 1, .c k a b ts, h => ⟨h.2.1, fun t ht => Small.bd (h.2.2 t ht)⟩
theorem Atom.bd {n : Nat} : ∀ {t : T}, Atom n t → Bd 2 (n + 2) t
  | .v _, h => h.elim
  | .c k a b ts, h => ⟨h.2.1, fun t ht => Small.bd (h.2.2 t ht)⟩
/-! ### equality -/
mutual
def py : T → PyData
  | .v i => .int i
  | .c k a b ts => .tuple [.tuple [.int k, .int a, .int b], .tuple (pys ts)]
def pys : List T → List PyData
  | [] => []
  | t :: ts => py t :: pys ts
end
mutual
theorem toPy_enc : ∀ t : T, toPy (enc t) = some (py t)
  | .v i => rfl
  | .c k a b ts => by
    show (toPy.toPys [sym k a b, .tuple (encs ts)]).map PyData.tuple = _
    simp only [toPy.toPys, toPy, sym, toPys_encs ts, Option.map_some]
    rfl
theorem toPys_encs : ∀ ts : List T, toPy.toPys (encs ts) = some (pys ts)
  | [] => rfl
  | t :: ts => by
    simp only [encs, toPy.toPys, toPy_enc t, toPys_encs ts]
    rfl
end
mutual
theorem can_py : ∀ t : T, (py t).canLay0 = true
  | .v i => by simp [py, PyData.canLay0]
  | .c k a b ts => by simp [py, PyData.canLay0, PyData.canLayAll0, can_pys ts]
theorem can_pys : ∀ ts : List T, PyData.canLayAll0 (pys ts) = true
  | [] => by simp [pys, PyData.canLayAll0]
  | t :: ts => by simp [pys, PyData.canLayAll0, can_py t, can_pys ts]
end
mutual
theorem eqv_py : ∀ t u : T, (PyData.eqv (py t) (py u) = true ↔ t = u)
  | .v i, .v j => by simp [py, PyData.eqv]
  | .v i, .c k a b ts => by simp [py, PyData.eqv]
  | .c k a b ts, .v j => by simp [py, PyData.eqv]
  | .c k a b ts, .c k' a' b' us => by
    have q := eqv_pys ts us
    simp only [py, PyData.eqv, PyData.eqvAll, Bool.and_eq_true, q, beq_iff_eq, Bool.and_true, T.c.injEq]
    constructor
    · rintro ⟨⟨h1, h2, h3⟩, h4⟩; exact ⟨h1, h2, h3, h4⟩
    · rintro ⟨h1, h2, h3, h4⟩; exact ⟨⟨h1, h2, h3⟩, h4⟩
theorem eqv_pys : ∀ ts us : List T, (PyData.eqvAll (pys ts) (pys us) = true ↔ ts = us)
  | [], [] => by simp [pys, PyData.eqvAll]
  | [], u :: us => by simp [pys, PyData.eqvAll]
  | t :: ts, [] => by simp [pys, PyData.eqvAll]
  | t :: ts, u :: us => by
    have q1 := eqv_py t u
    have q2 := eqv_pys ts us
    simp only [pys, PyData.eqvAll, Bool.and_eq_true, q1, q2, List.cons.injEq]
end
mutual
theorem depth_py : ∀ (n : Nat) (t : T), Deep n t → (py t).depth ≤ 2 * n + 2
  | n, .v i, _ => by simp [py, PyData.depth]
  | 0, .c k a b ts, h => h.elim
  | n + 1, .c k a b ts, h => by
    have q := depth_pys n ts h
    simp only [py, PyData.depth, PyData.depthAll]
    omega
theorem depth_pys : ∀ (n : Nat) (ts : List T), (∀ t ∈ ts, Deep n t) → PyData.depthAll (pys ts) ≤ 2 * n + 2
  | n, [], _ => by simp [pys, PyData.depthAll]
  | n, t :: ts, h => by
    have q := depth_py n t (h t List.mem_cons_self)
    have q2 := depth_pys n ts fun u hu => h u (List.mem_cons_of_mem _ hu)
    simp only [pys, PyData.depthAll]
    omega
end
/-- data that is plain, of at most n levels, and the data e that equals it alone -/
structure Pl (n : Nat) (d : D) (p : PyData) : Prop where
  to : toPy d = some p
  can : p.canLay0 = true
  dp : p.depth ≤ n
theorem Pl.enc {n : Nat} {t : T} (h : Deep n t) : Pl (2 * n + 2) (enc t) (py t) := ⟨toPy_enc t, can_py t, depth_py n t h⟩
theorem Pl.shaped {n : Nat} {d : D} {p : PyData} (h : Pl n d p) (hn : n ≤ 64) : SeqAt.shaped p = true := by
  unfold SeqAt.shaped
  rw [h.can]
  have : p.depth ≤ 64 := Nat.le_trans h.dp hn
  simp [this]
/-- what == gives where it compares as data -/
theorem eqD_pl {n : Nat} {d e : D} {p q : PyData} (hd : Pl n d p) (he : Pl n e q) (hn : n ≤ 64) : eqD d e = some (PyData.eqv p q) := by
  have k : (toPy d).bind (fun p => (toPy e).bind fun q => if SeqAt.shaped p = true ∧ SeqAt.shaped q = true then some (PyData.eqv p q) else Option.none) = some (PyData.eqv p q) := by
    rw [hd.to, he.to, Option.bind_some, Option.bind_some, if_pos ⟨hd.shaped hn, he.shaped hn⟩]
  have to1 := hd.to
  have to2 := he.to
  unfold eqD
  split
  · cases to1; cases to2
    simp only [PyData.eqv]
    congr 1
  · cases to1; cases to2
    simp only [PyData.eqv]
    congr 1
    try (rw [Bool.eq_iff_iff]; simp)
  · cases to1; cases to2
    simp only [PyData.eqv]
    congr 1
    try (rw [Bool.eq_iff_iff]; simp)
  · exact k
theorem Pl.gEq {n : Nat} {d e : D} {p q : PyData} (hd : Pl n d p) (he : Pl n e q) (hn : n ≤ 64) {P : Prop} [Decidable P] (h : PyData.eqv p q = true ↔ P) : gEq d e = some (.val (.bool (decide P))) := by
  unfold DL.gEq
  rw [eqD_pl hd he hn]
  have : PyData.eqv p q = decide P := by rw [Bool.eq_iff_iff, h, decide_eq_true_eq]
  rw [this]
  rfl
theorem Pl.gNe {n : Nat} {d e : D} {p q : PyData} (hd : Pl n d p) (he : Pl n e q) (hn : n ≤ 64) {P : Prop} [Decidable P] (h : PyData.eqv p q = true ↔ P) : gNe d e = some (.val (.bool (!decide P))) := by
  unfold DL.gNe
  rw [eqD_pl hd he hn]
  have : PyData.eqv p q = decide P := by rw [Bool.eq_iff_iff, h, decide_eq_true_eq]
  rw [this]
  rfl
theorem gEq_enc {n : Nat} {t u : T} (h : Deep n t) (h2 : Deep n u) (hn : n ≤ 30) : gEq (enc t) (enc u) = some (.val (.bool (decide (t = u)))) := (Pl.enc h).gEq (Pl.enc h2) (by omega) (eqv_py t u)
theorem gNe_enc {n : Nat} {t u : T} (h : Deep n t) (h2 : Deep n u) (hn : n ≤ 30) : gNe (enc t) (enc u) = some (.val (.bool (!decide (t = u)))) := (Pl.enc h).gNe (Pl.enc h2) (by omega) (eqv_py t u)
/-! literals, clauses -/
abbrev Lit := Bool × T × T
def encL (l : Lit) : D := .tuple [.bool l.1, enc l.2.1, enc l.2.2]
def pyL (l : Lit) : PyData := .tuple [.bool l.1, py l.2.1, py l.2.2]
def LDeep (n : Nat) (l : Lit) : Prop := Deep n l.2.1 ∧ Deep n l.2.2
def LBd (m n : Nat) (l : Lit) : Prop := Bd m n l.2.1 ∧ Bd m n l.2.2
theorem LBd.deep {m n : Nat} {l : Lit} (h : LBd m n l) : LDeep n l := ⟨h.1.deep, h.2.deep⟩
abbrev clD (ls : List Lit) : D := .tuple (ls.map encL)
theorem Pl.lit {n : Nat} {l : Lit} (h : LDeep n l) : Pl (2 * n + 4) (encL l) (pyL l) := by
  have h1 := depth_py n _ h.1
  have h2 := depth_py n _ h.2
  refine ⟨?_, by simp [pyL, PyData.canLay0, PyData.canLayAll0, can_py], ?_⟩
  · show (toPy.toPys [.bool l.1, Sh.enc l.2.1, Sh.enc l.2.2]).map PyData.tuple = _
    simp only [toPy.toPys, toPy_enc, toPy]
    rfl
  · simp only [pyL, PyData.depth, PyData.depthAll]
    omega
theorem eqv_pyL (l m : Lit) : PyData.eqv (pyL l) (pyL m) = true ↔ l = m := by
  obtain ⟨b, t, u⟩ := l
  obtain ⟨b', t', u'⟩ := m
  simp only [pyL, PyData.eqv, PyData.eqvAll, Bool.and_eq_true, eqv_py, beq_iff_eq, Bool.and_true, Prod.mk.injEq]
/-- a list of plain things -/
theorem toPys_map {α : Type} {f : α → D} {g : α → PyData} : ∀ {xs : List α}, (∀ x ∈ xs, toPy (f x) = some (g x)) → toPy.toPys (xs.map f) = some (xs.map g)
  | [], _ => rfl
  | x :: xs, h => by
    simp only [List.map_cons, toPy.toPys, h x List.mem_cons_self, toPys_map fun y hy => h y (List.mem_cons_of_mem _ hy)]
theorem Pl.tup {α : Type} {n : Nat} {f : α → D} {g : α → PyData} {xs : List α} (h : ∀ x ∈ xs, Pl n (f x) (g x)) : Pl (n + 1) (.tuple (xs.map f)) (.tuple (xs.map g)) := by
  refine ⟨by simp only [toPy, toPys_map fun x hx => (h x hx).to, Option.map_some], ?_, ?_⟩
  · simp only [PyData.canLay0]
    induction xs with
    | nil => simp [PyData.canLayAll0]
    | cons x xs ih => simp only [List.map_cons, PyData.canLayAll0, (h x List.mem_cons_self).can, ih fun y hy => h y (List.mem_cons_of_mem _ hy), Bool.and_self]
  · simp only [PyData.depth]
    have : PyData.depthAll (xs.map g) ≤ n := by
      induction xs with
      | nil => simp [PyData.depthAll]
      | cons x xs ih =>
        have := ih fun y hy => h y (List.mem_cons_of_mem _ hy)
        have := (h x List.mem_cons_self).dp
        simp only [List.map_cons, PyData.depthAll]
        omega
    omega
theorem Pl.lst {α : Type} {n : Nat} {f : α → D} {g : α → PyData} {xs : List α} (h : ∀ x ∈ xs, Pl n (f x) (g x)) : Pl (n + 1) (.list (xs.map f)) (.list (xs.map g)) := by
  obtain ⟨h1, h2, h3⟩ := Pl.tup h
  refine ⟨by simp only [toPy, toPys_map fun x hx => (h x hx).to, Option.map_some], by simp only [PyData.canLay0] at h2 ⊢; exact h2, by simp only [PyData.depth] at h3 ⊢; exact h3⟩
theorem eqvAll_map {α : Type} {g : α → PyData} (hg : ∀ x y, PyData.eqv (g x) (g y) = true ↔ x = y) : ∀ (xs ys : List α), PyData.eqvAll (xs.map g) (ys.map g) = true ↔ xs = ys
  | [], [] => by simp [PyData.eqvAll]
  | [], y :: ys => by simp [PyData.eqvAll]
  | x :: xs, [] => by simp [PyData.eqvAll]
  | x :: xs, y :: ys => by
    have q := eqvAll_map hg xs ys
    simp only [List.map_cons, PyData.eqvAll, Bool.and_eq_true, hg, q, List.cons.injEq]
theorem eqv_tup {α : Type} {g : α → PyData} (hg : ∀ x y, PyData.eqv (g x) (g y) = true ↔ x = y) (xs ys : List α) : PyData.eqv (.tuple (xs.map g)) (.tuple (ys.map g)) = true ↔ xs = ys := by
  simp only [PyData.eqv]
  exact eqvAll_map hg xs ys
theorem eqv_lst {α : Type} {g : α → PyData} (hg : ∀ x y, PyData.eqv (g x) (g y) = true ↔ x = y) (xs ys : List α) : PyData.eqv (.list (xs.map g)) (.list (ys.map g)) = true ↔ xs = ys := by
  simp only [PyData.eqv]
  exact eqvAll_map hg xs ys
theorem Pl.int {n : Nat} {i : Int} : Pl n (.int i) (.int i) := ⟨rfl, by simp [PyData.canLay0], by simp [PyData.depth]⟩
theorem eqv_int (i j : Int) : PyData.eqv (.int i) (.int j) = true ↔ i = j := by simp [PyData.eqv]
theorem Pl.pair {n : Nat} {d e : D} {p q : PyData} (h : Pl n d p) (k : Pl n e q) : Pl (n + 1) (.tuple [d, e]) (.tuple [p, q]) := by
  refine ⟨by simp only [toPy, toPy.toPys, h.to, k.to, Option.map_some], by simp only [PyData.canLay0, PyData.canLayAll0, h.can, k.can, Bool.and_self], ?_⟩
  have := h.dp
  have := k.dp
  simp only [PyData.depth, PyData.depthAll]
  omega
theorem Pl.mono {n m : Nat} {d : D} {p : PyData} (h : Pl n d p) (k : n ≤ m) : Pl m d p := ⟨h.to, h.can, Nat.le_trans h.dp k⟩
theorem gNe_ints {xs ys : List Int} : gNe (.list (xs.map .int)) (.list (ys.map .int)) = some (.val (.bool (!decide (xs = ys)))) :=
  (Pl.lst (n := 0) (g := PyData.int) fun x _ => Pl.int).gNe (Pl.lst (n := 0) (g := PyData.int) fun x _ => Pl.int) (by omega) (eqv_lst eqv_int xs ys)
theorem gEq_ints {xs ys : List Int} : gEq (.list (xs.map .int)) (.list (ys.map .int)) = some (.val (.bool (decide (xs = ys)))) :=
  (Pl.lst (n := 0) (g := PyData.int) fun x _ => Pl.int).gEq (Pl.lst (n := 0) (g := PyData.int) fun x _ => Pl.int) (by omega) (eqv_lst eqv_int xs ys)
theorem gNe_cl {n : Nat} {ls ms : List Lit} (h : ∀ l ∈ ls, LDeep n l) (h2 : ∀ l ∈ ms, LDeep n l) (hn : n ≤ 25) : gNe (clD ls) (clD ms) = some (.val (.bool (!decide (ls = ms)))) :=
  (Pl.tup fun l hl => Pl.lit (h l hl)).gNe (Pl.tup fun l hl => Pl.lit (h2 l hl)) (by omega) (eqv_tup eqv_pyL ls ms)
theorem gEq_cl {n : Nat} {ls ms : List Lit} (h : ∀ l ∈ ls, LDeep n l) (h2 : ∀ l ∈ ms, LDeep n l) (hn : n ≤ 25) : gEq (clD ls) (clD ms) = some (.val (.bool (decide (ls = ms)))) :=
  (Pl.tup fun l hl => Pl.lit (h l hl)).gEq (Pl.tup fun l hl => Pl.lit (h2 l hl)) (by omega) (eqv_tup eqv_pyL ls ms)
end Sh

/-! What the laws draw; variables. -/
namespace Sh
open PySem L2 DL
open LS
abbrev scr (ns : List Int) : D := .list (ns.map .int)
theorem at_ints {ns : List Int} {k : Nat} (h : k < ns.length) : L2.atI (ns.map D.int) (k : Int) = some (.int ns[k]) := by
  rw [atI_nat (v := .int ns[k])]
  rw [List.getElem?_map, List.getElem?_eq_getElem h]
  rfl
theorem at_ex {α : Type} {f : α → D} {xs : List α} {i : Int} (h0 : 0 ≤ i) (h1 : i < (xs.length : Int)) : ∃ x ∈ xs, L2.atI (xs.map f) i = some (f x) := by
  obtain ⟨k, rfl⟩ : ∃ k : Nat, i = (k : Int) := ⟨i.toNat, by omega⟩
  have hk : k < xs.length := by omega
  refine ⟨xs[k], List.getElem_mem hk, ?_⟩
  rw [atI_nat (v := f xs[k])]
  rw [List.getElem?_map, List.getElem?_eq_getElem hk]
  rfl
theorem cell_low (a b c : Int) : 0 ≤ (c % 2147483587 * 2147483647 + b % 2147483629) * 2147483647 + a % 2147483647 := by
  have h1 := Int.emod_nonneg c (show (2147483587 : Int) ≠ 0 by decide)
  have h2 := Int.emod_nonneg b (show (2147483629 : Int) ≠ 0 by decide)
  have h3 := Int.emod_nonneg a (show (2147483647 : Int) ≠ 0 by decide)
  generalize c % 2147483587 = x at *
  generalize b % 2147483629 = y at *
  generalize a % 2147483647 = z at *
  omega
theorem cell_ex' (ns : List Int) (k : Int) (hk0 : 0 ≤ k) : ∃ c : Int, 0 ≤ c ∧ F__law_cell [.val (scr ns), .val (.int k)] = some (.val (.int c), [.val (scr ns), .val (.int k)]) := by
  have fin : ∀ (E : Nv) (c : Int), 0 ≤ c → m__law_cell [.val (scr ns), .val (.int k), .no, .no, .no, .no] = some (.ret (.val (.int c)) (.val (scr ns) :: .val (.int k) :: E)) → ∃ c : Int, 0 ≤ c ∧ F__law_cell [.val (scr ns), .val (.int k)] = some (.val (.int c), [.val (scr ns), .val (.int k)]) := fun E c h0 h => ⟨c, h0, run_ret (n := 2) (N := 6) (sls := [.val (scr ns), .val (.int k)]) h rfl⟩
  have e := @rfl _ (m__law_cell [.val (scr ns), .val (.int k), .no, .no, .no, .no])
  by_cases h1 : k < (ns.length : Int)
  · obtain ⟨c, _, hk⟩ := at_ex (f := D.int) (xs := ns) hk0 h1
    by_cases h2 : c < 0
    · by_cases h3 : 1 - 2 * c < 1000000000
      · conv at e => rhs; simp only [m__law_cell, iSeq_ev, sq_next, sq_ret, sq_brk, sq_cont, iNext_ev, iAsg_ev, as_val, as_new_t, as_new_f, setV_ev, set_no, set_val, set_own, iVar_ev, va_val, va_own, look_ev, lo_own, look_val, look_new, vis_val, vis_new, pub_val, pub_new, pub_own, opd_ap, iCon_ap, iBin_ap, iUn_ap, argN_ap, argC_ap, looks_nil, looks_cons, viss_nil, viss_cons, iCB_ap, iTup_ap, iLst_ap, isB_ap, isI_ap, iTst_ap, iTru_ap, iNotT_ap, iAndT_ap, iOrT_ap, iAnd_ap, iOr_ap, iNot_ap, iIf_ap, iSl_ap, iNoP_ap, iPart_ap, iIsi_ap, iIfS_ev, iRet_ev, ret_val', ret_new', ret_own', ro_own, iRetN_ev, iDrop_ev, iBrk_ev, iCont_ev, iBef_ev, iAft_ev, wfl_next, wfl_cont, wfl_brk, wfl_ret, wipe_nil, wipe_cons, wp_no, wp_val, wp_own, iNm_ev, iGT_tup, iGT_list, iGN_ev, iGC_ev, iAsgT_ev, iCall_ev, sls_nil, sls_val, sls_own, dup_nil, dup_val, dup_own, has_nil, has_val, has_own, now_val, now_new, back_ev, bg_nil, bg_cons, bs_no, bs_val, bs_own, bsf_some, bsf_none, b1_nil, b1_val, b1_own, iApp_ev, ap1_list, apF_list, iExU_ev, exF_list, exV_new, exV_tup, iPop_ev, po_snoc, iStL_ev, iFrz_ev, fz_own, fz_val, iRev_ev, gRev_list, gRev_tup, iSeqI_ev, iRevI_ev, iEnumU_ev, iR1_ev, turn_ev, at0, at1, at2, ix0, ix1, ix2, gAdd_int, gAdd_str, gAdd_tup, gSub_int, gMul_int, gMulR_int, gMulL_int, gDiv_int, gMod_int, gPow_int, gNeg_int, gLt_int, gLe_int, gGt_int, gGe_int, gEq_int, gNe_int, gEq_str, gNe_str, gEq_bool, gNe_bool, gIs_ap, gIsN_ap, isNone_none, isNone_int, isNone_tup, isNone_str, gIx_list, gIx_tup, gSl_tup, gSl_list, c1_ap, gLen_list, gLen_tup, gInt_int, gList_list, gList_tup, gTuple_list, gTuple_tup, truD_none, truD_bool, truD_int, truD_list, truD_tup, isi_int_int, isi_int_tup, isi_bool_bool, isi_tup_tup, isi_list_list, isi_bool_int, Option.bind_some, Option.map_some, List.getElem?_cons_zero, List.getElem?_cons_succ, List.set_cons_zero, List.set_cons_succ, List.length_cons, List.length_nil, if_true, reduceIte, decide_true, decide_false, Bool.true_and, Bool.and_true, Bool.not_true, Bool.not_false, Bool.false_eq_true, Bool.not_eq_true, decide_eq_true_eq, Nat.reduceAdd, Nat.reduceLeDiff, Nat.reduceEqDiff, Nat.reduceSub, Nat.reduceMul, Int.reduceLT, Int.reduceLE, Int.reduceEq, Int.reduceAdd, Int.reduceSub, Int.reduceMul, Int.reduceNeg, Int.reduceToNat, Int.reducePow, and_self, eq_self, and_true, true_and, Nat.reduceBEq, ncast, DL.sm, List.length_map, iDGet2_ev, iDGet_ev, iDIn_ev, keyD_int, keyD_str, iDNew_ev, dpF_own, dp1_own, iDPut_ev, ds1_own, dsF_own, iDSet_ev, lzF_tup, iLZip_ev, iDc_ev, iLc_ev, dA_val, dA_own, iPairs_ev, not_false_eq_true, Nat.reduceLT, iCopyD_ev, lcOF_own, iLcO_ev, alC_list, alC_dict, in_ints, notin_ints, gAdd_list, augF_int, iAug_ev, ne_eq, decide_not, h1, hk, h2, h3]
        exact fin _ _ (cell_low _ _ _) e
      · conv at e => rhs; simp only [m__law_cell, iSeq_ev, sq_next, sq_ret, sq_brk, sq_cont, iNext_ev, iAsg_ev, as_val, as_new_t, as_new_f, setV_ev, set_no, set_val, set_own, iVar_ev, va_val, va_own, look_ev, lo_own, look_val, look_new, vis_val, vis_new, pub_val, pub_new, pub_own, opd_ap, iCon_ap, iBin_ap, iUn_ap, argN_ap, argC_ap, looks_nil, looks_cons, viss_nil, viss_cons, iCB_ap, iTup_ap, iLst_ap, isB_ap, isI_ap, iTst_ap, iTru_ap, iNotT_ap, iAndT_ap, iOrT_ap, iAnd_ap, iOr_ap, iNot_ap, iIf_ap, iSl_ap, iNoP_ap, iPart_ap, iIsi_ap, iIfS_ev, iRet_ev, ret_val', ret_new', ret_own', ro_own, iRetN_ev, iDrop_ev, iBrk_ev, iCont_ev, iBef_ev, iAft_ev, wfl_next, wfl_cont, wfl_brk, wfl_ret, wipe_nil, wipe_cons, wp_no, wp_val, wp_own, iNm_ev, iGT_tup, iGT_list, iGN_ev, iGC_ev, iAsgT_ev, iCall_ev, sls_nil, sls_val, sls_own, dup_nil, dup_val, dup_own, has_nil, has_val, has_own, now_val, now_new, back_ev, bg_nil, bg_cons, bs_no, bs_val, bs_own, bsf_some, bsf_none, b1_nil, b1_val, b1_own, iApp_ev, ap1_list, apF_list, iExU_ev, exF_list, exV_new, exV_tup, iPop_ev, po_snoc, iStL_ev, iFrz_ev, fz_own, fz_val, iRev_ev, gRev_list, gRev_tup, iSeqI_ev, iRevI_ev, iEnumU_ev, iR1_ev, turn_ev, at0, at1, at2, ix0, ix1, ix2, gAdd_int, gAdd_str, gAdd_tup, gSub_int, gMul_int, gMulR_int, gMulL_int, gDiv_int, gMod_int, gPow_int, gNeg_int, gLt_int, gLe_int, gGt_int, gGe_int, gEq_int, gNe_int, gEq_str, gNe_str, gEq_bool, gNe_bool, gIs_ap, gIsN_ap, isNone_none, isNone_int, isNone_tup, isNone_str, gIx_list, gIx_tup, gSl_tup, gSl_list, c1_ap, gLen_list, gLen_tup, gInt_int, gList_list, gList_tup, gTuple_list, gTuple_tup, truD_none, truD_bool, truD_int, truD_list, truD_tup, isi_int_int, isi_int_tup, isi_bool_bool, isi_tup_tup, isi_list_list, isi_bool_int, Option.bind_some, Option.map_some, List.getElem?_cons_zero, List.getElem?_cons_succ, List.set_cons_zero, List.set_cons_succ, List.length_cons, List.length_nil, if_true, reduceIte, decide_true, decide_false, Bool.true_and, Bool.and_true, Bool.not_true, Bool.not_false, Bool.false_eq_true, Bool.not_eq_true, decide_eq_true_eq, Nat.reduceAdd, Nat.reduceLeDiff, Nat.reduceEqDiff, Nat.reduceSub, Nat.reduceMul, Int.reduceLT, Int.reduceLE, Int.reduceEq, Int.reduceAdd, Int.reduceSub, Int.reduceMul, Int.reduceNeg, Int.reduceToNat, Int.reducePow, and_self, eq_self, and_true, true_and, Nat.reduceBEq, ncast, DL.sm, List.length_map, iDGet2_ev, iDGet_ev, iDIn_ev, keyD_int, keyD_str, iDNew_ev, dpF_own, dp1_own, iDPut_ev, ds1_own, dsF_own, iDSet_ev, lzF_tup, iLZip_ev, iDc_ev, iLc_ev, dA_val, dA_own, iPairs_ev, not_false_eq_true, Nat.reduceLT, iCopyD_ev, lcOF_own, iLcO_ev, alC_list, alC_dict, in_ints, notin_ints, gAdd_list, augF_int, iAug_ev, ne_eq, decide_not, h1, hk, h2, h3]
        exact fin _ _ (by omega) e
    · by_cases h3 : c < 1000000000
      · conv at e => rhs; simp only [m__law_cell, iSeq_ev, sq_next, sq_ret, sq_brk, sq_cont, iNext_ev, iAsg_ev, as_val, as_new_t, as_new_f, setV_ev, set_no, set_val, set_own, iVar_ev, va_val, va_own, look_ev, lo_own, look_val, look_new, vis_val, vis_new, pub_val, pub_new, pub_own, opd_ap, iCon_ap, iBin_ap, iUn_ap, argN_ap, argC_ap, looks_nil, looks_cons, viss_nil, viss_cons, iCB_ap, iTup_ap, iLst_ap, isB_ap, isI_ap, iTst_ap, iTru_ap, iNotT_ap, iAndT_ap, iOrT_ap, iAnd_ap, iOr_ap, iNot_ap, iIf_ap, iSl_ap, iNoP_ap, iPart_ap, iIsi_ap, iIfS_ev, iRet_ev, ret_val', ret_new', ret_own', ro_own, iRetN_ev, iDrop_ev, iBrk_ev, iCont_ev, iBef_ev, iAft_ev, wfl_next, wfl_cont, wfl_brk, wfl_ret, wipe_nil, wipe_cons, wp_no, wp_val, wp_own, iNm_ev, iGT_tup, iGT_list, iGN_ev, iGC_ev, iAsgT_ev, iCall_ev, sls_nil, sls_val, sls_own, dup_nil, dup_val, dup_own, has_nil, has_val, has_own, now_val, now_new, back_ev, bg_nil, bg_cons, bs_no, bs_val, bs_own, bsf_some, bsf_none, b1_nil, b1_val, b1_own, iApp_ev, ap1_list, apF_list, iExU_ev, exF_list, exV_new, exV_tup, iPop_ev, po_snoc, iStL_ev, iFrz_ev, fz_own, fz_val, iRev_ev, gRev_list, gRev_tup, iSeqI_ev, iRevI_ev, iEnumU_ev, iR1_ev, turn_ev, at0, at1, at2, ix0, ix1, ix2, gAdd_int, gAdd_str, gAdd_tup, gSub_int, gMul_int, gMulR_int, gMulL_int, gDiv_int, gMod_int, gPow_int, gNeg_int, gLt_int, gLe_int, gGt_int, gGe_int, gEq_int, gNe_int, gEq_str, gNe_str, gEq_bool, gNe_bool, gIs_ap, gIsN_ap, isNone_none, isNone_int, isNone_tup, isNone_str, gIx_list, gIx_tup, gSl_tup, gSl_list, c1_ap, gLen_list, gLen_tup, gInt_int, gList_list, gList_tup, gTuple_list, gTuple_tup, truD_none, truD_bool, truD_int, truD_list, truD_tup, isi_int_int, isi_int_tup, isi_bool_bool, isi_tup_tup, isi_list_list, isi_bool_int, Option.bind_some, Option.map_some, List.getElem?_cons_zero, List.getElem?_cons_succ, List.set_cons_zero, List.set_cons_succ, List.length_cons, List.length_nil, if_true, reduceIte, decide_true, decide_false, Bool.true_and, Bool.and_true, Bool.not_true, Bool.not_false, Bool.false_eq_true, Bool.not_eq_true, decide_eq_true_eq, Nat.reduceAdd, Nat.reduceLeDiff, Nat.reduceEqDiff, Nat.reduceSub, Nat.reduceMul, Int.reduceLT, Int.reduceLE, Int.reduceEq, Int.reduceAdd, Int.reduceSub, Int.reduceMul, Int.reduceNeg, Int.reduceToNat, Int.reducePow, and_self, eq_self, and_true, true_and, Nat.reduceBEq, ncast, DL.sm, List.length_map, iDGet2_ev, iDGet_ev, iDIn_ev, keyD_int, keyD_str, iDNew_ev, dpF_own, dp1_own, iDPut_ev, ds1_own, dsF_own, iDSet_ev, lzF_tup, iLZip_ev, iDc_ev, iLc_ev, dA_val, dA_own, iPairs_ev, not_false_eq_true, Nat.reduceLT, iCopyD_ev, lcOF_own, iLcO_ev, alC_list, alC_dict, in_ints, notin_ints, gAdd_list, augF_int, iAug_ev, ne_eq, decide_not, h1, hk, h2, h3]
        exact fin _ _ (cell_low _ _ _) e
      · conv at e => rhs; simp only [m__law_cell, iSeq_ev, sq_next, sq_ret, sq_brk, sq_cont, iNext_ev, iAsg_ev, as_val, as_new_t, as_new_f, setV_ev, set_no, set_val, set_own, iVar_ev, va_val, va_own, look_ev, lo_own, look_val, look_new, vis_val, vis_new, pub_val, pub_new, pub_own, opd_ap, iCon_ap, iBin_ap, iUn_ap, argN_ap, argC_ap, looks_nil, looks_cons, viss_nil, viss_cons, iCB_ap, iTup_ap, iLst_ap, isB_ap, isI_ap, iTst_ap, iTru_ap, iNotT_ap, iAndT_ap, iOrT_ap, iAnd_ap, iOr_ap, iNot_ap, iIf_ap, iSl_ap, iNoP_ap, iPart_ap, iIsi_ap, iIfS_ev, iRet_ev, ret_val', ret_new', ret_own', ro_own, iRetN_ev, iDrop_ev, iBrk_ev, iCont_ev, iBef_ev, iAft_ev, wfl_next, wfl_cont, wfl_brk, wfl_ret, wipe_nil, wipe_cons, wp_no, wp_val, wp_own, iNm_ev, iGT_tup, iGT_list, iGN_ev, iGC_ev, iAsgT_ev, iCall_ev, sls_nil, sls_val, sls_own, dup_nil, dup_val, dup_own, has_nil, has_val, has_own, now_val, now_new, back_ev, bg_nil, bg_cons, bs_no, bs_val, bs_own, bsf_some, bsf_none, b1_nil, b1_val, b1_own, iApp_ev, ap1_list, apF_list, iExU_ev, exF_list, exV_new, exV_tup, iPop_ev, po_snoc, iStL_ev, iFrz_ev, fz_own, fz_val, iRev_ev, gRev_list, gRev_tup, iSeqI_ev, iRevI_ev, iEnumU_ev, iR1_ev, turn_ev, at0, at1, at2, ix0, ix1, ix2, gAdd_int, gAdd_str, gAdd_tup, gSub_int, gMul_int, gMulR_int, gMulL_int, gDiv_int, gMod_int, gPow_int, gNeg_int, gLt_int, gLe_int, gGt_int, gGe_int, gEq_int, gNe_int, gEq_str, gNe_str, gEq_bool, gNe_bool, gIs_ap, gIsN_ap, isNone_none, isNone_int, isNone_tup, isNone_str, gIx_list, gIx_tup, gSl_tup, gSl_list, c1_ap, gLen_list, gLen_tup, gInt_int, gList_list, gList_tup, gTuple_list, gTuple_tup, truD_none, truD_bool, truD_int, truD_list, truD_tup, isi_int_int, isi_int_tup, isi_bool_bool, isi_tup_tup, isi_list_list, isi_bool_int, Option.bind_some, Option.map_some, List.getElem?_cons_zero, List.getElem?_cons_succ, List.set_cons_zero, List.set_cons_succ, List.length_cons, List.length_nil, if_true, reduceIte, decide_true, decide_false, Bool.true_and, Bool.and_true, Bool.not_true, Bool.not_false, Bool.false_eq_true, Bool.not_eq_true, decide_eq_true_eq, Nat.reduceAdd, Nat.reduceLeDiff, Nat.reduceEqDiff, Nat.reduceSub, Nat.reduceMul, Int.reduceLT, Int.reduceLE, Int.reduceEq, Int.reduceAdd, Int.reduceSub, Int.reduceMul, Int.reduceNeg, Int.reduceToNat, Int.reducePow, and_self, eq_self, and_true, true_and, Nat.reduceBEq, ncast, DL.sm, List.length_map, iDGet2_ev, iDGet_ev, iDIn_ev, keyD_int, keyD_str, iDNew_ev, dpF_own, dp1_own, iDPut_ev, ds1_own, dsF_own, iDSet_ev, lzF_tup, iLZip_ev, iDc_ev, iLc_ev, dA_val, dA_own, iPairs_ev, not_false_eq_true, Nat.reduceLT, iCopyD_ev, lcOF_own, iLcO_ev, alC_list, alC_dict, in_ints, notin_ints, gAdd_list, augF_int, iAug_ev, ne_eq, decide_not, h1, hk, h2, h3]
        exact fin _ _ (by omega) e
  · have h2 : ¬ 7 * k + 3 < 0 := by omega
    by_cases h3 : 7 * k + 3 < 1000000000
    · conv at e => rhs; simp only [m__law_cell, iSeq_ev, sq_next, sq_ret, sq_brk, sq_cont, iNext_ev, iAsg_ev, as_val, as_new_t, as_new_f, setV_ev, set_no, set_val, set_own, iVar_ev, va_val, va_own, look_ev, lo_own, look_val, look_new, vis_val, vis_new, pub_val, pub_new, pub_own, opd_ap, iCon_ap, iBin_ap, iUn_ap, argN_ap, argC_ap, looks_nil, looks_cons, viss_nil, viss_cons, iCB_ap, iTup_ap, iLst_ap, isB_ap, isI_ap, iTst_ap, iTru_ap, iNotT_ap, iAndT_ap, iOrT_ap, iAnd_ap, iOr_ap, iNot_ap, iIf_ap, iSl_ap, iNoP_ap, iPart_ap, iIsi_ap, iIfS_ev, iRet_ev, ret_val', ret_new', ret_own', ro_own, iRetN_ev, iDrop_ev, iBrk_ev, iCont_ev, iBef_ev, iAft_ev, wfl_next, wfl_cont, wfl_brk, wfl_ret, wipe_nil, wipe_cons, wp_no, wp_val, wp_own, iNm_ev, iGT_tup, iGT_list, iGN_ev, iGC_ev, iAsgT_ev, iCall_ev, sls_nil, sls_val, sls_own, dup_nil, dup_val, dup_own, has_nil, has_val, has_own, now_val, now_new, back_ev, bg_nil, bg_cons, bs_no, bs_val, bs_own, bsf_some, bsf_none, b1_nil, b1_val, b1_own, iApp_ev, ap1_list, apF_list, iExU_ev, exF_list, exV_new, exV_tup, iPop_ev, po_snoc, iStL_ev, iFrz_ev, fz_own, fz_val, iRev_ev, gRev_list, gRev_tup, iSeqI_ev, iRevI_ev, iEnumU_ev, iR1_ev, turn_ev, at0, at1, at2, ix0, ix1, ix2, gAdd_int, gAdd_str, gAdd_tup, gSub_int, gMul_int, gMulR_int, gMulL_int, gDiv_int, gMod_int, gPow_int, gNeg_int, gLt_int, gLe_int, gGt_int, gGe_int, gEq_int, gNe_int, gEq_str, gNe_str, gEq_bool, gNe_bool, gIs_ap, gIsN_ap, isNone_none, isNone_int, isNone_tup, isNone_str, gIx_list, gIx_tup, gSl_tup, gSl_list, c1_ap, gLen_list, gLen_tup, gInt_int, gList_list, gList_tup, gTuple_list, gTuple_tup, truD_none, truD_bool, truD_int, truD_list, truD_tup, isi_int_int, isi_int_tup, isi_bool_bool, isi_tup_tup, isi_list_list, isi_bool_int, Option.bind_some, Option.map_some, List.getElem?_cons_zero, List.getElem?_cons_succ, List.set_cons_zero, List.set_cons_succ, List.length_cons, List.length_nil, if_true, reduceIte, decide_true, decide_false, Bool.true_and, Bool.and_true, Bool.not_true, Bool.not_false, Bool.false_eq_true, Bool.not_eq_true, decide_eq_true_eq, Nat.reduceAdd, Nat.reduceLeDiff, Nat.reduceEqDiff, Nat.reduceSub, Nat.reduceMul, Int.reduceLT, Int.reduceLE, Int.reduceEq, Int.reduceAdd, Int.reduceSub, Int.reduceMul, Int.reduceNeg, Int.reduceToNat, Int.reducePow, and_self, eq_self, and_true, true_and, Nat.reduceBEq, ncast, DL.sm, List.length_map, iDGet2_ev, iDGet_ev, iDIn_ev, keyD_int, keyD_str, iDNew_ev, dpF_own, dp1_own, iDPut_ev, ds1_own, dsF_own, iDSet_ev, lzF_tup, iLZip_ev, iDc_ev, iLc_ev, dA_val, dA_own, iPairs_ev, not_false_eq_true, Nat.reduceLT, iCopyD_ev, lcOF_own, iLcO_ev, alC_list, alC_dict, in_ints, notin_ints, gAdd_list, augF_int, iAug_ev, ne_eq, decide_not, h1, h2, h3]
      exact fin _ _ (cell_low _ _ _) e
    · conv at e => rhs; simp only [m__law_cell, iSeq_ev, sq_next, sq_ret, sq_brk, sq_cont, iNext_ev, iAsg_ev, as_val, as_new_t, as_new_f, setV_ev, set_no, set_val, set_own, iVar_ev, va_val, va_own, look_ev, lo_own, look_val, look_new, vis_val, vis_new, pub_val, pub_new, pub_own, opd_ap, iCon_ap, iBin_ap, iUn_ap, argN_ap, argC_ap, looks_nil, looks_cons, viss_nil, viss_cons, iCB_ap, iTup_ap, iLst_ap, isB_ap, isI_ap, iTst_ap, iTru_ap, iNotT_ap, iAndT_ap, iOrT_ap, iAnd_ap, iOr_ap, iNot_ap, iIf_ap, iSl_ap, iNoP_ap, iPart_ap, iIsi_ap, iIfS_ev, iRet_ev, ret_val', ret_new', ret_own', ro_own, iRetN_ev, iDrop_ev, iBrk_ev, iCont_ev, iBef_ev, iAft_ev, wfl_next, wfl_cont, wfl_brk, wfl_ret, wipe_nil, wipe_cons, wp_no, wp_val, wp_own, iNm_ev, iGT_tup, iGT_list, iGN_ev, iGC_ev, iAsgT_ev, iCall_ev, sls_nil, sls_val, sls_own, dup_nil, dup_val, dup_own, has_nil, has_val, has_own, now_val, now_new, back_ev, bg_nil, bg_cons, bs_no, bs_val, bs_own, bsf_some, bsf_none, b1_nil, b1_val, b1_own, iApp_ev, ap1_list, apF_list, iExU_ev, exF_list, exV_new, exV_tup, iPop_ev, po_snoc, iStL_ev, iFrz_ev, fz_own, fz_val, iRev_ev, gRev_list, gRev_tup, iSeqI_ev, iRevI_ev, iEnumU_ev, iR1_ev, turn_ev, at0, at1, at2, ix0, ix1, ix2, gAdd_int, gAdd_str, gAdd_tup, gSub_int, gMul_int, gMulR_int, gMulL_int, gDiv_int, gMod_int, gPow_int, gNeg_int, gLt_int, gLe_int, gGt_int, gGe_int, gEq_int, gNe_int, gEq_str, gNe_str, gEq_bool, gNe_bool, gIs_ap, gIsN_ap, isNone_none, isNone_int, isNone_tup, isNone_str, gIx_list, gIx_tup, gSl_tup, gSl_list, c1_ap, gLen_list, gLen_tup, gInt_int, gList_list, gList_tup, gTuple_list, gTuple_tup, truD_none, truD_bool, truD_int, truD_list, truD_tup, isi_int_int, isi_int_tup, isi_bool_bool, isi_tup_tup, isi_list_list, isi_bool_int, Option.bind_some, Option.map_some, List.getElem?_cons_zero, List.getElem?_cons_succ, List.set_cons_zero, List.set_cons_succ, List.length_cons, List.length_nil, if_true, reduceIte, decide_true, decide_false, Bool.true_and, Bool.and_true, Bool.not_true, Bool.not_false, Bool.false_eq_true, Bool.not_eq_true, decide_eq_true_eq, Nat.reduceAdd, Nat.reduceLeDiff, Nat.reduceEqDiff, Nat.reduceSub, Nat.reduceMul, Int.reduceLT, Int.reduceLE, Int.reduceEq, Int.reduceAdd, Int.reduceSub, Int.reduceMul, Int.reduceNeg, Int.reduceToNat, Int.reducePow, and_self, eq_self, and_true, true_and, Nat.reduceBEq, ncast, DL.sm, List.length_map, iDGet2_ev, iDGet_ev, iDIn_ev, keyD_int, keyD_str, iDNew_ev, dpF_own, dp1_own, iDPut_ev, ds1_own, dsF_own, iDSet_ev, lzF_tup, iLZip_ev, iDc_ev, iLc_ev, dA_val, dA_own, iPairs_ev, not_false_eq_true, Nat.reduceLT, iCopyD_ev, lcOF_own, iLcO_ev, alC_list, alC_dict, in_ints, notin_ints, gAdd_list, augF_int, iAug_ev, ne_eq, decide_not, h1, h2, h3]
      exact fin _ _ (by omega) e
theorem cell_ex (ns : List Int) (k : Nat) : ∃ c : Int, 0 ≤ c ∧ F__law_cell [.val (scr ns), .val (.int (k : Int))] = some (.val (.int c), [.val (scr ns), .val (.int (k : Int))]) := cell_ex' ns k (Int.natCast_nonneg k)
/-- the cell k of the script -/
noncomputable def cell (ns : List Int) (k : Nat) : Int := (cell_ex ns k).choose
theorem cell_nn (ns : List Int) (k : Nat) : 0 ≤ cell ns k := (cell_ex ns k).choose_spec.1
theorem cell_eq (ns : List Int) (k : Nat) : F__law_cell [.val (scr ns), .val (.int (k : Int))] = some (.val (.int (cell ns k)), [.val (scr ns), .val (.int (k : Int))]) := (cell_ex ns k).choose_spec.2
theorem cell0 (ns : List Int) : F__law_cell [.val (scr ns), .val (.int 0)] = some (.val (.int (cell ns 0)), [.val (scr ns), .val (.int 0)]) := cell_eq ns 0
theorem cell1 (ns : List Int) : F__law_cell [.val (scr ns), .val (.int 1)] = some (.val (.int (cell ns 1)), [.val (scr ns), .val (.int 1)]) := cell_eq ns 1
theorem cell2 (ns : List Int) : F__law_cell [.val (scr ns), .val (.int 2)] = some (.val (.int (cell ns 2)), [.val (scr ns), .val (.int 2)]) := cell_eq ns 2
theorem cell3 (ns : List Int) : F__law_cell [.val (scr ns), .val (.int 3)] = some (.val (.int (cell ns 3)), [.val (scr ns), .val (.int 3)]) := cell_eq ns 3
theorem cell4 (ns : List Int) : F__law_cell [.val (scr ns), .val (.int 4)] = some (.val (.int (cell ns 4)), [.val (scr ns), .val (.int 4)]) := cell_eq ns 4
theorem cell5 (ns : List Int) : F__law_cell [.val (scr ns), .val (.int 5)] = some (.val (.int (cell ns 5)), [.val (scr ns), .val (.int 5)]) := cell_eq ns 5
theorem cell6 (ns : List Int) : F__law_cell [.val (scr ns), .val (.int 6)] = some (.val (.int (cell ns 6)), [.val (scr ns), .val (.int 6)]) := cell_eq ns 6
/-! terms -/
theorem smr {k : Int} (h0 : 0 ≤ k) (h1 : k < 1000) : smR k = true := by
  unfold smR
  simp only [Bool.and_eq_true, decide_eq_true_eq]
  omega
theorem isv_v (i : Int) : F_is_variable [.val (.int i)] = some (.val (.bool true), [.val (.int i)]) := by
  have e := @rfl _ (m_is_variable [.val (.int i)])
  conv at e => rhs; simp only [m_is_variable, iSeq_ev, sq_next, sq_ret, sq_brk, sq_cont, iNext_ev, iAsg_ev, as_val, as_new_t, as_new_f, setV_ev, set_no, set_val, set_own, iVar_ev, va_val, va_own, look_ev, lo_own, look_val, look_new, vis_val, vis_new, pub_val, pub_new, pub_own, opd_ap, iCon_ap, iBin_ap, iUn_ap, argN_ap, argC_ap, looks_nil, looks_cons, viss_nil, viss_cons, iCB_ap, iTup_ap, iLst_ap, isB_ap, isI_ap, iTst_ap, iTru_ap, iNotT_ap, iAndT_ap, iOrT_ap, iAnd_ap, iOr_ap, iNot_ap, iIf_ap, iSl_ap, iNoP_ap, iPart_ap, iIsi_ap, iIfS_ev, iRet_ev, ret_val', ret_new', ret_own', ro_own, iRetN_ev, iDrop_ev, iBrk_ev, iCont_ev, iBef_ev, iAft_ev, wfl_next, wfl_cont, wfl_brk, wfl_ret, wipe_nil, wipe_cons, wp_no, wp_val, wp_own, iNm_ev, iGT_tup, iGT_list, iGN_ev, iGC_ev, iAsgT_ev, iCall_ev, sls_nil, sls_val, sls_own, dup_nil, dup_val, dup_own, has_nil, has_val, has_own, now_val, now_new, back_ev, bg_nil, bg_cons, bs_no, bs_val, bs_own, bsf_some, bsf_none, b1_nil, b1_val, b1_own, iApp_ev, ap1_list, apF_list, iExU_ev, exF_list, exV_new, exV_tup, iPop_ev, po_snoc, iStL_ev, iFrz_ev, fz_own, fz_val, iRev_ev, gRev_list, gRev_tup, iSeqI_ev, iRevI_ev, iEnumU_ev, iR1_ev, turn_ev, at0, at1, at2, ix0, ix1, ix2, gAdd_int, gAdd_str, gAdd_tup, gSub_int, gMul_int, gMulR_int, gMulL_int, gDiv_int, gMod_int, gPow_int, gNeg_int, gLt_int, gLe_int, gGt_int, gGe_int, gEq_int, gNe_int, gEq_str, gNe_str, gEq_bool, gNe_bool, gIs_ap, gIsN_ap, isNone_none, isNone_int, isNone_tup, isNone_str, gIx_list, gIx_tup, gSl_tup, gSl_list, c1_ap, gLen_list, gLen_tup, gInt_int, gList_list, gList_tup, gTuple_list, gTuple_tup, truD_none, truD_bool, truD_int, truD_list, truD_tup, isi_int_int, isi_int_tup, isi_bool_bool, isi_tup_tup, isi_list_list, isi_bool_int, Option.bind_some, Option.map_some, List.getElem?_cons_zero, List.getElem?_cons_succ, List.set_cons_zero, List.set_cons_succ, List.length_cons, List.length_nil, if_true, reduceIte, decide_true, decide_false, Bool.true_and, Bool.and_true, Bool.not_true, Bool.not_false, Bool.false_eq_true, Bool.not_eq_true, decide_eq_true_eq, Nat.reduceAdd, Nat.reduceLeDiff, Nat.reduceEqDiff, Nat.reduceSub, Nat.reduceMul, Int.reduceLT, Int.reduceLE, Int.reduceEq, Int.reduceAdd, Int.reduceSub, Int.reduceMul, Int.reduceNeg, Int.reduceToNat, Int.reducePow, and_self, eq_self, and_true, true_and, Nat.reduceBEq, ncast, DL.sm, List.length_map, iDGet2_ev, iDGet_ev, iDIn_ev, keyD_int, keyD_str, iDNew_ev, dpF_own, dp1_own, iDPut_ev, ds1_own, dsF_own, iDSet_ev, lzF_tup, iLZip_ev, iDc_ev, iLc_ev, dA_val, dA_own, iPairs_ev, not_false_eq_true, Nat.reduceLT, iCopyD_ev, lcOF_own, iLcO_ev, alC_list, alC_dict, in_ints, notin_ints, gAdd_list, augF_int, iAug_ev, ne_eq, decide_not]
  exact run_ret (n := 1) (N := 1) (sls := [.val (.int i)]) e rfl
theorem isv_t (xs : List D) : F_is_variable [.val (.tuple xs)] = some (.val (.bool false), [.val (.tuple xs)]) := by
  have e := @rfl _ (m_is_variable [.val (.tuple xs)])
  conv at e => rhs; simp only [m_is_variable, iSeq_ev, sq_next, sq_ret, sq_brk, sq_cont, iNext_ev, iAsg_ev, as_val, as_new_t, as_new_f, setV_ev, set_no, set_val, set_own, iVar_ev, va_val, va_own, look_ev, lo_own, look_val, look_new, vis_val, vis_new, pub_val, pub_new, pub_own, opd_ap, iCon_ap, iBin_ap, iUn_ap, argN_ap, argC_ap, looks_nil, looks_cons, viss_nil, viss_cons, iCB_ap, iTup_ap, iLst_ap, isB_ap, isI_ap, iTst_ap, iTru_ap, iNotT_ap, iAndT_ap, iOrT_ap, iAnd_ap, iOr_ap, iNot_ap, iIf_ap, iSl_ap, iNoP_ap, iPart_ap, iIsi_ap, iIfS_ev, iRet_ev, ret_val', ret_new', ret_own', ro_own, iRetN_ev, iDrop_ev, iBrk_ev, iCont_ev, iBef_ev, iAft_ev, wfl_next, wfl_cont, wfl_brk, wfl_ret, wipe_nil, wipe_cons, wp_no, wp_val, wp_own, iNm_ev, iGT_tup, iGT_list, iGN_ev, iGC_ev, iAsgT_ev, iCall_ev, sls_nil, sls_val, sls_own, dup_nil, dup_val, dup_own, has_nil, has_val, has_own, now_val, now_new, back_ev, bg_nil, bg_cons, bs_no, bs_val, bs_own, bsf_some, bsf_none, b1_nil, b1_val, b1_own, iApp_ev, ap1_list, apF_list, iExU_ev, exF_list, exV_new, exV_tup, iPop_ev, po_snoc, iStL_ev, iFrz_ev, fz_own, fz_val, iRev_ev, gRev_list, gRev_tup, iSeqI_ev, iRevI_ev, iEnumU_ev, iR1_ev, turn_ev, at0, at1, at2, ix0, ix1, ix2, gAdd_int, gAdd_str, gAdd_tup, gSub_int, gMul_int, gMulR_int, gMulL_int, gDiv_int, gMod_int, gPow_int, gNeg_int, gLt_int, gLe_int, gGt_int, gGe_int, gEq_int, gNe_int, gEq_str, gNe_str, gEq_bool, gNe_bool, gIs_ap, gIsN_ap, isNone_none, isNone_int, isNone_tup, isNone_str, gIx_list, gIx_tup, gSl_tup, gSl_list, c1_ap, gLen_list, gLen_tup, gInt_int, gList_list, gList_tup, gTuple_list, gTuple_tup, truD_none, truD_bool, truD_int, truD_list, truD_tup, isi_int_int, isi_int_tup, isi_bool_bool, isi_tup_tup, isi_list_list, isi_bool_int, Option.bind_some, Option.map_some, List.getElem?_cons_zero, List.getElem?_cons_succ, List.set_cons_zero, List.set_cons_succ, List.length_cons, List.length_nil, if_true, reduceIte, decide_true, decide_false, Bool.true_and, Bool.and_true, Bool.not_true, Bool.not_false, Bool.false_eq_true, Bool.not_eq_true, decide_eq_true_eq, Nat.reduceAdd, Nat.reduceLeDiff, Nat.reduceEqDiff, Nat.reduceSub, Nat.reduceMul, Int.reduceLT, Int.reduceLE, Int.reduceEq, Int.reduceAdd, Int.reduceSub, Int.reduceMul, Int.reduceNeg, Int.reduceToNat, Int.reducePow, and_self, eq_self, and_true, true_and, Nat.reduceBEq, ncast, DL.sm, List.length_map, iDGet2_ev, iDGet_ev, iDIn_ev, keyD_int, keyD_str, iDNew_ev, dpF_own, dp1_own, iDPut_ev, ds1_own, dsF_own, iDSet_ev, lzF_tup, iLZip_ev, iDc_ev, iLc_ev, dA_val, dA_own, iPairs_ev, not_false_eq_true, Nat.reduceLT, iCopyD_ev, lcOF_own, iLcO_ev, alC_list, alC_dict, in_ints, notin_ints, gAdd_list, augF_int, iAug_ev, ne_eq, decide_not]
  exact run_ret (n := 1) (N := 1) (sls := [.val (.tuple xs)]) e rfl
theorem lisv_v (i : Int) : F__law_is_variable [.val (.int i)] = some (.val (.bool true), [.val (.int i)]) := isv_v i
theorem lisv_t (xs : List D) : F__law_is_variable [.val (.tuple xs)] = some (.val (.bool false), [.val (.tuple xs)]) := isv_t xs
theorem lint (i : Int) : F__law_is_integer [.val (.int i)] = some (.val (.bool true), [.val (.int i)]) := by
  have e := @rfl _ (m__law_is_integer [.val (.int i)])
  conv at e => rhs; simp only [m__law_is_integer, iSeq_ev, sq_next, sq_ret, sq_brk, sq_cont, iNext_ev, iAsg_ev, as_val, as_new_t, as_new_f, setV_ev, set_no, set_val, set_own, iVar_ev, va_val, va_own, look_ev, lo_own, look_val, look_new, vis_val, vis_new, pub_val, pub_new, pub_own, opd_ap, iCon_ap, iBin_ap, iUn_ap, argN_ap, argC_ap, looks_nil, looks_cons, viss_nil, viss_cons, iCB_ap, iTup_ap, iLst_ap, isB_ap, isI_ap, iTst_ap, iTru_ap, iNotT_ap, iAndT_ap, iOrT_ap, iAnd_ap, iOr_ap, iNot_ap, iIf_ap, iSl_ap, iNoP_ap, iPart_ap, iIsi_ap, iIfS_ev, iRet_ev, ret_val', ret_new', ret_own', ro_own, iRetN_ev, iDrop_ev, iBrk_ev, iCont_ev, iBef_ev, iAft_ev, wfl_next, wfl_cont, wfl_brk, wfl_ret, wipe_nil, wipe_cons, wp_no, wp_val, wp_own, iNm_ev, iGT_tup, iGT_list, iGN_ev, iGC_ev, iAsgT_ev, iCall_ev, sls_nil, sls_val, sls_own, dup_nil, dup_val, dup_own, has_nil, has_val, has_own, now_val, now_new, back_ev, bg_nil, bg_cons, bs_no, bs_val, bs_own, bsf_some, bsf_none, b1_nil, b1_val, b1_own, iApp_ev, ap1_list, apF_list, iExU_ev, exF_list, exV_new, exV_tup, iPop_ev, po_snoc, iStL_ev, iFrz_ev, fz_own, fz_val, iRev_ev, gRev_list, gRev_tup, iSeqI_ev, iRevI_ev, iEnumU_ev, iR1_ev, turn_ev, at0, at1, at2, ix0, ix1, ix2, gAdd_int, gAdd_str, gAdd_tup, gSub_int, gMul_int, gMulR_int, gMulL_int, gDiv_int, gMod_int, gPow_int, gNeg_int, gLt_int, gLe_int, gGt_int, gGe_int, gEq_int, gNe_int, gEq_str, gNe_str, gEq_bool, gNe_bool, gIs_ap, gIsN_ap, isNone_none, isNone_int, isNone_tup, isNone_str, gIx_list, gIx_tup, gSl_tup, gSl_list, c1_ap, gLen_list, gLen_tup, gInt_int, gList_list, gList_tup, gTuple_list, gTuple_tup, truD_none, truD_bool, truD_int, truD_list, truD_tup, isi_int_int, isi_int_tup, isi_bool_bool, isi_tup_tup, isi_list_list, isi_bool_int, Option.bind_some, Option.map_some, List.getElem?_cons_zero, List.getElem?_cons_succ, List.set_cons_zero, List.set_cons_succ, List.length_cons, List.length_nil, if_true, reduceIte, decide_true, decide_false, Bool.true_and, Bool.and_true, Bool.not_true, Bool.not_false, Bool.false_eq_true, Bool.not_eq_true, decide_eq_true_eq, Nat.reduceAdd, Nat.reduceLeDiff, Nat.reduceEqDiff, Nat.reduceSub, Nat.reduceMul, Int.reduceLT, Int.reduceLE, Int.reduceEq, Int.reduceAdd, Int.reduceSub, Int.reduceMul, Int.reduceNeg, Int.reduceToNat, Int.reducePow, and_self, eq_self, and_true, true_and, Nat.reduceBEq, ncast, DL.sm, List.length_map, iDGet2_ev, iDGet_ev, iDIn_ev, keyD_int, keyD_str, iDNew_ev, dpF_own, dp1_own, iDPut_ev, ds1_own, dsF_own, iDSet_ev, lzF_tup, iLZip_ev, iDc_ev, iLc_ev, dA_val, dA_own, iPairs_ev, not_false_eq_true, Nat.reduceLT, iCopyD_ev, lcOF_own, iLcO_ev, alC_list, alC_dict, in_ints, notin_ints, gAdd_list, augF_int, iAug_ev, ne_eq, decide_not]
  exact run_ret (n := 1) (N := 1) (sls := [.val (.int i)]) e rfl
theorem ltruth (b c : Bool) : F__law_is_truth [.val (.bool b), .val (.bool c)] = some (.val (.bool (decide (b = c))), [.val (.bool b), .val (.bool c)]) := by
  have e := @rfl _ (m__law_is_truth [.val (.bool b), .val (.bool c)])
  conv at e => rhs; simp only [m__law_is_truth, iSeq_ev, sq_next, sq_ret, sq_brk, sq_cont, iNext_ev, iAsg_ev, as_val, as_new_t, as_new_f, setV_ev, set_no, set_val, set_own, iVar_ev, va_val, va_own, look_ev, lo_own, look_val, look_new, vis_val, vis_new, pub_val, pub_new, pub_own, opd_ap, iCon_ap, iBin_ap, iUn_ap, argN_ap, argC_ap, looks_nil, looks_cons, viss_nil, viss_cons, iCB_ap, iTup_ap, iLst_ap, isB_ap, isI_ap, iTst_ap, iTru_ap, iNotT_ap, iAndT_ap, iOrT_ap, iAnd_ap, iOr_ap, iNot_ap, iIf_ap, iSl_ap, iNoP_ap, iPart_ap, iIsi_ap, iIfS_ev, iRet_ev, ret_val', ret_new', ret_own', ro_own, iRetN_ev, iDrop_ev, iBrk_ev, iCont_ev, iBef_ev, iAft_ev, wfl_next, wfl_cont, wfl_brk, wfl_ret, wipe_nil, wipe_cons, wp_no, wp_val, wp_own, iNm_ev, iGT_tup, iGT_list, iGN_ev, iGC_ev, iAsgT_ev, iCall_ev, sls_nil, sls_val, sls_own, dup_nil, dup_val, dup_own, has_nil, has_val, has_own, now_val, now_new, back_ev, bg_nil, bg_cons, bs_no, bs_val, bs_own, bsf_some, bsf_none, b1_nil, b1_val, b1_own, iApp_ev, ap1_list, apF_list, iExU_ev, exF_list, exV_new, exV_tup, iPop_ev, po_snoc, iStL_ev, iFrz_ev, fz_own, fz_val, iRev_ev, gRev_list, gRev_tup, iSeqI_ev, iRevI_ev, iEnumU_ev, iR1_ev, turn_ev, at0, at1, at2, ix0, ix1, ix2, gAdd_int, gAdd_str, gAdd_tup, gSub_int, gMul_int, gMulR_int, gMulL_int, gDiv_int, gMod_int, gPow_int, gNeg_int, gLt_int, gLe_int, gGt_int, gGe_int, gEq_int, gNe_int, gEq_str, gNe_str, gEq_bool, gNe_bool, gIs_ap, gIsN_ap, isNone_none, isNone_int, isNone_tup, isNone_str, gIx_list, gIx_tup, gSl_tup, gSl_list, c1_ap, gLen_list, gLen_tup, gInt_int, gList_list, gList_tup, gTuple_list, gTuple_tup, truD_none, truD_bool, truD_int, truD_list, truD_tup, isi_int_int, isi_int_tup, isi_bool_bool, isi_tup_tup, isi_list_list, isi_bool_int, Option.bind_some, Option.map_some, List.getElem?_cons_zero, List.getElem?_cons_succ, List.set_cons_zero, List.set_cons_succ, List.length_cons, List.length_nil, if_true, reduceIte, decide_true, decide_false, Bool.true_and, Bool.and_true, Bool.not_true, Bool.not_false, Bool.false_eq_true, Bool.not_eq_true, decide_eq_true_eq, Nat.reduceAdd, Nat.reduceLeDiff, Nat.reduceEqDiff, Nat.reduceSub, Nat.reduceMul, Int.reduceLT, Int.reduceLE, Int.reduceEq, Int.reduceAdd, Int.reduceSub, Int.reduceMul, Int.reduceNeg, Int.reduceToNat, Int.reducePow, and_self, eq_self, and_true, true_and, Nat.reduceBEq, ncast, DL.sm, List.length_map, iDGet2_ev, iDGet_ev, iDIn_ev, keyD_int, keyD_str, iDNew_ev, dpF_own, dp1_own, iDPut_ev, ds1_own, dsF_own, iDSet_ev, lzF_tup, iLZip_ev, iDc_ev, iLc_ev, dA_val, dA_own, iPairs_ev, not_false_eq_true, Nat.reduceLT, iCopyD_ev, lcOF_own, iLcO_ev, alC_list, alC_dict, in_ints, notin_ints, gAdd_list, augF_int, iAug_ev, ne_eq, decide_not]
  exact run_ret (n := 2) (N := 2) (sls := [.val (.bool b), .val (.bool c)]) e rfl
theorem symbol_ex (n : Int) : ∃ k a b, F__law_symbol [.val (.int n)] = some (.val (sym k a b), [.val (.int n)]) ∧ isF k a b := by
  have go : ∀ (k a b : Int), L2.atI [sym 2 0 0, sym 2 1 0, sym 3 0 0, sym 2 2 0, sym 3 4 1] (n % 5) = some (sym k a b) → isF k a b → ∃ k a b, F__law_symbol [.val (.int n)] = some (.val (sym k a b), [.val (.int n)]) ∧ isF k a b := by
    intro k a b hx hf
    have e := @rfl _ (m__law_symbol [.val (.int n), .no])
    have hx' := hx
    simp only [sym] at hx'
    conv at e => rhs; simp only [m__law_symbol, iSeq_ev, sq_next, sq_ret, sq_brk, sq_cont, iNext_ev, iAsg_ev, as_val, as_new_t, as_new_f, setV_ev, set_no, set_val, set_own, iVar_ev, va_val, va_own, look_ev, lo_own, look_val, look_new, vis_val, vis_new, pub_val, pub_new, pub_own, opd_ap, iCon_ap, iBin_ap, iUn_ap, argN_ap, argC_ap, looks_nil, looks_cons, viss_nil, viss_cons, iCB_ap, iTup_ap, iLst_ap, isB_ap, isI_ap, iTst_ap, iTru_ap, iNotT_ap, iAndT_ap, iOrT_ap, iAnd_ap, iOr_ap, iNot_ap, iIf_ap, iSl_ap, iNoP_ap, iPart_ap, iIsi_ap, iIfS_ev, iRet_ev, ret_val', ret_new', ret_own', ro_own, iRetN_ev, iDrop_ev, iBrk_ev, iCont_ev, iBef_ev, iAft_ev, wfl_next, wfl_cont, wfl_brk, wfl_ret, wipe_nil, wipe_cons, wp_no, wp_val, wp_own, iNm_ev, iGT_tup, iGT_list, iGN_ev, iGC_ev, iAsgT_ev, iCall_ev, sls_nil, sls_val, sls_own, dup_nil, dup_val, dup_own, has_nil, has_val, has_own, now_val, now_new, back_ev, bg_nil, bg_cons, bs_no, bs_val, bs_own, bsf_some, bsf_none, b1_nil, b1_val, b1_own, iApp_ev, ap1_list, apF_list, iExU_ev, exF_list, exV_new, exV_tup, iPop_ev, po_snoc, iStL_ev, iFrz_ev, fz_own, fz_val, iRev_ev, gRev_list, gRev_tup, iSeqI_ev, iRevI_ev, iEnumU_ev, iR1_ev, turn_ev, at0, at1, at2, ix0, ix1, ix2, gAdd_int, gAdd_str, gAdd_tup, gSub_int, gMul_int, gMulR_int, gMulL_int, gDiv_int, gMod_int, gPow_int, gNeg_int, gLt_int, gLe_int, gGt_int, gGe_int, gEq_int, gNe_int, gEq_str, gNe_str, gEq_bool, gNe_bool, gIs_ap, gIsN_ap, isNone_none, isNone_int, isNone_tup, isNone_str, gIx_list, gIx_tup, gSl_tup, gSl_list, c1_ap, gLen_list, gLen_tup, gInt_int, gList_list, gList_tup, gTuple_list, gTuple_tup, truD_none, truD_bool, truD_int, truD_list, truD_tup, isi_int_int, isi_int_tup, isi_bool_bool, isi_tup_tup, isi_list_list, isi_bool_int, Option.bind_some, Option.map_some, List.getElem?_cons_zero, List.getElem?_cons_succ, List.set_cons_zero, List.set_cons_succ, List.length_cons, List.length_nil, if_true, reduceIte, decide_true, decide_false, Bool.true_and, Bool.and_true, Bool.not_true, Bool.not_false, Bool.false_eq_true, Bool.not_eq_true, decide_eq_true_eq, Nat.reduceAdd, Nat.reduceLeDiff, Nat.reduceEqDiff, Nat.reduceSub, Nat.reduceMul, Int.reduceLT, Int.reduceLE, Int.reduceEq, Int.reduceAdd, Int.reduceSub, Int.reduceMul, Int.reduceNeg, Int.reduceToNat, Int.reducePow, and_self, eq_self, and_true, true_and, Nat.reduceBEq, ncast, DL.sm, List.length_map, iDGet2_ev, iDGet_ev, iDIn_ev, keyD_int, keyD_str, iDNew_ev, dpF_own, dp1_own, iDPut_ev, ds1_own, dsF_own, iDSet_ev, lzF_tup, iLZip_ev, iDc_ev, iLc_ev, dA_val, dA_own, iPairs_ev, not_false_eq_true, Nat.reduceLT, iCopyD_ev, lcOF_own, iLcO_ev, alC_list, alC_dict, in_ints, notin_ints, gAdd_list, augF_int, iAug_ev, ne_eq, decide_not, hx']
    exact ⟨k, a, b, run_ret (n := 1) (N := 2) (sls := [.val (.int n)]) e rfl, hf⟩
  have h : n % 5 = 0 ∨ n % 5 = 1 ∨ n % 5 = 2 ∨ n % 5 = 3 ∨ n % 5 = 4 := by omega
  rcases h with h | h | h | h | h <;> rw [h] at go
  · exact go 2 0 0 rfl (by simp [isF])
  · exact go 2 1 0 rfl (by simp [isF])
  · exact go 3 0 0 rfl (by simp [isF])
  · exact go 2 2 0 rfl (by simp [isF])
  · exact go 3 4 1 rfl (by simp [isF])
/-- a loop that draws: a row and a list of what was made -/
theorem draw_loop {α : Type} {tg : TgF} {s : StF} {E : Int → List α → Nv} {P : α → Prop} (h : ∀ (r : Int) (xs : List α) (k : Nat), xs.length < 2 → ∃ x r', P x ∧ turn tg s (E r xs) (.int (0 + (k : Int))) = some (.next (E r' (xs ++ [x])))) (m : Nat) (hm : m ≤ 2) (r : Int) :
    ∃ r' xs, xs.length = m ∧ (∀ x ∈ xs, P x) ∧ floop tg s (rngD 0 m) (E r []) = some (.next (E r' xs)) := by
  obtain ⟨e2, h1, r2, xs, h3, h4, h5⟩ := floop_inv (tg := tg) (s := s) (dn := fun k : Nat => D.int (0 + (k : Int))) (fun ks e => ∃ r xs, xs.length + ks.length = m ∧ (∀ x ∈ xs, P x) ∧ e = E r xs) (fun k ks e ⟨r, xs, h1, h2, h3⟩ => by
    subst h3
    rw [List.length_cons] at h1
    obtain ⟨x, r', hp, ht⟩ := h r xs k (by omega)
    exact ⟨_, .inl ht, r', xs ++ [x], by rw [List.length_append, List.length_singleton]; omega, fun y hy => (List.mem_append.mp hy).elim (h2 y) fun z => by rw [List.mem_singleton.mp z]; exact hp, rfl⟩) (List.range m) (E r []) ⟨r, [], by simp, (fun x hx => by cases hx), rfl⟩
  subst h5
  exact ⟨r2, xs, by simpa using h3, h4, h1⟩
theorem term_ex : ∀ (n deep : Nat) (row : Int), deep < n → ∃ t row', it__law_term n [.val (.int row), .val (.int (deep : Int))] = some (.val (.tuple [enc t, .int row']), [.val (.int row), .val (.int (deep : Int))]) ∧ Small deep t := by
  intro n
  induction n with
  | zero => intro deep row h; omega
  | succ n ih =>
    intro deep row hdn
    rw [show it__law_term (n + 1) = runDef 2 8 (m__law_term (it__law_term n) F__law_symbol) from rfl]
    have e := @rfl _ (m__law_term (it__law_term n) F__law_symbol [.val (.int row), .val (.int (deep : Int)), .no, .no, .no, .no, .no, .no])
    by_cases hk : row % 5 < 2
    · conv at e => rhs; simp only [m__law_term, iSeq_ev, sq_next, sq_ret, sq_brk, sq_cont, iNext_ev, iAsg_ev, as_val, as_new_t, as_new_f, setV_ev, set_no, set_val, set_own, iVar_ev, va_val, va_own, look_ev, lo_own, look_val, look_new, vis_val, vis_new, pub_val, pub_new, pub_own, opd_ap, iCon_ap, iBin_ap, iUn_ap, argN_ap, argC_ap, looks_nil, looks_cons, viss_nil, viss_cons, iCB_ap, iTup_ap, iLst_ap, isB_ap, isI_ap, iTst_ap, iTru_ap, iNotT_ap, iAndT_ap, iOrT_ap, iAnd_ap, iOr_ap, iNot_ap, iIf_ap, iSl_ap, iNoP_ap, iPart_ap, iIsi_ap, iIfS_ev, iRet_ev, ret_val', ret_new', ret_own', ro_own, iRetN_ev, iDrop_ev, iBrk_ev, iCont_ev, iBef_ev, iAft_ev, wfl_next, wfl_cont, wfl_brk, wfl_ret, wipe_nil, wipe_cons, wp_no, wp_val, wp_own, iNm_ev, iGT_tup, iGT_list, iGN_ev, iGC_ev, iAsgT_ev, iCall_ev, sls_nil, sls_val, sls_own, dup_nil, dup_val, dup_own, has_nil, has_val, has_own, now_val, now_new, back_ev, bg_nil, bg_cons, bs_no, bs_val, bs_own, bsf_some, bsf_none, b1_nil, b1_val, b1_own, iApp_ev, ap1_list, apF_list, iExU_ev, exF_list, exV_new, exV_tup, iPop_ev, po_snoc, iStL_ev, iFrz_ev, fz_own, fz_val, iRev_ev, gRev_list, gRev_tup, iSeqI_ev, iRevI_ev, iEnumU_ev, iR1_ev, turn_ev, at0, at1, at2, ix0, ix1, ix2, gAdd_int, gAdd_str, gAdd_tup, gSub_int, gMul_int, gMulR_int, gMulL_int, gDiv_int, gMod_int, gPow_int, gNeg_int, gLt_int, gLe_int, gGt_int, gGe_int, gEq_int, gNe_int, gEq_str, gNe_str, gEq_bool, gNe_bool, gIs_ap, gIsN_ap, isNone_none, isNone_int, isNone_tup, isNone_str, gIx_list, gIx_tup, gSl_tup, gSl_list, c1_ap, gLen_list, gLen_tup, gInt_int, gList_list, gList_tup, gTuple_list, gTuple_tup, truD_none, truD_bool, truD_int, truD_list, truD_tup, isi_int_int, isi_int_tup, isi_bool_bool, isi_tup_tup, isi_list_list, isi_bool_int, Option.bind_some, Option.map_some, List.getElem?_cons_zero, List.getElem?_cons_succ, List.set_cons_zero, List.set_cons_succ, List.length_cons, List.length_nil, if_true, reduceIte, decide_true, decide_false, Bool.true_and, Bool.and_true, Bool.not_true, Bool.not_false, Bool.false_eq_true, Bool.not_eq_true, decide_eq_true_eq, Nat.reduceAdd, Nat.reduceLeDiff, Nat.reduceEqDiff, Nat.reduceSub, Nat.reduceMul, Int.reduceLT, Int.reduceLE, Int.reduceEq, Int.reduceAdd, Int.reduceSub, Int.reduceMul, Int.reduceNeg, Int.reduceToNat, Int.reducePow, and_self, eq_self, and_true, true_and, Nat.reduceBEq, ncast, DL.sm, List.length_map, iDGet2_ev, iDGet_ev, iDIn_ev, keyD_int, keyD_str, iDNew_ev, dpF_own, dp1_own, iDPut_ev, ds1_own, dsF_own, iDSet_ev, lzF_tup, iLZip_ev, iDc_ev, iLc_ev, dA_val, dA_own, iPairs_ev, not_false_eq_true, Nat.reduceLT, iCopyD_ev, lcOF_own, iLcO_ev, alC_list, alC_dict, in_ints, notin_ints, gAdd_list, augF_int, iAug_ev, ne_eq, decide_not, hk]
      refine ⟨.v (row / 5 % 3), _, run_ret (n := 2) (N := 8) (sls := [.val (.int row), .val (.int (deep : Int))]) e rfl, ?_⟩
      cases deep <;> exact ⟨by omega, by omega⟩
    obtain ⟨k, a, b, hs, hF⟩ := symbol_ex (row / 5 / 3 % 5)
    by_cases h0 : (deep : Int) = 0
    · have hr : ∀ e, r1F [.val (.int 0)] e = some ([], e) := fun e => r1_int (by decide)
      conv at e => rhs; simp only [m__law_term, iSeq_ev, sq_next, sq_ret, sq_brk, sq_cont, iNext_ev, iAsg_ev, as_val, as_new_t, as_new_f, setV_ev, set_no, set_val, set_own, iVar_ev, va_val, va_own, look_ev, lo_own, look_val, look_new, vis_val, vis_new, pub_val, pub_new, pub_own, opd_ap, iCon_ap, iBin_ap, iUn_ap, argN_ap, argC_ap, looks_nil, looks_cons, viss_nil, viss_cons, iCB_ap, iTup_ap, iLst_ap, isB_ap, isI_ap, iTst_ap, iTru_ap, iNotT_ap, iAndT_ap, iOrT_ap, iAnd_ap, iOr_ap, iNot_ap, iIf_ap, iSl_ap, iNoP_ap, iPart_ap, iIsi_ap, iIfS_ev, iRet_ev, ret_val', ret_new', ret_own', ro_own, iRetN_ev, iDrop_ev, iBrk_ev, iCont_ev, iBef_ev, iAft_ev, wfl_next, wfl_cont, wfl_brk, wfl_ret, wipe_nil, wipe_cons, wp_no, wp_val, wp_own, iNm_ev, iGT_tup, iGT_list, iGN_ev, iGC_ev, iAsgT_ev, iCall_ev, sls_nil, sls_val, sls_own, dup_nil, dup_val, dup_own, has_nil, has_val, has_own, now_val, now_new, back_ev, bg_nil, bg_cons, bs_no, bs_val, bs_own, bsf_some, bsf_none, b1_nil, b1_val, b1_own, iApp_ev, ap1_list, apF_list, iExU_ev, exF_list, exV_new, exV_tup, iPop_ev, po_snoc, iStL_ev, iFrz_ev, fz_own, fz_val, iRev_ev, gRev_list, gRev_tup, iSeqI_ev, iRevI_ev, iEnumU_ev, iR1_ev, turn_ev, at0, at1, at2, ix0, ix1, ix2, gAdd_int, gAdd_str, gAdd_tup, gSub_int, gMul_int, gMulR_int, gMulL_int, gDiv_int, gMod_int, gPow_int, gNeg_int, gLt_int, gLe_int, gGt_int, gGe_int, gEq_int, gNe_int, gEq_str, gNe_str, gEq_bool, gNe_bool, gIs_ap, gIsN_ap, isNone_none, isNone_int, isNone_tup, isNone_str, gIx_list, gIx_tup, gSl_tup, gSl_list, c1_ap, gLen_list, gLen_tup, gInt_int, gList_list, gList_tup, gTuple_list, gTuple_tup, truD_none, truD_bool, truD_int, truD_list, truD_tup, isi_int_int, isi_int_tup, isi_bool_bool, isi_tup_tup, isi_list_list, isi_bool_int, Option.bind_some, Option.map_some, List.getElem?_cons_zero, List.getElem?_cons_succ, List.set_cons_zero, List.set_cons_succ, List.length_cons, List.length_nil, if_true, reduceIte, decide_true, decide_false, Bool.true_and, Bool.and_true, Bool.not_true, Bool.not_false, Bool.false_eq_true, Bool.not_eq_true, decide_eq_true_eq, Nat.reduceAdd, Nat.reduceLeDiff, Nat.reduceEqDiff, Nat.reduceSub, Nat.reduceMul, Int.reduceLT, Int.reduceLE, Int.reduceEq, Int.reduceAdd, Int.reduceSub, Int.reduceMul, Int.reduceNeg, Int.reduceToNat, Int.reducePow, and_self, eq_self, and_true, true_and, Nat.reduceBEq, ncast, DL.sm, List.length_map, iDGet2_ev, iDGet_ev, iDIn_ev, keyD_int, keyD_str, iDNew_ev, dpF_own, dp1_own, iDPut_ev, ds1_own, dsF_own, iDSet_ev, lzF_tup, iLZip_ev, iDc_ev, iLc_ev, dA_val, dA_own, iPairs_ev, not_false_eq_true, Nat.reduceLT, iCopyD_ev, lcOF_own, iLcO_ev, alC_list, alC_dict, in_ints, notin_ints, gAdd_list, augF_int, iAug_ev, ne_eq, decide_not, hk, h0, hs, iFor_ev, hr, fl_nil]
      refine ⟨.c k a b [], _, run_ret (n := 2) (N := 8) (sls := [.val (.int row), .val (.int (deep : Int))]) (e := [.val (.int (row / 5 / 3 / 5)), .val (.int 0), .val (.int (row % 5)), .val (.int 0), .val (sym k a b), .own false (.list []), .no, .no]) e rfl, ?_⟩
      have : deep = 0 := by omega
      subst this
      exact ⟨hF, rfl⟩
    · obtain ⟨d, rfl⟩ : ∃ d, deep = d + 1 := ⟨deep - 1, by omega⟩
      have ed : (((d + 1 : Nat) : Int) - 1) = (d : Int) := by omega
      have hm0 : 0 ≤ row / 5 % 3 := by omega
      have hr : ∀ e, r1F [.val (.int (row / 5 % 3))] e = some (rngD 0 (row / 5 % 3).toNat, e) := fun e => r1_int (smr hm0 (by omega))
      obtain ⟨r', ts, hl, hp, hf⟩ := draw_loop (tg := iNm 6) (s := b1__law_term (it__law_term n) F__law_symbol) (E := fun r (ts : List T) => [.val (.int r), .val (.int ((d + 1 : Nat) : Int)), .val (.int (row % 5)), .val (.int (row / 5 % 3)), .val (sym k a b), .own false (.list (encs ts)), .no, .no]) (P := Small d) (fun r ts j hj => by
        obtain ⟨t, r', ht, hP⟩ := ih d r (by omega)
        refine ⟨t, r', hP, ?_⟩
        have hz : (encs ts).length < 100000 := by rw [encs_len]; omega
        simp only [b1__law_term, iSeq_ev, sq_next, sq_ret, sq_brk, sq_cont, iNext_ev, iAsg_ev, as_val, as_new_t, as_new_f, setV_ev, set_no, set_val, set_own, iVar_ev, va_val, va_own, look_ev, lo_own, look_val, look_new, vis_val, vis_new, pub_val, pub_new, pub_own, opd_ap, iCon_ap, iBin_ap, iUn_ap, argN_ap, argC_ap, looks_nil, looks_cons, viss_nil, viss_cons, iCB_ap, iTup_ap, iLst_ap, isB_ap, isI_ap, iTst_ap, iTru_ap, iNotT_ap, iAndT_ap, iOrT_ap, iAnd_ap, iOr_ap, iNot_ap, iIf_ap, iSl_ap, iNoP_ap, iPart_ap, iIsi_ap, iIfS_ev, iRet_ev, ret_val', ret_new', ret_own', ro_own, iRetN_ev, iDrop_ev, iBrk_ev, iCont_ev, iBef_ev, iAft_ev, wfl_next, wfl_cont, wfl_brk, wfl_ret, wipe_nil, wipe_cons, wp_no, wp_val, wp_own, iNm_ev, iGT_tup, iGT_list, iGN_ev, iGC_ev, iAsgT_ev, iCall_ev, sls_nil, sls_val, sls_own, dup_nil, dup_val, dup_own, has_nil, has_val, has_own, now_val, now_new, back_ev, bg_nil, bg_cons, bs_no, bs_val, bs_own, bsf_some, bsf_none, b1_nil, b1_val, b1_own, iApp_ev, ap1_list, apF_list, iExU_ev, exF_list, exV_new, exV_tup, iPop_ev, po_snoc, iStL_ev, iFrz_ev, fz_own, fz_val, iRev_ev, gRev_list, gRev_tup, iSeqI_ev, iRevI_ev, iEnumU_ev, iR1_ev, turn_ev, at0, at1, at2, ix0, ix1, ix2, gAdd_int, gAdd_str, gAdd_tup, gSub_int, gMul_int, gMulR_int, gMulL_int, gDiv_int, gMod_int, gPow_int, gNeg_int, gLt_int, gLe_int, gGt_int, gGe_int, gEq_int, gNe_int, gEq_str, gNe_str, gEq_bool, gNe_bool, gIs_ap, gIsN_ap, isNone_none, isNone_int, isNone_tup, isNone_str, gIx_list, gIx_tup, gSl_tup, gSl_list, c1_ap, gLen_list, gLen_tup, gInt_int, gList_list, gList_tup, gTuple_list, gTuple_tup, truD_none, truD_bool, truD_int, truD_list, truD_tup, isi_int_int, isi_int_tup, isi_bool_bool, isi_tup_tup, isi_list_list, isi_bool_int, Option.bind_some, Option.map_some, List.getElem?_cons_zero, List.getElem?_cons_succ, List.set_cons_zero, List.set_cons_succ, List.length_cons, List.length_nil, if_true, reduceIte, decide_true, decide_false, Bool.true_and, Bool.and_true, Bool.not_true, Bool.not_false, Bool.false_eq_true, Bool.not_eq_true, decide_eq_true_eq, Nat.reduceAdd, Nat.reduceLeDiff, Nat.reduceEqDiff, Nat.reduceSub, Nat.reduceMul, Int.reduceLT, Int.reduceLE, Int.reduceEq, Int.reduceAdd, Int.reduceSub, Int.reduceMul, Int.reduceNeg, Int.reduceToNat, Int.reducePow, and_self, eq_self, and_true, true_and, Nat.reduceBEq, ncast, DL.sm, List.length_map, iDGet2_ev, iDGet_ev, iDIn_ev, keyD_int, keyD_str, iDNew_ev, dpF_own, dp1_own, iDPut_ev, ds1_own, dsF_own, iDSet_ev, lzF_tup, iLZip_ev, iDc_ev, iLc_ev, dA_val, dA_own, iPairs_ev, not_false_eq_true, Nat.reduceLT, iCopyD_ev, lcOF_own, iLcO_ev, alC_list, alC_dict, in_ints, notin_ints, gAdd_list, augF_int, iAug_ev, ne_eq, decide_not, ed, ht, hz, encs_app]
        rfl) (row / 5 % 3).toNat (by omega) (row / 5 / 3 / 5)
      have hf' : floop (iNm 6) (b1__law_term (it__law_term n) F__law_symbol) (rngD 0 (row / 5 % 3).toNat) [.val (.int (row / 5 / 3 / 5)), .val (.int ((d + 1 : Nat) : Int)), .val (.int (row % 5)), .val (.int (row / 5 % 3)), .val (sym k a b), .own false (.list []), .no, .no] = _ := hf
      conv at e => rhs; simp only [m__law_term, iSeq_ev, sq_next, sq_ret, sq_brk, sq_cont, iNext_ev, iAsg_ev, as_val, as_new_t, as_new_f, setV_ev, set_no, set_val, set_own, iVar_ev, va_val, va_own, look_ev, lo_own, look_val, look_new, vis_val, vis_new, pub_val, pub_new, pub_own, opd_ap, iCon_ap, iBin_ap, iUn_ap, argN_ap, argC_ap, looks_nil, looks_cons, viss_nil, viss_cons, iCB_ap, iTup_ap, iLst_ap, isB_ap, isI_ap, iTst_ap, iTru_ap, iNotT_ap, iAndT_ap, iOrT_ap, iAnd_ap, iOr_ap, iNot_ap, iIf_ap, iSl_ap, iNoP_ap, iPart_ap, iIsi_ap, iIfS_ev, iRet_ev, ret_val', ret_new', ret_own', ro_own, iRetN_ev, iDrop_ev, iBrk_ev, iCont_ev, iBef_ev, iAft_ev, wfl_next, wfl_cont, wfl_brk, wfl_ret, wipe_nil, wipe_cons, wp_no, wp_val, wp_own, iNm_ev, iGT_tup, iGT_list, iGN_ev, iGC_ev, iAsgT_ev, iCall_ev, sls_nil, sls_val, sls_own, dup_nil, dup_val, dup_own, has_nil, has_val, has_own, now_val, now_new, back_ev, bg_nil, bg_cons, bs_no, bs_val, bs_own, bsf_some, bsf_none, b1_nil, b1_val, b1_own, iApp_ev, ap1_list, apF_list, iExU_ev, exF_list, exV_new, exV_tup, iPop_ev, po_snoc, iStL_ev, iFrz_ev, fz_own, fz_val, iRev_ev, gRev_list, gRev_tup, iSeqI_ev, iRevI_ev, iEnumU_ev, iR1_ev, turn_ev, at0, at1, at2, ix0, ix1, ix2, gAdd_int, gAdd_str, gAdd_tup, gSub_int, gMul_int, gMulR_int, gMulL_int, gDiv_int, gMod_int, gPow_int, gNeg_int, gLt_int, gLe_int, gGt_int, gGe_int, gEq_int, gNe_int, gEq_str, gNe_str, gEq_bool, gNe_bool, gIs_ap, gIsN_ap, isNone_none, isNone_int, isNone_tup, isNone_str, gIx_list, gIx_tup, gSl_tup, gSl_list, c1_ap, gLen_list, gLen_tup, gInt_int, gList_list, gList_tup, gTuple_list, gTuple_tup, truD_none, truD_bool, truD_int, truD_list, truD_tup, isi_int_int, isi_int_tup, isi_bool_bool, isi_tup_tup, isi_list_list, isi_bool_int, Option.bind_some, Option.map_some, List.getElem?_cons_zero, List.getElem?_cons_succ, List.set_cons_zero, List.set_cons_succ, List.length_cons, List.length_nil, if_true, reduceIte, decide_true, decide_false, Bool.true_and, Bool.and_true, Bool.not_true, Bool.not_false, Bool.false_eq_true, Bool.not_eq_true, decide_eq_true_eq, Nat.reduceAdd, Nat.reduceLeDiff, Nat.reduceEqDiff, Nat.reduceSub, Nat.reduceMul, Int.reduceLT, Int.reduceLE, Int.reduceEq, Int.reduceAdd, Int.reduceSub, Int.reduceMul, Int.reduceNeg, Int.reduceToNat, Int.reducePow, and_self, eq_self, and_true, true_and, Nat.reduceBEq, ncast, DL.sm, List.length_map, iDGet2_ev, iDGet_ev, iDIn_ev, keyD_int, keyD_str, iDNew_ev, dpF_own, dp1_own, iDPut_ev, ds1_own, dsF_own, iDSet_ev, lzF_tup, iLZip_ev, iDc_ev, iLc_ev, dA_val, dA_own, iPairs_ev, not_false_eq_true, Nat.reduceLT, iCopyD_ev, lcOF_own, iLcO_ev, alC_list, alC_dict, in_ints, notin_ints, gAdd_list, augF_int, iAug_ev, ne_eq, decide_not, hk, h0, hs, iFor_ev, hr, hf']
      exact ⟨.c k a b ts, _, run_ret (n := 2) (N := 8) (sls := [.val (.int row), .val (.int ((d + 1 : Nat) : Int))]) e rfl, hF, by omega, hp⟩
def atomsD : List D := [sym 1 0 0, sym 1 1 0, sym 4 0 0, sym 1 2 0, sym 5 2 0, sym 0 0 0]
theorem atoms_at (n : Int) : ∃ k a b, L2.atI [sym 1 0 0, sym 1 1 0, sym 4 0 0, sym 1 2 0, sym 5 2 0, sym 0 0 0] (n % 6) = some (sym k a b) ∧ isP k a b := by
  have h : n % 6 = 0 ∨ n % 6 = 1 ∨ n % 6 = 2 ∨ n % 6 = 3 ∨ n % 6 = 4 ∨ n % 6 = 5 := by omega
  rcases h with h | h | h | h | h | h <;> rw [h]
  · exact ⟨1, 0, 0, rfl, by simp [isP]⟩
  · exact ⟨1, 1, 0, rfl, by simp [isP]⟩
  · exact ⟨4, 0, 0, rfl, by simp [isP]⟩
  · exact ⟨1, 2, 0, rfl, by simp [isP]⟩
  · exact ⟨5, 2, 0, rfl, by simp [isP]⟩
  · exact ⟨0, 0, 0, rfl, by simp [isP]⟩
theorem atom_ex (deep : Nat) (row : Int) (h : deep < 12) : ∃ t row', F__law_atom [.val (.int row), .val (.int (deep : Int))] = some (.val (.tuple [enc t, .int row']), [.val (.int row), .val (.int (deep : Int))]) ∧ Atom deep t := by
  obtain ⟨k, a, b, hs, hP⟩ := atoms_at row
  simp only [sym] at hs
  have hm0 : 0 ≤ row / 6 % 3 := by omega
  have hr : ∀ e, r1F [.val (.int (row / 6 % 3))] e = some (rngD 0 (row / 6 % 3).toNat, e) := fun e => r1_int (smr hm0 (by omega))
  obtain ⟨r', ts, hl, hp, hf⟩ := draw_loop (tg := iNm 6) (s := b1__law_atom F__law_term) (E := fun r (ts : List T) => [.val (.int r), .val (.int (deep : Int)), .val (.list atomsD), .val (sym k a b), .val (.int (row / 6 % 3)), .own false (.list (encs ts)), .no, .no]) (P := Small deep) (fun r ts j hj => by
    obtain ⟨t, r', ht, hP⟩ := term_ex 12 deep r (by omega)
    refine ⟨t, r', hP, ?_⟩
    have hz : (encs ts).length < 100000 := by rw [encs_len]; omega
    have ht' : F__law_term [.val (.int r), .val (.int (deep : Int))] = _ := ht
    simp only [b1__law_atom, iSeq_ev, sq_next, sq_ret, sq_brk, sq_cont, iNext_ev, iAsg_ev, as_val, as_new_t, as_new_f, setV_ev, set_no, set_val, set_own, iVar_ev, va_val, va_own, look_ev, lo_own, look_val, look_new, vis_val, vis_new, pub_val, pub_new, pub_own, opd_ap, iCon_ap, iBin_ap, iUn_ap, argN_ap, argC_ap, looks_nil, looks_cons, viss_nil, viss_cons, iCB_ap, iTup_ap, iLst_ap, isB_ap, isI_ap, iTst_ap, iTru_ap, iNotT_ap, iAndT_ap, iOrT_ap, iAnd_ap, iOr_ap, iNot_ap, iIf_ap, iSl_ap, iNoP_ap, iPart_ap, iIsi_ap, iIfS_ev, iRet_ev, ret_val', ret_new', ret_own', ro_own, iRetN_ev, iDrop_ev, iBrk_ev, iCont_ev, iBef_ev, iAft_ev, wfl_next, wfl_cont, wfl_brk, wfl_ret, wipe_nil, wipe_cons, wp_no, wp_val, wp_own, iNm_ev, iGT_tup, iGT_list, iGN_ev, iGC_ev, iAsgT_ev, iCall_ev, sls_nil, sls_val, sls_own, dup_nil, dup_val, dup_own, has_nil, has_val, has_own, now_val, now_new, back_ev, bg_nil, bg_cons, bs_no, bs_val, bs_own, bsf_some, bsf_none, b1_nil, b1_val, b1_own, iApp_ev, ap1_list, apF_list, iExU_ev, exF_list, exV_new, exV_tup, iPop_ev, po_snoc, iStL_ev, iFrz_ev, fz_own, fz_val, iRev_ev, gRev_list, gRev_tup, iSeqI_ev, iRevI_ev, iEnumU_ev, iR1_ev, turn_ev, at0, at1, at2, ix0, ix1, ix2, gAdd_int, gAdd_str, gAdd_tup, gSub_int, gMul_int, gMulR_int, gMulL_int, gDiv_int, gMod_int, gPow_int, gNeg_int, gLt_int, gLe_int, gGt_int, gGe_int, gEq_int, gNe_int, gEq_str, gNe_str, gEq_bool, gNe_bool, gIs_ap, gIsN_ap, isNone_none, isNone_int, isNone_tup, isNone_str, gIx_list, gIx_tup, gSl_tup, gSl_list, c1_ap, gLen_list, gLen_tup, gInt_int, gList_list, gList_tup, gTuple_list, gTuple_tup, truD_none, truD_bool, truD_int, truD_list, truD_tup, isi_int_int, isi_int_tup, isi_bool_bool, isi_tup_tup, isi_list_list, isi_bool_int, Option.bind_some, Option.map_some, List.getElem?_cons_zero, List.getElem?_cons_succ, List.set_cons_zero, List.set_cons_succ, List.length_cons, List.length_nil, if_true, reduceIte, decide_true, decide_false, Bool.true_and, Bool.and_true, Bool.not_true, Bool.not_false, Bool.false_eq_true, Bool.not_eq_true, decide_eq_true_eq, Nat.reduceAdd, Nat.reduceLeDiff, Nat.reduceEqDiff, Nat.reduceSub, Nat.reduceMul, Int.reduceLT, Int.reduceLE, Int.reduceEq, Int.reduceAdd, Int.reduceSub, Int.reduceMul, Int.reduceNeg, Int.reduceToNat, Int.reducePow, and_self, eq_self, and_true, true_and, Nat.reduceBEq, ncast, DL.sm, List.length_map, iDGet2_ev, iDGet_ev, iDIn_ev, keyD_int, keyD_str, iDNew_ev, dpF_own, dp1_own, iDPut_ev, ds1_own, dsF_own, iDSet_ev, lzF_tup, iLZip_ev, iDc_ev, iLc_ev, dA_val, dA_own, iPairs_ev, not_false_eq_true, Nat.reduceLT, iCopyD_ev, lcOF_own, iLcO_ev, alC_list, alC_dict, in_ints, notin_ints, gAdd_list, augF_int, iAug_ev, ne_eq, decide_not, ht', hz, encs_app]
    rfl) (row / 6 % 3).toNat (by omega) (row / 6 / 3)
  have hf' : floop (iNm 6) (b1__law_atom F__law_term) (rngD 0 (row / 6 % 3).toNat) [.val (.int (row / 6 / 3)), .val (.int (deep : Int)), .val (.list [.tuple [.int 1, .int 0, .int 0], .tuple [.int 1, .int 1, .int 0], .tuple [.int 4, .int 0, .int 0], .tuple [.int 1, .int 2, .int 0], .tuple [.int 5, .int 2, .int 0], .tuple [.int 0, .int 0, .int 0]]), .val (.tuple [.int k, .int a, .int b]), .val (.int (row / 6 % 3)), .own false (.list []), .no, .no] = _ := hf
  have e := @rfl _ (m__law_atom F__law_term [.val (.int row), .val (.int (deep : Int)), .no, .no, .no, .no, .no, .no])
  conv at e => rhs; simp only [m__law_atom, iSeq_ev, sq_next, sq_ret, sq_brk, sq_cont, iNext_ev, iAsg_ev, as_val, as_new_t, as_new_f, setV_ev, set_no, set_val, set_own, iVar_ev, va_val, va_own, look_ev, lo_own, look_val, look_new, vis_val, vis_new, pub_val, pub_new, pub_own, opd_ap, iCon_ap, iBin_ap, iUn_ap, argN_ap, argC_ap, looks_nil, looks_cons, viss_nil, viss_cons, iCB_ap, iTup_ap, iLst_ap, isB_ap, isI_ap, iTst_ap, iTru_ap, iNotT_ap, iAndT_ap, iOrT_ap, iAnd_ap, iOr_ap, iNot_ap, iIf_ap, iSl_ap, iNoP_ap, iPart_ap, iIsi_ap, iIfS_ev, iRet_ev, ret_val', ret_new', ret_own', ro_own, iRetN_ev, iDrop_ev, iBrk_ev, iCont_ev, iBef_ev, iAft_ev, wfl_next, wfl_cont, wfl_brk, wfl_ret, wipe_nil, wipe_cons, wp_no, wp_val, wp_own, iNm_ev, iGT_tup, iGT_list, iGN_ev, iGC_ev, iAsgT_ev, iCall_ev, sls_nil, sls_val, sls_own, dup_nil, dup_val, dup_own, has_nil, has_val, has_own, now_val, now_new, back_ev, bg_nil, bg_cons, bs_no, bs_val, bs_own, bsf_some, bsf_none, b1_nil, b1_val, b1_own, iApp_ev, ap1_list, apF_list, iExU_ev, exF_list, exV_new, exV_tup, iPop_ev, po_snoc, iStL_ev, iFrz_ev, fz_own, fz_val, iRev_ev, gRev_list, gRev_tup, iSeqI_ev, iRevI_ev, iEnumU_ev, iR1_ev, turn_ev, at0, at1, at2, ix0, ix1, ix2, gAdd_int, gAdd_str, gAdd_tup, gSub_int, gMul_int, gMulR_int, gMulL_int, gDiv_int, gMod_int, gPow_int, gNeg_int, gLt_int, gLe_int, gGt_int, gGe_int, gEq_int, gNe_int, gEq_str, gNe_str, gEq_bool, gNe_bool, gIs_ap, gIsN_ap, isNone_none, isNone_int, isNone_tup, isNone_str, gIx_list, gIx_tup, gSl_tup, gSl_list, c1_ap, gLen_list, gLen_tup, gInt_int, gList_list, gList_tup, gTuple_list, gTuple_tup, truD_none, truD_bool, truD_int, truD_list, truD_tup, isi_int_int, isi_int_tup, isi_bool_bool, isi_tup_tup, isi_list_list, isi_bool_int, Option.bind_some, Option.map_some, List.getElem?_cons_zero, List.getElem?_cons_succ, List.set_cons_zero, List.set_cons_succ, List.length_cons, List.length_nil, if_true, reduceIte, decide_true, decide_false, Bool.true_and, Bool.and_true, Bool.not_true, Bool.not_false, Bool.false_eq_true, Bool.not_eq_true, decide_eq_true_eq, Nat.reduceAdd, Nat.reduceLeDiff, Nat.reduceEqDiff, Nat.reduceSub, Nat.reduceMul, Int.reduceLT, Int.reduceLE, Int.reduceEq, Int.reduceAdd, Int.reduceSub, Int.reduceMul, Int.reduceNeg, Int.reduceToNat, Int.reducePow, and_self, eq_self, and_true, true_and, Nat.reduceBEq, ncast, DL.sm, List.length_map, iDGet2_ev, iDGet_ev, iDIn_ev, keyD_int, keyD_str, iDNew_ev, dpF_own, dp1_own, iDPut_ev, ds1_own, dsF_own, iDSet_ev, lzF_tup, iLZip_ev, iDc_ev, iLc_ev, dA_val, dA_own, iPairs_ev, not_false_eq_true, Nat.reduceLT, iCopyD_ev, lcOF_own, iLcO_ev, alC_list, alC_dict, in_ints, notin_ints, gAdd_list, augF_int, iAug_ev, ne_eq, decide_not, hs, iFor_ev, hr, hf']
  exact ⟨.c k a b ts, _, run_ret (n := 2) (N := 8) (sls := [.val (.int row), .val (.int (deep : Int))]) e rfl, hP, by omega, hp⟩
/-- a drawn literal -/
def LitOk (deep : Nat) (l : Lit) : Prop := (Atom deep l.2.1 ∧ l.2.2 = .c 0 0 0 []) ∨ (Small deep l.2.1 ∧ Small deep l.2.2)
theorem truth_bd {m n : Nat} : Bd m (n + 1) (.c 0 0 0 []) := ⟨by simp, fun t h => by cases h⟩
theorem LitOk.bd {deep : Nat} {l : Lit} (h : LitOk deep l) : LBd 2 (deep + 2) l := by
  rcases h with ⟨h1, h2⟩ | ⟨h1, h2⟩
  · exact ⟨h1.bd, by rw [h2]; exact truth_bd⟩
  · exact ⟨h1.bd.mono (Nat.le_refl _) (by omega), h2.bd.mono (Nat.le_refl _) (by omega)⟩
theorem literal_ex (deep : Nat) (row : Int) (h : deep < 12) : ∃ l r, F__law_literal [.val (.int row), .val (.int (deep : Int))] = some (.val (.tuple [encL l, .int r]), [.val (.int row), .val (.int (deep : Int))]) ∧ LitOk deep l := by
  have e := @rfl _ (m__law_literal F__law_term F__law_atom [.val (.int row), .val (.int (deep : Int)), .no, .no, .no, .no, .no])
  by_cases hk : row / 2 % 3 = 0
  · obtain ⟨t, r, ht, ok⟩ := atom_ex deep (row / 6) h
    conv at e => rhs; simp only [m__law_literal, iSeq_ev, sq_next, sq_ret, sq_brk, sq_cont, iNext_ev, iAsg_ev, as_val, as_new_t, as_new_f, setV_ev, set_no, set_val, set_own, iVar_ev, va_val, va_own, look_ev, lo_own, look_val, look_new, vis_val, vis_new, pub_val, pub_new, pub_own, opd_ap, iCon_ap, iBin_ap, iUn_ap, argN_ap, argC_ap, looks_nil, looks_cons, viss_nil, viss_cons, iCB_ap, iTup_ap, iLst_ap, isB_ap, isI_ap, iTst_ap, iTru_ap, iNotT_ap, iAndT_ap, iOrT_ap, iAnd_ap, iOr_ap, iNot_ap, iIf_ap, iSl_ap, iNoP_ap, iPart_ap, iIsi_ap, iIfS_ev, iRet_ev, ret_val', ret_new', ret_own', ro_own, iRetN_ev, iDrop_ev, iBrk_ev, iCont_ev, iBef_ev, iAft_ev, wfl_next, wfl_cont, wfl_brk, wfl_ret, wipe_nil, wipe_cons, wp_no, wp_val, wp_own, iNm_ev, iGT_tup, iGT_list, iGN_ev, iGC_ev, iAsgT_ev, iCall_ev, sls_nil, sls_val, sls_own, dup_nil, dup_val, dup_own, has_nil, has_val, has_own, now_val, now_new, back_ev, bg_nil, bg_cons, bs_no, bs_val, bs_own, bsf_some, bsf_none, b1_nil, b1_val, b1_own, iApp_ev, ap1_list, apF_list, iExU_ev, exF_list, exV_new, exV_tup, iPop_ev, po_snoc, iStL_ev, iFrz_ev, fz_own, fz_val, iRev_ev, gRev_list, gRev_tup, iSeqI_ev, iRevI_ev, iEnumU_ev, iR1_ev, turn_ev, at0, at1, at2, ix0, ix1, ix2, gAdd_int, gAdd_str, gAdd_tup, gSub_int, gMul_int, gMulR_int, gMulL_int, gDiv_int, gMod_int, gPow_int, gNeg_int, gLt_int, gLe_int, gGt_int, gGe_int, gEq_int, gNe_int, gEq_str, gNe_str, gEq_bool, gNe_bool, gIs_ap, gIsN_ap, isNone_none, isNone_int, isNone_tup, isNone_str, gIx_list, gIx_tup, gSl_tup, gSl_list, c1_ap, gLen_list, gLen_tup, gInt_int, gList_list, gList_tup, gTuple_list, gTuple_tup, truD_none, truD_bool, truD_int, truD_list, truD_tup, isi_int_int, isi_int_tup, isi_bool_bool, isi_tup_tup, isi_list_list, isi_bool_int, Option.bind_some, Option.map_some, List.getElem?_cons_zero, List.getElem?_cons_succ, List.set_cons_zero, List.set_cons_succ, List.length_cons, List.length_nil, if_true, reduceIte, decide_true, decide_false, Bool.true_and, Bool.and_true, Bool.not_true, Bool.not_false, Bool.false_eq_true, Bool.not_eq_true, decide_eq_true_eq, Nat.reduceAdd, Nat.reduceLeDiff, Nat.reduceEqDiff, Nat.reduceSub, Nat.reduceMul, Int.reduceLT, Int.reduceLE, Int.reduceEq, Int.reduceAdd, Int.reduceSub, Int.reduceMul, Int.reduceNeg, Int.reduceToNat, Int.reducePow, and_self, eq_self, and_true, true_and, Nat.reduceBEq, ncast, DL.sm, List.length_map, iDGet2_ev, iDGet_ev, iDIn_ev, keyD_int, keyD_str, iDNew_ev, dpF_own, dp1_own, iDPut_ev, ds1_own, dsF_own, iDSet_ev, lzF_tup, iLZip_ev, iDc_ev, iLc_ev, dA_val, dA_own, iPairs_ev, not_false_eq_true, Nat.reduceLT, iCopyD_ev, lcOF_own, iLcO_ev, alC_list, alC_dict, in_ints, notin_ints, gAdd_list, augF_int, iAug_ev, ne_eq, decide_not, hk, ht]
    exact ⟨(decide (row % 2 = 0), t, .c 0 0 0 []), r, run_ret (n := 2) (N := 7) (sls := [.val (.int row), .val (.int (deep : Int))]) e rfl, .inl ⟨ok, rfl⟩⟩
  · obtain ⟨t, r, ht, ok⟩ := term_ex 12 deep (row / 6) h
    obtain ⟨t2, r2, ht2, ok2⟩ := term_ex 12 deep r h
    have ht' : F__law_term [.val (.int (row / 6)), .val (.int (deep : Int))] = _ := ht
    have ht2' : F__law_term [.val (.int r), .val (.int (deep : Int))] = _ := ht2
    conv at e => rhs; simp only [m__law_literal, iSeq_ev, sq_next, sq_ret, sq_brk, sq_cont, iNext_ev, iAsg_ev, as_val, as_new_t, as_new_f, setV_ev, set_no, set_val, set_own, iVar_ev, va_val, va_own, look_ev, lo_own, look_val, look_new, vis_val, vis_new, pub_val, pub_new, pub_own, opd_ap, iCon_ap, iBin_ap, iUn_ap, argN_ap, argC_ap, looks_nil, looks_cons, viss_nil, viss_cons, iCB_ap, iTup_ap, iLst_ap, isB_ap, isI_ap, iTst_ap, iTru_ap, iNotT_ap, iAndT_ap, iOrT_ap, iAnd_ap, iOr_ap, iNot_ap, iIf_ap, iSl_ap, iNoP_ap, iPart_ap, iIsi_ap, iIfS_ev, iRet_ev, ret_val', ret_new', ret_own', ro_own, iRetN_ev, iDrop_ev, iBrk_ev, iCont_ev, iBef_ev, iAft_ev, wfl_next, wfl_cont, wfl_brk, wfl_ret, wipe_nil, wipe_cons, wp_no, wp_val, wp_own, iNm_ev, iGT_tup, iGT_list, iGN_ev, iGC_ev, iAsgT_ev, iCall_ev, sls_nil, sls_val, sls_own, dup_nil, dup_val, dup_own, has_nil, has_val, has_own, now_val, now_new, back_ev, bg_nil, bg_cons, bs_no, bs_val, bs_own, bsf_some, bsf_none, b1_nil, b1_val, b1_own, iApp_ev, ap1_list, apF_list, iExU_ev, exF_list, exV_new, exV_tup, iPop_ev, po_snoc, iStL_ev, iFrz_ev, fz_own, fz_val, iRev_ev, gRev_list, gRev_tup, iSeqI_ev, iRevI_ev, iEnumU_ev, iR1_ev, turn_ev, at0, at1, at2, ix0, ix1, ix2, gAdd_int, gAdd_str, gAdd_tup, gSub_int, gMul_int, gMulR_int, gMulL_int, gDiv_int, gMod_int, gPow_int, gNeg_int, gLt_int, gLe_int, gGt_int, gGe_int, gEq_int, gNe_int, gEq_str, gNe_str, gEq_bool, gNe_bool, gIs_ap, gIsN_ap, isNone_none, isNone_int, isNone_tup, isNone_str, gIx_list, gIx_tup, gSl_tup, gSl_list, c1_ap, gLen_list, gLen_tup, gInt_int, gList_list, gList_tup, gTuple_list, gTuple_tup, truD_none, truD_bool, truD_int, truD_list, truD_tup, isi_int_int, isi_int_tup, isi_bool_bool, isi_tup_tup, isi_list_list, isi_bool_int, Option.bind_some, Option.map_some, List.getElem?_cons_zero, List.getElem?_cons_succ, List.set_cons_zero, List.set_cons_succ, List.length_cons, List.length_nil, if_true, reduceIte, decide_true, decide_false, Bool.true_and, Bool.and_true, Bool.not_true, Bool.not_false, Bool.false_eq_true, Bool.not_eq_true, decide_eq_true_eq, Nat.reduceAdd, Nat.reduceLeDiff, Nat.reduceEqDiff, Nat.reduceSub, Nat.reduceMul, Int.reduceLT, Int.reduceLE, Int.reduceEq, Int.reduceAdd, Int.reduceSub, Int.reduceMul, Int.reduceNeg, Int.reduceToNat, Int.reducePow, and_self, eq_self, and_true, true_and, Nat.reduceBEq, ncast, DL.sm, List.length_map, iDGet2_ev, iDGet_ev, iDIn_ev, keyD_int, keyD_str, iDNew_ev, dpF_own, dp1_own, iDPut_ev, ds1_own, dsF_own, iDSet_ev, lzF_tup, iLZip_ev, iDc_ev, iLc_ev, dA_val, dA_own, iPairs_ev, not_false_eq_true, Nat.reduceLT, iCopyD_ev, lcOF_own, iLcO_ev, alC_list, alC_dict, in_ints, notin_ints, gAdd_list, augF_int, iAug_ev, ne_eq, decide_not, hk, ht', ht2']
    exact ⟨(decide (row % 2 = 0), t, t2), r2, run_ret (n := 2) (N := 7) (sls := [.val (.int row), .val (.int (deep : Int))]) e rfl, .inr ⟨ok, ok2⟩⟩
abbrev CE (most deep many r : Int) (ls : List Lit) : Nv := [.val (.int r), .val (.int most), .val (.int deep), .val (.int many), .own false (.list (ls.map encL)), .no, .no]
theorem clause_turn {deep : Nat} (hd : deep < 12) {most many r : Int} {ls : List Lit} (hl : ls.length < 1000) (k : Nat) : ∃ r' ls', (∀ l ∈ ls', l ∈ ls ∨ LitOk deep l) ∧ ls'.length ≤ ls.length + 2 ∧ turn (iNm 5) (b1__law_clause F__law_literal) (CE most deep many r ls) (.int (0 + (k : Int))) = some (.next (CE most deep many r' ls')) := by
  obtain ⟨l, r', hlit, ok⟩ := literal_ex deep r hd
  have hz : ls.length < 100000 := by omega
  have hz2 : ls.length + 1 < 100000 := by omega
  have e := @rfl _ (turn (iNm 5) (b1__law_clause F__law_literal) (CE most deep many r ls) (.int (0 + (k : Int))))
  by_cases hk : r' / 3 % 4 = 1
  · obtain ⟨x, hx, hat⟩ := at_ex (f := encL) (xs := ls ++ [l]) (i := r' % ((ls.length : Int) + 1)) (Int.emod_nonneg _ (by omega)) (by rw [List.length_append, List.length_singleton]; exact Int.emod_lt_of_pos _ (by omega))
    rw [List.map_append, List.map_cons, List.map_nil] at hat
    have hp : (0 : Int) < (ls.length : Int) + 1 := by omega
    conv at e => rhs; simp only [b1__law_clause, iSeq_ev, sq_next, sq_ret, sq_brk, sq_cont, iNext_ev, iAsg_ev, as_val, as_new_t, as_new_f, setV_ev, set_no, set_val, set_own, iVar_ev, va_val, va_own, look_ev, lo_own, look_val, look_new, vis_val, vis_new, pub_val, pub_new, pub_own, opd_ap, iCon_ap, iBin_ap, iUn_ap, argN_ap, argC_ap, looks_nil, looks_cons, viss_nil, viss_cons, iCB_ap, iTup_ap, iLst_ap, isB_ap, isI_ap, iTst_ap, iTru_ap, iNotT_ap, iAndT_ap, iOrT_ap, iAnd_ap, iOr_ap, iNot_ap, iIf_ap, iSl_ap, iNoP_ap, iPart_ap, iIsi_ap, iIfS_ev, iRet_ev, ret_val', ret_new', ret_own', ro_own, iRetN_ev, iDrop_ev, iBrk_ev, iCont_ev, iBef_ev, iAft_ev, wfl_next, wfl_cont, wfl_brk, wfl_ret, wipe_nil, wipe_cons, wp_no, wp_val, wp_own, iNm_ev, iGT_tup, iGT_list, iGN_ev, iGC_ev, iAsgT_ev, iCall_ev, sls_nil, sls_val, sls_own, dup_nil, dup_val, dup_own, has_nil, has_val, has_own, now_val, now_new, back_ev, bg_nil, bg_cons, bs_no, bs_val, bs_own, bsf_some, bsf_none, b1_nil, b1_val, b1_own, iApp_ev, ap1_list, apF_list, iExU_ev, exF_list, exV_new, exV_tup, iPop_ev, po_snoc, iStL_ev, iFrz_ev, fz_own, fz_val, iRev_ev, gRev_list, gRev_tup, iSeqI_ev, iRevI_ev, iEnumU_ev, iR1_ev, turn_ev, at0, at1, at2, ix0, ix1, ix2, gAdd_int, gAdd_str, gAdd_tup, gSub_int, gMul_int, gMulR_int, gMulL_int, gDiv_int, gMod_int, gPow_int, gNeg_int, gLt_int, gLe_int, gGt_int, gGe_int, gEq_int, gNe_int, gEq_str, gNe_str, gEq_bool, gNe_bool, gIs_ap, gIsN_ap, isNone_none, isNone_int, isNone_tup, isNone_str, gIx_list, gIx_tup, gSl_tup, gSl_list, c1_ap, gLen_list, gLen_tup, gInt_int, gList_list, gList_tup, gTuple_list, gTuple_tup, truD_none, truD_bool, truD_int, truD_list, truD_tup, isi_int_int, isi_int_tup, isi_bool_bool, isi_tup_tup, isi_list_list, isi_bool_int, Option.bind_some, Option.map_some, List.getElem?_cons_zero, List.getElem?_cons_succ, List.set_cons_zero, List.set_cons_succ, List.length_cons, List.length_nil, if_true, reduceIte, decide_true, decide_false, Bool.true_and, Bool.and_true, Bool.not_true, Bool.not_false, Bool.false_eq_true, Bool.not_eq_true, decide_eq_true_eq, Nat.reduceAdd, Nat.reduceLeDiff, Nat.reduceEqDiff, Nat.reduceSub, Nat.reduceMul, Int.reduceLT, Int.reduceLE, Int.reduceEq, Int.reduceAdd, Int.reduceSub, Int.reduceMul, Int.reduceNeg, Int.reduceToNat, Int.reducePow, and_self, eq_self, and_true, true_and, Nat.reduceBEq, ncast, DL.sm, List.length_map, iDGet2_ev, iDGet_ev, iDIn_ev, keyD_int, keyD_str, iDNew_ev, dpF_own, dp1_own, iDPut_ev, ds1_own, dsF_own, iDSet_ev, lzF_tup, iLZip_ev, iDc_ev, iLc_ev, dA_val, dA_own, iPairs_ev, not_false_eq_true, Nat.reduceLT, iCopyD_ev, lcOF_own, iLcO_ev, alC_list, alC_dict, in_ints, notin_ints, gAdd_list, augF_int, iAug_ev, ne_eq, decide_not, hlit, hz, hk, List.length_append, Int.natCast_add, hat, hp, hz2]
    refine ⟨r', ls ++ [l] ++ [x], ?_, by simp, by rw [e]; simp [CE]⟩
    intro y hy
    simp only [List.mem_append, List.mem_singleton] at hy hx
    rcases hy with (hy | rfl) | rfl
    · exact .inl hy
    · exact .inr ok
    · rcases hx with hx | rfl
      · exact .inl hx
      · exact .inr ok
  · conv at e => rhs; simp only [b1__law_clause, iSeq_ev, sq_next, sq_ret, sq_brk, sq_cont, iNext_ev, iAsg_ev, as_val, as_new_t, as_new_f, setV_ev, set_no, set_val, set_own, iVar_ev, va_val, va_own, look_ev, lo_own, look_val, look_new, vis_val, vis_new, pub_val, pub_new, pub_own, opd_ap, iCon_ap, iBin_ap, iUn_ap, argN_ap, argC_ap, looks_nil, looks_cons, viss_nil, viss_cons, iCB_ap, iTup_ap, iLst_ap, isB_ap, isI_ap, iTst_ap, iTru_ap, iNotT_ap, iAndT_ap, iOrT_ap, iAnd_ap, iOr_ap, iNot_ap, iIf_ap, iSl_ap, iNoP_ap, iPart_ap, iIsi_ap, iIfS_ev, iRet_ev, ret_val', ret_new', ret_own', ro_own, iRetN_ev, iDrop_ev, iBrk_ev, iCont_ev, iBef_ev, iAft_ev, wfl_next, wfl_cont, wfl_brk, wfl_ret, wipe_nil, wipe_cons, wp_no, wp_val, wp_own, iNm_ev, iGT_tup, iGT_list, iGN_ev, iGC_ev, iAsgT_ev, iCall_ev, sls_nil, sls_val, sls_own, dup_nil, dup_val, dup_own, has_nil, has_val, has_own, now_val, now_new, back_ev, bg_nil, bg_cons, bs_no, bs_val, bs_own, bsf_some, bsf_none, b1_nil, b1_val, b1_own, iApp_ev, ap1_list, apF_list, iExU_ev, exF_list, exV_new, exV_tup, iPop_ev, po_snoc, iStL_ev, iFrz_ev, fz_own, fz_val, iRev_ev, gRev_list, gRev_tup, iSeqI_ev, iRevI_ev, iEnumU_ev, iR1_ev, turn_ev, at0, at1, at2, ix0, ix1, ix2, gAdd_int, gAdd_str, gAdd_tup, gSub_int, gMul_int, gMulR_int, gMulL_int, gDiv_int, gMod_int, gPow_int, gNeg_int, gLt_int, gLe_int, gGt_int, gGe_int, gEq_int, gNe_int, gEq_str, gNe_str, gEq_bool, gNe_bool, gIs_ap, gIsN_ap, isNone_none, isNone_int, isNone_tup, isNone_str, gIx_list, gIx_tup, gSl_tup, gSl_list, c1_ap, gLen_list, gLen_tup, gInt_int, gList_list, gList_tup, gTuple_list, gTuple_tup, truD_none, truD_bool, truD_int, truD_list, truD_tup, isi_int_int, isi_int_tup, isi_bool_bool, isi_tup_tup, isi_list_list, isi_bool_int, Option.bind_some, Option.map_some, List.getElem?_cons_zero, List.getElem?_cons_succ, List.set_cons_zero, List.set_cons_succ, List.length_cons, List.length_nil, if_true, reduceIte, decide_true, decide_false, Bool.true_and, Bool.and_true, Bool.not_true, Bool.not_false, Bool.false_eq_true, Bool.not_eq_true, decide_eq_true_eq, Nat.reduceAdd, Nat.reduceLeDiff, Nat.reduceEqDiff, Nat.reduceSub, Nat.reduceMul, Int.reduceLT, Int.reduceLE, Int.reduceEq, Int.reduceAdd, Int.reduceSub, Int.reduceMul, Int.reduceNeg, Int.reduceToNat, Int.reducePow, and_self, eq_self, and_true, true_and, Nat.reduceBEq, ncast, DL.sm, List.length_map, iDGet2_ev, iDGet_ev, iDIn_ev, keyD_int, keyD_str, iDNew_ev, dpF_own, dp1_own, iDPut_ev, ds1_own, dsF_own, iDSet_ev, lzF_tup, iLZip_ev, iDc_ev, iLc_ev, dA_val, dA_own, iPairs_ev, not_false_eq_true, Nat.reduceLT, iCopyD_ev, lcOF_own, iLcO_ev, alC_list, alC_dict, in_ints, notin_ints, gAdd_list, augF_int, iAug_ev, ne_eq, decide_not, hlit, hz, hk]
    refine ⟨r', ls ++ [l], ?_, by simp, by rw [e]; simp [CE]⟩
    intro y hy
    simp only [List.mem_append, List.mem_singleton] at hy
    rcases hy with hy | rfl
    · exact .inl hy
    · exact .inr ok
theorem clause_ex {deep : Nat} (hd : deep < 12) (row most : Int) (h0 : 0 ≤ most) (h1 : most < 100) : ∃ ls, F__law_clause [.val (.int row), .val (.int most), .val (.int (deep : Int))] = some (.val (clD ls), [.val (.int row), .val (.int most), .val (.int (deep : Int))]) ∧ (∀ l ∈ ls, LitOk deep l) ∧ (ls.length : Int) ≤ 2 * most := by
  have hp : 0 < most + 1 := by omega
  have hp2 : most + 1 < 18446744073709551616 := by omega
  have q0 : 0 ≤ row % (most + 1) := Int.emod_nonneg _ (by omega)
  have q1 : row % (most + 1) < most + 1 := Int.emod_lt_of_pos _ hp
  have hr : ∀ e, r1F [.val (.int (row % (most + 1)))] e = some (rngD 0 (row % (most + 1)).toNat, e) := fun e => r1_int (smr q0 (by omega))
  obtain ⟨e2, g1, r2, ls, g3, g4, g5⟩ := floop_inv (tg := iNm 5) (s := b1__law_clause F__law_literal) (dn := fun k : Nat => D.int (0 + (k : Int))) (fun ks e => ∃ r ls, ls.length + 2 * ks.length ≤ 2 * (row % (most + 1)).toNat ∧ (∀ l ∈ ls, LitOk deep l) ∧ e = CE most deep (row % (most + 1)) r ls) (fun k ks e ⟨r, ls, h1, h2, h3⟩ => by
    subst h3
    rw [List.length_cons] at h1
    obtain ⟨r', ls', hm, hl, ht⟩ := clause_turn hd (most := most) (many := row % (most + 1)) (r := r) (ls := ls) (by omega) k
    exact ⟨_, .inl ht, r', ls', by omega, fun l hl => (hm l hl).elim (h2 l) id, rfl⟩) (List.range (row % (most + 1)).toNat) (CE most deep (row % (most + 1)) (row / (most + 1)) []) ⟨_, [], by simp, (fun x hx => by cases hx), rfl⟩
  subst g5
  have g1' : floop (iNm 5) (b1__law_clause F__law_literal) (rngD 0 (row % (most + 1)).toNat) [.val (.int (row / (most + 1))), .val (.int most), .val (.int (deep : Int)), .val (.int (row % (most + 1))), .own false (.list []), .no, .no] = _ := g1
  have e := @rfl _ (m__law_clause F__law_literal [.val (.int row), .val (.int most), .val (.int (deep : Int)), .no, .no, .no, .no])
  conv at e => rhs; simp only [m__law_clause, iSeq_ev, sq_next, sq_ret, sq_brk, sq_cont, iNext_ev, iAsg_ev, as_val, as_new_t, as_new_f, setV_ev, set_no, set_val, set_own, iVar_ev, va_val, va_own, look_ev, lo_own, look_val, look_new, vis_val, vis_new, pub_val, pub_new, pub_own, opd_ap, iCon_ap, iBin_ap, iUn_ap, argN_ap, argC_ap, looks_nil, looks_cons, viss_nil, viss_cons, iCB_ap, iTup_ap, iLst_ap, isB_ap, isI_ap, iTst_ap, iTru_ap, iNotT_ap, iAndT_ap, iOrT_ap, iAnd_ap, iOr_ap, iNot_ap, iIf_ap, iSl_ap, iNoP_ap, iPart_ap, iIsi_ap, iIfS_ev, iRet_ev, ret_val', ret_new', ret_own', ro_own, iRetN_ev, iDrop_ev, iBrk_ev, iCont_ev, iBef_ev, iAft_ev, wfl_next, wfl_cont, wfl_brk, wfl_ret, wipe_nil, wipe_cons, wp_no, wp_val, wp_own, iNm_ev, iGT_tup, iGT_list, iGN_ev, iGC_ev, iAsgT_ev, iCall_ev, sls_nil, sls_val, sls_own, dup_nil, dup_val, dup_own, has_nil, has_val, has_own, now_val, now_new, back_ev, bg_nil, bg_cons, bs_no, bs_val, bs_own, bsf_some, bsf_none, b1_nil, b1_val, b1_own, iApp_ev, ap1_list, apF_list, iExU_ev, exF_list, exV_new, exV_tup, iPop_ev, po_snoc, iStL_ev, iFrz_ev, fz_own, fz_val, iRev_ev, gRev_list, gRev_tup, iSeqI_ev, iRevI_ev, iEnumU_ev, iR1_ev, turn_ev, at0, at1, at2, ix0, ix1, ix2, gAdd_int, gAdd_str, gAdd_tup, gSub_int, gMul_int, gMulR_int, gMulL_int, gDiv_int, gMod_int, gPow_int, gNeg_int, gLt_int, gLe_int, gGt_int, gGe_int, gEq_int, gNe_int, gEq_str, gNe_str, gEq_bool, gNe_bool, gIs_ap, gIsN_ap, isNone_none, isNone_int, isNone_tup, isNone_str, gIx_list, gIx_tup, gSl_tup, gSl_list, c1_ap, gLen_list, gLen_tup, gInt_int, gList_list, gList_tup, gTuple_list, gTuple_tup, truD_none, truD_bool, truD_int, truD_list, truD_tup, isi_int_int, isi_int_tup, isi_bool_bool, isi_tup_tup, isi_list_list, isi_bool_int, Option.bind_some, Option.map_some, List.getElem?_cons_zero, List.getElem?_cons_succ, List.set_cons_zero, List.set_cons_succ, List.length_cons, List.length_nil, if_true, reduceIte, decide_true, decide_false, Bool.true_and, Bool.and_true, Bool.not_true, Bool.not_false, Bool.false_eq_true, Bool.not_eq_true, decide_eq_true_eq, Nat.reduceAdd, Nat.reduceLeDiff, Nat.reduceEqDiff, Nat.reduceSub, Nat.reduceMul, Int.reduceLT, Int.reduceLE, Int.reduceEq, Int.reduceAdd, Int.reduceSub, Int.reduceMul, Int.reduceNeg, Int.reduceToNat, Int.reducePow, and_self, eq_self, and_true, true_and, Nat.reduceBEq, ncast, DL.sm, List.length_map, iDGet2_ev, iDGet_ev, iDIn_ev, keyD_int, keyD_str, iDNew_ev, dpF_own, dp1_own, iDPut_ev, ds1_own, dsF_own, iDSet_ev, lzF_tup, iLZip_ev, iDc_ev, iLc_ev, dA_val, dA_own, iPairs_ev, not_false_eq_true, Nat.reduceLT, iCopyD_ev, lcOF_own, iLcO_ev, alC_list, alC_dict, in_ints, notin_ints, gAdd_list, augF_int, iAug_ev, ne_eq, decide_not, hp, hp2, iFor_ev, hr, g1']
  refine ⟨ls, run_ret (n := 3) (N := 7) (sls := [.val (.int row), .val (.int most), .val (.int (deep : Int))]) e rfl, g4, ?_⟩
  simp only [List.length_nil] at g3
  omega
end Sh

/-! Subterms, variables, instances. -/
namespace Sh
open PySem L2 DL
open LS
mutual
def T.size : T → Nat
  | .v _ => 1
  | .c _ _ _ ts => 1 + sizes ts
def sizes : List T → Nat
  | [] => 0
  | t :: ts => t.size + sizes ts
end
mutual
def T.subs : T → List T
  | .v i => [.v i]
  | .c k a b ts => .c k a b ts :: subsL ts
def subsL : List T → List T
  | [] => []
  | t :: ts => t.subs ++ subsL ts
end
mutual
def T.occ : T → List Int
  | .v i => [i]
  | .c _ _ _ ts => occs ts
def occs : List T → List Int
  | [] => []
  | t :: ts => t.occ ++ occs ts
end
theorem sizes_app : ∀ ts us : List T, sizes (ts ++ us) = sizes ts + sizes us
  | [], us => by simp [sizes]
  | t :: ts, us => by rw [List.cons_append, sizes, sizes_app ts us, sizes]; omega
theorem subsL_app : ∀ ts us : List T, subsL (ts ++ us) = subsL ts ++ subsL us
  | [], us => by simp [subsL]
  | t :: ts, us => by rw [List.cons_append, subsL, subsL_app ts us, subsL, List.append_assoc]
theorem occs_app : ∀ ts us : List T, occs (ts ++ us) = occs ts ++ occs us
  | [], us => by simp [occs]
  | t :: ts, us => by rw [List.cons_append, occs, occs_app ts us, occs, List.append_assoc]
theorem size_pos : ∀ t : T, 0 < t.size
  | .v _ => by rw [T.size]; omega
  | .c _ _ _ _ => by rw [T.size]; omega
theorem len_sizes : ∀ ts : List T, ts.length ≤ sizes ts
  | [] => by simp [sizes]
  | t :: ts => by
    have := len_sizes ts
    have := size_pos t
    rw [sizes, List.length_cons]
    omega
mutual
theorem subs_len : ∀ t : T, t.subs.length = t.size
  | .v _ => by simp [T.subs, T.size]
  | .c k a b ts => by rw [T.subs, List.length_cons, subsL_len ts, T.size]; omega
theorem subsL_len : ∀ ts : List T, (subsL ts).length = sizes ts
  | [] => by simp [subsL, sizes]
  | t :: ts => by rw [subsL, List.length_append, subs_len t, subsL_len ts, sizes]
end
mutual
theorem size_bd {m : Nat} : ∀ (n : Nat) (t : T), Bd (m + 1) n t → t.size ≤ (m + 2) ^ n
  | n, .v i, _ => by rw [T.size]; exact Nat.one_le_pow _ _ (by omega)
  | 0, .c k a b ts, h => h.elim
  | n + 1, .c k a b ts, h => by
    rw [T.size]
    have q := sizes_bd (m := m) n ts h.2
    have l : ts.length * (m + 2) ^ n ≤ (m + 1) * (m + 2) ^ n := Nat.mul_le_mul_right _ h.1
    have p : 1 ≤ (m + 2) ^ n := Nat.one_le_pow _ _ (by omega)
    have e : (m + 2) ^ (n + 1) = (m + 1) * (m + 2) ^ n + (m + 2) ^ n := by rw [Nat.pow_succ, Nat.mul_comm, show m + 2 = (m + 1) + 1 by omega, Nat.add_mul, Nat.one_mul]
    omega
theorem sizes_bd {m : Nat} : ∀ (n : Nat) (ts : List T), (∀ t ∈ ts, Bd (m + 1) n t) → sizes ts ≤ ts.length * (m + 2) ^ n
  | n, [], _ => by simp [sizes]
  | n, t :: ts, h => by
    rw [sizes, List.length_cons, Nat.add_mul, Nat.one_mul]
    have := size_bd (m := m) n t (h t List.mem_cons_self)
    have := sizes_bd (m := m) n ts fun u hu => h u (List.mem_cons_of_mem _ hu)
    omega
end
/-! the program's subterms -/
abbrev sc : EvT := iTru (iVar 2)
theorem subs_loop {d0 : D} : ∀ (n : Nat) (st acc : List T), sizes st < n → acc.length + sizes st ≤ 100000 →
    wloop sc (b1_subterms F_is_variable) n [.val d0, .own false (.list (encs acc)), .own false (.list (encs st.reverse)), .no] = some (.next [.val d0, .own false (.list (encs (acc ++ subsL st))), .own false (.list []), .no])
  | 0, st, acc, h, _ => by omega
  | n + 1, [], acc, h, _ => by
    rw [subsL, List.append_nil]
    refine wl_false ?_ (by omega)
    simp only [sc, List.reverse_nil, encs, iSeq_ev, sq_next, sq_ret, sq_brk, sq_cont, iNext_ev, iAsg_ev, as_val, as_new_t, as_new_f, setV_ev, set_no, set_val, set_own, iVar_ev, va_val, va_own, look_ev, lo_own, look_val, look_new, vis_val, vis_new, pub_val, pub_new, pub_own, opd_ap, iCon_ap, iBin_ap, iUn_ap, argN_ap, argC_ap, looks_nil, looks_cons, viss_nil, viss_cons, iCB_ap, iTup_ap, iLst_ap, isB_ap, isI_ap, iTst_ap, iTru_ap, iNotT_ap, iAndT_ap, iOrT_ap, iAnd_ap, iOr_ap, iNot_ap, iIf_ap, iSl_ap, iNoP_ap, iPart_ap, iIsi_ap, iIfS_ev, iRet_ev, ret_val', ret_new', ret_own', ro_own, iRetN_ev, iDrop_ev, iBrk_ev, iCont_ev, iBef_ev, iAft_ev, wfl_next, wfl_cont, wfl_brk, wfl_ret, wipe_nil, wipe_cons, wp_no, wp_val, wp_own, iNm_ev, iGT_tup, iGT_list, iGN_ev, iGC_ev, iAsgT_ev, iCall_ev, sls_nil, sls_val, sls_own, dup_nil, dup_val, dup_own, has_nil, has_val, has_own, now_val, now_new, back_ev, bg_nil, bg_cons, bs_no, bs_val, bs_own, bsf_some, bsf_none, b1_nil, b1_val, b1_own, iApp_ev, ap1_list, apF_list, iExU_ev, exF_list, exV_new, exV_tup, iPop_ev, po_snoc, iStL_ev, iFrz_ev, fz_own, fz_val, iRev_ev, gRev_list, gRev_tup, iSeqI_ev, iRevI_ev, iEnumU_ev, iR1_ev, turn_ev, at0, at1, at2, ix0, ix1, ix2, gAdd_int, gAdd_str, gAdd_tup, gSub_int, gMul_int, gMulR_int, gMulL_int, gDiv_int, gMod_int, gPow_int, gNeg_int, gLt_int, gLe_int, gGt_int, gGe_int, gEq_int, gNe_int, gEq_str, gNe_str, gEq_bool, gNe_bool, gIs_ap, gIsN_ap, isNone_none, isNone_int, isNone_tup, isNone_str, gIx_list, gIx_tup, gSl_tup, gSl_list, c1_ap, gLen_list, gLen_tup, gInt_int, gList_list, gList_tup, gTuple_list, gTuple_tup, truD_none, truD_bool, truD_int, truD_list, truD_tup, isi_int_int, isi_int_tup, isi_bool_bool, isi_tup_tup, isi_list_list, isi_bool_int, Option.bind_some, Option.map_some, List.getElem?_cons_zero, List.getElem?_cons_succ, List.set_cons_zero, List.set_cons_succ, List.length_cons, List.length_nil, if_true, reduceIte, decide_true, decide_false, Bool.true_and, Bool.and_true, Bool.not_true, Bool.not_false, Bool.false_eq_true, Bool.not_eq_true, decide_eq_true_eq, Nat.reduceAdd, Nat.reduceLeDiff, Nat.reduceEqDiff, Nat.reduceSub, Nat.reduceMul, Int.reduceLT, Int.reduceLE, Int.reduceEq, Int.reduceAdd, Int.reduceSub, Int.reduceMul, Int.reduceNeg, Int.reduceToNat, Int.reducePow, and_self, eq_self, and_true, true_and, Nat.reduceBEq, ncast, DL.sm, List.length_map, iDGet2_ev, iDGet_ev, iDIn_ev, keyD_int, keyD_str, iDNew_ev, dpF_own, dp1_own, iDPut_ev, ds1_own, dsF_own, iDSet_ev, lzF_tup, iLZip_ev, iDc_ev, iLc_ev, dA_val, dA_own, iPairs_ev, not_false_eq_true, Nat.reduceLT, iCopyD_ev, lcOF_own, iLcO_ev, alC_list, alC_dict, in_ints, notin_ints, gAdd_list, augF_int, iAug_ev, ne_eq, decide_not, List.isEmpty_nil]
  | n + 1, .v i :: st, acc, h, hb => by
    rw [sizes, T.size] at h hb
    have h1 : sc [.val d0, .own false (.list (encs acc)), .own false (.list (encs (T.v i :: st).reverse)), .no] = some (true, [.val d0, .own false (.list (encs acc)), .own false (.list (encs (T.v i :: st).reverse)), .no]) := by
      have : (encs (T.v i :: st).reverse).isEmpty = false := by rw [encs_map]; simp
      simp only [sc, iSeq_ev, sq_next, sq_ret, sq_brk, sq_cont, iNext_ev, iAsg_ev, as_val, as_new_t, as_new_f, setV_ev, set_no, set_val, set_own, iVar_ev, va_val, va_own, look_ev, lo_own, look_val, look_new, vis_val, vis_new, pub_val, pub_new, pub_own, opd_ap, iCon_ap, iBin_ap, iUn_ap, argN_ap, argC_ap, looks_nil, looks_cons, viss_nil, viss_cons, iCB_ap, iTup_ap, iLst_ap, isB_ap, isI_ap, iTst_ap, iTru_ap, iNotT_ap, iAndT_ap, iOrT_ap, iAnd_ap, iOr_ap, iNot_ap, iIf_ap, iSl_ap, iNoP_ap, iPart_ap, iIsi_ap, iIfS_ev, iRet_ev, ret_val', ret_new', ret_own', ro_own, iRetN_ev, iDrop_ev, iBrk_ev, iCont_ev, iBef_ev, iAft_ev, wfl_next, wfl_cont, wfl_brk, wfl_ret, wipe_nil, wipe_cons, wp_no, wp_val, wp_own, iNm_ev, iGT_tup, iGT_list, iGN_ev, iGC_ev, iAsgT_ev, iCall_ev, sls_nil, sls_val, sls_own, dup_nil, dup_val, dup_own, has_nil, has_val, has_own, now_val, now_new, back_ev, bg_nil, bg_cons, bs_no, bs_val, bs_own, bsf_some, bsf_none, b1_nil, b1_val, b1_own, iApp_ev, ap1_list, apF_list, iExU_ev, exF_list, exV_new, exV_tup, iPop_ev, po_snoc, iStL_ev, iFrz_ev, fz_own, fz_val, iRev_ev, gRev_list, gRev_tup, iSeqI_ev, iRevI_ev, iEnumU_ev, iR1_ev, turn_ev, at0, at1, at2, ix0, ix1, ix2, gAdd_int, gAdd_str, gAdd_tup, gSub_int, gMul_int, gMulR_int, gMulL_int, gDiv_int, gMod_int, gPow_int, gNeg_int, gLt_int, gLe_int, gGt_int, gGe_int, gEq_int, gNe_int, gEq_str, gNe_str, gEq_bool, gNe_bool, gIs_ap, gIsN_ap, isNone_none, isNone_int, isNone_tup, isNone_str, gIx_list, gIx_tup, gSl_tup, gSl_list, c1_ap, gLen_list, gLen_tup, gInt_int, gList_list, gList_tup, gTuple_list, gTuple_tup, truD_none, truD_bool, truD_int, truD_list, truD_tup, isi_int_int, isi_int_tup, isi_bool_bool, isi_tup_tup, isi_list_list, isi_bool_int, Option.bind_some, Option.map_some, List.getElem?_cons_zero, List.getElem?_cons_succ, List.set_cons_zero, List.set_cons_succ, List.length_cons, List.length_nil, if_true, reduceIte, decide_true, decide_false, Bool.true_and, Bool.and_true, Bool.not_true, Bool.not_false, Bool.false_eq_true, Bool.not_eq_true, decide_eq_true_eq, Nat.reduceAdd, Nat.reduceLeDiff, Nat.reduceEqDiff, Nat.reduceSub, Nat.reduceMul, Int.reduceLT, Int.reduceLE, Int.reduceEq, Int.reduceAdd, Int.reduceSub, Int.reduceMul, Int.reduceNeg, Int.reduceToNat, Int.reducePow, and_self, eq_self, and_true, true_and, Nat.reduceBEq, ncast, DL.sm, List.length_map, iDGet2_ev, iDGet_ev, iDIn_ev, keyD_int, keyD_str, iDNew_ev, dpF_own, dp1_own, iDPut_ev, ds1_own, dsF_own, iDSet_ev, lzF_tup, iLZip_ev, iDc_ev, iLc_ev, dA_val, dA_own, iPairs_ev, not_false_eq_true, Nat.reduceLT, iCopyD_ev, lcOF_own, iLcO_ev, alC_list, alC_dict, in_ints, notin_ints, gAdd_list, augF_int, iAug_ev, ne_eq, decide_not, this]
    have hz : (encs acc).length < 100000 := by rw [encs_len]; omega
    have h2 : b1_subterms F_is_variable [.val d0, .own false (.list (encs acc)), .own false (.list (encs (T.v i :: st).reverse)), .no] = some (.next [.val d0, .own false (.list (encs (acc ++ [.v i]))), .own false (.list (encs st.reverse)), .no]) := by
      rw [List.reverse_cons, encs_app, encs_app]
      simp only [b1_subterms, encs, iSeq_ev, sq_next, sq_ret, sq_brk, sq_cont, iNext_ev, iAsg_ev, as_val, as_new_t, as_new_f, setV_ev, set_no, set_val, set_own, iVar_ev, va_val, va_own, look_ev, lo_own, look_val, look_new, vis_val, vis_new, pub_val, pub_new, pub_own, opd_ap, iCon_ap, iBin_ap, iUn_ap, argN_ap, argC_ap, looks_nil, looks_cons, viss_nil, viss_cons, iCB_ap, iTup_ap, iLst_ap, isB_ap, isI_ap, iTst_ap, iTru_ap, iNotT_ap, iAndT_ap, iOrT_ap, iAnd_ap, iOr_ap, iNot_ap, iIf_ap, iSl_ap, iNoP_ap, iPart_ap, iIsi_ap, iIfS_ev, iRet_ev, ret_val', ret_new', ret_own', ro_own, iRetN_ev, iDrop_ev, iBrk_ev, iCont_ev, iBef_ev, iAft_ev, wfl_next, wfl_cont, wfl_brk, wfl_ret, wipe_nil, wipe_cons, wp_no, wp_val, wp_own, iNm_ev, iGT_tup, iGT_list, iGN_ev, iGC_ev, iAsgT_ev, iCall_ev, sls_nil, sls_val, sls_own, dup_nil, dup_val, dup_own, has_nil, has_val, has_own, now_val, now_new, back_ev, bg_nil, bg_cons, bs_no, bs_val, bs_own, bsf_some, bsf_none, b1_nil, b1_val, b1_own, iApp_ev, ap1_list, apF_list, iExU_ev, exF_list, exV_new, exV_tup, iPop_ev, po_snoc, iStL_ev, iFrz_ev, fz_own, fz_val, iRev_ev, gRev_list, gRev_tup, iSeqI_ev, iRevI_ev, iEnumU_ev, iR1_ev, turn_ev, at0, at1, at2, ix0, ix1, ix2, gAdd_int, gAdd_str, gAdd_tup, gSub_int, gMul_int, gMulR_int, gMulL_int, gDiv_int, gMod_int, gPow_int, gNeg_int, gLt_int, gLe_int, gGt_int, gGe_int, gEq_int, gNe_int, gEq_str, gNe_str, gEq_bool, gNe_bool, gIs_ap, gIsN_ap, isNone_none, isNone_int, isNone_tup, isNone_str, gIx_list, gIx_tup, gSl_tup, gSl_list, c1_ap, gLen_list, gLen_tup, gInt_int, gList_list, gList_tup, gTuple_list, gTuple_tup, truD_none, truD_bool, truD_int, truD_list, truD_tup, isi_int_int, isi_int_tup, isi_bool_bool, isi_tup_tup, isi_list_list, isi_bool_int, Option.bind_some, Option.map_some, List.getElem?_cons_zero, List.getElem?_cons_succ, List.set_cons_zero, List.set_cons_succ, List.length_cons, List.length_nil, if_true, reduceIte, decide_true, decide_false, Bool.true_and, Bool.and_true, Bool.not_true, Bool.not_false, Bool.false_eq_true, Bool.not_eq_true, decide_eq_true_eq, Nat.reduceAdd, Nat.reduceLeDiff, Nat.reduceEqDiff, Nat.reduceSub, Nat.reduceMul, Int.reduceLT, Int.reduceLE, Int.reduceEq, Int.reduceAdd, Int.reduceSub, Int.reduceMul, Int.reduceNeg, Int.reduceToNat, Int.reducePow, and_self, eq_self, and_true, true_and, Nat.reduceBEq, ncast, DL.sm, List.length_map, iDGet2_ev, iDGet_ev, iDIn_ev, keyD_int, keyD_str, iDNew_ev, dpF_own, dp1_own, iDPut_ev, ds1_own, dsF_own, iDSet_ev, lzF_tup, iLZip_ev, iDc_ev, iLc_ev, dA_val, dA_own, iPairs_ev, not_false_eq_true, Nat.reduceLT, iCopyD_ev, lcOF_own, iLcO_ev, alC_list, alC_dict, in_ints, notin_ints, gAdd_list, augF_int, iAug_ev, ne_eq, decide_not, enc_v, hz, isv_v]
    rw [wl_true h1 h2, subs_loop n st (acc ++ [T.v i]) (by omega) (by rw [List.length_append, List.length_singleton]; omega), subsL, T.subs, List.append_assoc]
  | n + 1, .c k a b ts :: st, acc, h, hb => by
    rw [sizes, T.size] at h hb
    have h1 : sc [.val d0, .own false (.list (encs acc)), .own false (.list (encs (T.c k a b ts :: st).reverse)), .no] = some (true, [.val d0, .own false (.list (encs acc)), .own false (.list (encs (T.c k a b ts :: st).reverse)), .no]) := by
      have : (encs (T.c k a b ts :: st).reverse).isEmpty = false := by rw [encs_map]; simp
      simp only [sc, iSeq_ev, sq_next, sq_ret, sq_brk, sq_cont, iNext_ev, iAsg_ev, as_val, as_new_t, as_new_f, setV_ev, set_no, set_val, set_own, iVar_ev, va_val, va_own, look_ev, lo_own, look_val, look_new, vis_val, vis_new, pub_val, pub_new, pub_own, opd_ap, iCon_ap, iBin_ap, iUn_ap, argN_ap, argC_ap, looks_nil, looks_cons, viss_nil, viss_cons, iCB_ap, iTup_ap, iLst_ap, isB_ap, isI_ap, iTst_ap, iTru_ap, iNotT_ap, iAndT_ap, iOrT_ap, iAnd_ap, iOr_ap, iNot_ap, iIf_ap, iSl_ap, iNoP_ap, iPart_ap, iIsi_ap, iIfS_ev, iRet_ev, ret_val', ret_new', ret_own', ro_own, iRetN_ev, iDrop_ev, iBrk_ev, iCont_ev, iBef_ev, iAft_ev, wfl_next, wfl_cont, wfl_brk, wfl_ret, wipe_nil, wipe_cons, wp_no, wp_val, wp_own, iNm_ev, iGT_tup, iGT_list, iGN_ev, iGC_ev, iAsgT_ev, iCall_ev, sls_nil, sls_val, sls_own, dup_nil, dup_val, dup_own, has_nil, has_val, has_own, now_val, now_new, back_ev, bg_nil, bg_cons, bs_no, bs_val, bs_own, bsf_some, bsf_none, b1_nil, b1_val, b1_own, iApp_ev, ap1_list, apF_list, iExU_ev, exF_list, exV_new, exV_tup, iPop_ev, po_snoc, iStL_ev, iFrz_ev, fz_own, fz_val, iRev_ev, gRev_list, gRev_tup, iSeqI_ev, iRevI_ev, iEnumU_ev, iR1_ev, turn_ev, at0, at1, at2, ix0, ix1, ix2, gAdd_int, gAdd_str, gAdd_tup, gSub_int, gMul_int, gMulR_int, gMulL_int, gDiv_int, gMod_int, gPow_int, gNeg_int, gLt_int, gLe_int, gGt_int, gGe_int, gEq_int, gNe_int, gEq_str, gNe_str, gEq_bool, gNe_bool, gIs_ap, gIsN_ap, isNone_none, isNone_int, isNone_tup, isNone_str, gIx_list, gIx_tup, gSl_tup, gSl_list, c1_ap, gLen_list, gLen_tup, gInt_int, gList_list, gList_tup, gTuple_list, gTuple_tup, truD_none, truD_bool, truD_int, truD_list, truD_tup, isi_int_int, isi_int_tup, isi_bool_bool, isi_tup_tup, isi_list_list, isi_bool_int, Option.bind_some, Option.map_some, List.getElem?_cons_zero, List.getElem?_cons_succ, List.set_cons_zero, List.set_cons_succ, List.length_cons, List.length_nil, if_true, reduceIte, decide_true, decide_false, Bool.true_and, Bool.and_true, Bool.not_true, Bool.not_false, Bool.false_eq_true, Bool.not_eq_true, decide_eq_true_eq, Nat.reduceAdd, Nat.reduceLeDiff, Nat.reduceEqDiff, Nat.reduceSub, Nat.reduceMul, Int.reduceLT, Int.reduceLE, Int.reduceEq, Int.reduceAdd, Int.reduceSub, Int.reduceMul, Int.reduceNeg, Int.reduceToNat, Int.reducePow, and_self, eq_self, and_true, true_and, Nat.reduceBEq, ncast, DL.sm, List.length_map, iDGet2_ev, iDGet_ev, iDIn_ev, keyD_int, keyD_str, iDNew_ev, dpF_own, dp1_own, iDPut_ev, ds1_own, dsF_own, iDSet_ev, lzF_tup, iLZip_ev, iDc_ev, iLc_ev, dA_val, dA_own, iPairs_ev, not_false_eq_true, Nat.reduceLT, iCopyD_ev, lcOF_own, iLcO_ev, alC_list, alC_dict, in_ints, notin_ints, gAdd_list, augF_int, iAug_ev, ne_eq, decide_not, this]
    have hz : (encs acc).length < 100000 := by rw [encs_len]; omega
    have l1 := len_sizes ts
    have l2 := len_sizes st
    have hz2 : (encs st.reverse).length + (encs ts).length ≤ 100000 := by rw [encs_len, encs_len, List.length_reverse]; omega
    have er : encs st.reverse ++ (encs ts).reverse = encs (ts ++ st).reverse := by rw [List.reverse_append, encs_app, encs_map ts.reverse, List.map_reverse, ← encs_map]
    have h2 : b1_subterms F_is_variable [.val d0, .own false (.list (encs acc)), .own false (.list (encs (T.c k a b ts :: st).reverse)), .no] = some (.next [.val d0, .own false (.list (encs (acc ++ [.c k a b ts]))), .own false (.list (encs (ts ++ st).reverse)), .no]) := by
      rw [List.reverse_cons, encs_app, encs_app, ← er]
      simp only [b1_subterms, encs, iSeq_ev, sq_next, sq_ret, sq_brk, sq_cont, iNext_ev, iAsg_ev, as_val, as_new_t, as_new_f, setV_ev, set_no, set_val, set_own, iVar_ev, va_val, va_own, look_ev, lo_own, look_val, look_new, vis_val, vis_new, pub_val, pub_new, pub_own, opd_ap, iCon_ap, iBin_ap, iUn_ap, argN_ap, argC_ap, looks_nil, looks_cons, viss_nil, viss_cons, iCB_ap, iTup_ap, iLst_ap, isB_ap, isI_ap, iTst_ap, iTru_ap, iNotT_ap, iAndT_ap, iOrT_ap, iAnd_ap, iOr_ap, iNot_ap, iIf_ap, iSl_ap, iNoP_ap, iPart_ap, iIsi_ap, iIfS_ev, iRet_ev, ret_val', ret_new', ret_own', ro_own, iRetN_ev, iDrop_ev, iBrk_ev, iCont_ev, iBef_ev, iAft_ev, wfl_next, wfl_cont, wfl_brk, wfl_ret, wipe_nil, wipe_cons, wp_no, wp_val, wp_own, iNm_ev, iGT_tup, iGT_list, iGN_ev, iGC_ev, iAsgT_ev, iCall_ev, sls_nil, sls_val, sls_own, dup_nil, dup_val, dup_own, has_nil, has_val, has_own, now_val, now_new, back_ev, bg_nil, bg_cons, bs_no, bs_val, bs_own, bsf_some, bsf_none, b1_nil, b1_val, b1_own, iApp_ev, ap1_list, apF_list, iExU_ev, exF_list, exV_new, exV_tup, iPop_ev, po_snoc, iStL_ev, iFrz_ev, fz_own, fz_val, iRev_ev, gRev_list, gRev_tup, iSeqI_ev, iRevI_ev, iEnumU_ev, iR1_ev, turn_ev, at0, at1, at2, ix0, ix1, ix2, gAdd_int, gAdd_str, gAdd_tup, gSub_int, gMul_int, gMulR_int, gMulL_int, gDiv_int, gMod_int, gPow_int, gNeg_int, gLt_int, gLe_int, gGt_int, gGe_int, gEq_int, gNe_int, gEq_str, gNe_str, gEq_bool, gNe_bool, gIs_ap, gIsN_ap, isNone_none, isNone_int, isNone_tup, isNone_str, gIx_list, gIx_tup, gSl_tup, gSl_list, c1_ap, gLen_list, gLen_tup, gInt_int, gList_list, gList_tup, gTuple_list, gTuple_tup, truD_none, truD_bool, truD_int, truD_list, truD_tup, isi_int_int, isi_int_tup, isi_bool_bool, isi_tup_tup, isi_list_list, isi_bool_int, Option.bind_some, Option.map_some, List.getElem?_cons_zero, List.getElem?_cons_succ, List.set_cons_zero, List.set_cons_succ, List.length_cons, List.length_nil, if_true, reduceIte, decide_true, decide_false, Bool.true_and, Bool.and_true, Bool.not_true, Bool.not_false, Bool.false_eq_true, Bool.not_eq_true, decide_eq_true_eq, Nat.reduceAdd, Nat.reduceLeDiff, Nat.reduceEqDiff, Nat.reduceSub, Nat.reduceMul, Int.reduceLT, Int.reduceLE, Int.reduceEq, Int.reduceAdd, Int.reduceSub, Int.reduceMul, Int.reduceNeg, Int.reduceToNat, Int.reducePow, and_self, eq_self, and_true, true_and, Nat.reduceBEq, ncast, DL.sm, List.length_map, iDGet2_ev, iDGet_ev, iDIn_ev, keyD_int, keyD_str, iDNew_ev, dpF_own, dp1_own, iDPut_ev, ds1_own, dsF_own, iDSet_ev, lzF_tup, iLZip_ev, iDc_ev, iLc_ev, dA_val, dA_own, iPairs_ev, not_false_eq_true, Nat.reduceLT, iCopyD_ev, lcOF_own, iLcO_ev, alC_list, alC_dict, in_ints, notin_ints, gAdd_list, augF_int, iAug_ev, ne_eq, decide_not, enc_c, hz, isv_t, List.length_reverse, hz2]
    rw [wl_true h1 h2, subs_loop n (ts ++ st) (acc ++ [T.c k a b ts]) (by rw [sizes_app]; omega) (by rw [List.length_append, List.length_singleton, sizes_app]; omega), subsL_app, subsL, T.subs]
    simp
theorem subs_eq {t : T} (h : t.size ≤ 100000) : F_subterms [.val (enc t)] = some (.new (.list (encs t.subs)), [.val (enc t)]) := by
  have hl := subs_loop (d0 := enc t) 1000000 [t] [] (by simp only [sizes]; omega) (by simp only [sizes, List.length_nil]; omega)
  simp only [List.nil_append, List.reverse_singleton, subsL, List.append_nil] at hl
  have hl' : wloop (iTru (iVar 2)) (b1_subterms F_is_variable) 1000000 [.val (enc t), .own false (.list []), .own false (.list [enc t]), .no] = _ := hl
  have e := @rfl _ (m_subterms F_is_variable [.val (enc t), .no, .no, .no])
  conv at e => rhs; simp only [m_subterms, iSeq_ev, sq_next, sq_ret, sq_brk, sq_cont, iNext_ev, iAsg_ev, as_val, as_new_t, as_new_f, setV_ev, set_no, set_val, set_own, iVar_ev, va_val, va_own, look_ev, lo_own, look_val, look_new, vis_val, vis_new, pub_val, pub_new, pub_own, opd_ap, iCon_ap, iBin_ap, iUn_ap, argN_ap, argC_ap, looks_nil, looks_cons, viss_nil, viss_cons, iCB_ap, iTup_ap, iLst_ap, isB_ap, isI_ap, iTst_ap, iTru_ap, iNotT_ap, iAndT_ap, iOrT_ap, iAnd_ap, iOr_ap, iNot_ap, iIf_ap, iSl_ap, iNoP_ap, iPart_ap, iIsi_ap, iIfS_ev, iRet_ev, ret_val', ret_new', ret_own', ro_own, iRetN_ev, iDrop_ev, iBrk_ev, iCont_ev, iBef_ev, iAft_ev, wfl_next, wfl_cont, wfl_brk, wfl_ret, wipe_nil, wipe_cons, wp_no, wp_val, wp_own, iNm_ev, iGT_tup, iGT_list, iGN_ev, iGC_ev, iAsgT_ev, iCall_ev, sls_nil, sls_val, sls_own, dup_nil, dup_val, dup_own, has_nil, has_val, has_own, now_val, now_new, back_ev, bg_nil, bg_cons, bs_no, bs_val, bs_own, bsf_some, bsf_none, b1_nil, b1_val, b1_own, iApp_ev, ap1_list, apF_list, iExU_ev, exF_list, exV_new, exV_tup, iPop_ev, po_snoc, iStL_ev, iFrz_ev, fz_own, fz_val, iRev_ev, gRev_list, gRev_tup, iSeqI_ev, iRevI_ev, iEnumU_ev, iR1_ev, turn_ev, at0, at1, at2, ix0, ix1, ix2, gAdd_int, gAdd_str, gAdd_tup, gSub_int, gMul_int, gMulR_int, gMulL_int, gDiv_int, gMod_int, gPow_int, gNeg_int, gLt_int, gLe_int, gGt_int, gGe_int, gEq_int, gNe_int, gEq_str, gNe_str, gEq_bool, gNe_bool, gIs_ap, gIsN_ap, isNone_none, isNone_int, isNone_tup, isNone_str, gIx_list, gIx_tup, gSl_tup, gSl_list, c1_ap, gLen_list, gLen_tup, gInt_int, gList_list, gList_tup, gTuple_list, gTuple_tup, truD_none, truD_bool, truD_int, truD_list, truD_tup, isi_int_int, isi_int_tup, isi_bool_bool, isi_tup_tup, isi_list_list, isi_bool_int, Option.bind_some, Option.map_some, List.getElem?_cons_zero, List.getElem?_cons_succ, List.set_cons_zero, List.set_cons_succ, List.length_cons, List.length_nil, if_true, reduceIte, decide_true, decide_false, Bool.true_and, Bool.and_true, Bool.not_true, Bool.not_false, Bool.false_eq_true, Bool.not_eq_true, decide_eq_true_eq, Nat.reduceAdd, Nat.reduceLeDiff, Nat.reduceEqDiff, Nat.reduceSub, Nat.reduceMul, Int.reduceLT, Int.reduceLE, Int.reduceEq, Int.reduceAdd, Int.reduceSub, Int.reduceMul, Int.reduceNeg, Int.reduceToNat, Int.reducePow, and_self, eq_self, and_true, true_and, Nat.reduceBEq, ncast, DL.sm, List.length_map, iDGet2_ev, iDGet_ev, iDIn_ev, keyD_int, keyD_str, iDNew_ev, dpF_own, dp1_own, iDPut_ev, ds1_own, dsF_own, iDSet_ev, lzF_tup, iLZip_ev, iDc_ev, iLc_ev, dA_val, dA_own, iPairs_ev, not_false_eq_true, Nat.reduceLT, iCopyD_ev, lcOF_own, iLcO_ev, alC_list, alC_dict, in_ints, notin_ints, gAdd_list, augF_int, iAug_ev, ne_eq, decide_not, hl']
  exact run_ret (n := 1) (N := 4) (sls := [.val (enc t)]) e rfl
/-! first occurrences -/
def insl (l : List Int) (x : Int) : List Int := if x ∈ l then l else l ++ [x]
def dd (acc xs : List Int) : List Int := xs.foldl insl acc
theorem dd_nil (acc : List Int) : dd acc [] = acc := rfl
theorem dd_cons (acc : List Int) (x : Int) (xs : List Int) : dd acc (x :: xs) = dd (insl acc x) xs := rfl
theorem dd_app (acc xs ys : List Int) : dd acc (xs ++ ys) = dd (dd acc xs) ys := List.foldl_append
theorem insl_mem {l : List Int} {x y : Int} : y ∈ insl l x ↔ y ∈ l ∨ y = x := by
  unfold insl
  by_cases h : x ∈ l
  · rw [if_pos h]
    constructor
    · exact .inl
    · rintro (h2 | rfl)
      · exact h2
      · exact h
  · rw [if_neg h, List.mem_append, List.mem_singleton]
theorem insl_nodup {l : List Int} {x : Int} (h : l.Nodup) : (insl l x).Nodup := by
  unfold insl
  split
  · exact h
  · rename_i hx
    rw [List.nodup_append]
    exact ⟨h, by simp, fun a ha b hb => by rw [List.mem_singleton.mp hb]; exact fun e => hx (e ▸ ha)⟩
theorem insl_len {l : List Int} {x : Int} : (insl l x).length ≤ l.length + 1 := by
  unfold insl
  split
  · omega
  · simp
theorem dd_mem : ∀ {xs acc : List Int} {y : Int}, y ∈ dd acc xs ↔ y ∈ acc ∨ y ∈ xs
  | [], acc, y => by simp [dd]
  | x :: xs, acc, y => by rw [dd_cons, dd_mem, insl_mem, List.mem_cons, or_assoc]
theorem dd_nodup : ∀ {xs acc : List Int}, acc.Nodup → (dd acc xs).Nodup
  | [], _, h => h
  | x :: xs, _, h => dd_nodup (xs := xs) (insl_nodup h)
theorem dd_len : ∀ {xs acc : List Int}, (dd acc xs).length ≤ acc.length + xs.length
  | [], acc => by simp [dd]
  | x :: xs, acc => by
    have := dd_len (xs := xs) (acc := insl acc x)
    have := insl_len (l := acc) (x := x)
    rw [dd_cons, List.length_cons]
    omega
theorem insl_id {l : List Int} {x : Int} (h : x ∈ l) : insl l x = l := if_pos h
theorem dd_insl (acc b : List Int) (x : Int) : dd acc (insl b x) = insl (dd acc b) x := by
  unfold insl
  by_cases h : x ∈ b
  · rw [if_pos h, if_pos (dd_mem.mpr (.inr h))]
  · rw [if_neg h, dd_app, dd_cons, dd_nil]
    rfl
theorem dd_dd : ∀ (xs acc b : List Int), dd acc (dd b xs) = dd (dd acc b) xs
  | [], acc, b => rfl
  | x :: xs, acc, b => by rw [dd_cons, dd_dd xs, dd_insl, dd_cons]
theorem dd_first (acc xs : List Int) : dd acc (dd [] xs) = dd acc xs := by rw [dd_dd, dd_nil]
theorem insl_map {f : Int → Int} {l : List Int} {x : Int} (h : ∀ y ∈ l, f y = f x → y = x) : insl (l.map f) (f x) = (insl l x).map f := by
  unfold insl
  by_cases hx : x ∈ l
  · rw [if_pos hx, if_pos (List.mem_map.mpr ⟨x, hx, rfl⟩)]
  · rw [if_neg hx, if_neg, List.map_append]
    · rfl
    · intro z
      obtain ⟨y, hy, e⟩ := List.mem_map.mp z
      exact hx (h y hy e ▸ hy)
theorem dd_map {f : Int → Int} : ∀ (xs acc : List Int), (∀ x ∈ acc ++ xs, ∀ y ∈ acc ++ xs, f x = f y → x = y) → dd (acc.map f) (xs.map f) = (dd acc xs).map f
  | [], acc, _ => rfl
  | x :: xs, acc, h => by
    rw [List.map_cons, dd_cons, dd_cons, insl_map (fun y hy e => h y (by simp [hy]) x (by simp) e)]
    refine dd_map xs (insl acc x) fun a ha b hb => h a ?_ b ?_
    · rw [List.mem_append, insl_mem] at ha
      rw [List.mem_append, List.mem_cons]
      rcases ha with (h1 | h1) | h1
      · exact .inl h1
      · exact .inr (.inl h1)
      · exact .inr (.inr h1)
    · rw [List.mem_append, insl_mem] at hb
      rw [List.mem_append, List.mem_cons]
      rcases hb with (h1 | h1) | h1
      · exact .inl h1
      · exact .inr (.inl h1)
      · exact .inr (.inr h1)
theorem dd_self : ∀ (xs acc : List Int), (acc ++ xs).Nodup → dd acc xs = acc ++ xs
  | [], acc, _ => by simp [dd]
  | x :: xs, acc, h => by
    have hx : x ∉ acc := fun hx => by
      rw [List.nodup_append] at h
      exact h.2.2 x hx x List.mem_cons_self rfl
    have e : insl acc x = acc ++ [x] := if_neg hx
    rw [dd_cons, e, dd_self xs (acc ++ [x]) (by rw [List.append_assoc]; exact h), List.append_assoc]
    rfl
/-! dicts of variables -/
abbrev kI (l : List Int) : List Key := l.map Sum.inl
theorem keysD_kI (l : List Int) : keysD (kI l) = l.map .int := by
  unfold keysD kI
  rw [List.map_map]
  rfl
theorem kI_nodup {l : List Int} (h : l.Nodup) : (kI l).Nodup := by
  unfold kI
  exact List.Pairwise.map _ (fun a b e z => e (Sum.inl.inj z)) h
def trs (l : List Int) : List D := l.map fun _ => .bool true
theorem putD_tr (x : Int) : ∀ l : List Int, putD (kI l) (trs l) (.inl x) (.bool true) = (kI (insl l x), trs (insl l x))
  | [] => rfl
  | y :: l => by
    have q := putD_tr x l
    unfold kI trs at q
    simp only [kI, trs, List.map_cons, putD]
    by_cases e : y = x
    · subst e
      rw [if_pos rfl, insl_id (by simp)]
      rfl
    · rw [if_neg (fun z => e (Sum.inl.inj z)), q]
      have : insl (y :: l) x = y :: insl l x := by
        unfold insl
        by_cases hx : x ∈ l
        · rw [if_pos hx, if_pos (by simp [hx])]
        · rw [if_neg hx, if_neg (by simp [hx]; exact fun z => e z.symm)]
          rfl
      rw [this]
      rfl
mutual
theorem subs_occ : ∀ (t : T) (acc : List Int), (t.subs.foldl (fun l u => match u with | .v i => insl l i | _ => l) acc) = dd acc t.occ
  | .v i, acc => by simp [T.subs, T.occ, dd]
  | .c k a b ts, acc => by rw [T.subs, List.foldl_cons, T.occ, subsL_occ ts acc]
theorem subsL_occ : ∀ (ts : List T) (acc : List Int), ((subsL ts).foldl (fun l u => match u with | .v i => insl l i | _ => l) acc) = dd acc (occs ts)
  | [], acc => by simp [subsL, occs, dd]
  | t :: ts, acc => by rw [subsL, List.foldl_append, subs_occ t acc, subsL_occ ts, occs, dd_app]
end
mutual
theorem occ_len : ∀ t : T, t.occ.length ≤ t.size
  | .v i => by simp [T.occ, T.size]
  | .c k a b ts => by
    have := occs_len ts
    rw [T.occ, T.size]
    omega
theorem occs_len : ∀ ts : List T, (occs ts).length ≤ sizes ts
  | [] => by simp [occs]
  | t :: ts => by
    have := occ_len t
    have := occs_len ts
    rw [occs, List.length_append, sizes]
    omega
end
/-- the variables of a term by their first occurrence -/
def T.vars (t : T) : List Int := dd [] t.occ
theorem vars_loop {d0 : D} : ∀ (us : List T) (l : List Int), l.Nodup → l.length + us.length ≤ 100000 →
    dcLoop (iNm 2) (iTru (iCall F_is_variable (argC (iVar 2) argN))) (iVar 2) (iCon (.bool true)) [2] (encs us) [.val d0, .no, .no] (kI l) (trs l) = some (kI (us.foldl (fun l u => match u with | .v i => insl l i | _ => l) l), trs (us.foldl (fun l u => match u with | .v i => insl l i | _ => l) l), [.val d0, .no, .no])
  | [], l, _, _ => rfl
  | .v i :: us, l, nd, hl => by
    rw [List.length_cons] at hl
    have q := vars_loop (d0 := d0) us (insl l i) (insl_nodup nd) (by have := insl_len (l := l) (x := i); omega)
    have hz : (trs l).length < 100000 := by unfold trs; rw [List.length_map]; omega
    have hz2 := kI_nodup nd
    simp only [encs, dcLoop, iSeq_ev, sq_next, sq_ret, sq_brk, sq_cont, iNext_ev, iAsg_ev, as_val, as_new_t, as_new_f, setV_ev, set_no, set_val, set_own, iVar_ev, va_val, va_own, look_ev, lo_own, look_val, look_new, vis_val, vis_new, pub_val, pub_new, pub_own, opd_ap, iCon_ap, iBin_ap, iUn_ap, argN_ap, argC_ap, looks_nil, looks_cons, viss_nil, viss_cons, iCB_ap, iTup_ap, iLst_ap, isB_ap, isI_ap, iTst_ap, iTru_ap, iNotT_ap, iAndT_ap, iOrT_ap, iAnd_ap, iOr_ap, iNot_ap, iIf_ap, iSl_ap, iNoP_ap, iPart_ap, iIsi_ap, iIfS_ev, iRet_ev, ret_val', ret_new', ret_own', ro_own, iRetN_ev, iDrop_ev, iBrk_ev, iCont_ev, iBef_ev, iAft_ev, wfl_next, wfl_cont, wfl_brk, wfl_ret, wipe_nil, wipe_cons, wp_no, wp_val, wp_own, iNm_ev, iGT_tup, iGT_list, iGN_ev, iGC_ev, iAsgT_ev, iCall_ev, sls_nil, sls_val, sls_own, dup_nil, dup_val, dup_own, has_nil, has_val, has_own, now_val, now_new, back_ev, bg_nil, bg_cons, bs_no, bs_val, bs_own, bsf_some, bsf_none, b1_nil, b1_val, b1_own, iApp_ev, ap1_list, apF_list, iExU_ev, exF_list, exV_new, exV_tup, iPop_ev, po_snoc, iStL_ev, iFrz_ev, fz_own, fz_val, iRev_ev, gRev_list, gRev_tup, iSeqI_ev, iRevI_ev, iEnumU_ev, iR1_ev, turn_ev, at0, at1, at2, ix0, ix1, ix2, gAdd_int, gAdd_str, gAdd_tup, gSub_int, gMul_int, gMulR_int, gMulL_int, gDiv_int, gMod_int, gPow_int, gNeg_int, gLt_int, gLe_int, gGt_int, gGe_int, gEq_int, gNe_int, gEq_str, gNe_str, gEq_bool, gNe_bool, gIs_ap, gIsN_ap, isNone_none, isNone_int, isNone_tup, isNone_str, gIx_list, gIx_tup, gSl_tup, gSl_list, c1_ap, gLen_list, gLen_tup, gInt_int, gList_list, gList_tup, gTuple_list, gTuple_tup, truD_none, truD_bool, truD_int, truD_list, truD_tup, isi_int_int, isi_int_tup, isi_bool_bool, isi_tup_tup, isi_list_list, isi_bool_int, Option.bind_some, Option.map_some, List.getElem?_cons_zero, List.getElem?_cons_succ, List.set_cons_zero, List.set_cons_succ, List.length_cons, List.length_nil, if_true, reduceIte, decide_true, decide_false, Bool.true_and, Bool.and_true, Bool.not_true, Bool.not_false, Bool.false_eq_true, Bool.not_eq_true, decide_eq_true_eq, Nat.reduceAdd, Nat.reduceLeDiff, Nat.reduceEqDiff, Nat.reduceSub, Nat.reduceMul, Int.reduceLT, Int.reduceLE, Int.reduceEq, Int.reduceAdd, Int.reduceSub, Int.reduceMul, Int.reduceNeg, Int.reduceToNat, Int.reducePow, and_self, eq_self, and_true, true_and, Nat.reduceBEq, ncast, DL.sm, List.length_map, iDGet2_ev, iDGet_ev, iDIn_ev, keyD_int, keyD_str, iDNew_ev, dpF_own, dp1_own, iDPut_ev, ds1_own, dsF_own, iDSet_ev, lzF_tup, iLZip_ev, iDc_ev, iLc_ev, dA_val, dA_own, iPairs_ev, not_false_eq_true, Nat.reduceLT, iCopyD_ev, lcOF_own, iLcO_ev, alC_list, alC_dict, in_ints, notin_ints, gAdd_list, augF_int, iAug_ev, ne_eq, decide_not, enc_v, isv_v, hz, hz2, putD_tr, q, List.foldl_cons]
  | .c k a b ts :: us, l, nd, hl => by
    rw [List.length_cons] at hl
    have q := vars_loop (d0 := d0) us l nd (by omega)
    simp only [encs, dcLoop, iSeq_ev, sq_next, sq_ret, sq_brk, sq_cont, iNext_ev, iAsg_ev, as_val, as_new_t, as_new_f, setV_ev, set_no, set_val, set_own, iVar_ev, va_val, va_own, look_ev, lo_own, look_val, look_new, vis_val, vis_new, pub_val, pub_new, pub_own, opd_ap, iCon_ap, iBin_ap, iUn_ap, argN_ap, argC_ap, looks_nil, looks_cons, viss_nil, viss_cons, iCB_ap, iTup_ap, iLst_ap, isB_ap, isI_ap, iTst_ap, iTru_ap, iNotT_ap, iAndT_ap, iOrT_ap, iAnd_ap, iOr_ap, iNot_ap, iIf_ap, iSl_ap, iNoP_ap, iPart_ap, iIsi_ap, iIfS_ev, iRet_ev, ret_val', ret_new', ret_own', ro_own, iRetN_ev, iDrop_ev, iBrk_ev, iCont_ev, iBef_ev, iAft_ev, wfl_next, wfl_cont, wfl_brk, wfl_ret, wipe_nil, wipe_cons, wp_no, wp_val, wp_own, iNm_ev, iGT_tup, iGT_list, iGN_ev, iGC_ev, iAsgT_ev, iCall_ev, sls_nil, sls_val, sls_own, dup_nil, dup_val, dup_own, has_nil, has_val, has_own, now_val, now_new, back_ev, bg_nil, bg_cons, bs_no, bs_val, bs_own, bsf_some, bsf_none, b1_nil, b1_val, b1_own, iApp_ev, ap1_list, apF_list, iExU_ev, exF_list, exV_new, exV_tup, iPop_ev, po_snoc, iStL_ev, iFrz_ev, fz_own, fz_val, iRev_ev, gRev_list, gRev_tup, iSeqI_ev, iRevI_ev, iEnumU_ev, iR1_ev, turn_ev, at0, at1, at2, ix0, ix1, ix2, gAdd_int, gAdd_str, gAdd_tup, gSub_int, gMul_int, gMulR_int, gMulL_int, gDiv_int, gMod_int, gPow_int, gNeg_int, gLt_int, gLe_int, gGt_int, gGe_int, gEq_int, gNe_int, gEq_str, gNe_str, gEq_bool, gNe_bool, gIs_ap, gIsN_ap, isNone_none, isNone_int, isNone_tup, isNone_str, gIx_list, gIx_tup, gSl_tup, gSl_list, c1_ap, gLen_list, gLen_tup, gInt_int, gList_list, gList_tup, gTuple_list, gTuple_tup, truD_none, truD_bool, truD_int, truD_list, truD_tup, isi_int_int, isi_int_tup, isi_bool_bool, isi_tup_tup, isi_list_list, isi_bool_int, Option.bind_some, Option.map_some, List.getElem?_cons_zero, List.getElem?_cons_succ, List.set_cons_zero, List.set_cons_succ, List.length_cons, List.length_nil, if_true, reduceIte, decide_true, decide_false, Bool.true_and, Bool.and_true, Bool.not_true, Bool.not_false, Bool.false_eq_true, Bool.not_eq_true, decide_eq_true_eq, Nat.reduceAdd, Nat.reduceLeDiff, Nat.reduceEqDiff, Nat.reduceSub, Nat.reduceMul, Int.reduceLT, Int.reduceLE, Int.reduceEq, Int.reduceAdd, Int.reduceSub, Int.reduceMul, Int.reduceNeg, Int.reduceToNat, Int.reducePow, and_self, eq_self, and_true, true_and, Nat.reduceBEq, ncast, DL.sm, List.length_map, iDGet2_ev, iDGet_ev, iDIn_ev, keyD_int, keyD_str, iDNew_ev, dpF_own, dp1_own, iDPut_ev, ds1_own, dsF_own, iDSet_ev, lzF_tup, iLZip_ev, iDc_ev, iLc_ev, dA_val, dA_own, iPairs_ev, not_false_eq_true, Nat.reduceLT, iCopyD_ev, lcOF_own, iLcO_ev, alC_list, alC_dict, in_ints, notin_ints, gAdd_list, augF_int, iAug_ev, ne_eq, decide_not, enc_c, isv_t, q, List.foldl_cons]
theorem vars_eq {t : T} (h : t.size ≤ 90000) : F_variables [.val (enc t)] = some (.new (.list (t.vars.map .int)), [.val (enc t)]) := by
  have hl := vars_loop (d0 := enc t) t.subs [] List.nodup_nil (by rw [subs_len]; simp only [List.length_nil]; omega)
  rw [subs_occ] at hl
  have hl' : dcLoop (iNm 2) (iTru (iCall F_is_variable (argC (iVar 2) argN))) (iVar 2) (iCon (.bool true)) [2] (encs t.subs) [.val (enc t), .no, .no] [] [] = _ := hl
  have e := @rfl _ (m_variables F_subterms F_is_variable [.val (enc t), .no, .no])
  conv at e => rhs; simp only [m_variables, iDc, iSeq_ev, sq_next, sq_ret, sq_brk, sq_cont, iNext_ev, iAsg_ev, as_val, as_new_t, as_new_f, setV_ev, set_no, set_val, set_own, iVar_ev, va_val, va_own, look_ev, lo_own, look_val, look_new, vis_val, vis_new, pub_val, pub_new, pub_own, opd_ap, iCon_ap, iBin_ap, iUn_ap, argN_ap, argC_ap, looks_nil, looks_cons, viss_nil, viss_cons, iCB_ap, iTup_ap, iLst_ap, isB_ap, isI_ap, iTst_ap, iTru_ap, iNotT_ap, iAndT_ap, iOrT_ap, iAnd_ap, iOr_ap, iNot_ap, iIf_ap, iSl_ap, iNoP_ap, iPart_ap, iIsi_ap, iIfS_ev, iRet_ev, ret_val', ret_new', ret_own', ro_own, iRetN_ev, iDrop_ev, iBrk_ev, iCont_ev, iBef_ev, iAft_ev, wfl_next, wfl_cont, wfl_brk, wfl_ret, wipe_nil, wipe_cons, wp_no, wp_val, wp_own, iNm_ev, iGT_tup, iGT_list, iGN_ev, iGC_ev, iAsgT_ev, iCall_ev, sls_nil, sls_val, sls_own, dup_nil, dup_val, dup_own, has_nil, has_val, has_own, now_val, now_new, back_ev, bg_nil, bg_cons, bs_no, bs_val, bs_own, bsf_some, bsf_none, b1_nil, b1_val, b1_own, iApp_ev, ap1_list, apF_list, iExU_ev, exF_list, exV_new, exV_tup, iPop_ev, po_snoc, iStL_ev, iFrz_ev, fz_own, fz_val, iRev_ev, gRev_list, gRev_tup, iSeqI_ev, iRevI_ev, iEnumU_ev, iR1_ev, turn_ev, at0, at1, at2, ix0, ix1, ix2, gAdd_int, gAdd_str, gAdd_tup, gSub_int, gMul_int, gMulR_int, gMulL_int, gDiv_int, gMod_int, gPow_int, gNeg_int, gLt_int, gLe_int, gGt_int, gGe_int, gEq_int, gNe_int, gEq_str, gNe_str, gEq_bool, gNe_bool, gIs_ap, gIsN_ap, isNone_none, isNone_int, isNone_tup, isNone_str, gIx_list, gIx_tup, gSl_tup, gSl_list, c1_ap, gLen_list, gLen_tup, gInt_int, gList_list, gList_tup, gTuple_list, gTuple_tup, truD_none, truD_bool, truD_int, truD_list, truD_tup, isi_int_int, isi_int_tup, isi_bool_bool, isi_tup_tup, isi_list_list, isi_bool_int, Option.bind_some, Option.map_some, List.getElem?_cons_zero, List.getElem?_cons_succ, List.set_cons_zero, List.set_cons_succ, List.length_cons, List.length_nil, if_true, reduceIte, decide_true, decide_false, Bool.true_and, Bool.and_true, Bool.not_true, Bool.not_false, Bool.false_eq_true, Bool.not_eq_true, decide_eq_true_eq, Nat.reduceAdd, Nat.reduceLeDiff, Nat.reduceEqDiff, Nat.reduceSub, Nat.reduceMul, Int.reduceLT, Int.reduceLE, Int.reduceEq, Int.reduceAdd, Int.reduceSub, Int.reduceMul, Int.reduceNeg, Int.reduceToNat, Int.reducePow, and_self, eq_self, and_true, true_and, Nat.reduceBEq, ncast, DL.sm, List.length_map, iDGet2_ev, iDGet_ev, iDIn_ev, keyD_int, keyD_str, iDNew_ev, dpF_own, dp1_own, iDPut_ev, ds1_own, dsF_own, iDSet_ev, lzF_tup, iLZip_ev, iDc_ev, iLc_ev, dA_val, dA_own, iPairs_ev, not_false_eq_true, Nat.reduceLT, iCopyD_ev, lcOF_own, iLcO_ev, alC_list, alC_dict, in_ints, notin_ints, gAdd_list, augF_int, iAug_ev, ne_eq, decide_not, subs_eq (show t.size ≤ 100000 by omega), hl', keysD_kI]
  exact run_ret (n := 1) (N := 3) (sls := [.val (enc t)]) e rfl
/-! the law's variables -/
theorem lvars_eq : ∀ (n d m : Nat) (t : T) (acc : List Int), Bd m d t → d < n → acc.length + t.size ≤ 90000 → it__law_variables n [.val (enc t), .val (.list (acc.map .int))] = some (.val (.list ((dd acc t.occ).map .int)), [.val (enc t), .val (.list (acc.map .int))])
  | 0, _, _, _, _, _, h, _ => by omega
  | n + 1, d, m, .v i, acc, _, _, hz => by
    rw [show it__law_variables (n + 1) = runDef 2 3 (m__law_variables (it__law_variables n) F__law_is_variable) from rfl]
    have e := @rfl _ (m__law_variables (it__law_variables n) F__law_is_variable [.val (.int i), .val (.list (acc.map .int)), .no])
    rw [T.occ, dd_cons, dd_nil]
    rw [T.size] at hz
    have hl : acc.length + 1 ≤ 100000 := by omega
    by_cases h : i ∈ acc
    · rw [insl_id h]
      conv at e => rhs; simp only [m__law_variables, iSeq_ev, sq_next, sq_ret, sq_brk, sq_cont, iNext_ev, iAsg_ev, as_val, as_new_t, as_new_f, setV_ev, set_no, set_val, set_own, iVar_ev, va_val, va_own, look_ev, lo_own, look_val, look_new, vis_val, vis_new, pub_val, pub_new, pub_own, opd_ap, iCon_ap, iBin_ap, iUn_ap, argN_ap, argC_ap, looks_nil, looks_cons, viss_nil, viss_cons, iCB_ap, iTup_ap, iLst_ap, isB_ap, isI_ap, iTst_ap, iTru_ap, iNotT_ap, iAndT_ap, iOrT_ap, iAnd_ap, iOr_ap, iNot_ap, iIf_ap, iSl_ap, iNoP_ap, iPart_ap, iIsi_ap, iIfS_ev, iRet_ev, ret_val', ret_new', ret_own', ro_own, iRetN_ev, iDrop_ev, iBrk_ev, iCont_ev, iBef_ev, iAft_ev, wfl_next, wfl_cont, wfl_brk, wfl_ret, wipe_nil, wipe_cons, wp_no, wp_val, wp_own, iNm_ev, iGT_tup, iGT_list, iGN_ev, iGC_ev, iAsgT_ev, iCall_ev, sls_nil, sls_val, sls_own, dup_nil, dup_val, dup_own, has_nil, has_val, has_own, now_val, now_new, back_ev, bg_nil, bg_cons, bs_no, bs_val, bs_own, bsf_some, bsf_none, b1_nil, b1_val, b1_own, iApp_ev, ap1_list, apF_list, iExU_ev, exF_list, exV_new, exV_tup, iPop_ev, po_snoc, iStL_ev, iFrz_ev, fz_own, fz_val, iRev_ev, gRev_list, gRev_tup, iSeqI_ev, iRevI_ev, iEnumU_ev, iR1_ev, turn_ev, at0, at1, at2, ix0, ix1, ix2, gAdd_int, gAdd_str, gAdd_tup, gSub_int, gMul_int, gMulR_int, gMulL_int, gDiv_int, gMod_int, gPow_int, gNeg_int, gLt_int, gLe_int, gGt_int, gGe_int, gEq_int, gNe_int, gEq_str, gNe_str, gEq_bool, gNe_bool, gIs_ap, gIsN_ap, isNone_none, isNone_int, isNone_tup, isNone_str, gIx_list, gIx_tup, gSl_tup, gSl_list, c1_ap, gLen_list, gLen_tup, gInt_int, gList_list, gList_tup, gTuple_list, gTuple_tup, truD_none, truD_bool, truD_int, truD_list, truD_tup, isi_int_int, isi_int_tup, isi_bool_bool, isi_tup_tup, isi_list_list, isi_bool_int, Option.bind_some, Option.map_some, List.getElem?_cons_zero, List.getElem?_cons_succ, List.set_cons_zero, List.set_cons_succ, List.length_cons, List.length_nil, if_true, reduceIte, decide_true, decide_false, Bool.true_and, Bool.and_true, Bool.not_true, Bool.not_false, Bool.false_eq_true, Bool.not_eq_true, decide_eq_true_eq, Nat.reduceAdd, Nat.reduceLeDiff, Nat.reduceEqDiff, Nat.reduceSub, Nat.reduceMul, Int.reduceLT, Int.reduceLE, Int.reduceEq, Int.reduceAdd, Int.reduceSub, Int.reduceMul, Int.reduceNeg, Int.reduceToNat, Int.reducePow, and_self, eq_self, and_true, true_and, Nat.reduceBEq, ncast, DL.sm, List.length_map, iDGet2_ev, iDGet_ev, iDIn_ev, keyD_int, keyD_str, iDNew_ev, dpF_own, dp1_own, iDPut_ev, ds1_own, dsF_own, iDSet_ev, lzF_tup, iLZip_ev, iDc_ev, iLc_ev, dA_val, dA_own, iPairs_ev, not_false_eq_true, Nat.reduceLT, iCopyD_ev, lcOF_own, iLcO_ev, alC_list, alC_dict, in_ints, notin_ints, gAdd_list, augF_int, iAug_ev, ne_eq, decide_not, lisv_v, h]
      exact run_ret (n := 2) (N := 3) (sls := [.val (.int i), .val (.list (acc.map .int))]) e rfl
    · have hi : insl acc i = acc ++ [i] := if_neg h
      rw [hi]
      conv at e => rhs; simp only [m__law_variables, iSeq_ev, sq_next, sq_ret, sq_brk, sq_cont, iNext_ev, iAsg_ev, as_val, as_new_t, as_new_f, setV_ev, set_no, set_val, set_own, iVar_ev, va_val, va_own, look_ev, lo_own, look_val, look_new, vis_val, vis_new, pub_val, pub_new, pub_own, opd_ap, iCon_ap, iBin_ap, iUn_ap, argN_ap, argC_ap, looks_nil, looks_cons, viss_nil, viss_cons, iCB_ap, iTup_ap, iLst_ap, isB_ap, isI_ap, iTst_ap, iTru_ap, iNotT_ap, iAndT_ap, iOrT_ap, iAnd_ap, iOr_ap, iNot_ap, iIf_ap, iSl_ap, iNoP_ap, iPart_ap, iIsi_ap, iIfS_ev, iRet_ev, ret_val', ret_new', ret_own', ro_own, iRetN_ev, iDrop_ev, iBrk_ev, iCont_ev, iBef_ev, iAft_ev, wfl_next, wfl_cont, wfl_brk, wfl_ret, wipe_nil, wipe_cons, wp_no, wp_val, wp_own, iNm_ev, iGT_tup, iGT_list, iGN_ev, iGC_ev, iAsgT_ev, iCall_ev, sls_nil, sls_val, sls_own, dup_nil, dup_val, dup_own, has_nil, has_val, has_own, now_val, now_new, back_ev, bg_nil, bg_cons, bs_no, bs_val, bs_own, bsf_some, bsf_none, b1_nil, b1_val, b1_own, iApp_ev, ap1_list, apF_list, iExU_ev, exF_list, exV_new, exV_tup, iPop_ev, po_snoc, iStL_ev, iFrz_ev, fz_own, fz_val, iRev_ev, gRev_list, gRev_tup, iSeqI_ev, iRevI_ev, iEnumU_ev, iR1_ev, turn_ev, at0, at1, at2, ix0, ix1, ix2, gAdd_int, gAdd_str, gAdd_tup, gSub_int, gMul_int, gMulR_int, gMulL_int, gDiv_int, gMod_int, gPow_int, gNeg_int, gLt_int, gLe_int, gGt_int, gGe_int, gEq_int, gNe_int, gEq_str, gNe_str, gEq_bool, gNe_bool, gIs_ap, gIsN_ap, isNone_none, isNone_int, isNone_tup, isNone_str, gIx_list, gIx_tup, gSl_tup, gSl_list, c1_ap, gLen_list, gLen_tup, gInt_int, gList_list, gList_tup, gTuple_list, gTuple_tup, truD_none, truD_bool, truD_int, truD_list, truD_tup, isi_int_int, isi_int_tup, isi_bool_bool, isi_tup_tup, isi_list_list, isi_bool_int, Option.bind_some, Option.map_some, List.getElem?_cons_zero, List.getElem?_cons_succ, List.set_cons_zero, List.set_cons_succ, List.length_cons, List.length_nil, if_true, reduceIte, decide_true, decide_false, Bool.true_and, Bool.and_true, Bool.not_true, Bool.not_false, Bool.false_eq_true, Bool.not_eq_true, decide_eq_true_eq, Nat.reduceAdd, Nat.reduceLeDiff, Nat.reduceEqDiff, Nat.reduceSub, Nat.reduceMul, Int.reduceLT, Int.reduceLE, Int.reduceEq, Int.reduceAdd, Int.reduceSub, Int.reduceMul, Int.reduceNeg, Int.reduceToNat, Int.reducePow, and_self, eq_self, and_true, true_and, Nat.reduceBEq, ncast, DL.sm, List.length_map, iDGet2_ev, iDGet_ev, iDIn_ev, keyD_int, keyD_str, iDNew_ev, dpF_own, dp1_own, iDPut_ev, ds1_own, dsF_own, iDSet_ev, lzF_tup, iLZip_ev, iDc_ev, iLc_ev, dA_val, dA_own, iPairs_ev, not_false_eq_true, Nat.reduceLT, iCopyD_ev, lcOF_own, iLcO_ev, alC_list, alC_dict, in_ints, notin_ints, gAdd_list, augF_int, iAug_ev, ne_eq, decide_not, lisv_v, h, hl]
      rw [List.map_append]
      exact run_ret (n := 2) (N := 3) (sls := [.val (.int i), .val (.list (acc.map .int))]) e rfl
  | n + 1, 0, m, .c k a b ts, acc, h, _, _ => h.elim
  | n + 1, d + 1, m, .c k a b ts, acc, hb, hd, hz => by
    rw [show it__law_variables (n + 1) = runDef 2 3 (m__law_variables (it__law_variables n) F__law_is_variable) from rfl]
    have e := @rfl _ (m__law_variables (it__law_variables n) F__law_is_variable [.val (enc (.c k a b ts)), .val (.list (acc.map .int)), .no])
    rw [T.size] at hz
    have hf := (floop_fold (tg := iNm 2) (s := b1__law_variables (it__law_variables n) F__law_is_variable) (dn := enc) (fun l : List Int => [.val (enc (.c k a b ts)), .val (.list (l.map .int)), .no]) (fun l u => dd l u.occ) (fun us l => (∀ u ∈ us, Bd m d u) ∧ l.length + sizes us ≤ 90000) (fun u us l ⟨h1, h2⟩ => by
      rw [sizes] at h2
      have q := lvars_eq n d m u l (h1 u List.mem_cons_self) (by omega) (by omega)
      refine ⟨?_, fun w hw => h1 w (List.mem_cons_of_mem _ hw), ?_⟩
      · simp only [b1__law_variables, iSeq_ev, sq_next, sq_ret, sq_brk, sq_cont, iNext_ev, iAsg_ev, as_val, as_new_t, as_new_f, setV_ev, set_no, set_val, set_own, iVar_ev, va_val, va_own, look_ev, lo_own, look_val, look_new, vis_val, vis_new, pub_val, pub_new, pub_own, opd_ap, iCon_ap, iBin_ap, iUn_ap, argN_ap, argC_ap, looks_nil, looks_cons, viss_nil, viss_cons, iCB_ap, iTup_ap, iLst_ap, isB_ap, isI_ap, iTst_ap, iTru_ap, iNotT_ap, iAndT_ap, iOrT_ap, iAnd_ap, iOr_ap, iNot_ap, iIf_ap, iSl_ap, iNoP_ap, iPart_ap, iIsi_ap, iIfS_ev, iRet_ev, ret_val', ret_new', ret_own', ro_own, iRetN_ev, iDrop_ev, iBrk_ev, iCont_ev, iBef_ev, iAft_ev, wfl_next, wfl_cont, wfl_brk, wfl_ret, wipe_nil, wipe_cons, wp_no, wp_val, wp_own, iNm_ev, iGT_tup, iGT_list, iGN_ev, iGC_ev, iAsgT_ev, iCall_ev, sls_nil, sls_val, sls_own, dup_nil, dup_val, dup_own, has_nil, has_val, has_own, now_val, now_new, back_ev, bg_nil, bg_cons, bs_no, bs_val, bs_own, bsf_some, bsf_none, b1_nil, b1_val, b1_own, iApp_ev, ap1_list, apF_list, iExU_ev, exF_list, exV_new, exV_tup, iPop_ev, po_snoc, iStL_ev, iFrz_ev, fz_own, fz_val, iRev_ev, gRev_list, gRev_tup, iSeqI_ev, iRevI_ev, iEnumU_ev, iR1_ev, turn_ev, at0, at1, at2, ix0, ix1, ix2, gAdd_int, gAdd_str, gAdd_tup, gSub_int, gMul_int, gMulR_int, gMulL_int, gDiv_int, gMod_int, gPow_int, gNeg_int, gLt_int, gLe_int, gGt_int, gGe_int, gEq_int, gNe_int, gEq_str, gNe_str, gEq_bool, gNe_bool, gIs_ap, gIsN_ap, isNone_none, isNone_int, isNone_tup, isNone_str, gIx_list, gIx_tup, gSl_tup, gSl_list, c1_ap, gLen_list, gLen_tup, gInt_int, gList_list, gList_tup, gTuple_list, gTuple_tup, truD_none, truD_bool, truD_int, truD_list, truD_tup, isi_int_int, isi_int_tup, isi_bool_bool, isi_tup_tup, isi_list_list, isi_bool_int, Option.bind_some, Option.map_some, List.getElem?_cons_zero, List.getElem?_cons_succ, List.set_cons_zero, List.set_cons_succ, List.length_cons, List.length_nil, if_true, reduceIte, decide_true, decide_false, Bool.true_and, Bool.and_true, Bool.not_true, Bool.not_false, Bool.false_eq_true, Bool.not_eq_true, decide_eq_true_eq, Nat.reduceAdd, Nat.reduceLeDiff, Nat.reduceEqDiff, Nat.reduceSub, Nat.reduceMul, Int.reduceLT, Int.reduceLE, Int.reduceEq, Int.reduceAdd, Int.reduceSub, Int.reduceMul, Int.reduceNeg, Int.reduceToNat, Int.reducePow, and_self, eq_self, and_true, true_and, Nat.reduceBEq, ncast, DL.sm, List.length_map, iDGet2_ev, iDGet_ev, iDIn_ev, keyD_int, keyD_str, iDNew_ev, dpF_own, dp1_own, iDPut_ev, ds1_own, dsF_own, iDSet_ev, lzF_tup, iLZip_ev, iDc_ev, iLc_ev, dA_val, dA_own, iPairs_ev, not_false_eq_true, Nat.reduceLT, iCopyD_ev, lcOF_own, iLcO_ev, alC_list, alC_dict, in_ints, notin_ints, gAdd_list, augF_int, iAug_ev, ne_eq, decide_not, q]
      · have := dd_len (xs := u.occ) (acc := l)
        have := occ_len u
        omega) ts acc ⟨hb.2, by omega⟩).1
    have ef : ∀ (ts : List T) (acc : List Int), ts.foldl (fun l u => dd l u.occ) acc = dd acc (occs ts) := by
      intro ts
      induction ts with
      | nil => intro acc; rfl
      | cons t ts ih => intro acc; rw [List.foldl_cons, ih, occs, dd_app]
    rw [ef, ← encs_map] at hf
    rw [T.occ]
    have hf' : floop (iNm 2) (b1__law_variables (it__law_variables n) F__law_is_variable) (encs ts) [.val (.tuple [sym k a b, .tuple (encs ts)]), .val (.list (acc.map .int)), .no] = _ := hf
    conv at e => rhs; simp only [m__law_variables, iSeq_ev, sq_next, sq_ret, sq_brk, sq_cont, iNext_ev, iAsg_ev, as_val, as_new_t, as_new_f, setV_ev, set_no, set_val, set_own, iVar_ev, va_val, va_own, look_ev, lo_own, look_val, look_new, vis_val, vis_new, pub_val, pub_new, pub_own, opd_ap, iCon_ap, iBin_ap, iUn_ap, argN_ap, argC_ap, looks_nil, looks_cons, viss_nil, viss_cons, iCB_ap, iTup_ap, iLst_ap, isB_ap, isI_ap, iTst_ap, iTru_ap, iNotT_ap, iAndT_ap, iOrT_ap, iAnd_ap, iOr_ap, iNot_ap, iIf_ap, iSl_ap, iNoP_ap, iPart_ap, iIsi_ap, iIfS_ev, iRet_ev, ret_val', ret_new', ret_own', ro_own, iRetN_ev, iDrop_ev, iBrk_ev, iCont_ev, iBef_ev, iAft_ev, wfl_next, wfl_cont, wfl_brk, wfl_ret, wipe_nil, wipe_cons, wp_no, wp_val, wp_own, iNm_ev, iGT_tup, iGT_list, iGN_ev, iGC_ev, iAsgT_ev, iCall_ev, sls_nil, sls_val, sls_own, dup_nil, dup_val, dup_own, has_nil, has_val, has_own, now_val, now_new, back_ev, bg_nil, bg_cons, bs_no, bs_val, bs_own, bsf_some, bsf_none, b1_nil, b1_val, b1_own, iApp_ev, ap1_list, apF_list, iExU_ev, exF_list, exV_new, exV_tup, iPop_ev, po_snoc, iStL_ev, iFrz_ev, fz_own, fz_val, iRev_ev, gRev_list, gRev_tup, iSeqI_ev, iRevI_ev, iEnumU_ev, iR1_ev, turn_ev, at0, at1, at2, ix0, ix1, ix2, gAdd_int, gAdd_str, gAdd_tup, gSub_int, gMul_int, gMulR_int, gMulL_int, gDiv_int, gMod_int, gPow_int, gNeg_int, gLt_int, gLe_int, gGt_int, gGe_int, gEq_int, gNe_int, gEq_str, gNe_str, gEq_bool, gNe_bool, gIs_ap, gIsN_ap, isNone_none, isNone_int, isNone_tup, isNone_str, gIx_list, gIx_tup, gSl_tup, gSl_list, c1_ap, gLen_list, gLen_tup, gInt_int, gList_list, gList_tup, gTuple_list, gTuple_tup, truD_none, truD_bool, truD_int, truD_list, truD_tup, isi_int_int, isi_int_tup, isi_bool_bool, isi_tup_tup, isi_list_list, isi_bool_int, Option.bind_some, Option.map_some, List.getElem?_cons_zero, List.getElem?_cons_succ, List.set_cons_zero, List.set_cons_succ, List.length_cons, List.length_nil, if_true, reduceIte, decide_true, decide_false, Bool.true_and, Bool.and_true, Bool.not_true, Bool.not_false, Bool.false_eq_true, Bool.not_eq_true, decide_eq_true_eq, Nat.reduceAdd, Nat.reduceLeDiff, Nat.reduceEqDiff, Nat.reduceSub, Nat.reduceMul, Int.reduceLT, Int.reduceLE, Int.reduceEq, Int.reduceAdd, Int.reduceSub, Int.reduceMul, Int.reduceNeg, Int.reduceToNat, Int.reducePow, and_self, eq_self, and_true, true_and, Nat.reduceBEq, ncast, DL.sm, List.length_map, iDGet2_ev, iDGet_ev, iDIn_ev, keyD_int, keyD_str, iDNew_ev, dpF_own, dp1_own, iDPut_ev, ds1_own, dsF_own, iDSet_ev, lzF_tup, iLZip_ev, iDc_ev, iLc_ev, dA_val, dA_own, iPairs_ev, not_false_eq_true, Nat.reduceLT, iCopyD_ev, lcOF_own, iLcO_ev, alC_list, alC_dict, in_ints, notin_ints, gAdd_list, augF_int, iAug_ev, ne_eq, decide_not, enc_c, lisv_t, iFor_ev, hf']
    exact run_ret (n := 2) (N := 3) (sls := [.val (enc (.c k a b ts)), .val (.list (acc.map .int))]) e rfl
/-! ### instances -/
mutual
def T.sub (φ : Int → T) : T → T
  | .v i => φ i
  | .c k a b ts => .c k a b (subsT φ ts)
def subsT (φ : Int → T) : List T → List T
  | [] => []
  | t :: ts => t.sub φ :: subsT φ ts
end
theorem subsT_map (φ : Int → T) : ∀ ts : List T, subsT φ ts = ts.map (T.sub φ)
  | [] => rfl
  | t :: ts => by rw [subsT, subsT_map φ ts]; rfl
/-- a comprehension without a test, into a list -/
theorem lc_mapB {α : Type} {f : EvF} {E : Nv} {j : Nat} {dn g : α → D} (hj : E[j]? = some .no) : ∀ (xs : List α) (acc : List D), (∀ x ∈ xs, opd f (E.set j (.val (dn x))) = some (.val (g x), E.set j (.val (dn x)))) → acc.length + xs.length ≤ 90000 →
    lcLoop (iNm j) iYes f [j] (xs.map dn) E acc = some (acc ++ xs.map g, E)
  | [], acc, _, _ => by rw [List.map_nil, List.map_nil, List.append_nil]; rfl
  | x :: xs, acc, h, hl => by
    rw [List.length_cons] at hl
    have hjl := (List.getElem?_eq_some_iff.mp hj).1
    have t : iNm j E (dn x) = some (E.set j (.val (dn x))) := by rw [iNm_ev, setV_ev, hj]; rfl
    have w : wipeN (E.set j (.val (dn x))) [j] = some E := by
      rw [wipe_cons, wipe_nil, Option.bind_some, List.getElem?_set_self hjl, wp_val, List.set_set]
      congr 1
      apply List.ext_getElem?
      intro i
      by_cases q : i = j
      · subst q
        rw [List.getElem?_set_self hjl, hj]
      · rw [List.getElem?_set_ne (fun z => q z.symm)]
    have rec' := lc_mapB hj xs (acc ++ [g x]) (fun z hz => h z (List.mem_cons_of_mem _ hz)) (by rw [List.length_append, List.length_singleton]; omega)
    simp only [List.map_cons, lcLoop, t, Option.bind_some, iYes, if_true, h x List.mem_cons_self, vis_val, w, if_pos (show acc.length < 100000 by omega), rec', List.append_assoc]
    rfl
theorem lc_map {α : Type} {f : EvF} {E : Nv} {j : Nat} {dn g : α → D} (hj : E[j]? = some .no) : ∀ (xs : List α) (acc : List D), (∀ x ∈ xs, opd f (E.set j (.val (dn x))) = some (.val (g x), E.set j (.val (dn x)))) → acc.length + xs.length ≤ 1000 →
    lcLoop (iNm j) iYes f [j] (xs.map dn) E acc = some (acc ++ xs.map g, E) := fun xs acc h hl => lc_mapB hj xs acc h (by omega)
/-! substitutions told as pairs, as a dict -/
abbrev Su := List (Int × T)
def look (S : Su) (i : Int) : Option T := match S with
  | [] => none
  | p :: S => if p.1 = i then some p.2 else look S i
def toldD (S : Su) : D := .list (S.map fun p => .tuple [.int p.1, enc p.2])
def dictD (S : Su) : D := .dictK (kI (S.map (·.1))) (S.map fun p => enc p.2)
def phi (S : Su) (i : Int) : T := (look S i).getD (.v i)
theorem find_look (i : Int) : ∀ S : Su, findD (kI (S.map (·.1))) (S.map fun p => enc p.2) (.inl i) = (look S i).map enc
  | [] => rfl
  | p :: S => by
    have q := find_look i S
    unfold kI at q ⊢
    simp only [List.map_cons, findD, look]
    by_cases h : p.1 = i
    · rw [if_pos (by rw [h]), if_pos h]; rfl
    · rw [if_neg (fun z => h (Sum.inl.inj z)), if_neg h]; exact q
theorem put_eq : ∀ (n d m : Nat) (t : T) (S : Su), Bd m d t → m ≤ 1000 → d < n → it_put n [.val (enc t), .val (dictD S)] = some (.val (enc (t.sub (phi S))), [.val (enc t), .val (dictD S)])
  | 0, _, _, _, _, _, _, h => by omega
  | n + 1, d, m, .v i, S, _, _, _ => by
    rw [show it_put (n + 1) = runDef 2 3 (m_put (it_put n) F_is_variable) from rfl]
    have e := @rfl _ (m_put (it_put n) F_is_variable [.val (.int i), .val (dictD S), .no])
    have hl : ((look S i).map enc).getD (.int i) = enc (phi S i) := by unfold phi; cases look S i <;> rfl
    conv at e => rhs; simp only [m_put, iSeq_ev, sq_next, sq_ret, sq_brk, sq_cont, iNext_ev, iAsg_ev, as_val, as_new_t, as_new_f, setV_ev, set_no, set_val, set_own, iVar_ev, va_val, va_own, look_ev, lo_own, look_val, look_new, vis_val, vis_new, pub_val, pub_new, pub_own, opd_ap, iCon_ap, iBin_ap, iUn_ap, argN_ap, argC_ap, looks_nil, looks_cons, viss_nil, viss_cons, iCB_ap, iTup_ap, iLst_ap, isB_ap, isI_ap, iTst_ap, iTru_ap, iNotT_ap, iAndT_ap, iOrT_ap, iAnd_ap, iOr_ap, iNot_ap, iIf_ap, iSl_ap, iNoP_ap, iPart_ap, iIsi_ap, iIfS_ev, iRet_ev, ret_val', ret_new', ret_own', ro_own, iRetN_ev, iDrop_ev, iBrk_ev, iCont_ev, iBef_ev, iAft_ev, wfl_next, wfl_cont, wfl_brk, wfl_ret, wipe_nil, wipe_cons, wp_no, wp_val, wp_own, iNm_ev, iGT_tup, iGT_list, iGN_ev, iGC_ev, iAsgT_ev, iCall_ev, sls_nil, sls_val, sls_own, dup_nil, dup_val, dup_own, has_nil, has_val, has_own, now_val, now_new, back_ev, bg_nil, bg_cons, bs_no, bs_val, bs_own, bsf_some, bsf_none, b1_nil, b1_val, b1_own, iApp_ev, ap1_list, apF_list, iExU_ev, exF_list, exV_new, exV_tup, iPop_ev, po_snoc, iStL_ev, iFrz_ev, fz_own, fz_val, iRev_ev, gRev_list, gRev_tup, iSeqI_ev, iRevI_ev, iEnumU_ev, iR1_ev, turn_ev, at0, at1, at2, ix0, ix1, ix2, gAdd_int, gAdd_str, gAdd_tup, gSub_int, gMul_int, gMulR_int, gMulL_int, gDiv_int, gMod_int, gPow_int, gNeg_int, gLt_int, gLe_int, gGt_int, gGe_int, gEq_int, gNe_int, gEq_str, gNe_str, gEq_bool, gNe_bool, gIs_ap, gIsN_ap, isNone_none, isNone_int, isNone_tup, isNone_str, gIx_list, gIx_tup, gSl_tup, gSl_list, c1_ap, gLen_list, gLen_tup, gInt_int, gList_list, gList_tup, gTuple_list, gTuple_tup, truD_none, truD_bool, truD_int, truD_list, truD_tup, isi_int_int, isi_int_tup, isi_bool_bool, isi_tup_tup, isi_list_list, isi_bool_int, Option.bind_some, Option.map_some, List.getElem?_cons_zero, List.getElem?_cons_succ, List.set_cons_zero, List.set_cons_succ, List.length_cons, List.length_nil, if_true, reduceIte, decide_true, decide_false, Bool.true_and, Bool.and_true, Bool.not_true, Bool.not_false, Bool.false_eq_true, Bool.not_eq_true, decide_eq_true_eq, Nat.reduceAdd, Nat.reduceLeDiff, Nat.reduceEqDiff, Nat.reduceSub, Nat.reduceMul, Int.reduceLT, Int.reduceLE, Int.reduceEq, Int.reduceAdd, Int.reduceSub, Int.reduceMul, Int.reduceNeg, Int.reduceToNat, Int.reducePow, and_self, eq_self, and_true, true_and, Nat.reduceBEq, ncast, DL.sm, List.length_map, iDGet2_ev, iDGet_ev, iDIn_ev, keyD_int, keyD_str, iDNew_ev, dpF_own, dp1_own, iDPut_ev, ds1_own, dsF_own, iDSet_ev, lzF_tup, iLZip_ev, iDc_ev, iLc_ev, dA_val, dA_own, iPairs_ev, not_false_eq_true, Nat.reduceLT, iCopyD_ev, lcOF_own, iLcO_ev, alC_list, alC_dict, in_ints, notin_ints, gAdd_list, augF_int, iAug_ev, ne_eq, decide_not, isv_v, dictD, find_look, hl]
    exact run_ret (n := 2) (N := 3) (sls := [.val (.int i), .val (dictD S)]) e rfl
  | n + 1, 0, m, .c k a b ts, S, h, _, _ => h.elim
  | n + 1, d + 1, m, .c k a b ts, S, hb, hm, hd => by
    rw [show it_put (n + 1) = runDef 2 3 (m_put (it_put n) F_is_variable) from rfl]
    have e := @rfl _ (m_put (it_put n) F_is_variable [.val (enc (.c k a b ts)), .val (dictD S), .no])
    have hl := lc_map (j := 2) (f := iCall (it_put n) (argC (iVar 2) (argC (iVar 1) argN))) (E := [.val (enc (.c k a b ts)), .val (dictD S), .no]) (dn := enc) (g := fun t => enc (t.sub (phi S))) rfl ts [] (fun t ht => by
      have q := put_eq n d m t S (hb.2 t ht) hm (by omega)
      simp only [iSeq_ev, sq_next, sq_ret, sq_brk, sq_cont, iNext_ev, iAsg_ev, as_val, as_new_t, as_new_f, setV_ev, set_no, set_val, set_own, iVar_ev, va_val, va_own, look_ev, lo_own, look_val, look_new, vis_val, vis_new, pub_val, pub_new, pub_own, opd_ap, iCon_ap, iBin_ap, iUn_ap, argN_ap, argC_ap, looks_nil, looks_cons, viss_nil, viss_cons, iCB_ap, iTup_ap, iLst_ap, isB_ap, isI_ap, iTst_ap, iTru_ap, iNotT_ap, iAndT_ap, iOrT_ap, iAnd_ap, iOr_ap, iNot_ap, iIf_ap, iSl_ap, iNoP_ap, iPart_ap, iIsi_ap, iIfS_ev, iRet_ev, ret_val', ret_new', ret_own', ro_own, iRetN_ev, iDrop_ev, iBrk_ev, iCont_ev, iBef_ev, iAft_ev, wfl_next, wfl_cont, wfl_brk, wfl_ret, wipe_nil, wipe_cons, wp_no, wp_val, wp_own, iNm_ev, iGT_tup, iGT_list, iGN_ev, iGC_ev, iAsgT_ev, iCall_ev, sls_nil, sls_val, sls_own, dup_nil, dup_val, dup_own, has_nil, has_val, has_own, now_val, now_new, back_ev, bg_nil, bg_cons, bs_no, bs_val, bs_own, bsf_some, bsf_none, b1_nil, b1_val, b1_own, iApp_ev, ap1_list, apF_list, iExU_ev, exF_list, exV_new, exV_tup, iPop_ev, po_snoc, iStL_ev, iFrz_ev, fz_own, fz_val, iRev_ev, gRev_list, gRev_tup, iSeqI_ev, iRevI_ev, iEnumU_ev, iR1_ev, turn_ev, at0, at1, at2, ix0, ix1, ix2, gAdd_int, gAdd_str, gAdd_tup, gSub_int, gMul_int, gMulR_int, gMulL_int, gDiv_int, gMod_int, gPow_int, gNeg_int, gLt_int, gLe_int, gGt_int, gGe_int, gEq_int, gNe_int, gEq_str, gNe_str, gEq_bool, gNe_bool, gIs_ap, gIsN_ap, isNone_none, isNone_int, isNone_tup, isNone_str, gIx_list, gIx_tup, gSl_tup, gSl_list, c1_ap, gLen_list, gLen_tup, gInt_int, gList_list, gList_tup, gTuple_list, gTuple_tup, truD_none, truD_bool, truD_int, truD_list, truD_tup, isi_int_int, isi_int_tup, isi_bool_bool, isi_tup_tup, isi_list_list, isi_bool_int, Option.bind_some, Option.map_some, List.getElem?_cons_zero, List.getElem?_cons_succ, List.set_cons_zero, List.set_cons_succ, List.length_cons, List.length_nil, if_true, reduceIte, decide_true, decide_false, Bool.true_and, Bool.and_true, Bool.not_true, Bool.not_false, Bool.false_eq_true, Bool.not_eq_true, decide_eq_true_eq, Nat.reduceAdd, Nat.reduceLeDiff, Nat.reduceEqDiff, Nat.reduceSub, Nat.reduceMul, Int.reduceLT, Int.reduceLE, Int.reduceEq, Int.reduceAdd, Int.reduceSub, Int.reduceMul, Int.reduceNeg, Int.reduceToNat, Int.reducePow, and_self, eq_self, and_true, true_and, Nat.reduceBEq, ncast, DL.sm, List.length_map, iDGet2_ev, iDGet_ev, iDIn_ev, keyD_int, keyD_str, iDNew_ev, dpF_own, dp1_own, iDPut_ev, ds1_own, dsF_own, iDSet_ev, lzF_tup, iLZip_ev, iDc_ev, iLc_ev, dA_val, dA_own, iPairs_ev, not_false_eq_true, Nat.reduceLT, iCopyD_ev, lcOF_own, iLcO_ev, alC_list, alC_dict, in_ints, notin_ints, gAdd_list, augF_int, iAug_ev, ne_eq, decide_not, q]) (by have := hb.1; simp only [List.length_nil]; omega)
    rw [← encs_map] at hl
    have hl' : lcLoop (iNm 2) iYes (iCall (it_put n) (argC (iVar 2) (argC (iVar 1) argN))) [2] (encs ts) [.val (.tuple [sym k a b, .tuple (encs ts)]), .val (dictD S), .no] [] = _ := hl
    have ee : encs (subsT (phi S) ts) = ts.map fun t => enc (t.sub (phi S)) := by rw [subsT_map, encs_map, List.map_map]; rfl
    rw [T.sub, enc_c k a b (subsT (phi S) ts), ee]
    conv at e => rhs; simp only [m_put, iSeq_ev, sq_next, sq_ret, sq_brk, sq_cont, iNext_ev, iAsg_ev, as_val, as_new_t, as_new_f, setV_ev, set_no, set_val, set_own, iVar_ev, va_val, va_own, look_ev, lo_own, look_val, look_new, vis_val, vis_new, pub_val, pub_new, pub_own, opd_ap, iCon_ap, iBin_ap, iUn_ap, argN_ap, argC_ap, looks_nil, looks_cons, viss_nil, viss_cons, iCB_ap, iTup_ap, iLst_ap, isB_ap, isI_ap, iTst_ap, iTru_ap, iNotT_ap, iAndT_ap, iOrT_ap, iAnd_ap, iOr_ap, iNot_ap, iIf_ap, iSl_ap, iNoP_ap, iPart_ap, iIsi_ap, iIfS_ev, iRet_ev, ret_val', ret_new', ret_own', ro_own, iRetN_ev, iDrop_ev, iBrk_ev, iCont_ev, iBef_ev, iAft_ev, wfl_next, wfl_cont, wfl_brk, wfl_ret, wipe_nil, wipe_cons, wp_no, wp_val, wp_own, iNm_ev, iGT_tup, iGT_list, iGN_ev, iGC_ev, iAsgT_ev, iCall_ev, sls_nil, sls_val, sls_own, dup_nil, dup_val, dup_own, has_nil, has_val, has_own, now_val, now_new, back_ev, bg_nil, bg_cons, bs_no, bs_val, bs_own, bsf_some, bsf_none, b1_nil, b1_val, b1_own, iApp_ev, ap1_list, apF_list, iExU_ev, exF_list, exV_new, exV_tup, iPop_ev, po_snoc, iStL_ev, iFrz_ev, fz_own, fz_val, iRev_ev, gRev_list, gRev_tup, iSeqI_ev, iRevI_ev, iEnumU_ev, iR1_ev, turn_ev, at0, at1, at2, ix0, ix1, ix2, gAdd_int, gAdd_str, gAdd_tup, gSub_int, gMul_int, gMulR_int, gMulL_int, gDiv_int, gMod_int, gPow_int, gNeg_int, gLt_int, gLe_int, gGt_int, gGe_int, gEq_int, gNe_int, gEq_str, gNe_str, gEq_bool, gNe_bool, gIs_ap, gIsN_ap, isNone_none, isNone_int, isNone_tup, isNone_str, gIx_list, gIx_tup, gSl_tup, gSl_list, c1_ap, gLen_list, gLen_tup, gInt_int, gList_list, gList_tup, gTuple_list, gTuple_tup, truD_none, truD_bool, truD_int, truD_list, truD_tup, isi_int_int, isi_int_tup, isi_bool_bool, isi_tup_tup, isi_list_list, isi_bool_int, Option.bind_some, Option.map_some, List.getElem?_cons_zero, List.getElem?_cons_succ, List.set_cons_zero, List.set_cons_succ, List.length_cons, List.length_nil, if_true, reduceIte, decide_true, decide_false, Bool.true_and, Bool.and_true, Bool.not_true, Bool.not_false, Bool.false_eq_true, Bool.not_eq_true, decide_eq_true_eq, Nat.reduceAdd, Nat.reduceLeDiff, Nat.reduceEqDiff, Nat.reduceSub, Nat.reduceMul, Int.reduceLT, Int.reduceLE, Int.reduceEq, Int.reduceAdd, Int.reduceSub, Int.reduceMul, Int.reduceNeg, Int.reduceToNat, Int.reducePow, and_self, eq_self, and_true, true_and, Nat.reduceBEq, ncast, DL.sm, List.length_map, iDGet2_ev, iDGet_ev, iDIn_ev, keyD_int, keyD_str, iDNew_ev, dpF_own, dp1_own, iDPut_ev, ds1_own, dsF_own, iDSet_ev, lzF_tup, iLZip_ev, iDc_ev, iLc_ev, dA_val, dA_own, iPairs_ev, not_false_eq_true, Nat.reduceLT, iCopyD_ev, lcOF_own, iLcO_ev, alC_list, alC_dict, in_ints, notin_ints, gAdd_list, augF_int, iAug_ev, ne_eq, decide_not, enc_c, isv_t, iLc_ev, hl', List.nil_append]
    exact run_ret (n := 2) (N := 3) (sls := [.val (enc (.c k a b ts)), .val (dictD S)]) e rfl
theorem lput_loop {n : Nat} (i : Int) (S0 : Su) : ∀ S : Su, floop (iNm 2) (b1__law_put (it__law_put n) F__law_is_variable) (S.map fun p => .tuple [.int p.1, enc p.2]) [.val (.int i), .val (toldD S0), .no, .no] = match look S i with
    | some t => some (.ret (.val (enc t)) [.val (.int i), .val (toldD S0), .val (.tuple [.int i, enc t]), .no])
    | none => some (.next [.val (.int i), .val (toldD S0), .no, .no])
  | [] => rfl
  | p :: S => by
    have q := lput_loop (n := n) i S0 S
    rw [List.map_cons]
    by_cases h : p.1 = i
    · have t : turn (iNm 2) (b1__law_put (it__law_put n) F__law_is_variable) [.val (.int i), .val (toldD S0), .no, .no] (.tuple [.int p.1, enc p.2]) = some (.ret (.val (enc p.2)) [.val (.int i), .val (toldD S0), .val (.tuple [.int i, enc p.2]), .no]) := by
        simp only [b1__law_put, iSeq_ev, sq_next, sq_ret, sq_brk, sq_cont, iNext_ev, iAsg_ev, as_val, as_new_t, as_new_f, setV_ev, set_no, set_val, set_own, iVar_ev, va_val, va_own, look_ev, lo_own, look_val, look_new, vis_val, vis_new, pub_val, pub_new, pub_own, opd_ap, iCon_ap, iBin_ap, iUn_ap, argN_ap, argC_ap, looks_nil, looks_cons, viss_nil, viss_cons, iCB_ap, iTup_ap, iLst_ap, isB_ap, isI_ap, iTst_ap, iTru_ap, iNotT_ap, iAndT_ap, iOrT_ap, iAnd_ap, iOr_ap, iNot_ap, iIf_ap, iSl_ap, iNoP_ap, iPart_ap, iIsi_ap, iIfS_ev, iRet_ev, ret_val', ret_new', ret_own', ro_own, iRetN_ev, iDrop_ev, iBrk_ev, iCont_ev, iBef_ev, iAft_ev, wfl_next, wfl_cont, wfl_brk, wfl_ret, wipe_nil, wipe_cons, wp_no, wp_val, wp_own, iNm_ev, iGT_tup, iGT_list, iGN_ev, iGC_ev, iAsgT_ev, iCall_ev, sls_nil, sls_val, sls_own, dup_nil, dup_val, dup_own, has_nil, has_val, has_own, now_val, now_new, back_ev, bg_nil, bg_cons, bs_no, bs_val, bs_own, bsf_some, bsf_none, b1_nil, b1_val, b1_own, iApp_ev, ap1_list, apF_list, iExU_ev, exF_list, exV_new, exV_tup, iPop_ev, po_snoc, iStL_ev, iFrz_ev, fz_own, fz_val, iRev_ev, gRev_list, gRev_tup, iSeqI_ev, iRevI_ev, iEnumU_ev, iR1_ev, turn_ev, at0, at1, at2, ix0, ix1, ix2, gAdd_int, gAdd_str, gAdd_tup, gSub_int, gMul_int, gMulR_int, gMulL_int, gDiv_int, gMod_int, gPow_int, gNeg_int, gLt_int, gLe_int, gGt_int, gGe_int, gEq_int, gNe_int, gEq_str, gNe_str, gEq_bool, gNe_bool, gIs_ap, gIsN_ap, isNone_none, isNone_int, isNone_tup, isNone_str, gIx_list, gIx_tup, gSl_tup, gSl_list, c1_ap, gLen_list, gLen_tup, gInt_int, gList_list, gList_tup, gTuple_list, gTuple_tup, truD_none, truD_bool, truD_int, truD_list, truD_tup, isi_int_int, isi_int_tup, isi_bool_bool, isi_tup_tup, isi_list_list, isi_bool_int, Option.bind_some, Option.map_some, List.getElem?_cons_zero, List.getElem?_cons_succ, List.set_cons_zero, List.set_cons_succ, List.length_cons, List.length_nil, if_true, reduceIte, decide_true, decide_false, Bool.true_and, Bool.and_true, Bool.not_true, Bool.not_false, Bool.false_eq_true, Bool.not_eq_true, decide_eq_true_eq, Nat.reduceAdd, Nat.reduceLeDiff, Nat.reduceEqDiff, Nat.reduceSub, Nat.reduceMul, Int.reduceLT, Int.reduceLE, Int.reduceEq, Int.reduceAdd, Int.reduceSub, Int.reduceMul, Int.reduceNeg, Int.reduceToNat, Int.reducePow, and_self, eq_self, and_true, true_and, Nat.reduceBEq, ncast, DL.sm, List.length_map, iDGet2_ev, iDGet_ev, iDIn_ev, keyD_int, keyD_str, iDNew_ev, dpF_own, dp1_own, iDPut_ev, ds1_own, dsF_own, iDSet_ev, lzF_tup, iLZip_ev, iDc_ev, iLc_ev, dA_val, dA_own, iPairs_ev, not_false_eq_true, Nat.reduceLT, iCopyD_ev, lcOF_own, iLcO_ev, alC_list, alC_dict, in_ints, notin_ints, gAdd_list, augF_int, iAug_ev, ne_eq, decide_not, h]
      rw [fl_ret t]
      simp only [look, if_pos h]
    · have t : turn (iNm 2) (b1__law_put (it__law_put n) F__law_is_variable) [.val (.int i), .val (toldD S0), .no, .no] (.tuple [.int p.1, enc p.2]) = some (.next [.val (.int i), .val (toldD S0), .no, .no]) := by
        simp only [b1__law_put, iSeq_ev, sq_next, sq_ret, sq_brk, sq_cont, iNext_ev, iAsg_ev, as_val, as_new_t, as_new_f, setV_ev, set_no, set_val, set_own, iVar_ev, va_val, va_own, look_ev, lo_own, look_val, look_new, vis_val, vis_new, pub_val, pub_new, pub_own, opd_ap, iCon_ap, iBin_ap, iUn_ap, argN_ap, argC_ap, looks_nil, looks_cons, viss_nil, viss_cons, iCB_ap, iTup_ap, iLst_ap, isB_ap, isI_ap, iTst_ap, iTru_ap, iNotT_ap, iAndT_ap, iOrT_ap, iAnd_ap, iOr_ap, iNot_ap, iIf_ap, iSl_ap, iNoP_ap, iPart_ap, iIsi_ap, iIfS_ev, iRet_ev, ret_val', ret_new', ret_own', ro_own, iRetN_ev, iDrop_ev, iBrk_ev, iCont_ev, iBef_ev, iAft_ev, wfl_next, wfl_cont, wfl_brk, wfl_ret, wipe_nil, wipe_cons, wp_no, wp_val, wp_own, iNm_ev, iGT_tup, iGT_list, iGN_ev, iGC_ev, iAsgT_ev, iCall_ev, sls_nil, sls_val, sls_own, dup_nil, dup_val, dup_own, has_nil, has_val, has_own, now_val, now_new, back_ev, bg_nil, bg_cons, bs_no, bs_val, bs_own, bsf_some, bsf_none, b1_nil, b1_val, b1_own, iApp_ev, ap1_list, apF_list, iExU_ev, exF_list, exV_new, exV_tup, iPop_ev, po_snoc, iStL_ev, iFrz_ev, fz_own, fz_val, iRev_ev, gRev_list, gRev_tup, iSeqI_ev, iRevI_ev, iEnumU_ev, iR1_ev, turn_ev, at0, at1, at2, ix0, ix1, ix2, gAdd_int, gAdd_str, gAdd_tup, gSub_int, gMul_int, gMulR_int, gMulL_int, gDiv_int, gMod_int, gPow_int, gNeg_int, gLt_int, gLe_int, gGt_int, gGe_int, gEq_int, gNe_int, gEq_str, gNe_str, gEq_bool, gNe_bool, gIs_ap, gIsN_ap, isNone_none, isNone_int, isNone_tup, isNone_str, gIx_list, gIx_tup, gSl_tup, gSl_list, c1_ap, gLen_list, gLen_tup, gInt_int, gList_list, gList_tup, gTuple_list, gTuple_tup, truD_none, truD_bool, truD_int, truD_list, truD_tup, isi_int_int, isi_int_tup, isi_bool_bool, isi_tup_tup, isi_list_list, isi_bool_int, Option.bind_some, Option.map_some, List.getElem?_cons_zero, List.getElem?_cons_succ, List.set_cons_zero, List.set_cons_succ, List.length_cons, List.length_nil, if_true, reduceIte, decide_true, decide_false, Bool.true_and, Bool.and_true, Bool.not_true, Bool.not_false, Bool.false_eq_true, Bool.not_eq_true, decide_eq_true_eq, Nat.reduceAdd, Nat.reduceLeDiff, Nat.reduceEqDiff, Nat.reduceSub, Nat.reduceMul, Int.reduceLT, Int.reduceLE, Int.reduceEq, Int.reduceAdd, Int.reduceSub, Int.reduceMul, Int.reduceNeg, Int.reduceToNat, Int.reducePow, and_self, eq_self, and_true, true_and, Nat.reduceBEq, ncast, DL.sm, List.length_map, iDGet2_ev, iDGet_ev, iDIn_ev, keyD_int, keyD_str, iDNew_ev, dpF_own, dp1_own, iDPut_ev, ds1_own, dsF_own, iDSet_ev, lzF_tup, iLZip_ev, iDc_ev, iLc_ev, dA_val, dA_own, iPairs_ev, not_false_eq_true, Nat.reduceLT, iCopyD_ev, lcOF_own, iLcO_ev, alC_list, alC_dict, in_ints, notin_ints, gAdd_list, augF_int, iAug_ev, ne_eq, decide_not, h]
      rw [fl_next t, q]
      simp only [look, if_neg h]
theorem lput_eq : ∀ (n d m : Nat) (t : T) (S : Su), Bd m d t → m ≤ 1000 → d < n → it__law_put n [.val (enc t), .val (toldD S)] = some (.val (enc (t.sub (phi S))), [.val (enc t), .val (toldD S)])
  | 0, _, _, _, _, _, _, h => by omega
  | n + 1, d, m, .v i, S, _, _, _ => by
    rw [show it__law_put (n + 1) = runDef 2 4 (m__law_put (it__law_put n) F__law_is_variable) from rfl]
    have e := @rfl _ (m__law_put (it__law_put n) F__law_is_variable [.val (.int i), .val (toldD S), .no, .no])
    have hl := lput_loop (n := n) i S S
    show _ = some (Res.val (enc (phi S i)), _)
    unfold phi
    have hs : toldD S = .list (S.map fun p => .tuple [.int p.1, enc p.2]) := rfl
    cases hq : look S i with
    | none =>
      rw [hq] at hl
      rw [hs] at hl e
      conv at e => rhs; simp only [m__law_put, iSeq_ev, sq_next, sq_ret, sq_brk, sq_cont, iNext_ev, iAsg_ev, as_val, as_new_t, as_new_f, setV_ev, set_no, set_val, set_own, iVar_ev, va_val, va_own, look_ev, lo_own, look_val, look_new, vis_val, vis_new, pub_val, pub_new, pub_own, opd_ap, iCon_ap, iBin_ap, iUn_ap, argN_ap, argC_ap, looks_nil, looks_cons, viss_nil, viss_cons, iCB_ap, iTup_ap, iLst_ap, isB_ap, isI_ap, iTst_ap, iTru_ap, iNotT_ap, iAndT_ap, iOrT_ap, iAnd_ap, iOr_ap, iNot_ap, iIf_ap, iSl_ap, iNoP_ap, iPart_ap, iIsi_ap, iIfS_ev, iRet_ev, ret_val', ret_new', ret_own', ro_own, iRetN_ev, iDrop_ev, iBrk_ev, iCont_ev, iBef_ev, iAft_ev, wfl_next, wfl_cont, wfl_brk, wfl_ret, wipe_nil, wipe_cons, wp_no, wp_val, wp_own, iNm_ev, iGT_tup, iGT_list, iGN_ev, iGC_ev, iAsgT_ev, iCall_ev, sls_nil, sls_val, sls_own, dup_nil, dup_val, dup_own, has_nil, has_val, has_own, now_val, now_new, back_ev, bg_nil, bg_cons, bs_no, bs_val, bs_own, bsf_some, bsf_none, b1_nil, b1_val, b1_own, iApp_ev, ap1_list, apF_list, iExU_ev, exF_list, exV_new, exV_tup, iPop_ev, po_snoc, iStL_ev, iFrz_ev, fz_own, fz_val, iRev_ev, gRev_list, gRev_tup, iSeqI_ev, iRevI_ev, iEnumU_ev, iR1_ev, turn_ev, at0, at1, at2, ix0, ix1, ix2, gAdd_int, gAdd_str, gAdd_tup, gSub_int, gMul_int, gMulR_int, gMulL_int, gDiv_int, gMod_int, gPow_int, gNeg_int, gLt_int, gLe_int, gGt_int, gGe_int, gEq_int, gNe_int, gEq_str, gNe_str, gEq_bool, gNe_bool, gIs_ap, gIsN_ap, isNone_none, isNone_int, isNone_tup, isNone_str, gIx_list, gIx_tup, gSl_tup, gSl_list, c1_ap, gLen_list, gLen_tup, gInt_int, gList_list, gList_tup, gTuple_list, gTuple_tup, truD_none, truD_bool, truD_int, truD_list, truD_tup, isi_int_int, isi_int_tup, isi_bool_bool, isi_tup_tup, isi_list_list, isi_bool_int, Option.bind_some, Option.map_some, List.getElem?_cons_zero, List.getElem?_cons_succ, List.set_cons_zero, List.set_cons_succ, List.length_cons, List.length_nil, if_true, reduceIte, decide_true, decide_false, Bool.true_and, Bool.and_true, Bool.not_true, Bool.not_false, Bool.false_eq_true, Bool.not_eq_true, decide_eq_true_eq, Nat.reduceAdd, Nat.reduceLeDiff, Nat.reduceEqDiff, Nat.reduceSub, Nat.reduceMul, Int.reduceLT, Int.reduceLE, Int.reduceEq, Int.reduceAdd, Int.reduceSub, Int.reduceMul, Int.reduceNeg, Int.reduceToNat, Int.reducePow, and_self, eq_self, and_true, true_and, Nat.reduceBEq, ncast, DL.sm, List.length_map, iDGet2_ev, iDGet_ev, iDIn_ev, keyD_int, keyD_str, iDNew_ev, dpF_own, dp1_own, iDPut_ev, ds1_own, dsF_own, iDSet_ev, lzF_tup, iLZip_ev, iDc_ev, iLc_ev, dA_val, dA_own, iPairs_ev, not_false_eq_true, Nat.reduceLT, iCopyD_ev, lcOF_own, iLcO_ev, alC_list, alC_dict, in_ints, notin_ints, gAdd_list, augF_int, iAug_ev, ne_eq, decide_not, lisv_v, iFor_ev, hl]
      exact run_ret (n := 2) (N := 4) (sls := [.val (.int i), .val (toldD S)]) e rfl
    | some t =>
      rw [hq] at hl
      rw [hs] at hl e
      conv at e => rhs; simp only [m__law_put, iSeq_ev, sq_next, sq_ret, sq_brk, sq_cont, iNext_ev, iAsg_ev, as_val, as_new_t, as_new_f, setV_ev, set_no, set_val, set_own, iVar_ev, va_val, va_own, look_ev, lo_own, look_val, look_new, vis_val, vis_new, pub_val, pub_new, pub_own, opd_ap, iCon_ap, iBin_ap, iUn_ap, argN_ap, argC_ap, looks_nil, looks_cons, viss_nil, viss_cons, iCB_ap, iTup_ap, iLst_ap, isB_ap, isI_ap, iTst_ap, iTru_ap, iNotT_ap, iAndT_ap, iOrT_ap, iAnd_ap, iOr_ap, iNot_ap, iIf_ap, iSl_ap, iNoP_ap, iPart_ap, iIsi_ap, iIfS_ev, iRet_ev, ret_val', ret_new', ret_own', ro_own, iRetN_ev, iDrop_ev, iBrk_ev, iCont_ev, iBef_ev, iAft_ev, wfl_next, wfl_cont, wfl_brk, wfl_ret, wipe_nil, wipe_cons, wp_no, wp_val, wp_own, iNm_ev, iGT_tup, iGT_list, iGN_ev, iGC_ev, iAsgT_ev, iCall_ev, sls_nil, sls_val, sls_own, dup_nil, dup_val, dup_own, has_nil, has_val, has_own, now_val, now_new, back_ev, bg_nil, bg_cons, bs_no, bs_val, bs_own, bsf_some, bsf_none, b1_nil, b1_val, b1_own, iApp_ev, ap1_list, apF_list, iExU_ev, exF_list, exV_new, exV_tup, iPop_ev, po_snoc, iStL_ev, iFrz_ev, fz_own, fz_val, iRev_ev, gRev_list, gRev_tup, iSeqI_ev, iRevI_ev, iEnumU_ev, iR1_ev, turn_ev, at0, at1, at2, ix0, ix1, ix2, gAdd_int, gAdd_str, gAdd_tup, gSub_int, gMul_int, gMulR_int, gMulL_int, gDiv_int, gMod_int, gPow_int, gNeg_int, gLt_int, gLe_int, gGt_int, gGe_int, gEq_int, gNe_int, gEq_str, gNe_str, gEq_bool, gNe_bool, gIs_ap, gIsN_ap, isNone_none, isNone_int, isNone_tup, isNone_str, gIx_list, gIx_tup, gSl_tup, gSl_list, c1_ap, gLen_list, gLen_tup, gInt_int, gList_list, gList_tup, gTuple_list, gTuple_tup, truD_none, truD_bool, truD_int, truD_list, truD_tup, isi_int_int, isi_int_tup, isi_bool_bool, isi_tup_tup, isi_list_list, isi_bool_int, Option.bind_some, Option.map_some, List.getElem?_cons_zero, List.getElem?_cons_succ, List.set_cons_zero, List.set_cons_succ, List.length_cons, List.length_nil, if_true, reduceIte, decide_true, decide_false, Bool.true_and, Bool.and_true, Bool.not_true, Bool.not_false, Bool.false_eq_true, Bool.not_eq_true, decide_eq_true_eq, Nat.reduceAdd, Nat.reduceLeDiff, Nat.reduceEqDiff, Nat.reduceSub, Nat.reduceMul, Int.reduceLT, Int.reduceLE, Int.reduceEq, Int.reduceAdd, Int.reduceSub, Int.reduceMul, Int.reduceNeg, Int.reduceToNat, Int.reducePow, and_self, eq_self, and_true, true_and, Nat.reduceBEq, ncast, DL.sm, List.length_map, iDGet2_ev, iDGet_ev, iDIn_ev, keyD_int, keyD_str, iDNew_ev, dpF_own, dp1_own, iDPut_ev, ds1_own, dsF_own, iDSet_ev, lzF_tup, iLZip_ev, iDc_ev, iLc_ev, dA_val, dA_own, iPairs_ev, not_false_eq_true, Nat.reduceLT, iCopyD_ev, lcOF_own, iLcO_ev, alC_list, alC_dict, in_ints, notin_ints, gAdd_list, augF_int, iAug_ev, ne_eq, decide_not, lisv_v, iFor_ev, hl]
      exact run_ret (n := 2) (N := 4) (sls := [.val (.int i), .val (toldD S)]) e rfl
  | n + 1, 0, m, .c k a b ts, S, h, _, _ => h.elim
  | n + 1, d + 1, m, .c k a b ts, S, hb, hm, hd => by
    rw [show it__law_put (n + 1) = runDef 2 4 (m__law_put (it__law_put n) F__law_is_variable) from rfl]
    have e := @rfl _ (m__law_put (it__law_put n) F__law_is_variable [.val (enc (.c k a b ts)), .val (toldD S), .no, .no])
    have hl := lc_map (j := 3) (f := iCall (it__law_put n) (argC (iVar 3) (argC (iVar 1) argN))) (E := [.val (enc (.c k a b ts)), .val (toldD S), .no, .no]) (dn := enc) (g := fun t => enc (t.sub (phi S))) rfl ts [] (fun t ht => by
      have q := lput_eq n d m t S (hb.2 t ht) hm (by omega)
      simp only [iSeq_ev, sq_next, sq_ret, sq_brk, sq_cont, iNext_ev, iAsg_ev, as_val, as_new_t, as_new_f, setV_ev, set_no, set_val, set_own, iVar_ev, va_val, va_own, look_ev, lo_own, look_val, look_new, vis_val, vis_new, pub_val, pub_new, pub_own, opd_ap, iCon_ap, iBin_ap, iUn_ap, argN_ap, argC_ap, looks_nil, looks_cons, viss_nil, viss_cons, iCB_ap, iTup_ap, iLst_ap, isB_ap, isI_ap, iTst_ap, iTru_ap, iNotT_ap, iAndT_ap, iOrT_ap, iAnd_ap, iOr_ap, iNot_ap, iIf_ap, iSl_ap, iNoP_ap, iPart_ap, iIsi_ap, iIfS_ev, iRet_ev, ret_val', ret_new', ret_own', ro_own, iRetN_ev, iDrop_ev, iBrk_ev, iCont_ev, iBef_ev, iAft_ev, wfl_next, wfl_cont, wfl_brk, wfl_ret, wipe_nil, wipe_cons, wp_no, wp_val, wp_own, iNm_ev, iGT_tup, iGT_list, iGN_ev, iGC_ev, iAsgT_ev, iCall_ev, sls_nil, sls_val, sls_own, dup_nil, dup_val, dup_own, has_nil, has_val, has_own, now_val, now_new, back_ev, bg_nil, bg_cons, bs_no, bs_val, bs_own, bsf_some, bsf_none, b1_nil, b1_val, b1_own, iApp_ev, ap1_list, apF_list, iExU_ev, exF_list, exV_new, exV_tup, iPop_ev, po_snoc, iStL_ev, iFrz_ev, fz_own, fz_val, iRev_ev, gRev_list, gRev_tup, iSeqI_ev, iRevI_ev, iEnumU_ev, iR1_ev, turn_ev, at0, at1, at2, ix0, ix1, ix2, gAdd_int, gAdd_str, gAdd_tup, gSub_int, gMul_int, gMulR_int, gMulL_int, gDiv_int, gMod_int, gPow_int, gNeg_int, gLt_int, gLe_int, gGt_int, gGe_int, gEq_int, gNe_int, gEq_str, gNe_str, gEq_bool, gNe_bool, gIs_ap, gIsN_ap, isNone_none, isNone_int, isNone_tup, isNone_str, gIx_list, gIx_tup, gSl_tup, gSl_list, c1_ap, gLen_list, gLen_tup, gInt_int, gList_list, gList_tup, gTuple_list, gTuple_tup, truD_none, truD_bool, truD_int, truD_list, truD_tup, isi_int_int, isi_int_tup, isi_bool_bool, isi_tup_tup, isi_list_list, isi_bool_int, Option.bind_some, Option.map_some, List.getElem?_cons_zero, List.getElem?_cons_succ, List.set_cons_zero, List.set_cons_succ, List.length_cons, List.length_nil, if_true, reduceIte, decide_true, decide_false, Bool.true_and, Bool.and_true, Bool.not_true, Bool.not_false, Bool.false_eq_true, Bool.not_eq_true, decide_eq_true_eq, Nat.reduceAdd, Nat.reduceLeDiff, Nat.reduceEqDiff, Nat.reduceSub, Nat.reduceMul, Int.reduceLT, Int.reduceLE, Int.reduceEq, Int.reduceAdd, Int.reduceSub, Int.reduceMul, Int.reduceNeg, Int.reduceToNat, Int.reducePow, and_self, eq_self, and_true, true_and, Nat.reduceBEq, ncast, DL.sm, List.length_map, iDGet2_ev, iDGet_ev, iDIn_ev, keyD_int, keyD_str, iDNew_ev, dpF_own, dp1_own, iDPut_ev, ds1_own, dsF_own, iDSet_ev, lzF_tup, iLZip_ev, iDc_ev, iLc_ev, dA_val, dA_own, iPairs_ev, not_false_eq_true, Nat.reduceLT, iCopyD_ev, lcOF_own, iLcO_ev, alC_list, alC_dict, in_ints, notin_ints, gAdd_list, augF_int, iAug_ev, ne_eq, decide_not, q]) (by have := hb.1; simp only [List.length_nil]; omega)
    rw [← encs_map] at hl
    have hl' : lcLoop (iNm 3) iYes (iCall (it__law_put n) (argC (iVar 3) (argC (iVar 1) argN))) [3] (encs ts) [.val (.tuple [sym k a b, .tuple (encs ts)]), .val (toldD S), .no, .no] [] = _ := hl
    have ee : encs (subsT (phi S) ts) = ts.map fun t => enc (t.sub (phi S)) := by rw [subsT_map, encs_map, List.map_map]; rfl
    rw [T.sub, enc_c k a b (subsT (phi S) ts), ee]
    conv at e => rhs; simp only [m__law_put, iSeq_ev, sq_next, sq_ret, sq_brk, sq_cont, iNext_ev, iAsg_ev, as_val, as_new_t, as_new_f, setV_ev, set_no, set_val, set_own, iVar_ev, va_val, va_own, look_ev, lo_own, look_val, look_new, vis_val, vis_new, pub_val, pub_new, pub_own, opd_ap, iCon_ap, iBin_ap, iUn_ap, argN_ap, argC_ap, looks_nil, looks_cons, viss_nil, viss_cons, iCB_ap, iTup_ap, iLst_ap, isB_ap, isI_ap, iTst_ap, iTru_ap, iNotT_ap, iAndT_ap, iOrT_ap, iAnd_ap, iOr_ap, iNot_ap, iIf_ap, iSl_ap, iNoP_ap, iPart_ap, iIsi_ap, iIfS_ev, iRet_ev, ret_val', ret_new', ret_own', ro_own, iRetN_ev, iDrop_ev, iBrk_ev, iCont_ev, iBef_ev, iAft_ev, wfl_next, wfl_cont, wfl_brk, wfl_ret, wipe_nil, wipe_cons, wp_no, wp_val, wp_own, iNm_ev, iGT_tup, iGT_list, iGN_ev, iGC_ev, iAsgT_ev, iCall_ev, sls_nil, sls_val, sls_own, dup_nil, dup_val, dup_own, has_nil, has_val, has_own, now_val, now_new, back_ev, bg_nil, bg_cons, bs_no, bs_val, bs_own, bsf_some, bsf_none, b1_nil, b1_val, b1_own, iApp_ev, ap1_list, apF_list, iExU_ev, exF_list, exV_new, exV_tup, iPop_ev, po_snoc, iStL_ev, iFrz_ev, fz_own, fz_val, iRev_ev, gRev_list, gRev_tup, iSeqI_ev, iRevI_ev, iEnumU_ev, iR1_ev, turn_ev, at0, at1, at2, ix0, ix1, ix2, gAdd_int, gAdd_str, gAdd_tup, gSub_int, gMul_int, gMulR_int, gMulL_int, gDiv_int, gMod_int, gPow_int, gNeg_int, gLt_int, gLe_int, gGt_int, gGe_int, gEq_int, gNe_int, gEq_str, gNe_str, gEq_bool, gNe_bool, gIs_ap, gIsN_ap, isNone_none, isNone_int, isNone_tup, isNone_str, gIx_list, gIx_tup, gSl_tup, gSl_list, c1_ap, gLen_list, gLen_tup, gInt_int, gList_list, gList_tup, gTuple_list, gTuple_tup, truD_none, truD_bool, truD_int, truD_list, truD_tup, isi_int_int, isi_int_tup, isi_bool_bool, isi_tup_tup, isi_list_list, isi_bool_int, Option.bind_some, Option.map_some, List.getElem?_cons_zero, List.getElem?_cons_succ, List.set_cons_zero, List.set_cons_succ, List.length_cons, List.length_nil, if_true, reduceIte, decide_true, decide_false, Bool.true_and, Bool.and_true, Bool.not_true, Bool.not_false, Bool.false_eq_true, Bool.not_eq_true, decide_eq_true_eq, Nat.reduceAdd, Nat.reduceLeDiff, Nat.reduceEqDiff, Nat.reduceSub, Nat.reduceMul, Int.reduceLT, Int.reduceLE, Int.reduceEq, Int.reduceAdd, Int.reduceSub, Int.reduceMul, Int.reduceNeg, Int.reduceToNat, Int.reducePow, and_self, eq_self, and_true, true_and, Nat.reduceBEq, ncast, DL.sm, List.length_map, iDGet2_ev, iDGet_ev, iDIn_ev, keyD_int, keyD_str, iDNew_ev, dpF_own, dp1_own, iDPut_ev, ds1_own, dsF_own, iDSet_ev, lzF_tup, iLZip_ev, iDc_ev, iLc_ev, dA_val, dA_own, iPairs_ev, not_false_eq_true, Nat.reduceLT, iCopyD_ev, lcOF_own, iLcO_ev, alC_list, alC_dict, in_ints, notin_ints, gAdd_list, augF_int, iAug_ev, ne_eq, decide_not, enc_c, lisv_t, iLc_ev, hl', List.nil_append]
    exact run_ret (n := 2) (N := 4) (sls := [.val (enc (.c k a b ts)), .val (toldD S)]) e rfl
end Sh

/-! Clauses: variables, instances, numbers. -/
namespace Sh
open PySem L2 DL
open LS
def occL (l : Lit) : List Int := l.2.1.occ ++ l.2.2.occ
def occC : List Lit → List Int
  | [] => []
  | l :: ls => occL l ++ occC ls
def sizeL (l : Lit) : Nat := l.2.1.size + l.2.2.size
def sizeC : List Lit → Nat
  | [] => 0
  | l :: ls => sizeL l + sizeC ls
theorem occL_len (l : Lit) : (occL l).length ≤ sizeL l := by
  have := occ_len l.2.1
  have := occ_len l.2.2
  unfold occL sizeL
  rw [List.length_append]
  omega
theorem occC_len : ∀ ls : List Lit, (occC ls).length ≤ sizeC ls
  | [] => by simp [occC, sizeC]
  | l :: ls => by
    have := occL_len l
    have := occC_len ls
    rw [occC, sizeC, List.length_append]
    omega
theorem sizeC_bd {m n : Nat} : ∀ ls : List Lit, (∀ l ∈ ls, LBd (m + 1) n l) → sizeC ls ≤ ls.length * (2 * (m + 2) ^ n)
  | [], _ => by simp [sizeC]
  | l :: ls, h => by
    have q := sizeC_bd ls fun k hk => h k (List.mem_cons_of_mem _ hk)
    have h0 := h l List.mem_cons_self
    have a := size_bd n _ h0.1
    have b := size_bd n _ h0.2
    rw [sizeC, List.length_cons, Nat.add_mul, Nat.one_mul]
    unfold sizeL
    omega
theorem cv_in {d0 : D} {l0 : Sl} : ∀ (xs l : List Int), l.Nodup → l.length + xs.length ≤ 90000 →
    floop (iNm 3) (b1_clause_variables F_variables) (xs.map .int) [.val d0, .own false (.dictK (kI l) (trs l)), l0, .no] = some (.next [.val d0, .own false (.dictK (kI (dd l xs)) (trs (dd l xs))), l0, .no])
  | [], l, _, _ => rfl
  | x :: xs, l, nd, hl => by
    rw [List.length_cons] at hl
    have q := cv_in (d0 := d0) (l0 := l0) xs (insl l x) (insl_nodup nd) (by have := insl_len (l := l) (x := x); omega)
    have hz : (trs l).length < 100000 := by unfold trs; rw [List.length_map]; omega
    have hz2 := kI_nodup nd
    have t : turn (iNm 3) (b1_clause_variables F_variables) [.val d0, .own false (.dictK (kI l) (trs l)), l0, .no] (.int x) = some (.next [.val d0, .own false (.dictK (kI (insl l x)) (trs (insl l x))), l0, .no]) := by
      simp only [b1_clause_variables, iSeq_ev, sq_next, sq_ret, sq_brk, sq_cont, iNext_ev, iAsg_ev, as_val, as_new_t, as_new_f, setV_ev, set_no, set_val, set_own, iVar_ev, va_val, va_own, look_ev, lo_own, look_val, look_new, vis_val, vis_new, pub_val, pub_new, pub_own, opd_ap, iCon_ap, iBin_ap, iUn_ap, argN_ap, argC_ap, looks_nil, looks_cons, viss_nil, viss_cons, iCB_ap, iTup_ap, iLst_ap, isB_ap, isI_ap, iTst_ap, iTru_ap, iNotT_ap, iAndT_ap, iOrT_ap, iAnd_ap, iOr_ap, iNot_ap, iIf_ap, iSl_ap, iNoP_ap, iPart_ap, iIsi_ap, iIfS_ev, iRet_ev, ret_val', ret_new', ret_own', ro_own, iRetN_ev, iDrop_ev, iBrk_ev, iCont_ev, iBef_ev, iAft_ev, wfl_next, wfl_cont, wfl_brk, wfl_ret, wipe_nil, wipe_cons, wp_no, wp_val, wp_own, iNm_ev, iGT_tup, iGT_list, iGN_ev, iGC_ev, iAsgT_ev, iCall_ev, sls_nil, sls_val, sls_own, dup_nil, dup_val, dup_own, has_nil, has_val, has_own, now_val, now_new, back_ev, bg_nil, bg_cons, bs_no, bs_val, bs_own, bsf_some, bsf_none, b1_nil, b1_val, b1_own, iApp_ev, ap1_list, apF_list, iExU_ev, exF_list, exV_new, exV_tup, iPop_ev, po_snoc, iStL_ev, iFrz_ev, fz_own, fz_val, iRev_ev, gRev_list, gRev_tup, iSeqI_ev, iRevI_ev, iEnumU_ev, iR1_ev, turn_ev, at0, at1, at2, ix0, ix1, ix2, gAdd_int, gAdd_str, gAdd_tup, gSub_int, gMul_int, gMulR_int, gMulL_int, gDiv_int, gMod_int, gPow_int, gNeg_int, gLt_int, gLe_int, gGt_int, gGe_int, gEq_int, gNe_int, gEq_str, gNe_str, gEq_bool, gNe_bool, gIs_ap, gIsN_ap, isNone_none, isNone_int, isNone_tup, isNone_str, gIx_list, gIx_tup, gSl_tup, gSl_list, c1_ap, gLen_list, gLen_tup, gInt_int, gList_list, gList_tup, gTuple_list, gTuple_tup, truD_none, truD_bool, truD_int, truD_list, truD_tup, isi_int_int, isi_int_tup, isi_bool_bool, isi_tup_tup, isi_list_list, isi_bool_int, Option.bind_some, Option.map_some, List.getElem?_cons_zero, List.getElem?_cons_succ, List.set_cons_zero, List.set_cons_succ, List.length_cons, List.length_nil, if_true, reduceIte, decide_true, decide_false, Bool.true_and, Bool.and_true, Bool.not_true, Bool.not_false, Bool.false_eq_true, Bool.not_eq_true, decide_eq_true_eq, Nat.reduceAdd, Nat.reduceLeDiff, Nat.reduceEqDiff, Nat.reduceSub, Nat.reduceMul, Int.reduceLT, Int.reduceLE, Int.reduceEq, Int.reduceAdd, Int.reduceSub, Int.reduceMul, Int.reduceNeg, Int.reduceToNat, Int.reducePow, and_self, eq_self, and_true, true_and, Nat.reduceBEq, ncast, DL.sm, List.length_map, iDGet2_ev, iDGet_ev, iDIn_ev, keyD_int, keyD_str, iDNew_ev, dpF_own, dp1_own, iDPut_ev, ds1_own, dsF_own, iDSet_ev, lzF_tup, iLZip_ev, iDc_ev, iLc_ev, dA_val, dA_own, iPairs_ev, not_false_eq_true, Nat.reduceLT, iCopyD_ev, lcOF_own, iLcO_ev, alC_list, alC_dict, in_ints, notin_ints, gAdd_list, augF_int, iAug_ev, ne_eq, decide_not, hz, hz2, putD_tr]
    rw [List.map_cons, fl_next t, q, dd_cons]
theorem cv_out {d0 : D} : ∀ (ls : List Lit) (l : List Int), l.Nodup → l.length + sizeC ls ≤ 90000 →
    floop (iNm 2) (b2_clause_variables F_variables) (ls.map encL) [.val d0, .own false (.dictK (kI l) (trs l)), .no, .no] = some (.next [.val d0, .own false (.dictK (kI (dd l (occC ls))) (trs (dd l (occC ls)))), .no, .no])
  | [], l, _, _ => rfl
  | c :: ls, l, nd, hl => by
    rw [sizeC] at hl
    unfold sizeL at hl
    have o1 := occ_len c.2.1
    have o2 := occ_len c.2.2
    have v1 : c.2.1.vars.length ≤ c.2.1.size := by unfold T.vars; have := dd_len (xs := c.2.1.occ) (acc := []); simp only [List.length_nil] at this; omega
    have v2 : c.2.2.vars.length ≤ c.2.2.size := by unfold T.vars; have := dd_len (xs := c.2.2.occ) (acc := []); simp only [List.length_nil] at this; omega
    have q1 := cv_in (d0 := d0) (l0 := .val (encL c)) (c.2.1.vars ++ c.2.2.vars) l nd (by rw [List.length_append]; omega)
    have e : dd l (c.2.1.vars ++ c.2.2.vars) = dd l (occL c) := by
      unfold T.vars occL
      rw [dd_app, dd_app, dd_first, dd_first]
    rw [e] at q1
    have q := cv_out (d0 := d0) ls (dd l (occL c)) (dd_nodup nd) (by have := dd_len (xs := occL c) (acc := l); have := occL_len c; unfold sizeL at this; omega)
    have g1 := vars_eq (t := c.2.1) (by omega)
    have g2 := vars_eq (t := c.2.2) (by omega)
    have hz : (c.2.1.vars.map D.int).length + (c.2.2.vars.map D.int).length ≤ 100000 := by rw [List.length_map, List.length_map]; omega
    rw [List.map_append] at q1
    have ec : encL c = .tuple [.bool c.1, enc c.2.1, enc c.2.2] := rfl
    rw [ec] at q1
    have t : turn (iNm 2) (b2_clause_variables F_variables) [.val d0, .own false (.dictK (kI l) (trs l)), .no, .no] (encL c) = some (.next [.val d0, .own false (.dictK (kI (dd l (occL c))) (trs (dd l (occL c)))), .no, .no]) := by
      rw [ec]
      rw [List.length_map, List.length_map] at hz
      simp only [b2_clause_variables, iFor_ev, iSeq_ev, sq_next, sq_ret, sq_brk, sq_cont, iNext_ev, iAsg_ev, as_val, as_new_t, as_new_f, setV_ev, set_no, set_val, set_own, iVar_ev, va_val, va_own, look_ev, lo_own, look_val, look_new, vis_val, vis_new, pub_val, pub_new, pub_own, opd_ap, iCon_ap, iBin_ap, iUn_ap, argN_ap, argC_ap, looks_nil, looks_cons, viss_nil, viss_cons, iCB_ap, iTup_ap, iLst_ap, isB_ap, isI_ap, iTst_ap, iTru_ap, iNotT_ap, iAndT_ap, iOrT_ap, iAnd_ap, iOr_ap, iNot_ap, iIf_ap, iSl_ap, iNoP_ap, iPart_ap, iIsi_ap, iIfS_ev, iRet_ev, ret_val', ret_new', ret_own', ro_own, iRetN_ev, iDrop_ev, iBrk_ev, iCont_ev, iBef_ev, iAft_ev, wfl_next, wfl_cont, wfl_brk, wfl_ret, wipe_nil, wipe_cons, wp_no, wp_val, wp_own, iNm_ev, iGT_tup, iGT_list, iGN_ev, iGC_ev, iAsgT_ev, iCall_ev, sls_nil, sls_val, sls_own, dup_nil, dup_val, dup_own, has_nil, has_val, has_own, now_val, now_new, back_ev, bg_nil, bg_cons, bs_no, bs_val, bs_own, bsf_some, bsf_none, b1_nil, b1_val, b1_own, iApp_ev, ap1_list, apF_list, iExU_ev, exF_list, exV_new, exV_tup, iPop_ev, po_snoc, iStL_ev, iFrz_ev, fz_own, fz_val, iRev_ev, gRev_list, gRev_tup, iSeqI_ev, iRevI_ev, iEnumU_ev, iR1_ev, turn_ev, at0, at1, at2, ix0, ix1, ix2, gAdd_int, gAdd_str, gAdd_tup, gSub_int, gMul_int, gMulR_int, gMulL_int, gDiv_int, gMod_int, gPow_int, gNeg_int, gLt_int, gLe_int, gGt_int, gGe_int, gEq_int, gNe_int, gEq_str, gNe_str, gEq_bool, gNe_bool, gIs_ap, gIsN_ap, isNone_none, isNone_int, isNone_tup, isNone_str, gIx_list, gIx_tup, gSl_tup, gSl_list, c1_ap, gLen_list, gLen_tup, gInt_int, gList_list, gList_tup, gTuple_list, gTuple_tup, truD_none, truD_bool, truD_int, truD_list, truD_tup, isi_int_int, isi_int_tup, isi_bool_bool, isi_tup_tup, isi_list_list, isi_bool_int, Option.bind_some, Option.map_some, List.getElem?_cons_zero, List.getElem?_cons_succ, List.set_cons_zero, List.set_cons_succ, List.length_cons, List.length_nil, if_true, reduceIte, decide_true, decide_false, Bool.true_and, Bool.and_true, Bool.not_true, Bool.not_false, Bool.false_eq_true, Bool.not_eq_true, decide_eq_true_eq, Nat.reduceAdd, Nat.reduceLeDiff, Nat.reduceEqDiff, Nat.reduceSub, Nat.reduceMul, Int.reduceLT, Int.reduceLE, Int.reduceEq, Int.reduceAdd, Int.reduceSub, Int.reduceMul, Int.reduceNeg, Int.reduceToNat, Int.reducePow, and_self, eq_self, and_true, true_and, Nat.reduceBEq, ncast, DL.sm, List.length_map, iDGet2_ev, iDGet_ev, iDIn_ev, keyD_int, keyD_str, iDNew_ev, dpF_own, dp1_own, iDPut_ev, ds1_own, dsF_own, iDSet_ev, lzF_tup, iLZip_ev, iDc_ev, iLc_ev, dA_val, dA_own, iPairs_ev, not_false_eq_true, Nat.reduceLT, iCopyD_ev, lcOF_own, iLcO_ev, alC_list, alC_dict, in_ints, notin_ints, gAdd_list, augF_int, iAug_ev, ne_eq, decide_not, g1, g2, hz, q1]
    rw [List.map_cons, fl_next t, q, occC, dd_app]
theorem cvars_eq {ls : List Lit} (h : sizeC ls ≤ 90000) : F_clause_variables [.val (clD ls)] = some (.new (.list ((dd [] (occC ls)).map .int)), [.val (clD ls)]) := by
  have hl := cv_out (d0 := clD ls) ls [] List.nodup_nil (by simp only [List.length_nil]; omega)
  have hl' : floop (iNm 2) (b2_clause_variables F_variables) (ls.map encL) [.val (.tuple (ls.map encL)), .own false (.dictK [] []), .no, .no] = _ := hl
  have e := @rfl _ (m_clause_variables F_variables [.val (.tuple (ls.map encL)), .no, .no, .no])
  conv at e => rhs; simp only [m_clause_variables, iFor_ev, iSeq_ev, sq_next, sq_ret, sq_brk, sq_cont, iNext_ev, iAsg_ev, as_val, as_new_t, as_new_f, setV_ev, set_no, set_val, set_own, iVar_ev, va_val, va_own, look_ev, lo_own, look_val, look_new, vis_val, vis_new, pub_val, pub_new, pub_own, opd_ap, iCon_ap, iBin_ap, iUn_ap, argN_ap, argC_ap, looks_nil, looks_cons, viss_nil, viss_cons, iCB_ap, iTup_ap, iLst_ap, isB_ap, isI_ap, iTst_ap, iTru_ap, iNotT_ap, iAndT_ap, iOrT_ap, iAnd_ap, iOr_ap, iNot_ap, iIf_ap, iSl_ap, iNoP_ap, iPart_ap, iIsi_ap, iIfS_ev, iRet_ev, ret_val', ret_new', ret_own', ro_own, iRetN_ev, iDrop_ev, iBrk_ev, iCont_ev, iBef_ev, iAft_ev, wfl_next, wfl_cont, wfl_brk, wfl_ret, wipe_nil, wipe_cons, wp_no, wp_val, wp_own, iNm_ev, iGT_tup, iGT_list, iGN_ev, iGC_ev, iAsgT_ev, iCall_ev, sls_nil, sls_val, sls_own, dup_nil, dup_val, dup_own, has_nil, has_val, has_own, now_val, now_new, back_ev, bg_nil, bg_cons, bs_no, bs_val, bs_own, bsf_some, bsf_none, b1_nil, b1_val, b1_own, iApp_ev, ap1_list, apF_list, iExU_ev, exF_list, exV_new, exV_tup, iPop_ev, po_snoc, iStL_ev, iFrz_ev, fz_own, fz_val, iRev_ev, gRev_list, gRev_tup, iSeqI_ev, iRevI_ev, iEnumU_ev, iR1_ev, turn_ev, at0, at1, at2, ix0, ix1, ix2, gAdd_int, gAdd_str, gAdd_tup, gSub_int, gMul_int, gMulR_int, gMulL_int, gDiv_int, gMod_int, gPow_int, gNeg_int, gLt_int, gLe_int, gGt_int, gGe_int, gEq_int, gNe_int, gEq_str, gNe_str, gEq_bool, gNe_bool, gIs_ap, gIsN_ap, isNone_none, isNone_int, isNone_tup, isNone_str, gIx_list, gIx_tup, gSl_tup, gSl_list, c1_ap, gLen_list, gLen_tup, gInt_int, gList_list, gList_tup, gTuple_list, gTuple_tup, truD_none, truD_bool, truD_int, truD_list, truD_tup, isi_int_int, isi_int_tup, isi_bool_bool, isi_tup_tup, isi_list_list, isi_bool_int, Option.bind_some, Option.map_some, List.getElem?_cons_zero, List.getElem?_cons_succ, List.set_cons_zero, List.set_cons_succ, List.length_cons, List.length_nil, if_true, reduceIte, decide_true, decide_false, Bool.true_and, Bool.and_true, Bool.not_true, Bool.not_false, Bool.false_eq_true, Bool.not_eq_true, decide_eq_true_eq, Nat.reduceAdd, Nat.reduceLeDiff, Nat.reduceEqDiff, Nat.reduceSub, Nat.reduceMul, Int.reduceLT, Int.reduceLE, Int.reduceEq, Int.reduceAdd, Int.reduceSub, Int.reduceMul, Int.reduceNeg, Int.reduceToNat, Int.reducePow, and_self, eq_self, and_true, true_and, Nat.reduceBEq, ncast, DL.sm, List.length_map, iDGet2_ev, iDGet_ev, iDIn_ev, keyD_int, keyD_str, iDNew_ev, dpF_own, dp1_own, iDPut_ev, ds1_own, dsF_own, iDSet_ev, lzF_tup, iLZip_ev, iDc_ev, iLc_ev, dA_val, dA_own, iPairs_ev, not_false_eq_true, Nat.reduceLT, iCopyD_ev, lcOF_own, iLcO_ev, alC_list, alC_dict, in_ints, notin_ints, gAdd_list, augF_int, iAug_ev, ne_eq, decide_not, hl', keysD_kI]
  exact run_ret (n := 1) (N := 4) (sls := [.val (clD ls)]) e rfl
theorem lcv_loop {m n : Nat} {d0 : D} (hn : n < 12) : ∀ (ls : List Lit) (l : List Int), (∀ c ∈ ls, LBd m n c) → l.length + sizeC ls ≤ 90000 →
    floop (iNm 2) (b1__law_clause_variables F__law_variables) (ls.map encL) [.val d0, .val (.list (l.map .int)), .no] = some (.next [.val d0, .val (.list ((dd l (occC ls)).map .int)), .no])
  | [], l, _, _ => rfl
  | c :: ls, l, hb, hl => by
    rw [sizeC] at hl
    unfold sizeL at hl
    have h0 := hb c List.mem_cons_self
    have o1 := occ_len c.2.1
    have o2 := occ_len c.2.2
    have n1 := dd_len (xs := c.2.1.occ) (acc := l)
    have n2 := dd_len (xs := c.2.2.occ) (acc := dd l c.2.1.occ)
    have q1 := lvars_eq 12 n m c.2.1 l h0.1 hn (by omega)
    have q2 := lvars_eq 12 n m c.2.2 (dd l c.2.1.occ) h0.2 hn (by omega)
    rw [← dd_app] at q2
    have q := lcv_loop (d0 := d0) hn ls (dd l (occL c)) (fun k hk => hb k (List.mem_cons_of_mem _ hk)) (by have := dd_len (xs := occL c) (acc := l); have := occL_len c; unfold sizeL at this; omega)
    have q1' : F__law_variables [.val (enc c.2.1), .val (.list (l.map .int))] = _ := q1
    have q2' : F__law_variables [.val (enc c.2.2), .val (.list ((dd l c.2.1.occ).map .int))] = _ := q2
    have ec : encL c = .tuple [.bool c.1, enc c.2.1, enc c.2.2] := rfl
    have t : turn (iNm 2) (b1__law_clause_variables F__law_variables) [.val d0, .val (.list (l.map .int)), .no] (encL c) = some (.next [.val d0, .val (.list ((dd l (occL c)).map .int)), .no]) := by
      rw [ec]
      simp only [b1__law_clause_variables, iSeq_ev, sq_next, sq_ret, sq_brk, sq_cont, iNext_ev, iAsg_ev, as_val, as_new_t, as_new_f, setV_ev, set_no, set_val, set_own, iVar_ev, va_val, va_own, look_ev, lo_own, look_val, look_new, vis_val, vis_new, pub_val, pub_new, pub_own, opd_ap, iCon_ap, iBin_ap, iUn_ap, argN_ap, argC_ap, looks_nil, looks_cons, viss_nil, viss_cons, iCB_ap, iTup_ap, iLst_ap, isB_ap, isI_ap, iTst_ap, iTru_ap, iNotT_ap, iAndT_ap, iOrT_ap, iAnd_ap, iOr_ap, iNot_ap, iIf_ap, iSl_ap, iNoP_ap, iPart_ap, iIsi_ap, iIfS_ev, iRet_ev, ret_val', ret_new', ret_own', ro_own, iRetN_ev, iDrop_ev, iBrk_ev, iCont_ev, iBef_ev, iAft_ev, wfl_next, wfl_cont, wfl_brk, wfl_ret, wipe_nil, wipe_cons, wp_no, wp_val, wp_own, iNm_ev, iGT_tup, iGT_list, iGN_ev, iGC_ev, iAsgT_ev, iCall_ev, sls_nil, sls_val, sls_own, dup_nil, dup_val, dup_own, has_nil, has_val, has_own, now_val, now_new, back_ev, bg_nil, bg_cons, bs_no, bs_val, bs_own, bsf_some, bsf_none, b1_nil, b1_val, b1_own, iApp_ev, ap1_list, apF_list, iExU_ev, exF_list, exV_new, exV_tup, iPop_ev, po_snoc, iStL_ev, iFrz_ev, fz_own, fz_val, iRev_ev, gRev_list, gRev_tup, iSeqI_ev, iRevI_ev, iEnumU_ev, iR1_ev, turn_ev, at0, at1, at2, ix0, ix1, ix2, gAdd_int, gAdd_str, gAdd_tup, gSub_int, gMul_int, gMulR_int, gMulL_int, gDiv_int, gMod_int, gPow_int, gNeg_int, gLt_int, gLe_int, gGt_int, gGe_int, gEq_int, gNe_int, gEq_str, gNe_str, gEq_bool, gNe_bool, gIs_ap, gIsN_ap, isNone_none, isNone_int, isNone_tup, isNone_str, gIx_list, gIx_tup, gSl_tup, gSl_list, c1_ap, gLen_list, gLen_tup, gInt_int, gList_list, gList_tup, gTuple_list, gTuple_tup, truD_none, truD_bool, truD_int, truD_list, truD_tup, isi_int_int, isi_int_tup, isi_bool_bool, isi_tup_tup, isi_list_list, isi_bool_int, Option.bind_some, Option.map_some, List.getElem?_cons_zero, List.getElem?_cons_succ, List.set_cons_zero, List.set_cons_succ, List.length_cons, List.length_nil, if_true, reduceIte, decide_true, decide_false, Bool.true_and, Bool.and_true, Bool.not_true, Bool.not_false, Bool.false_eq_true, Bool.not_eq_true, decide_eq_true_eq, Nat.reduceAdd, Nat.reduceLeDiff, Nat.reduceEqDiff, Nat.reduceSub, Nat.reduceMul, Int.reduceLT, Int.reduceLE, Int.reduceEq, Int.reduceAdd, Int.reduceSub, Int.reduceMul, Int.reduceNeg, Int.reduceToNat, Int.reducePow, and_self, eq_self, and_true, true_and, Nat.reduceBEq, ncast, DL.sm, List.length_map, iDGet2_ev, iDGet_ev, iDIn_ev, keyD_int, keyD_str, iDNew_ev, dpF_own, dp1_own, iDPut_ev, ds1_own, dsF_own, iDSet_ev, lzF_tup, iLZip_ev, iDc_ev, iLc_ev, dA_val, dA_own, iPairs_ev, not_false_eq_true, Nat.reduceLT, iCopyD_ev, lcOF_own, iLcO_ev, alC_list, alC_dict, in_ints, notin_ints, gAdd_list, augF_int, iAug_ev, ne_eq, decide_not, q1', q2']
      rfl
    rw [List.map_cons, fl_next t, q, occC, dd_app]
theorem lcvars_eq {m n : Nat} {ls : List Lit} (hn : n < 12) (hb : ∀ c ∈ ls, LBd m n c) (h : sizeC ls ≤ 90000) : F__law_clause_variables [.val (clD ls)] = some (.val (.list ((dd [] (occC ls)).map .int)), [.val (clD ls)]) := by
  have hl := lcv_loop (d0 := clD ls) hn ls [] hb (by simp only [List.length_nil]; omega)
  have hl' : floop (iNm 2) (b1__law_clause_variables F__law_variables) (ls.map encL) [.val (.tuple (ls.map encL)), .val (.list []), .no] = _ := hl
  have e := @rfl _ (m__law_clause_variables F__law_variables [.val (.tuple (ls.map encL)), .no, .no])
  conv at e => rhs; simp only [m__law_clause_variables, iFor_ev, iSeq_ev, sq_next, sq_ret, sq_brk, sq_cont, iNext_ev, iAsg_ev, as_val, as_new_t, as_new_f, setV_ev, set_no, set_val, set_own, iVar_ev, va_val, va_own, look_ev, lo_own, look_val, look_new, vis_val, vis_new, pub_val, pub_new, pub_own, opd_ap, iCon_ap, iBin_ap, iUn_ap, argN_ap, argC_ap, looks_nil, looks_cons, viss_nil, viss_cons, iCB_ap, iTup_ap, iLst_ap, isB_ap, isI_ap, iTst_ap, iTru_ap, iNotT_ap, iAndT_ap, iOrT_ap, iAnd_ap, iOr_ap, iNot_ap, iIf_ap, iSl_ap, iNoP_ap, iPart_ap, iIsi_ap, iIfS_ev, iRet_ev, ret_val', ret_new', ret_own', ro_own, iRetN_ev, iDrop_ev, iBrk_ev, iCont_ev, iBef_ev, iAft_ev, wfl_next, wfl_cont, wfl_brk, wfl_ret, wipe_nil, wipe_cons, wp_no, wp_val, wp_own, iNm_ev, iGT_tup, iGT_list, iGN_ev, iGC_ev, iAsgT_ev, iCall_ev, sls_nil, sls_val, sls_own, dup_nil, dup_val, dup_own, has_nil, has_val, has_own, now_val, now_new, back_ev, bg_nil, bg_cons, bs_no, bs_val, bs_own, bsf_some, bsf_none, b1_nil, b1_val, b1_own, iApp_ev, ap1_list, apF_list, iExU_ev, exF_list, exV_new, exV_tup, iPop_ev, po_snoc, iStL_ev, iFrz_ev, fz_own, fz_val, iRev_ev, gRev_list, gRev_tup, iSeqI_ev, iRevI_ev, iEnumU_ev, iR1_ev, turn_ev, at0, at1, at2, ix0, ix1, ix2, gAdd_int, gAdd_str, gAdd_tup, gSub_int, gMul_int, gMulR_int, gMulL_int, gDiv_int, gMod_int, gPow_int, gNeg_int, gLt_int, gLe_int, gGt_int, gGe_int, gEq_int, gNe_int, gEq_str, gNe_str, gEq_bool, gNe_bool, gIs_ap, gIsN_ap, isNone_none, isNone_int, isNone_tup, isNone_str, gIx_list, gIx_tup, gSl_tup, gSl_list, c1_ap, gLen_list, gLen_tup, gInt_int, gList_list, gList_tup, gTuple_list, gTuple_tup, truD_none, truD_bool, truD_int, truD_list, truD_tup, isi_int_int, isi_int_tup, isi_bool_bool, isi_tup_tup, isi_list_list, isi_bool_int, Option.bind_some, Option.map_some, List.getElem?_cons_zero, List.getElem?_cons_succ, List.set_cons_zero, List.set_cons_succ, List.length_cons, List.length_nil, if_true, reduceIte, decide_true, decide_false, Bool.true_and, Bool.and_true, Bool.not_true, Bool.not_false, Bool.false_eq_true, Bool.not_eq_true, decide_eq_true_eq, Nat.reduceAdd, Nat.reduceLeDiff, Nat.reduceEqDiff, Nat.reduceSub, Nat.reduceMul, Int.reduceLT, Int.reduceLE, Int.reduceEq, Int.reduceAdd, Int.reduceSub, Int.reduceMul, Int.reduceNeg, Int.reduceToNat, Int.reducePow, and_self, eq_self, and_true, true_and, Nat.reduceBEq, ncast, DL.sm, List.length_map, iDGet2_ev, iDGet_ev, iDIn_ev, keyD_int, keyD_str, iDNew_ev, dpF_own, dp1_own, iDPut_ev, ds1_own, dsF_own, iDSet_ev, lzF_tup, iLZip_ev, iDc_ev, iLc_ev, dA_val, dA_own, iPairs_ev, not_false_eq_true, Nat.reduceLT, iCopyD_ev, lcOF_own, iLcO_ev, alC_list, alC_dict, in_ints, notin_ints, gAdd_list, augF_int, iAug_ev, ne_eq, decide_not, hl']
  exact run_ret (n := 1) (N := 3) (sls := [.val (clD ls)]) e rfl
/-! instances of clauses -/
def subL (φ : Int → T) (l : Lit) : Lit := (l.1, l.2.1.sub φ, l.2.2.sub φ)
theorem putl_eq {n m : Nat} {l : Lit} {S : Su} (h : LBd m n l) (hm : m ≤ 1000) (hn : n < 12) : F_put_literal [.val (encL l), .val (dictD S)] = some (.val (encL (subL (phi S) l)), [.val (encL l), .val (dictD S)]) := by
  have q1 : F_put [.val (enc l.2.1), .val (dictD S)] = _ := put_eq 12 n m l.2.1 S h.1 hm hn
  have q2 : F_put [.val (enc l.2.2), .val (dictD S)] = _ := put_eq 12 n m l.2.2 S h.2 hm hn
  have e := @rfl _ (m_put_literal F_put [.val (.tuple [.bool l.1, enc l.2.1, enc l.2.2]), .val (dictD S), .no, .no, .no])
  conv at e => rhs; simp only [m_put_literal, iSeq_ev, sq_next, sq_ret, sq_brk, sq_cont, iNext_ev, iAsg_ev, as_val, as_new_t, as_new_f, setV_ev, set_no, set_val, set_own, iVar_ev, va_val, va_own, look_ev, lo_own, look_val, look_new, vis_val, vis_new, pub_val, pub_new, pub_own, opd_ap, iCon_ap, iBin_ap, iUn_ap, argN_ap, argC_ap, looks_nil, looks_cons, viss_nil, viss_cons, iCB_ap, iTup_ap, iLst_ap, isB_ap, isI_ap, iTst_ap, iTru_ap, iNotT_ap, iAndT_ap, iOrT_ap, iAnd_ap, iOr_ap, iNot_ap, iIf_ap, iSl_ap, iNoP_ap, iPart_ap, iIsi_ap, iIfS_ev, iRet_ev, ret_val', ret_new', ret_own', ro_own, iRetN_ev, iDrop_ev, iBrk_ev, iCont_ev, iBef_ev, iAft_ev, wfl_next, wfl_cont, wfl_brk, wfl_ret, wipe_nil, wipe_cons, wp_no, wp_val, wp_own, iNm_ev, iGT_tup, iGT_list, iGN_ev, iGC_ev, iAsgT_ev, iCall_ev, sls_nil, sls_val, sls_own, dup_nil, dup_val, dup_own, has_nil, has_val, has_own, now_val, now_new, back_ev, bg_nil, bg_cons, bs_no, bs_val, bs_own, bsf_some, bsf_none, b1_nil, b1_val, b1_own, iApp_ev, ap1_list, apF_list, iExU_ev, exF_list, exV_new, exV_tup, iPop_ev, po_snoc, iStL_ev, iFrz_ev, fz_own, fz_val, iRev_ev, gRev_list, gRev_tup, iSeqI_ev, iRevI_ev, iEnumU_ev, iR1_ev, turn_ev, at0, at1, at2, ix0, ix1, ix2, gAdd_int, gAdd_str, gAdd_tup, gSub_int, gMul_int, gMulR_int, gMulL_int, gDiv_int, gMod_int, gPow_int, gNeg_int, gLt_int, gLe_int, gGt_int, gGe_int, gEq_int, gNe_int, gEq_str, gNe_str, gEq_bool, gNe_bool, gIs_ap, gIsN_ap, isNone_none, isNone_int, isNone_tup, isNone_str, gIx_list, gIx_tup, gSl_tup, gSl_list, c1_ap, gLen_list, gLen_tup, gInt_int, gList_list, gList_tup, gTuple_list, gTuple_tup, truD_none, truD_bool, truD_int, truD_list, truD_tup, isi_int_int, isi_int_tup, isi_bool_bool, isi_tup_tup, isi_list_list, isi_bool_int, Option.bind_some, Option.map_some, List.getElem?_cons_zero, List.getElem?_cons_succ, List.set_cons_zero, List.set_cons_succ, List.length_cons, List.length_nil, if_true, reduceIte, decide_true, decide_false, Bool.true_and, Bool.and_true, Bool.not_true, Bool.not_false, Bool.false_eq_true, Bool.not_eq_true, decide_eq_true_eq, Nat.reduceAdd, Nat.reduceLeDiff, Nat.reduceEqDiff, Nat.reduceSub, Nat.reduceMul, Int.reduceLT, Int.reduceLE, Int.reduceEq, Int.reduceAdd, Int.reduceSub, Int.reduceMul, Int.reduceNeg, Int.reduceToNat, Int.reducePow, and_self, eq_self, and_true, true_and, Nat.reduceBEq, ncast, DL.sm, List.length_map, iDGet2_ev, iDGet_ev, iDIn_ev, keyD_int, keyD_str, iDNew_ev, dpF_own, dp1_own, iDPut_ev, ds1_own, dsF_own, iDSet_ev, lzF_tup, iLZip_ev, iDc_ev, iLc_ev, dA_val, dA_own, iPairs_ev, not_false_eq_true, Nat.reduceLT, iCopyD_ev, lcOF_own, iLcO_ev, alC_list, alC_dict, in_ints, notin_ints, gAdd_list, augF_int, iAug_ev, ne_eq, decide_not, q1, q2]
  exact run_ret (n := 2) (N := 5) (sls := [.val (encL l), .val (dictD S)]) e rfl
theorem putc_eq {n m : Nat} {ls : List Lit} {S : Su} (h : ∀ l ∈ ls, LBd m n l) (hm : m ≤ 1000) (hn : n < 12) (hl : ls.length ≤ 1000) : F_put_clause [.val (clD ls), .val (dictD S)] = some (.val (clD (ls.map (subL (phi S)))), [.val (clD ls), .val (dictD S)]) := by
  have g := lc_map (j := 2) (f := iCall F_put_literal (argC (iVar 2) (argC (iVar 1) argN))) (E := [.val (clD ls), .val (dictD S), .no]) (dn := encL) (g := fun l => encL (subL (phi S) l)) rfl ls [] (fun l hl => by
    have q := putl_eq (S := S) (h l hl) hm hn
    simp only [iSeq_ev, sq_next, sq_ret, sq_brk, sq_cont, iNext_ev, iAsg_ev, as_val, as_new_t, as_new_f, setV_ev, set_no, set_val, set_own, iVar_ev, va_val, va_own, look_ev, lo_own, look_val, look_new, vis_val, vis_new, pub_val, pub_new, pub_own, opd_ap, iCon_ap, iBin_ap, iUn_ap, argN_ap, argC_ap, looks_nil, looks_cons, viss_nil, viss_cons, iCB_ap, iTup_ap, iLst_ap, isB_ap, isI_ap, iTst_ap, iTru_ap, iNotT_ap, iAndT_ap, iOrT_ap, iAnd_ap, iOr_ap, iNot_ap, iIf_ap, iSl_ap, iNoP_ap, iPart_ap, iIsi_ap, iIfS_ev, iRet_ev, ret_val', ret_new', ret_own', ro_own, iRetN_ev, iDrop_ev, iBrk_ev, iCont_ev, iBef_ev, iAft_ev, wfl_next, wfl_cont, wfl_brk, wfl_ret, wipe_nil, wipe_cons, wp_no, wp_val, wp_own, iNm_ev, iGT_tup, iGT_list, iGN_ev, iGC_ev, iAsgT_ev, iCall_ev, sls_nil, sls_val, sls_own, dup_nil, dup_val, dup_own, has_nil, has_val, has_own, now_val, now_new, back_ev, bg_nil, bg_cons, bs_no, bs_val, bs_own, bsf_some, bsf_none, b1_nil, b1_val, b1_own, iApp_ev, ap1_list, apF_list, iExU_ev, exF_list, exV_new, exV_tup, iPop_ev, po_snoc, iStL_ev, iFrz_ev, fz_own, fz_val, iRev_ev, gRev_list, gRev_tup, iSeqI_ev, iRevI_ev, iEnumU_ev, iR1_ev, turn_ev, at0, at1, at2, ix0, ix1, ix2, gAdd_int, gAdd_str, gAdd_tup, gSub_int, gMul_int, gMulR_int, gMulL_int, gDiv_int, gMod_int, gPow_int, gNeg_int, gLt_int, gLe_int, gGt_int, gGe_int, gEq_int, gNe_int, gEq_str, gNe_str, gEq_bool, gNe_bool, gIs_ap, gIsN_ap, isNone_none, isNone_int, isNone_tup, isNone_str, gIx_list, gIx_tup, gSl_tup, gSl_list, c1_ap, gLen_list, gLen_tup, gInt_int, gList_list, gList_tup, gTuple_list, gTuple_tup, truD_none, truD_bool, truD_int, truD_list, truD_tup, isi_int_int, isi_int_tup, isi_bool_bool, isi_tup_tup, isi_list_list, isi_bool_int, Option.bind_some, Option.map_some, List.getElem?_cons_zero, List.getElem?_cons_succ, List.set_cons_zero, List.set_cons_succ, List.length_cons, List.length_nil, if_true, reduceIte, decide_true, decide_false, Bool.true_and, Bool.and_true, Bool.not_true, Bool.not_false, Bool.false_eq_true, Bool.not_eq_true, decide_eq_true_eq, Nat.reduceAdd, Nat.reduceLeDiff, Nat.reduceEqDiff, Nat.reduceSub, Nat.reduceMul, Int.reduceLT, Int.reduceLE, Int.reduceEq, Int.reduceAdd, Int.reduceSub, Int.reduceMul, Int.reduceNeg, Int.reduceToNat, Int.reducePow, and_self, eq_self, and_true, true_and, Nat.reduceBEq, ncast, DL.sm, List.length_map, iDGet2_ev, iDGet_ev, iDIn_ev, keyD_int, keyD_str, iDNew_ev, dpF_own, dp1_own, iDPut_ev, ds1_own, dsF_own, iDSet_ev, lzF_tup, iLZip_ev, iDc_ev, iLc_ev, dA_val, dA_own, iPairs_ev, not_false_eq_true, Nat.reduceLT, iCopyD_ev, lcOF_own, iLcO_ev, alC_list, alC_dict, in_ints, notin_ints, gAdd_list, augF_int, iAug_ev, ne_eq, decide_not, q]) (by simpa using hl)
  have g' : lcLoop (iNm 2) iYes (iCall F_put_literal (argC (iVar 2) (argC (iVar 1) argN))) [2] (ls.map encL) [.val (.tuple (ls.map encL)), .val (dictD S), .no] [] = _ := g
  have e := @rfl _ (m_put_clause F_put_literal [.val (.tuple (ls.map encL)), .val (dictD S), .no])
  conv at e => rhs; simp only [m_put_clause, iSeq_ev, sq_next, sq_ret, sq_brk, sq_cont, iNext_ev, iAsg_ev, as_val, as_new_t, as_new_f, setV_ev, set_no, set_val, set_own, iVar_ev, va_val, va_own, look_ev, lo_own, look_val, look_new, vis_val, vis_new, pub_val, pub_new, pub_own, opd_ap, iCon_ap, iBin_ap, iUn_ap, argN_ap, argC_ap, looks_nil, looks_cons, viss_nil, viss_cons, iCB_ap, iTup_ap, iLst_ap, isB_ap, isI_ap, iTst_ap, iTru_ap, iNotT_ap, iAndT_ap, iOrT_ap, iAnd_ap, iOr_ap, iNot_ap, iIf_ap, iSl_ap, iNoP_ap, iPart_ap, iIsi_ap, iIfS_ev, iRet_ev, ret_val', ret_new', ret_own', ro_own, iRetN_ev, iDrop_ev, iBrk_ev, iCont_ev, iBef_ev, iAft_ev, wfl_next, wfl_cont, wfl_brk, wfl_ret, wipe_nil, wipe_cons, wp_no, wp_val, wp_own, iNm_ev, iGT_tup, iGT_list, iGN_ev, iGC_ev, iAsgT_ev, iCall_ev, sls_nil, sls_val, sls_own, dup_nil, dup_val, dup_own, has_nil, has_val, has_own, now_val, now_new, back_ev, bg_nil, bg_cons, bs_no, bs_val, bs_own, bsf_some, bsf_none, b1_nil, b1_val, b1_own, iApp_ev, ap1_list, apF_list, iExU_ev, exF_list, exV_new, exV_tup, iPop_ev, po_snoc, iStL_ev, iFrz_ev, fz_own, fz_val, iRev_ev, gRev_list, gRev_tup, iSeqI_ev, iRevI_ev, iEnumU_ev, iR1_ev, turn_ev, at0, at1, at2, ix0, ix1, ix2, gAdd_int, gAdd_str, gAdd_tup, gSub_int, gMul_int, gMulR_int, gMulL_int, gDiv_int, gMod_int, gPow_int, gNeg_int, gLt_int, gLe_int, gGt_int, gGe_int, gEq_int, gNe_int, gEq_str, gNe_str, gEq_bool, gNe_bool, gIs_ap, gIsN_ap, isNone_none, isNone_int, isNone_tup, isNone_str, gIx_list, gIx_tup, gSl_tup, gSl_list, c1_ap, gLen_list, gLen_tup, gInt_int, gList_list, gList_tup, gTuple_list, gTuple_tup, truD_none, truD_bool, truD_int, truD_list, truD_tup, isi_int_int, isi_int_tup, isi_bool_bool, isi_tup_tup, isi_list_list, isi_bool_int, Option.bind_some, Option.map_some, List.getElem?_cons_zero, List.getElem?_cons_succ, List.set_cons_zero, List.set_cons_succ, List.length_cons, List.length_nil, if_true, reduceIte, decide_true, decide_false, Bool.true_and, Bool.and_true, Bool.not_true, Bool.not_false, Bool.false_eq_true, Bool.not_eq_true, decide_eq_true_eq, Nat.reduceAdd, Nat.reduceLeDiff, Nat.reduceEqDiff, Nat.reduceSub, Nat.reduceMul, Int.reduceLT, Int.reduceLE, Int.reduceEq, Int.reduceAdd, Int.reduceSub, Int.reduceMul, Int.reduceNeg, Int.reduceToNat, Int.reducePow, and_self, eq_self, and_true, true_and, Nat.reduceBEq, ncast, DL.sm, List.length_map, iDGet2_ev, iDGet_ev, iDIn_ev, keyD_int, keyD_str, iDNew_ev, dpF_own, dp1_own, iDPut_ev, ds1_own, dsF_own, iDSet_ev, lzF_tup, iLZip_ev, iDc_ev, iLc_ev, dA_val, dA_own, iPairs_ev, not_false_eq_true, Nat.reduceLT, iCopyD_ev, lcOF_own, iLcO_ev, alC_list, alC_dict, in_ints, notin_ints, gAdd_list, augF_int, iAug_ev, ne_eq, decide_not, g', List.nil_append]
  have em : clD (ls.map (subL (phi S))) = .tuple (ls.map fun l => encL (subL (phi S) l)) := by unfold clD; rw [List.map_map]; rfl
  rw [em]
  exact run_ret (n := 2) (N := 3) (sls := [.val (clD ls), .val (dictD S)]) e rfl
theorem lputc_eq {n m : Nat} {ls : List Lit} {S : Su} (h : ∀ l ∈ ls, LBd m n l) (hm : m ≤ 1000) (hn : n < 12) (hl : ls.length ≤ 1000) : F__law_put_clause [.val (clD ls), .val (toldD S)] = some (.val (clD (ls.map (subL (phi S)))), [.val (clD ls), .val (toldD S)]) := by
  have g := lc_map (j := 2) (f := (iTup (argC (iBin gIx (iVar 2) (iCon (.int 0))) (argC (iCall F__law_put (argC (iBin gIx (iVar 2) (iCon (.int 1))) (argC (iVar 1) argN))) (argC (iCall F__law_put (argC (iBin gIx (iVar 2) (iCon (.int 2))) (argC (iVar 1) argN))) argN))))) (E := [.val (clD ls), .val (toldD S), .no]) (dn := encL) (g := fun l => encL (subL (phi S) l)) rfl ls [] (fun l hl => by
    have q1 : F__law_put [.val (enc l.2.1), .val (toldD S)] = _ := lput_eq 12 n m l.2.1 S (h l hl).1 hm hn
    have q2 : F__law_put [.val (enc l.2.2), .val (toldD S)] = _ := lput_eq 12 n m l.2.2 S (h l hl).2 hm hn
    have ec : encL l = .tuple [.bool l.1, enc l.2.1, enc l.2.2] := rfl
    rw [ec]
    simp only [iSeq_ev, sq_next, sq_ret, sq_brk, sq_cont, iNext_ev, iAsg_ev, as_val, as_new_t, as_new_f, setV_ev, set_no, set_val, set_own, iVar_ev, va_val, va_own, look_ev, lo_own, look_val, look_new, vis_val, vis_new, pub_val, pub_new, pub_own, opd_ap, iCon_ap, iBin_ap, iUn_ap, argN_ap, argC_ap, looks_nil, looks_cons, viss_nil, viss_cons, iCB_ap, iTup_ap, iLst_ap, isB_ap, isI_ap, iTst_ap, iTru_ap, iNotT_ap, iAndT_ap, iOrT_ap, iAnd_ap, iOr_ap, iNot_ap, iIf_ap, iSl_ap, iNoP_ap, iPart_ap, iIsi_ap, iIfS_ev, iRet_ev, ret_val', ret_new', ret_own', ro_own, iRetN_ev, iDrop_ev, iBrk_ev, iCont_ev, iBef_ev, iAft_ev, wfl_next, wfl_cont, wfl_brk, wfl_ret, wipe_nil, wipe_cons, wp_no, wp_val, wp_own, iNm_ev, iGT_tup, iGT_list, iGN_ev, iGC_ev, iAsgT_ev, iCall_ev, sls_nil, sls_val, sls_own, dup_nil, dup_val, dup_own, has_nil, has_val, has_own, now_val, now_new, back_ev, bg_nil, bg_cons, bs_no, bs_val, bs_own, bsf_some, bsf_none, b1_nil, b1_val, b1_own, iApp_ev, ap1_list, apF_list, iExU_ev, exF_list, exV_new, exV_tup, iPop_ev, po_snoc, iStL_ev, iFrz_ev, fz_own, fz_val, iRev_ev, gRev_list, gRev_tup, iSeqI_ev, iRevI_ev, iEnumU_ev, iR1_ev, turn_ev, at0, at1, at2, ix0, ix1, ix2, gAdd_int, gAdd_str, gAdd_tup, gSub_int, gMul_int, gMulR_int, gMulL_int, gDiv_int, gMod_int, gPow_int, gNeg_int, gLt_int, gLe_int, gGt_int, gGe_int, gEq_int, gNe_int, gEq_str, gNe_str, gEq_bool, gNe_bool, gIs_ap, gIsN_ap, isNone_none, isNone_int, isNone_tup, isNone_str, gIx_list, gIx_tup, gSl_tup, gSl_list, c1_ap, gLen_list, gLen_tup, gInt_int, gList_list, gList_tup, gTuple_list, gTuple_tup, truD_none, truD_bool, truD_int, truD_list, truD_tup, isi_int_int, isi_int_tup, isi_bool_bool, isi_tup_tup, isi_list_list, isi_bool_int, Option.bind_some, Option.map_some, List.getElem?_cons_zero, List.getElem?_cons_succ, List.set_cons_zero, List.set_cons_succ, List.length_cons, List.length_nil, if_true, reduceIte, decide_true, decide_false, Bool.true_and, Bool.and_true, Bool.not_true, Bool.not_false, Bool.false_eq_true, Bool.not_eq_true, decide_eq_true_eq, Nat.reduceAdd, Nat.reduceLeDiff, Nat.reduceEqDiff, Nat.reduceSub, Nat.reduceMul, Int.reduceLT, Int.reduceLE, Int.reduceEq, Int.reduceAdd, Int.reduceSub, Int.reduceMul, Int.reduceNeg, Int.reduceToNat, Int.reducePow, and_self, eq_self, and_true, true_and, Nat.reduceBEq, ncast, DL.sm, List.length_map, iDGet2_ev, iDGet_ev, iDIn_ev, keyD_int, keyD_str, iDNew_ev, dpF_own, dp1_own, iDPut_ev, ds1_own, dsF_own, iDSet_ev, lzF_tup, iLZip_ev, iDc_ev, iLc_ev, dA_val, dA_own, iPairs_ev, not_false_eq_true, Nat.reduceLT, iCopyD_ev, lcOF_own, iLcO_ev, alC_list, alC_dict, in_ints, notin_ints, gAdd_list, augF_int, iAug_ev, ne_eq, decide_not, q1, q2]
    rfl) (by simpa using hl)
  have g' : lcLoop (iNm 2) iYes (iTup (argC (iBin gIx (iVar 2) (iCon (.int 0))) (argC (iCall F__law_put (argC (iBin gIx (iVar 2) (iCon (.int 1))) (argC (iVar 1) argN))) (argC (iCall F__law_put (argC (iBin gIx (iVar 2) (iCon (.int 2))) (argC (iVar 1) argN))) argN)))) [2] (ls.map encL) [.val (.tuple (ls.map encL)), .val (toldD S), .no] [] = _ := g
  have e := @rfl _ (m__law_put_clause F__law_put [.val (.tuple (ls.map encL)), .val (toldD S), .no])
  conv at e => rhs; simp only [m__law_put_clause, iSeq_ev, sq_next, sq_ret, sq_brk, sq_cont, iNext_ev, iAsg_ev, as_val, as_new_t, as_new_f, setV_ev, set_no, set_val, set_own, iVar_ev, va_val, va_own, look_ev, lo_own, look_val, look_new, vis_val, vis_new, pub_val, pub_new, pub_own, opd_ap, iCon_ap, iBin_ap, iUn_ap, argN_ap, argC_ap, looks_nil, looks_cons, viss_nil, viss_cons, iCB_ap, iTup_ap, iLst_ap, isB_ap, isI_ap, iTst_ap, iTru_ap, iNotT_ap, iAndT_ap, iOrT_ap, iAnd_ap, iOr_ap, iNot_ap, iIf_ap, iSl_ap, iNoP_ap, iPart_ap, iIsi_ap, iIfS_ev, iRet_ev, ret_val', ret_new', ret_own', ro_own, iRetN_ev, iDrop_ev, iBrk_ev, iCont_ev, iBef_ev, iAft_ev, wfl_next, wfl_cont, wfl_brk, wfl_ret, wipe_nil, wipe_cons, wp_no, wp_val, wp_own, iNm_ev, iGT_tup, iGT_list, iGN_ev, iGC_ev, iAsgT_ev, iCall_ev, sls_nil, sls_val, sls_own, dup_nil, dup_val, dup_own, has_nil, has_val, has_own, now_val, now_new, back_ev, bg_nil, bg_cons, bs_no, bs_val, bs_own, bsf_some, bsf_none, b1_nil, b1_val, b1_own, iApp_ev, ap1_list, apF_list, iExU_ev, exF_list, exV_new, exV_tup, iPop_ev, po_snoc, iStL_ev, iFrz_ev, fz_own, fz_val, iRev_ev, gRev_list, gRev_tup, iSeqI_ev, iRevI_ev, iEnumU_ev, iR1_ev, turn_ev, at0, at1, at2, ix0, ix1, ix2, gAdd_int, gAdd_str, gAdd_tup, gSub_int, gMul_int, gMulR_int, gMulL_int, gDiv_int, gMod_int, gPow_int, gNeg_int, gLt_int, gLe_int, gGt_int, gGe_int, gEq_int, gNe_int, gEq_str, gNe_str, gEq_bool, gNe_bool, gIs_ap, gIsN_ap, isNone_none, isNone_int, isNone_tup, isNone_str, gIx_list, gIx_tup, gSl_tup, gSl_list, c1_ap, gLen_list, gLen_tup, gInt_int, gList_list, gList_tup, gTuple_list, gTuple_tup, truD_none, truD_bool, truD_int, truD_list, truD_tup, isi_int_int, isi_int_tup, isi_bool_bool, isi_tup_tup, isi_list_list, isi_bool_int, Option.bind_some, Option.map_some, List.getElem?_cons_zero, List.getElem?_cons_succ, List.set_cons_zero, List.set_cons_succ, List.length_cons, List.length_nil, if_true, reduceIte, decide_true, decide_false, Bool.true_and, Bool.and_true, Bool.not_true, Bool.not_false, Bool.false_eq_true, Bool.not_eq_true, decide_eq_true_eq, Nat.reduceAdd, Nat.reduceLeDiff, Nat.reduceEqDiff, Nat.reduceSub, Nat.reduceMul, Int.reduceLT, Int.reduceLE, Int.reduceEq, Int.reduceAdd, Int.reduceSub, Int.reduceMul, Int.reduceNeg, Int.reduceToNat, Int.reducePow, and_self, eq_self, and_true, true_and, Nat.reduceBEq, ncast, DL.sm, List.length_map, iDGet2_ev, iDGet_ev, iDIn_ev, keyD_int, keyD_str, iDNew_ev, dpF_own, dp1_own, iDPut_ev, ds1_own, dsF_own, iDSet_ev, lzF_tup, iLZip_ev, iDc_ev, iLc_ev, dA_val, dA_own, iPairs_ev, not_false_eq_true, Nat.reduceLT, iCopyD_ev, lcOF_own, iLcO_ev, alC_list, alC_dict, in_ints, notin_ints, gAdd_list, augF_int, iAug_ev, ne_eq, decide_not, g', List.nil_append]
  have em : clD (ls.map (subL (phi S))) = .tuple (ls.map fun l => encL (subL (phi S) l)) := by unfold clD; rw [List.map_map]; rfl
  rw [em]
  exact run_ret (n := 2) (N := 3) (sls := [.val (clD ls), .val (toldD S)]) e rfl
end Sh

namespace LS3
noncomputable section
open PySem PySem.Spec PyProof.Rows L2 DL
open LS
/-! is_individual_symbol -/
def m_is_individual_symbol  : StF :=
    (iRet (iBin (alt (gIn false) (gInS false)) (iBin gIx (iVar 0) (iCon (.int 0))) (iTup (argC (iCon (.int 2)) (argC (iCon (.int 3)) argN)))))
def f_is_individual_symbol  : Fn := runDef 1 1 (m_is_individual_symbol )
def F_is_individual_symbol : Fn := f_is_individual_symbol 
/-! is_atom -/
def m_is_atom (g_is_variable : Fn) (g_is_individual_symbol : Fn) : StF :=
    (iRet (iAnd (iNot (iCall g_is_variable (argC (iVar 0) argN))) (iNot (iCall g_is_individual_symbol (argC (iBin gIx (iVar 0) (iCon (.int 0))) argN)))))
def f_is_atom (g_is_variable : Fn) (g_is_individual_symbol : Fn) : Fn := runDef 1 1 (m_is_atom g_is_variable g_is_individual_symbol)
def F_is_atom : Fn := f_is_atom F_is_variable F_is_individual_symbol
/-! is_individual -/
def m_is_individual (g_subterms : Fn) (g_is_variable : Fn) (g_is_individual_symbol : Fn) : StF :=
    (iRet (iAllG (iSeqI (iCall g_subterms (argC (iVar 0) argN))) (iNm 1) (iOr (iCall g_is_variable (argC (iVar 1) argN)) (iCall g_is_individual_symbol (argC (iBin gIx (iVar 1) (iCon (.int 0))) argN))) [1]))
def f_is_individual (g_subterms : Fn) (g_is_variable : Fn) (g_is_individual_symbol : Fn) : Fn := runDef 1 2 (m_is_individual g_subterms g_is_variable g_is_individual_symbol)
def F_is_individual : Fn := f_is_individual F_subterms F_is_variable F_is_individual_symbol
/-! is_atomic -/
def m_is_atomic (g_is_atom : Fn) (g_is_individual : Fn) : StF :=
    (iRet (iAnd (iCall g_is_atom (argC (iVar 0) argN)) (iAllG (iSeqI (iBin gIx (iVar 0) (iCon (.int 1)))) (iNm 1) (iCall g_is_individual (argC (iVar 1) argN)) [1])))
def f_is_atomic (g_is_atom : Fn) (g_is_individual : Fn) : Fn := runDef 1 2 (m_is_atomic g_is_atom g_is_individual)
def F_is_atomic : Fn := f_is_atomic F_is_atom F_is_individual
/-! _law_is_atom -/
def m__law_is_atom (g__law_is_variable : Fn) : StF :=
    (iRet (iAnd (iNot (iCall g__law_is_variable (argC (iVar 0) argN))) (iAnd (iBin gNe (iBin gIx (iBin gIx (iVar 0) (iCon (.int 0))) (iCon (.int 0))) (iCon (.int 2))) (iBin gNe (iBin gIx (iBin gIx (iVar 0) (iCon (.int 0))) (iCon (.int 0))) (iCon (.int 3))))))
def f__law_is_atom (g__law_is_variable : Fn) : Fn := runDef 1 1 (m__law_is_atom g__law_is_variable)
def F__law_is_atom : Fn := f__law_is_atom F__law_is_variable
/-! _law_is_individual -/
def m__law_is_individual (g__law_is_individual : Fn) (g__law_is_variable : Fn) : StF :=
    (iSeq (iIfS (iTru (iCall g__law_is_variable (argC (iVar 0) argN))) (iRet (iCon (.bool true))) iNext)
    (iSeq (iIfS (iAndT (iTst (iBin gNe (iBin gIx (iBin gIx (iVar 0) (iCon (.int 0))) (iCon (.int 0))) (iCon (.int 2)))) (iTst (iBin gNe (iBin gIx (iBin gIx (iVar 0) (iCon (.int 0))) (iCon (.int 0))) (iCon (.int 3))))) (iRet (iCon (.bool false))) iNext)
    (iRet (iCB (c1 (gAll true)) (argC (iLc (iSeqI (iBin gIx (iVar 0) (iCon (.int 1)))) (iNm 1) iYes (iCall g__law_is_individual (argC (iVar 1) argN)) [1]) argN)))))
def f__law_is_individual (g__law_is_individual : Fn) (g__law_is_variable : Fn) : Fn := runDef 1 2 (m__law_is_individual g__law_is_individual g__law_is_variable)
def it__law_is_individual : Nat → Fn
  | 0 => fun _ => none
  | n + 1 => f__law_is_individual (it__law_is_individual n) F__law_is_variable
def F__law_is_individual : Fn := it__law_is_individual 12
/-! _law_is_atomic -/
def m__law_is_atomic (g__law_is_individual : Fn) (g__law_is_variable : Fn) : StF :=
    (iSeq (iIfS (iOrT (iTru (iCall g__law_is_variable (argC (iVar 0) argN))) (iOrT (iTst (iBin gEq (iBin gIx (iBin gIx (iVar 0) (iCon (.int 0))) (iCon (.int 0))) (iCon (.int 2)))) (iTst (iBin gEq (iBin gIx (iBin gIx (iVar 0) (iCon (.int 0))) (iCon (.int 0))) (iCon (.int 3)))))) (iRet (iCon (.bool false))) iNext)
    (iRet (iCB (c1 (gAll true)) (argC (iLc (iSeqI (iBin gIx (iVar 0) (iCon (.int 1)))) (iNm 1) iYes (iCall g__law_is_individual (argC (iVar 1) argN)) [1]) argN))))
def f__law_is_atomic (g__law_is_individual : Fn) (g__law_is_variable : Fn) : Fn := runDef 1 2 (m__law_is_atomic g__law_is_individual g__law_is_variable)
def F__law_is_atomic : Fn := f__law_is_atomic F__law_is_individual F__law_is_variable
/-! symbol_weight -/
def m_symbol_weight  : StF :=
    (iRet (iDGet2 (iVar 0) (iVar 1) (iCon (.int 1))))
def f_symbol_weight  : Fn := runDef 2 2 (m_symbol_weight )
def F_symbol_weight : Fn := f_symbol_weight 
/-! term_weight -/
def b1_term_weight (g_subterms : Fn) (g_is_variable : Fn) (g_symbol_weight : Fn) : StF :=
    (iAft [3] (iAug 2 (fun i j => i + j) (iIf (iTru (iCall g_is_variable (argC (iVar 3) argN))) (iCon (.int 1)) (iCall g_symbol_weight (argC (iVar 0) (argC (iBin gIx (iVar 3) (iCon (.int 0))) argN))))))
def m_term_weight (g_subterms : Fn) (g_is_variable : Fn) (g_symbol_weight : Fn) : StF :=
    (iSeq (iAsg false 2 (iCon (.int 0)))
    (iSeq (iAft [3] (iBef [3] (iFor (iSeqI (iCall g_subterms (argC (iVar 1) argN))) (iNm 3)
      (b1_term_weight g_subterms g_is_variable g_symbol_weight))))
    (iRet (iVar 2))))
def f_term_weight (g_subterms : Fn) (g_is_variable : Fn) (g_symbol_weight : Fn) : Fn := runDef 2 4 (m_term_weight g_subterms g_is_variable g_symbol_weight)
def F_term_weight : Fn := f_term_weight F_subterms F_is_variable F_symbol_weight
/-! literal_weight -/
def m_literal_weight (g_term_weight : Fn) : StF :=
    (iRet (iBin gAdd (iCall g_term_weight (argC (iVar 0) (argC (iBin gIx (iVar 1) (iCon (.int 1))) argN))) (iCall g_term_weight (argC (iVar 0) (argC (iBin gIx (iVar 1) (iCon (.int 2))) argN)))))
def f_literal_weight (g_term_weight : Fn) : Fn := runDef 2 2 (m_literal_weight g_term_weight)
def F_literal_weight : Fn := f_literal_weight F_term_weight
/-! clause_weight -/
def m_clause_weight (g_literal_weight : Fn) : StF :=
    (iRet (iSumG (iSeqI (iVar 1)) (iNm 2) (iCall g_literal_weight (argC (iVar 0) (argC (iVar 2) argN))) [2]))
def f_clause_weight (g_literal_weight : Fn) : Fn := runDef 2 3 (m_clause_weight g_literal_weight)
def F_clause_weight : Fn := f_clause_weight F_literal_weight
end
end LS3

/-! Generator expressions computed; individual terms, atoms. -/
namespace Sh
open PySem L2 DL
open LS LS3
/-! ### a generator expression over xs, with an element that never fails -/
def upto (go : D → Bool) : List D → List D
  | [] => []
  | y :: ys => if go y = true then y :: upto go ys else [y]
theorem wipe_self {E : Nv} {j : Nat} (hj : E[j]? = some .no) : wipeN E [j] = some E := by
  have hjl := (List.getElem?_eq_some_iff.mp hj).1
  rw [wipe_cons, wipe_nil, Option.bind_some, hj, wp_no]
  congr 1
  apply List.ext_getElem?
  intro i
  by_cases q : i = j
  · subst q
    rw [List.getElem?_set_self hjl, hj]
  · rw [List.getElem?_set_ne (fun z => q z.symm)]
theorem wipe_set_no {E : Nv} {j : Nat} {d : D} (hj : E[j]? = some .no) : wipeN (E.set j (.val d)) [j] = some E := by
  have hjl := (List.getElem?_eq_some_iff.mp hj).1
  rw [wipe_cons, wipe_nil, Option.bind_some, List.getElem?_set_self hjl, wp_val, List.set_set]
  congr 1
  apply List.ext_getElem?
  intro i
  by_cases q : i = j
  · subst q
    rw [List.getElem?_set_self hjl, hj]
  · rw [List.getElem?_set_ne (fun z => q z.symm)]
theorem gRun_map {α : Type} {go : D → Bool} {f : EvF} {E : Nv} {j : Nat} {dn y : α → D} (hj : E[j]? = some .no) : ∀ (xs : List α), (∀ x ∈ xs, f (E.set j (.val (dn x))) = some (.val (y x), E.set j (.val (dn x)))) →
    gRun go (gStep (iNm j) f [j]) (xs.map dn) E = some (upto go (xs.map y), E)
  | [], _ => rfl
  | x :: xs, h => by
    have hjl := (List.getElem?_eq_some_iff.mp hj).1
    have t : iNm j E (dn x) = some (E.set j (.val (dn x))) := by rw [iNm_ev, setV_ev, hj]; rfl
    have s : gStep (iNm j) f [j] E (dn x) = some (y x, E) := by
      simp only [gStep, t, Option.bind_some, h x List.mem_cons_self, wipe_set_no hj]
    have rec' := gRun_map (go := go) hj xs fun z hz => h z (List.mem_cons_of_mem _ hz)
    simp only [List.map_cons, gRun, s, Option.bind_some, rec', upto]
    split <;> rfl
theorem upto_bd {α : Type} {go : D → Bool} {b : α → Bool} : ∀ xs : List α, (upto go (xs.map fun x => D.bool (b x))).all isBd = true
  | [] => rfl
  | x :: xs => by
    rw [List.map_cons, upto]
    split
    · rw [List.all_cons, upto_bd xs]; rfl
    · rfl
theorem upto_all {α : Type} {b : α → Bool} : ∀ xs : List α, (upto goT (xs.map fun x => D.bool (b x))).all goT = xs.all b
  | [] => rfl
  | x :: xs => by
    rw [List.map_cons, upto]
    cases h : b x with
    | true =>
      rw [if_pos (show goT (.bool true) = true from rfl), List.all_cons, upto_all xs, List.all_cons, h]
      rfl
    | false =>
      rw [if_neg (show ¬ goT (.bool false) = true from Bool.false_ne_true), List.all_cons, List.all_cons, h]
      rfl
theorem upto_any {α : Type} {b : α → Bool} : ∀ xs : List α, (upto goF (xs.map fun x => D.bool (b x))).any goT = xs.any b
  | [] => rfl
  | x :: xs => by
    rw [List.map_cons, upto]
    cases h : b x with
    | false =>
      rw [if_pos (show goF (.bool false) = true from rfl), List.any_cons, upto_any xs, List.any_cons, h]
      rfl
    | true =>
      rw [if_neg (show ¬ goF (.bool true) = true from Bool.false_ne_true), List.any_cons, List.any_cons, h]
      rfl
theorem upto_true : ∀ ys : List D, upto (fun _ => true) ys = ys
  | [] => rfl
  | y :: ys => by rw [upto, if_pos rfl, upto_true ys]
section
variable {α : Type} {it : ItF} {f : EvF} {env E : Nv} {j : Nat} {dn : α → D} {xs : List α}
theorem allG_eq {b : α → Bool} (hit : it env = some (xs.map dn, E)) (hj : E[j]? = some .no) (h : ∀ x ∈ xs, f (E.set j (.val (dn x))) = some (.val (.bool (b x)), E.set j (.val (dn x)))) :
    iAllG it (iNm j) f [j] env = some (.val (.bool (xs.all b)), E) := by
  simp only [iAllG, hit, Option.bind_some, wipe_self hj, gRun_map (y := fun x => .bool (b x)) hj xs h, upto_bd, upto_all, if_true]
theorem anyG_eq {b : α → Bool} (hit : it env = some (xs.map dn, E)) (hj : E[j]? = some .no) (h : ∀ x ∈ xs, f (E.set j (.val (dn x))) = some (.val (.bool (b x)), E.set j (.val (dn x)))) :
    iAnyG it (iNm j) f [j] env = some (.val (.bool (xs.any b)), E) := by
  simp only [iAnyG, hit, Option.bind_some, wipe_self hj, gRun_map (y := fun x => .bool (b x)) hj xs h, upto_bd, upto_any, if_true]
theorem sumG_eq {z : α → Int} (hit : it env = some (xs.map dn, E)) (hj : E[j]? = some .no) (h : ∀ x ∈ xs, f (E.set j (.val (dn x))) = some (.val (.int (z x)), E.set j (.val (dn x)))) :
    iSumG it (iNm j) f [j] env = some (.val (.int (xs.map z).sum), E) := by
  have hb : (xs.map fun x => D.int (z x)).all isId = true := List.all_eq_true.mpr fun y hy => by
    obtain ⟨x, _, rfl⟩ := List.mem_map.mp hy
    rfl
  have hs : ((xs.map fun x => D.int (z x)).map intD).sum = (xs.map z).sum := by
    rw [List.map_map]
    rfl
  simp only [iSumG, hit, Option.bind_some, wipe_self hj, gRun_map (y := fun x => .int (z x)) hj xs h, upto_true, hb, hs, if_true]
end
theorem in_23 {k : Int} : alt (gIn false) (gInS false) (.int k) (.tuple [.int 2, .int 3]) = some (.val (.bool (decide (k = 2) || decide (k = 3)))) := by
  have e : D.tuple [.int 2, .int 3] = .tuple ([(2 : Int), 3].map .int) := rfl
  have : gIn false (.int k) (.tuple [.int 2, .int 3]) = some (.val (.bool (decide (k = 2) || decide (k = 3)))) := by
    rw [e]
    simp only [gIn, itemsD, Option.bind_some, flat_ints, DL.any_ints]
    simp [flatD]
  unfold alt
  rw [this]
/-! ### individual terms -/
def indK (k : Int) : Bool := decide (k = 2) || decide (k = 3)
mutual
def T.ind : T → Bool
  | .v _ => true
  | .c k _ _ ts => indK k && inds ts
def inds : List T → Bool
  | [] => true
  | t :: ts => t.ind && inds ts
end
def T.here : T → Bool
  | .v _ => true
  | .c k _ _ _ => indK k
theorem inds_all : ∀ ts : List T, inds ts = ts.all T.ind
  | [] => rfl
  | t :: ts => by rw [inds, inds_all ts, List.all_cons]
mutual
theorem subs_here : ∀ t : T, t.subs.all T.here = t.ind
  | .v _ => rfl
  | .c k a b ts => by rw [T.subs, List.all_cons, subsL_here ts, T.ind]; rfl
theorem subsL_here : ∀ ts : List T, (subsL ts).all T.here = inds ts
  | [] => rfl
  | t :: ts => by rw [subsL, List.all_append, subs_here t, subsL_here ts, inds]
end
def T.atm : T → Bool
  | .v _ => false
  | .c k _ _ _ => !indK k
def T.atc : T → Bool
  | .v _ => false
  | .c k _ _ ts => !indK k && inds ts
theorem isym_eq (k a b : Int) : F_is_individual_symbol [.val (sym k a b)] = some (.val (.bool (indK k)), [.val (sym k a b)]) := by
  have e := @rfl _ (m_is_individual_symbol [.val (.tuple [.int k, .int a, .int b])])
  conv at e => rhs; simp only [m_is_individual_symbol, iSeq_ev, sq_next, sq_ret, sq_brk, sq_cont, iNext_ev, iAsg_ev, as_val, as_new_t, as_new_f, setV_ev, set_no, set_val, set_own, iVar_ev, va_val, va_own, look_ev, lo_own, look_val, look_new, vis_val, vis_new, pub_val, pub_new, pub_own, opd_ap, iCon_ap, iBin_ap, iUn_ap, argN_ap, argC_ap, looks_nil, looks_cons, viss_nil, viss_cons, iCB_ap, iTup_ap, iLst_ap, isB_ap, isI_ap, iTst_ap, iTru_ap, iNotT_ap, iAndT_ap, iOrT_ap, iAnd_ap, iOr_ap, iNot_ap, iIf_ap, iSl_ap, iNoP_ap, iPart_ap, iIsi_ap, iIfS_ev, iRet_ev, ret_val', ret_new', ret_own', ro_own, iRetN_ev, iDrop_ev, iBrk_ev, iCont_ev, iBef_ev, iAft_ev, wfl_next, wfl_cont, wfl_brk, wfl_ret, wipe_nil, wipe_cons, wp_no, wp_val, wp_own, iNm_ev, iGT_tup, iGT_list, iGN_ev, iGC_ev, iAsgT_ev, iCall_ev, sls_nil, sls_val, sls_own, dup_nil, dup_val, dup_own, has_nil, has_val, has_own, now_val, now_new, back_ev, bg_nil, bg_cons, bs_no, bs_val, bs_own, bsf_some, bsf_none, b1_nil, b1_val, b1_own, iApp_ev, ap1_list, apF_list, iExU_ev, exF_list, exV_new, exV_tup, iPop_ev, po_snoc, iStL_ev, iFrz_ev, fz_own, fz_val, iRev_ev, gRev_list, gRev_tup, iSeqI_ev, iRevI_ev, iEnumU_ev, iR1_ev, turn_ev, at0, at1, at2, ix0, ix1, ix2, gAdd_int, gAdd_str, gAdd_tup, gSub_int, gMul_int, gMulR_int, gMulL_int, gDiv_int, gMod_int, gPow_int, gNeg_int, gLt_int, gLe_int, gGt_int, gGe_int, gEq_int, gNe_int, gEq_str, gNe_str, gEq_bool, gNe_bool, gIs_ap, gIsN_ap, isNone_none, isNone_int, isNone_tup, isNone_str, gIx_list, gIx_tup, gSl_tup, gSl_list, c1_ap, gLen_list, gLen_tup, gInt_int, gList_list, gList_tup, gTuple_list, gTuple_tup, truD_none, truD_bool, truD_int, truD_list, truD_tup, isi_int_int, isi_int_tup, isi_bool_bool, isi_tup_tup, isi_list_list, isi_bool_int, Option.bind_some, Option.map_some, List.getElem?_cons_zero, List.getElem?_cons_succ, List.set_cons_zero, List.set_cons_succ, List.length_cons, List.length_nil, if_true, reduceIte, decide_true, decide_false, Bool.true_and, Bool.and_true, Bool.not_true, Bool.not_false, Bool.false_eq_true, Bool.not_eq_true, decide_eq_true_eq, Nat.reduceAdd, Nat.reduceLeDiff, Nat.reduceEqDiff, Nat.reduceSub, Nat.reduceMul, Int.reduceLT, Int.reduceLE, Int.reduceEq, Int.reduceAdd, Int.reduceSub, Int.reduceMul, Int.reduceNeg, Int.reduceToNat, Int.reducePow, and_self, eq_self, and_true, true_and, Nat.reduceBEq, ncast, DL.sm, List.length_map, iDGet2_ev, iDGet_ev, iDIn_ev, keyD_int, keyD_str, iDNew_ev, dpF_own, dp1_own, iDPut_ev, ds1_own, dsF_own, iDSet_ev, lzF_tup, iLZip_ev, iDc_ev, iLc_ev, dA_val, dA_own, iPairs_ev, not_false_eq_true, Nat.reduceLT, iCopyD_ev, lcOF_own, iLcO_ev, alC_list, alC_dict, in_ints, notin_ints, gAdd_list, augF_int, iAug_ev, ne_eq, decide_not, in_23]
  exact run_ret (n := 1) (N := 1) (sls := [.val (sym k a b)]) e rfl
theorem isat_eq (t : T) : F_is_atom [.val (enc t)] = some (.val (.bool t.atm), [.val (enc t)]) := by
  cases t with
  | v i =>
    have h1 := isv_v i
    have e := @rfl _ (m_is_atom F_is_variable F_is_individual_symbol [.val (.int i)])
    conv at e => rhs; simp only [m_is_atom, iSeq_ev, sq_next, sq_ret, sq_brk, sq_cont, iNext_ev, iAsg_ev, as_val, as_new_t, as_new_f, setV_ev, set_no, set_val, set_own, iVar_ev, va_val, va_own, look_ev, lo_own, look_val, look_new, vis_val, vis_new, pub_val, pub_new, pub_own, opd_ap, iCon_ap, iBin_ap, iUn_ap, argN_ap, argC_ap, looks_nil, looks_cons, viss_nil, viss_cons, iCB_ap, iTup_ap, iLst_ap, isB_ap, isI_ap, iTst_ap, iTru_ap, iNotT_ap, iAndT_ap, iOrT_ap, iAnd_ap, iOr_ap, iNot_ap, iIf_ap, iSl_ap, iNoP_ap, iPart_ap, iIsi_ap, iIfS_ev, iRet_ev, ret_val', ret_new', ret_own', ro_own, iRetN_ev, iDrop_ev, iBrk_ev, iCont_ev, iBef_ev, iAft_ev, wfl_next, wfl_cont, wfl_brk, wfl_ret, wipe_nil, wipe_cons, wp_no, wp_val, wp_own, iNm_ev, iGT_tup, iGT_list, iGN_ev, iGC_ev, iAsgT_ev, iCall_ev, sls_nil, sls_val, sls_own, dup_nil, dup_val, dup_own, has_nil, has_val, has_own, now_val, now_new, back_ev, bg_nil, bg_cons, bs_no, bs_val, bs_own, bsf_some, bsf_none, b1_nil, b1_val, b1_own, iApp_ev, ap1_list, apF_list, iExU_ev, exF_list, exV_new, exV_tup, iPop_ev, po_snoc, iStL_ev, iFrz_ev, fz_own, fz_val, iRev_ev, gRev_list, gRev_tup, iSeqI_ev, iRevI_ev, iEnumU_ev, iR1_ev, turn_ev, at0, at1, at2, ix0, ix1, ix2, gAdd_int, gAdd_str, gAdd_tup, gSub_int, gMul_int, gMulR_int, gMulL_int, gDiv_int, gMod_int, gPow_int, gNeg_int, gLt_int, gLe_int, gGt_int, gGe_int, gEq_int, gNe_int, gEq_str, gNe_str, gEq_bool, gNe_bool, gIs_ap, gIsN_ap, isNone_none, isNone_int, isNone_tup, isNone_str, gIx_list, gIx_tup, gSl_tup, gSl_list, c1_ap, gLen_list, gLen_tup, gInt_int, gList_list, gList_tup, gTuple_list, gTuple_tup, truD_none, truD_bool, truD_int, truD_list, truD_tup, isi_int_int, isi_int_tup, isi_bool_bool, isi_tup_tup, isi_list_list, isi_bool_int, Option.bind_some, Option.map_some, List.getElem?_cons_zero, List.getElem?_cons_succ, List.set_cons_zero, List.set_cons_succ, List.length_cons, List.length_nil, if_true, reduceIte, decide_true, decide_false, Bool.true_and, Bool.and_true, Bool.not_true, Bool.not_false, Bool.false_eq_true, Bool.not_eq_true, decide_eq_true_eq, Nat.reduceAdd, Nat.reduceLeDiff, Nat.reduceEqDiff, Nat.reduceSub, Nat.reduceMul, Int.reduceLT, Int.reduceLE, Int.reduceEq, Int.reduceAdd, Int.reduceSub, Int.reduceMul, Int.reduceNeg, Int.reduceToNat, Int.reducePow, and_self, eq_self, and_true, true_and, Nat.reduceBEq, ncast, DL.sm, List.length_map, iDGet2_ev, iDGet_ev, iDIn_ev, keyD_int, keyD_str, iDNew_ev, dpF_own, dp1_own, iDPut_ev, ds1_own, dsF_own, iDSet_ev, lzF_tup, iLZip_ev, iDc_ev, iLc_ev, dA_val, dA_own, iPairs_ev, not_false_eq_true, Nat.reduceLT, iCopyD_ev, lcOF_own, iLcO_ev, alC_list, alC_dict, in_ints, notin_ints, gAdd_list, augF_int, iAug_ev, ne_eq, decide_not, h1]
    exact run_ret (n := 1) (N := 1) (sls := [.val (.int i)]) e rfl
  | c k a b ts =>
    have h1 := isv_t [sym k a b, .tuple (encs ts)]
    have h2 := isym_eq k a b
    have e := @rfl _ (m_is_atom F_is_variable F_is_individual_symbol [.val (.tuple [sym k a b, .tuple (encs ts)])])
    conv at e => rhs; simp only [m_is_atom, iSeq_ev, sq_next, sq_ret, sq_brk, sq_cont, iNext_ev, iAsg_ev, as_val, as_new_t, as_new_f, setV_ev, set_no, set_val, set_own, iVar_ev, va_val, va_own, look_ev, lo_own, look_val, look_new, vis_val, vis_new, pub_val, pub_new, pub_own, opd_ap, iCon_ap, iBin_ap, iUn_ap, argN_ap, argC_ap, looks_nil, looks_cons, viss_nil, viss_cons, iCB_ap, iTup_ap, iLst_ap, isB_ap, isI_ap, iTst_ap, iTru_ap, iNotT_ap, iAndT_ap, iOrT_ap, iAnd_ap, iOr_ap, iNot_ap, iIf_ap, iSl_ap, iNoP_ap, iPart_ap, iIsi_ap, iIfS_ev, iRet_ev, ret_val', ret_new', ret_own', ro_own, iRetN_ev, iDrop_ev, iBrk_ev, iCont_ev, iBef_ev, iAft_ev, wfl_next, wfl_cont, wfl_brk, wfl_ret, wipe_nil, wipe_cons, wp_no, wp_val, wp_own, iNm_ev, iGT_tup, iGT_list, iGN_ev, iGC_ev, iAsgT_ev, iCall_ev, sls_nil, sls_val, sls_own, dup_nil, dup_val, dup_own, has_nil, has_val, has_own, now_val, now_new, back_ev, bg_nil, bg_cons, bs_no, bs_val, bs_own, bsf_some, bsf_none, b1_nil, b1_val, b1_own, iApp_ev, ap1_list, apF_list, iExU_ev, exF_list, exV_new, exV_tup, iPop_ev, po_snoc, iStL_ev, iFrz_ev, fz_own, fz_val, iRev_ev, gRev_list, gRev_tup, iSeqI_ev, iRevI_ev, iEnumU_ev, iR1_ev, turn_ev, at0, at1, at2, ix0, ix1, ix2, gAdd_int, gAdd_str, gAdd_tup, gSub_int, gMul_int, gMulR_int, gMulL_int, gDiv_int, gMod_int, gPow_int, gNeg_int, gLt_int, gLe_int, gGt_int, gGe_int, gEq_int, gNe_int, gEq_str, gNe_str, gEq_bool, gNe_bool, gIs_ap, gIsN_ap, isNone_none, isNone_int, isNone_tup, isNone_str, gIx_list, gIx_tup, gSl_tup, gSl_list, c1_ap, gLen_list, gLen_tup, gInt_int, gList_list, gList_tup, gTuple_list, gTuple_tup, truD_none, truD_bool, truD_int, truD_list, truD_tup, isi_int_int, isi_int_tup, isi_bool_bool, isi_tup_tup, isi_list_list, isi_bool_int, Option.bind_some, Option.map_some, List.getElem?_cons_zero, List.getElem?_cons_succ, List.set_cons_zero, List.set_cons_succ, List.length_cons, List.length_nil, if_true, reduceIte, decide_true, decide_false, Bool.true_and, Bool.and_true, Bool.not_true, Bool.not_false, Bool.false_eq_true, Bool.not_eq_true, decide_eq_true_eq, Nat.reduceAdd, Nat.reduceLeDiff, Nat.reduceEqDiff, Nat.reduceSub, Nat.reduceMul, Int.reduceLT, Int.reduceLE, Int.reduceEq, Int.reduceAdd, Int.reduceSub, Int.reduceMul, Int.reduceNeg, Int.reduceToNat, Int.reducePow, and_self, eq_self, and_true, true_and, Nat.reduceBEq, ncast, DL.sm, List.length_map, iDGet2_ev, iDGet_ev, iDIn_ev, keyD_int, keyD_str, iDNew_ev, dpF_own, dp1_own, iDPut_ev, ds1_own, dsF_own, iDSet_ev, lzF_tup, iLZip_ev, iDc_ev, iLc_ev, dA_val, dA_own, iPairs_ev, not_false_eq_true, Nat.reduceLT, iCopyD_ev, lcOF_own, iLcO_ev, alC_list, alC_dict, in_ints, notin_ints, gAdd_list, augF_int, iAug_ev, ne_eq, decide_not, h1, h2]
    exact run_ret (n := 1) (N := 1) (sls := [.val (.tuple [sym k a b, .tuple (encs ts)])]) e rfl
theorem isind_eq {t : T} (h : t.size ≤ 100000) : F_is_individual [.val (enc t)] = some (.val (.bool t.ind), [.val (enc t)]) := by
  have hs := subs_eq h
  have hit : iSeqI (iCall F_subterms (argC (iVar 0) argN)) [.val (enc t), .no] = some (t.subs.map enc, [.val (enc t), .no]) := by
    rw [encs_map] at hs
    simp only [iSeq_ev, sq_next, sq_ret, sq_brk, sq_cont, iNext_ev, iAsg_ev, as_val, as_new_t, as_new_f, setV_ev, set_no, set_val, set_own, iVar_ev, va_val, va_own, look_ev, lo_own, look_val, look_new, vis_val, vis_new, pub_val, pub_new, pub_own, opd_ap, iCon_ap, iBin_ap, iUn_ap, argN_ap, argC_ap, looks_nil, looks_cons, viss_nil, viss_cons, iCB_ap, iTup_ap, iLst_ap, isB_ap, isI_ap, iTst_ap, iTru_ap, iNotT_ap, iAndT_ap, iOrT_ap, iAnd_ap, iOr_ap, iNot_ap, iIf_ap, iSl_ap, iNoP_ap, iPart_ap, iIsi_ap, iIfS_ev, iRet_ev, ret_val', ret_new', ret_own', ro_own, iRetN_ev, iDrop_ev, iBrk_ev, iCont_ev, iBef_ev, iAft_ev, wfl_next, wfl_cont, wfl_brk, wfl_ret, wipe_nil, wipe_cons, wp_no, wp_val, wp_own, iNm_ev, iGT_tup, iGT_list, iGN_ev, iGC_ev, iAsgT_ev, iCall_ev, sls_nil, sls_val, sls_own, dup_nil, dup_val, dup_own, has_nil, has_val, has_own, now_val, now_new, back_ev, bg_nil, bg_cons, bs_no, bs_val, bs_own, bsf_some, bsf_none, b1_nil, b1_val, b1_own, iApp_ev, ap1_list, apF_list, iExU_ev, exF_list, exV_new, exV_tup, iPop_ev, po_snoc, iStL_ev, iFrz_ev, fz_own, fz_val, iRev_ev, gRev_list, gRev_tup, iSeqI_ev, iRevI_ev, iEnumU_ev, iR1_ev, turn_ev, at0, at1, at2, ix0, ix1, ix2, gAdd_int, gAdd_str, gAdd_tup, gSub_int, gMul_int, gMulR_int, gMulL_int, gDiv_int, gMod_int, gPow_int, gNeg_int, gLt_int, gLe_int, gGt_int, gGe_int, gEq_int, gNe_int, gEq_str, gNe_str, gEq_bool, gNe_bool, gIs_ap, gIsN_ap, isNone_none, isNone_int, isNone_tup, isNone_str, gIx_list, gIx_tup, gSl_tup, gSl_list, c1_ap, gLen_list, gLen_tup, gInt_int, gList_list, gList_tup, gTuple_list, gTuple_tup, truD_none, truD_bool, truD_int, truD_list, truD_tup, isi_int_int, isi_int_tup, isi_bool_bool, isi_tup_tup, isi_list_list, isi_bool_int, Option.bind_some, Option.map_some, List.getElem?_cons_zero, List.getElem?_cons_succ, List.set_cons_zero, List.set_cons_succ, List.length_cons, List.length_nil, if_true, reduceIte, decide_true, decide_false, Bool.true_and, Bool.and_true, Bool.not_true, Bool.not_false, Bool.false_eq_true, Bool.not_eq_true, decide_eq_true_eq, Nat.reduceAdd, Nat.reduceLeDiff, Nat.reduceEqDiff, Nat.reduceSub, Nat.reduceMul, Int.reduceLT, Int.reduceLE, Int.reduceEq, Int.reduceAdd, Int.reduceSub, Int.reduceMul, Int.reduceNeg, Int.reduceToNat, Int.reducePow, and_self, eq_self, and_true, true_and, Nat.reduceBEq, ncast, DL.sm, List.length_map, iDGet2_ev, iDGet_ev, iDIn_ev, keyD_int, keyD_str, iDNew_ev, dpF_own, dp1_own, iDPut_ev, ds1_own, dsF_own, iDSet_ev, lzF_tup, iLZip_ev, iDc_ev, iLc_ev, dA_val, dA_own, iPairs_ev, not_false_eq_true, Nat.reduceLT, iCopyD_ev, lcOF_own, iLcO_ev, alC_list, alC_dict, in_ints, notin_ints, gAdd_list, augF_int, iAug_ev, ne_eq, decide_not, hs]
  have g := allG_eq (j := 1) (f := (iOr (iCall F_is_variable (argC (iVar 1) argN)) (iCall F_is_individual_symbol (argC (iBin gIx (iVar 1) (iCon (.int 0))) argN)))) (b := T.here) hit rfl fun u hu => by
    cases u with
    | v i =>
      have h1 := isv_v i
      simp only [iSeq_ev, sq_next, sq_ret, sq_brk, sq_cont, iNext_ev, iAsg_ev, as_val, as_new_t, as_new_f, setV_ev, set_no, set_val, set_own, iVar_ev, va_val, va_own, look_ev, lo_own, look_val, look_new, vis_val, vis_new, pub_val, pub_new, pub_own, opd_ap, iCon_ap, iBin_ap, iUn_ap, argN_ap, argC_ap, looks_nil, looks_cons, viss_nil, viss_cons, iCB_ap, iTup_ap, iLst_ap, isB_ap, isI_ap, iTst_ap, iTru_ap, iNotT_ap, iAndT_ap, iOrT_ap, iAnd_ap, iOr_ap, iNot_ap, iIf_ap, iSl_ap, iNoP_ap, iPart_ap, iIsi_ap, iIfS_ev, iRet_ev, ret_val', ret_new', ret_own', ro_own, iRetN_ev, iDrop_ev, iBrk_ev, iCont_ev, iBef_ev, iAft_ev, wfl_next, wfl_cont, wfl_brk, wfl_ret, wipe_nil, wipe_cons, wp_no, wp_val, wp_own, iNm_ev, iGT_tup, iGT_list, iGN_ev, iGC_ev, iAsgT_ev, iCall_ev, sls_nil, sls_val, sls_own, dup_nil, dup_val, dup_own, has_nil, has_val, has_own, now_val, now_new, back_ev, bg_nil, bg_cons, bs_no, bs_val, bs_own, bsf_some, bsf_none, b1_nil, b1_val, b1_own, iApp_ev, ap1_list, apF_list, iExU_ev, exF_list, exV_new, exV_tup, iPop_ev, po_snoc, iStL_ev, iFrz_ev, fz_own, fz_val, iRev_ev, gRev_list, gRev_tup, iSeqI_ev, iRevI_ev, iEnumU_ev, iR1_ev, turn_ev, at0, at1, at2, ix0, ix1, ix2, gAdd_int, gAdd_str, gAdd_tup, gSub_int, gMul_int, gMulR_int, gMulL_int, gDiv_int, gMod_int, gPow_int, gNeg_int, gLt_int, gLe_int, gGt_int, gGe_int, gEq_int, gNe_int, gEq_str, gNe_str, gEq_bool, gNe_bool, gIs_ap, gIsN_ap, isNone_none, isNone_int, isNone_tup, isNone_str, gIx_list, gIx_tup, gSl_tup, gSl_list, c1_ap, gLen_list, gLen_tup, gInt_int, gList_list, gList_tup, gTuple_list, gTuple_tup, truD_none, truD_bool, truD_int, truD_list, truD_tup, isi_int_int, isi_int_tup, isi_bool_bool, isi_tup_tup, isi_list_list, isi_bool_int, Option.bind_some, Option.map_some, List.getElem?_cons_zero, List.getElem?_cons_succ, List.set_cons_zero, List.set_cons_succ, List.length_cons, List.length_nil, if_true, reduceIte, decide_true, decide_false, Bool.true_and, Bool.and_true, Bool.not_true, Bool.not_false, Bool.false_eq_true, Bool.not_eq_true, decide_eq_true_eq, Nat.reduceAdd, Nat.reduceLeDiff, Nat.reduceEqDiff, Nat.reduceSub, Nat.reduceMul, Int.reduceLT, Int.reduceLE, Int.reduceEq, Int.reduceAdd, Int.reduceSub, Int.reduceMul, Int.reduceNeg, Int.reduceToNat, Int.reducePow, and_self, eq_self, and_true, true_and, Nat.reduceBEq, ncast, DL.sm, List.length_map, iDGet2_ev, iDGet_ev, iDIn_ev, keyD_int, keyD_str, iDNew_ev, dpF_own, dp1_own, iDPut_ev, ds1_own, dsF_own, iDSet_ev, lzF_tup, iLZip_ev, iDc_ev, iLc_ev, dA_val, dA_own, iPairs_ev, not_false_eq_true, Nat.reduceLT, iCopyD_ev, lcOF_own, iLcO_ev, alC_list, alC_dict, in_ints, notin_ints, gAdd_list, augF_int, iAug_ev, ne_eq, decide_not, enc_v, h1, T.here]
    | c k a b ts =>
      have h1 := isv_t [sym k a b, .tuple (encs ts)]
      have h2 := isym_eq k a b
      simp only [iSeq_ev, sq_next, sq_ret, sq_brk, sq_cont, iNext_ev, iAsg_ev, as_val, as_new_t, as_new_f, setV_ev, set_no, set_val, set_own, iVar_ev, va_val, va_own, look_ev, lo_own, look_val, look_new, vis_val, vis_new, pub_val, pub_new, pub_own, opd_ap, iCon_ap, iBin_ap, iUn_ap, argN_ap, argC_ap, looks_nil, looks_cons, viss_nil, viss_cons, iCB_ap, iTup_ap, iLst_ap, isB_ap, isI_ap, iTst_ap, iTru_ap, iNotT_ap, iAndT_ap, iOrT_ap, iAnd_ap, iOr_ap, iNot_ap, iIf_ap, iSl_ap, iNoP_ap, iPart_ap, iIsi_ap, iIfS_ev, iRet_ev, ret_val', ret_new', ret_own', ro_own, iRetN_ev, iDrop_ev, iBrk_ev, iCont_ev, iBef_ev, iAft_ev, wfl_next, wfl_cont, wfl_brk, wfl_ret, wipe_nil, wipe_cons, wp_no, wp_val, wp_own, iNm_ev, iGT_tup, iGT_list, iGN_ev, iGC_ev, iAsgT_ev, iCall_ev, sls_nil, sls_val, sls_own, dup_nil, dup_val, dup_own, has_nil, has_val, has_own, now_val, now_new, back_ev, bg_nil, bg_cons, bs_no, bs_val, bs_own, bsf_some, bsf_none, b1_nil, b1_val, b1_own, iApp_ev, ap1_list, apF_list, iExU_ev, exF_list, exV_new, exV_tup, iPop_ev, po_snoc, iStL_ev, iFrz_ev, fz_own, fz_val, iRev_ev, gRev_list, gRev_tup, iSeqI_ev, iRevI_ev, iEnumU_ev, iR1_ev, turn_ev, at0, at1, at2, ix0, ix1, ix2, gAdd_int, gAdd_str, gAdd_tup, gSub_int, gMul_int, gMulR_int, gMulL_int, gDiv_int, gMod_int, gPow_int, gNeg_int, gLt_int, gLe_int, gGt_int, gGe_int, gEq_int, gNe_int, gEq_str, gNe_str, gEq_bool, gNe_bool, gIs_ap, gIsN_ap, isNone_none, isNone_int, isNone_tup, isNone_str, gIx_list, gIx_tup, gSl_tup, gSl_list, c1_ap, gLen_list, gLen_tup, gInt_int, gList_list, gList_tup, gTuple_list, gTuple_tup, truD_none, truD_bool, truD_int, truD_list, truD_tup, isi_int_int, isi_int_tup, isi_bool_bool, isi_tup_tup, isi_list_list, isi_bool_int, Option.bind_some, Option.map_some, List.getElem?_cons_zero, List.getElem?_cons_succ, List.set_cons_zero, List.set_cons_succ, List.length_cons, List.length_nil, if_true, reduceIte, decide_true, decide_false, Bool.true_and, Bool.and_true, Bool.not_true, Bool.not_false, Bool.false_eq_true, Bool.not_eq_true, decide_eq_true_eq, Nat.reduceAdd, Nat.reduceLeDiff, Nat.reduceEqDiff, Nat.reduceSub, Nat.reduceMul, Int.reduceLT, Int.reduceLE, Int.reduceEq, Int.reduceAdd, Int.reduceSub, Int.reduceMul, Int.reduceNeg, Int.reduceToNat, Int.reducePow, and_self, eq_self, and_true, true_and, Nat.reduceBEq, ncast, DL.sm, List.length_map, iDGet2_ev, iDGet_ev, iDIn_ev, keyD_int, keyD_str, iDNew_ev, dpF_own, dp1_own, iDPut_ev, ds1_own, dsF_own, iDSet_ev, lzF_tup, iLZip_ev, iDc_ev, iLc_ev, dA_val, dA_own, iPairs_ev, not_false_eq_true, Nat.reduceLT, iCopyD_ev, lcOF_own, iLcO_ev, alC_list, alC_dict, in_ints, notin_ints, gAdd_list, augF_int, iAug_ev, ne_eq, decide_not, enc_c, h1, h2, T.here]
  have e := @rfl _ (m_is_individual F_subterms F_is_variable F_is_individual_symbol [.val (enc t), .no])
  conv at e => rhs; simp only [m_is_individual, iSeq_ev, sq_next, sq_ret, sq_brk, sq_cont, iNext_ev, iAsg_ev, as_val, as_new_t, as_new_f, setV_ev, set_no, set_val, set_own, iVar_ev, va_val, va_own, look_ev, lo_own, look_val, look_new, vis_val, vis_new, pub_val, pub_new, pub_own, opd_ap, iCon_ap, iBin_ap, iUn_ap, argN_ap, argC_ap, looks_nil, looks_cons, viss_nil, viss_cons, iCB_ap, iTup_ap, iLst_ap, isB_ap, isI_ap, iTst_ap, iTru_ap, iNotT_ap, iAndT_ap, iOrT_ap, iAnd_ap, iOr_ap, iNot_ap, iIf_ap, iSl_ap, iNoP_ap, iPart_ap, iIsi_ap, iIfS_ev, iRet_ev, ret_val', ret_new', ret_own', ro_own, iRetN_ev, iDrop_ev, iBrk_ev, iCont_ev, iBef_ev, iAft_ev, wfl_next, wfl_cont, wfl_brk, wfl_ret, wipe_nil, wipe_cons, wp_no, wp_val, wp_own, iNm_ev, iGT_tup, iGT_list, iGN_ev, iGC_ev, iAsgT_ev, iCall_ev, sls_nil, sls_val, sls_own, dup_nil, dup_val, dup_own, has_nil, has_val, has_own, now_val, now_new, back_ev, bg_nil, bg_cons, bs_no, bs_val, bs_own, bsf_some, bsf_none, b1_nil, b1_val, b1_own, iApp_ev, ap1_list, apF_list, iExU_ev, exF_list, exV_new, exV_tup, iPop_ev, po_snoc, iStL_ev, iFrz_ev, fz_own, fz_val, iRev_ev, gRev_list, gRev_tup, iSeqI_ev, iRevI_ev, iEnumU_ev, iR1_ev, turn_ev, at0, at1, at2, ix0, ix1, ix2, gAdd_int, gAdd_str, gAdd_tup, gSub_int, gMul_int, gMulR_int, gMulL_int, gDiv_int, gMod_int, gPow_int, gNeg_int, gLt_int, gLe_int, gGt_int, gGe_int, gEq_int, gNe_int, gEq_str, gNe_str, gEq_bool, gNe_bool, gIs_ap, gIsN_ap, isNone_none, isNone_int, isNone_tup, isNone_str, gIx_list, gIx_tup, gSl_tup, gSl_list, c1_ap, gLen_list, gLen_tup, gInt_int, gList_list, gList_tup, gTuple_list, gTuple_tup, truD_none, truD_bool, truD_int, truD_list, truD_tup, isi_int_int, isi_int_tup, isi_bool_bool, isi_tup_tup, isi_list_list, isi_bool_int, Option.bind_some, Option.map_some, List.getElem?_cons_zero, List.getElem?_cons_succ, List.set_cons_zero, List.set_cons_succ, List.length_cons, List.length_nil, if_true, reduceIte, decide_true, decide_false, Bool.true_and, Bool.and_true, Bool.not_true, Bool.not_false, Bool.false_eq_true, Bool.not_eq_true, decide_eq_true_eq, Nat.reduceAdd, Nat.reduceLeDiff, Nat.reduceEqDiff, Nat.reduceSub, Nat.reduceMul, Int.reduceLT, Int.reduceLE, Int.reduceEq, Int.reduceAdd, Int.reduceSub, Int.reduceMul, Int.reduceNeg, Int.reduceToNat, Int.reducePow, and_self, eq_self, and_true, true_and, Nat.reduceBEq, ncast, DL.sm, List.length_map, iDGet2_ev, iDGet_ev, iDIn_ev, keyD_int, keyD_str, iDNew_ev, dpF_own, dp1_own, iDPut_ev, ds1_own, dsF_own, iDSet_ev, lzF_tup, iLZip_ev, iDc_ev, iLc_ev, dA_val, dA_own, iPairs_ev, not_false_eq_true, Nat.reduceLT, iCopyD_ev, lcOF_own, iLcO_ev, alC_list, alC_dict, in_ints, notin_ints, gAdd_list, augF_int, iAug_ev, ne_eq, decide_not, g, subs_here]
  exact run_ret (n := 1) (N := 2) (sls := [.val (enc t)]) e rfl
theorem isatc_eq {t : T} (h : t.size ≤ 100000) : F_is_atomic [.val (enc t)] = some (.val (.bool t.atc), [.val (enc t)]) := by
  have h0 := isat_eq t
  cases t with
  | v i =>
    rw [enc_v] at h0 ⊢
    have e := @rfl _ (m_is_atomic F_is_atom F_is_individual [.val (.int i), .no])
    conv at e => rhs; simp only [m_is_atomic, iSeq_ev, sq_next, sq_ret, sq_brk, sq_cont, iNext_ev, iAsg_ev, as_val, as_new_t, as_new_f, setV_ev, set_no, set_val, set_own, iVar_ev, va_val, va_own, look_ev, lo_own, look_val, look_new, vis_val, vis_new, pub_val, pub_new, pub_own, opd_ap, iCon_ap, iBin_ap, iUn_ap, argN_ap, argC_ap, looks_nil, looks_cons, viss_nil, viss_cons, iCB_ap, iTup_ap, iLst_ap, isB_ap, isI_ap, iTst_ap, iTru_ap, iNotT_ap, iAndT_ap, iOrT_ap, iAnd_ap, iOr_ap, iNot_ap, iIf_ap, iSl_ap, iNoP_ap, iPart_ap, iIsi_ap, iIfS_ev, iRet_ev, ret_val', ret_new', ret_own', ro_own, iRetN_ev, iDrop_ev, iBrk_ev, iCont_ev, iBef_ev, iAft_ev, wfl_next, wfl_cont, wfl_brk, wfl_ret, wipe_nil, wipe_cons, wp_no, wp_val, wp_own, iNm_ev, iGT_tup, iGT_list, iGN_ev, iGC_ev, iAsgT_ev, iCall_ev, sls_nil, sls_val, sls_own, dup_nil, dup_val, dup_own, has_nil, has_val, has_own, now_val, now_new, back_ev, bg_nil, bg_cons, bs_no, bs_val, bs_own, bsf_some, bsf_none, b1_nil, b1_val, b1_own, iApp_ev, ap1_list, apF_list, iExU_ev, exF_list, exV_new, exV_tup, iPop_ev, po_snoc, iStL_ev, iFrz_ev, fz_own, fz_val, iRev_ev, gRev_list, gRev_tup, iSeqI_ev, iRevI_ev, iEnumU_ev, iR1_ev, turn_ev, at0, at1, at2, ix0, ix1, ix2, gAdd_int, gAdd_str, gAdd_tup, gSub_int, gMul_int, gMulR_int, gMulL_int, gDiv_int, gMod_int, gPow_int, gNeg_int, gLt_int, gLe_int, gGt_int, gGe_int, gEq_int, gNe_int, gEq_str, gNe_str, gEq_bool, gNe_bool, gIs_ap, gIsN_ap, isNone_none, isNone_int, isNone_tup, isNone_str, gIx_list, gIx_tup, gSl_tup, gSl_list, c1_ap, gLen_list, gLen_tup, gInt_int, gList_list, gList_tup, gTuple_list, gTuple_tup, truD_none, truD_bool, truD_int, truD_list, truD_tup, isi_int_int, isi_int_tup, isi_bool_bool, isi_tup_tup, isi_list_list, isi_bool_int, Option.bind_some, Option.map_some, List.getElem?_cons_zero, List.getElem?_cons_succ, List.set_cons_zero, List.set_cons_succ, List.length_cons, List.length_nil, if_true, reduceIte, decide_true, decide_false, Bool.true_and, Bool.and_true, Bool.not_true, Bool.not_false, Bool.false_eq_true, Bool.not_eq_true, decide_eq_true_eq, Nat.reduceAdd, Nat.reduceLeDiff, Nat.reduceEqDiff, Nat.reduceSub, Nat.reduceMul, Int.reduceLT, Int.reduceLE, Int.reduceEq, Int.reduceAdd, Int.reduceSub, Int.reduceMul, Int.reduceNeg, Int.reduceToNat, Int.reducePow, and_self, eq_self, and_true, true_and, Nat.reduceBEq, ncast, DL.sm, List.length_map, iDGet2_ev, iDGet_ev, iDIn_ev, keyD_int, keyD_str, iDNew_ev, dpF_own, dp1_own, iDPut_ev, ds1_own, dsF_own, iDSet_ev, lzF_tup, iLZip_ev, iDc_ev, iLc_ev, dA_val, dA_own, iPairs_ev, not_false_eq_true, Nat.reduceLT, iCopyD_ev, lcOF_own, iLcO_ev, alC_list, alC_dict, in_ints, notin_ints, gAdd_list, augF_int, iAug_ev, ne_eq, decide_not, h0, T.atm]
    exact run_ret (n := 1) (N := 2) (sls := [.val (.int i)]) e rfl
  | c k a b ts =>
    rw [enc_c] at h0 ⊢
    have hit : iSeqI (iBin gIx (iVar 0) (iCon (.int 1))) [.val (.tuple [sym k a b, .tuple (encs ts)]), .no] = some (ts.map enc, [.val (.tuple [sym k a b, .tuple (encs ts)]), .no]) := by
      simp only [iSeq_ev, sq_next, sq_ret, sq_brk, sq_cont, iNext_ev, iAsg_ev, as_val, as_new_t, as_new_f, setV_ev, set_no, set_val, set_own, iVar_ev, va_val, va_own, look_ev, lo_own, look_val, look_new, vis_val, vis_new, pub_val, pub_new, pub_own, opd_ap, iCon_ap, iBin_ap, iUn_ap, argN_ap, argC_ap, looks_nil, looks_cons, viss_nil, viss_cons, iCB_ap, iTup_ap, iLst_ap, isB_ap, isI_ap, iTst_ap, iTru_ap, iNotT_ap, iAndT_ap, iOrT_ap, iAnd_ap, iOr_ap, iNot_ap, iIf_ap, iSl_ap, iNoP_ap, iPart_ap, iIsi_ap, iIfS_ev, iRet_ev, ret_val', ret_new', ret_own', ro_own, iRetN_ev, iDrop_ev, iBrk_ev, iCont_ev, iBef_ev, iAft_ev, wfl_next, wfl_cont, wfl_brk, wfl_ret, wipe_nil, wipe_cons, wp_no, wp_val, wp_own, iNm_ev, iGT_tup, iGT_list, iGN_ev, iGC_ev, iAsgT_ev, iCall_ev, sls_nil, sls_val, sls_own, dup_nil, dup_val, dup_own, has_nil, has_val, has_own, now_val, now_new, back_ev, bg_nil, bg_cons, bs_no, bs_val, bs_own, bsf_some, bsf_none, b1_nil, b1_val, b1_own, iApp_ev, ap1_list, apF_list, iExU_ev, exF_list, exV_new, exV_tup, iPop_ev, po_snoc, iStL_ev, iFrz_ev, fz_own, fz_val, iRev_ev, gRev_list, gRev_tup, iSeqI_ev, iRevI_ev, iEnumU_ev, iR1_ev, turn_ev, at0, at1, at2, ix0, ix1, ix2, gAdd_int, gAdd_str, gAdd_tup, gSub_int, gMul_int, gMulR_int, gMulL_int, gDiv_int, gMod_int, gPow_int, gNeg_int, gLt_int, gLe_int, gGt_int, gGe_int, gEq_int, gNe_int, gEq_str, gNe_str, gEq_bool, gNe_bool, gIs_ap, gIsN_ap, isNone_none, isNone_int, isNone_tup, isNone_str, gIx_list, gIx_tup, gSl_tup, gSl_list, c1_ap, gLen_list, gLen_tup, gInt_int, gList_list, gList_tup, gTuple_list, gTuple_tup, truD_none, truD_bool, truD_int, truD_list, truD_tup, isi_int_int, isi_int_tup, isi_bool_bool, isi_tup_tup, isi_list_list, isi_bool_int, Option.bind_some, Option.map_some, List.getElem?_cons_zero, List.getElem?_cons_succ, List.set_cons_zero, List.set_cons_succ, List.length_cons, List.length_nil, if_true, reduceIte, decide_true, decide_false, Bool.true_and, Bool.and_true, Bool.not_true, Bool.not_false, Bool.false_eq_true, Bool.not_eq_true, decide_eq_true_eq, Nat.reduceAdd, Nat.reduceLeDiff, Nat.reduceEqDiff, Nat.reduceSub, Nat.reduceMul, Int.reduceLT, Int.reduceLE, Int.reduceEq, Int.reduceAdd, Int.reduceSub, Int.reduceMul, Int.reduceNeg, Int.reduceToNat, Int.reducePow, and_self, eq_self, and_true, true_and, Nat.reduceBEq, ncast, DL.sm, List.length_map, iDGet2_ev, iDGet_ev, iDIn_ev, keyD_int, keyD_str, iDNew_ev, dpF_own, dp1_own, iDPut_ev, ds1_own, dsF_own, iDSet_ev, lzF_tup, iLZip_ev, iDc_ev, iLc_ev, dA_val, dA_own, iPairs_ev, not_false_eq_true, Nat.reduceLT, iCopyD_ev, lcOF_own, iLcO_ev, alC_list, alC_dict, in_ints, notin_ints, gAdd_list, augF_int, iAug_ev, ne_eq, decide_not, encs_map]
    have g := allG_eq (j := 1) (f := (iCall F_is_individual (argC (iVar 1) argN))) (b := T.ind) hit rfl fun u hu => by
      have hsz : u.size ≤ 100000 := by
        have h1 : u.size ≤ sizes ts := by
          clear hit h0 h
          induction ts with
          | nil => cases hu
          | cons v vs ih =>
            rw [sizes]
            rcases List.mem_cons.mp hu with rfl | hu
            · omega
            · have := ih hu; omega
        rw [T.size] at h
        omega
      have h1 := isind_eq hsz
      simp only [iSeq_ev, sq_next, sq_ret, sq_brk, sq_cont, iNext_ev, iAsg_ev, as_val, as_new_t, as_new_f, setV_ev, set_no, set_val, set_own, iVar_ev, va_val, va_own, look_ev, lo_own, look_val, look_new, vis_val, vis_new, pub_val, pub_new, pub_own, opd_ap, iCon_ap, iBin_ap, iUn_ap, argN_ap, argC_ap, looks_nil, looks_cons, viss_nil, viss_cons, iCB_ap, iTup_ap, iLst_ap, isB_ap, isI_ap, iTst_ap, iTru_ap, iNotT_ap, iAndT_ap, iOrT_ap, iAnd_ap, iOr_ap, iNot_ap, iIf_ap, iSl_ap, iNoP_ap, iPart_ap, iIsi_ap, iIfS_ev, iRet_ev, ret_val', ret_new', ret_own', ro_own, iRetN_ev, iDrop_ev, iBrk_ev, iCont_ev, iBef_ev, iAft_ev, wfl_next, wfl_cont, wfl_brk, wfl_ret, wipe_nil, wipe_cons, wp_no, wp_val, wp_own, iNm_ev, iGT_tup, iGT_list, iGN_ev, iGC_ev, iAsgT_ev, iCall_ev, sls_nil, sls_val, sls_own, dup_nil, dup_val, dup_own, has_nil, has_val, has_own, now_val, now_new, back_ev, bg_nil, bg_cons, bs_no, bs_val, bs_own, bsf_some, bsf_none, b1_nil, b1_val, b1_own, iApp_ev, ap1_list, apF_list, iExU_ev, exF_list, exV_new, exV_tup, iPop_ev, po_snoc, iStL_ev, iFrz_ev, fz_own, fz_val, iRev_ev, gRev_list, gRev_tup, iSeqI_ev, iRevI_ev, iEnumU_ev, iR1_ev, turn_ev, at0, at1, at2, ix0, ix1, ix2, gAdd_int, gAdd_str, gAdd_tup, gSub_int, gMul_int, gMulR_int, gMulL_int, gDiv_int, gMod_int, gPow_int, gNeg_int, gLt_int, gLe_int, gGt_int, gGe_int, gEq_int, gNe_int, gEq_str, gNe_str, gEq_bool, gNe_bool, gIs_ap, gIsN_ap, isNone_none, isNone_int, isNone_tup, isNone_str, gIx_list, gIx_tup, gSl_tup, gSl_list, c1_ap, gLen_list, gLen_tup, gInt_int, gList_list, gList_tup, gTuple_list, gTuple_tup, truD_none, truD_bool, truD_int, truD_list, truD_tup, isi_int_int, isi_int_tup, isi_bool_bool, isi_tup_tup, isi_list_list, isi_bool_int, Option.bind_some, Option.map_some, List.getElem?_cons_zero, List.getElem?_cons_succ, List.set_cons_zero, List.set_cons_succ, List.length_cons, List.length_nil, if_true, reduceIte, decide_true, decide_false, Bool.true_and, Bool.and_true, Bool.not_true, Bool.not_false, Bool.false_eq_true, Bool.not_eq_true, decide_eq_true_eq, Nat.reduceAdd, Nat.reduceLeDiff, Nat.reduceEqDiff, Nat.reduceSub, Nat.reduceMul, Int.reduceLT, Int.reduceLE, Int.reduceEq, Int.reduceAdd, Int.reduceSub, Int.reduceMul, Int.reduceNeg, Int.reduceToNat, Int.reducePow, and_self, eq_self, and_true, true_and, Nat.reduceBEq, ncast, DL.sm, List.length_map, iDGet2_ev, iDGet_ev, iDIn_ev, keyD_int, keyD_str, iDNew_ev, dpF_own, dp1_own, iDPut_ev, ds1_own, dsF_own, iDSet_ev, lzF_tup, iLZip_ev, iDc_ev, iLc_ev, dA_val, dA_own, iPairs_ev, not_false_eq_true, Nat.reduceLT, iCopyD_ev, lcOF_own, iLcO_ev, alC_list, alC_dict, in_ints, notin_ints, gAdd_list, augF_int, iAug_ev, ne_eq, decide_not, h1]
    have e := @rfl _ (m_is_atomic F_is_atom F_is_individual [.val (.tuple [sym k a b, .tuple (encs ts)]), .no])
    conv at e => rhs; simp only [m_is_atomic, iSeq_ev, sq_next, sq_ret, sq_brk, sq_cont, iNext_ev, iAsg_ev, as_val, as_new_t, as_new_f, setV_ev, set_no, set_val, set_own, iVar_ev, va_val, va_own, look_ev, lo_own, look_val, look_new, vis_val, vis_new, pub_val, pub_new, pub_own, opd_ap, iCon_ap, iBin_ap, iUn_ap, argN_ap, argC_ap, looks_nil, looks_cons, viss_nil, viss_cons, iCB_ap, iTup_ap, iLst_ap, isB_ap, isI_ap, iTst_ap, iTru_ap, iNotT_ap, iAndT_ap, iOrT_ap, iAnd_ap, iOr_ap, iNot_ap, iIf_ap, iSl_ap, iNoP_ap, iPart_ap, iIsi_ap, iIfS_ev, iRet_ev, ret_val', ret_new', ret_own', ro_own, iRetN_ev, iDrop_ev, iBrk_ev, iCont_ev, iBef_ev, iAft_ev, wfl_next, wfl_cont, wfl_brk, wfl_ret, wipe_nil, wipe_cons, wp_no, wp_val, wp_own, iNm_ev, iGT_tup, iGT_list, iGN_ev, iGC_ev, iAsgT_ev, iCall_ev, sls_nil, sls_val, sls_own, dup_nil, dup_val, dup_own, has_nil, has_val, has_own, now_val, now_new, back_ev, bg_nil, bg_cons, bs_no, bs_val, bs_own, bsf_some, bsf_none, b1_nil, b1_val, b1_own, iApp_ev, ap1_list, apF_list, iExU_ev, exF_list, exV_new, exV_tup, iPop_ev, po_snoc, iStL_ev, iFrz_ev, fz_own, fz_val, iRev_ev, gRev_list, gRev_tup, iSeqI_ev, iRevI_ev, iEnumU_ev, iR1_ev, turn_ev, at0, at1, at2, ix0, ix1, ix2, gAdd_int, gAdd_str, gAdd_tup, gSub_int, gMul_int, gMulR_int, gMulL_int, gDiv_int, gMod_int, gPow_int, gNeg_int, gLt_int, gLe_int, gGt_int, gGe_int, gEq_int, gNe_int, gEq_str, gNe_str, gEq_bool, gNe_bool, gIs_ap, gIsN_ap, isNone_none, isNone_int, isNone_tup, isNone_str, gIx_list, gIx_tup, gSl_tup, gSl_list, c1_ap, gLen_list, gLen_tup, gInt_int, gList_list, gList_tup, gTuple_list, gTuple_tup, truD_none, truD_bool, truD_int, truD_list, truD_tup, isi_int_int, isi_int_tup, isi_bool_bool, isi_tup_tup, isi_list_list, isi_bool_int, Option.bind_some, Option.map_some, List.getElem?_cons_zero, List.getElem?_cons_succ, List.set_cons_zero, List.set_cons_succ, List.length_cons, List.length_nil, if_true, reduceIte, decide_true, decide_false, Bool.true_and, Bool.and_true, Bool.not_true, Bool.not_false, Bool.false_eq_true, Bool.not_eq_true, decide_eq_true_eq, Nat.reduceAdd, Nat.reduceLeDiff, Nat.reduceEqDiff, Nat.reduceSub, Nat.reduceMul, Int.reduceLT, Int.reduceLE, Int.reduceEq, Int.reduceAdd, Int.reduceSub, Int.reduceMul, Int.reduceNeg, Int.reduceToNat, Int.reducePow, and_self, eq_self, and_true, true_and, Nat.reduceBEq, ncast, DL.sm, List.length_map, iDGet2_ev, iDGet_ev, iDIn_ev, keyD_int, keyD_str, iDNew_ev, dpF_own, dp1_own, iDPut_ev, ds1_own, dsF_own, iDSet_ev, lzF_tup, iLZip_ev, iDc_ev, iLc_ev, dA_val, dA_own, iPairs_ev, not_false_eq_true, Nat.reduceLT, iCopyD_ev, lcOF_own, iLcO_ev, alC_list, alC_dict, in_ints, notin_ints, gAdd_list, augF_int, iAug_ev, ne_eq, decide_not, h0, g, T.atm]
    have e2 : (T.c k a b ts).atc = (!indK k && ts.all T.ind) := by rw [T.atc, inds_all]
    cases hk : indK k with
    | true =>
      rw [hk] at e
      simp only [iSeq_ev, sq_next, sq_ret, sq_brk, sq_cont, iNext_ev, iAsg_ev, as_val, as_new_t, as_new_f, setV_ev, set_no, set_val, set_own, iVar_ev, va_val, va_own, look_ev, lo_own, look_val, look_new, vis_val, vis_new, pub_val, pub_new, pub_own, opd_ap, iCon_ap, iBin_ap, iUn_ap, argN_ap, argC_ap, looks_nil, looks_cons, viss_nil, viss_cons, iCB_ap, iTup_ap, iLst_ap, isB_ap, isI_ap, iTst_ap, iTru_ap, iNotT_ap, iAndT_ap, iOrT_ap, iAnd_ap, iOr_ap, iNot_ap, iIf_ap, iSl_ap, iNoP_ap, iPart_ap, iIsi_ap, iIfS_ev, iRet_ev, ret_val', ret_new', ret_own', ro_own, iRetN_ev, iDrop_ev, iBrk_ev, iCont_ev, iBef_ev, iAft_ev, wfl_next, wfl_cont, wfl_brk, wfl_ret, wipe_nil, wipe_cons, wp_no, wp_val, wp_own, iNm_ev, iGT_tup, iGT_list, iGN_ev, iGC_ev, iAsgT_ev, iCall_ev, sls_nil, sls_val, sls_own, dup_nil, dup_val, dup_own, has_nil, has_val, has_own, now_val, now_new, back_ev, bg_nil, bg_cons, bs_no, bs_val, bs_own, bsf_some, bsf_none, b1_nil, b1_val, b1_own, iApp_ev, ap1_list, apF_list, iExU_ev, exF_list, exV_new, exV_tup, iPop_ev, po_snoc, iStL_ev, iFrz_ev, fz_own, fz_val, iRev_ev, gRev_list, gRev_tup, iSeqI_ev, iRevI_ev, iEnumU_ev, iR1_ev, turn_ev, at0, at1, at2, ix0, ix1, ix2, gAdd_int, gAdd_str, gAdd_tup, gSub_int, gMul_int, gMulR_int, gMulL_int, gDiv_int, gMod_int, gPow_int, gNeg_int, gLt_int, gLe_int, gGt_int, gGe_int, gEq_int, gNe_int, gEq_str, gNe_str, gEq_bool, gNe_bool, gIs_ap, gIsN_ap, isNone_none, isNone_int, isNone_tup, isNone_str, gIx_list, gIx_tup, gSl_tup, gSl_list, c1_ap, gLen_list, gLen_tup, gInt_int, gList_list, gList_tup, gTuple_list, gTuple_tup, truD_none, truD_bool, truD_int, truD_list, truD_tup, isi_int_int, isi_int_tup, isi_bool_bool, isi_tup_tup, isi_list_list, isi_bool_int, Option.bind_some, Option.map_some, List.getElem?_cons_zero, List.getElem?_cons_succ, List.set_cons_zero, List.set_cons_succ, List.length_cons, List.length_nil, if_true, reduceIte, decide_true, decide_false, Bool.true_and, Bool.and_true, Bool.not_true, Bool.not_false, Bool.false_eq_true, Bool.not_eq_true, decide_eq_true_eq, Nat.reduceAdd, Nat.reduceLeDiff, Nat.reduceEqDiff, Nat.reduceSub, Nat.reduceMul, Int.reduceLT, Int.reduceLE, Int.reduceEq, Int.reduceAdd, Int.reduceSub, Int.reduceMul, Int.reduceNeg, Int.reduceToNat, Int.reducePow, and_self, eq_self, and_true, true_and, Nat.reduceBEq, ncast, DL.sm, List.length_map, iDGet2_ev, iDGet_ev, iDIn_ev, keyD_int, keyD_str, iDNew_ev, dpF_own, dp1_own, iDPut_ev, ds1_own, dsF_own, iDSet_ev, lzF_tup, iLZip_ev, iDc_ev, iLc_ev, dA_val, dA_own, iPairs_ev, not_false_eq_true, Nat.reduceLT, iCopyD_ev, lcOF_own, iLcO_ev, alC_list, alC_dict, in_ints, notin_ints, gAdd_list, augF_int, iAug_ev, ne_eq, decide_not] at e
      rw [e2, hk]
      exact run_ret (n := 1) (N := 2) (sls := [.val (.tuple [sym k a b, .tuple (encs ts)])]) e rfl
    | false =>
      rw [hk] at e
      simp only [iSeq_ev, sq_next, sq_ret, sq_brk, sq_cont, iNext_ev, iAsg_ev, as_val, as_new_t, as_new_f, setV_ev, set_no, set_val, set_own, iVar_ev, va_val, va_own, look_ev, lo_own, look_val, look_new, vis_val, vis_new, pub_val, pub_new, pub_own, opd_ap, iCon_ap, iBin_ap, iUn_ap, argN_ap, argC_ap, looks_nil, looks_cons, viss_nil, viss_cons, iCB_ap, iTup_ap, iLst_ap, isB_ap, isI_ap, iTst_ap, iTru_ap, iNotT_ap, iAndT_ap, iOrT_ap, iAnd_ap, iOr_ap, iNot_ap, iIf_ap, iSl_ap, iNoP_ap, iPart_ap, iIsi_ap, iIfS_ev, iRet_ev, ret_val', ret_new', ret_own', ro_own, iRetN_ev, iDrop_ev, iBrk_ev, iCont_ev, iBef_ev, iAft_ev, wfl_next, wfl_cont, wfl_brk, wfl_ret, wipe_nil, wipe_cons, wp_no, wp_val, wp_own, iNm_ev, iGT_tup, iGT_list, iGN_ev, iGC_ev, iAsgT_ev, iCall_ev, sls_nil, sls_val, sls_own, dup_nil, dup_val, dup_own, has_nil, has_val, has_own, now_val, now_new, back_ev, bg_nil, bg_cons, bs_no, bs_val, bs_own, bsf_some, bsf_none, b1_nil, b1_val, b1_own, iApp_ev, ap1_list, apF_list, iExU_ev, exF_list, exV_new, exV_tup, iPop_ev, po_snoc, iStL_ev, iFrz_ev, fz_own, fz_val, iRev_ev, gRev_list, gRev_tup, iSeqI_ev, iRevI_ev, iEnumU_ev, iR1_ev, turn_ev, at0, at1, at2, ix0, ix1, ix2, gAdd_int, gAdd_str, gAdd_tup, gSub_int, gMul_int, gMulR_int, gMulL_int, gDiv_int, gMod_int, gPow_int, gNeg_int, gLt_int, gLe_int, gGt_int, gGe_int, gEq_int, gNe_int, gEq_str, gNe_str, gEq_bool, gNe_bool, gIs_ap, gIsN_ap, isNone_none, isNone_int, isNone_tup, isNone_str, gIx_list, gIx_tup, gSl_tup, gSl_list, c1_ap, gLen_list, gLen_tup, gInt_int, gList_list, gList_tup, gTuple_list, gTuple_tup, truD_none, truD_bool, truD_int, truD_list, truD_tup, isi_int_int, isi_int_tup, isi_bool_bool, isi_tup_tup, isi_list_list, isi_bool_int, Option.bind_some, Option.map_some, List.getElem?_cons_zero, List.getElem?_cons_succ, List.set_cons_zero, List.set_cons_succ, List.length_cons, List.length_nil, if_true, reduceIte, decide_true, decide_false, Bool.true_and, Bool.and_true, Bool.not_true, Bool.not_false, Bool.false_eq_true, Bool.not_eq_true, decide_eq_true_eq, Nat.reduceAdd, Nat.reduceLeDiff, Nat.reduceEqDiff, Nat.reduceSub, Nat.reduceMul, Int.reduceLT, Int.reduceLE, Int.reduceEq, Int.reduceAdd, Int.reduceSub, Int.reduceMul, Int.reduceNeg, Int.reduceToNat, Int.reducePow, and_self, eq_self, and_true, true_and, Nat.reduceBEq, ncast, DL.sm, List.length_map, iDGet2_ev, iDGet_ev, iDIn_ev, keyD_int, keyD_str, iDNew_ev, dpF_own, dp1_own, iDPut_ev, ds1_own, dsF_own, iDSet_ev, lzF_tup, iLZip_ev, iDc_ev, iLc_ev, dA_val, dA_own, iPairs_ev, not_false_eq_true, Nat.reduceLT, iCopyD_ev, lcOF_own, iLcO_ev, alC_list, alC_dict, in_ints, notin_ints, gAdd_list, augF_int, iAug_ev, ne_eq, decide_not] at e
      rw [e2, hk]
      exact run_ret (n := 1) (N := 2) (sls := [.val (.tuple [sym k a b, .tuple (encs ts)])]) e rfl
theorem bools_map {α : Type} (b : α → Bool) : ∀ xs : List α, boolsOf (xs.map fun x => D.bool (b x)) = some (xs.map b)
  | [] => rfl
  | x :: xs => by rw [List.map_cons, boolsOf, bools_map b xs]; rfl
theorem gAll_map {α : Type} (b : α → Bool) (xs : List α) : gAll true (.list (xs.map fun x => D.bool (b x))) = some (.val (.bool (xs.all b))) := by
  show (boolsOf (xs.map fun x => D.bool (b x))).map _ = _
  rw [bools_map]
  simp
end Sh

namespace LK08
open PySem PySem.Spec PyProof.Rows L2 DL
open LS
noncomputable section
def top (i : Nat) : Stmt := PySem.Challenge.pw_lastproof_k08_weights.main.body.getD i (.Pass ⟨0, 0, 0, 0⟩)
/-! ### is_variable -/
theorem sc_is_variable : FnScope ["term"] ["term"] (defScope (top 1)) := ⟨rfl, rfl, rfl, by decide +kernel, rfl, by decide +kernel, by decide +kernel⟩
/-! ### subterms -/
theorem sc_subterms : FnScope ["term", "found", "todo", "here"] ["term"] (defScope (top 2)) := ⟨rfl, rfl, rfl, by decide +kernel, rfl, by decide +kernel, by decide +kernel⟩
/-! ### symbol_weight -/
theorem sc_symbol_weight : FnScope ["weights", "symbol"] ["weights", "symbol"] (defScope (top 4)) := ⟨rfl, rfl, rfl, by decide +kernel, rfl, by decide +kernel, by decide +kernel⟩
def m_symbol_weight  : StF :=
    (iRet (iTGet2 (iVar 0) (iVar 1) (iCon (.int 1))))
def f_symbol_weight  : Fn := runDef 2 2 (m_symbol_weight )
/-! ### term_weight -/
theorem sc_term_weight : FnScope ["weights", "term", "total", "here"] ["weights", "term"] (defScope (top 5)) := ⟨rfl, rfl, rfl, by decide +kernel, rfl, by decide +kernel, by decide +kernel⟩
def b1_term_weight (g_subterms : Fn) (g_is_variable : Fn) (g_symbol_weight : Fn) : StF :=
    (iAft [3] (iAug 2 (fun i j => i + j) (iIf (iTru (iCall g_is_variable (argC (iVar 3) argN))) (iCon (.int 1)) (iCall g_symbol_weight (argC (iVar 0) (argC (iBin gIx (iVar 3) (iCon (.int 0))) argN))))))
def m_term_weight (g_subterms : Fn) (g_is_variable : Fn) (g_symbol_weight : Fn) : StF :=
    (iSeq (iAsg false 2 (iCon (.int 0)))
    (iSeq (iAft [3] (iBef [3] (iFor (iSeqI (iCall g_subterms (argC (iVar 1) argN))) (iNm 3)
      (b1_term_weight g_subterms g_is_variable g_symbol_weight))))
    (iRet (iVar 2))))
def f_term_weight (g_subterms : Fn) (g_is_variable : Fn) (g_symbol_weight : Fn) : Fn := runDef 2 4 (m_term_weight g_subterms g_is_variable g_symbol_weight)
/-! ### literal_weight -/
theorem sc_literal_weight : FnScope ["weights", "literal"] ["weights", "literal"] (defScope (top 6)) := ⟨rfl, rfl, rfl, by decide +kernel, rfl, by decide +kernel, by decide +kernel⟩
def m_literal_weight (g_term_weight : Fn) : StF :=
    (iRet (iBin gAdd (iCall g_term_weight (argC (iVar 0) (argC (iBin gIx (iVar 1) (iCon (.int 1))) argN))) (iCall g_term_weight (argC (iVar 0) (argC (iBin gIx (iVar 1) (iCon (.int 2))) argN)))))
def f_literal_weight (g_term_weight : Fn) : Fn := runDef 2 2 (m_literal_weight g_term_weight)
/-! ### clause_weight -/
theorem sc_clause_weight : FnScope ["weights", "clause", "literal"] ["weights", "clause"] (defScope (top 7)) := ⟨rfl, rfl, rfl, by decide +kernel, rfl, by decide +kernel, by decide +kernel⟩
def m_clause_weight (g_literal_weight : Fn) : StF :=
    (iRet (iSumG (iSeqI (iVar 1)) (iNm 2) (iCall g_literal_weight (argC (iVar 0) (argC (iVar 2) argN))) [2]))
def f_clause_weight (g_literal_weight : Fn) : Fn := runDef 2 3 (m_clause_weight g_literal_weight)
/-! ### _law_cell -/
theorem sc__law_cell : FnScope ["script", "k", "cell", "low", "mid", "high"] ["script", "k"] (defScope (top 9)) := ⟨rfl, rfl, rfl, by decide +kernel, rfl, by decide +kernel, by decide +kernel⟩
/-! ### _law_is_integer -/
theorem sc__law_is_integer : FnScope ["actual"] ["actual"] (defScope (top 10)) := ⟨rfl, rfl, rfl, by decide +kernel, rfl, by decide +kernel, by decide +kernel⟩
/-! ### _law_symbol -/
theorem sc__law_symbol : FnScope ["n", "symbols"] ["n"] (defScope (top 11)) := ⟨rfl, rfl, rfl, by decide +kernel, rfl, by decide +kernel, by decide +kernel⟩
/-! ### _law_term -/
theorem sc__law_term : FnScope ["row", "deep", "kind", "many", "symbol", "parts", "k", "found"] ["row", "deep"] (defScope (top 12)) := ⟨rfl, rfl, rfl, by decide +kernel, rfl, by decide +kernel, by decide +kernel⟩
/-! ### _law_atom -/
theorem sc__law_atom : FnScope ["row", "deep", "symbols", "symbol", "many", "parts", "k", "found"] ["row", "deep"] (defScope (top 13)) := ⟨rfl, rfl, rfl, by decide +kernel, rfl, by decide +kernel, by decide +kernel⟩
/-! ### _law_literal -/
theorem sc__law_literal : FnScope ["row", "deep", "positive", "kind", "left", "right", "found"] ["row", "deep"] (defScope (top 14)) := ⟨rfl, rfl, rfl, by decide +kernel, rfl, by decide +kernel, by decide +kernel⟩
/-! ### _law_clause -/
theorem sc__law_clause : FnScope ["row", "most", "deep", "many", "literals", "k", "found"] ["row", "most", "deep"] (defScope (top 15)) := ⟨rfl, rfl, rfl, by decide +kernel, rfl, by decide +kernel, by decide +kernel⟩
/-! ### _law_weights -/
theorem sc__law_weights : FnScope ["row", "symbols", "weights", "symbol"] ["row"] (defScope (top 16)) := ⟨rfl, rfl, rfl, by decide +kernel, rfl, by decide +kernel, by decide +kernel⟩
def b1__law_weights  : StF :=
    (iAft [3] (iSeq (iIfS (iTst (iBin gEq (iBin gMod (iCB (c1 gInt) (argC (iVar 0) argN)) (iCon (.int 3))) (iCon (.int 1)))) (iTPut 2 (iVar 3) (iBin gAdd (iCon (.int 1)) (iBin gMod (iBin gDiv (iVar 0) (iCon (.int 3))) (iCon (.int 4))))) iNext)
    (iSeq (iIfS (iTst (iBin gEq (iBin gMod (iCB (c1 gInt) (argC (iVar 0) argN)) (iCon (.int 3))) (iCon (.int 2)))) (iTPut 2 (iVar 3) (iBin gAdd (iCon (.int 1)) (iBin gMod (iBin gDiv (iVar 0) (iCon (.int 3))) (iCon (.int 2))))) iNext)
    (iAsg false 0 (iBin gDiv (iVar 0) (iCon (.int 12)))))))
def m__law_weights  : StF :=
    (iSeq (iAsg false 1 (iLst (argC (iTup (argC (iCon (.int 2)) (argC (iCon (.int 0)) (argC (iCon (.int 0)) argN)))) (argC (iTup (argC (iCon (.int 2)) (argC (iCon (.int 1)) (argC (iCon (.int 0)) argN)))) (argC (iTup (argC (iCon (.int 3)) (argC (iCon (.int 0)) (argC (iCon (.int 0)) argN)))) (argC (iTup (argC (iCon (.int 2)) (argC (iCon (.int 2)) (argC (iCon (.int 0)) argN)))) (argC (iTup (argC (iCon (.int 1)) (argC (iCon (.int 0)) (argC (iCon (.int 0)) argN)))) (argC (iTup (argC (iCon (.int 1)) (argC (iCon (.int 1)) (argC (iCon (.int 0)) argN)))) argN))))))))
    (iSeq (iAsg true 2 iTNew)
    (iSeq (iAft [0, 3] (iBef [3] (iFor (iSeqI (iVar 1)) (iNm 3)
      (b1__law_weights))))
    (iRet (iVar 2)))))
def f__law_weights  : Fn := runDef 1 4 (m__law_weights )
/-! ### _law_is_variable -/
theorem sc__law_is_variable : FnScope ["term"] ["term"] (defScope (top 17)) := ⟨rfl, rfl, rfl, by decide +kernel, rfl, by decide +kernel, by decide +kernel⟩
/-! ### _law_weigh -/
theorem sc__law_weigh : FnScope ["weights", "term", "total", "part"] ["weights", "term"] (defScope (top 18)) := ⟨rfl, rfl, rfl, by decide +kernel, rfl, by decide +kernel, by decide +kernel⟩
def b1__law_weigh (g__law_weigh : Fn) (g__law_is_variable : Fn) : StF :=
    (iAft [3] (iAsg false 2 (iBin gAdd (iVar 2) (iCall g__law_weigh (argC (iVar 0) (argC (iVar 3) argN))))))
def m__law_weigh (g__law_weigh : Fn) (g__law_is_variable : Fn) : StF :=
    (iSeq (iIfS (iTru (iCall g__law_is_variable (argC (iVar 1) argN))) (iRet (iCon (.int 1))) iNext)
    (iSeq (iAsg false 2 (iTGet2 (iVar 0) (iBin gIx (iVar 1) (iCon (.int 0))) (iCon (.int 1))))
    (iSeq (iAft [3] (iBef [3] (iFor (iSeqI (iBin gIx (iVar 1) (iCon (.int 1)))) (iNm 3)
      (b1__law_weigh g__law_weigh g__law_is_variable))))
    (iRet (iVar 2)))))
def f__law_weigh (g__law_weigh : Fn) (g__law_is_variable : Fn) : Fn := runDef 2 4 (m__law_weigh g__law_weigh g__law_is_variable)
/-! ### _law_pairs -/
theorem sc__law_pairs : FnScope ["told", "key"] ["told"] (defScope (top 19)) := ⟨rfl, rfl, rfl, by decide +kernel, rfl, by decide +kernel, by decide +kernel⟩
def m__law_pairs  : StF :=
    (iRet (iPairsT 0 1))
def f__law_pairs  : Fn := runDef 1 2 (m__law_pairs )
/-! ### law -/
theorem sc_law : FnScope ["script", "weights", "before", "clause", "total", "literal", "due", "term", "told"] ["script"] (defScope (top 20)) := ⟨rfl, rfl, rfl, by decide +kernel, rfl, by decide +kernel, by decide +kernel⟩
def b1_law (g__law_pairs : Fn) (g_clause_weight : Fn) (g__law_is_integer : Fn) (g_literal_weight : Fn) (g__law_is_variable : Fn) (g_symbol_weight : Fn) (g__law_weigh : Fn) (g_term_weight : Fn) (g__law_clause : Fn) (g__law_cell : Fn) (g__law_weights : Fn) : StF :=
    (iAft [7, 8] (iSeq (iAsg false 8 (iCall g_term_weight (argC (iVar 1) (argC (iVar 7) argN))))
    (iSeq (iIfS (iOrT (iNotT (iTru (iCall g__law_is_integer (argC (iVar 8) argN)))) (iTst (iBin gNe (iVar 8) (iCall g__law_weigh (argC (iVar 1) (argC (iVar 7) argN)))))) (iRet (iCon (.bool false))) iNext)
    (iSeq (iAsg false 6 (iBin gAdd (iVar 6) (iVar 8)))
    (iIfS (iAndT (iNotT (iTru (iCall g__law_is_variable (argC (iVar 7) argN)))) (iTst (iBin gNe (iCall g_symbol_weight (argC (iVar 1) (argC (iBin gIx (iVar 7) (iCon (.int 0))) argN))) (iTGet2 (iVar 1) (iBin gIx (iVar 7) (iCon (.int 0))) (iCon (.int 1)))))) (iRet (iCon (.bool false))) iNext)))))
def b2_law (g__law_pairs : Fn) (g_clause_weight : Fn) (g__law_is_integer : Fn) (g_literal_weight : Fn) (g__law_is_variable : Fn) (g_symbol_weight : Fn) (g__law_weigh : Fn) (g_term_weight : Fn) (g__law_clause : Fn) (g__law_cell : Fn) (g__law_weights : Fn) : StF :=
    (iAft [5, 6, 7, 8] (iSeq (iAsg false 6 (iCon (.int 0)))
    (iSeq (iAft [7, 8] (iBef [7, 8] (iFor (iSeqI (iLst (argC (iBin gIx (iVar 5) (iCon (.int 1))) (argC (iBin gIx (iVar 5) (iCon (.int 2))) argN)))) (iNm 7)
      (b1_law g__law_pairs g_clause_weight g__law_is_integer g_literal_weight g__law_is_variable g_symbol_weight g__law_weigh g_term_weight g__law_clause g__law_cell g__law_weights))))
    (iSeq (iIfS (iTst (iBin gNe (iCall g_literal_weight (argC (iVar 1) (argC (iVar 5) argN))) (iVar 6))) (iRet (iCon (.bool false))) iNext)
    (iAsg false 4 (iBin gAdd (iVar 4) (iVar 6)))))))
def m_law (g__law_pairs : Fn) (g_clause_weight : Fn) (g__law_is_integer : Fn) (g_literal_weight : Fn) (g__law_is_variable : Fn) (g_symbol_weight : Fn) (g__law_weigh : Fn) (g_term_weight : Fn) (g__law_clause : Fn) (g__law_cell : Fn) (g__law_weights : Fn) : StF :=
    (iSeq (iAsg true 1 (iCall g__law_weights (argC (iCall g__law_cell (argC (iVar 0) (argC (iCon (.int 0)) argN))) argN)))
    (iSeq (iIfS (iTst (iBin gEq (iBin gMod (iCall g__law_cell (argC (iVar 0) (argC (iCon (.int 1)) argN))) (iCon (.int 4))) (iCon (.int 0)))) (iTPut 1 (iTup (argC (iCon (.int 2)) (argC (iCon (.int 0)) (argC (iCon (.int 0)) argN)))) (iBin gAdd (iCon (.int 1)) (iBin gMod (iCall g__law_cell (argC (iVar 0) (argC (iCon (.int 2)) argN))) (iBin gPow (iCon (.int 10)) (iCon (.int 15)))))) iNext)
    (iSeq (iFrz 1) (iSeq (iAsg false 2 (iCall g__law_pairs (argC (iVar 1) argN)))
    (iSeq (iAsg false 3 (iCall g__law_clause (argC (iCall g__law_cell (argC (iVar 0) (argC (iCon (.int 3)) argN))) (argC (iCon (.int 5)) (argC (iCon (.int 2)) argN)))))
    (iSeq (iAsg false 4 (iCon (.int 0)))
    (iSeq (iAft [5, 6, 7, 8] (iBef [5, 6, 7, 8] (iFor (iSeqI (iVar 3)) (iNm 5)
      (b2_law g__law_pairs g_clause_weight g__law_is_integer g_literal_weight g__law_is_variable g_symbol_weight g__law_weigh g_term_weight g__law_clause g__law_cell g__law_weights))))
    (iSeq (iIfS (iOrT (iNotT (iTru (iCall g__law_is_integer (argC (iCall g_clause_weight (argC (iVar 1) (argC (iVar 3) argN))) argN)))) (iTst (iBin gNe (iCall g_clause_weight (argC (iVar 1) (argC (iVar 3) argN))) (iVar 4)))) (iRet (iCon (.bool false))) iNext)
    (iRet (iAnd (iBin gEq (iCall g__law_pairs (argC (iVar 1) argN)) (iVar 2)) (iBin gEq (iCall g_clause_weight (argC (iVar 1) (argC (iTup argN) argN))) (iCon (.int 0)))))))))))))
def f_law (g__law_pairs : Fn) (g_clause_weight : Fn) (g__law_is_integer : Fn) (g_literal_weight : Fn) (g__law_is_variable : Fn) (g_symbol_weight : Fn) (g__law_weigh : Fn) (g_term_weight : Fn) (g__law_clause : Fn) (g__law_cell : Fn) (g__law_weights : Fn) : Fn := runDef 1 9 (m_law g__law_pairs g_clause_weight g__law_is_integer g_literal_weight g__law_is_variable g_symbol_weight g__law_weigh g_term_weight g__law_clause g__law_cell g__law_weights)
def F_symbol_weight : Fn := f_symbol_weight 
def F_term_weight : Fn := f_term_weight F_subterms F_is_variable F_symbol_weight
def F_literal_weight : Fn := f_literal_weight F_term_weight
def F_clause_weight : Fn := f_clause_weight F_literal_weight
def F__law_weights : Fn := f__law_weights 
def it__law_weigh : Nat → Fn
  | 0 => fun _ => none
  | n + 1 => f__law_weigh (it__law_weigh n) F__law_is_variable
def F__law_weigh : Fn := it__law_weigh 12
def F__law_pairs : Fn := f__law_pairs 
def F_law : Fn := f_law F__law_pairs F_clause_weight F__law_is_integer F_literal_weight F__law_is_variable F_symbol_weight F__law_weigh F_term_weight F__law_clause F__law_cell F__law_weights
end
open PySem L2 DL
open Sh LS LS3
abbrev Sy := Int × Int × Int
def keyS (q : Sy) : List Key := [.inl q.1, .inl q.2.1, .inl q.2.2]
theorem keyS_inj {p q : Sy} (h : keyS p = keyS q) : p = q := by
  obtain ⟨a, b, c⟩ := p
  obtain ⟨d, e, f⟩ := q
  simp only [keyS, List.cons.injEq, Sum.inl.injEq, and_true] at h
  obtain ⟨rfl, rfl, rfl⟩ := h
  rfl
abbrev WT := List (Sy × Int)
abbrev ksW (S : WT) : List (List Key) := S.map fun p => keyS p.1
abbrev dsW (S : WT) : List D := S.map fun p => D.int p.2
abbrev dictW (S : WT) : D := .dictT (ksW S) (dsW S)
def lookS : WT → Sy → Option Int
  | [], _ => none
  | p :: S, q => if p.1 = q then some p.2 else lookS S q
theorem findT_S (q : Sy) : ∀ S : WT, findT (ksW S) (dsW S) (keyS q) = (lookS S q).map D.int
  | [] => rfl
  | p :: S => by
    simp only [List.map_cons, findT, lookS]
    by_cases h : p.1 = q
    · rw [if_pos (by rw [h]), if_pos h]; rfl
    · rw [if_neg fun z => h (keyS_inj z), if_neg h]; exact findT_S q S
def putS : WT → Sy → Int → WT
  | [], q, x => [(q, x)]
  | p :: S, q, x => if p.1 = q then (p.1, x) :: S else p :: putS S q x
theorem putT_S (q : Sy) (x : Int) : ∀ S : WT, putT (ksW S) (dsW S) (keyS q) (.int x) = (ksW (putS S q x), dsW (putS S q x))
  | [] => rfl
  | p :: S => by
    simp only [List.map_cons, putT, putS]
    by_cases h : p.1 = q
    · rw [if_pos (by rw [h]), if_pos h]; rfl
    · rw [if_neg fun z => h (keyS_inj z), if_neg h, putT_S q x S]; rfl
theorem putS_mem {k : List Key} {q : Sy} {x : Int} : ∀ {S : WT}, k ∈ ksW (putS S q x) → k = keyS q ∨ k ∈ ksW S
  | [], h => by
    simp only [putS, List.map_cons, List.map_nil, List.mem_singleton] at h
    exact .inl h
  | p :: S, h => by
    unfold putS at h
    split at h
    · simp only [List.map_cons, List.mem_cons] at h ⊢
      exact .inr h
    · simp only [List.map_cons, List.mem_cons] at h ⊢
      rcases h with h | h
      · exact .inr (.inl h)
      · exact (putS_mem h).imp id .inr
theorem putS_nodup {q : Sy} {x : Int} : ∀ {S : WT}, (ksW S).Nodup → (ksW (putS S q x)).Nodup
  | [], _ => by simp [putS]
  | p :: S, h => by
    have h : (keyS p.1 :: ksW S).Nodup := h
    rw [List.nodup_cons] at h
    unfold putS
    split
    · show (keyS p.1 :: ksW S).Nodup
      rw [List.nodup_cons]; exact h
    · rename_i hn
      show (keyS p.1 :: ksW (putS S q x)).Nodup
      rw [List.nodup_cons]
      refine ⟨fun z => ?_, putS_nodup h.2⟩
      rcases putS_mem z with z | z
      · exact hn (keyS_inj z)
      · exact h.1 z
theorem putS_len {q : Sy} {x : Int} : ∀ {S : WT}, (putS S q x).length ≤ S.length + 1
  | [] => by simp [putS]
  | p :: S => by
    have := putS_len (q := q) (x := x) (S := S)
    unfold putS
    split <;> simp only [List.length_cons] <;> omega
def wt (S : WT) (q : Sy) : Int := (lookS S q).getD 1
theorem get_S (S : WT) (k a b : Int) : (findT (ksW S) (dsW S) [.inl k, .inl a, .inl b]).getD (.int 1) = .int (wt S (k, a, b)) := by
  have := findT_S (k, a, b) S
  unfold keyS at this
  rw [this, wt]
  cases lookS S (k, a, b) <;> rfl
theorem symw_eq (S : WT) (k a b : Int) : F_symbol_weight [.val (dictW S), .val (sym k a b)] = some (.val (.int (wt S (k, a, b))), [.val (dictW S), .val (sym k a b)]) := by
  have g := get_S S k a b
  have e := @rfl _ (m_symbol_weight [.val (dictW S), .val (.tuple [.int k, .int a, .int b])])
  conv at e => rhs; simp only [m_symbol_weight, iSeq_ev, sq_next, sq_ret, sq_brk, sq_cont, iNext_ev, iAsg_ev, as_val, as_new_t, as_new_f, setV_ev, set_no, set_val, set_own, iVar_ev, va_val, va_own, look_ev, lo_own, look_val, look_new, vis_val, vis_new, pub_val, pub_new, pub_own, opd_ap, iCon_ap, iBin_ap, iUn_ap, argN_ap, argC_ap, looks_nil, looks_cons, viss_nil, viss_cons, iCB_ap, iTup_ap, iLst_ap, isB_ap, isI_ap, iTst_ap, iTru_ap, iNotT_ap, iAndT_ap, iOrT_ap, iAnd_ap, iOr_ap, iNot_ap, iIf_ap, iSl_ap, iNoP_ap, iPart_ap, iIsi_ap, iIfS_ev, iRet_ev, ret_val', ret_new', ret_own', ro_own, iRetN_ev, iDrop_ev, iBrk_ev, iCont_ev, iBef_ev, iAft_ev, wfl_next, wfl_cont, wfl_brk, wfl_ret, wipe_nil, wipe_cons, wp_no, wp_val, wp_own, iNm_ev, iGT_tup, iGT_list, iGN_ev, iGC_ev, iAsgT_ev, iCall_ev, sls_nil, sls_val, sls_own, dup_nil, dup_val, dup_own, has_nil, has_val, has_own, now_val, now_new, back_ev, bg_nil, bg_cons, bs_no, bs_val, bs_own, bsf_some, bsf_none, b1_nil, b1_val, b1_own, iApp_ev, ap1_list, apF_list, iExU_ev, exF_list, exV_new, exV_tup, iPop_ev, po_snoc, iStL_ev, iFrz_ev, fz_own, fz_val, iRev_ev, gRev_list, gRev_tup, iSeqI_ev, iRevI_ev, iEnumU_ev, iR1_ev, turn_ev, at0, at1, at2, ix0, ix1, ix2, gAdd_int, gAdd_str, gAdd_tup, gSub_int, gMul_int, gMulR_int, gMulL_int, gDiv_int, gMod_int, gPow_int, gNeg_int, gLt_int, gLe_int, gGt_int, gGe_int, gEq_int, gNe_int, gEq_str, gNe_str, gEq_bool, gNe_bool, gIs_ap, gIsN_ap, isNone_none, isNone_int, isNone_tup, isNone_str, gIx_list, gIx_tup, gSl_tup, gSl_list, c1_ap, gLen_list, gLen_tup, gInt_int, gList_list, gList_tup, gTuple_list, gTuple_tup, truD_none, truD_bool, truD_int, truD_list, truD_tup, isi_int_int, isi_int_tup, isi_bool_bool, isi_tup_tup, isi_list_list, isi_bool_int, Option.bind_some, Option.map_some, List.getElem?_cons_zero, List.getElem?_cons_succ, List.set_cons_zero, List.set_cons_succ, List.length_cons, List.length_nil, if_true, reduceIte, decide_true, decide_false, Bool.true_and, Bool.and_true, Bool.not_true, Bool.not_false, Bool.false_eq_true, Bool.not_eq_true, decide_eq_true_eq, Nat.reduceAdd, Nat.reduceLeDiff, Nat.reduceEqDiff, Nat.reduceSub, Nat.reduceMul, Int.reduceLT, Int.reduceLE, Int.reduceEq, Int.reduceAdd, Int.reduceSub, Int.reduceMul, Int.reduceNeg, Int.reduceToNat, Int.reducePow, and_self, eq_self, and_true, true_and, Nat.reduceBEq, ncast, DL.sm, List.length_map, iDGet2_ev, iDGet_ev, iDIn_ev, keyD_int, keyD_str, iDNew_ev, dpF_own, dp1_own, iDPut_ev, ds1_own, dsF_own, iDSet_ev, lzF_tup, iLZip_ev, iDc_ev, iLc_ev, dA_val, dA_own, iPairs_ev, not_false_eq_true, Nat.reduceLT, iCopyD_ev, lcOF_own, iLcO_ev, alC_list, alC_dict, in_ints, notin_ints, gAdd_list, augF_int, iAug_ev, ne_eq, decide_not, iTGet2_ev, keyTD_sym, g]
  exact run_ret (n := 2) (N := 2) (sls := [.val (dictW S), .val (sym k a b)]) e rfl
mutual
def T.w (S : WT) : T → Int
  | .v _ => 1
  | .c k a b ts => wt S (k, a, b) + wsum S ts
def wsum (S : WT) : List T → Int
  | [] => 0
  | t :: ts => T.w S t + wsum S ts
end
def hw (S : WT) : T → Int
  | .v _ => 1
  | .c k a b _ => wt S (k, a, b)
def sumN (S : WT) : List T → Int
  | [] => 0
  | t :: ts => hw S t + sumN S ts
theorem sumN_app (S : WT) : ∀ us vs : List T, sumN S (us ++ vs) = sumN S us + sumN S vs
  | [], vs => by simp [sumN]
  | u :: us, vs => by rw [List.cons_append, sumN, sumN, sumN_app S us vs]; omega
mutual
theorem subs_w (S : WT) : ∀ t : T, sumN S t.subs = T.w S t
  | .v i => rfl
  | .c k a b ts => by rw [T.subs, sumN, subsL_w S ts, T.w]; rfl
theorem subsL_w (S : WT) : ∀ ts : List T, sumN S (subsL ts) = wsum S ts
  | [] => rfl
  | t :: ts => by rw [subsL, sumN_app, subs_w S t, subsL_w S ts, wsum]
end
theorem tw_loop (S : WT) (d0 : D) : ∀ (us : List T) (tot : Int), floop (iNm 3) (b1_term_weight F_subterms F_is_variable F_symbol_weight) (us.map enc) [.val (dictW S), .val d0, .val (.int tot), .no] = some (.next [.val (dictW S), .val d0, .val (.int (tot + sumN S us)), .no])
  | [], tot => by
    rw [sumN, Int.add_zero]; rfl
  | u :: us, tot => by
    have h : turn (iNm 3) (b1_term_weight F_subterms F_is_variable F_symbol_weight) [.val (dictW S), .val d0, .val (.int tot), .no] (enc u) = some (.next [.val (dictW S), .val d0, .val (.int (tot + hw S u)), .no]) := by
      cases u with
      | v i =>
        have q := isv_v i
        simp only [b1_term_weight, iSeq_ev, sq_next, sq_ret, sq_brk, sq_cont, iNext_ev, iAsg_ev, as_val, as_new_t, as_new_f, setV_ev, set_no, set_val, set_own, iVar_ev, va_val, va_own, look_ev, lo_own, look_val, look_new, vis_val, vis_new, pub_val, pub_new, pub_own, opd_ap, iCon_ap, iBin_ap, iUn_ap, argN_ap, argC_ap, looks_nil, looks_cons, viss_nil, viss_cons, iCB_ap, iTup_ap, iLst_ap, isB_ap, isI_ap, iTst_ap, iTru_ap, iNotT_ap, iAndT_ap, iOrT_ap, iAnd_ap, iOr_ap, iNot_ap, iIf_ap, iSl_ap, iNoP_ap, iPart_ap, iIsi_ap, iIfS_ev, iRet_ev, ret_val', ret_new', ret_own', ro_own, iRetN_ev, iDrop_ev, iBrk_ev, iCont_ev, iBef_ev, iAft_ev, wfl_next, wfl_cont, wfl_brk, wfl_ret, wipe_nil, wipe_cons, wp_no, wp_val, wp_own, iNm_ev, iGT_tup, iGT_list, iGN_ev, iGC_ev, iAsgT_ev, iCall_ev, sls_nil, sls_val, sls_own, dup_nil, dup_val, dup_own, has_nil, has_val, has_own, now_val, now_new, back_ev, bg_nil, bg_cons, bs_no, bs_val, bs_own, bsf_some, bsf_none, b1_nil, b1_val, b1_own, iApp_ev, ap1_list, apF_list, iExU_ev, exF_list, exV_new, exV_tup, iPop_ev, po_snoc, iStL_ev, iFrz_ev, fz_own, fz_val, iRev_ev, gRev_list, gRev_tup, iSeqI_ev, iRevI_ev, iEnumU_ev, iR1_ev, turn_ev, at0, at1, at2, ix0, ix1, ix2, gAdd_int, gAdd_str, gAdd_tup, gSub_int, gMul_int, gMulR_int, gMulL_int, gDiv_int, gMod_int, gPow_int, gNeg_int, gLt_int, gLe_int, gGt_int, gGe_int, gEq_int, gNe_int, gEq_str, gNe_str, gEq_bool, gNe_bool, gIs_ap, gIsN_ap, isNone_none, isNone_int, isNone_tup, isNone_str, gIx_list, gIx_tup, gSl_tup, gSl_list, c1_ap, gLen_list, gLen_tup, gInt_int, gList_list, gList_tup, gTuple_list, gTuple_tup, truD_none, truD_bool, truD_int, truD_list, truD_tup, isi_int_int, isi_int_tup, isi_bool_bool, isi_tup_tup, isi_list_list, isi_bool_int, Option.bind_some, Option.map_some, List.getElem?_cons_zero, List.getElem?_cons_succ, List.set_cons_zero, List.set_cons_succ, List.length_cons, List.length_nil, if_true, reduceIte, decide_true, decide_false, Bool.true_and, Bool.and_true, Bool.not_true, Bool.not_false, Bool.false_eq_true, Bool.not_eq_true, decide_eq_true_eq, Nat.reduceAdd, Nat.reduceLeDiff, Nat.reduceEqDiff, Nat.reduceSub, Nat.reduceMul, Int.reduceLT, Int.reduceLE, Int.reduceEq, Int.reduceAdd, Int.reduceSub, Int.reduceMul, Int.reduceNeg, Int.reduceToNat, Int.reducePow, and_self, eq_self, and_true, true_and, Nat.reduceBEq, ncast, DL.sm, List.length_map, iDGet2_ev, iDGet_ev, iDIn_ev, keyD_int, keyD_str, iDNew_ev, dpF_own, dp1_own, iDPut_ev, ds1_own, dsF_own, iDSet_ev, lzF_tup, iLZip_ev, iDc_ev, iLc_ev, dA_val, dA_own, iPairs_ev, not_false_eq_true, Nat.reduceLT, iCopyD_ev, lcOF_own, iLcO_ev, alC_list, alC_dict, in_ints, notin_ints, gAdd_list, augF_int, iAug_ev, ne_eq, decide_not, enc_v, q, hw]
      | c k a b ts =>
        have q : F_is_variable [.val (.tuple [.tuple [.int k, .int a, .int b], .tuple (encs ts)])] = _ := isv_t [sym k a b, .tuple (encs ts)]
        have q2 : F_symbol_weight [.val (dictW S), .val (.tuple [.int k, .int a, .int b])] = _ := symw_eq S k a b
        have ee : enc (.c k a b ts) = .tuple [.tuple [.int k, .int a, .int b], .tuple (encs ts)] := rfl
        rw [ee]
        simp only [b1_term_weight, iSeq_ev, sq_next, sq_ret, sq_brk, sq_cont, iNext_ev, iAsg_ev, as_val, as_new_t, as_new_f, setV_ev, set_no, set_val, set_own, iVar_ev, va_val, va_own, look_ev, lo_own, look_val, look_new, vis_val, vis_new, pub_val, pub_new, pub_own, opd_ap, iCon_ap, iBin_ap, iUn_ap, argN_ap, argC_ap, looks_nil, looks_cons, viss_nil, viss_cons, iCB_ap, iTup_ap, iLst_ap, isB_ap, isI_ap, iTst_ap, iTru_ap, iNotT_ap, iAndT_ap, iOrT_ap, iAnd_ap, iOr_ap, iNot_ap, iIf_ap, iSl_ap, iNoP_ap, iPart_ap, iIsi_ap, iIfS_ev, iRet_ev, ret_val', ret_new', ret_own', ro_own, iRetN_ev, iDrop_ev, iBrk_ev, iCont_ev, iBef_ev, iAft_ev, wfl_next, wfl_cont, wfl_brk, wfl_ret, wipe_nil, wipe_cons, wp_no, wp_val, wp_own, iNm_ev, iGT_tup, iGT_list, iGN_ev, iGC_ev, iAsgT_ev, iCall_ev, sls_nil, sls_val, sls_own, dup_nil, dup_val, dup_own, has_nil, has_val, has_own, now_val, now_new, back_ev, bg_nil, bg_cons, bs_no, bs_val, bs_own, bsf_some, bsf_none, b1_nil, b1_val, b1_own, iApp_ev, ap1_list, apF_list, iExU_ev, exF_list, exV_new, exV_tup, iPop_ev, po_snoc, iStL_ev, iFrz_ev, fz_own, fz_val, iRev_ev, gRev_list, gRev_tup, iSeqI_ev, iRevI_ev, iEnumU_ev, iR1_ev, turn_ev, at0, at1, at2, ix0, ix1, ix2, gAdd_int, gAdd_str, gAdd_tup, gSub_int, gMul_int, gMulR_int, gMulL_int, gDiv_int, gMod_int, gPow_int, gNeg_int, gLt_int, gLe_int, gGt_int, gGe_int, gEq_int, gNe_int, gEq_str, gNe_str, gEq_bool, gNe_bool, gIs_ap, gIsN_ap, isNone_none, isNone_int, isNone_tup, isNone_str, gIx_list, gIx_tup, gSl_tup, gSl_list, c1_ap, gLen_list, gLen_tup, gInt_int, gList_list, gList_tup, gTuple_list, gTuple_tup, truD_none, truD_bool, truD_int, truD_list, truD_tup, isi_int_int, isi_int_tup, isi_bool_bool, isi_tup_tup, isi_list_list, isi_bool_int, Option.bind_some, Option.map_some, List.getElem?_cons_zero, List.getElem?_cons_succ, List.set_cons_zero, List.set_cons_succ, List.length_cons, List.length_nil, if_true, reduceIte, decide_true, decide_false, Bool.true_and, Bool.and_true, Bool.not_true, Bool.not_false, Bool.false_eq_true, Bool.not_eq_true, decide_eq_true_eq, Nat.reduceAdd, Nat.reduceLeDiff, Nat.reduceEqDiff, Nat.reduceSub, Nat.reduceMul, Int.reduceLT, Int.reduceLE, Int.reduceEq, Int.reduceAdd, Int.reduceSub, Int.reduceMul, Int.reduceNeg, Int.reduceToNat, Int.reducePow, and_self, eq_self, and_true, true_and, Nat.reduceBEq, ncast, DL.sm, List.length_map, iDGet2_ev, iDGet_ev, iDIn_ev, keyD_int, keyD_str, iDNew_ev, dpF_own, dp1_own, iDPut_ev, ds1_own, dsF_own, iDSet_ev, lzF_tup, iLZip_ev, iDc_ev, iLc_ev, dA_val, dA_own, iPairs_ev, not_false_eq_true, Nat.reduceLT, iCopyD_ev, lcOF_own, iLcO_ev, alC_list, alC_dict, in_ints, notin_ints, gAdd_list, augF_int, iAug_ev, ne_eq, decide_not, q, q2, hw]
    rw [List.map_cons, fl_next h, tw_loop S d0 us, sumN, Int.add_assoc]
theorem tw_eq (S : WT) {t : T} (h : t.size ≤ 100000) : F_term_weight [.val (dictW S), .val (enc t)] = some (.val (.int (T.w S t)), [.val (dictW S), .val (enc t)]) := by
  have hs := subs_eq h
  rw [encs_map] at hs
  have hl := tw_loop S (enc t) t.subs 0
  rw [subs_w, Int.zero_add] at hl
  have e := @rfl _ (m_term_weight F_subterms F_is_variable F_symbol_weight [.val (dictW S), .val (enc t), .no, .no])
  conv at e => rhs; simp only [m_term_weight, iSeq_ev, sq_next, sq_ret, sq_brk, sq_cont, iNext_ev, iAsg_ev, as_val, as_new_t, as_new_f, setV_ev, set_no, set_val, set_own, iVar_ev, va_val, va_own, look_ev, lo_own, look_val, look_new, vis_val, vis_new, pub_val, pub_new, pub_own, opd_ap, iCon_ap, iBin_ap, iUn_ap, argN_ap, argC_ap, looks_nil, looks_cons, viss_nil, viss_cons, iCB_ap, iTup_ap, iLst_ap, isB_ap, isI_ap, iTst_ap, iTru_ap, iNotT_ap, iAndT_ap, iOrT_ap, iAnd_ap, iOr_ap, iNot_ap, iIf_ap, iSl_ap, iNoP_ap, iPart_ap, iIsi_ap, iIfS_ev, iRet_ev, ret_val', ret_new', ret_own', ro_own, iRetN_ev, iDrop_ev, iBrk_ev, iCont_ev, iBef_ev, iAft_ev, wfl_next, wfl_cont, wfl_brk, wfl_ret, wipe_nil, wipe_cons, wp_no, wp_val, wp_own, iNm_ev, iGT_tup, iGT_list, iGN_ev, iGC_ev, iAsgT_ev, iCall_ev, sls_nil, sls_val, sls_own, dup_nil, dup_val, dup_own, has_nil, has_val, has_own, now_val, now_new, back_ev, bg_nil, bg_cons, bs_no, bs_val, bs_own, bsf_some, bsf_none, b1_nil, b1_val, b1_own, iApp_ev, ap1_list, apF_list, iExU_ev, exF_list, exV_new, exV_tup, iPop_ev, po_snoc, iStL_ev, iFrz_ev, fz_own, fz_val, iRev_ev, gRev_list, gRev_tup, iSeqI_ev, iRevI_ev, iEnumU_ev, iR1_ev, turn_ev, at0, at1, at2, ix0, ix1, ix2, gAdd_int, gAdd_str, gAdd_tup, gSub_int, gMul_int, gMulR_int, gMulL_int, gDiv_int, gMod_int, gPow_int, gNeg_int, gLt_int, gLe_int, gGt_int, gGe_int, gEq_int, gNe_int, gEq_str, gNe_str, gEq_bool, gNe_bool, gIs_ap, gIsN_ap, isNone_none, isNone_int, isNone_tup, isNone_str, gIx_list, gIx_tup, gSl_tup, gSl_list, c1_ap, gLen_list, gLen_tup, gInt_int, gList_list, gList_tup, gTuple_list, gTuple_tup, truD_none, truD_bool, truD_int, truD_list, truD_tup, isi_int_int, isi_int_tup, isi_bool_bool, isi_tup_tup, isi_list_list, isi_bool_int, Option.bind_some, Option.map_some, List.getElem?_cons_zero, List.getElem?_cons_succ, List.set_cons_zero, List.set_cons_succ, List.length_cons, List.length_nil, if_true, reduceIte, decide_true, decide_false, Bool.true_and, Bool.and_true, Bool.not_true, Bool.not_false, Bool.false_eq_true, Bool.not_eq_true, decide_eq_true_eq, Nat.reduceAdd, Nat.reduceLeDiff, Nat.reduceEqDiff, Nat.reduceSub, Nat.reduceMul, Int.reduceLT, Int.reduceLE, Int.reduceEq, Int.reduceAdd, Int.reduceSub, Int.reduceMul, Int.reduceNeg, Int.reduceToNat, Int.reducePow, and_self, eq_self, and_true, true_and, Nat.reduceBEq, ncast, DL.sm, List.length_map, iDGet2_ev, iDGet_ev, iDIn_ev, keyD_int, keyD_str, iDNew_ev, dpF_own, dp1_own, iDPut_ev, ds1_own, dsF_own, iDSet_ev, lzF_tup, iLZip_ev, iDc_ev, iLc_ev, dA_val, dA_own, iPairs_ev, not_false_eq_true, Nat.reduceLT, iCopyD_ev, lcOF_own, iLcO_ev, alC_list, alC_dict, in_ints, notin_ints, gAdd_list, augF_int, iAug_ev, ne_eq, decide_not, iFor_ev, hs, hl]
  exact run_ret (n := 2) (N := 4) (sls := [.val (dictW S), .val (enc t)]) e rfl
def lw (S : WT) (l : Lit) : Int := T.w S l.2.1 + T.w S l.2.2
theorem lw_eq (S : WT) {l : Lit} (h1 : l.2.1.size ≤ 100000) (h2 : l.2.2.size ≤ 100000) : F_literal_weight [.val (dictW S), .val (encL l)] = some (.val (.int (lw S l)), [.val (dictW S), .val (encL l)]) := by
  have q1 := tw_eq S h1
  have q2 := tw_eq S h2
  have e := @rfl _ (m_literal_weight F_term_weight [.val (dictW S), .val (.tuple [.bool l.1, enc l.2.1, enc l.2.2])])
  conv at e => rhs; simp only [m_literal_weight, iSeq_ev, sq_next, sq_ret, sq_brk, sq_cont, iNext_ev, iAsg_ev, as_val, as_new_t, as_new_f, setV_ev, set_no, set_val, set_own, iVar_ev, va_val, va_own, look_ev, lo_own, look_val, look_new, vis_val, vis_new, pub_val, pub_new, pub_own, opd_ap, iCon_ap, iBin_ap, iUn_ap, argN_ap, argC_ap, looks_nil, looks_cons, viss_nil, viss_cons, iCB_ap, iTup_ap, iLst_ap, isB_ap, isI_ap, iTst_ap, iTru_ap, iNotT_ap, iAndT_ap, iOrT_ap, iAnd_ap, iOr_ap, iNot_ap, iIf_ap, iSl_ap, iNoP_ap, iPart_ap, iIsi_ap, iIfS_ev, iRet_ev, ret_val', ret_new', ret_own', ro_own, iRetN_ev, iDrop_ev, iBrk_ev, iCont_ev, iBef_ev, iAft_ev, wfl_next, wfl_cont, wfl_brk, wfl_ret, wipe_nil, wipe_cons, wp_no, wp_val, wp_own, iNm_ev, iGT_tup, iGT_list, iGN_ev, iGC_ev, iAsgT_ev, iCall_ev, sls_nil, sls_val, sls_own, dup_nil, dup_val, dup_own, has_nil, has_val, has_own, now_val, now_new, back_ev, bg_nil, bg_cons, bs_no, bs_val, bs_own, bsf_some, bsf_none, b1_nil, b1_val, b1_own, iApp_ev, ap1_list, apF_list, iExU_ev, exF_list, exV_new, exV_tup, iPop_ev, po_snoc, iStL_ev, iFrz_ev, fz_own, fz_val, iRev_ev, gRev_list, gRev_tup, iSeqI_ev, iRevI_ev, iEnumU_ev, iR1_ev, turn_ev, at0, at1, at2, ix0, ix1, ix2, gAdd_int, gAdd_str, gAdd_tup, gSub_int, gMul_int, gMulR_int, gMulL_int, gDiv_int, gMod_int, gPow_int, gNeg_int, gLt_int, gLe_int, gGt_int, gGe_int, gEq_int, gNe_int, gEq_str, gNe_str, gEq_bool, gNe_bool, gIs_ap, gIsN_ap, isNone_none, isNone_int, isNone_tup, isNone_str, gIx_list, gIx_tup, gSl_tup, gSl_list, c1_ap, gLen_list, gLen_tup, gInt_int, gList_list, gList_tup, gTuple_list, gTuple_tup, truD_none, truD_bool, truD_int, truD_list, truD_tup, isi_int_int, isi_int_tup, isi_bool_bool, isi_tup_tup, isi_list_list, isi_bool_int, Option.bind_some, Option.map_some, List.getElem?_cons_zero, List.getElem?_cons_succ, List.set_cons_zero, List.set_cons_succ, List.length_cons, List.length_nil, if_true, reduceIte, decide_true, decide_false, Bool.true_and, Bool.and_true, Bool.not_true, Bool.not_false, Bool.false_eq_true, Bool.not_eq_true, decide_eq_true_eq, Nat.reduceAdd, Nat.reduceLeDiff, Nat.reduceEqDiff, Nat.reduceSub, Nat.reduceMul, Int.reduceLT, Int.reduceLE, Int.reduceEq, Int.reduceAdd, Int.reduceSub, Int.reduceMul, Int.reduceNeg, Int.reduceToNat, Int.reducePow, and_self, eq_self, and_true, true_and, Nat.reduceBEq, ncast, DL.sm, List.length_map, iDGet2_ev, iDGet_ev, iDIn_ev, keyD_int, keyD_str, iDNew_ev, dpF_own, dp1_own, iDPut_ev, ds1_own, dsF_own, iDSet_ev, lzF_tup, iLZip_ev, iDc_ev, iLc_ev, dA_val, dA_own, iPairs_ev, not_false_eq_true, Nat.reduceLT, iCopyD_ev, lcOF_own, iLcO_ev, alC_list, alC_dict, in_ints, notin_ints, gAdd_list, augF_int, iAug_ev, ne_eq, decide_not, q1, q2]
  exact run_ret (n := 2) (N := 2) (sls := [.val (dictW S), .val (encL l)]) e rfl
theorem lweigh_loop {n : Nat} (S : WT) (d0 : D) : ∀ (ts : List T) (tot : Int), (∀ t ∈ ts, it__law_weigh n [.val (dictW S), .val (enc t)] = some (.val (.int (T.w S t)), [.val (dictW S), .val (enc t)])) →
    floop (iNm 3) (b1__law_weigh (it__law_weigh n) F__law_is_variable) (ts.map enc) [.val (dictW S), .val d0, .val (.int tot), .no] = some (.next [.val (dictW S), .val d0, .val (.int (tot + wsum S ts)), .no])
  | [], tot, _ => by
    rw [wsum, Int.add_zero]; rfl
  | u :: us, tot, hh => by
    have q := hh u List.mem_cons_self
    have h : turn (iNm 3) (b1__law_weigh (it__law_weigh n) F__law_is_variable) [.val (dictW S), .val d0, .val (.int tot), .no] (enc u) = some (.next [.val (dictW S), .val d0, .val (.int (tot + T.w S u)), .no]) := by
      simp only [b1__law_weigh, iSeq_ev, sq_next, sq_ret, sq_brk, sq_cont, iNext_ev, iAsg_ev, as_val, as_new_t, as_new_f, setV_ev, set_no, set_val, set_own, iVar_ev, va_val, va_own, look_ev, lo_own, look_val, look_new, vis_val, vis_new, pub_val, pub_new, pub_own, opd_ap, iCon_ap, iBin_ap, iUn_ap, argN_ap, argC_ap, looks_nil, looks_cons, viss_nil, viss_cons, iCB_ap, iTup_ap, iLst_ap, isB_ap, isI_ap, iTst_ap, iTru_ap, iNotT_ap, iAndT_ap, iOrT_ap, iAnd_ap, iOr_ap, iNot_ap, iIf_ap, iSl_ap, iNoP_ap, iPart_ap, iIsi_ap, iIfS_ev, iRet_ev, ret_val', ret_new', ret_own', ro_own, iRetN_ev, iDrop_ev, iBrk_ev, iCont_ev, iBef_ev, iAft_ev, wfl_next, wfl_cont, wfl_brk, wfl_ret, wipe_nil, wipe_cons, wp_no, wp_val, wp_own, iNm_ev, iGT_tup, iGT_list, iGN_ev, iGC_ev, iAsgT_ev, iCall_ev, sls_nil, sls_val, sls_own, dup_nil, dup_val, dup_own, has_nil, has_val, has_own, now_val, now_new, back_ev, bg_nil, bg_cons, bs_no, bs_val, bs_own, bsf_some, bsf_none, b1_nil, b1_val, b1_own, iApp_ev, ap1_list, apF_list, iExU_ev, exF_list, exV_new, exV_tup, iPop_ev, po_snoc, iStL_ev, iFrz_ev, fz_own, fz_val, iRev_ev, gRev_list, gRev_tup, iSeqI_ev, iRevI_ev, iEnumU_ev, iR1_ev, turn_ev, at0, at1, at2, ix0, ix1, ix2, gAdd_int, gAdd_str, gAdd_tup, gSub_int, gMul_int, gMulR_int, gMulL_int, gDiv_int, gMod_int, gPow_int, gNeg_int, gLt_int, gLe_int, gGt_int, gGe_int, gEq_int, gNe_int, gEq_str, gNe_str, gEq_bool, gNe_bool, gIs_ap, gIsN_ap, isNone_none, isNone_int, isNone_tup, isNone_str, gIx_list, gIx_tup, gSl_tup, gSl_list, c1_ap, gLen_list, gLen_tup, gInt_int, gList_list, gList_tup, gTuple_list, gTuple_tup, truD_none, truD_bool, truD_int, truD_list, truD_tup, isi_int_int, isi_int_tup, isi_bool_bool, isi_tup_tup, isi_list_list, isi_bool_int, Option.bind_some, Option.map_some, List.getElem?_cons_zero, List.getElem?_cons_succ, List.set_cons_zero, List.set_cons_succ, List.length_cons, List.length_nil, if_true, reduceIte, decide_true, decide_false, Bool.true_and, Bool.and_true, Bool.not_true, Bool.not_false, Bool.false_eq_true, Bool.not_eq_true, decide_eq_true_eq, Nat.reduceAdd, Nat.reduceLeDiff, Nat.reduceEqDiff, Nat.reduceSub, Nat.reduceMul, Int.reduceLT, Int.reduceLE, Int.reduceEq, Int.reduceAdd, Int.reduceSub, Int.reduceMul, Int.reduceNeg, Int.reduceToNat, Int.reducePow, and_self, eq_self, and_true, true_and, Nat.reduceBEq, ncast, DL.sm, List.length_map, iDGet2_ev, iDGet_ev, iDIn_ev, keyD_int, keyD_str, iDNew_ev, dpF_own, dp1_own, iDPut_ev, ds1_own, dsF_own, iDSet_ev, lzF_tup, iLZip_ev, iDc_ev, iLc_ev, dA_val, dA_own, iPairs_ev, not_false_eq_true, Nat.reduceLT, iCopyD_ev, lcOF_own, iLcO_ev, alC_list, alC_dict, in_ints, notin_ints, gAdd_list, augF_int, iAug_ev, ne_eq, decide_not, q]
    rw [List.map_cons, fl_next h, lweigh_loop S d0 us _ (fun t ht => hh t (List.mem_cons_of_mem _ ht)), wsum, Int.add_assoc]
theorem lweigh_eq (S : WT) : ∀ (n d m : Nat) (t : T), Bd m d t → m ≤ 1000 → d < n → it__law_weigh n [.val (dictW S), .val (enc t)] = some (.val (.int (T.w S t)), [.val (dictW S), .val (enc t)])
  | 0, _, _, _, _, _, h => by omega
  | n + 1, d, m, .v i, _, _, _ => by
    have h1 := lisv_v i
    have e := @rfl _ (m__law_weigh (it__law_weigh n) F__law_is_variable [.val (dictW S), .val (.int i), .no, .no])
    conv at e => rhs; simp only [m__law_weigh, iSeq_ev, sq_next, sq_ret, sq_brk, sq_cont, iNext_ev, iAsg_ev, as_val, as_new_t, as_new_f, setV_ev, set_no, set_val, set_own, iVar_ev, va_val, va_own, look_ev, lo_own, look_val, look_new, vis_val, vis_new, pub_val, pub_new, pub_own, opd_ap, iCon_ap, iBin_ap, iUn_ap, argN_ap, argC_ap, looks_nil, looks_cons, viss_nil, viss_cons, iCB_ap, iTup_ap, iLst_ap, isB_ap, isI_ap, iTst_ap, iTru_ap, iNotT_ap, iAndT_ap, iOrT_ap, iAnd_ap, iOr_ap, iNot_ap, iIf_ap, iSl_ap, iNoP_ap, iPart_ap, iIsi_ap, iIfS_ev, iRet_ev, ret_val', ret_new', ret_own', ro_own, iRetN_ev, iDrop_ev, iBrk_ev, iCont_ev, iBef_ev, iAft_ev, wfl_next, wfl_cont, wfl_brk, wfl_ret, wipe_nil, wipe_cons, wp_no, wp_val, wp_own, iNm_ev, iGT_tup, iGT_list, iGN_ev, iGC_ev, iAsgT_ev, iCall_ev, sls_nil, sls_val, sls_own, dup_nil, dup_val, dup_own, has_nil, has_val, has_own, now_val, now_new, back_ev, bg_nil, bg_cons, bs_no, bs_val, bs_own, bsf_some, bsf_none, b1_nil, b1_val, b1_own, iApp_ev, ap1_list, apF_list, iExU_ev, exF_list, exV_new, exV_tup, iPop_ev, po_snoc, iStL_ev, iFrz_ev, fz_own, fz_val, iRev_ev, gRev_list, gRev_tup, iSeqI_ev, iRevI_ev, iEnumU_ev, iR1_ev, turn_ev, at0, at1, at2, ix0, ix1, ix2, gAdd_int, gAdd_str, gAdd_tup, gSub_int, gMul_int, gMulR_int, gMulL_int, gDiv_int, gMod_int, gPow_int, gNeg_int, gLt_int, gLe_int, gGt_int, gGe_int, gEq_int, gNe_int, gEq_str, gNe_str, gEq_bool, gNe_bool, gIs_ap, gIsN_ap, isNone_none, isNone_int, isNone_tup, isNone_str, gIx_list, gIx_tup, gSl_tup, gSl_list, c1_ap, gLen_list, gLen_tup, gInt_int, gList_list, gList_tup, gTuple_list, gTuple_tup, truD_none, truD_bool, truD_int, truD_list, truD_tup, isi_int_int, isi_int_tup, isi_bool_bool, isi_tup_tup, isi_list_list, isi_bool_int, Option.bind_some, Option.map_some, List.getElem?_cons_zero, List.getElem?_cons_succ, List.set_cons_zero, List.set_cons_succ, List.length_cons, List.length_nil, if_true, reduceIte, decide_true, decide_false, Bool.true_and, Bool.and_true, Bool.not_true, Bool.not_false, Bool.false_eq_true, Bool.not_eq_true, decide_eq_true_eq, Nat.reduceAdd, Nat.reduceLeDiff, Nat.reduceEqDiff, Nat.reduceSub, Nat.reduceMul, Int.reduceLT, Int.reduceLE, Int.reduceEq, Int.reduceAdd, Int.reduceSub, Int.reduceMul, Int.reduceNeg, Int.reduceToNat, Int.reducePow, and_self, eq_self, and_true, true_and, Nat.reduceBEq, ncast, DL.sm, List.length_map, iDGet2_ev, iDGet_ev, iDIn_ev, keyD_int, keyD_str, iDNew_ev, dpF_own, dp1_own, iDPut_ev, ds1_own, dsF_own, iDSet_ev, lzF_tup, iLZip_ev, iDc_ev, iLc_ev, dA_val, dA_own, iPairs_ev, not_false_eq_true, Nat.reduceLT, iCopyD_ev, lcOF_own, iLcO_ev, alC_list, alC_dict, in_ints, notin_ints, gAdd_list, augF_int, iAug_ev, ne_eq, decide_not, h1]
    exact run_ret (n := 2) (N := 4) (sls := [.val (dictW S), .val (.int i)]) e rfl
  | n + 1, 0, m, .c k a b ts, h, _, _ => h.elim
  | n + 1, d + 1, m, .c k a b ts, hb, hm, hd => by
    have h1 : F__law_is_variable [.val (.tuple [.tuple [.int k, .int a, .int b], .tuple (encs ts)])] = _ := lisv_t [sym k a b, .tuple (encs ts)]
    have g := get_S S k a b
    have hl := lweigh_loop (n := n) S (.tuple [.tuple [.int k, .int a, .int b], .tuple (encs ts)]) ts (wt S (k, a, b)) fun t ht => lweigh_eq S n d m t (hb.2 t ht) hm (by omega)
    rw [← encs_map] at hl
    have e := @rfl _ (m__law_weigh (it__law_weigh n) F__law_is_variable [.val (dictW S), .val (.tuple [.tuple [.int k, .int a, .int b], .tuple (encs ts)]), .no, .no])
    conv at e => rhs; simp only [m__law_weigh, iSeq_ev, sq_next, sq_ret, sq_brk, sq_cont, iNext_ev, iAsg_ev, as_val, as_new_t, as_new_f, setV_ev, set_no, set_val, set_own, iVar_ev, va_val, va_own, look_ev, lo_own, look_val, look_new, vis_val, vis_new, pub_val, pub_new, pub_own, opd_ap, iCon_ap, iBin_ap, iUn_ap, argN_ap, argC_ap, looks_nil, looks_cons, viss_nil, viss_cons, iCB_ap, iTup_ap, iLst_ap, isB_ap, isI_ap, iTst_ap, iTru_ap, iNotT_ap, iAndT_ap, iOrT_ap, iAnd_ap, iOr_ap, iNot_ap, iIf_ap, iSl_ap, iNoP_ap, iPart_ap, iIsi_ap, iIfS_ev, iRet_ev, ret_val', ret_new', ret_own', ro_own, iRetN_ev, iDrop_ev, iBrk_ev, iCont_ev, iBef_ev, iAft_ev, wfl_next, wfl_cont, wfl_brk, wfl_ret, wipe_nil, wipe_cons, wp_no, wp_val, wp_own, iNm_ev, iGT_tup, iGT_list, iGN_ev, iGC_ev, iAsgT_ev, iCall_ev, sls_nil, sls_val, sls_own, dup_nil, dup_val, dup_own, has_nil, has_val, has_own, now_val, now_new, back_ev, bg_nil, bg_cons, bs_no, bs_val, bs_own, bsf_some, bsf_none, b1_nil, b1_val, b1_own, iApp_ev, ap1_list, apF_list, iExU_ev, exF_list, exV_new, exV_tup, iPop_ev, po_snoc, iStL_ev, iFrz_ev, fz_own, fz_val, iRev_ev, gRev_list, gRev_tup, iSeqI_ev, iRevI_ev, iEnumU_ev, iR1_ev, turn_ev, at0, at1, at2, ix0, ix1, ix2, gAdd_int, gAdd_str, gAdd_tup, gSub_int, gMul_int, gMulR_int, gMulL_int, gDiv_int, gMod_int, gPow_int, gNeg_int, gLt_int, gLe_int, gGt_int, gGe_int, gEq_int, gNe_int, gEq_str, gNe_str, gEq_bool, gNe_bool, gIs_ap, gIsN_ap, isNone_none, isNone_int, isNone_tup, isNone_str, gIx_list, gIx_tup, gSl_tup, gSl_list, c1_ap, gLen_list, gLen_tup, gInt_int, gList_list, gList_tup, gTuple_list, gTuple_tup, truD_none, truD_bool, truD_int, truD_list, truD_tup, isi_int_int, isi_int_tup, isi_bool_bool, isi_tup_tup, isi_list_list, isi_bool_int, Option.bind_some, Option.map_some, List.getElem?_cons_zero, List.getElem?_cons_succ, List.set_cons_zero, List.set_cons_succ, List.length_cons, List.length_nil, if_true, reduceIte, decide_true, decide_false, Bool.true_and, Bool.and_true, Bool.not_true, Bool.not_false, Bool.false_eq_true, Bool.not_eq_true, decide_eq_true_eq, Nat.reduceAdd, Nat.reduceLeDiff, Nat.reduceEqDiff, Nat.reduceSub, Nat.reduceMul, Int.reduceLT, Int.reduceLE, Int.reduceEq, Int.reduceAdd, Int.reduceSub, Int.reduceMul, Int.reduceNeg, Int.reduceToNat, Int.reducePow, and_self, eq_self, and_true, true_and, Nat.reduceBEq, ncast, DL.sm, List.length_map, iDGet2_ev, iDGet_ev, iDIn_ev, keyD_int, keyD_str, iDNew_ev, dpF_own, dp1_own, iDPut_ev, ds1_own, dsF_own, iDSet_ev, lzF_tup, iLZip_ev, iDc_ev, iLc_ev, dA_val, dA_own, iPairs_ev, not_false_eq_true, Nat.reduceLT, iCopyD_ev, lcOF_own, iLcO_ev, alC_list, alC_dict, in_ints, notin_ints, gAdd_list, augF_int, iAug_ev, ne_eq, decide_not, iFor_ev, h1, iTGet2_ev, keyTD_sym, g, hl]
    rw [T.w]
    exact run_ret (n := 2) (N := 4) (sls := [.val (dictW S), .val (.tuple [.tuple [.int k, .int a, .int b], .tuple (encs ts)])]) e rfl
theorem pairs_eq {S : WT} (hn : (ksW S).Nodup) (hl : S.length ≤ 1000) : F__law_pairs [.val (dictW S)] = some (.new (.list (pairsT (ksW S) (dsW S))), [.val (dictW S)]) := by
  have hc : (0 : Nat) ≠ 1 ∧ 1 < [Sl.val (dictW S), Sl.no].length ∧ (dsW S).length ≤ 100000 ∧ (ksW S).Nodup := ⟨by decide, by simp, by rw [List.length_map]; omega, hn⟩
  have h1 : iPairsT 0 1 [.val (dictW S), .no] = some (.new (.list (pairsT (ksW S) (dsW S))), [.val (dictW S), .no]) := by
    rw [iPairsT_ev]
    show (if (0 : Nat) ≠ 1 ∧ 1 < [Sl.val (dictW S), Sl.no].length ∧ (dsW S).length ≤ 100000 ∧ (ksW S).Nodup then _ else _) = _
    rw [if_pos hc]
  have e := @rfl _ (m__law_pairs [.val (dictW S), .no])
  conv at e => rhs; simp only [m__law_pairs, iSeq_ev, sq_next, sq_ret, sq_brk, sq_cont, iNext_ev, iAsg_ev, as_val, as_new_t, as_new_f, setV_ev, set_no, set_val, set_own, iVar_ev, va_val, va_own, look_ev, lo_own, look_val, look_new, vis_val, vis_new, pub_val, pub_new, pub_own, opd_ap, iCon_ap, iBin_ap, iUn_ap, argN_ap, argC_ap, looks_nil, looks_cons, viss_nil, viss_cons, iCB_ap, iTup_ap, iLst_ap, isB_ap, isI_ap, iTst_ap, iTru_ap, iNotT_ap, iAndT_ap, iOrT_ap, iAnd_ap, iOr_ap, iNot_ap, iIf_ap, iSl_ap, iNoP_ap, iPart_ap, iIsi_ap, iIfS_ev, iRet_ev, ret_val', ret_new', ret_own', ro_own, iRetN_ev, iDrop_ev, iBrk_ev, iCont_ev, iBef_ev, iAft_ev, wfl_next, wfl_cont, wfl_brk, wfl_ret, wipe_nil, wipe_cons, wp_no, wp_val, wp_own, iNm_ev, iGT_tup, iGT_list, iGN_ev, iGC_ev, iAsgT_ev, iCall_ev, sls_nil, sls_val, sls_own, dup_nil, dup_val, dup_own, has_nil, has_val, has_own, now_val, now_new, back_ev, bg_nil, bg_cons, bs_no, bs_val, bs_own, bsf_some, bsf_none, b1_nil, b1_val, b1_own, iApp_ev, ap1_list, apF_list, iExU_ev, exF_list, exV_new, exV_tup, iPop_ev, po_snoc, iStL_ev, iFrz_ev, fz_own, fz_val, iRev_ev, gRev_list, gRev_tup, iSeqI_ev, iRevI_ev, iEnumU_ev, iR1_ev, turn_ev, at0, at1, at2, ix0, ix1, ix2, gAdd_int, gAdd_str, gAdd_tup, gSub_int, gMul_int, gMulR_int, gMulL_int, gDiv_int, gMod_int, gPow_int, gNeg_int, gLt_int, gLe_int, gGt_int, gGe_int, gEq_int, gNe_int, gEq_str, gNe_str, gEq_bool, gNe_bool, gIs_ap, gIsN_ap, isNone_none, isNone_int, isNone_tup, isNone_str, gIx_list, gIx_tup, gSl_tup, gSl_list, c1_ap, gLen_list, gLen_tup, gInt_int, gList_list, gList_tup, gTuple_list, gTuple_tup, truD_none, truD_bool, truD_int, truD_list, truD_tup, isi_int_int, isi_int_tup, isi_bool_bool, isi_tup_tup, isi_list_list, isi_bool_int, Option.bind_some, Option.map_some, List.getElem?_cons_zero, List.getElem?_cons_succ, List.set_cons_zero, List.set_cons_succ, List.length_cons, List.length_nil, if_true, reduceIte, decide_true, decide_false, Bool.true_and, Bool.and_true, Bool.not_true, Bool.not_false, Bool.false_eq_true, Bool.not_eq_true, decide_eq_true_eq, Nat.reduceAdd, Nat.reduceLeDiff, Nat.reduceEqDiff, Nat.reduceSub, Nat.reduceMul, Int.reduceLT, Int.reduceLE, Int.reduceEq, Int.reduceAdd, Int.reduceSub, Int.reduceMul, Int.reduceNeg, Int.reduceToNat, Int.reducePow, and_self, eq_self, and_true, true_and, Nat.reduceBEq, ncast, DL.sm, List.length_map, iDGet2_ev, iDGet_ev, iDIn_ev, keyD_int, keyD_str, iDNew_ev, dpF_own, dp1_own, iDPut_ev, ds1_own, dsF_own, iDSet_ev, lzF_tup, iLZip_ev, iDc_ev, iLc_ev, dA_val, dA_own, iPairs_ev, not_false_eq_true, Nat.reduceLT, iCopyD_ev, lcOF_own, iLcO_ev, alC_list, alC_dict, in_ints, notin_ints, gAdd_list, augF_int, iAug_ev, ne_eq, decide_not, h1]
  exact run_ret (n := 1) (N := 2) (sls := [.val (dictW S)]) e rfl
theorem pairs_py : ∀ S : WT, ∀ d ∈ pairsT (ksW S) (dsW S), Py 3 d
  | [], d, h => by cases h
  | p :: S, d, h => by
    simp only [List.map_cons, pairsT, List.mem_cons] at h
    rcases h with rfl | h
    · exact Py.tuple (n := 2) (.cons (Py.mono (Py.tuple (n := 0) (.cons Py.int (.cons Py.int (.cons Py.int .nil)))) (by omega)) (.cons Py.int .nil))
    · exact pairs_py S d h
theorem pairs_self (S : WT) : gEq (.list (pairsT (ksW S) (dsW S))) (.list (pairsT (ksW S) (dsW S))) = some (.val (.bool true)) := (Py.list (n := 3) (Pys.of (pairs_py S))).gEq (by omega)
/-! the drawn weights -/
abbrev WE (r : Int) (d1 : D) (S : WT) : Nv := [.val (.int r), .val d1, .own false (dictW S), .no]
theorem put_ev {S : WT} {a b c x : Int} (hn : (ksW S).Nodup) (hl : S.length ≤ 1000) (ha : a ≠ 0) {i : Nat} {q : Bool} {e : Nv} :
    tpF (some (.own q (dictW S))) i [.inl a, .inl b, .inl c] (.int x) e = some (.next (e.set i (.own q (dictW (putS S (a, b, c) x))))) := by
  have hc : (dsW S).length < 100000 ∧ (ksW S).Nodup ∧ okK [.inl a, .inl b, .inl c] = true := ⟨by rw [List.length_map]; omega, hn, by simp [okK, ha]⟩
  have p := putT_S (a, b, c) x S
  unfold keyS at p
  rw [tpF_own, if_pos hc, p]
theorem w_turn {S : WT} {d1 : D} {r : Int} {a b c : Int} (ha : a ≠ 0) (hn : (ksW S).Nodup) (hl : S.length ≤ 1000) : ∃ r' S', (ksW S').Nodup ∧ S'.length ≤ S.length + 1 ∧ turn (iNm 3) b1__law_weights (WE r d1 S) (.tuple [.int a, .int b, .int c]) = some (.next (WE r' d1 S')) := by
  have e := @rfl _ (turn (iNm 3) b1__law_weights (WE r d1 S) (.tuple [.int a, .int b, .int c]))
  by_cases h1 : r % 3 = 1
  · have g := put_ev (x := 1 + r / 3 % 4) (b := b) (c := c) hn hl ha (i := 2) (q := false) (e := [.val (.int r), .val d1, .own false (dictW S), .val (.tuple [.int a, .int b, .int c])])
    conv at e => rhs; simp only [b1__law_weights, iSeq_ev, sq_next, sq_ret, sq_brk, sq_cont, iNext_ev, iAsg_ev, as_val, as_new_t, as_new_f, setV_ev, set_no, set_val, set_own, iVar_ev, va_val, va_own, look_ev, lo_own, look_val, look_new, vis_val, vis_new, pub_val, pub_new, pub_own, opd_ap, iCon_ap, iBin_ap, iUn_ap, argN_ap, argC_ap, looks_nil, looks_cons, viss_nil, viss_cons, iCB_ap, iTup_ap, iLst_ap, isB_ap, isI_ap, iTst_ap, iTru_ap, iNotT_ap, iAndT_ap, iOrT_ap, iAnd_ap, iOr_ap, iNot_ap, iIf_ap, iSl_ap, iNoP_ap, iPart_ap, iIsi_ap, iIfS_ev, iRet_ev, ret_val', ret_new', ret_own', ro_own, iRetN_ev, iDrop_ev, iBrk_ev, iCont_ev, iBef_ev, iAft_ev, wfl_next, wfl_cont, wfl_brk, wfl_ret, wipe_nil, wipe_cons, wp_no, wp_val, wp_own, iNm_ev, iGT_tup, iGT_list, iGN_ev, iGC_ev, iAsgT_ev, iCall_ev, sls_nil, sls_val, sls_own, dup_nil, dup_val, dup_own, has_nil, has_val, has_own, now_val, now_new, back_ev, bg_nil, bg_cons, bs_no, bs_val, bs_own, bsf_some, bsf_none, b1_nil, b1_val, b1_own, iApp_ev, ap1_list, apF_list, iExU_ev, exF_list, exV_new, exV_tup, iPop_ev, po_snoc, iStL_ev, iFrz_ev, fz_own, fz_val, iRev_ev, gRev_list, gRev_tup, iSeqI_ev, iRevI_ev, iEnumU_ev, iR1_ev, turn_ev, at0, at1, at2, ix0, ix1, ix2, gAdd_int, gAdd_str, gAdd_tup, gSub_int, gMul_int, gMulR_int, gMulL_int, gDiv_int, gMod_int, gPow_int, gNeg_int, gLt_int, gLe_int, gGt_int, gGe_int, gEq_int, gNe_int, gEq_str, gNe_str, gEq_bool, gNe_bool, gIs_ap, gIsN_ap, isNone_none, isNone_int, isNone_tup, isNone_str, gIx_list, gIx_tup, gSl_tup, gSl_list, c1_ap, gLen_list, gLen_tup, gInt_int, gList_list, gList_tup, gTuple_list, gTuple_tup, truD_none, truD_bool, truD_int, truD_list, truD_tup, isi_int_int, isi_int_tup, isi_bool_bool, isi_tup_tup, isi_list_list, isi_bool_int, Option.bind_some, Option.map_some, List.getElem?_cons_zero, List.getElem?_cons_succ, List.set_cons_zero, List.set_cons_succ, List.length_cons, List.length_nil, if_true, reduceIte, decide_true, decide_false, Bool.true_and, Bool.and_true, Bool.not_true, Bool.not_false, Bool.false_eq_true, Bool.not_eq_true, decide_eq_true_eq, Nat.reduceAdd, Nat.reduceLeDiff, Nat.reduceEqDiff, Nat.reduceSub, Nat.reduceMul, Int.reduceLT, Int.reduceLE, Int.reduceEq, Int.reduceAdd, Int.reduceSub, Int.reduceMul, Int.reduceNeg, Int.reduceToNat, Int.reducePow, and_self, eq_self, and_true, true_and, Nat.reduceBEq, ncast, DL.sm, List.length_map, iDGet2_ev, iDGet_ev, iDIn_ev, keyD_int, keyD_str, iDNew_ev, dpF_own, dp1_own, iDPut_ev, ds1_own, dsF_own, iDSet_ev, lzF_tup, iLZip_ev, iDc_ev, iLc_ev, dA_val, dA_own, iPairs_ev, not_false_eq_true, Nat.reduceLT, iCopyD_ev, lcOF_own, iLcO_ev, alC_list, alC_dict, in_ints, notin_ints, gAdd_list, augF_int, iAug_ev, ne_eq, decide_not, h1, iTPut_ev, tp1_own, keyTD_sym, g]
    exact ⟨_, _, putS_nodup hn, putS_len, e⟩
  · by_cases h2 : r % 3 = 2
    · have g := put_ev (x := 1 + r / 3 % 2) (b := b) (c := c) hn hl ha (i := 2) (q := false) (e := [.val (.int r), .val d1, .own false (dictW S), .val (.tuple [.int a, .int b, .int c])])
      conv at e => rhs; simp only [b1__law_weights, iSeq_ev, sq_next, sq_ret, sq_brk, sq_cont, iNext_ev, iAsg_ev, as_val, as_new_t, as_new_f, setV_ev, set_no, set_val, set_own, iVar_ev, va_val, va_own, look_ev, lo_own, look_val, look_new, vis_val, vis_new, pub_val, pub_new, pub_own, opd_ap, iCon_ap, iBin_ap, iUn_ap, argN_ap, argC_ap, looks_nil, looks_cons, viss_nil, viss_cons, iCB_ap, iTup_ap, iLst_ap, isB_ap, isI_ap, iTst_ap, iTru_ap, iNotT_ap, iAndT_ap, iOrT_ap, iAnd_ap, iOr_ap, iNot_ap, iIf_ap, iSl_ap, iNoP_ap, iPart_ap, iIsi_ap, iIfS_ev, iRet_ev, ret_val', ret_new', ret_own', ro_own, iRetN_ev, iDrop_ev, iBrk_ev, iCont_ev, iBef_ev, iAft_ev, wfl_next, wfl_cont, wfl_brk, wfl_ret, wipe_nil, wipe_cons, wp_no, wp_val, wp_own, iNm_ev, iGT_tup, iGT_list, iGN_ev, iGC_ev, iAsgT_ev, iCall_ev, sls_nil, sls_val, sls_own, dup_nil, dup_val, dup_own, has_nil, has_val, has_own, now_val, now_new, back_ev, bg_nil, bg_cons, bs_no, bs_val, bs_own, bsf_some, bsf_none, b1_nil, b1_val, b1_own, iApp_ev, ap1_list, apF_list, iExU_ev, exF_list, exV_new, exV_tup, iPop_ev, po_snoc, iStL_ev, iFrz_ev, fz_own, fz_val, iRev_ev, gRev_list, gRev_tup, iSeqI_ev, iRevI_ev, iEnumU_ev, iR1_ev, turn_ev, at0, at1, at2, ix0, ix1, ix2, gAdd_int, gAdd_str, gAdd_tup, gSub_int, gMul_int, gMulR_int, gMulL_int, gDiv_int, gMod_int, gPow_int, gNeg_int, gLt_int, gLe_int, gGt_int, gGe_int, gEq_int, gNe_int, gEq_str, gNe_str, gEq_bool, gNe_bool, gIs_ap, gIsN_ap, isNone_none, isNone_int, isNone_tup, isNone_str, gIx_list, gIx_tup, gSl_tup, gSl_list, c1_ap, gLen_list, gLen_tup, gInt_int, gList_list, gList_tup, gTuple_list, gTuple_tup, truD_none, truD_bool, truD_int, truD_list, truD_tup, isi_int_int, isi_int_tup, isi_bool_bool, isi_tup_tup, isi_list_list, isi_bool_int, Option.bind_some, Option.map_some, List.getElem?_cons_zero, List.getElem?_cons_succ, List.set_cons_zero, List.set_cons_succ, List.length_cons, List.length_nil, if_true, reduceIte, decide_true, decide_false, Bool.true_and, Bool.and_true, Bool.not_true, Bool.not_false, Bool.false_eq_true, Bool.not_eq_true, decide_eq_true_eq, Nat.reduceAdd, Nat.reduceLeDiff, Nat.reduceEqDiff, Nat.reduceSub, Nat.reduceMul, Int.reduceLT, Int.reduceLE, Int.reduceEq, Int.reduceAdd, Int.reduceSub, Int.reduceMul, Int.reduceNeg, Int.reduceToNat, Int.reducePow, and_self, eq_self, and_true, true_and, Nat.reduceBEq, ncast, DL.sm, List.length_map, iDGet2_ev, iDGet_ev, iDIn_ev, keyD_int, keyD_str, iDNew_ev, dpF_own, dp1_own, iDPut_ev, ds1_own, dsF_own, iDSet_ev, lzF_tup, iLZip_ev, iDc_ev, iLc_ev, dA_val, dA_own, iPairs_ev, not_false_eq_true, Nat.reduceLT, iCopyD_ev, lcOF_own, iLcO_ev, alC_list, alC_dict, in_ints, notin_ints, gAdd_list, augF_int, iAug_ev, ne_eq, decide_not, h2, iTPut_ev, tp1_own, keyTD_sym, g]
      exact ⟨_, _, putS_nodup hn, putS_len, e⟩
    · conv at e => rhs; simp only [b1__law_weights, iSeq_ev, sq_next, sq_ret, sq_brk, sq_cont, iNext_ev, iAsg_ev, as_val, as_new_t, as_new_f, setV_ev, set_no, set_val, set_own, iVar_ev, va_val, va_own, look_ev, lo_own, look_val, look_new, vis_val, vis_new, pub_val, pub_new, pub_own, opd_ap, iCon_ap, iBin_ap, iUn_ap, argN_ap, argC_ap, looks_nil, looks_cons, viss_nil, viss_cons, iCB_ap, iTup_ap, iLst_ap, isB_ap, isI_ap, iTst_ap, iTru_ap, iNotT_ap, iAndT_ap, iOrT_ap, iAnd_ap, iOr_ap, iNot_ap, iIf_ap, iSl_ap, iNoP_ap, iPart_ap, iIsi_ap, iIfS_ev, iRet_ev, ret_val', ret_new', ret_own', ro_own, iRetN_ev, iDrop_ev, iBrk_ev, iCont_ev, iBef_ev, iAft_ev, wfl_next, wfl_cont, wfl_brk, wfl_ret, wipe_nil, wipe_cons, wp_no, wp_val, wp_own, iNm_ev, iGT_tup, iGT_list, iGN_ev, iGC_ev, iAsgT_ev, iCall_ev, sls_nil, sls_val, sls_own, dup_nil, dup_val, dup_own, has_nil, has_val, has_own, now_val, now_new, back_ev, bg_nil, bg_cons, bs_no, bs_val, bs_own, bsf_some, bsf_none, b1_nil, b1_val, b1_own, iApp_ev, ap1_list, apF_list, iExU_ev, exF_list, exV_new, exV_tup, iPop_ev, po_snoc, iStL_ev, iFrz_ev, fz_own, fz_val, iRev_ev, gRev_list, gRev_tup, iSeqI_ev, iRevI_ev, iEnumU_ev, iR1_ev, turn_ev, at0, at1, at2, ix0, ix1, ix2, gAdd_int, gAdd_str, gAdd_tup, gSub_int, gMul_int, gMulR_int, gMulL_int, gDiv_int, gMod_int, gPow_int, gNeg_int, gLt_int, gLe_int, gGt_int, gGe_int, gEq_int, gNe_int, gEq_str, gNe_str, gEq_bool, gNe_bool, gIs_ap, gIsN_ap, isNone_none, isNone_int, isNone_tup, isNone_str, gIx_list, gIx_tup, gSl_tup, gSl_list, c1_ap, gLen_list, gLen_tup, gInt_int, gList_list, gList_tup, gTuple_list, gTuple_tup, truD_none, truD_bool, truD_int, truD_list, truD_tup, isi_int_int, isi_int_tup, isi_bool_bool, isi_tup_tup, isi_list_list, isi_bool_int, Option.bind_some, Option.map_some, List.getElem?_cons_zero, List.getElem?_cons_succ, List.set_cons_zero, List.set_cons_succ, List.length_cons, List.length_nil, if_true, reduceIte, decide_true, decide_false, Bool.true_and, Bool.and_true, Bool.not_true, Bool.not_false, Bool.false_eq_true, Bool.not_eq_true, decide_eq_true_eq, Nat.reduceAdd, Nat.reduceLeDiff, Nat.reduceEqDiff, Nat.reduceSub, Nat.reduceMul, Int.reduceLT, Int.reduceLE, Int.reduceEq, Int.reduceAdd, Int.reduceSub, Int.reduceMul, Int.reduceNeg, Int.reduceToNat, Int.reducePow, and_self, eq_self, and_true, true_and, Nat.reduceBEq, ncast, DL.sm, List.length_map, iDGet2_ev, iDGet_ev, iDIn_ev, keyD_int, keyD_str, iDNew_ev, dpF_own, dp1_own, iDPut_ev, ds1_own, dsF_own, iDSet_ev, lzF_tup, iLZip_ev, iDc_ev, iLc_ev, dA_val, dA_own, iPairs_ev, not_false_eq_true, Nat.reduceLT, iCopyD_ev, lcOF_own, iLcO_ev, alC_list, alC_dict, in_ints, notin_ints, gAdd_list, augF_int, iAug_ev, ne_eq, decide_not, h1, h2]
      exact ⟨_, S, hn, by omega, e⟩
theorem weights_ex (r : Int) : ∃ S, (ksW S).Nodup ∧ S.length ≤ 6 ∧ F__law_weights [.val (.int r)] = some (.new (dictW S), [.val (.int r)]) := by
  obtain ⟨d1, hd1⟩ : ∃ d1 : D, d1 = .list [.tuple [.int 2, .int 0, .int 0], .tuple [.int 2, .int 1, .int 0], .tuple [.int 3, .int 0, .int 0], .tuple [.int 2, .int 2, .int 0], .tuple [.int 1, .int 0, .int 0], .tuple [.int 1, .int 1, .int 0]] := ⟨_, rfl⟩
  obtain ⟨r1, S1, n1, l1, t1⟩ := w_turn (S := []) (d1 := d1) (r := r) (a := 2) (b := 0) (c := 0) (by decide) (by simp) (by simp)
  simp only [List.length_nil] at l1
  obtain ⟨r2, S2, n2, l2, t2⟩ := w_turn (S := S1) (d1 := d1) (r := r1) (a := 2) (b := 1) (c := 0) (by decide) n1 (by omega)
  obtain ⟨r3, S3, n3, l3, t3⟩ := w_turn (S := S2) (d1 := d1) (r := r2) (a := 3) (b := 0) (c := 0) (by decide) n2 (by omega)
  obtain ⟨r4, S4, n4, l4, t4⟩ := w_turn (S := S3) (d1 := d1) (r := r3) (a := 2) (b := 2) (c := 0) (by decide) n3 (by omega)
  obtain ⟨r5, S5, n5, l5, t5⟩ := w_turn (S := S4) (d1 := d1) (r := r4) (a := 1) (b := 0) (c := 0) (by decide) n4 (by omega)
  obtain ⟨r6, S6, n6, l6, t6⟩ := w_turn (S := S5) (d1 := d1) (r := r5) (a := 1) (b := 1) (c := 0) (by decide) n5 (by omega)
  have fl : floop (iNm 3) b1__law_weights [.tuple [.int 2, .int 0, .int 0], .tuple [.int 2, .int 1, .int 0], .tuple [.int 3, .int 0, .int 0], .tuple [.int 2, .int 2, .int 0], .tuple [.int 1, .int 0, .int 0], .tuple [.int 1, .int 1, .int 0]] (WE r d1 []) = some (.next (WE r6 d1 S6)) := by
    rw [fl_next t1, fl_next t2, fl_next t3, fl_next t4, fl_next t5, fl_next t6]; rfl
  subst hd1
  have fl' : floop (iNm 3) b1__law_weights [.tuple [.int 2, .int 0, .int 0], .tuple [.int 2, .int 1, .int 0], .tuple [.int 3, .int 0, .int 0], .tuple [.int 2, .int 2, .int 0], .tuple [.int 1, .int 0, .int 0], .tuple [.int 1, .int 1, .int 0]] [.val (.int r), .val (.list [.tuple [.int 2, .int 0, .int 0], .tuple [.int 2, .int 1, .int 0], .tuple [.int 3, .int 0, .int 0], .tuple [.int 2, .int 2, .int 0], .tuple [.int 1, .int 0, .int 0], .tuple [.int 1, .int 1, .int 0]]), .own false (.dictT [] []), .no] = _ := fl
  have e := @rfl _ (m__law_weights [.val (.int r), .no, .no, .no])
  conv at e => rhs; simp only [m__law_weights, iSeq_ev, sq_next, sq_ret, sq_brk, sq_cont, iNext_ev, iAsg_ev, as_val, as_new_t, as_new_f, setV_ev, set_no, set_val, set_own, iVar_ev, va_val, va_own, look_ev, lo_own, look_val, look_new, vis_val, vis_new, pub_val, pub_new, pub_own, opd_ap, iCon_ap, iBin_ap, iUn_ap, argN_ap, argC_ap, looks_nil, looks_cons, viss_nil, viss_cons, iCB_ap, iTup_ap, iLst_ap, isB_ap, isI_ap, iTst_ap, iTru_ap, iNotT_ap, iAndT_ap, iOrT_ap, iAnd_ap, iOr_ap, iNot_ap, iIf_ap, iSl_ap, iNoP_ap, iPart_ap, iIsi_ap, iIfS_ev, iRet_ev, ret_val', ret_new', ret_own', ro_own, iRetN_ev, iDrop_ev, iBrk_ev, iCont_ev, iBef_ev, iAft_ev, wfl_next, wfl_cont, wfl_brk, wfl_ret, wipe_nil, wipe_cons, wp_no, wp_val, wp_own, iNm_ev, iGT_tup, iGT_list, iGN_ev, iGC_ev, iAsgT_ev, iCall_ev, sls_nil, sls_val, sls_own, dup_nil, dup_val, dup_own, has_nil, has_val, has_own, now_val, now_new, back_ev, bg_nil, bg_cons, bs_no, bs_val, bs_own, bsf_some, bsf_none, b1_nil, b1_val, b1_own, iApp_ev, ap1_list, apF_list, iExU_ev, exF_list, exV_new, exV_tup, iPop_ev, po_snoc, iStL_ev, iFrz_ev, fz_own, fz_val, iRev_ev, gRev_list, gRev_tup, iSeqI_ev, iRevI_ev, iEnumU_ev, iR1_ev, turn_ev, at0, at1, at2, ix0, ix1, ix2, gAdd_int, gAdd_str, gAdd_tup, gSub_int, gMul_int, gMulR_int, gMulL_int, gDiv_int, gMod_int, gPow_int, gNeg_int, gLt_int, gLe_int, gGt_int, gGe_int, gEq_int, gNe_int, gEq_str, gNe_str, gEq_bool, gNe_bool, gIs_ap, gIsN_ap, isNone_none, isNone_int, isNone_tup, isNone_str, gIx_list, gIx_tup, gSl_tup, gSl_list, c1_ap, gLen_list, gLen_tup, gInt_int, gList_list, gList_tup, gTuple_list, gTuple_tup, truD_none, truD_bool, truD_int, truD_list, truD_tup, isi_int_int, isi_int_tup, isi_bool_bool, isi_tup_tup, isi_list_list, isi_bool_int, Option.bind_some, Option.map_some, List.getElem?_cons_zero, List.getElem?_cons_succ, List.set_cons_zero, List.set_cons_succ, List.length_cons, List.length_nil, if_true, reduceIte, decide_true, decide_false, Bool.true_and, Bool.and_true, Bool.not_true, Bool.not_false, Bool.false_eq_true, Bool.not_eq_true, decide_eq_true_eq, Nat.reduceAdd, Nat.reduceLeDiff, Nat.reduceEqDiff, Nat.reduceSub, Nat.reduceMul, Int.reduceLT, Int.reduceLE, Int.reduceEq, Int.reduceAdd, Int.reduceSub, Int.reduceMul, Int.reduceNeg, Int.reduceToNat, Int.reducePow, and_self, eq_self, and_true, true_and, Nat.reduceBEq, ncast, DL.sm, List.length_map, iDGet2_ev, iDGet_ev, iDIn_ev, keyD_int, keyD_str, iDNew_ev, dpF_own, dp1_own, iDPut_ev, ds1_own, dsF_own, iDSet_ev, lzF_tup, iLZip_ev, iDc_ev, iLc_ev, dA_val, dA_own, iPairs_ev, not_false_eq_true, Nat.reduceLT, iCopyD_ev, lcOF_own, iLcO_ev, alC_list, alC_dict, in_ints, notin_ints, gAdd_list, augF_int, iAug_ev, ne_eq, decide_not, iFor_ev, iTNew_ev, fl']
  exact ⟨S6, n6, by omega, run_ret (n := 1) (N := 4) (sls := [.val (.int r)]) e rfl⟩
/-! the law's loops -/
abbrev LB1 : StF := b1_law F__law_pairs F_clause_weight F__law_is_integer F_literal_weight F__law_is_variable F_symbol_weight F__law_weigh F_term_weight F__law_clause F__law_cell F__law_weights
abbrev LB2 : StF := b2_law F__law_pairs F_clause_weight F__law_is_integer F_literal_weight F__law_is_variable F_symbol_weight F__law_weigh F_term_weight F__law_clause F__law_cell F__law_weights
theorem size81 {t : T} (h : Bd 2 4 t) : t.size ≤ 81 := by
  have := size_bd (m := 1) 4 t h
  have h2 : (1 + 2) ^ 4 = 81 := by decide
  omega
theorem t_turn {S : WT} {s0 s2 s3 s4 s5 : D} {due : Int} {t : T} (h : Bd 2 4 t) : turn (iNm 7) LB1 [.val s0, .val (dictW S), .val s2, .val s3, .val s4, .val s5, .val (.int due), .no, .no] (enc t) = some (.next [.val s0, .val (dictW S), .val s2, .val s3, .val s4, .val s5, .val (.int (due + T.w S t)), .no, .no]) := by
  have sz := size81 h
  have q1 := tw_eq S (t := t) (by omega)
  have q2 : F__law_weigh [.val (dictW S), .val (enc t)] = _ := lweigh_eq S 12 4 2 t h (by omega) (by omega)
  have q3 := lint (T.w S t)
  cases t with
  | v i =>
    have q4 := lisv_v i
    rw [enc_v] at q1 q2 ⊢
    simp only [LB1, b1_law, iSeq_ev, sq_next, sq_ret, sq_brk, sq_cont, iNext_ev, iAsg_ev, as_val, as_new_t, as_new_f, setV_ev, set_no, set_val, set_own, iVar_ev, va_val, va_own, look_ev, lo_own, look_val, look_new, vis_val, vis_new, pub_val, pub_new, pub_own, opd_ap, iCon_ap, iBin_ap, iUn_ap, argN_ap, argC_ap, looks_nil, looks_cons, viss_nil, viss_cons, iCB_ap, iTup_ap, iLst_ap, isB_ap, isI_ap, iTst_ap, iTru_ap, iNotT_ap, iAndT_ap, iOrT_ap, iAnd_ap, iOr_ap, iNot_ap, iIf_ap, iSl_ap, iNoP_ap, iPart_ap, iIsi_ap, iIfS_ev, iRet_ev, ret_val', ret_new', ret_own', ro_own, iRetN_ev, iDrop_ev, iBrk_ev, iCont_ev, iBef_ev, iAft_ev, wfl_next, wfl_cont, wfl_brk, wfl_ret, wipe_nil, wipe_cons, wp_no, wp_val, wp_own, iNm_ev, iGT_tup, iGT_list, iGN_ev, iGC_ev, iAsgT_ev, iCall_ev, sls_nil, sls_val, sls_own, dup_nil, dup_val, dup_own, has_nil, has_val, has_own, now_val, now_new, back_ev, bg_nil, bg_cons, bs_no, bs_val, bs_own, bsf_some, bsf_none, b1_nil, b1_val, b1_own, iApp_ev, ap1_list, apF_list, iExU_ev, exF_list, exV_new, exV_tup, iPop_ev, po_snoc, iStL_ev, iFrz_ev, fz_own, fz_val, iRev_ev, gRev_list, gRev_tup, iSeqI_ev, iRevI_ev, iEnumU_ev, iR1_ev, turn_ev, at0, at1, at2, ix0, ix1, ix2, gAdd_int, gAdd_str, gAdd_tup, gSub_int, gMul_int, gMulR_int, gMulL_int, gDiv_int, gMod_int, gPow_int, gNeg_int, gLt_int, gLe_int, gGt_int, gGe_int, gEq_int, gNe_int, gEq_str, gNe_str, gEq_bool, gNe_bool, gIs_ap, gIsN_ap, isNone_none, isNone_int, isNone_tup, isNone_str, gIx_list, gIx_tup, gSl_tup, gSl_list, c1_ap, gLen_list, gLen_tup, gInt_int, gList_list, gList_tup, gTuple_list, gTuple_tup, truD_none, truD_bool, truD_int, truD_list, truD_tup, isi_int_int, isi_int_tup, isi_bool_bool, isi_tup_tup, isi_list_list, isi_bool_int, Option.bind_some, Option.map_some, List.getElem?_cons_zero, List.getElem?_cons_succ, List.set_cons_zero, List.set_cons_succ, List.length_cons, List.length_nil, if_true, reduceIte, decide_true, decide_false, Bool.true_and, Bool.and_true, Bool.not_true, Bool.not_false, Bool.false_eq_true, Bool.not_eq_true, decide_eq_true_eq, Nat.reduceAdd, Nat.reduceLeDiff, Nat.reduceEqDiff, Nat.reduceSub, Nat.reduceMul, Int.reduceLT, Int.reduceLE, Int.reduceEq, Int.reduceAdd, Int.reduceSub, Int.reduceMul, Int.reduceNeg, Int.reduceToNat, Int.reducePow, and_self, eq_self, and_true, true_and, Nat.reduceBEq, ncast, DL.sm, List.length_map, iDGet2_ev, iDGet_ev, iDIn_ev, keyD_int, keyD_str, iDNew_ev, dpF_own, dp1_own, iDPut_ev, ds1_own, dsF_own, iDSet_ev, lzF_tup, iLZip_ev, iDc_ev, iLc_ev, dA_val, dA_own, iPairs_ev, not_false_eq_true, Nat.reduceLT, iCopyD_ev, lcOF_own, iLcO_ev, alC_list, alC_dict, in_ints, notin_ints, gAdd_list, augF_int, iAug_ev, ne_eq, decide_not, q1, q2, q3, q4]
  | c k a b ts =>
    have q4 : F__law_is_variable [.val (.tuple [.tuple [.int k, .int a, .int b], .tuple (encs ts)])] = _ := lisv_t [sym k a b, .tuple (encs ts)]
    have q5 : F_symbol_weight [.val (dictW S), .val (.tuple [.int k, .int a, .int b])] = _ := symw_eq S k a b
    have g := get_S S k a b
    have ee : enc (.c k a b ts) = .tuple [.tuple [.int k, .int a, .int b], .tuple (encs ts)] := rfl
    rw [ee] at q1 q2 ⊢
    simp only [LB1, b1_law, iSeq_ev, sq_next, sq_ret, sq_brk, sq_cont, iNext_ev, iAsg_ev, as_val, as_new_t, as_new_f, setV_ev, set_no, set_val, set_own, iVar_ev, va_val, va_own, look_ev, lo_own, look_val, look_new, vis_val, vis_new, pub_val, pub_new, pub_own, opd_ap, iCon_ap, iBin_ap, iUn_ap, argN_ap, argC_ap, looks_nil, looks_cons, viss_nil, viss_cons, iCB_ap, iTup_ap, iLst_ap, isB_ap, isI_ap, iTst_ap, iTru_ap, iNotT_ap, iAndT_ap, iOrT_ap, iAnd_ap, iOr_ap, iNot_ap, iIf_ap, iSl_ap, iNoP_ap, iPart_ap, iIsi_ap, iIfS_ev, iRet_ev, ret_val', ret_new', ret_own', ro_own, iRetN_ev, iDrop_ev, iBrk_ev, iCont_ev, iBef_ev, iAft_ev, wfl_next, wfl_cont, wfl_brk, wfl_ret, wipe_nil, wipe_cons, wp_no, wp_val, wp_own, iNm_ev, iGT_tup, iGT_list, iGN_ev, iGC_ev, iAsgT_ev, iCall_ev, sls_nil, sls_val, sls_own, dup_nil, dup_val, dup_own, has_nil, has_val, has_own, now_val, now_new, back_ev, bg_nil, bg_cons, bs_no, bs_val, bs_own, bsf_some, bsf_none, b1_nil, b1_val, b1_own, iApp_ev, ap1_list, apF_list, iExU_ev, exF_list, exV_new, exV_tup, iPop_ev, po_snoc, iStL_ev, iFrz_ev, fz_own, fz_val, iRev_ev, gRev_list, gRev_tup, iSeqI_ev, iRevI_ev, iEnumU_ev, iR1_ev, turn_ev, at0, at1, at2, ix0, ix1, ix2, gAdd_int, gAdd_str, gAdd_tup, gSub_int, gMul_int, gMulR_int, gMulL_int, gDiv_int, gMod_int, gPow_int, gNeg_int, gLt_int, gLe_int, gGt_int, gGe_int, gEq_int, gNe_int, gEq_str, gNe_str, gEq_bool, gNe_bool, gIs_ap, gIsN_ap, isNone_none, isNone_int, isNone_tup, isNone_str, gIx_list, gIx_tup, gSl_tup, gSl_list, c1_ap, gLen_list, gLen_tup, gInt_int, gList_list, gList_tup, gTuple_list, gTuple_tup, truD_none, truD_bool, truD_int, truD_list, truD_tup, isi_int_int, isi_int_tup, isi_bool_bool, isi_tup_tup, isi_list_list, isi_bool_int, Option.bind_some, Option.map_some, List.getElem?_cons_zero, List.getElem?_cons_succ, List.set_cons_zero, List.set_cons_succ, List.length_cons, List.length_nil, if_true, reduceIte, decide_true, decide_false, Bool.true_and, Bool.and_true, Bool.not_true, Bool.not_false, Bool.false_eq_true, Bool.not_eq_true, decide_eq_true_eq, Nat.reduceAdd, Nat.reduceLeDiff, Nat.reduceEqDiff, Nat.reduceSub, Nat.reduceMul, Int.reduceLT, Int.reduceLE, Int.reduceEq, Int.reduceAdd, Int.reduceSub, Int.reduceMul, Int.reduceNeg, Int.reduceToNat, Int.reducePow, and_self, eq_self, and_true, true_and, Nat.reduceBEq, ncast, DL.sm, List.length_map, iDGet2_ev, iDGet_ev, iDIn_ev, keyD_int, keyD_str, iDNew_ev, dpF_own, dp1_own, iDPut_ev, ds1_own, dsF_own, iDSet_ev, lzF_tup, iLZip_ev, iDc_ev, iLc_ev, dA_val, dA_own, iPairs_ev, not_false_eq_true, Nat.reduceLT, iCopyD_ev, lcOF_own, iLcO_ev, alC_list, alC_dict, in_ints, notin_ints, gAdd_list, augF_int, iAug_ev, ne_eq, decide_not, q1, q2, q3, q4, q5, iTGet2_ev, keyTD_sym, g]
theorem l_turn {S : WT} {s0 s2 s3 : D} {tot : Int} {l : Lit} (h : LBd 2 4 l) : turn (iNm 5) LB2 [.val s0, .val (dictW S), .val s2, .val s3, .val (.int tot), .no, .no, .no, .no] (encL l) = some (.next [.val s0, .val (dictW S), .val s2, .val s3, .val (.int (tot + lw S l)), .no, .no, .no, .no]) := by
  have t1 := t_turn (S := S) (s0 := s0) (s2 := s2) (s3 := s3) (s4 := .int tot) (s5 := encL l) (due := 0) h.1
  rw [Int.zero_add] at t1
  have t2 := t_turn (S := S) (s0 := s0) (s2 := s2) (s3 := s3) (s4 := .int tot) (s5 := encL l) (due := T.w S l.2.1) h.2
  have fl0 : floop (iNm 7) LB1 [enc l.2.1, enc l.2.2] [.val s0, .val (dictW S), .val s2, .val s3, .val (.int tot), .val (encL l), .val (.int 0), .no, .no] = some (.next [.val s0, .val (dictW S), .val s2, .val s3, .val (.int tot), .val (encL l), .val (.int (T.w S l.2.1 + T.w S l.2.2)), .no, .no]) := by
    rw [fl_next t1, fl_next t2]; rfl
  have fl : floop (iNm 7) LB1 [enc l.2.1, enc l.2.2] [.val s0, .val (dictW S), .val s2, .val s3, .val (.int tot), .val (.tuple [.bool l.1, enc l.2.1, enc l.2.2]), .val (.int 0), .no, .no] = some (.next [.val s0, .val (dictW S), .val s2, .val s3, .val (.int tot), .val (.tuple [.bool l.1, enc l.2.1, enc l.2.2]), .val (.int (T.w S l.2.1 + T.w S l.2.2)), .no, .no]) := fl0
  have s1 := size81 h.1
  have s2' := size81 h.2
  have q : F_literal_weight [.val (dictW S), .val (.tuple [.bool l.1, enc l.2.1, enc l.2.2])] = _ := lw_eq S (l := l) (by omega) (by omega)
  unfold lw at q ⊢
  have fl' : floop (iNm 7) (b1_law F__law_pairs F_clause_weight F__law_is_integer F_literal_weight F__law_is_variable F_symbol_weight F__law_weigh F_term_weight F__law_clause F__law_cell F__law_weights) _ _ = _ := fl
  simp only [encL, LB2, b2_law, iSeq_ev, sq_next, sq_ret, sq_brk, sq_cont, iNext_ev, iAsg_ev, as_val, as_new_t, as_new_f, setV_ev, set_no, set_val, set_own, iVar_ev, va_val, va_own, look_ev, lo_own, look_val, look_new, vis_val, vis_new, pub_val, pub_new, pub_own, opd_ap, iCon_ap, iBin_ap, iUn_ap, argN_ap, argC_ap, looks_nil, looks_cons, viss_nil, viss_cons, iCB_ap, iTup_ap, iLst_ap, isB_ap, isI_ap, iTst_ap, iTru_ap, iNotT_ap, iAndT_ap, iOrT_ap, iAnd_ap, iOr_ap, iNot_ap, iIf_ap, iSl_ap, iNoP_ap, iPart_ap, iIsi_ap, iIfS_ev, iRet_ev, ret_val', ret_new', ret_own', ro_own, iRetN_ev, iDrop_ev, iBrk_ev, iCont_ev, iBef_ev, iAft_ev, wfl_next, wfl_cont, wfl_brk, wfl_ret, wipe_nil, wipe_cons, wp_no, wp_val, wp_own, iNm_ev, iGT_tup, iGT_list, iGN_ev, iGC_ev, iAsgT_ev, iCall_ev, sls_nil, sls_val, sls_own, dup_nil, dup_val, dup_own, has_nil, has_val, has_own, now_val, now_new, back_ev, bg_nil, bg_cons, bs_no, bs_val, bs_own, bsf_some, bsf_none, b1_nil, b1_val, b1_own, iApp_ev, ap1_list, apF_list, iExU_ev, exF_list, exV_new, exV_tup, iPop_ev, po_snoc, iStL_ev, iFrz_ev, fz_own, fz_val, iRev_ev, gRev_list, gRev_tup, iSeqI_ev, iRevI_ev, iEnumU_ev, iR1_ev, turn_ev, at0, at1, at2, ix0, ix1, ix2, gAdd_int, gAdd_str, gAdd_tup, gSub_int, gMul_int, gMulR_int, gMulL_int, gDiv_int, gMod_int, gPow_int, gNeg_int, gLt_int, gLe_int, gGt_int, gGe_int, gEq_int, gNe_int, gEq_str, gNe_str, gEq_bool, gNe_bool, gIs_ap, gIsN_ap, isNone_none, isNone_int, isNone_tup, isNone_str, gIx_list, gIx_tup, gSl_tup, gSl_list, c1_ap, gLen_list, gLen_tup, gInt_int, gList_list, gList_tup, gTuple_list, gTuple_tup, truD_none, truD_bool, truD_int, truD_list, truD_tup, isi_int_int, isi_int_tup, isi_bool_bool, isi_tup_tup, isi_list_list, isi_bool_int, Option.bind_some, Option.map_some, List.getElem?_cons_zero, List.getElem?_cons_succ, List.set_cons_zero, List.set_cons_succ, List.length_cons, List.length_nil, if_true, reduceIte, decide_true, decide_false, Bool.true_and, Bool.and_true, Bool.not_true, Bool.not_false, Bool.false_eq_true, Bool.not_eq_true, decide_eq_true_eq, Nat.reduceAdd, Nat.reduceLeDiff, Nat.reduceEqDiff, Nat.reduceSub, Nat.reduceMul, Int.reduceLT, Int.reduceLE, Int.reduceEq, Int.reduceAdd, Int.reduceSub, Int.reduceMul, Int.reduceNeg, Int.reduceToNat, Int.reducePow, and_self, eq_self, and_true, true_and, Nat.reduceBEq, ncast, DL.sm, List.length_map, iDGet2_ev, iDGet_ev, iDIn_ev, keyD_int, keyD_str, iDNew_ev, dpF_own, dp1_own, iDPut_ev, ds1_own, dsF_own, iDSet_ev, lzF_tup, iLZip_ev, iDc_ev, iLc_ev, dA_val, dA_own, iPairs_ev, not_false_eq_true, Nat.reduceLT, iCopyD_ev, lcOF_own, iLcO_ev, alC_list, alC_dict, in_ints, notin_ints, gAdd_list, augF_int, iAug_ev, ne_eq, decide_not, iFor_ev, fl', q]
theorem l_loop {S : WT} {s0 s2 s3 : D} : ∀ (ls : List Lit) (tot : Int), (∀ l ∈ ls, LBd 2 4 l) → floop (iNm 5) LB2 (ls.map encL) [.val s0, .val (dictW S), .val s2, .val s3, .val (.int tot), .no, .no, .no, .no] = some (.next [.val s0, .val (dictW S), .val s2, .val s3, .val (.int (tot + (ls.map (lw S)).sum)), .no, .no, .no, .no])
  | [], tot, _ => by simp [floop]
  | l :: ls, tot, h => by
    rw [List.map_cons, fl_next (l_turn (h l List.mem_cons_self)), l_loop ls _ fun m hm => h m (List.mem_cons_of_mem _ hm), List.map_cons, List.sum_cons, Int.add_assoc]
theorem cw_eq {S : WT} {ls : List Lit} (h : ∀ l ∈ ls, LBd 2 4 l) : F_clause_weight [.val (dictW S), .val (clD ls)] = some (.val (.int (ls.map (lw S)).sum), [.val (dictW S), .val (clD ls)]) := by
  have hit : iSeqI (iVar 1) [.val (dictW S), .val (.tuple (ls.map encL)), .no] = some (ls.map encL, [.val (dictW S), .val (.tuple (ls.map encL)), .no]) := by simp only [iSeq_ev, sq_next, sq_ret, sq_brk, sq_cont, iNext_ev, iAsg_ev, as_val, as_new_t, as_new_f, setV_ev, set_no, set_val, set_own, iVar_ev, va_val, va_own, look_ev, lo_own, look_val, look_new, vis_val, vis_new, pub_val, pub_new, pub_own, opd_ap, iCon_ap, iBin_ap, iUn_ap, argN_ap, argC_ap, looks_nil, looks_cons, viss_nil, viss_cons, iCB_ap, iTup_ap, iLst_ap, isB_ap, isI_ap, iTst_ap, iTru_ap, iNotT_ap, iAndT_ap, iOrT_ap, iAnd_ap, iOr_ap, iNot_ap, iIf_ap, iSl_ap, iNoP_ap, iPart_ap, iIsi_ap, iIfS_ev, iRet_ev, ret_val', ret_new', ret_own', ro_own, iRetN_ev, iDrop_ev, iBrk_ev, iCont_ev, iBef_ev, iAft_ev, wfl_next, wfl_cont, wfl_brk, wfl_ret, wipe_nil, wipe_cons, wp_no, wp_val, wp_own, iNm_ev, iGT_tup, iGT_list, iGN_ev, iGC_ev, iAsgT_ev, iCall_ev, sls_nil, sls_val, sls_own, dup_nil, dup_val, dup_own, has_nil, has_val, has_own, now_val, now_new, back_ev, bg_nil, bg_cons, bs_no, bs_val, bs_own, bsf_some, bsf_none, b1_nil, b1_val, b1_own, iApp_ev, ap1_list, apF_list, iExU_ev, exF_list, exV_new, exV_tup, iPop_ev, po_snoc, iStL_ev, iFrz_ev, fz_own, fz_val, iRev_ev, gRev_list, gRev_tup, iSeqI_ev, iRevI_ev, iEnumU_ev, iR1_ev, turn_ev, at0, at1, at2, ix0, ix1, ix2, gAdd_int, gAdd_str, gAdd_tup, gSub_int, gMul_int, gMulR_int, gMulL_int, gDiv_int, gMod_int, gPow_int, gNeg_int, gLt_int, gLe_int, gGt_int, gGe_int, gEq_int, gNe_int, gEq_str, gNe_str, gEq_bool, gNe_bool, gIs_ap, gIsN_ap, isNone_none, isNone_int, isNone_tup, isNone_str, gIx_list, gIx_tup, gSl_tup, gSl_list, c1_ap, gLen_list, gLen_tup, gInt_int, gList_list, gList_tup, gTuple_list, gTuple_tup, truD_none, truD_bool, truD_int, truD_list, truD_tup, isi_int_int, isi_int_tup, isi_bool_bool, isi_tup_tup, isi_list_list, isi_bool_int, Option.bind_some, Option.map_some, List.getElem?_cons_zero, List.getElem?_cons_succ, List.set_cons_zero, List.set_cons_succ, List.length_cons, List.length_nil, if_true, reduceIte, decide_true, decide_false, Bool.true_and, Bool.and_true, Bool.not_true, Bool.not_false, Bool.false_eq_true, Bool.not_eq_true, decide_eq_true_eq, Nat.reduceAdd, Nat.reduceLeDiff, Nat.reduceEqDiff, Nat.reduceSub, Nat.reduceMul, Int.reduceLT, Int.reduceLE, Int.reduceEq, Int.reduceAdd, Int.reduceSub, Int.reduceMul, Int.reduceNeg, Int.reduceToNat, Int.reducePow, and_self, eq_self, and_true, true_and, Nat.reduceBEq, ncast, DL.sm, List.length_map, iDGet2_ev, iDGet_ev, iDIn_ev, keyD_int, keyD_str, iDNew_ev, dpF_own, dp1_own, iDPut_ev, ds1_own, dsF_own, iDSet_ev, lzF_tup, iLZip_ev, iDc_ev, iLc_ev, dA_val, dA_own, iPairs_ev, not_false_eq_true, Nat.reduceLT, iCopyD_ev, lcOF_own, iLcO_ev, alC_list, alC_dict, in_ints, notin_ints, gAdd_list, augF_int, iAug_ev, ne_eq, decide_not]
  have g := sumG_eq (j := 2) (f := iCall F_literal_weight (argC (iVar 0) (argC (iVar 2) argN))) (z := lw S) hit rfl fun l hl => by
    have s1 := size81 (h l hl).1
    have s2 := size81 (h l hl).2
    have q : F_literal_weight [.val (dictW S), .val (.tuple [.bool l.1, enc l.2.1, enc l.2.2])] = _ := lw_eq S (l := l) (by omega) (by omega)
    simp only [iSeq_ev, sq_next, sq_ret, sq_brk, sq_cont, iNext_ev, iAsg_ev, as_val, as_new_t, as_new_f, setV_ev, set_no, set_val, set_own, iVar_ev, va_val, va_own, look_ev, lo_own, look_val, look_new, vis_val, vis_new, pub_val, pub_new, pub_own, opd_ap, iCon_ap, iBin_ap, iUn_ap, argN_ap, argC_ap, looks_nil, looks_cons, viss_nil, viss_cons, iCB_ap, iTup_ap, iLst_ap, isB_ap, isI_ap, iTst_ap, iTru_ap, iNotT_ap, iAndT_ap, iOrT_ap, iAnd_ap, iOr_ap, iNot_ap, iIf_ap, iSl_ap, iNoP_ap, iPart_ap, iIsi_ap, iIfS_ev, iRet_ev, ret_val', ret_new', ret_own', ro_own, iRetN_ev, iDrop_ev, iBrk_ev, iCont_ev, iBef_ev, iAft_ev, wfl_next, wfl_cont, wfl_brk, wfl_ret, wipe_nil, wipe_cons, wp_no, wp_val, wp_own, iNm_ev, iGT_tup, iGT_list, iGN_ev, iGC_ev, iAsgT_ev, iCall_ev, sls_nil, sls_val, sls_own, dup_nil, dup_val, dup_own, has_nil, has_val, has_own, now_val, now_new, back_ev, bg_nil, bg_cons, bs_no, bs_val, bs_own, bsf_some, bsf_none, b1_nil, b1_val, b1_own, iApp_ev, ap1_list, apF_list, iExU_ev, exF_list, exV_new, exV_tup, iPop_ev, po_snoc, iStL_ev, iFrz_ev, fz_own, fz_val, iRev_ev, gRev_list, gRev_tup, iSeqI_ev, iRevI_ev, iEnumU_ev, iR1_ev, turn_ev, at0, at1, at2, ix0, ix1, ix2, gAdd_int, gAdd_str, gAdd_tup, gSub_int, gMul_int, gMulR_int, gMulL_int, gDiv_int, gMod_int, gPow_int, gNeg_int, gLt_int, gLe_int, gGt_int, gGe_int, gEq_int, gNe_int, gEq_str, gNe_str, gEq_bool, gNe_bool, gIs_ap, gIsN_ap, isNone_none, isNone_int, isNone_tup, isNone_str, gIx_list, gIx_tup, gSl_tup, gSl_list, c1_ap, gLen_list, gLen_tup, gInt_int, gList_list, gList_tup, gTuple_list, gTuple_tup, truD_none, truD_bool, truD_int, truD_list, truD_tup, isi_int_int, isi_int_tup, isi_bool_bool, isi_tup_tup, isi_list_list, isi_bool_int, Option.bind_some, Option.map_some, List.getElem?_cons_zero, List.getElem?_cons_succ, List.set_cons_zero, List.set_cons_succ, List.length_cons, List.length_nil, if_true, reduceIte, decide_true, decide_false, Bool.true_and, Bool.and_true, Bool.not_true, Bool.not_false, Bool.false_eq_true, Bool.not_eq_true, decide_eq_true_eq, Nat.reduceAdd, Nat.reduceLeDiff, Nat.reduceEqDiff, Nat.reduceSub, Nat.reduceMul, Int.reduceLT, Int.reduceLE, Int.reduceEq, Int.reduceAdd, Int.reduceSub, Int.reduceMul, Int.reduceNeg, Int.reduceToNat, Int.reducePow, and_self, eq_self, and_true, true_and, Nat.reduceBEq, ncast, DL.sm, List.length_map, iDGet2_ev, iDGet_ev, iDIn_ev, keyD_int, keyD_str, iDNew_ev, dpF_own, dp1_own, iDPut_ev, ds1_own, dsF_own, iDSet_ev, lzF_tup, iLZip_ev, iDc_ev, iLc_ev, dA_val, dA_own, iPairs_ev, not_false_eq_true, Nat.reduceLT, iCopyD_ev, lcOF_own, iLcO_ev, alC_list, alC_dict, in_ints, notin_ints, gAdd_list, augF_int, iAug_ev, ne_eq, decide_not, encL, q]
  have e := @rfl _ (m_clause_weight F_literal_weight [.val (dictW S), .val (.tuple (ls.map encL)), .no])
  conv at e => rhs; simp only [m_clause_weight, iSeq_ev, sq_next, sq_ret, sq_brk, sq_cont, iNext_ev, iAsg_ev, as_val, as_new_t, as_new_f, setV_ev, set_no, set_val, set_own, iVar_ev, va_val, va_own, look_ev, lo_own, look_val, look_new, vis_val, vis_new, pub_val, pub_new, pub_own, opd_ap, iCon_ap, iBin_ap, iUn_ap, argN_ap, argC_ap, looks_nil, looks_cons, viss_nil, viss_cons, iCB_ap, iTup_ap, iLst_ap, isB_ap, isI_ap, iTst_ap, iTru_ap, iNotT_ap, iAndT_ap, iOrT_ap, iAnd_ap, iOr_ap, iNot_ap, iIf_ap, iSl_ap, iNoP_ap, iPart_ap, iIsi_ap, iIfS_ev, iRet_ev, ret_val', ret_new', ret_own', ro_own, iRetN_ev, iDrop_ev, iBrk_ev, iCont_ev, iBef_ev, iAft_ev, wfl_next, wfl_cont, wfl_brk, wfl_ret, wipe_nil, wipe_cons, wp_no, wp_val, wp_own, iNm_ev, iGT_tup, iGT_list, iGN_ev, iGC_ev, iAsgT_ev, iCall_ev, sls_nil, sls_val, sls_own, dup_nil, dup_val, dup_own, has_nil, has_val, has_own, now_val, now_new, back_ev, bg_nil, bg_cons, bs_no, bs_val, bs_own, bsf_some, bsf_none, b1_nil, b1_val, b1_own, iApp_ev, ap1_list, apF_list, iExU_ev, exF_list, exV_new, exV_tup, iPop_ev, po_snoc, iStL_ev, iFrz_ev, fz_own, fz_val, iRev_ev, gRev_list, gRev_tup, iSeqI_ev, iRevI_ev, iEnumU_ev, iR1_ev, turn_ev, at0, at1, at2, ix0, ix1, ix2, gAdd_int, gAdd_str, gAdd_tup, gSub_int, gMul_int, gMulR_int, gMulL_int, gDiv_int, gMod_int, gPow_int, gNeg_int, gLt_int, gLe_int, gGt_int, gGe_int, gEq_int, gNe_int, gEq_str, gNe_str, gEq_bool, gNe_bool, gIs_ap, gIsN_ap, isNone_none, isNone_int, isNone_tup, isNone_str, gIx_list, gIx_tup, gSl_tup, gSl_list, c1_ap, gLen_list, gLen_tup, gInt_int, gList_list, gList_tup, gTuple_list, gTuple_tup, truD_none, truD_bool, truD_int, truD_list, truD_tup, isi_int_int, isi_int_tup, isi_bool_bool, isi_tup_tup, isi_list_list, isi_bool_int, Option.bind_some, Option.map_some, List.getElem?_cons_zero, List.getElem?_cons_succ, List.set_cons_zero, List.set_cons_succ, List.length_cons, List.length_nil, if_true, reduceIte, decide_true, decide_false, Bool.true_and, Bool.and_true, Bool.not_true, Bool.not_false, Bool.false_eq_true, Bool.not_eq_true, decide_eq_true_eq, Nat.reduceAdd, Nat.reduceLeDiff, Nat.reduceEqDiff, Nat.reduceSub, Nat.reduceMul, Int.reduceLT, Int.reduceLE, Int.reduceEq, Int.reduceAdd, Int.reduceSub, Int.reduceMul, Int.reduceNeg, Int.reduceToNat, Int.reducePow, and_self, eq_self, and_true, true_and, Nat.reduceBEq, ncast, DL.sm, List.length_map, iDGet2_ev, iDGet_ev, iDIn_ev, keyD_int, keyD_str, iDNew_ev, dpF_own, dp1_own, iDPut_ev, ds1_own, dsF_own, iDSet_ev, lzF_tup, iLZip_ev, iDc_ev, iLc_ev, dA_val, dA_own, iPairs_ev, not_false_eq_true, Nat.reduceLT, iCopyD_ev, lcOF_own, iLcO_ev, alC_list, alC_dict, in_ints, notin_ints, gAdd_list, augF_int, iAug_ev, ne_eq, decide_not, g]
  exact run_ret (n := 2) (N := 3) (sls := [.val (dictW S), .val (clD ls)]) e rfl
theorem law_rest {S : WT} {ns : List Int} {ls : List Lit} (hn : (ksW S).Nodup) (hl : S.length ≤ 1000) (h : ∀ l ∈ ls, LBd 2 4 l) : True := trivial
theorem law_holds : ∀ ns : List Int, ns.length ≤ 63 → ∃ o, F_law [.val (.list (ns.map D.int))] = some (.val (.bool true), o) := by
  intro ns hns
  obtain ⟨S0, n0, l0, hw⟩ := weights_ex (cell ns 0)
  obtain ⟨ls, hcl, okc, hlen⟩ := clause_ex (deep := 2) (by omega) (cell ns 3) 5 (by omega) (by omega)
  have hcl' : F__law_clause [.val (.int (cell ns 3)), .val (.int 5), .val (.int 2)] = _ := hcl
  have lsb : ∀ l ∈ ls, LBd 2 4 l := fun l hl => (okc l hl).bd
  have c0 := cell0 ns
  have c1 := cell1 ns
  have c2 := cell2 ns
  have c3 := cell3 ns
  have i1 := fun S => lint (ls.map (lw S)).sum
  have q0 : ∀ S, F_clause_weight [.val (dictW S), .val (.tuple [])] = some (.val (.int 0), [.val (dictW S), .val (.tuple [])]) := fun S => cw_eq (S := S) (ls := []) fun l hl => by cases hl
  have qc := fun S => cw_eq (S := S) lsb
  have fl := fun S s2 s3 => l_loop (S := S) (s0 := scr ns) (s2 := s2) (s3 := s3) ls 0 lsb
  simp only [Int.zero_add] at fl
  have fl' : ∀ S s2 s3, floop (iNm 5) (b2_law F__law_pairs F_clause_weight F__law_is_integer F_literal_weight F__law_is_variable F_symbol_weight F__law_weigh F_term_weight F__law_clause F__law_cell F__law_weights) (ls.map encL) _ = _ := fl
  have ps := pairs_self
  have hp : Int.natAbs 10 < 2 ^ 64 := by decide
  have e := @rfl _ (m_law F__law_pairs F_clause_weight F__law_is_integer F_literal_weight F__law_is_variable F_symbol_weight F__law_weigh F_term_weight F__law_clause F__law_cell F__law_weights [.val (scr ns), .no, .no, .no, .no, .no, .no, .no, .no])
  by_cases hk : cell ns 1 % 4 = 0
  · have g := put_ev (S := S0) (a := 2) (b := 0) (c := 0) (x := 1 + cell ns 2 % 1000000000000000) n0 (by omega) (by decide) (i := 1) (q := false) (e := [.val (scr ns), .own false (dictW S0), .no, .no, .no, .no, .no, .no, .no])
    have pp := pairs_eq (putS_nodup (q := (2, 0, 0)) (x := 1 + cell ns 2 % 1000000000000000) n0) (by have := putS_len (q := (2, 0, 0)) (x := 1 + cell ns 2 % 1000000000000000) (S := S0); omega)
    conv at e => rhs; simp only [m_law, iSeq_ev, sq_next, sq_ret, sq_brk, sq_cont, iNext_ev, iAsg_ev, as_val, as_new_t, as_new_f, setV_ev, set_no, set_val, set_own, iVar_ev, va_val, va_own, look_ev, lo_own, look_val, look_new, vis_val, vis_new, pub_val, pub_new, pub_own, opd_ap, iCon_ap, iBin_ap, iUn_ap, argN_ap, argC_ap, looks_nil, looks_cons, viss_nil, viss_cons, iCB_ap, iTup_ap, iLst_ap, isB_ap, isI_ap, iTst_ap, iTru_ap, iNotT_ap, iAndT_ap, iOrT_ap, iAnd_ap, iOr_ap, iNot_ap, iIf_ap, iSl_ap, iNoP_ap, iPart_ap, iIsi_ap, iIfS_ev, iRet_ev, ret_val', ret_new', ret_own', ro_own, iRetN_ev, iDrop_ev, iBrk_ev, iCont_ev, iBef_ev, iAft_ev, wfl_next, wfl_cont, wfl_brk, wfl_ret, wipe_nil, wipe_cons, wp_no, wp_val, wp_own, iNm_ev, iGT_tup, iGT_list, iGN_ev, iGC_ev, iAsgT_ev, iCall_ev, sls_nil, sls_val, sls_own, dup_nil, dup_val, dup_own, has_nil, has_val, has_own, now_val, now_new, back_ev, bg_nil, bg_cons, bs_no, bs_val, bs_own, bsf_some, bsf_none, b1_nil, b1_val, b1_own, iApp_ev, ap1_list, apF_list, iExU_ev, exF_list, exV_new, exV_tup, iPop_ev, po_snoc, iStL_ev, iFrz_ev, fz_own, fz_val, iRev_ev, gRev_list, gRev_tup, iSeqI_ev, iRevI_ev, iEnumU_ev, iR1_ev, turn_ev, at0, at1, at2, ix0, ix1, ix2, gAdd_int, gAdd_str, gAdd_tup, gSub_int, gMul_int, gMulR_int, gMulL_int, gDiv_int, gMod_int, gPow_int, gNeg_int, gLt_int, gLe_int, gGt_int, gGe_int, gEq_int, gNe_int, gEq_str, gNe_str, gEq_bool, gNe_bool, gIs_ap, gIsN_ap, isNone_none, isNone_int, isNone_tup, isNone_str, gIx_list, gIx_tup, gSl_tup, gSl_list, c1_ap, gLen_list, gLen_tup, gInt_int, gList_list, gList_tup, gTuple_list, gTuple_tup, truD_none, truD_bool, truD_int, truD_list, truD_tup, isi_int_int, isi_int_tup, isi_bool_bool, isi_tup_tup, isi_list_list, isi_bool_int, Option.bind_some, Option.map_some, List.getElem?_cons_zero, List.getElem?_cons_succ, List.set_cons_zero, List.set_cons_succ, List.length_cons, List.length_nil, if_true, reduceIte, decide_true, decide_false, Bool.true_and, Bool.and_true, Bool.not_true, Bool.not_false, Bool.false_eq_true, Bool.not_eq_true, decide_eq_true_eq, Nat.reduceAdd, Nat.reduceLeDiff, Nat.reduceEqDiff, Nat.reduceSub, Nat.reduceMul, Int.reduceLT, Int.reduceLE, Int.reduceEq, Int.reduceAdd, Int.reduceSub, Int.reduceMul, Int.reduceNeg, Int.reduceToNat, Int.reducePow, and_self, eq_self, and_true, true_and, Nat.reduceBEq, ncast, DL.sm, List.length_map, iDGet2_ev, iDGet_ev, iDIn_ev, keyD_int, keyD_str, iDNew_ev, dpF_own, dp1_own, iDPut_ev, ds1_own, dsF_own, iDSet_ev, lzF_tup, iLZip_ev, iDc_ev, iLc_ev, dA_val, dA_own, iPairs_ev, not_false_eq_true, Nat.reduceLT, iCopyD_ev, lcOF_own, iLcO_ev, alC_list, alC_dict, in_ints, notin_ints, gAdd_list, augF_int, iAug_ev, ne_eq, decide_not, iFor_ev, c0, c1, c2, c3, hw, hk, hp, iTPut_ev, tp1_own, keyTD_sym, g, pp, hcl', fl', qc, i1, q0, ps]
    exact ⟨_, run_ret (n := 1) (N := 9) (sls := [.val (scr ns)]) e rfl⟩
  · have pp := pairs_eq n0 (by omega)
    conv at e => rhs; simp only [m_law, iSeq_ev, sq_next, sq_ret, sq_brk, sq_cont, iNext_ev, iAsg_ev, as_val, as_new_t, as_new_f, setV_ev, set_no, set_val, set_own, iVar_ev, va_val, va_own, look_ev, lo_own, look_val, look_new, vis_val, vis_new, pub_val, pub_new, pub_own, opd_ap, iCon_ap, iBin_ap, iUn_ap, argN_ap, argC_ap, looks_nil, looks_cons, viss_nil, viss_cons, iCB_ap, iTup_ap, iLst_ap, isB_ap, isI_ap, iTst_ap, iTru_ap, iNotT_ap, iAndT_ap, iOrT_ap, iAnd_ap, iOr_ap, iNot_ap, iIf_ap, iSl_ap, iNoP_ap, iPart_ap, iIsi_ap, iIfS_ev, iRet_ev, ret_val', ret_new', ret_own', ro_own, iRetN_ev, iDrop_ev, iBrk_ev, iCont_ev, iBef_ev, iAft_ev, wfl_next, wfl_cont, wfl_brk, wfl_ret, wipe_nil, wipe_cons, wp_no, wp_val, wp_own, iNm_ev, iGT_tup, iGT_list, iGN_ev, iGC_ev, iAsgT_ev, iCall_ev, sls_nil, sls_val, sls_own, dup_nil, dup_val, dup_own, has_nil, has_val, has_own, now_val, now_new, back_ev, bg_nil, bg_cons, bs_no, bs_val, bs_own, bsf_some, bsf_none, b1_nil, b1_val, b1_own, iApp_ev, ap1_list, apF_list, iExU_ev, exF_list, exV_new, exV_tup, iPop_ev, po_snoc, iStL_ev, iFrz_ev, fz_own, fz_val, iRev_ev, gRev_list, gRev_tup, iSeqI_ev, iRevI_ev, iEnumU_ev, iR1_ev, turn_ev, at0, at1, at2, ix0, ix1, ix2, gAdd_int, gAdd_str, gAdd_tup, gSub_int, gMul_int, gMulR_int, gMulL_int, gDiv_int, gMod_int, gPow_int, gNeg_int, gLt_int, gLe_int, gGt_int, gGe_int, gEq_int, gNe_int, gEq_str, gNe_str, gEq_bool, gNe_bool, gIs_ap, gIsN_ap, isNone_none, isNone_int, isNone_tup, isNone_str, gIx_list, gIx_tup, gSl_tup, gSl_list, c1_ap, gLen_list, gLen_tup, gInt_int, gList_list, gList_tup, gTuple_list, gTuple_tup, truD_none, truD_bool, truD_int, truD_list, truD_tup, isi_int_int, isi_int_tup, isi_bool_bool, isi_tup_tup, isi_list_list, isi_bool_int, Option.bind_some, Option.map_some, List.getElem?_cons_zero, List.getElem?_cons_succ, List.set_cons_zero, List.set_cons_succ, List.length_cons, List.length_nil, if_true, reduceIte, decide_true, decide_false, Bool.true_and, Bool.and_true, Bool.not_true, Bool.not_false, Bool.false_eq_true, Bool.not_eq_true, decide_eq_true_eq, Nat.reduceAdd, Nat.reduceLeDiff, Nat.reduceEqDiff, Nat.reduceSub, Nat.reduceMul, Int.reduceLT, Int.reduceLE, Int.reduceEq, Int.reduceAdd, Int.reduceSub, Int.reduceMul, Int.reduceNeg, Int.reduceToNat, Int.reducePow, and_self, eq_self, and_true, true_and, Nat.reduceBEq, ncast, DL.sm, List.length_map, iDGet2_ev, iDGet_ev, iDIn_ev, keyD_int, keyD_str, iDNew_ev, dpF_own, dp1_own, iDPut_ev, ds1_own, dsF_own, iDSet_ev, lzF_tup, iLZip_ev, iDc_ev, iLc_ev, dA_val, dA_own, iPairs_ev, not_false_eq_true, Nat.reduceLT, iCopyD_ev, lcOF_own, iLcO_ev, alC_list, alC_dict, in_ints, notin_ints, gAdd_list, augF_int, iAug_ev, ne_eq, decide_not, iFor_ev, c0, c1, c2, c3, hw, hk, pp, hcl', fl', qc, i1, q0, ps]
    exact ⟨_, run_ret (n := 1) (N := 9) (sls := [.val (scr ns)]) e rfl⟩
section
variable {P : Program} {w : World} {K : PySem.W.Frag} {mg : Str → Option Value} {base : Heap}
theorem ok_is_variable {a : Addr} {fd : FuncData} {k : Nat} (F : Fun K "is_variable" "is_variable" (top 1) a fd) (Z_isinstance : mg "isinstance" = none) (Z_int : mg "int" = none) :
    FnOk P w K mg base CX0 (k + 1) a fd ["term"] (spF K 1 (f_is_variable )) := by
  have nd := sc_is_variable.nd
  exact def_ok F sc_is_variable fun cdv A outer s H E hr =>
    (bdOne (stRet (bIsi (n := "int") Z_isinstance (by rfl) (by rfl) Z_int boot_int (pdVar 0))))
theorem ok_subterms {a : Addr} {fd : FuncData} {k : Nat} (F : Fun K "subterms" "subterms" (top 2) a fd) {A_is_variable : Addr} {D_is_variable : FuncData} {g_is_variable : Fn} (G_is_variable : FnOk P w K mg base CX0 k A_is_variable D_is_variable ["term"] (spF K 1 g_is_variable)) (M_is_variable : mg "is_variable" = some (.ref A_is_variable)) (P_is_variable : PySem.W.keepIn K (.ref A_is_variable) = true) (B_is_variable : Binds K D_is_variable ["term"] []) :
    FnOk P w K mg base CX0 (k + 1) a fd ["term"] (spF K 1 (f_subterms g_is_variable)) := by
  have nd := sc_subterms.nd
  exact def_ok F sc_subterms fun cdv A outer s H E hr =>
    (bdCons (stAsg true 1 nd (pdLst adNil)) (bdCons (stAsg true 2 nd (pdLst (adCons (pdVar 0) adNil))) (bdCons (stAft [3] (stBef [3] (stWhile 1000000 (tdTru (pdVar 2)) (bdAft [3] (bdCons (stAsg false 3 nd (pdPop 2)) (bdCons (stApp 1 (pdVar 3)) (bdOne (stIf (tdNot (tdTru (pdCall G_is_variable hr (by rfl) M_is_variable P_is_variable B_is_variable (adCons (pdVar 3) adNil) (argLenS argLen0)))) (bdOne (stExU 2 (pdRev (pdIx (pdVar 3) pdInt)))) bdNil))))) PassesOwn.never))) (bdOne (stRet (pdVar 1))))))
theorem ok_symbol_weight {a : Addr} {fd : FuncData} {k : Nat} (F : Fun K "symbol_weight" "symbol_weight" (top 4) a fd)  :
    FnOk P w K mg base CX0 (k + 1) a fd ["weights", "symbol"] (spF K 2 (f_symbol_weight )) := by
  have nd := sc_symbol_weight.nd
  exact def_ok F sc_symbol_weight fun cdv A outer s H E hr =>
    (bdOne (stRet (pdTGet2 hr (pdVar 0) (pdVar 1) pdInt)))
theorem ok_term_weight {a : Addr} {fd : FuncData} {k : Nat} (F : Fun K "term_weight" "term_weight" (top 5) a fd) {A_subterms : Addr} {D_subterms : FuncData} {g_subterms : Fn} (G_subterms : FnOk P w K mg base CX0 k A_subterms D_subterms ["term"] (spF K 1 g_subterms)) (M_subterms : mg "subterms" = some (.ref A_subterms)) (P_subterms : PySem.W.keepIn K (.ref A_subterms) = true) (B_subterms : Binds K D_subterms ["term"] []) {A_is_variable : Addr} {D_is_variable : FuncData} {g_is_variable : Fn} (G_is_variable : FnOk P w K mg base CX0 k A_is_variable D_is_variable ["term"] (spF K 1 g_is_variable)) (M_is_variable : mg "is_variable" = some (.ref A_is_variable)) (P_is_variable : PySem.W.keepIn K (.ref A_is_variable) = true) (B_is_variable : Binds K D_is_variable ["term"] []) {A_symbol_weight : Addr} {D_symbol_weight : FuncData} {g_symbol_weight : Fn} (G_symbol_weight : FnOk P w K mg base CX0 k A_symbol_weight D_symbol_weight ["weights", "symbol"] (spF K 2 g_symbol_weight)) (M_symbol_weight : mg "symbol_weight" = some (.ref A_symbol_weight)) (P_symbol_weight : PySem.W.keepIn K (.ref A_symbol_weight) = true) (B_symbol_weight : Binds K D_symbol_weight ["weights", "symbol"] []) :
    FnOk P w K mg base CX0 (k + 1) a fd ["weights", "term"] (spF K 2 (f_term_weight g_subterms g_is_variable g_symbol_weight)) := by
  have nd := sc_term_weight.nd
  exact def_ok F sc_term_weight fun cdv A outer s H E hr =>
    (bdCons (stAsg false 2 nd pdInt) (bdCons (stAft [3] (stBef [3] (stFor rfl (iwSeq (pdCall G_subterms hr (by rfl) M_subterms P_subterms B_subterms (adCons (pdVar 1) adNil) (argLenS argLen0))).d (gdName 3 nd) (bdAft [3] (bdOne (stAdd 2 nd (pdIfE (tdTru (pdCall G_is_variable hr (by rfl) M_is_variable P_is_variable B_is_variable (adCons (pdVar 3) adNil) (argLenS argLen0))) pdInt (pdCall G_symbol_weight hr (by rfl) M_symbol_weight P_symbol_weight B_symbol_weight (adCons (pdVar 0) (adCons (pdIx (pdVar 3) pdInt) adNil)) (argLenS (argLenS argLen0))))))) PassesOwn.never))) (bdOne (stRet (pdVar 2)))))
theorem ok_literal_weight {a : Addr} {fd : FuncData} {k : Nat} (F : Fun K "literal_weight" "literal_weight" (top 6) a fd) {A_term_weight : Addr} {D_term_weight : FuncData} {g_term_weight : Fn} (G_term_weight : FnOk P w K mg base CX0 k A_term_weight D_term_weight ["weights", "term"] (spF K 2 g_term_weight)) (M_term_weight : mg "term_weight" = some (.ref A_term_weight)) (P_term_weight : PySem.W.keepIn K (.ref A_term_weight) = true) (B_term_weight : Binds K D_term_weight ["weights", "term"] []) :
    FnOk P w K mg base CX0 (k + 1) a fd ["weights", "literal"] (spF K 2 (f_literal_weight g_term_weight)) := by
  have nd := sc_literal_weight.nd
  exact def_ok F sc_literal_weight fun cdv A outer s H E hr =>
    (bdOne (stRet (pdAdd (pdCall G_term_weight hr (by rfl) M_term_weight P_term_weight B_term_weight (adCons (pdVar 0) (adCons (pdIx (pdVar 1) pdInt) adNil)) (argLenS (argLenS argLen0))) (pdCall G_term_weight hr (by rfl) M_term_weight P_term_weight B_term_weight (adCons (pdVar 0) (adCons (pdIx (pdVar 1) pdInt) adNil)) (argLenS (argLenS argLen0))))))
theorem ok_clause_weight {a c_ P_ : Addr} {fd : FuncData} {k : Nat} (F : Fun K "clause_weight" "clause_weight" (top 7) a fd) (hcd : fd.code = .ref c_) (TB : GxR.TabB base mg c_ P_) (IT : IsTab K P_) {A_literal_weight : Addr} {D_literal_weight : FuncData} {g_literal_weight : Fn} (G_literal_weight : FnOk P w K mg base CX0 k A_literal_weight D_literal_weight ["weights", "literal"] (spF K 2 g_literal_weight)) (M_literal_weight : mg "literal_weight" = some (.ref A_literal_weight)) (P_literal_weight : PySem.W.keepIn K (.ref A_literal_weight) = true) (B_literal_weight : Binds K D_literal_weight ["weights", "literal"] []) (Z_sum : mg "sum" = none) :
    FnOk P w K mg base CX0 (k + 2) a fd ["weights", "clause"] (spF K 2 (f_clause_weight g_literal_weight)) := by
  have nd := sc_clause_weight.nd
  exact def_okC F hcd sc_clause_weight fun A outer s H E hr1 =>
    have hr := hr1.mono (Nat.le_succ k)
    (bdOne (stRet (pdSumG (own := [("literal", 2)]) (by rfl) Z_sum (by rfl) (by rfl) hr1 TB (by rfl) IT nd (blkOk_by (own := [("literal", 2)]) (N := ["weights", "clause", "literal"]) (sc := defScope (top 7)) (by decide +kernel)) (by rfl) (by decide +kernel) (by rfl) (iwSeq (pdVar 1)) (fun _ _ _ _ _ _ hr => gvName nd (by decide) (i := 2)) (fun _ _ _ _ _ _ hr => (pdCall G_literal_weight hr (by rfl) M_literal_weight P_literal_weight B_literal_weight (adCons (pdVar 0) (adCons (pdVar 2) adNil)) (argLenS (argLenS argLen0)))))))
theorem ok__law_cell {a : Addr} {fd : FuncData} {k : Nat} (F : Fun K "_law_cell" "_law_cell" (top 9) a fd) (Z_int : mg "int" = none) (Z_len : mg "len" = none) :
    FnOk P w K mg base CX0 (k + 1) a fd ["script", "k"] (spF K 2 (f__law_cell )) := by
  have nd := sc__law_cell.nd
  exact def_ok F sc__law_cell fun cdv A outer s H E hr =>
    (bdCons (stAsg false 2 nd (pdAdd (pdMulL pdInt (pdVar 1)) pdInt)) (bdCons (stIf (tdC (oLt hr) (nomark _) (pdVar 1) (bLen Z_len (by rfl) (adCons (pdVar 0) adNil))) (bdOne (stAsg false 2 nd (pdIx (pdVar 0) (pdVar 1)))) bdNil) (bdCons (stIf (tdC (oLt hr) (nomark _) (pdVar 2) pdInt) (bdOne (stAsg false 2 nd (pdSub pdInt (pdMulL pdInt (pdVar 2))))) bdNil) (bdCons (stAft [3, 4, 5] (stIf (tdC (oLt hr) (nomark _) (pdVar 2) pdInt) (bdCons (stAsg false 3 nd (pdMod (bInt Z_int (by rfl) (adCons (pdAdd (pdAdd (pdMulR (pdVar 2) pdInt) (pdMulR (pdVar 1) pdInt)) pdInt) adNil)) pdInt)) (bdCons (stAsg false 4 nd (pdMod (bInt Z_int (by rfl) (adCons (pdAdd (pdAdd (pdMulR (pdVar 3) pdInt) (pdMulR (pdVar 1) pdInt)) pdInt) adNil)) pdInt)) (bdCons (stAsg false 5 nd (pdMod (bInt Z_int (by rfl) (adCons (pdAdd (pdAdd (pdMulR (pdVar 4) pdInt) (pdVar 3)) pdInt) adNil)) pdInt)) (bdOne (stAsg false 2 nd (pdAdd (pdMulR (pdAdd (pdMulR (pdVar 5) pdInt) (pdVar 4)) pdInt) (pdVar 3))))))) bdNil)) (bdOne (stRet (pdVar 2)))))))
theorem ok__law_is_integer {a : Addr} {fd : FuncData} {k : Nat} (F : Fun K "_law_is_integer" "_law_is_integer" (top 10) a fd) (Z_isinstance : mg "isinstance" = none) (Z_int : mg "int" = none) (Z_bool : mg "bool" = none) :
    FnOk P w K mg base CX0 (k + 1) a fd ["actual"] (spF K 1 (f__law_is_integer )) := by
  have nd := sc__law_is_integer.nd
  exact def_ok F sc__law_is_integer fun cdv A outer s H E hr =>
    (bdOne (stRet (pdAnd (bIsi (n := "int") Z_isinstance (by rfl) (by rfl) Z_int boot_int (pdVar 0)) (pdOne (pdNot (bIsi (n := "bool") Z_isinstance (by rfl) (by rfl) Z_bool boot_bool (pdVar 0)))))))
theorem ok__law_symbol {a : Addr} {fd : FuncData} {k : Nat} (F : Fun K "_law_symbol" "_law_symbol" (top 11) a fd) (Z_int : mg "int" = none) :
    FnOk P w K mg base CX0 (k + 1) a fd ["n"] (spF K 1 (f__law_symbol )) := by
  have nd := sc__law_symbol.nd
  exact def_ok F sc__law_symbol fun cdv A outer s H E hr =>
    (bdCons (stAsg false 1 nd (pdLst (adCons (pdTup (adCons pdInt (adCons pdInt (adCons pdInt adNil)))) (adCons (pdTup (adCons pdInt (adCons pdInt (adCons pdInt adNil)))) (adCons (pdTup (adCons pdInt (adCons pdInt (adCons pdInt adNil)))) (adCons (pdTup (adCons pdInt (adCons pdInt (adCons pdInt adNil)))) (adCons (pdTup (adCons pdInt (adCons pdInt (adCons pdInt adNil)))) adNil))))))) (bdOne (stRet (pdIx (pdVar 1) (pdMod (bInt Z_int (by rfl) (adCons (pdVar 0) adNil)) pdInt)))))
theorem ok__law_term {a : Addr} {fd : FuncData} {k : Nat} (F : Fun K "_law_term" "_law_term" (top 12) a fd) {A__law_term : Addr} {D__law_term : FuncData} {g__law_term : Fn} (G__law_term : FnOk P w K mg base CX0 k A__law_term D__law_term ["row", "deep"] (spF K 2 g__law_term)) (M__law_term : mg "_law_term" = some (.ref A__law_term)) (P__law_term : PySem.W.keepIn K (.ref A__law_term) = true) (B__law_term : Binds K D__law_term ["row", "deep"] []) {A__law_symbol : Addr} {D__law_symbol : FuncData} {g__law_symbol : Fn} (G__law_symbol : FnOk P w K mg base CX0 k A__law_symbol D__law_symbol ["n"] (spF K 1 g__law_symbol)) (M__law_symbol : mg "_law_symbol" = some (.ref A__law_symbol)) (P__law_symbol : PySem.W.keepIn K (.ref A__law_symbol) = true) (B__law_symbol : Binds K D__law_symbol ["n"] []) (Z_tuple : mg "tuple" = none) (Z_range : mg "range" = none) (Z_int : mg "int" = none) :
    FnOk P w K mg base CX0 (k + 1) a fd ["row", "deep"] (spF K 2 (f__law_term g__law_term g__law_symbol)) := by
  have nd := sc__law_term.nd
  exact def_ok F sc__law_term fun cdv A outer s H E hr =>
    (bdCons (stAsg false 2 nd (pdMod (bInt Z_int (by rfl) (adCons (pdVar 0) adNil)) pdInt)) (bdCons (stAsg false 0 nd (pdDiv (pdVar 0) pdInt)) (bdCons (stIf (tdC (oLt hr) (nomark _) (pdVar 2) pdInt) (bdOne (stRet (pdTup (adCons (pdMod (bInt Z_int (by rfl) (adCons (pdVar 0) adNil)) pdInt) (adCons (pdDiv (pdVar 0) pdInt) adNil))))) bdNil) (bdCons (stAsg false 3 nd (pdMod (bInt Z_int (by rfl) (adCons (pdVar 0) adNil)) pdInt)) (bdCons (stAsg false 0 nd (pdDiv (pdVar 0) pdInt)) (bdCons (stIf (tdC (oEq hr) (nomark _) (pdVar 1) pdInt) (bdOne (stAsg false 3 nd pdInt)) bdNil) (bdCons (stAsg false 4 nd (pdCall G__law_symbol hr (by rfl) M__law_symbol P__law_symbol B__law_symbol (adCons (pdMod (bInt Z_int (by rfl) (adCons (pdVar 0) adNil)) pdInt) adNil) (argLenS argLen0))) (bdCons (stAsg false 0 nd (pdDiv (pdVar 0) pdInt)) (bdCons (stAsg true 5 nd (pdLst adNil)) (bdCons (stAft [6, 7] (stBef [6, 7] (stFor rfl (idR1 (by rfl) Z_range (adCons (pdVar 3) adNil)) (gdName 6 nd) (bdAft [6, 7] (bdCons (stAsg false 7 nd (pdCall G__law_term hr (by rfl) M__law_term P__law_term B__law_term (adCons (pdVar 0) (adCons (pdSub (pdVar 1) pdInt) adNil)) (argLenS (argLenS argLen0)))) (bdCons (stApp 5 (pdIx (pdVar 7) pdInt)) (bdOne (stAsg false 0 nd (pdIx (pdVar 7) pdInt)))))) PassesOwn.never))) (bdOne (stRet (pdTup (adCons (pdTup (adCons (pdVar 4) (adCons (bTuple Z_tuple (by rfl) (adCons (pdVar 5) adNil)) adNil))) (adCons (pdVar 0) adNil)))))))))))))))
theorem ok__law_atom {a : Addr} {fd : FuncData} {k : Nat} (F : Fun K "_law_atom" "_law_atom" (top 13) a fd) {A__law_term : Addr} {D__law_term : FuncData} {g__law_term : Fn} (G__law_term : FnOk P w K mg base CX0 k A__law_term D__law_term ["row", "deep"] (spF K 2 g__law_term)) (M__law_term : mg "_law_term" = some (.ref A__law_term)) (P__law_term : PySem.W.keepIn K (.ref A__law_term) = true) (B__law_term : Binds K D__law_term ["row", "deep"] []) (Z_tuple : mg "tuple" = none) (Z_range : mg "range" = none) (Z_int : mg "int" = none) :
    FnOk P w K mg base CX0 (k + 1) a fd ["row", "deep"] (spF K 2 (f__law_atom g__law_term)) := by
  have nd := sc__law_atom.nd
  exact def_ok F sc__law_atom fun cdv A outer s H E hr =>
    (bdCons (stAsg false 2 nd (pdLst (adCons (pdTup (adCons pdInt (adCons pdInt (adCons pdInt adNil)))) (adCons (pdTup (adCons pdInt (adCons pdInt (adCons pdInt adNil)))) (adCons (pdTup (adCons pdInt (adCons pdInt (adCons pdInt adNil)))) (adCons (pdTup (adCons pdInt (adCons pdInt (adCons pdInt adNil)))) (adCons (pdTup (adCons pdInt (adCons pdInt (adCons pdInt adNil)))) (adCons (pdTup (adCons pdInt (adCons pdInt (adCons pdInt adNil)))) adNil)))))))) (bdCons (stAsg false 3 nd (pdIx (pdVar 2) (pdMod (bInt Z_int (by rfl) (adCons (pdVar 0) adNil)) pdInt))) (bdCons (stAsg false 0 nd (pdDiv (pdVar 0) pdInt)) (bdCons (stAsg false 4 nd (pdMod (bInt Z_int (by rfl) (adCons (pdVar 0) adNil)) pdInt)) (bdCons (stAsg false 0 nd (pdDiv (pdVar 0) pdInt)) (bdCons (stAsg true 5 nd (pdLst adNil)) (bdCons (stAft [6, 7] (stBef [6, 7] (stFor rfl (idR1 (by rfl) Z_range (adCons (pdVar 4) adNil)) (gdName 6 nd) (bdAft [6, 7] (bdCons (stAsg false 7 nd (pdCall G__law_term hr (by rfl) M__law_term P__law_term B__law_term (adCons (pdVar 0) (adCons (pdVar 1) adNil)) (argLenS (argLenS argLen0)))) (bdCons (stApp 5 (pdIx (pdVar 7) pdInt)) (bdOne (stAsg false 0 nd (pdIx (pdVar 7) pdInt)))))) PassesOwn.never))) (bdOne (stRet (pdTup (adCons (pdTup (adCons (pdVar 3) (adCons (bTuple Z_tuple (by rfl) (adCons (pdVar 5) adNil)) adNil))) (adCons (pdVar 0) adNil))))))))))))
theorem ok__law_literal {a : Addr} {fd : FuncData} {k : Nat} (F : Fun K "_law_literal" "_law_literal" (top 14) a fd) {A__law_term : Addr} {D__law_term : FuncData} {g__law_term : Fn} (G__law_term : FnOk P w K mg base CX0 k A__law_term D__law_term ["row", "deep"] (spF K 2 g__law_term)) (M__law_term : mg "_law_term" = some (.ref A__law_term)) (P__law_term : PySem.W.keepIn K (.ref A__law_term) = true) (B__law_term : Binds K D__law_term ["row", "deep"] []) {A__law_atom : Addr} {D__law_atom : FuncData} {g__law_atom : Fn} (G__law_atom : FnOk P w K mg base CX0 k A__law_atom D__law_atom ["row", "deep"] (spF K 2 g__law_atom)) (M__law_atom : mg "_law_atom" = some (.ref A__law_atom)) (P__law_atom : PySem.W.keepIn K (.ref A__law_atom) = true) (B__law_atom : Binds K D__law_atom ["row", "deep"] []) (Z_int : mg "int" = none) :
    FnOk P w K mg base CX0 (k + 1) a fd ["row", "deep"] (spF K 2 (f__law_literal g__law_term g__law_atom)) := by
  have nd := sc__law_literal.nd
  exact def_ok F sc__law_literal fun cdv A outer s H E hr =>
    (bdCons (stAsg false 2 nd (pdC (oEq hr) (nomark _) (pdMod (bInt Z_int (by rfl) (adCons (pdVar 0) adNil)) pdInt) pdInt)) (bdCons (stAsg false 3 nd (pdMod (pdDiv (pdVar 0) pdInt) pdInt)) (bdCons (stAsg false 0 nd (pdDiv (pdVar 0) pdInt)) (bdCons (stAft [6] (stIf (tdC (oEq hr) (nomark _) (pdVar 3) pdInt) (bdCons (stAsg false 6 nd (pdCall G__law_atom hr (by rfl) M__law_atom P__law_atom B__law_atom (adCons (pdVar 0) (adCons (pdVar 1) adNil)) (argLenS (argLenS argLen0)))) (bdOne (stRet (pdTup (adCons (pdTup (adCons (pdVar 2) (adCons (pdIx (pdVar 6) pdInt) (adCons (pdTup (adCons (pdTup (adCons pdInt (adCons pdInt (adCons pdInt adNil)))) (adCons (pdTup adNil) adNil))) adNil)))) (adCons (pdIx (pdVar 6) pdInt) adNil)))))) bdNil)) (bdCons (stAsg false 4 nd (pdCall G__law_term hr (by rfl) M__law_term P__law_term B__law_term (adCons (pdVar 0) (adCons (pdVar 1) adNil)) (argLenS (argLenS argLen0)))) (bdCons (stAsg false 5 nd (pdCall G__law_term hr (by rfl) M__law_term P__law_term B__law_term (adCons (pdIx (pdVar 4) pdInt) (adCons (pdVar 1) adNil)) (argLenS (argLenS argLen0)))) (bdOne (stRet (pdTup (adCons (pdTup (adCons (pdVar 2) (adCons (pdIx (pdVar 4) pdInt) (adCons (pdIx (pdVar 5) pdInt) adNil)))) (adCons (pdIx (pdVar 5) pdInt) adNil)))))))))))
theorem ok__law_clause {a : Addr} {fd : FuncData} {k : Nat} (F : Fun K "_law_clause" "_law_clause" (top 15) a fd) {A__law_literal : Addr} {D__law_literal : FuncData} {g__law_literal : Fn} (G__law_literal : FnOk P w K mg base CX0 k A__law_literal D__law_literal ["row", "deep"] (spF K 2 g__law_literal)) (M__law_literal : mg "_law_literal" = some (.ref A__law_literal)) (P__law_literal : PySem.W.keepIn K (.ref A__law_literal) = true) (B__law_literal : Binds K D__law_literal ["row", "deep"] []) (Z_tuple : mg "tuple" = none) (Z_range : mg "range" = none) (Z_int : mg "int" = none) (Z_len : mg "len" = none) :
    FnOk P w K mg base CX0 (k + 1) a fd ["row", "most", "deep"] (spF K 3 (f__law_clause g__law_literal)) := by
  have nd := sc__law_clause.nd
  exact def_ok F sc__law_clause fun cdv A outer s H E hr =>
    (bdCons (stAsg false 3 nd (pdMod (bInt Z_int (by rfl) (adCons (pdVar 0) adNil)) (pdAdd (pdVar 1) pdInt))) (bdCons (stAsg false 0 nd (pdDiv (pdVar 0) (pdAdd (pdVar 1) pdInt))) (bdCons (stAsg true 4 nd (pdLst adNil)) (bdCons (stAft [0, 5, 6] (stBef [5, 6] (stFor rfl (idR1 (by rfl) Z_range (adCons (pdVar 3) adNil)) (gdName 5 nd) (bdAft [5, 6] (bdCons (stAsg false 6 nd (pdCall G__law_literal hr (by rfl) M__law_literal P__law_literal B__law_literal (adCons (pdVar 0) (adCons (pdVar 2) adNil)) (argLenS (argLenS argLen0)))) (bdCons (stApp 4 (pdIx (pdVar 6) pdInt)) (bdCons (stAsg false 0 nd (pdIx (pdVar 6) pdInt)) (bdOne (stIf (tdC (oEq hr) (nomark _) (pdMod (pdDiv (pdVar 0) pdInt) pdInt) pdInt) (bdOne (stApp 4 (pdIx (pdVar 4) (pdMod (bInt Z_int (by rfl) (adCons (pdVar 0) adNil)) (bLen Z_len (by rfl) (adCons (pdVar 4) adNil)))))) bdNil)))))) PassesOwn.never))) (bdOne (stRet (bTuple Z_tuple (by rfl) (adCons (pdVar 4) adNil))))))))
theorem ok__law_weights {a : Addr} {fd : FuncData} {k : Nat} (F : Fun K "_law_weights" "_law_weights" (top 16) a fd) (Z_int : mg "int" = none) (hKs : NoSym K) :
    FnOk P w K mg base CX0 (k + 1) a fd ["row"] (spF K 1 (f__law_weights )) := by
  have nd := sc__law_weights.nd
  exact def_ok F sc__law_weights fun cdv A outer s H E hr =>
    (bdCons (stAsg false 1 nd (pdLst (adCons (pdTup (adCons pdInt (adCons pdInt (adCons pdInt adNil)))) (adCons (pdTup (adCons pdInt (adCons pdInt (adCons pdInt adNil)))) (adCons (pdTup (adCons pdInt (adCons pdInt (adCons pdInt adNil)))) (adCons (pdTup (adCons pdInt (adCons pdInt (adCons pdInt adNil)))) (adCons (pdTup (adCons pdInt (adCons pdInt (adCons pdInt adNil)))) (adCons (pdTup (adCons pdInt (adCons pdInt (adCons pdInt adNil)))) adNil)))))))) (bdCons (stAsg true 2 nd pdTNew) (bdCons (stAft [0, 3] (stBef [3] (stFor rfl (iwSeq (pdVar 1)).d (gdName 3 nd) (bdAft [3] (bdCons (stIf (tdC (oEq hr) (nomark _) (pdMod (bInt Z_int (by rfl) (adCons (pdVar 0) adNil)) pdInt) pdInt) (bdOne (stTPut 2 hKs hr (pdAdd pdInt (pdMod (pdDiv (pdVar 0) pdInt) pdInt)) (pdVar 3))) bdNil) (bdCons (stIf (tdC (oEq hr) (nomark _) (pdMod (bInt Z_int (by rfl) (adCons (pdVar 0) adNil)) pdInt) pdInt) (bdOne (stTPut 2 hKs hr (pdAdd pdInt (pdMod (pdDiv (pdVar 0) pdInt) pdInt)) (pdVar 3))) bdNil) (bdOne (stAsg false 0 nd (pdDiv (pdVar 0) pdInt)))))) PassesOwn.never))) (bdOne (stRet (pdVar 2))))))
theorem ok__law_is_variable {a : Addr} {fd : FuncData} {k : Nat} (F : Fun K "_law_is_variable" "_law_is_variable" (top 17) a fd) (Z_isinstance : mg "isinstance" = none) (Z_int : mg "int" = none) :
    FnOk P w K mg base CX0 (k + 1) a fd ["term"] (spF K 1 (f__law_is_variable )) := by
  have nd := sc__law_is_variable.nd
  exact def_ok F sc__law_is_variable fun cdv A outer s H E hr =>
    (bdOne (stRet (bIsi (n := "int") Z_isinstance (by rfl) (by rfl) Z_int boot_int (pdVar 0))))
theorem ok__law_weigh {a : Addr} {fd : FuncData} {k : Nat} (F : Fun K "_law_weigh" "_law_weigh" (top 18) a fd) {A__law_weigh : Addr} {D__law_weigh : FuncData} {g__law_weigh : Fn} (G__law_weigh : FnOk P w K mg base CX0 k A__law_weigh D__law_weigh ["weights", "term"] (spF K 2 g__law_weigh)) (M__law_weigh : mg "_law_weigh" = some (.ref A__law_weigh)) (P__law_weigh : PySem.W.keepIn K (.ref A__law_weigh) = true) (B__law_weigh : Binds K D__law_weigh ["weights", "term"] []) {A__law_is_variable : Addr} {D__law_is_variable : FuncData} {g__law_is_variable : Fn} (G__law_is_variable : FnOk P w K mg base CX0 k A__law_is_variable D__law_is_variable ["term"] (spF K 1 g__law_is_variable)) (M__law_is_variable : mg "_law_is_variable" = some (.ref A__law_is_variable)) (P__law_is_variable : PySem.W.keepIn K (.ref A__law_is_variable) = true) (B__law_is_variable : Binds K D__law_is_variable ["term"] []) :
    FnOk P w K mg base CX0 (k + 1) a fd ["weights", "term"] (spF K 2 (f__law_weigh g__law_weigh g__law_is_variable)) := by
  have nd := sc__law_weigh.nd
  exact def_ok F sc__law_weigh fun cdv A outer s H E hr =>
    (bdCons (stIf (tdTru (pdCall G__law_is_variable hr (by rfl) M__law_is_variable P__law_is_variable B__law_is_variable (adCons (pdVar 1) adNil) (argLenS argLen0))) (bdOne (stRet pdInt)) bdNil) (bdCons (stAsg false 2 nd (pdTGet2 hr (pdVar 0) (pdIx (pdVar 1) pdInt) pdInt)) (bdCons (stAft [3] (stBef [3] (stFor rfl (iwSeq (pdIx (pdVar 1) pdInt)).d (gdName 3 nd) (bdAft [3] (bdOne (stAsg false 2 nd (pdAdd (pdVar 2) (pdCall G__law_weigh hr (by rfl) M__law_weigh P__law_weigh B__law_weigh (adCons (pdVar 0) (adCons (pdVar 3) adNil)) (argLenS (argLenS argLen0))))))) PassesOwn.never))) (bdOne (stRet (pdVar 2))))))
theorem ok__law_pairs {a : Addr} {fd : FuncData} {k : Nat} (F : Fun K "_law_pairs" "_law_pairs" (top 19) a fd)  :
    FnOk P w K mg base CX0 (k + 1) a fd ["told"] (spF K 1 (f__law_pairs )) := by
  have nd := sc__law_pairs.nd
  exact def_ok F sc__law_pairs fun cdv A outer s H E hr =>
    (bdOne (stRet (pdPairsT 0 1 hr rfl nd (blkOk_by (own := [("key", 1)]) (N := ["told", "key"]) (sc := defScope (top 19)) (by decide +kernel)) (pe_var rfl (by first | exact Or.inl rfl | exact Or.inr (Or.inl rfl) | exact Or.inr (Or.inr rfl))) (fun _ _ _ _ _ => pg_name (i := 1) nd rfl (by first | exact Or.inl rfl | exact Or.inr rfl)) (fun _ _ _ _ _ => pe_var rfl (by first | exact Or.inl rfl | exact Or.inr (Or.inl rfl) | exact Or.inr (Or.inr rfl))) (fun _ _ _ _ _ => pe_var rfl (by first | exact Or.inl rfl | exact Or.inr (Or.inl rfl) | exact Or.inr (Or.inr rfl))) (fun _ _ _ _ _ => pe_var rfl (by first | exact Or.inl rfl | exact Or.inr (Or.inl rfl) | exact Or.inr (Or.inr rfl))))))
theorem ok_law {a : Addr} {fd : FuncData} {k : Nat} (F : Fun K "law" "law" (top 20) a fd) {A__law_pairs : Addr} {D__law_pairs : FuncData} {g__law_pairs : Fn} (G__law_pairs : FnOk P w K mg base CX0 k A__law_pairs D__law_pairs ["told"] (spF K 1 g__law_pairs)) (M__law_pairs : mg "_law_pairs" = some (.ref A__law_pairs)) (P__law_pairs : PySem.W.keepIn K (.ref A__law_pairs) = true) (B__law_pairs : Binds K D__law_pairs ["told"] []) {A_clause_weight : Addr} {D_clause_weight : FuncData} {g_clause_weight : Fn} (G_clause_weight : FnOk P w K mg base CX0 k A_clause_weight D_clause_weight ["weights", "clause"] (spF K 2 g_clause_weight)) (M_clause_weight : mg "clause_weight" = some (.ref A_clause_weight)) (P_clause_weight : PySem.W.keepIn K (.ref A_clause_weight) = true) (B_clause_weight : Binds K D_clause_weight ["weights", "clause"] []) {A__law_is_integer : Addr} {D__law_is_integer : FuncData} {g__law_is_integer : Fn} (G__law_is_integer : FnOk P w K mg base CX0 k A__law_is_integer D__law_is_integer ["actual"] (spF K 1 g__law_is_integer)) (M__law_is_integer : mg "_law_is_integer" = some (.ref A__law_is_integer)) (P__law_is_integer : PySem.W.keepIn K (.ref A__law_is_integer) = true) (B__law_is_integer : Binds K D__law_is_integer ["actual"] []) {A_literal_weight : Addr} {D_literal_weight : FuncData} {g_literal_weight : Fn} (G_literal_weight : FnOk P w K mg base CX0 k A_literal_weight D_literal_weight ["weights", "literal"] (spF K 2 g_literal_weight)) (M_literal_weight : mg "literal_weight" = some (.ref A_literal_weight)) (P_literal_weight : PySem.W.keepIn K (.ref A_literal_weight) = true) (B_literal_weight : Binds K D_literal_weight ["weights", "literal"] []) {A__law_is_variable : Addr} {D__law_is_variable : FuncData} {g__law_is_variable : Fn} (G__law_is_variable : FnOk P w K mg base CX0 k A__law_is_variable D__law_is_variable ["term"] (spF K 1 g__law_is_variable)) (M__law_is_variable : mg "_law_is_variable" = some (.ref A__law_is_variable)) (P__law_is_variable : PySem.W.keepIn K (.ref A__law_is_variable) = true) (B__law_is_variable : Binds K D__law_is_variable ["term"] []) {A_symbol_weight : Addr} {D_symbol_weight : FuncData} {g_symbol_weight : Fn} (G_symbol_weight : FnOk P w K mg base CX0 k A_symbol_weight D_symbol_weight ["weights", "symbol"] (spF K 2 g_symbol_weight)) (M_symbol_weight : mg "symbol_weight" = some (.ref A_symbol_weight)) (P_symbol_weight : PySem.W.keepIn K (.ref A_symbol_weight) = true) (B_symbol_weight : Binds K D_symbol_weight ["weights", "symbol"] []) {A__law_weigh : Addr} {D__law_weigh : FuncData} {g__law_weigh : Fn} (G__law_weigh : FnOk P w K mg base CX0 k A__law_weigh D__law_weigh ["weights", "term"] (spF K 2 g__law_weigh)) (M__law_weigh : mg "_law_weigh" = some (.ref A__law_weigh)) (P__law_weigh : PySem.W.keepIn K (.ref A__law_weigh) = true) (B__law_weigh : Binds K D__law_weigh ["weights", "term"] []) {A_term_weight : Addr} {D_term_weight : FuncData} {g_term_weight : Fn} (G_term_weight : FnOk P w K mg base CX0 k A_term_weight D_term_weight ["weights", "term"] (spF K 2 g_term_weight)) (M_term_weight : mg "term_weight" = some (.ref A_term_weight)) (P_term_weight : PySem.W.keepIn K (.ref A_term_weight) = true) (B_term_weight : Binds K D_term_weight ["weights", "term"] []) {A__law_clause : Addr} {D__law_clause : FuncData} {g__law_clause : Fn} (G__law_clause : FnOk P w K mg base CX0 k A__law_clause D__law_clause ["row", "most", "deep"] (spF K 3 g__law_clause)) (M__law_clause : mg "_law_clause" = some (.ref A__law_clause)) (P__law_clause : PySem.W.keepIn K (.ref A__law_clause) = true) (B__law_clause : Binds K D__law_clause ["row", "most", "deep"] []) {A__law_cell : Addr} {D__law_cell : FuncData} {g__law_cell : Fn} (G__law_cell : FnOk P w K mg base CX0 k A__law_cell D__law_cell ["script", "k"] (spF K 2 g__law_cell)) (M__law_cell : mg "_law_cell" = some (.ref A__law_cell)) (P__law_cell : PySem.W.keepIn K (.ref A__law_cell) = true) (B__law_cell : Binds K D__law_cell ["script", "k"] []) {A__law_weights : Addr} {D__law_weights : FuncData} {g__law_weights : Fn} (G__law_weights : FnOk P w K mg base CX0 k A__law_weights D__law_weights ["row"] (spF K 1 g__law_weights)) (M__law_weights : mg "_law_weights" = some (.ref A__law_weights)) (P__law_weights : PySem.W.keepIn K (.ref A__law_weights) = true) (B__law_weights : Binds K D__law_weights ["row"] []) (hKs : NoSym K) :
    FnOk P w K mg base CX0 (k + 1) a fd ["script"] (spF K 1 (f_law g__law_pairs g_clause_weight g__law_is_integer g_literal_weight g__law_is_variable g_symbol_weight g__law_weigh g_term_weight g__law_clause g__law_cell g__law_weights)) := by
  have nd := sc_law.nd
  exact def_ok F sc_law fun cdv A outer s H E hr =>
    (bdCons (stAsg true 1 nd (pdCall G__law_weights hr (by rfl) M__law_weights P__law_weights B__law_weights (adCons (pdCall G__law_cell hr (by rfl) M__law_cell P__law_cell B__law_cell (adCons (pdVar 0) (adCons pdInt adNil)) (argLenS (argLenS argLen0))) adNil) (argLenS argLen0))) (bdCons (stIf (tdC (oEq hr) (nomark _) (pdMod (pdCall G__law_cell hr (by rfl) M__law_cell P__law_cell B__law_cell (adCons (pdVar 0) (adCons pdInt adNil)) (argLenS (argLenS argLen0))) pdInt) pdInt) (bdOne (stTPut 1 hKs hr (pdAdd pdInt (pdMod (pdCall G__law_cell hr (by rfl) M__law_cell P__law_cell B__law_cell (adCons (pdVar 0) (adCons pdInt adNil)) (argLenS (argLenS argLen0))) (pdPow pdInt pdInt))) (pdTup (adCons pdInt (adCons pdInt (adCons pdInt adNil)))))) bdNil) (bdFrz 1 (bdCons (stAsg false 2 nd (pdCall G__law_pairs hr (by rfl) M__law_pairs P__law_pairs B__law_pairs (adCons (pdVar 1) adNil) (argLenS argLen0))) (bdCons (stAsg false 3 nd (pdCall G__law_clause hr (by rfl) M__law_clause P__law_clause B__law_clause (adCons (pdCall G__law_cell hr (by rfl) M__law_cell P__law_cell B__law_cell (adCons (pdVar 0) (adCons pdInt adNil)) (argLenS (argLenS argLen0))) (adCons pdInt (adCons pdInt adNil))) (argLenS (argLenS (argLenS argLen0))))) (bdCons (stAsg false 4 nd pdInt) (bdCons (stAft [5, 6, 7, 8] (stBef [5, 6, 7, 8] (stFor rfl (iwSeq (pdVar 3)).d (gdName 5 nd) (bdAft [5, 6, 7, 8] (bdCons (stAsg false 6 nd pdInt) (bdCons (stAft [7, 8] (stBef [7, 8] (stFor rfl (iwSeq (pdLst (adCons (pdIx (pdVar 5) pdInt) (adCons (pdIx (pdVar 5) pdInt) adNil)))).d (gdName 7 nd) (bdAft [7, 8] (bdCons (stAsg false 8 nd (pdCall G_term_weight hr (by rfl) M_term_weight P_term_weight B_term_weight (adCons (pdVar 1) (adCons (pdVar 7) adNil)) (argLenS (argLenS argLen0)))) (bdCons (stIf (tdW (wdO (tdNot (tdTru (pdCall G__law_is_integer hr (by rfl) M__law_is_integer P__law_is_integer B__law_is_integer (adCons (pdVar 8) adNil) (argLenS argLen0)))) (wdO1 (tdC (oNe hr) (nomark _) (pdVar 8) (pdCall G__law_weigh hr (by rfl) M__law_weigh P__law_weigh B__law_weigh (adCons (pdVar 1) (adCons (pdVar 7) adNil)) (argLenS (argLenS argLen0))))))) (bdOne (stRet pdBool)) bdNil) (bdCons (stAsg false 6 nd (pdAdd (pdVar 6) (pdVar 8))) (bdOne (stIf (tdW (wdA (tdNot (tdTru (pdCall G__law_is_variable hr (by rfl) M__law_is_variable P__law_is_variable B__law_is_variable (adCons (pdVar 7) adNil) (argLenS argLen0)))) (wdA1 (tdC (oNe hr) (nomark _) (pdCall G_symbol_weight hr (by rfl) M_symbol_weight P_symbol_weight B_symbol_weight (adCons (pdVar 1) (adCons (pdIx (pdVar 7) pdInt) adNil)) (argLenS (argLenS argLen0))) (pdTGet2 hr (pdVar 1) (pdIx (pdVar 7) pdInt) pdInt))))) (bdOne (stRet pdBool)) bdNil)))))) PassesOwn.never))) (bdCons (stIf (tdC (oNe hr) (nomark _) (pdCall G_literal_weight hr (by rfl) M_literal_weight P_literal_weight B_literal_weight (adCons (pdVar 1) (adCons (pdVar 5) adNil)) (argLenS (argLenS argLen0))) (pdVar 6)) (bdOne (stRet pdBool)) bdNil) (bdOne (stAsg false 4 nd (pdAdd (pdVar 4) (pdVar 6)))))))) PassesOwn.never))) (bdCons (stIf (tdW (wdO (tdNot (tdTru (pdCall G__law_is_integer hr (by rfl) M__law_is_integer P__law_is_integer B__law_is_integer (adCons (pdCall G_clause_weight hr (by rfl) M_clause_weight P_clause_weight B_clause_weight (adCons (pdVar 1) (adCons (pdVar 3) adNil)) (argLenS (argLenS argLen0))) adNil) (argLenS argLen0)))) (wdO1 (tdC (oNe hr) (nomark _) (pdCall G_clause_weight hr (by rfl) M_clause_weight P_clause_weight B_clause_weight (adCons (pdVar 1) (adCons (pdVar 3) adNil)) (argLenS (argLenS argLen0))) (pdVar 4))))) (bdOne (stRet pdBool)) bdNil) (bdOne (stRet (pdAnd (pdC (oEq hr) (nomark _) (pdCall G__law_pairs hr (by rfl) M__law_pairs P__law_pairs B__law_pairs (adCons (pdVar 1) adNil) (argLenS argLen0)) (pdVar 2)) (pdOne (pdC (oEq hr) (nomark _) (pdCall G_clause_weight hr (by rfl) M_clause_weight P_clause_weight B_clause_weight (adCons (pdVar 1) (adCons (pdTup adNil) adNil)) (argLenS (argLenS argLen0))) pdInt)))))))))))))
end
theorem all_mk {l : PySem.W.OpenLaw} {w : World} {K : PySem.W.Frag} {h : Heap} {mg : Str → Option Value} {fa : Addr} (X : K.In h) (G : h.Ns mainGlobals mg) (hfa : mg "law" = some (.ref fa))
    {a_is_variable : Addr} {od_is_variable an_is_variable : Option Addr} {sl_is_variable : Array (Option Value)} {oc_is_variable kV_is_variable dc_is_variable pm_is_variable cd_is_variable ct_is_variable : Value}
    {a_subterms : Addr} {od_subterms an_subterms : Option Addr} {sl_subterms : Array (Option Value)} {oc_subterms kV_subterms dc_subterms pm_subterms cd_subterms ct_subterms : Value}
    {a_symbol_weight : Addr} {od_symbol_weight an_symbol_weight : Option Addr} {sl_symbol_weight : Array (Option Value)} {oc_symbol_weight kV_symbol_weight dc_symbol_weight pm_symbol_weight cd_symbol_weight ct_symbol_weight : Value}
    {a_term_weight : Addr} {od_term_weight an_term_weight : Option Addr} {sl_term_weight : Array (Option Value)} {oc_term_weight kV_term_weight dc_term_weight pm_term_weight cd_term_weight ct_term_weight : Value}
    {a_literal_weight : Addr} {od_literal_weight an_literal_weight : Option Addr} {sl_literal_weight : Array (Option Value)} {oc_literal_weight kV_literal_weight dc_literal_weight pm_literal_weight cd_literal_weight ct_literal_weight : Value}
    {a_clause_weight cc_clause_weight P_clause_weight : Addr} {od_clause_weight an_clause_weight : Option Addr} {sl_clause_weight : Array (Option Value)} {oc_clause_weight kV_clause_weight dc_clause_weight pm_clause_weight ct_clause_weight : Value} {e1_clause_weight : Value} {e2_clause_weight : Option Addr} {e3_clause_weight : Array Value} {e4_clause_weight : Array (Option Value)}
    {a__law_cell : Addr} {od__law_cell an__law_cell : Option Addr} {sl__law_cell : Array (Option Value)} {oc__law_cell kV__law_cell dc__law_cell pm__law_cell cd__law_cell ct__law_cell : Value}
    {a__law_is_integer : Addr} {od__law_is_integer an__law_is_integer : Option Addr} {sl__law_is_integer : Array (Option Value)} {oc__law_is_integer kV__law_is_integer dc__law_is_integer pm__law_is_integer cd__law_is_integer ct__law_is_integer : Value}
    {a__law_symbol : Addr} {od__law_symbol an__law_symbol : Option Addr} {sl__law_symbol : Array (Option Value)} {oc__law_symbol kV__law_symbol dc__law_symbol pm__law_symbol cd__law_symbol ct__law_symbol : Value}
    {a__law_term : Addr} {od__law_term an__law_term : Option Addr} {sl__law_term : Array (Option Value)} {oc__law_term kV__law_term dc__law_term pm__law_term cd__law_term ct__law_term : Value}
    {a__law_atom : Addr} {od__law_atom an__law_atom : Option Addr} {sl__law_atom : Array (Option Value)} {oc__law_atom kV__law_atom dc__law_atom pm__law_atom cd__law_atom ct__law_atom : Value}
    {a__law_literal : Addr} {od__law_literal an__law_literal : Option Addr} {sl__law_literal : Array (Option Value)} {oc__law_literal kV__law_literal dc__law_literal pm__law_literal cd__law_literal ct__law_literal : Value}
    {a__law_clause : Addr} {od__law_clause an__law_clause : Option Addr} {sl__law_clause : Array (Option Value)} {oc__law_clause kV__law_clause dc__law_clause pm__law_clause cd__law_clause ct__law_clause : Value}
    {a__law_weights : Addr} {od__law_weights an__law_weights : Option Addr} {sl__law_weights : Array (Option Value)} {oc__law_weights kV__law_weights dc__law_weights pm__law_weights cd__law_weights ct__law_weights : Value}
    {a__law_is_variable : Addr} {od__law_is_variable an__law_is_variable : Option Addr} {sl__law_is_variable : Array (Option Value)} {oc__law_is_variable kV__law_is_variable dc__law_is_variable pm__law_is_variable cd__law_is_variable ct__law_is_variable : Value}
    {a__law_weigh : Addr} {od__law_weigh an__law_weigh : Option Addr} {sl__law_weigh : Array (Option Value)} {oc__law_weigh kV__law_weigh dc__law_weigh pm__law_weigh cd__law_weigh ct__law_weigh : Value}
    {a__law_pairs : Addr} {od__law_pairs an__law_pairs : Option Addr} {sl__law_pairs : Array (Option Value)} {oc__law_pairs kV__law_pairs dc__law_pairs pm__law_pairs cd__law_pairs ct__law_pairs : Value}
    {a_law : Addr} {od_law an_law : Option Addr} {sl_law : Array (Option Value)} {oc_law kV_law dc_law pm_law cd_law ct_law : Value}
    (q1_is_variable : PySem.W.nsIn K mainGlobals "is_variable" = some (some (.ref a_is_variable))) (q2_is_variable : K.lookup a_is_variable = some ⟨oc_is_variable, od_is_variable, .func (PySem.W.fnOf "is_variable" "is_variable" (defArgs (top 1)) (defBody (top 1)) (defScope (top 1)) .none kV_is_variable dc_is_variable pm_is_variable an_is_variable cd_is_variable ct_is_variable), sl_is_variable⟩) (q3_is_variable : PySem.W.codeIn K cd_is_variable "is_variable" = true) (q4_is_variable : PySem.W.keepIn K (.ref a_is_variable) = true)
    (q1_subterms : PySem.W.nsIn K mainGlobals "subterms" = some (some (.ref a_subterms))) (q2_subterms : K.lookup a_subterms = some ⟨oc_subterms, od_subterms, .func (PySem.W.fnOf "subterms" "subterms" (defArgs (top 2)) (defBody (top 2)) (defScope (top 2)) .none kV_subterms dc_subterms pm_subterms an_subterms cd_subterms ct_subterms), sl_subterms⟩) (q3_subterms : PySem.W.codeIn K cd_subterms "subterms" = true) (q4_subterms : PySem.W.keepIn K (.ref a_subterms) = true)
    (q1_symbol_weight : PySem.W.nsIn K mainGlobals "symbol_weight" = some (some (.ref a_symbol_weight))) (q2_symbol_weight : K.lookup a_symbol_weight = some ⟨oc_symbol_weight, od_symbol_weight, .func (PySem.W.fnOf "symbol_weight" "symbol_weight" (defArgs (top 4)) (defBody (top 4)) (defScope (top 4)) .none kV_symbol_weight dc_symbol_weight pm_symbol_weight an_symbol_weight cd_symbol_weight ct_symbol_weight), sl_symbol_weight⟩) (q3_symbol_weight : PySem.W.codeIn K cd_symbol_weight "symbol_weight" = true) (q4_symbol_weight : PySem.W.keepIn K (.ref a_symbol_weight) = true)
    (q1_term_weight : PySem.W.nsIn K mainGlobals "term_weight" = some (some (.ref a_term_weight))) (q2_term_weight : K.lookup a_term_weight = some ⟨oc_term_weight, od_term_weight, .func (PySem.W.fnOf "term_weight" "term_weight" (defArgs (top 5)) (defBody (top 5)) (defScope (top 5)) .none kV_term_weight dc_term_weight pm_term_weight an_term_weight cd_term_weight ct_term_weight), sl_term_weight⟩) (q3_term_weight : PySem.W.codeIn K cd_term_weight "term_weight" = true) (q4_term_weight : PySem.W.keepIn K (.ref a_term_weight) = true)
    (q1_literal_weight : PySem.W.nsIn K mainGlobals "literal_weight" = some (some (.ref a_literal_weight))) (q2_literal_weight : K.lookup a_literal_weight = some ⟨oc_literal_weight, od_literal_weight, .func (PySem.W.fnOf "literal_weight" "literal_weight" (defArgs (top 6)) (defBody (top 6)) (defScope (top 6)) .none kV_literal_weight dc_literal_weight pm_literal_weight an_literal_weight cd_literal_weight ct_literal_weight), sl_literal_weight⟩) (q3_literal_weight : PySem.W.codeIn K cd_literal_weight "literal_weight" = true) (q4_literal_weight : PySem.W.keepIn K (.ref a_literal_weight) = true)
    (q1_clause_weight : PySem.W.nsIn K mainGlobals "clause_weight" = some (some (.ref a_clause_weight))) (q2_clause_weight : K.lookup a_clause_weight = some ⟨oc_clause_weight, od_clause_weight, .func (PySem.W.fnOf "clause_weight" "clause_weight" (defArgs (top 7)) (defBody (top 7)) (defScope (top 7)) .none kV_clause_weight dc_clause_weight pm_clause_weight an_clause_weight (.ref cc_clause_weight) ct_clause_weight), sl_clause_weight⟩) (q3_clause_weight : PySem.W.codeIn K (.ref cc_clause_weight) "clause_weight" = true) (q4_clause_weight : PySem.W.keepIn K (.ref a_clause_weight) = true)
    (h1_clause_weight : K.lookup cc_clause_weight = some ⟨e1_clause_weight, e2_clause_weight, .fields e3_clause_weight, e4_clause_weight⟩) (h2_clause_weight : e3_clause_weight[11]? = some (.ref P_clause_weight)) (h3_clause_weight : PySem.W.codeHdIn K cc_clause_weight P_clause_weight = true) (h4_clause_weight : K.lookup P_clause_weight = none)
    (q1__law_cell : PySem.W.nsIn K mainGlobals "_law_cell" = some (some (.ref a__law_cell))) (q2__law_cell : K.lookup a__law_cell = some ⟨oc__law_cell, od__law_cell, .func (PySem.W.fnOf "_law_cell" "_law_cell" (defArgs (top 9)) (defBody (top 9)) (defScope (top 9)) .none kV__law_cell dc__law_cell pm__law_cell an__law_cell cd__law_cell ct__law_cell), sl__law_cell⟩) (q3__law_cell : PySem.W.codeIn K cd__law_cell "_law_cell" = true) (q4__law_cell : PySem.W.keepIn K (.ref a__law_cell) = true)
    (q1__law_is_integer : PySem.W.nsIn K mainGlobals "_law_is_integer" = some (some (.ref a__law_is_integer))) (q2__law_is_integer : K.lookup a__law_is_integer = some ⟨oc__law_is_integer, od__law_is_integer, .func (PySem.W.fnOf "_law_is_integer" "_law_is_integer" (defArgs (top 10)) (defBody (top 10)) (defScope (top 10)) .none kV__law_is_integer dc__law_is_integer pm__law_is_integer an__law_is_integer cd__law_is_integer ct__law_is_integer), sl__law_is_integer⟩) (q3__law_is_integer : PySem.W.codeIn K cd__law_is_integer "_law_is_integer" = true) (q4__law_is_integer : PySem.W.keepIn K (.ref a__law_is_integer) = true)
    (q1__law_symbol : PySem.W.nsIn K mainGlobals "_law_symbol" = some (some (.ref a__law_symbol))) (q2__law_symbol : K.lookup a__law_symbol = some ⟨oc__law_symbol, od__law_symbol, .func (PySem.W.fnOf "_law_symbol" "_law_symbol" (defArgs (top 11)) (defBody (top 11)) (defScope (top 11)) .none kV__law_symbol dc__law_symbol pm__law_symbol an__law_symbol cd__law_symbol ct__law_symbol), sl__law_symbol⟩) (q3__law_symbol : PySem.W.codeIn K cd__law_symbol "_law_symbol" = true) (q4__law_symbol : PySem.W.keepIn K (.ref a__law_symbol) = true)
    (q1__law_term : PySem.W.nsIn K mainGlobals "_law_term" = some (some (.ref a__law_term))) (q2__law_term : K.lookup a__law_term = some ⟨oc__law_term, od__law_term, .func (PySem.W.fnOf "_law_term" "_law_term" (defArgs (top 12)) (defBody (top 12)) (defScope (top 12)) .none kV__law_term dc__law_term pm__law_term an__law_term cd__law_term ct__law_term), sl__law_term⟩) (q3__law_term : PySem.W.codeIn K cd__law_term "_law_term" = true) (q4__law_term : PySem.W.keepIn K (.ref a__law_term) = true)
    (q1__law_atom : PySem.W.nsIn K mainGlobals "_law_atom" = some (some (.ref a__law_atom))) (q2__law_atom : K.lookup a__law_atom = some ⟨oc__law_atom, od__law_atom, .func (PySem.W.fnOf "_law_atom" "_law_atom" (defArgs (top 13)) (defBody (top 13)) (defScope (top 13)) .none kV__law_atom dc__law_atom pm__law_atom an__law_atom cd__law_atom ct__law_atom), sl__law_atom⟩) (q3__law_atom : PySem.W.codeIn K cd__law_atom "_law_atom" = true) (q4__law_atom : PySem.W.keepIn K (.ref a__law_atom) = true)
    (q1__law_literal : PySem.W.nsIn K mainGlobals "_law_literal" = some (some (.ref a__law_literal))) (q2__law_literal : K.lookup a__law_literal = some ⟨oc__law_literal, od__law_literal, .func (PySem.W.fnOf "_law_literal" "_law_literal" (defArgs (top 14)) (defBody (top 14)) (defScope (top 14)) .none kV__law_literal dc__law_literal pm__law_literal an__law_literal cd__law_literal ct__law_literal), sl__law_literal⟩) (q3__law_literal : PySem.W.codeIn K cd__law_literal "_law_literal" = true) (q4__law_literal : PySem.W.keepIn K (.ref a__law_literal) = true)
    (q1__law_clause : PySem.W.nsIn K mainGlobals "_law_clause" = some (some (.ref a__law_clause))) (q2__law_clause : K.lookup a__law_clause = some ⟨oc__law_clause, od__law_clause, .func (PySem.W.fnOf "_law_clause" "_law_clause" (defArgs (top 15)) (defBody (top 15)) (defScope (top 15)) .none kV__law_clause dc__law_clause pm__law_clause an__law_clause cd__law_clause ct__law_clause), sl__law_clause⟩) (q3__law_clause : PySem.W.codeIn K cd__law_clause "_law_clause" = true) (q4__law_clause : PySem.W.keepIn K (.ref a__law_clause) = true)
    (q1__law_weights : PySem.W.nsIn K mainGlobals "_law_weights" = some (some (.ref a__law_weights))) (q2__law_weights : K.lookup a__law_weights = some ⟨oc__law_weights, od__law_weights, .func (PySem.W.fnOf "_law_weights" "_law_weights" (defArgs (top 16)) (defBody (top 16)) (defScope (top 16)) .none kV__law_weights dc__law_weights pm__law_weights an__law_weights cd__law_weights ct__law_weights), sl__law_weights⟩) (q3__law_weights : PySem.W.codeIn K cd__law_weights "_law_weights" = true) (q4__law_weights : PySem.W.keepIn K (.ref a__law_weights) = true)
    (q1__law_is_variable : PySem.W.nsIn K mainGlobals "_law_is_variable" = some (some (.ref a__law_is_variable))) (q2__law_is_variable : K.lookup a__law_is_variable = some ⟨oc__law_is_variable, od__law_is_variable, .func (PySem.W.fnOf "_law_is_variable" "_law_is_variable" (defArgs (top 17)) (defBody (top 17)) (defScope (top 17)) .none kV__law_is_variable dc__law_is_variable pm__law_is_variable an__law_is_variable cd__law_is_variable ct__law_is_variable), sl__law_is_variable⟩) (q3__law_is_variable : PySem.W.codeIn K cd__law_is_variable "_law_is_variable" = true) (q4__law_is_variable : PySem.W.keepIn K (.ref a__law_is_variable) = true)
    (q1__law_weigh : PySem.W.nsIn K mainGlobals "_law_weigh" = some (some (.ref a__law_weigh))) (q2__law_weigh : K.lookup a__law_weigh = some ⟨oc__law_weigh, od__law_weigh, .func (PySem.W.fnOf "_law_weigh" "_law_weigh" (defArgs (top 18)) (defBody (top 18)) (defScope (top 18)) .none kV__law_weigh dc__law_weigh pm__law_weigh an__law_weigh cd__law_weigh ct__law_weigh), sl__law_weigh⟩) (q3__law_weigh : PySem.W.codeIn K cd__law_weigh "_law_weigh" = true) (q4__law_weigh : PySem.W.keepIn K (.ref a__law_weigh) = true)
    (q1__law_pairs : PySem.W.nsIn K mainGlobals "_law_pairs" = some (some (.ref a__law_pairs))) (q2__law_pairs : K.lookup a__law_pairs = some ⟨oc__law_pairs, od__law_pairs, .func (PySem.W.fnOf "_law_pairs" "_law_pairs" (defArgs (top 19)) (defBody (top 19)) (defScope (top 19)) .none kV__law_pairs dc__law_pairs pm__law_pairs an__law_pairs cd__law_pairs ct__law_pairs), sl__law_pairs⟩) (q3__law_pairs : PySem.W.codeIn K cd__law_pairs "_law_pairs" = true) (q4__law_pairs : PySem.W.keepIn K (.ref a__law_pairs) = true)
    (q1_law : PySem.W.nsIn K mainGlobals "law" = some (some (.ref a_law))) (q2_law : K.lookup a_law = some ⟨oc_law, od_law, .func (PySem.W.fnOf "law" "law" (defArgs (top 20)) (defBody (top 20)) (defScope (top 20)) .none kV_law dc_law pm_law an_law cd_law ct_law), sl_law⟩) (q3_law : PySem.W.codeIn K cd_law "law" = true) (q4_law : PySem.W.keepIn K (.ref a_law) = true)
    (z_isinstance : PySem.W.nsIn K mainGlobals "isinstance" = some none)
    (z_int : PySem.W.nsIn K mainGlobals "int" = some none)
    (z_sum : PySem.W.nsIn K mainGlobals "sum" = some none)
    (z_len : PySem.W.nsIn K mainGlobals "len" = some none)
    (z_bool : PySem.W.nsIn K mainGlobals "bool" = some none)
    (z_tuple : PySem.W.nsIn K mainGlobals "tuple" = some none)
    (z_range : PySem.W.nsIn K mainGlobals "range" = some none)
    (hns : noSymB K = true) :
    ∃ fd : FuncData, ∃ cs : List (Addr × Addr), (∀ (s : Shared) (v : Value), BindsTo s fd ⟨[v], []⟩ [("script", v)]) ∧ (∀ p ∈ cs, K.lookup p.2 = none) ∧ (∀ p ∈ cs, PySem.W.codeHdIn K p.1 p.2 = true) ∧ (∀ P, IsTab K P → ∃ p ∈ cs, p.2 = P) ∧ (∀ p ∈ cs, ∃ (y : Str) (f : Addr), y ∈ tabNames ∧ mg y = some (.ref f) ∧ (LamX.OwnTab K f h → h.get? p.2 = some { cls := .none, data := .fields #[] })) ∧ ∀ base : Heap, K.In base → base.Ns mainGlobals mg → (∀ p ∈ cs, GxR.TabB base mg p.1 p.2) → FnOk l.prog w K mg base CX0 17 fa fd ["script"] (spF K 1 F_law) := by
  have e := hfa.symm.trans (PySem.W.mg_of X G q1_law)
  cases e
  have FF_is_variable := fun_mk (st := top 1) q2_is_variable q3_is_variable q4_is_variable
  have B_is_variable := FF_is_variable.binds (ps := ["term"]) fun _ _ _ _ _ _ us hl => match us, hl with | [_], _ => rfl
  have M_is_variable := PySem.W.mg_of X G q1_is_variable
  have FF_subterms := fun_mk (st := top 2) q2_subterms q3_subterms q4_subterms
  have B_subterms := FF_subterms.binds (ps := ["term"]) fun _ _ _ _ _ _ us hl => match us, hl with | [_], _ => rfl
  have M_subterms := PySem.W.mg_of X G q1_subterms
  have FF_symbol_weight := fun_mk (st := top 4) q2_symbol_weight q3_symbol_weight q4_symbol_weight
  have B_symbol_weight := FF_symbol_weight.binds (ps := ["weights", "symbol"]) fun _ _ _ _ _ _ us hl => match us, hl with | [_, _], _ => rfl
  have M_symbol_weight := PySem.W.mg_of X G q1_symbol_weight
  have FF_term_weight := fun_mk (st := top 5) q2_term_weight q3_term_weight q4_term_weight
  have B_term_weight := FF_term_weight.binds (ps := ["weights", "term"]) fun _ _ _ _ _ _ us hl => match us, hl with | [_, _], _ => rfl
  have M_term_weight := PySem.W.mg_of X G q1_term_weight
  have FF_literal_weight := fun_mk (st := top 6) q2_literal_weight q3_literal_weight q4_literal_weight
  have B_literal_weight := FF_literal_weight.binds (ps := ["weights", "literal"]) fun _ _ _ _ _ _ us hl => match us, hl with | [_, _], _ => rfl
  have M_literal_weight := PySem.W.mg_of X G q1_literal_weight
  have FF_clause_weight := fun_mk (st := top 7) q2_clause_weight q3_clause_weight q4_clause_weight
  have B_clause_weight := FF_clause_weight.binds (ps := ["weights", "clause"]) fun _ _ _ _ _ _ us hl => match us, hl with | [_, _], _ => rfl
  have M_clause_weight := PySem.W.mg_of X G q1_clause_weight
  have FF__law_cell := fun_mk (st := top 9) q2__law_cell q3__law_cell q4__law_cell
  have B__law_cell := FF__law_cell.binds (ps := ["script", "k"]) fun _ _ _ _ _ _ us hl => match us, hl with | [_, _], _ => rfl
  have M__law_cell := PySem.W.mg_of X G q1__law_cell
  have FF__law_is_integer := fun_mk (st := top 10) q2__law_is_integer q3__law_is_integer q4__law_is_integer
  have B__law_is_integer := FF__law_is_integer.binds (ps := ["actual"]) fun _ _ _ _ _ _ us hl => match us, hl with | [_], _ => rfl
  have M__law_is_integer := PySem.W.mg_of X G q1__law_is_integer
  have FF__law_symbol := fun_mk (st := top 11) q2__law_symbol q3__law_symbol q4__law_symbol
  have B__law_symbol := FF__law_symbol.binds (ps := ["n"]) fun _ _ _ _ _ _ us hl => match us, hl with | [_], _ => rfl
  have M__law_symbol := PySem.W.mg_of X G q1__law_symbol
  have FF__law_term := fun_mk (st := top 12) q2__law_term q3__law_term q4__law_term
  have B__law_term := FF__law_term.binds (ps := ["row", "deep"]) fun _ _ _ _ _ _ us hl => match us, hl with | [_, _], _ => rfl
  have M__law_term := PySem.W.mg_of X G q1__law_term
  have FF__law_atom := fun_mk (st := top 13) q2__law_atom q3__law_atom q4__law_atom
  have B__law_atom := FF__law_atom.binds (ps := ["row", "deep"]) fun _ _ _ _ _ _ us hl => match us, hl with | [_, _], _ => rfl
  have M__law_atom := PySem.W.mg_of X G q1__law_atom
  have FF__law_literal := fun_mk (st := top 14) q2__law_literal q3__law_literal q4__law_literal
  have B__law_literal := FF__law_literal.binds (ps := ["row", "deep"]) fun _ _ _ _ _ _ us hl => match us, hl with | [_, _], _ => rfl
  have M__law_literal := PySem.W.mg_of X G q1__law_literal
  have FF__law_clause := fun_mk (st := top 15) q2__law_clause q3__law_clause q4__law_clause
  have B__law_clause := FF__law_clause.binds (ps := ["row", "most", "deep"]) fun _ _ _ _ _ _ us hl => match us, hl with | [_, _, _], _ => rfl
  have M__law_clause := PySem.W.mg_of X G q1__law_clause
  have FF__law_weights := fun_mk (st := top 16) q2__law_weights q3__law_weights q4__law_weights
  have B__law_weights := FF__law_weights.binds (ps := ["row"]) fun _ _ _ _ _ _ us hl => match us, hl with | [_], _ => rfl
  have M__law_weights := PySem.W.mg_of X G q1__law_weights
  have FF__law_is_variable := fun_mk (st := top 17) q2__law_is_variable q3__law_is_variable q4__law_is_variable
  have B__law_is_variable := FF__law_is_variable.binds (ps := ["term"]) fun _ _ _ _ _ _ us hl => match us, hl with | [_], _ => rfl
  have M__law_is_variable := PySem.W.mg_of X G q1__law_is_variable
  have FF__law_weigh := fun_mk (st := top 18) q2__law_weigh q3__law_weigh q4__law_weigh
  have B__law_weigh := FF__law_weigh.binds (ps := ["weights", "term"]) fun _ _ _ _ _ _ us hl => match us, hl with | [_, _], _ => rfl
  have M__law_weigh := PySem.W.mg_of X G q1__law_weigh
  have FF__law_pairs := fun_mk (st := top 19) q2__law_pairs q3__law_pairs q4__law_pairs
  have B__law_pairs := FF__law_pairs.binds (ps := ["told"]) fun _ _ _ _ _ _ us hl => match us, hl with | [_], _ => rfl
  have M__law_pairs := PySem.W.mg_of X G q1__law_pairs
  have FF_law := fun_mk (st := top 20) q2_law q3_law q4_law
  have Z_isinstance := PySem.W.mg_none_of X G z_isinstance
  have Z_int := PySem.W.mg_none_of X G z_int
  have Z_sum := PySem.W.mg_none_of X G z_sum
  have Z_len := PySem.W.mg_none_of X G z_len
  have Z_bool := PySem.W.mg_none_of X G z_bool
  have Z_tuple := PySem.W.mg_none_of X G z_tuple
  have Z_range := PySem.W.mg_none_of X G z_range
  refine ⟨PySem.W.fnOf "law" "law" (defArgs (top 20)) (defBody (top 20)) (defScope (top 20)) .none kV_law dc_law pm_law an_law cd_law ct_law, [(cc_clause_weight, P_clause_weight)], fun s v => .of_eq rfl, ?n1, ?n2, ?n3, ?n4, fun base _ _ tb => ?_⟩
  case n1 =>
    intro p hp
    rcases List.mem_cons.mp hp with rfl | hp
    · exact h4_clause_weight
    cases hp
  case n2 =>
    intro p hp
    rcases List.mem_cons.mp hp with rfl | hp
    · exact h3_clause_weight
    cases hp
  case n3 =>
    rintro P ⟨x, hx, fa, o, fd, c, e, dd, vs, sl, k1, k2, k3, k4, k5, k6⟩
    simp only [tabNames, List.mem_cons, List.not_mem_nil, or_false] at hx
    rcases hx with rfl
    · rw [q1_clause_weight] at k1; cases k1; rw [q2_clause_weight] at k2; cases k2
      injection (show Data.func _ = Data.func _ from k3) with k3; subst k3
      injection (show Value.ref cc_clause_weight = Value.ref c from k4) with k4; subst k4
      rw [h1_clause_weight] at k5; cases k5; rw [h2_clause_weight] at k6; cases k6
      exact ⟨(cc_clause_weight, P_clause_weight), by simp, rfl⟩
  case n4 =>
    intro p hp
    rcases List.mem_cons.mp hp with rfl | hp
    · exact ⟨"clause_weight", a_clause_weight, by simp [tabNames], M_clause_weight, fun own => own cc_clause_weight P_clause_weight _ _ _ _ _ _ q2_clause_weight rfl rfl h1_clause_weight h2_clause_weight⟩
    cases hp
  have TB_clause_weight := tb (cc_clause_weight, P_clause_weight) (by simp)
  have IT_clause_weight : IsTab K P_clause_weight := ⟨"clause_weight", by simp [tabNames], a_clause_weight, _, _, cc_clause_weight, _, _, _, _, q1_clause_weight, q2_clause_weight, rfl, rfl, h1_clause_weight, h2_clause_weight⟩
  have G_is_variable : FnOk l.prog w K mg base CX0 1 _ _ ["term"] (spF K 1 F_is_variable) := ok_is_variable (k := 0) FF_is_variable  Z_isinstance Z_int
  have G_subterms : FnOk l.prog w K mg base CX0 2 _ _ ["term"] (spF K 1 F_subterms) := ok_subterms (k := 1) FF_subterms (G_is_variable.mono (by decide)) M_is_variable q4_is_variable B_is_variable 
  have G_symbol_weight : FnOk l.prog w K mg base CX0 1 _ _ ["weights", "symbol"] (spF K 2 F_symbol_weight) := ok_symbol_weight (k := 0) FF_symbol_weight  
  have G_term_weight : FnOk l.prog w K mg base CX0 3 _ _ ["weights", "term"] (spF K 2 F_term_weight) := ok_term_weight (k := 2) FF_term_weight (G_subterms.mono (by decide)) M_subterms q4_subterms B_subterms (G_is_variable.mono (by decide)) M_is_variable q4_is_variable B_is_variable (G_symbol_weight.mono (by decide)) M_symbol_weight q4_symbol_weight B_symbol_weight 
  have G_literal_weight : FnOk l.prog w K mg base CX0 4 _ _ ["weights", "literal"] (spF K 2 F_literal_weight) := ok_literal_weight (k := 3) FF_literal_weight (G_term_weight.mono (by decide)) M_term_weight q4_term_weight B_term_weight 
  have G_clause_weight : FnOk l.prog w K mg base CX0 6 _ _ ["weights", "clause"] (spF K 2 F_clause_weight) := ok_clause_weight (k := 4) FF_clause_weight rfl TB_clause_weight IT_clause_weight (G_literal_weight.mono (by decide)) M_literal_weight q4_literal_weight B_literal_weight Z_sum
  have G__law_cell : FnOk l.prog w K mg base CX0 1 _ _ ["script", "k"] (spF K 2 F__law_cell) := ok__law_cell (k := 0) FF__law_cell  Z_int Z_len
  have G__law_is_integer : FnOk l.prog w K mg base CX0 1 _ _ ["actual"] (spF K 1 F__law_is_integer) := ok__law_is_integer (k := 0) FF__law_is_integer  Z_isinstance Z_int Z_bool
  have G__law_symbol : FnOk l.prog w K mg base CX0 1 _ _ ["n"] (spF K 1 F__law_symbol) := ok__law_symbol (k := 0) FF__law_symbol  Z_int
  have GI__law_term : ∀ n, FnOk l.prog w K mg base CX0 (1 + n) _ _ ["row", "deep"] (spF K 2 (it__law_term n)) := fun n => by
    induction n with
    | zero => exact fn_none.mono (Nat.zero_le _)
    | succ n ih => exact ok__law_term (k := 1 + n) FF__law_term ih M__law_term q4__law_term B__law_term (G__law_symbol.mono (by omega)) M__law_symbol q4__law_symbol B__law_symbol Z_tuple Z_range Z_int
  have G__law_term : FnOk l.prog w K mg base CX0 13 _ _ ["row", "deep"] (spF K 2 F__law_term) := GI__law_term 12
  have G__law_atom : FnOk l.prog w K mg base CX0 14 _ _ ["row", "deep"] (spF K 2 F__law_atom) := ok__law_atom (k := 13) FF__law_atom (G__law_term.mono (by decide)) M__law_term q4__law_term B__law_term Z_tuple Z_range Z_int
  have G__law_literal : FnOk l.prog w K mg base CX0 15 _ _ ["row", "deep"] (spF K 2 F__law_literal) := ok__law_literal (k := 14) FF__law_literal (G__law_term.mono (by decide)) M__law_term q4__law_term B__law_term (G__law_atom.mono (by decide)) M__law_atom q4__law_atom B__law_atom Z_int
  have G__law_clause : FnOk l.prog w K mg base CX0 16 _ _ ["row", "most", "deep"] (spF K 3 F__law_clause) := ok__law_clause (k := 15) FF__law_clause (G__law_literal.mono (by decide)) M__law_literal q4__law_literal B__law_literal Z_tuple Z_range Z_int Z_len
  have G__law_weights : FnOk l.prog w K mg base CX0 1 _ _ ["row"] (spF K 1 F__law_weights) := ok__law_weights (k := 0) FF__law_weights  Z_int (noSym_of hns)
  have G__law_is_variable : FnOk l.prog w K mg base CX0 1 _ _ ["term"] (spF K 1 F__law_is_variable) := ok__law_is_variable (k := 0) FF__law_is_variable  Z_isinstance Z_int
  have GI__law_weigh : ∀ n, FnOk l.prog w K mg base CX0 (1 + n) _ _ ["weights", "term"] (spF K 2 (it__law_weigh n)) := fun n => by
    induction n with
    | zero => exact fn_none.mono (Nat.zero_le _)
    | succ n ih => exact ok__law_weigh (k := 1 + n) FF__law_weigh ih M__law_weigh q4__law_weigh B__law_weigh (G__law_is_variable.mono (by omega)) M__law_is_variable q4__law_is_variable B__law_is_variable 
  have G__law_weigh : FnOk l.prog w K mg base CX0 13 _ _ ["weights", "term"] (spF K 2 F__law_weigh) := GI__law_weigh 12
  have G__law_pairs : FnOk l.prog w K mg base CX0 1 _ _ ["told"] (spF K 1 F__law_pairs) := ok__law_pairs (k := 0) FF__law_pairs  
  have G_law : FnOk l.prog w K mg base CX0 17 _ _ ["script"] (spF K 1 F_law) := ok_law (k := 16) FF_law (G__law_pairs.mono (by decide)) M__law_pairs q4__law_pairs B__law_pairs (G_clause_weight.mono (by decide)) M_clause_weight q4_clause_weight B_clause_weight (G__law_is_integer.mono (by decide)) M__law_is_integer q4__law_is_integer B__law_is_integer (G_literal_weight.mono (by decide)) M_literal_weight q4_literal_weight B_literal_weight (G__law_is_variable.mono (by decide)) M__law_is_variable q4__law_is_variable B__law_is_variable (G_symbol_weight.mono (by decide)) M_symbol_weight q4_symbol_weight B_symbol_weight (G__law_weigh.mono (by decide)) M__law_weigh q4__law_weigh B__law_weigh (G_term_weight.mono (by decide)) M_term_weight q4_term_weight B_term_weight (G__law_clause.mono (by decide)) M__law_clause q4__law_clause B__law_clause (G__law_cell.mono (by decide)) M__law_cell q4__law_cell B__law_cell (G__law_weights.mono (by decide)) M__law_weights q4__law_weights B__law_weights (noSym_of hns)
  exact G_law
theorem walk (hl : ∀ ns : List Int, ns.length ≤ 63 → ∃ o, F_law [.val (.list (ns.map D.int))] = some (.val (.bool true), o)) {l : PySem.W.OpenLaw} {q : Program} {loose : List Str} {XP : (Str → Option Value) → Heap → Prop} {YP : World → Heap → Prop} {d : DefRec} {K : Params → PySem.W.Frag}
    (hn : l.most = some 63) (hdf : d.params.defaults = []) (hrec : ∀ y ∈ tabNames, ((recsOf q).any fun e => e.name == y) = true) (hY : ∀ (w : World) (h : Heap), YP w h → (K w.params).In h)
    (F : ∀ (w : World) (mg : Str → Option Value) (fa : Addr) (h : Heap), (K w.params).In h → h.Ns mainGlobals mg → mg d.name = some (.ref fa) →
      ∃ fd : FuncData, ∃ cs : List (Addr × Addr), (∀ (s : Shared) (u : Value), BindsTo s fd ⟨[u], []⟩ [("script", u)]) ∧ (∀ p ∈ cs, (K w.params).lookup p.2 = none) ∧ (∀ p ∈ cs, PySem.W.codeHdIn (K w.params) p.1 p.2 = true) ∧ (∀ P, IsTab (K w.params) P → ∃ p ∈ cs, p.2 = P) ∧ (∀ p ∈ cs, ∃ (y : Str) (f : Addr), y ∈ tabNames ∧ mg y = some (.ref f) ∧ (LamX.OwnTab (K w.params) f h → h.get? p.2 = some { cls := .none, data := .fields #[] })) ∧ ∀ base : Heap, (K w.params).In base → base.Ns mainGlobals mg → (∀ p ∈ cs, GxR.TabB base mg p.1 p.2) → FnOk l.prog w (K w.params) mg base CX0 17 fa fd ["script"] (spF (K w.params) 1 F_law)) :
    PySem.W.WalkO q loose XP YP l.row.toRowW d [] (fun f vs => PySem.call f vs) :=
  walk_ofAll (n := 63) (k := 17) (x := "script") (CX := fun _ => CX0) hn (by decide) hdf ⟨rfl, by decide, by decide⟩ hY
    (fun w mg fa h _ h1 h2 h3 own => let ⟨fd, cs, g1, n1, n2, n3, n4, g2⟩ := F w mg fa h h1 h2 h3; ⟨fd, cs, spF (K w.params) 1 F_law, fun p hp => (let ⟨y, f, hy, hm, z⟩ := n4 p hp; z (own y f (hrec y hy) hm)), n1, fun p hp => PySem.W.codeHd_of_K h1 (n2 p hp), g1, fun H a ns hl2 _ hT hS => to_lawT hl n3 H a ns hl2 hT hS, fun base b1 b2 b3 => g2 base b1 b2 fun p hp => ⟨(b3 p hp).code, (b3 p hp).bm, (b3 p hp).gP⟩⟩)
    fun _ _ _ _ _ z => z
end LK08
open PySem PySem.W PyProof.Rows
set_option maxRecDepth 100000 in
set_option maxHeartbeats 0 in
theorem PySem.Challenge.cw_lastproof_k08_weights_holds : PySem.Challenge.rw_lastproof_k08_weights.Holds := by
  w_on; o_law; k_head; (case hw => w_witness2)
  k_fill
  refine LK08.walk LK08.law_holds (l := PySem.Challenge.rw_lastproof_k08_weights) rfl rfl (by decide +kernel) (fun w h Y => PySem.W.kIn_of Y) ?F
  case F =>
    intro w mg fa h KX G hmg
    refine' LK08.all_mk KX G hmg ?q1_is_variable ?q2_is_variable ?q3_is_variable ?q4_is_variable ?q1_subterms ?q2_subterms ?q3_subterms ?q4_subterms ?q1_symbol_weight ?q2_symbol_weight ?q3_symbol_weight ?q4_symbol_weight ?q1_term_weight ?q2_term_weight ?q3_term_weight ?q4_term_weight ?q1_literal_weight ?q2_literal_weight ?q3_literal_weight ?q4_literal_weight ?q1_clause_weight ?q2_clause_weight ?q3_clause_weight ?q4_clause_weight ?h1_clause_weight ?h2_clause_weight ?h3_clause_weight ?h4_clause_weight ?q1__law_cell ?q2__law_cell ?q3__law_cell ?q4__law_cell ?q1__law_is_integer ?q2__law_is_integer ?q3__law_is_integer ?q4__law_is_integer ?q1__law_symbol ?q2__law_symbol ?q3__law_symbol ?q4__law_symbol ?q1__law_term ?q2__law_term ?q3__law_term ?q4__law_term ?q1__law_atom ?q2__law_atom ?q3__law_atom ?q4__law_atom ?q1__law_literal ?q2__law_literal ?q3__law_literal ?q4__law_literal ?q1__law_clause ?q2__law_clause ?q3__law_clause ?q4__law_clause ?q1__law_weights ?q2__law_weights ?q3__law_weights ?q4__law_weights ?q1__law_is_variable ?q2__law_is_variable ?q3__law_is_variable ?q4__law_is_variable ?q1__law_weigh ?q2__law_weigh ?q3__law_weigh ?q4__law_weigh ?q1__law_pairs ?q2__law_pairs ?q3__law_pairs ?q4__law_pairs ?q1_law ?q2_law ?q3_law ?q4_law ?z_isinstance ?z_int ?z_sum ?z_len ?z_bool ?z_tuple ?z_range ?hns
    (case q1_is_variable => k_is)
    (case q2_is_variable => k_is)
    (case q3_is_variable => k_is)
    (case q4_is_variable => k_is)
    (case q1_subterms => k_is)
    (case q2_subterms => k_is)
    (case q3_subterms => k_is)
    (case q4_subterms => k_is)
    (case q1_symbol_weight => k_is)
    (case q2_symbol_weight => k_is)
    (case q3_symbol_weight => k_is)
    (case q4_symbol_weight => k_is)
    (case q1_term_weight => k_is)
    (case q2_term_weight => k_is)
    (case q3_term_weight => k_is)
    (case q4_term_weight => k_is)
    (case q1_literal_weight => k_is)
    (case q2_literal_weight => k_is)
    (case q3_literal_weight => k_is)
    (case q4_literal_weight => k_is)
    (case q1_clause_weight => k_is)
    (case q2_clause_weight => k_is)
    (case q3_clause_weight => k_is)
    (case q4_clause_weight => k_is)
    (case h1_clause_weight => k_is)
    (case h2_clause_weight => exact rfl)
    (case h3_clause_weight => kernel_rfl)
    (case h4_clause_weight => kernel_rfl)
    (case q1__law_cell => k_is)
    (case q2__law_cell => k_is)
    (case q3__law_cell => k_is)
    (case q4__law_cell => k_is)
    (case q1__law_is_integer => k_is)
    (case q2__law_is_integer => k_is)
    (case q3__law_is_integer => k_is)
    (case q4__law_is_integer => k_is)
    (case q1__law_symbol => k_is)
    (case q2__law_symbol => k_is)
    (case q3__law_symbol => k_is)
    (case q4__law_symbol => k_is)
    (case q1__law_term => k_is)
    (case q2__law_term => k_is)
    (case q3__law_term => k_is)
    (case q4__law_term => k_is)
    (case q1__law_atom => k_is)
    (case q2__law_atom => k_is)
    (case q3__law_atom => k_is)
    (case q4__law_atom => k_is)
    (case q1__law_literal => k_is)
    (case q2__law_literal => k_is)
    (case q3__law_literal => k_is)
    (case q4__law_literal => k_is)
    (case q1__law_clause => k_is)
    (case q2__law_clause => k_is)
    (case q3__law_clause => k_is)
    (case q4__law_clause => k_is)
    (case q1__law_weights => k_is)
    (case q2__law_weights => k_is)
    (case q3__law_weights => k_is)
    (case q4__law_weights => k_is)
    (case q1__law_is_variable => k_is)
    (case q2__law_is_variable => k_is)
    (case q3__law_is_variable => k_is)
    (case q4__law_is_variable => k_is)
    (case q1__law_weigh => k_is)
    (case q2__law_weigh => k_is)
    (case q3__law_weigh => k_is)
    (case q4__law_weigh => k_is)
    (case q1__law_pairs => k_is)
    (case q2__law_pairs => k_is)
    (case q3__law_pairs => k_is)
    (case q4__law_pairs => k_is)
    (case q1_law => k_is)
    (case q2_law => k_is)
    (case q3_law => k_is)
    (case q4_law => k_is)
    (case z_isinstance => k_is)
    (case z_int => k_is)
    (case z_sum => k_is)
    (case z_len => k_is)
    (case z_bool => k_is)
    (case z_tuple => k_is)
    (case z_range => k_is)
    (case hns => kernel_rfl)
