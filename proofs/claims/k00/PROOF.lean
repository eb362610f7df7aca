import PyProof.Rows.All
import Wide.All
import OpenK.AllK
import Wide.FinOn
import HandS.ForMost
import HandS.Wide
import HandS.Gcd
import HandS.IsInst
import HandS.TupAny
import HandS.Style
import PySem.Challenge.RW_millrolls_k00_fractions
set_option Elab.async false
set_option linter.all false
set_option maxRecDepth 100000
set_option maxHeartbeats 4000000
/-! A layer over the hand layer: pure evaluators over data, with slots that own a list, and what ties them to readings. -/
namespace DL
open PySem PySem.Spec PyProof.Rows L2

abbrev Fg := PySem.W.Frag
/-- data without addresses -/
inductive Dt where
  | non | bl (b : Bool) | int (i : Int) | str (x : Str) | lst (ds : List Dt) | tup (ds : List Dt) | ins (c : Nat) (ns : List Str) (ds : List Dt) | scr (ns : List Int)
mutual
inductive Rp (K : Fg) (cl : Nat → Addr) (H : Hp) : V → Dt → Prop
  | non : Rp K cl H .non .non
  | bl (b : Bool) : Rp K cl H (.bl b) (.bl b)
  | int (i : Int) : Rp K cl H (.int i) (.int i)
  | str (x : Str) : Rp K cl H (.str x) (.str x)
  | lst {a : Addr} {xs : List V} {ds : List Dt} : H a = some (.lst xs) → RpA K cl H xs ds → Rp K cl H (.ref a) (.lst ds)
  | tup {a : Addr} {xs : List V} {ds : List Dt} : SqT K H a xs → RpA K cl H xs ds → Rp K cl H (.ref a) (.tup ds)
  | ins {a dx : Addr} {fs : List (Str × V)} {c : Nat} {ns : List Str} {ds : List Dt} : H a = some (.ins (cl c) dx fs) → fs.map (·.1) = ns → RpA K cl H (fs.map (·.2)) ds → Rp K cl H (.ref a) (.ins c ns ds)
  | scr {a : Addr} {ns : List Int} : SqL K H a (ns.map V.int) → Rp K cl H (.ref a) (.scr ns)
inductive RpA (K : Fg) (cl : Nat → Addr) (H : Hp) : List V → List Dt → Prop
  | nil : RpA K cl H [] []
  | cons {v : V} {vs : List V} {d : Dt} {ds : List Dt} : Rp K cl H v d → RpA K cl H vs ds → RpA K cl H (v :: vs) (d :: ds)
end
variable {K : Fg} {cl : Nat → Addr}
theorem same_t {H H' : Hp} {a : Addr} {xs : List V} (e : Same H H') (h : SqT K H a xs) : SqT K H' a xs := by
  rcases h with (h | ⟨o, h⟩) | h
  · exact .inl (.inl (e _ _ h))
  · exact .inl (.inr ⟨o, e _ _ h⟩)
  · exact .inr h
mutual
theorem Rp.mono {H H' : Hp} (e : Same H H') : ∀ (d : Dt) (v : V), Rp K cl H v d → Rp K cl H' v d
  | .non, _, h => by cases h; exact .non
  | .bl _, _, h => by cases h; exact .bl _
  | .int _, _, h => by cases h; exact .int _
  | .str _, _, h => by cases h; exact .str _
  | .lst ds, _, h => by cases h with | lst h1 h2 => exact .lst (e _ _ h1) (RpA.mono e ds _ h2)
  | .tup ds, _, h => by cases h with | tup h1 h2 => exact .tup (same_t e h1) (RpA.mono e ds _ h2)
  | .ins _ _ ds, _, h => by cases h with | ins h1 h2 h3 => exact .ins (e _ _ h1) h2 (RpA.mono e ds _ h3)
  | .scr _, _, h => by cases h with | scr h1 => exact .scr (e.seq h1)
theorem RpA.mono {H H' : Hp} (e : Same H H') : ∀ (ds : List Dt) (vs : List V), RpA K cl H vs ds → RpA K cl H' vs ds
  | [], _, h => by cases h; exact .nil
  | d :: ds, _, h => by cases h with | cons h1 h2 => exact .cons (Rp.mono e d _ h1) (RpA.mono e ds _ h2)
end
theorem RpA.length {H : Hp} : ∀ {vs : List V} {ds : List Dt}, RpA K cl H vs ds → vs.length = ds.length
  | _, _, .nil => rfl
  | _, _, .cons _ h => congrArg (· + 1) (RpA.length h)
theorem RpA.get {H : Hp} : ∀ {vs : List V} {ds : List Dt} {i : Nat} {d : Dt}, RpA K cl H vs ds → ds[i]? = some d → ∃ v, vs[i]? = some v ∧ Rp K cl H v d
  | _, _, _, _, .nil, e => by simp at e
  | _, _, 0, _, .cons h _, e => by
    simp at e
    subst e
    exact ⟨_, rfl, h⟩
  | _, _, i + 1, _, .cons _ h, e => by
    obtain ⟨v, h1, h2⟩ := RpA.get (i := i) h (by simpa using e)
    exact ⟨v, by simpa using h1, h2⟩
theorem RpA.get' {H : Hp} {vs : List V} {ds : List Dt} {i : Nat} {v : V} (h : RpA K cl H vs ds) (e : vs[i]? = some v) : ∃ d, ds[i]? = some d ∧ Rp K cl H v d := by
  have hl := h.length
  obtain ⟨h1, h2⟩ := List.getElem?_eq_some_iff.mp e
  obtain ⟨v', e', r⟩ := h.get (List.getElem?_eq_getElem (show i < ds.length by omega))
  rw [e] at e'
  cases e'
  exact ⟨_, List.getElem?_eq_getElem _, r⟩
theorem RpA.append {H : Hp} : ∀ {vs ws : List V} {ds es : List Dt}, RpA K cl H vs ds → RpA K cl H ws es → RpA K cl H (vs ++ ws) (ds ++ es)
  | _, _, _, _, .nil, h => h
  | _, _, _, _, .cons a b, h => .cons a (RpA.append b h)
theorem RpA.set {H : Hp} {v : V} {d : Dt} (r : Rp K cl H v d) : ∀ {vs : List V} {ds : List Dt} (i : Nat), RpA K cl H vs ds → RpA K cl H (vs.set i v) (ds.set i d)
  | _, _, _, .nil => .nil
  | _, _, 0, .cons _ b => .cons r b
  | _, _, i + 1, .cons a b => .cons a (RpA.set r i b)
theorem RpA.take {H : Hp} : ∀ {vs : List V} {ds : List Dt} (n : Nat), RpA K cl H vs ds → RpA K cl H (vs.take n) (ds.take n)
  | _, _, 0, _ => .nil
  | _, _, _ + 1, .nil => .nil
  | _, _, n + 1, .cons a b => .cons a (RpA.take n b)
theorem RpA.drop {H : Hp} : ∀ {vs : List V} {ds : List Dt} (n : Nat), RpA K cl H vs ds → RpA K cl H (vs.drop n) (ds.drop n)
  | _, _, 0, h => h
  | _, _, _ + 1, .nil => .nil
  | _, _, n + 1, .cons _ b => RpA.drop n b
theorem RpA.reverse {H : Hp} : ∀ {vs : List V} {ds : List Dt}, RpA K cl H vs ds → RpA K cl H vs.reverse ds.reverse
  | _, _, .nil => .nil
  | _, _, .cons a b => by
    rw [List.reverse_cons, List.reverse_cons]
    exact RpA.append (RpA.reverse b) (.cons a .nil)
theorem RpA.ints {H : Hp} : ∀ {vs : List V} {ns : List Int}, RpA K cl H vs (ns.map Dt.int) → vs = ns.map V.int
  | _, [], h => by cases h; rfl
  | _, n :: ns, h => by
    cases h with
    | cons h1 h2 =>
      cases h1
      rw [RpA.ints h2]
      rfl
theorem RpA.bls {H : Hp} : ∀ {vs : List V} {ns : List Bool}, RpA K cl H vs (ns.map Dt.bl) → vs = ns.map V.bl
  | _, [], h => by cases h; rfl
  | _, n :: ns, h => by
    cases h with
    | cons h1 h2 =>
      cases h1
      rw [RpA.bls h2]
      rfl
theorem RpA.ofInts {H : Hp} : ∀ (ns : List Int), RpA K cl H (ns.map V.int) (ns.map Dt.int)
  | [] => .nil
  | n :: ns => .cons (.int n) (RpA.ofInts ns)

/-! ### heaps with a part hidden -/
open Classical in
noncomputable def hd (M : Addr → Prop) (H : Hp) : Hp := fun a => if M a then none else H a
theorem hd_in {M : Addr → Prop} {H : Hp} {a : Addr} (h : M a) : hd M H a = none := by unfold hd; rw [if_pos h]
theorem hd_out {M : Addr → Prop} {H : Hp} {a : Addr} (h : ¬ M a) : hd M H a = H a := by unfold hd; rw [if_neg h]
theorem of_hd {M : Addr → Prop} {H : Hp} {a : Addr} {o : HO} (h : hd M H a = some o) : ¬ M a ∧ H a = some o := by
  by_cases hm : M a
  · rw [hd_in hm] at h; cases h
  · rw [hd_out hm] at h; exact ⟨hm, h⟩
theorem hd_same {M : Addr → Prop} {H : Hp} : Same (hd M H) H := fun a o h => (of_hd h).2
theorem hd_mono {M M' : Addr → Prop} {H H' : Hp} (hm : ∀ a, H a ≠ none → M' a → M a) (e : Same H H') : Same (hd M H) (hd M' H') := fun a o h => by
  obtain ⟨h1, h2⟩ := of_hd h
  rw [hd_out (fun z => h1 (hm a (by rw [h2]; simp) z))]
  exact e a o h2

/-! ### slots -/
/-- what an owned object holds -/
inductive Oc where
  | l (ds : List Dt)
  | t (kvs : List (List Key × Dt))
def RpO (K : Fg) (cl : Nat → Addr) (B : Hp) : HO → Oc → Prop
  | .lst vs, .l ds => RpA K cl B vs ds
  | .dT ws, .t kvs => ws.map (·.1) = kvs.map (·.1) ∧ RpA K cl B (ws.map (·.2)) (kvs.map (·.2))
  | _, _ => False
theorem RpO.mono {B B' : Hp} (e : Same B B') : ∀ {ho : HO} {o : Oc}, RpO K cl B ho o → RpO K cl B' ho o := by
  intro ho o h
  cases ho <;> cases o <;> first | exact h.elim | exact RpA.mono e _ _ h | exact ⟨h.1, RpA.mono e _ _ h.2⟩
inductive Sc where
  | un | d (x : Dt) | own (o : Oc) | par (o : Oc)
def Sc.isPar : Sc → Bool
  | .par _ => true
  | _ => false
@[simp] theorem isPar_un : Sc.isPar .un = false := rfl
@[simp] theorem isPar_d (x : Dt) : Sc.isPar (.d x) = false := rfl
@[simp] theorem isPar_own (o : Oc) : Sc.isPar (.own o) = false := rfl
@[simp] theorem isPar_par (o : Oc) : Sc.isPar (.par o) = true := rfl
def Sc.oc : Sc → Option Oc
  | .own o => some o
  | .par o => some o
  | _ => none
@[simp] theorem oc_un : Sc.oc .un = none := rfl
@[simp] theorem oc_d (x : Dt) : Sc.oc (.d x) = none := rfl
@[simp] theorem oc_own (o : Oc) : Sc.oc (.own o) = some o := rfl
@[simp] theorem oc_par (o : Oc) : Sc.oc (.par o) = some o := rfl
abbrev Env := List Sc
@[simp] def ocAt (env : Env) (i : Nat) : Option Oc := env[i]?.bind Sc.oc
/-- the addresses that are somebody's own -/
def MP (M0 : Addr → Prop) (as : Nat → Addr) (env : Env) (a : Addr) : Prop := M0 a ∨ ∃ i o, ocAt env i = some o ∧ as i = a
noncomputable def Bv (M0 : Addr → Prop) (as : Nat → Addr) (env : Env) (H : Hp) : Hp := hd (MP M0 as env) H
def SlOk (K : Fg) (cl : Nat → Addr) (B H : Hp) (l : Addr) (s : Option (Option V)) : Sc → Prop
  | .un => True
  | .d x => ∃ v, s = some (some v) ∧ Rp K cl B v x
  | .own o => s = some (some (.ref l)) ∧ ∃ ho, H l = some ho ∧ RpO K cl B ho o
  | .par o => s = some (some (.ref l)) ∧ ∃ ho, H l = some ho ∧ RpO K cl B ho o
structure StA (K : Fg) (cl : Nat → Addr) (Hin : Hp) (M0 : Addr → Prop) (as : Nat → Addr) (env : Env) (σ : L2.St) (H : Hp) : Prop where
  len : σ.length = env.length
  same : Same Hin H
  fr : ∀ i o, ocAt env i = some o → Hin (as i) = none
  m0 : ∀ a, M0 a → Hin a ≠ none
  inj : ∀ i j o o', ocAt env i = some o → ocAt env j = some o' → as i = as j → i = j
  sl : ∀ i sc, env[i]? = some sc → SlOk K cl (Bv M0 as env H) H (as i) (σ[i]?) sc
structure Step (M0 : Addr → Prop) (as : Nat → Addr) (env : Env) (H : Hp) (as' : Nat → Addr) (env' : Env) (H' : Hp) : Prop where
  b : Same (Bv M0 as env H) (Bv M0 as' env' H')
  p : ∀ i o, env[i]? = some (.par o) → as' i = as i ∧ ∃ o', env'[i]? = some (.par o')
theorem Step.refl {M0 : Addr → Prop} {as : Nat → Addr} {env : Env} {H : Hp} : Step M0 as env H as env H := ⟨Same.refl _, fun i o h => ⟨rfl, o, h⟩⟩
theorem Step.trans {M0 : Addr → Prop} {as as1 as2 : Nat → Addr} {env env1 env2 : Env} {H H1 H2 : Hp} (a : Step M0 as env H as1 env1 H1) (b : Step M0 as1 env1 H1 as2 env2 H2) : Step M0 as env H as2 env2 H2 :=
  ⟨a.b.trans b.b, fun i o h => by
    obtain ⟨e1, o1, h1⟩ := a.p i o h
    obtain ⟨e2, o2, h2⟩ := b.p i o1 h1
    exact ⟨e2.trans e1, o2, h2⟩⟩

section
variable {Hin H H' : Hp} {M0 : Addr → Prop} {as : Nat → Addr} {env : Env} {σ : L2.St} {i : Nat} {x : Dt} {v : V}
theorem ocAt_own {o : Oc} (h : env[i]? = some (.own o)) : ocAt env i = some o := by unfold ocAt; rw [h]; rfl
theorem ocAt_par {o : Oc} (h : env[i]? = some (.par o)) : ocAt env i = some o := by unfold ocAt; rw [h]; rfl
theorem ocAt_set {s : Sc} (hi : i < env.length) : ocAt (env.set i s) i = s.oc := by
  unfold ocAt
  rw [List.getElem?_set_self hi]
  rfl
theorem ocAt_ne {s : Sc} {j : Nat} (h : j ≠ i) : ocAt (env.set i s) j = ocAt env j := by
  unfold ocAt
  rw [List.getElem?_set_ne (Ne.symm h)]
theorem StA.own_at (S : StA K cl Hin M0 as env σ H) {o : Oc} (h : ocAt env i = some o) : σ[i]? = some (some (.ref (as i))) ∧ ∃ ho, H (as i) = some ho ∧ RpO K cl (Bv M0 as env H) ho o := by
  unfold ocAt at h
  cases e : env[i]? with
  | none => rw [e] at h; cases h
  | some s =>
    rw [e] at h
    have q := S.sl i s e
    cases s with
    | un => cases h
    | d => cases h
    | own o' => cases h; exact q
    | par o' => cases h; exact q
theorem StA.dom (S : StA K cl Hin M0 as env σ H) {a : Addr} (h : MP M0 as env a) : H a ≠ none := by
  rcases h with h | ⟨i, o, h, rfl⟩
  · have q := S.m0 a h
    cases e : Hin a with
    | none => exact absurd e q
    | some o => rw [S.same a o e]; simp
  · obtain ⟨_, ho, e, _⟩ := S.own_at h
    rw [e]; simp
/-- the heap grows -/
theorem StA.grow (S : StA K cl Hin M0 as env σ H) (e : Same H H') : StA K cl Hin M0 as env σ H' ∧ Step M0 as env H as env H' := by
  have hb : Same (Bv M0 as env H) (Bv M0 as env H') := hd_mono (fun _ _ h => h) e
  refine ⟨⟨S.len, S.same.trans e, S.fr, S.m0, S.inj, fun j s h => ?_⟩, hb, fun i o h => ⟨rfl, o, h⟩⟩
  have q := S.sl j s h
  cases s with
  | un => trivial
  | d y => obtain ⟨v, h1, h2⟩ := q; exact ⟨v, h1, Rp.mono hb _ _ h2⟩
  | own o => obtain ⟨h1, ho, h2, h3⟩ := q; exact ⟨h1, ho, e _ _ h2, h3.mono hb⟩
  | par o => obtain ⟨h1, ho, h2, h3⟩ := q; exact ⟨h1, ho, e _ _ h2, h3.mono hb⟩
theorem same_upd {H : Hp} {p : Addr} {o : HO} (h : H p = none) : Same H (upd H p o) := fun b x e => by
  rw [upd_ne (ne_of_none e h)]
  exact e
theorem StA.fresh (S : StA K cl Hin M0 as env σ H) {p : Addr} (h : H p = none) : ¬ MP M0 as env p := fun z => S.dom z h
theorem Bv_new (S : StA K cl Hin M0 as env σ H) {p : Addr} {o : HO} (h : H p = none) : Bv M0 as env (upd H p o) p = some o := by
  unfold Bv
  rw [hd_out (S.fresh h)]
  exact upd_same
/-- a slot takes data -/
theorem StA.setD (S : StA K cl Hin M0 as env σ H) (hi : i < env.length) (hp : ∀ o, env[i]? ≠ some (.par o)) (r : Rp K cl (Bv M0 as env H) v x) :
    StA K cl Hin M0 as (env.set i (.d x)) (σ.set i (some v)) H ∧ Step M0 as env H as (env.set i (.d x)) H := by
  have hm : ∀ a, MP M0 as (env.set i (.d x)) a → MP M0 as env a := fun a h => by
    rcases h with h | ⟨j, o, h, e⟩
    · exact .inl h
    · by_cases hj : j = i
      · subst hj; rw [ocAt_set hi] at h; cases h
      · rw [ocAt_ne hj] at h; exact .inr ⟨j, o, h, e⟩
  have hb : Same (Bv M0 as env H) (Bv M0 as (env.set i (.d x)) H) := hd_mono (fun a _ h => hm a h) (Same.refl _)
  have ho : ∀ j o, ocAt (env.set i (.d x)) j = some o → ocAt env j = some o := fun j o h => by
    by_cases hj : j = i
    · subst hj; rw [ocAt_set hi] at h; cases h
    · rw [ocAt_ne hj] at h; exact h
  refine ⟨⟨by rw [List.length_set, List.length_set]; exact S.len, S.same, fun j o h => S.fr j o (ho j o h), S.m0, fun j k o o' h h' e => S.inj j k o o' (ho j o h) (ho k o' h') e, fun j s h => ?_⟩, hb, fun j o h => ?_⟩
  · by_cases hj : j = i
    · subst hj
      rw [List.getElem?_set_self hi] at h
      cases h
      exact ⟨v, by rw [List.getElem?_set_self (by rw [S.len]; exact hi)], Rp.mono hb _ _ r⟩
    · rw [List.getElem?_set_ne (Ne.symm hj)] at h ⊢
      have q := S.sl j s h
      cases s with
      | un => trivial
      | d y => obtain ⟨v, h1, h2⟩ := q; exact ⟨v, h1, Rp.mono hb _ _ h2⟩
      | own o => obtain ⟨h1, ho, h2, h3⟩ := q; exact ⟨h1, ho, h2, h3.mono hb⟩
      | par o => obtain ⟨h1, ho, h2, h3⟩ := q; exact ⟨h1, ho, h2, h3.mono hb⟩
  · have hj : j ≠ i := fun z => by subst z; exact hp o h
    exact ⟨rfl, o, by rw [List.getElem?_set_ne (Ne.symm hj)]; exact h⟩
theorem set_same {α : Type} {l : List α} {i : Nat} {x : α} (h : l[i]? = some x) : l.set i x = l := by
  apply List.ext_getElem?
  intro j
  by_cases hj : i = j
  · subst hj
    rw [List.getElem?_set_self (List.getElem?_eq_some_iff.mp h).1, h]
  · rw [List.getElem?_set_ne hj]
/-- an owned list is given free -/
theorem StA.thaw (S : StA K cl Hin M0 as env σ H) {ds : List Dt} (h : env[i]? = some (.own (.l ds))) :
    StA K cl Hin M0 as (env.set i (.d (.lst ds))) σ H ∧ Step M0 as env H as (env.set i (.d (.lst ds))) H ∧ Rp K cl (Bv M0 as (env.set i (.d (.lst ds))) H) (.ref (as i)) (.lst ds) := by
  have hi : i < env.length := (List.getElem?_eq_some_iff.mp h).1
  obtain ⟨h1, ho, h2, h3⟩ := S.own_at (ocAt_own h)
  have hm : ∀ a, MP M0 as (env.set i (.d (.lst ds))) a → MP M0 as env a := fun a h => by
    rcases h with h | ⟨j, o, h, e⟩
    · exact .inl h
    · by_cases hj : j = i
      · subst hj; rw [ocAt_set hi] at h; cases h
      · rw [ocAt_ne hj] at h; exact .inr ⟨j, o, h, e⟩
  have hb : Same (Bv M0 as env H) (Bv M0 as (env.set i (.d (.lst ds))) H) := hd_mono (fun a _ h => hm a h) (Same.refl _)
  have hnot : ¬ MP M0 as (env.set i (.d (.lst ds))) (as i) := fun z => by
    rcases z with z | ⟨j, o, z, e⟩
    · exact S.m0 _ z (S.fr i _ (ocAt_own h))
    · have hj : j ≠ i := fun y => by subst y; rw [ocAt_set hi] at z; cases z
      rw [ocAt_ne hj] at z
      exact hj (S.inj j i o _ z (ocAt_own h) e)
  have hr : Rp K cl (Bv M0 as (env.set i (.d (.lst ds))) H) (.ref (as i)) (.lst ds) := by
    cases ho with
    | lst vs =>
      refine .lst (xs := vs) ?_ (RpA.mono hb _ _ h3)
      unfold Bv
      rw [hd_out hnot]
      exact h2
    | _ => exact h3.elim
  have hoo : ∀ j o, ocAt (env.set i (.d (.lst ds))) j = some o → ocAt env j = some o := fun j o h => by
    by_cases hj : j = i
    · subst hj; rw [ocAt_set hi] at h; cases h
    · rw [ocAt_ne hj] at h; exact h
  refine ⟨⟨by rw [List.length_set]; exact S.len, S.same, fun j o h => S.fr j o (hoo j o h), S.m0, fun j k o o' h h' e => S.inj j k o o' (hoo j o h) (hoo k o' h') e, fun j s hs => ?_⟩, ⟨hb, fun j o hj => ?_⟩, hr⟩
  · by_cases hj : j = i
    · subst hj
      rw [List.getElem?_set_self hi] at hs
      cases hs
      exact ⟨_, h1, hr⟩
    · rw [List.getElem?_set_ne (Ne.symm hj)] at hs
      have q := S.sl j s hs
      cases s with
      | un => trivial
      | d y => obtain ⟨v, h1, h2⟩ := q; exact ⟨v, h1, Rp.mono hb _ _ h2⟩
      | own o => obtain ⟨h1, ho, h2, h3⟩ := q; exact ⟨h1, ho, h2, h3.mono hb⟩
      | par o => obtain ⟨h1, ho, h2, h3⟩ := q; exact ⟨h1, ho, h2, h3.mono hb⟩
  · have hji : j ≠ i := fun z => by subst z; rw [h] at hj; cases hj
    exact ⟨rfl, o, by rw [List.getElem?_set_ne (Ne.symm hji)]; exact hj⟩
/-- what an owned object holds is changed -/
theorem StA.mut (S : StA K cl Hin M0 as env σ H) {o o' : Oc} {s' : Sc} {ho : HO} (h : ocAt env i = some o) (hs' : s'.oc = some o') (hk : (∃ p, env[i]? = some (.par p)) → ∃ p, s' = .par p) (r : RpO K cl (Bv M0 as env H) ho o') :
    StA K cl Hin M0 as (env.set i s') σ (upd H (as i) ho) ∧ Step M0 as env H as (env.set i s') (upd H (as i) ho) := by
  have hi : i < env.length := by
    unfold ocAt at h
    cases e : env[i]? with
    | none => rw [e] at h; cases h
    | some s => exact (List.getElem?_eq_some_iff.mp e).1
  have hm : MP M0 as (env.set i s') = MP M0 as env := by
    funext a
    refine propext ⟨fun z => ?_, fun z => ?_⟩
    · rcases z with z | ⟨j, p, z, e⟩
      · exact .inl z
      · by_cases hj : j = i
        · subst hj; exact .inr ⟨j, o, h, e⟩
        · rw [ocAt_ne hj] at z; exact .inr ⟨j, p, z, e⟩
    · rcases z with z | ⟨j, p, z, e⟩
      · exact .inl z
      · by_cases hj : j = i
        · subst hj; exact .inr ⟨j, o', by rw [ocAt_set hi]; exact hs', e⟩
        · exact .inr ⟨j, p, by rw [ocAt_ne hj]; exact z, e⟩
  have hin : MP M0 as env (as i) := .inr ⟨i, o, h, rfl⟩
  have hb : Bv M0 as (env.set i s') (upd H (as i) ho) = Bv M0 as env H := by
    unfold Bv
    rw [hm]
    funext a
    by_cases ha : MP M0 as env a
    · rw [hd_in ha, hd_in ha]
    · rw [hd_out ha, hd_out ha, upd_ne (fun z => ha (by rw [z]; exact hin))]
  have hoo : ∀ j p, ocAt (env.set i s') j = some p → ∃ p', ocAt env j = some p' := fun j p z => by
    by_cases hj : j = i
    · subst hj; exact ⟨o, h⟩
    · rw [ocAt_ne hj] at z; exact ⟨p, z⟩
  refine ⟨⟨by rw [List.length_set]; exact S.len, fun a u e => ?_, fun j p z => ?_, S.m0, fun j k p p' z z' e => ?_, fun j s hs => ?_⟩, ⟨by rw [hb]; exact Same.refl _, fun j p hj => ?_⟩⟩
  · rw [upd_ne (ne_of_none e (S.fr i o h))]
    exact S.same a u e
  · obtain ⟨p', z'⟩ := hoo j p z
    exact S.fr j p' z'
  · obtain ⟨q, zq⟩ := hoo j p z
    obtain ⟨q', zq'⟩ := hoo k p' z'
    exact S.inj j k q q' zq zq' e
  · rw [hb]
    by_cases hj : j = i
    · subst hj
      rw [List.getElem?_set_self hi] at hs
      cases hs
      obtain ⟨h1, _⟩ := S.own_at h
      have hq : SlOk K cl (Bv M0 as env H) (upd H (as j) ho) (as j) (σ[j]?) s' := by
        cases s' with
        | un => cases hs'
        | d => cases hs'
        | own p => cases hs'; exact ⟨h1, ho, upd_same, r⟩
        | par p => cases hs'; exact ⟨h1, ho, upd_same, r⟩
      exact hq
    · rw [List.getElem?_set_ne (Ne.symm hj)] at hs
      have q := S.sl j s hs
      have hne : ∀ p, ocAt env j = some p → as j ≠ as i := fun p z e => hj (S.inj j i p o z h e)
      cases s with
      | un => trivial
      | d y => exact q
      | own p => obtain ⟨h1, hq, h2, h3⟩ := q; exact ⟨h1, hq, by rw [upd_ne (hne p (ocAt_own hs))]; exact h2, h3⟩
      | par p => obtain ⟨h1, hq, h2, h3⟩ := q; exact ⟨h1, hq, by rw [upd_ne (hne p (ocAt_par hs))]; exact h2, h3⟩
  · by_cases hji : j = i
    · subst hji
      obtain ⟨q, rfl⟩ := hk ⟨p, hj⟩
      exact ⟨rfl, q, List.getElem?_set_self hi⟩
    · exact ⟨rfl, p, by rw [List.getElem?_set_ne (Ne.symm hji)]; exact hj⟩
def asSet (as : Nat → Addr) (i : Nat) (p : Addr) : Nat → Addr := fun j => if j = i then p else as j
theorem asSet_eq {i j : Nat} {p : Addr} (h : j = i) : asSet as i p j = p := if_pos h
theorem asSet_ne {i j : Nat} {p : Addr} (h : ¬ j = i) : asSet as i p j = as j := if_neg h
/-- a slot takes a new object as its own -/
theorem StA.setO (S : StA K cl Hin M0 as env σ H) {p : Addr} {ho : HO} {o : Oc} (hi : i < env.length) (hp : ∀ o, env[i]? ≠ some (.par o)) (hn : H p = none) (r : RpO K cl (Bv M0 as env H) ho o) :
    StA K cl Hin M0 (asSet as i p) (env.set i (.own o)) (σ.set i (some (.ref p))) (upd H p ho) ∧ Step M0 as env H (asSet as i p) (env.set i (.own o)) (upd H p ho) := by
  have hpn : ∀ j q, ocAt env j = some q → as j ≠ p := fun j q z e => by
    obtain ⟨_, _, e2, _⟩ := S.own_at z
    rw [e, hn] at e2
    cases e2
  have hinn : Hin p = none := S.same.free hn
  have hb : Same (Bv M0 as env H) (Bv M0 (asSet as i p) (env.set i (.own o)) (upd H p ho)) := hd_mono (fun a ha z => by
    rcases z with z | ⟨j, q, z, e⟩
    · exact .inl z
    · by_cases hj : j = i
      · rw [asSet_eq hj] at e
        subst e
        exact absurd hn ha
      · rw [asSet_ne hj] at e
        rw [ocAt_ne hj] at z
        exact .inr ⟨j, q, z, e⟩) (same_upd hn)
  refine ⟨⟨by rw [List.length_set, List.length_set]; exact S.len, S.same.trans (same_upd hn), fun j q z => ?_, S.m0, fun j k q q' z z' e => ?_, fun j s hs => ?_⟩, ⟨hb, fun j q hj => ?_⟩⟩
  · by_cases hj : j = i
    · rw [asSet_eq hj]; exact hinn
    · rw [asSet_ne hj]; rw [ocAt_ne hj] at z; exact S.fr j q z
  · by_cases hj : j = i
    · by_cases hk : k = i
      · rw [hj, hk]
      · rw [asSet_eq hj, asSet_ne hk] at e
        rw [ocAt_ne hk] at z'
        exact absurd e.symm (hpn k q' z')
    · by_cases hk : k = i
      · rw [asSet_ne hj, asSet_eq hk] at e
        rw [ocAt_ne hj] at z
        exact absurd e (hpn j q z)
      · rw [asSet_ne hj, asSet_ne hk] at e
        rw [ocAt_ne hj] at z
        rw [ocAt_ne hk] at z'
        exact S.inj j k q q' z z' e
  · by_cases hj : j = i
    · subst hj
      rw [List.getElem?_set_self hi] at hs
      cases hs
      refine ⟨by rw [List.getElem?_set_self (by rw [S.len]; exact hi), asSet_eq rfl], ho, by rw [asSet_eq rfl]; exact upd_same, r.mono hb⟩
    · rw [List.getElem?_set_ne (Ne.symm hj)] at hs ⊢
      have q := S.sl j s hs
      cases s with
      | un => trivial
      | d y => obtain ⟨v, h1, h2⟩ := q; exact ⟨v, h1, Rp.mono hb _ _ h2⟩
      | own p' =>
        obtain ⟨h1, hq, h2, h3⟩ := q
        exact ⟨by rw [asSet_ne hj]; exact h1, hq, by rw [asSet_ne hj, upd_ne (hpn j _ (ocAt_own hs))]; exact h2, h3.mono hb⟩
      | par p' =>
        obtain ⟨h1, hq, h2, h3⟩ := q
        exact ⟨by rw [asSet_ne hj]; exact h1, hq, by rw [asSet_ne hj, upd_ne (hpn j _ (ocAt_par hs))]; exact h2, h3.mono hb⟩
  · have hji : j ≠ i := fun z => by subst z; exact hp q hj
    exact ⟨asSet_ne hji, q, by rw [List.getElem?_set_ne (Ne.symm hji)]; exact hj⟩
end
end DL

set_option Elab.async false
set_option linter.all false
set_option maxRecDepth 100000
set_option maxHeartbeats 4000000
namespace DL
open PySem PySem.Spec PyProof.Rows L2
variable {K : Fg} {cl : Nat → Addr}

/-! ### evaluators -/
abbrev EvE := Env → Option (Dt × Env)
abbrev EvT := Env → Option (Bool × Env)
abbrev EvA := Env → Option (List Dt × Env)
inductive Rs where
  | nx (e : Env) | rt (x : Dt) (e : Env) | bk (e : Env) | ct (e : Env)
abbrev EvS := Env → Option Rs

def SE (K : Fg) (cl : Nat → Addr) (te : TE) (ev : EvE) : Prop := ∀ (Hin : Hp) (M0 : Addr → Prop) (as : Nat → Addr) (env : Env) (σ : L2.St) (H : Hp) (Q : VK) (x : Dt) (env' : Env), ev env = some (x, env') → StA K cl Hin M0 as env σ H →
  (∀ v H', StA K cl Hin M0 as env' σ H' → Step M0 as env H as env' H' → Rp K cl (Bv M0 as env' H') v x → Q v H') → te σ H Q
def ST (K : Fg) (cl : Nat → Addr) (tt : TT) (ev : EvT) : Prop := ∀ (Hin : Hp) (M0 : Addr → Prop) (as : Nat → Addr) (env : Env) (σ : L2.St) (H : Hp) (Q : Bool → Hp → Prop) (b : Bool) (env' : Env), ev env = some (b, env') → StA K cl Hin M0 as env σ H →
  (∀ H', StA K cl Hin M0 as env' σ H' → Step M0 as env H as env' H' → Q b H') → tt σ H Q
def SA (K : Fg) (cl : Nat → Addr) (ta : TA) (ev : EvA) : Prop := ∀ (Hin : Hp) (M0 : Addr → Prop) (as : Nat → Addr) (env : Env) (σ : L2.St) (H : Hp) (Q : List V → Hp → Prop) (ds : List Dt) (env' : Env), ev env = some (ds, env') → StA K cl Hin M0 as env σ H →
  (∀ vs H', StA K cl Hin M0 as env' σ H' → Step M0 as env H as env' H' → RpA K cl (Bv M0 as env' H') vs ds → Q vs H') → ta σ H Q
/-- a new list -/
def SL (K : Fg) (cl : Nat → Addr) (te : TE) (ev : EvA) : Prop := ∀ (Hin : Hp) (M0 : Addr → Prop) (as : Nat → Addr) (env : Env) (σ : L2.St) (H : Hp) (Q : VK) (ds : List Dt) (env' : Env), ev env = some (ds, env') → StA K cl Hin M0 as env σ H →
  (∀ p vs H1, StA K cl Hin M0 as env' σ H1 → Step M0 as env H as env' H1 → H1 p = none → RpA K cl (Bv M0 as env' H1) vs ds → Q (.ref p) (upd H1 p (.lst vs))) → te σ H Q
def RsOk (K : Fg) (cl : Nat → Addr) (Hin : Hp) (M0 : Addr → Prop) (as : Nat → Addr) (env : Env) (H : Hp) (D : Ends) : Rs → Prop
  | .nx e => ∀ as' σ' H', StA K cl Hin M0 as' e σ' H' → Step M0 as env H as' e H' → D.nx σ' H'
  | .bk e => ∀ as' σ' H', StA K cl Hin M0 as' e σ' H' → Step M0 as env H as' e H' → D.bk σ' H'
  | .ct e => ∀ as' σ' H', StA K cl Hin M0 as' e σ' H' → Step M0 as env H as' e H' → D.ct σ' H'
  | .rt x e => ∀ as' σ' H' v, StA K cl Hin M0 as' e σ' H' → Step M0 as env H as' e H' → Rp K cl (Bv M0 as' e H') v x → D.rt v H'
def SS (K : Fg) (cl : Nat → Addr) (ts : TS) (ev : EvS) : Prop := ∀ (Hin : Hp) (M0 : Addr → Prop) (as : Nat → Addr) (env : Env) (σ : L2.St) (H : Hp) (D : Ends) (r : Rs), ev env = some r → StA K cl Hin M0 as env σ H →
  RsOk K cl Hin M0 as env H D r → ts D σ H
theorem RsOk.step {Hin H H1 : Hp} {M0 : Addr → Prop} {as as1 : Nat → Addr} {env env1 : Env} {D : Ends} (st : Step M0 as env H as1 env1 H1) : ∀ {r : Rs}, RsOk K cl Hin M0 as env H D r → RsOk K cl Hin M0 as1 env1 H1 D r
  | .nx _, h => fun as' σ' H' S q => h as' σ' H' S (st.trans q)
  | .bk _, h => fun as' σ' H' S q => h as' σ' H' S (st.trans q)
  | .ct _, h => fun as' σ' H' S q => h as' σ' H' S (st.trans q)
  | .rt _ _, h => fun as' σ' H' v S q => h as' σ' H' v S (st.trans q)

structure VE (cl : Nat → Addr) (X : Cx) (e : Expr) (te : TE) (ev : EvE) : Prop where
  pe : PE X e te
  so : SE X.K cl te ev
structure VT (cl : Nat → Addr) (X : Cx) (e : Expr) (tt : TT) (ev : EvT) : Prop where
  pe : PT X e tt
  so : ST X.K cl tt ev
structure VW (cl : Nat → Addr) (X : Cx) (e : Expr) (tt : TT) (ev : EvT) : Prop where
  pe : PW X e tt
  so : ST X.K cl tt ev
structure VA (cl : Nat → Addr) (X : Cx) (es : List Expr) (ta : TA) (ev : EvA) : Prop where
  pe : PA X es ta
  so : SA X.K cl ta ev
structure VL (cl : Nat → Addr) (X : Cx) (e : Expr) (te : TE) (ev : EvA) : Prop where
  pe : PE X e te
  so : SL X.K cl te ev
structure VS (cl : Nat → Addr) (X : Cx) (s : Stmt) (ts : TS) (ev : EvS) : Prop where
  pe : PS X s ts
  so : SS X.K cl ts ev
structure VB (cl : Nat → Addr) (X : Cx) (s : List Stmt) (ts : TS) (ev : EvS) : Prop where
  pe : PSs X s ts
  so : SS X.K cl ts ev

/-! ### names and constants -/
@[simp] def xVar (i : Nat) : EvE := fun env => match env[i]? with
  | some (.d x) => some (x, env)
  | some (.own (.l ds)) => some (.lst ds, env.set i (.d (.lst ds)))
  | _ => none
theorem se_var (i : Nat) : SE K cl (tVar i) (xVar i) := fun Hin M0 as env σ H Q x env' h S q => by
  unfold xVar at h
  split at h
  · rename_i y e
    cases h
    obtain ⟨v, h1, h2⟩ := S.sl i _ e
    exact ⟨v, h1, q v H S Step.refl h2⟩
  · rename_i ds e
    cases h
    obtain ⟨S', st, r⟩ := S.thaw e
    exact ⟨_, (S.own_at (ocAt_own e)).1, q _ H S' st r⟩
  · cases h
@[simp] def xC (x : Dt) : EvE := fun env => some (x, env)
theorem se_c {v : V} {x : Dt} (h : ∀ B, Rp K cl B v x) : SE K cl (tC v) (xC x) := fun Hin M0 as env σ H Q y env' e S q => by
  cases e
  exact q v H S Step.refl (h _)

/-! ### operations by values -/
def OpS (K : Fg) (cl : Nat → Addr) (r : R2) (f : Dt → Dt → Option Dt) : Prop := ∀ (Hin : Hp) (M0 : Addr → Prop) (as : Nat → Addr) (env : Env) (σ : L2.St) (H : Hp) (Q : VK) (x y z : Dt) (v w : V), f x y = some z → StA K cl Hin M0 as env σ H →
  Rp K cl (Bv M0 as env H) v x → Rp K cl (Bv M0 as env H) w y → (∀ u H', StA K cl Hin M0 as env σ H' → Step M0 as env H as env H' → Rp K cl (Bv M0 as env H') u z → Q u H') → r v w H Q
def UnS (K : Fg) (cl : Nat → Addr) (r : V → Hp → VK → Prop) (f : Dt → Option Dt) : Prop := ∀ (Hin : Hp) (M0 : Addr → Prop) (as : Nat → Addr) (env : Env) (σ : L2.St) (H : Hp) (Q : VK) (x z : Dt) (v : V), f x = some z → StA K cl Hin M0 as env σ H →
  Rp K cl (Bv M0 as env H) v x → (∀ u H', StA K cl Hin M0 as env σ H' → Step M0 as env H as env H' → Rp K cl (Bv M0 as env H') u z → Q u H') → r v H Q
def CaS (K : Fg) (cl : Nat → Addr) (r : List V → Hp → VK → Prop) (f : List Dt → Option Dt) : Prop := ∀ (Hin : Hp) (M0 : Addr → Prop) (as : Nat → Addr) (env : Env) (σ : L2.St) (H : Hp) (Q : VK) (xs : List Dt) (z : Dt) (vs : List V), f xs = some z → StA K cl Hin M0 as env σ H →
  RpA K cl (Bv M0 as env H) vs xs → (∀ u H', StA K cl Hin M0 as env σ H' → Step M0 as env H as env H' → Rp K cl (Bv M0 as env H') u z → Q u H') → r vs H Q
@[simp] def x2 (f : Dt → Dt → Option Dt) (a b : EvE) : EvE := fun env => (a env).bind fun p => (b p.2).bind fun q => (f p.1 q.1).map fun z => (z, q.2)
@[simp] def x1 (f : Dt → Option Dt) (a : EvE) : EvE := fun env => (a env).bind fun p => (f p.1).map fun z => (z, p.2)
@[simp] def xB (f : List Dt → Option Dt) (a : EvA) : EvE := fun env => (a env).bind fun p => (f p.1).map fun z => (z, p.2)
section
variable {ta tb tc te : TE} {ea eb ec : EvE} {r : R2} {f : Dt → Dt → Option Dt}
theorem bind_some {α β : Type} {o : Option α} {g : α → Option β} {b : β} (h : o.bind g = some b) : ∃ a, o = some a ∧ g a = some b := by
  cases o with
  | none => cases h
  | some a => exact ⟨a, rfl, h⟩
theorem map_some {α β : Type} {o : Option α} {g : α → β} {b : β} (h : o.map g = some b) : ∃ a, o = some a ∧ g a = b := by
  cases o with
  | none => cases h
  | some a => exact ⟨a, rfl, Option.some.inj h⟩
theorem se_op (hr : OpS K cl r f) (ha : SE K cl ta ea) (hb : SE K cl tb eb) : SE K cl (tOp r ta tb) (x2 f ea eb) := fun Hin M0 as env σ H Q x env' h S q => by
  obtain ⟨⟨x1, e1⟩, h1, h⟩ := bind_some h
  obtain ⟨⟨x2, e2⟩, h2, h⟩ := bind_some h
  obtain ⟨z, h3, h⟩ := map_some h
  cases h
  refine ha Hin M0 as env σ H _ x1 e1 h1 S fun v H1 S1 s1 r1 => ?_
  refine hb Hin M0 as e1 σ H1 _ x2 e2 h2 S1 fun w H2 S2 s2 r2 => ?_
  exact hr Hin M0 as e2 σ H2 Q x1 x2 x v w h3 S2 (Rp.mono s2.b _ _ r1) r2 fun u H3 S3 s3 r3 => q u H3 S3 ((s1.trans s2).trans s3) r3
theorem se_un {r : V → Hp → VK → Prop} {f : Dt → Option Dt} (hr : UnS K cl r f) (ha : SE K cl ta ea) : SE K cl (tUn r ta) (x1 f ea) := fun Hin M0 as env σ H Q x env' h S q => by
  obtain ⟨⟨x1, e1⟩, h1, h⟩ := bind_some h
  obtain ⟨z, h3, h⟩ := map_some h
  cases h
  refine ha Hin M0 as env σ H _ x1 e1 h1 S fun v H1 S1 s1 r1 => ?_
  exact hr Hin M0 as e1 σ H1 Q x1 x v h3 S1 r1 fun u H3 S3 s3 r3 => q u H3 S3 (s1.trans s3) r3
theorem se_cb {r : List V → Hp → VK → Prop} {f : List Dt → Option Dt} {t : TA} {ev : EvA} (hr : CaS K cl r f) (ha : SA K cl t ev) : SE K cl (tCB r t) (xB f ev) := fun Hin M0 as env σ H Q x env' h S q => by
  obtain ⟨⟨x1, e1⟩, h1, h⟩ := bind_some h
  obtain ⟨z, h3, h⟩ := map_some h
  cases h
  refine ha Hin M0 as env σ H _ x1 e1 h1 S fun v H1 S1 s1 r1 => ?_
  exact hr Hin M0 as e1 σ H1 Q x1 x v h3 S1 r1 fun u H3 S3 s3 r3 => q u H3 S3 (s1.trans s3) r3
end
@[simp] def fI (g : Int → Int → Dt) : Dt → Dt → Option Dt
  | .int i, .int j => some (g i j)
  | _, _ => none
@[simp] def fIc (c : Int → Int → Bool) (g : Int → Int → Dt) : Dt → Dt → Option Dt
  | .int i, .int j => if c i j = true then some (g i j) else none
  | _, _ => none
theorem ops_I0 {g : Int → Int → V} {g' : Int → Int → Dt} (hg : ∀ i j B, Rp K cl B (g i j) (g' i j)) : OpS K cl (rI0 g) (fI g') := fun Hin M0 as env σ H Q x y z v w h S r1 r2 q => by
  unfold fI at h
  split at h
  · cases h
    cases r1
    cases r2
    exact ⟨_, _, rfl, rfl, q _ H S Step.refl (hg _ _ _)⟩
  · cases h
theorem ops_I {C : Int → Int → Prop} {c : Int → Int → Bool} {g : Int → Int → V} {g' : Int → Int → Dt} (hc : ∀ i j, c i j = true → C i j) (hg : ∀ i j B, Rp K cl B (g i j) (g' i j)) : OpS K cl (rI C g) (fIc c g') := fun Hin M0 as env σ H Q x y z v w h S r1 r2 q => by
  unfold fIc at h
  split at h
  · split at h
    · rename_i hh
      cases h
      cases r1
      cases r2
      exact ⟨_, _, rfl, rfl, hc _ _ hh, q _ H S Step.refl (hg _ _ _)⟩
    · cases h
  · cases h
/-- a test by a value -/
@[simp] def xT (a : EvE) : EvT := fun env => (a env).bind fun p => match p.1 with
  | .bl b => some (b, p.2)
  | _ => none
theorem st_test {te : TE} {ev : EvE} (h : SE K cl te ev) : ST K cl (tTest te) (xT ev) := fun Hin M0 as env σ H Q b env' e S q => by
  obtain ⟨⟨x, e1⟩, h1, h2⟩ := bind_some e
  cases x with
  | bl c =>
    cases h2
    refine h Hin M0 as env σ H _ _ _ h1 S fun v H1 S1 s1 r1 => ?_
    cases r1
    exact ⟨_, rfl, q H1 S1 s1⟩
  | _ => cases h2
@[simp] def xAndT (a b : EvT) : EvT := fun env => (a env).bind fun p => if p.1 = true then b p.2 else some (false, p.2)
@[simp] def xOrT (a b : EvT) : EvT := fun env => (a env).bind fun p => if p.1 = true then some (true, p.2) else b p.2
@[simp] def xNotT (a : EvT) : EvT := fun env => (a env).map fun p => (!p.1, p.2)
theorem st_and {t u : TT} {a b : EvT} (ha : ST K cl t a) (hb : ST K cl u b) : ST K cl (tAnd t u) (xAndT a b) := fun Hin M0 as env σ H Q z env' e S q => by
  obtain ⟨⟨x, e1⟩, h1, h2⟩ := bind_some e
  refine ha Hin M0 as env σ H _ _ _ h1 S fun H1 S1 s1 => ?_
  cases x with
  | true => exact iteT (hb Hin M0 as e1 σ H1 Q _ _ (by simpa using h2) S1 fun H2 S2 s2 => q H2 S2 (s1.trans s2))
  | false =>
    cases (show some (false, e1) = some (z, env') by simpa using h2)
    exact iteF (q H1 S1 s1)
theorem st_or {t u : TT} {a b : EvT} (ha : ST K cl t a) (hb : ST K cl u b) : ST K cl (tOr t u) (xOrT a b) := fun Hin M0 as env σ H Q z env' e S q => by
  obtain ⟨⟨x, e1⟩, h1, h2⟩ := bind_some e
  refine ha Hin M0 as env σ H _ _ _ h1 S fun H1 S1 s1 => ?_
  cases x with
  | false => exact iteF (hb Hin M0 as e1 σ H1 Q _ _ (by simpa using h2) S1 fun H2 S2 s2 => q H2 S2 (s1.trans s2))
  | true =>
    cases (show some (true, e1) = some (z, env') by simpa using h2)
    exact iteT (q H1 S1 s1)
theorem st_not {t : TT} {a : EvT} (ha : ST K cl t a) : ST K cl (tNot t) (xNotT a) := fun Hin M0 as env σ H Q z env' e S q => by
  obtain ⟨⟨x, e1⟩, h1, h2⟩ := map_some e
  cases h2
  exact ha Hin M0 as env σ H _ _ _ h1 S fun H1 S1 s1 => q H1 S1 s1
@[simp] def xAnd (a b : EvE) : EvE := fun env => (a env).bind fun p => match p.1 with
  | .bl c => if c = true then b p.2 else some (.bl false, p.2)
  | _ => none
@[simp] def xOr (a b : EvE) : EvE := fun env => (a env).bind fun p => match p.1 with
  | .bl c => if c = true then some (.bl true, p.2) else b p.2
  | _ => none
@[simp] def xNot (a : EvE) : EvE := fun env => (a env).bind fun p => match p.1 with
  | .bl c => some (.bl (!c), p.2)
  | _ => none
theorem se_and {ta tb : TE} {a b : EvE} (ha : SE K cl ta a) (hb : SE K cl tb b) : SE K cl (tAndV ta tb) (xAnd a b) := fun Hin M0 as env σ H Q z env' e S q => by
  obtain ⟨⟨x, e1⟩, h1, h2⟩ := bind_some e
  cases x with
  | bl c =>
    refine ha Hin M0 as env σ H _ _ _ h1 S fun v H1 S1 s1 r1 => ?_
    cases r1
    refine ⟨c, rfl, ?_⟩
    cases c with
    | true => exact iteT (hb Hin M0 as e1 σ H1 Q _ _ (by simpa using h2) S1 fun v H2 S2 s2 r2 => q v H2 S2 (s1.trans s2) r2)
    | false =>
      cases (show some (Dt.bl false, e1) = some (z, env') by simpa using h2)
      exact iteF (q _ H1 S1 s1 (.bl _))
  | _ => cases h2
theorem se_or {ta tb : TE} {a b : EvE} (ha : SE K cl ta a) (hb : SE K cl tb b) : SE K cl (tOrV ta tb) (xOr a b) := fun Hin M0 as env σ H Q z env' e S q => by
  obtain ⟨⟨x, e1⟩, h1, h2⟩ := bind_some e
  cases x with
  | bl c =>
    refine ha Hin M0 as env σ H _ _ _ h1 S fun v H1 S1 s1 r1 => ?_
    cases r1
    refine ⟨c, rfl, ?_⟩
    cases c with
    | false => exact iteF (hb Hin M0 as e1 σ H1 Q _ _ (by simpa using h2) S1 fun v H2 S2 s2 r2 => q v H2 S2 (s1.trans s2) r2)
    | true =>
      cases (show some (Dt.bl true, e1) = some (z, env') by simpa using h2)
      exact iteT (q _ H1 S1 s1 (.bl _))
  | _ => cases h2
theorem se_not {ta : TE} {a : EvE} (ha : SE K cl ta a) : SE K cl (tNotV ta) (xNot a) := fun Hin M0 as env σ H Q z env' e S q => by
  obtain ⟨⟨x, e1⟩, h1, h2⟩ := bind_some e
  cases x with
  | bl c =>
    cases h2
    refine ha Hin M0 as env σ H _ _ _ h1 S fun v H1 S1 s1 r1 => ?_
    cases r1
    exact ⟨c, rfl, q _ H1 S1 s1 (.bl _)⟩
  | _ => cases h2
@[simp] def xIf (c : EvT) (a b : EvE) : EvE := fun env => (c env).bind fun p => if p.1 = true then a p.2 else b p.2
theorem se_if {t : TT} {ta tb : TE} {c : EvT} {a b : EvE} (hc : ST K cl t c) (ha : SE K cl ta a) (hb : SE K cl tb b) : SE K cl (tIf t ta tb) (xIf c a b) := fun Hin M0 as env σ H Q z env' e S q => by
  obtain ⟨⟨x, e1⟩, h1, h2⟩ := bind_some e
  refine hc Hin M0 as env σ H _ _ _ h1 S fun H1 S1 s1 => ?_
  cases x with
  | true => exact iteT (ha Hin M0 as e1 σ H1 Q _ _ (by simpa using h2) S1 fun v H2 S2 s2 r2 => q v H2 S2 (s1.trans s2) r2)
  | false => exact iteF (hb Hin M0 as e1 σ H1 Q _ _ (by simpa using h2) S1 fun v H2 S2 s2 r2 => q v H2 S2 (s1.trans s2) r2)
/-- a chain of two comparisons -/
@[simp] def xChain (f g : Dt → Dt → Option Dt) (a b c : EvE) : EvE := fun env => (a env).bind fun p => (b p.2).bind fun q => (f p.1 q.1).bind fun z => match z with
  | .bl k => if k = true then (c q.2).bind fun w => (g q.1 w.1).map fun z => (z, w.2) else some (.bl false, q.2)
  | _ => none
theorem se_chain {ta tb tc : TE} {r r' : R2} {f g : Dt → Dt → Option Dt} {a b c : EvE} (h1 : OpS K cl r f) (h2 : OpS K cl r' g) (ha : SE K cl ta a) (hb : SE K cl tb b) (hc : SE K cl tc c) : SE K cl (tChain r r' ta tb tc) (xChain f g a b c) := fun Hin M0 as env σ H Q z env' e S q => by
  obtain ⟨⟨x, e1⟩, g1, e⟩ := bind_some e
  obtain ⟨⟨y, e2⟩, g2, e⟩ := bind_some e
  obtain ⟨k, g3, e⟩ := bind_some e
  cases k with
  | bl k =>
    refine ha Hin M0 as env σ H _ _ _ g1 S fun v H1 S1 s1 r1 => ?_
    refine hb Hin M0 as e1 σ H1 _ _ _ g2 S1 fun w H2 S2 s2 r2 => ?_
    refine h1 Hin M0 as e2 σ H2 _ x y _ v w g3 S2 (Rp.mono s2.b _ _ r1) r2 fun u H3 S3 s3 r3 => ?_
    cases r3
    refine ⟨k, rfl, ?_⟩
    cases k with
    | true =>
      obtain ⟨⟨w', e4⟩, g4, e⟩ := bind_some (show ((c e2).bind fun w => (g y w.1).map fun z => (z, w.2)) = some (z, env') by simpa using e)
      obtain ⟨z', g5, e⟩ := map_some e
      cases e
      refine iteT (hc Hin M0 as e2 σ H3 _ _ _ g4 S3 fun w2 H4 S4 s4 r4 => ?_)
      exact h2 Hin M0 as _ σ H4 Q y w' _ w w2 g5 S4 (Rp.mono (s3.trans s4).b _ _ r2) r4 fun u H5 S5 s5 r5 => q u H5 S5 (((s1.trans s2).trans (s3.trans s4)).trans s5) r5
    | false =>
      cases (show some (Dt.bl false, e2) = some (z, env') by simpa using e)
      exact iteF (q _ H3 S3 ((s1.trans s2).trans s3) (.bl _))
  | _ => cases e

/-! ### arguments, displays -/
@[simp] def xNil : EvA := fun env => some ([], env)
@[simp] def xCons (a : EvE) (b : EvA) : EvA := fun env => (a env).bind fun p => (b p.2).map fun q => (p.1 :: q.1, q.2)
theorem sa_nil : SA K cl tNil xNil := fun Hin M0 as env σ H Q ds env' e S q => by
  cases e
  exact q [] H S Step.refl .nil
theorem sa_cons {ta : TE} {tr : TA} {a : EvE} {b : EvA} (ha : SE K cl ta a) (hb : SA K cl tr b) : SA K cl (tCons ta tr) (xCons a b) := fun Hin M0 as env σ H Q ds env' e S q => by
  obtain ⟨⟨x, e1⟩, h1, e⟩ := bind_some e
  obtain ⟨⟨y, e2⟩, h2, e⟩ := map_some e
  cases e
  refine ha Hin M0 as env σ H _ _ _ h1 S fun v H1 S1 s1 r1 => ?_
  refine hb Hin M0 as e1 σ H1 _ _ _ h2 S1 fun vs H2 S2 s2 r2 => ?_
  exact q _ H2 S2 (s1.trans s2) (.cons (Rp.mono s2.b _ _ r1) r2)
/-- a list, a tuple of at most so many -/
def most : Nat := 1000000
theorem most_ok {n : Nat} (h : n ≤ most) : n ≤ sizeLine := Nat.le_trans h (by decide)
theorem most_lt {n : Nat} (h : n < most) : n < sizeLine := Nat.lt_of_lt_of_le h (by decide)
@[simp] def xTup (a : EvA) : EvE := fun env => (a env).bind fun p => if p.1.length ≤ most then some (.tup p.1, p.2) else none
theorem se_tup {ta : TA} {a : EvA} (ha : SA K cl ta a) : SE K cl (tTup ta) (xTup a) := fun Hin M0 as env σ H Q z env' e S q => by
  obtain ⟨⟨x, e1⟩, h1, e⟩ := bind_some e
  split at e
  · rename_i hl
    cases e
    refine ha Hin M0 as env σ H _ _ _ h1 S fun vs H1 S1 s1 r1 => ?_
    refine ⟨most_ok (by rw [r1.length]; exact hl), fun p hp => ?_⟩
    obtain ⟨S2, s2⟩ := S1.grow (same_upd (o := .tup vs) hp)
    exact q _ _ S2 (s1.trans s2) (.tup (xs := vs) (.inl (.inl (Bv_new S1 hp))) (RpA.mono s2.b _ _ r1))
  · cases e
@[simp] def xLst (a : EvA) : EvA := fun env => (a env).bind fun p => if p.1.length ≤ most then some p else none
theorem sl_lst {ta : TA} {a : EvA} (ha : SA K cl ta a) : SL K cl (tLst ta) (xLst a) := fun Hin M0 as env σ H Q ds env' e S q => by
  obtain ⟨⟨x, e1⟩, h1, e⟩ := bind_some e
  split at e
  · rename_i hl
    cases e
    refine ha Hin M0 as env σ H _ _ _ h1 S fun vs H1 S1 s1 r1 => ?_
    exact ⟨most_ok (by rw [r1.length]; exact hl), fun p hp => q p vs H1 S1 s1 hp r1⟩
  · cases e
/-- a new list as a value -/
@[simp] def xL (a : EvA) : EvE := fun env => (a env).map fun p => (.lst p.1, p.2)
theorem SL.e {te : TE} {a : EvA} (h : SL K cl te a) : SE K cl te (xL a) := fun Hin M0 as env σ H Q z env' e S q => by
  obtain ⟨⟨x, e1⟩, h1, e⟩ := map_some e
  cases e
  refine h Hin M0 as env σ H _ _ _ h1 S fun p vs H1 S1 s1 hp r1 => ?_
  obtain ⟨S2, s2⟩ := S1.grow (same_upd (o := .lst vs) hp)
  exact q _ _ S2 (s1.trans s2) (.lst (xs := vs) (Bv_new S1 hp) (RpA.mono s2.b _ _ r1))

/-! ### statements -/
@[simp] def sNext : EvS := fun env => some (.nx env)
@[simp] def sSeq (a b : EvS) : EvS := fun env => (a env).bind fun r => match r with
  | .nx e => b e
  | r => some r
theorem ss_next : SS K cl tNext sNext := fun Hin M0 as env σ H D r e S q => by
  cases e
  exact q as σ H S Step.refl
theorem ss_seq {t u : TS} {a b : EvS} (ha : SS K cl t a) (hb : SS K cl u b) : SS K cl (tSeq t u) (sSeq a b) := fun Hin M0 as env σ H D r e S q => by
  obtain ⟨r1, h1, e⟩ := bind_some e
  cases r1 with
  | nx e1 => exact ha Hin M0 as env σ H _ _ h1 S fun as' σ' H' S' s' => hb Hin M0 as' e1 σ' H' D r e S' (q.step s')
  | bk e1 => cases e; exact ha Hin M0 as env σ H _ _ h1 S q
  | ct e1 => cases e; exact ha Hin M0 as env σ H _ _ h1 S q
  | rt x e1 => cases e; exact ha Hin M0 as env σ H _ _ h1 S q
@[simp] def sBreak : EvS := fun env => some (.bk env)
@[simp] def sCont : EvS := fun env => some (.ct env)
theorem ss_break : SS K cl tBreak sBreak := fun Hin M0 as env σ H D r e S q => by
  cases e
  exact q as σ H S Step.refl
theorem ss_cont : SS K cl tCont sCont := fun Hin M0 as env σ H D r e S q => by
  cases e
  exact q as σ H S Step.refl
@[simp] def sIf (c : EvT) (a b : EvS) : EvS := fun env => (c env).bind fun p => if p.1 = true then a p.2 else b p.2
theorem ss_if {c : TT} {t u : TS} {ec : EvT} {a b : EvS} (hc : ST K cl c ec) (ha : SS K cl t a) (hb : SS K cl u b) : SS K cl (tIfS c t u) (sIf ec a b) := fun Hin M0 as env σ H D r e S q => by
  obtain ⟨⟨x, e1⟩, h1, h2⟩ := bind_some e
  refine hc Hin M0 as env σ H _ _ _ h1 S fun H1 S1 s1 => ?_
  cases x with
  | true => exact iteT (ha Hin M0 as e1 σ H1 D r (by simpa using h2) S1 (q.step s1))
  | false => exact iteF (hb Hin M0 as e1 σ H1 D r (by simpa using h2) S1 (q.step s1))
@[simp] def sRet (a : EvE) : EvS := fun env => (a env).map fun p => .rt p.1 p.2
theorem ss_ret {te : TE} {a : EvE} (ha : SE K cl te a) : SS K cl (tRet te) (sRet a) := fun Hin M0 as env σ H D r e S q => by
  obtain ⟨⟨x, e1⟩, h1, e⟩ := map_some e
  cases e
  exact ha Hin M0 as env σ H _ _ _ h1 S fun v H1 S1 s1 r1 => q as σ H1 v S1 s1 r1
@[simp] def sRetN : EvS := fun env => some (.rt .non env)
theorem ss_retN : SS K cl tRetN sRetN := fun Hin M0 as env σ H D r e S q => by
  cases e
  exact q as σ H _ S Step.refl .non
@[simp] def sDrop (a : EvE) : EvS := fun env => (a env).map fun p => .nx p.2
theorem ss_drop {te : TE} {a : EvE} (ha : SE K cl te a) : SS K cl (tDrop te) (sDrop a) := fun Hin M0 as env σ H D r e S q => by
  obtain ⟨⟨x, e1⟩, h1, e⟩ := map_some e
  cases e
  exact ha Hin M0 as env σ H _ _ _ h1 S fun v H1 S1 s1 r1 => q as σ H1 S1 s1

/-! ### targets -/
abbrev EvG := Dt → Env → Option Env
def SG (K : Fg) (cl : Nat → Addr) (g : TG) (b : EvG) : Prop := ∀ (Hin : Hp) (M0 : Addr → Prop) (as : Nat → Addr) (env : Env) (σ : L2.St) (H : Hp) (Q : L2.St → Hp → Prop) (x : Dt) (v : V) (env' : Env), b x env = some env' → StA K cl Hin M0 as env σ H → Rp K cl (Bv M0 as env H) v x →
  (∀ σ' H', StA K cl Hin M0 as env' σ' H' → Step M0 as env H as env' H' → Q σ' H') → g v σ H Q
def SGs (K : Fg) (cl : Nat → Addr) (g : TGs) (b : List Dt → Env → Option Env) : Prop := ∀ (Hin : Hp) (M0 : Addr → Prop) (as : Nat → Addr) (env : Env) (σ : L2.St) (H : Hp) (Q : L2.St → Hp → Prop) (xs : List Dt) (vs : List V) (env' : Env), b xs env = some env' → StA K cl Hin M0 as env σ H → RpA K cl (Bv M0 as env H) vs xs →
  (∀ σ' H', StA K cl Hin M0 as env' σ' H' → Step M0 as env H as env' H' → Q σ' H') → g vs σ H Q
/-- slot i takes x -/
@[simp] def put (i : Nat) (x : Dt) (env : Env) : Option Env := match env[i]? with
  | some s => if s.isPar = true then none else some (env.set i (.d x))
  | none => none
theorem put_ok {i : Nat} {x : Dt} {env env' : Env} (h : put i x env = some env') : i < env.length ∧ (∀ o, env[i]? ≠ some (.par o)) ∧ env' = env.set i (.d x) := by
  unfold put at h
  split at h
  · rename_i s e
    split at h
    · cases h
    · rename_i hp
      cases h
      exact ⟨(List.getElem?_eq_some_iff.mp e).1, fun o z => hp (by rw [e] at z; cases z; rfl), rfl⟩
  · cases h
@[simp] def gN (i : Nat) : EvG := fun x env => put i x env
theorem sg_name (i : Nat) : SG K cl (gName i) (gN i) := fun Hin M0 as env σ H Q x v env' h S r q => by
  obtain ⟨h1, h2, rfl⟩ := put_ok h
  obtain ⟨S', s'⟩ := S.setD h1 h2 r
  exact q _ _ S' s'
@[simp] def gsNil : List Dt → Env → Option Env
  | [], env => some env
  | _, _ => none
@[simp] def gsCons (a : EvG) (b : List Dt → Env → Option Env) : List Dt → Env → Option Env
  | x :: xs, env => (a x env).bind (b xs)
  | [], _ => none
theorem sgs_nil : SGs K cl gNil gsNil := fun Hin M0 as env σ H Q xs vs env' h S r q => by
  cases xs with
  | nil =>
    cases h
    cases r
    exact ⟨rfl, q σ H S Step.refl⟩
  | cons => cases h
theorem sgs_cons {t : TG} {u : TGs} {a : EvG} {b : List Dt → Env → Option Env} (ha : SG K cl t a) (hb : SGs K cl u b) : SGs K cl (gCons t u) (gsCons a b) := fun Hin M0 as env σ H Q xs vs env' h S r q => by
  cases xs with
  | nil => cases h
  | cons x xs =>
    obtain ⟨e1, h1, h⟩ := bind_some h
    cases r with
    | cons r1 r2 =>
      refine ⟨_, _, rfl, ha Hin M0 as env σ H _ _ _ e1 h1 S r1 fun σ1 H1 S1 s1 => ?_⟩
      exact hb Hin M0 as e1 σ1 H1 Q _ _ env' h S1 (RpA.mono s1.b _ _ r2) fun σ2 H2 S2 s2 => q σ2 H2 S2 (s1.trans s2)
@[simp] def gT (n : Nat) (b : List Dt → Env → Option Env) : EvG := fun x env => match x with
  | .tup xs => if xs.length = n then b xs env else none
  | _ => none
theorem sg_tup {n : Nat} {t : TGs} {b : List Dt → Env → Option Env} (hb : SGs K cl t b) : SG K cl (gTup K n t) (gT n b) := fun Hin M0 as env σ H Q x v env' h S r q => by
  cases x with
  | tup xs =>
    have h : (if xs.length = n then b xs env else none) = some env' := h
    split at h
    · rename_i hl
      cases r with
      | tup r1 r2 => exact ⟨_, _, rfl, same_t hd_same r1, r2.length.trans hl, hb Hin M0 as env σ H Q _ _ env' h S r2 q⟩
    · cases h
  | _ => cases h
@[simp] def sAsg (a : EvE) (g : EvG) : EvS := fun env => (a env).bind fun p => (g p.1 p.2).map .nx
theorem ss_asg {te : TE} {tg : TG} {a : EvE} {g : EvG} (ha : SE K cl te a) (hg : SG K cl tg g) : SS K cl (tAsg te tg) (sAsg a g) := fun Hin M0 as env σ H D r e S q => by
  obtain ⟨⟨x, e1⟩, h1, e⟩ := bind_some e
  obtain ⟨e2, h2, e⟩ := map_some e
  cases e
  refine ha Hin M0 as env σ H _ _ _ h1 S fun v H1 S1 s1 r1 => ?_
  exact hg Hin M0 as e1 σ H1 _ _ _ e2 h2 S1 r1 fun σ2 H2 S2 s2 => q as σ2 H2 S2 (s1.trans s2)
/-- name = a new list -/
@[simp] def putO (i : Nat) (o : Oc) (env : Env) : Option Env := match env[i]? with
  | some s => if s.isPar = true then none else some (env.set i (.own o))
  | none => none
@[simp] def sAsgL (i : Nat) (a : EvA) : EvS := fun env => (a env).bind fun p => (putO i (.l p.1) p.2).map .nx
theorem putO_ok {i : Nat} {o : Oc} {env env' : Env} (h : putO i o env = some env') : i < env.length ∧ (∀ o, env[i]? ≠ some (.par o)) ∧ env' = env.set i (.own o) := by
  unfold putO at h
  split at h
  · rename_i s e
    split at h
    · cases h
    · rename_i hp
      cases h
      exact ⟨(List.getElem?_eq_some_iff.mp e).1, fun o z => hp (by rw [e] at z; cases z; rfl), rfl⟩
  · cases h
theorem ss_asgL {te : TE} {a : EvA} (i : Nat) (ha : SL K cl te a) : SS K cl (tAsg te (gName i)) (sAsgL i a) := fun Hin M0 as env σ H D r e S q => by
  obtain ⟨⟨x, e1⟩, h1, e⟩ := bind_some e
  obtain ⟨e2, h2, e⟩ := map_some e
  cases e
  obtain ⟨g1, g2, rfl⟩ := putO_ok h2
  refine ha Hin M0 as env σ H _ _ _ h1 S fun p vs H1 S1 s1 hp r1 => ?_
  obtain ⟨S2, s2⟩ := S1.setO (ho := .lst vs) (o := .l x) g1 g2 hp r1
  exact q _ _ _ S2 (s1.trans s2)
/-- the slot's object holds something else -/
@[simp] def putOc (i : Nat) (o : Oc) (env : Env) : Option Env := match env[i]? with
  | some (.own _) => some (env.set i (.own o))
  | some (.par _) => some (env.set i (.par o))
  | _ => none
theorem StA.putOc {Hin H : Hp} {M0 : Addr → Prop} {as : Nat → Addr} {env env' : Env} {σ : L2.St} {i : Nat} {o' : Oc} {ho : HO} (S : StA K cl Hin M0 as env σ H) (h : DL.putOc i o' env = some env') (r : RpO K cl (Bv M0 as env H) ho o') :
    StA K cl Hin M0 as env' σ (upd H (as i) ho) ∧ Step M0 as env H as env' (upd H (as i) ho) := by
  unfold DL.putOc at h
  split at h
  · rename_i o e
    cases h
    exact S.mut (ocAt_own e) rfl (fun ⟨p, z⟩ => by rw [e] at z; cases z) r
  · rename_i o e
    cases h
    exact S.mut (ocAt_par e) rfl (fun _ => ⟨_, rfl⟩) r
  · cases h
/-- x.append(e) -/
@[simp] def sApp (i : Nat) (a : EvE) : EvS := fun env => match ocAt env i with
  | some (.l _) => (a env).bind fun p => match ocAt p.2 i with
    | some (.l ds) => if ds.length < most then (putOc i (.l (ds ++ [p.1])) p.2).map .nx else none
    | _ => none
  | _ => none
theorem ocAt_some {env : Env} {i : Nat} {o : Oc} (h : ocAt env i = some o) : env[i]? = some (.own o) ∨ env[i]? = some (.par o) := by
  unfold ocAt at h
  cases e : env[i]? with
  | none => rw [e] at h; cases h
  | some s =>
    rw [e] at h
    cases s with
    | un => cases h
    | d => cases h
    | own o => cases h; exact .inl rfl
    | par o => cases h; exact .inr rfl
/-- an own slot stays own through a step, and its address -/
def keepsO (a : EvE) (i : Nat) : Prop := ∀ env x env', a env = some (x, env') → ∀ o, ocAt env' i = some o → ∃ o', ocAt env i = some o'
theorem ss_app {te : TE} {a : EvE} (i : Nat) (ha : SE K cl te a) : SS K cl (tDrop (tBM K "list" rAppend (tVar i) (tCons te tNil))) (sApp i a) := fun Hin M0 as env σ H D r e S q => by
  unfold sApp at e
  split at e
  · rename_i ds0 e0
    obtain ⟨⟨x, e1⟩, h1, e⟩ := bind_some e
    obtain ⟨g1, ho0, g2, g3⟩ := S.own_at e0
    cases ho0 with
    | lst vs0 =>
      refine ⟨_, g1, .inl ⟨rfl, _, .inl (.inl g2)⟩, ?_⟩
      refine ha Hin M0 as env σ H _ _ _ h1 S fun v H1 S1 s1 r1 => ?_
      split at e
      · rename_i ds e2
        obtain ⟨_, ho, k2, k3⟩ := S1.own_at e2
        cases ho with
        | lst vs =>
          split at e
          · rename_i hl
            obtain ⟨e3, h3, e⟩ := map_some e
            cases e
            have r3 : RpO K cl (Bv M0 as e1 H1) (.lst (vs ++ [v])) (.l (ds ++ [x])) := RpA.append k3 (.cons r1 .nil)
            obtain ⟨S3, s3⟩ := S1.putOc h3 r3
            refine ⟨_, vs, v, rfl, rfl, k2, most_lt (by rw [RpA.length k3]; exact hl), ?_⟩
            exact q as σ _ S3 (s1.trans s3)
          · cases e
        | _ => exact k3.elim
      · cases e
    | _ => exact g3.elim
  · cases e
/-- x[j] = e -/
@[simp] def sSetO (i : Nat) (a j : EvE) : EvS := fun env => (a env).bind fun p => (j p.2).bind fun q => match ocAt q.2 i, q.1 with
  | some (.l ds), .int k => match ixN ds.length k with
    | some m => (putOc i (.l (ds.set m p.1)) q.2).map .nx
    | none => none
  | _, _ => none
theorem ss_setO {te tj : TE} {a j : EvE} (i : Nat) (ha : SE K cl te a) (hj : SE K cl tj j) (hk : ∀ env x env', j env = some (x, env') → env' = env) : SS K cl (tAsg te (gSub (tVar i) tj rSetL)) (sSetO i a j) := fun Hin M0 as env σ H D r e S q => by
  obtain ⟨⟨x, e1⟩, h1, e⟩ := bind_some e
  obtain ⟨⟨y, e2⟩, h2, e⟩ := bind_some e
  obtain rfl := hk _ _ _ h2
  refine ha Hin M0 as env σ H _ _ _ h1 S fun v H1 S1 s1 r1 => ?_
  cases y with
  | int k =>
    cases e2o : ocAt e2 i with
    | none => simp only [e2o] at e; cases e
    | some o =>
      cases o with
      | t => simp only [e2o] at e; cases e
      | l ds =>
        simp only [e2o] at e
        obtain ⟨g1, _⟩ := S1.own_at e2o
        refine ⟨_, g1, ?_⟩
        refine hj Hin M0 as _ σ H1 _ _ _ h2 S1 fun w H2 S2 s2 r2 => ?_
        cases r2
        obtain ⟨_, ho, k2, k3⟩ := S2.own_at e2o
        cases ho with
        | lst vs =>
          cases hm : ixN ds.length k with
          | none => simp only [hm] at e; cases e
          | some m =>
            simp only [hm] at e
            obtain ⟨e3, h3, e⟩ := map_some e
            cases e
            have r3 : RpO K cl (Bv M0 as e2 H2) (.lst (vs.set m v)) (.l (ds.set m x)) := RpA.set (Rp.mono s2.b _ _ r1) m k3
            obtain ⟨S3, s3⟩ := S2.putOc h3 r3
            refine ⟨_, vs, k, m, rfl, rfl, k2, by rw [RpA.length k3]; exact hm, ?_⟩
            exact q as σ _ S3 ((s1.trans s2).trans s3)
        | _ => exact k3.elim
  | _ => simp at e
end DL

set_option Elab.async false
set_option linter.all false
set_option maxRecDepth 100000
set_option maxHeartbeats 4000000
namespace DL
open PySem PySem.Spec PyProof.Rows L2
variable {K : Fg} {cl : Nat → Addr}

/-! ### what is walked -/
abbrev EvI := Env → Option (List Dt × Env)
/-- J hands out xs, whatever else changes behind B -/
structure Feeds (K : Fg) (cl : Nat → Addr) (J : It) (B : Hp) (xs : List Dt) : Prop where
  go : ∀ (H : Hp) (i : Nat), Same B H → i < xs.length → J.go i H
  stop : ∀ (H : Hp) (i : Nat), Same B H → xs.length ≤ i → J.stop i H
  yld : ∀ (H H' : Hp) (i : Nat) (v : V) (M : Addr → Prop), Same B (hd M H) → (∀ a, M a → H a ≠ none) → i < xs.length → J.yld i H v H' → Same H H' ∧ ∃ x, xs[i]? = some x ∧ Rp K cl (hd M H') v x
def SI (K : Fg) (cl : Nat → Addr) (wi : TI) (ev : EvI) : Prop := ∀ (Hin : Hp) (M0 : Addr → Prop) (as : Nat → Addr) (env : Env) (σ : L2.St) (H : Hp) (R : It → Hp → Prop) (xs : List Dt) (env' : Env), ev env = some (xs, env') → StA K cl Hin M0 as env σ H →
  (∀ J H', StA K cl Hin M0 as env' σ H' → Step M0 as env H as env' H' → Feeds K cl J (Bv M0 as env' H') xs → R J H') → wi σ H R
structure VI (cl : Nat → Addr) (X : Cx) (tg iter : Expr) (wi : TI) (ev : EvI) : Prop where
  pe : PI X tg iter wi
  so : SI X.K cl wi ev
theorem sql_all {K : Fg} {B : Hp} {a : Addr} {xs : List V} (h : B a = some (.lst xs)) : SqL K B a xs := .inl (.inl h)
/-- what SqL says is one list -/
theorem feeds_list {B : Hp} {a : Addr} {vs : List V} {xs : List Dt} (h : SqL K B a vs) (r : RpA K cl B vs xs) : Feeds K cl (Itl K a) B xs := by
  have hl := r.length
  refine ⟨fun H i e hi => ⟨vs, vs[i]'(by omega), e.seq h, by simp [hl, hi]⟩, fun H i e hi => ⟨vs, e.seq h, by omega⟩, fun H H' i v M e hM hi y => ?_⟩
  obtain ⟨rfl, y⟩ := y
  have g := y vs ((e.trans hd_same).seq h)
  obtain ⟨x, hx, rx⟩ := r.get' g
  exact ⟨Same.refl _, x, hx, Rp.mono e _ _ rx⟩
theorem feeds_tup {B : Hp} {a : Addr} {vs : List V} {xs : List Dt} (h : SqT K B a vs) (r : RpA K cl B vs xs) : Feeds K cl (Itt K a) B xs := by
  have hl := r.length
  refine ⟨fun H i e hi => ⟨vs, vs[i]'(by omega), same_t e h, by simp [hl, hi]⟩, fun H i e hi => ⟨vs, same_t e h, by omega⟩, fun H H' i v M e hM hi y => ?_⟩
  obtain ⟨rfl, y⟩ := y
  have g := y vs (same_t (e.trans hd_same) h)
  obtain ⟨x, hx, rx⟩ := r.get' g
  exact ⟨Same.refl _, x, hx, Rp.mono e _ _ rx⟩
def rangeD (lo : Int) (n : Nat) : List Dt := (List.range n).map fun (k : Nat) => .int (lo + (k : Int))
theorem rangeD_len (lo : Int) (n : Nat) : (rangeD lo n).length = n := by unfold rangeD; rw [List.length_map, List.length_range]
theorem feeds_range {B : Hp} (lo : Int) (n : Nat) : Feeds K cl (Itr lo n) B (rangeD lo n) := by
  refine ⟨fun H i _ hi => by rw [rangeD_len] at hi; exact hi, fun H i _ hi => by rw [rangeD_len] at hi; exact hi, fun H H' i v M e hM hi y => ?_⟩
  obtain ⟨rfl, rfl⟩ := y
  rw [rangeD_len] at hi
  refine ⟨Same.refl _, .int (lo + (i : Int)), ?_, .int _⟩
  unfold rangeD
  rw [List.getElem?_map, List.getElem?_range hi]
  rfl
/-- a list, a tuple -/
def tSq (K : Fg) (tl : TE) : TI := fun σ H R => tl σ H fun x H1 => ∃ a, x = .ref a ∧ ((∃ xs, SqL K H1 a xs) ∧ R (Itl K a) H1 ∨ (∃ xs, SqT K H1 a xs) ∧ R (Itt K a) H1)
theorem pi_sq {X : Cx} {tg l : Expr} {tl : TE} (hl : PE X l tl) : PI X tg l (tSq X.K tl) := by
  refine ⟨fun pins s σ H R I h => ?_⟩
  refine thn (hl.run pins s σ H _ I h) fun v s1 ⟨x, H1, I1, r1, q1⟩ => ?_
  obtain ⟨a, e, q1⟩ := q1
  subst e
  cases r1
  rcases q1 with ⟨⟨xs, hq⟩, q⟩ | ⟨⟨xs, hq⟩, q⟩
  · obtain ⟨its, rv, p, hz⟩ := I1.list hq
    refine wpAny_pyIter_list p.isList ?_
    refine ⟨s1.heap.objs.size, [s1.heap.objs.size], _, _, H1, rfl, I1.kept (t' := s1.toks) fun b o e => Heap.get?_push_of_some _ e, turn_list a _, ⟨_, Heap.get?_push_size _ rfl, rfl, rfl⟩, fun b hb => ?_, q⟩
    have e : b = s1.heap.objs.size := by simpa using hb
    subst e
    exact I1.fpOk (Nat.le_refl _) (I1.hok.fresh (Nat.le_refl _))
  · obtain ⟨its, rv, p, hz⟩ := I1.tuple hq
    refine wpAny_pyIter_tuple (show s1.heap.IsTuple a its.toArray from p) ?_
    refine ⟨s1.heap.objs.size, [s1.heap.objs.size], _, _, H1, rfl, I1.kept (t' := s1.toks) fun b o e => Heap.get?_push_of_some _ e, turn_tuple a _, ⟨_, Heap.get?_push_size _ rfl, rfl, rfl⟩, fun b hb => ?_, q⟩
    have e : b = s1.heap.objs.size := by simpa using hb
    subst e
    exact I1.fpOk (Nat.le_refl _) (I1.hok.fresh (Nat.le_refl _))
@[simp] def seqOf : Dt → Option (List Dt)
  | .lst ds => some ds
  | .tup ds => some ds
  | .scr ns => some (ns.map .int)
  | _ => none
@[simp] def iSq (a : EvE) : EvI := fun env => (a env).bind fun p => (seqOf p.1).map fun xs => (xs, p.2)
theorem si_sq {tl : TE} {a : EvE} (ha : SE K cl tl a) : SI K cl (tSq K tl) (iSq a) := fun Hin M0 as env σ H R xs env' e S q => by
  obtain ⟨⟨x, e1⟩, h1, e⟩ := bind_some e
  obtain ⟨ys, h2, e⟩ := map_some e
  cases e
  refine ha Hin M0 as env σ H _ _ _ h1 S fun v H1 S1 s1 r1 => ?_
  cases x with
  | lst ds =>
    cases h2
    cases r1 with
    | lst g1 g2 => exact ⟨_, rfl, .inl ⟨⟨_, hd_same.seq (sql_all g1)⟩, q _ H1 S1 s1 (feeds_list (sql_all g1) g2)⟩⟩
  | tup ds =>
    cases h2
    cases r1 with
    | tup g1 g2 => exact ⟨_, rfl, .inr ⟨⟨_, same_t hd_same g1⟩, q _ H1 S1 s1 (feeds_tup g1 g2)⟩⟩
  | scr ns =>
    cases h2
    cases r1 with
    | scr g1 => exact ⟨_, rfl, .inl ⟨⟨_, hd_same.seq g1⟩, q _ H1 S1 s1 (feeds_list g1 (RpA.ofInts ns))⟩⟩
  | _ => cases h2
/-- ranges -/
@[simp] def iR1 (a : EvA) : EvI := fun env => (a env).bind fun p => match p.1 with
  | [.int j] => if -1000000000000000000 ≤ j ∧ j ≤ 1000000000000000000 then some (rangeD 0 j.toNat, p.2) else none
  | _ => none
theorem si_r1 {ta : TA} {a : EvA} (ha : SA K cl ta a) : SI K cl (iRng1 ta) (iR1 a) := fun Hin M0 as env σ H R xs env' e S q => by
  obtain ⟨⟨x, e1⟩, h1, e⟩ := bind_some e
  split at e
  · rename_i j hx
    split at e
    · rename_i hj
      cases e
      refine ha Hin M0 as env σ H _ _ _ h1 S fun v H1 S1 s1 r1 => ?_
      have hx : x = [.int j] := hx
      subst hx
      cases r1 with
      | cons g1 g2 =>
        cases g1
        cases g2
        exact ⟨j, rfl, by omega, by omega, q _ H1 S1 s1 (feeds_range 0 j.toNat)⟩
    · cases e
  · cases e
@[simp] def iR2 (a : EvA) : EvI := fun env => (a env).bind fun p => match p.1 with
  | [.int i, .int j] => if (-1000000000000000000 ≤ i ∧ i ≤ 1000000000000000000) ∧ -1000000000000000000 ≤ j ∧ j ≤ 1000000000000000000 then some (rangeD i (j - i).toNat, p.2) else none
  | _ => none
theorem si_r2 {ta : TA} {a : EvA} (ha : SA K cl ta a) : SI K cl (iRng2 ta) (iR2 a) := fun Hin M0 as env σ H R xs env' e S q => by
  obtain ⟨⟨x, e1⟩, h1, e⟩ := bind_some e
  split at e
  · rename_i i j hx
    split at e
    · rename_i hj
      cases e
      refine ha Hin M0 as env σ H _ _ _ h1 S fun v H1 S1 s1 r1 => ?_
      have hx : x = [.int i, .int j] := hx
      subst hx
      cases r1 with
      | cons g1 g2 =>
        cases g1
        cases g2 with
        | cons g1 g2 =>
          cases g1
          cases g2
          exact ⟨i, j, rfl, ⟨by omega, by omega, by omega, by omega⟩, q _ H1 S1 s1 (feeds_range i (j - i).toNat)⟩
    · cases e
  · cases e

/-! ### loops -/
def loopE (g : EvG) (b : EvS) : List Dt → EvS
  | [], env => some (.nx env)
  | x :: xs, env => (g x env).bind fun e => (b e).bind fun r => match r with
    | .nx e1 => loopE g b xs e1
    | .ct e1 => loopE g b xs e1
    | .bk e1 => some (.nx e1)
    | .rt y e1 => some (.rt y e1)
@[simp] def sFor (it : EvI) (g : EvG) (b : EvS) : EvS := fun env => (it env).bind fun p => loopE g b p.1 p.2
theorem ss_for {wi : TI} {tg : TG} {tb : TS} {it : EvI} {g : EvG} {b : EvS} (hi : SI K cl wi it) (hg : SG K cl tg g) (hb : SS K cl tb b) : SS K cl (tFor wi tg tb) (sFor it g b) := fun Hin M0 as env σ H D r e S q => by
  obtain ⟨⟨xs, e1⟩, h1, e⟩ := bind_some e
  refine hi Hin M0 as env σ H _ _ _ h1 S fun J H1 S1 s1 F => ?_
  refine ⟨fun i m σ' H' => m = xs.length - i ∧ i ≤ xs.length ∧ ∃ as' env', StA K cl Hin M0 as' env' σ' H' ∧ Step M0 as e1 H1 as' env' H' ∧ loopE g b (xs.drop i) env' = some r, ⟨xs.length, by simp, Nat.zero_le _, as, e1, S1, Step.refl, by simpa using e⟩, ?_⟩
  rintro i m σ' H' ⟨rfl, hi, as', env', S', s', hr⟩
  by_cases hlt : i < xs.length
  · have hd : xs.drop i = xs[i] :: xs.drop (i + 1) := List.drop_eq_getElem_cons hlt
    rw [hd] at hr
    obtain ⟨e2, h2, hr⟩ := bind_some hr
    obtain ⟨r2, h3, hr⟩ := bind_some hr
    have sB : Same (Bv M0 as e1 H1) H' := s'.b.trans hd_same
    refine .inr ⟨F.go H' i sB hlt, fun σ2 H2 => ∃ as2 env2, StA K cl Hin M0 as2 env2 σ2 H2 ∧ Step M0 as e1 H1 as2 env2 H2 ∧ loopE g b (xs.drop (i + 1)) env2 = some r, fun σ2 H2 ⟨as2, env2, S2, s2, h⟩ => ⟨xs.length - (i + 1), by omega, rfl, hlt, as2, env2, S2, s2, h⟩, fun v H3 hy => ?_⟩
    obtain ⟨sm, x, hx, rx⟩ := F.yld H' H3 i v (MP M0 as' env') s'.b (fun a h => S'.dom h) hlt hy
    rw [List.getElem?_eq_getElem hlt] at hx
    cases hx
    obtain ⟨S3, s3⟩ := S'.grow sm
    refine hg Hin M0 as' env' σ' H3 _ _ v e2 h2 S3 rx fun σ4 H4 S4 s4 => ?_
    refine hb Hin M0 as' e2 σ4 H4 _ r2 h3 S4 ?_
    have st := (s'.trans s3).trans s4
    cases r2 with
    | nx e5 => exact fun as5 σ5 H5 S5 s5 => ⟨as5, e5, S5, st.trans s5, hr⟩
    | ct e5 => exact fun as5 σ5 H5 S5 s5 => ⟨as5, e5, S5, st.trans s5, hr⟩
    | bk e5 => cases hr; exact fun as5 σ5 H5 S5 s5 => q as5 σ5 H5 S5 (s1.trans (st.trans s5))
    | rt y e5 => cases hr; exact fun as5 σ5 H5 w S5 s5 r5 => q as5 σ5 H5 w S5 (s1.trans (st.trans s5)) r5
  · have he : i = xs.length := by omega
    subst he
    rw [List.drop_length] at hr
    cases hr
    exact .inl ⟨F.stop H' _ (s'.b.trans hd_same) (Nat.le_refl _), q as' σ' H' S' (s1.trans s')⟩
/-- while, at most so many turns -/
def whileE (c : EvT) (b : EvS) : Nat → EvS
  | 0, _ => none
  | n + 1, env => (c env).bind fun p => if p.1 = true then (b p.2).bind fun r => (match r with
    | .nx e1 => whileE c b n e1
    | .ct e1 => whileE c b n e1
    | .bk e1 => some (.nx e1)
    | .rt y e1 => some (.rt y e1)) else some (.nx p.2)
theorem ss_while {tc : TT} {tb : TS} {c : EvT} {b : EvS} (n : Nat) (hc : ST K cl tc c) (hb : SS K cl tb b) : SS K cl (tWhile tc tb) (whileE c b n) := fun Hin M0 as env σ H D r e S q => by
  refine ⟨fun m σ' H' => ∃ as' env', StA K cl Hin M0 as' env' σ' H' ∧ Step M0 as env H as' env' H' ∧ whileE c b m env' = some r, ⟨n, as, env, S, Step.refl, e⟩, ?_⟩
  rintro m σ' H' ⟨as', env', S', s', hr⟩
  cases m with
  | zero => cases hr
  | succ m =>
    obtain ⟨⟨k, e1⟩, h1, hr⟩ := bind_some hr
    refine hc Hin M0 as' env' σ' H' _ _ _ h1 S' fun H1 S1 s1 => ?_
    cases k with
    | true =>
      have hr : ((b e1).bind fun r => (match r with
        | .nx e1 => whileE c b m e1
        | .ct e1 => whileE c b m e1
        | .bk e1 => some (.nx e1)
        | .rt y e1 => some (.rt y e1))) = some r := by simpa using hr
      obtain ⟨r2, h3, hr⟩ := bind_some hr
      refine iteT ⟨fun σ2 H2 => ∃ as2 env2, StA K cl Hin M0 as2 env2 σ2 H2 ∧ Step M0 as env H as2 env2 H2 ∧ whileE c b m env2 = some r, fun σ2 H2 h => ⟨m, Nat.lt_succ_self m, h⟩, ?_⟩
      refine hb Hin M0 as' e1 σ' H1 _ r2 h3 S1 ?_
      have st := s'.trans s1
      cases r2 with
      | nx e5 => exact fun as5 σ5 H5 S5 s5 => ⟨as5, e5, S5, st.trans s5, hr⟩
      | ct e5 => exact fun as5 σ5 H5 S5 s5 => ⟨as5, e5, S5, st.trans s5, hr⟩
      | bk e5 => cases hr; exact fun as5 σ5 H5 S5 s5 => q as5 σ5 H5 S5 (st.trans s5)
      | rt y e5 => cases hr; exact fun as5 σ5 H5 w S5 s5 r5 => q as5 σ5 H5 w S5 (st.trans s5) r5
    | false =>
      cases (show some (Rs.nx e1) = some r by simpa using hr)
      exact iteF (q as' σ' H1 S1 (s'.trans s1))

/-! ### defs -/
@[simp] def endOf : Option Rs → Option (Dt × Env)
  | some (.rt x e) => some (x, e)
  | some (.nx e) => some (.non, e)
  | _ => none
@[simp] def runE (N : Nat) (ev : EvS) (ds : List Dt) : Option Dt := (endOf (ev (ds.map Sc.d ++ List.replicate (N - ds.length) .un))).map (·.1)
/-- a def that hands back the value of f -/
def spE (K : Fg) (cl : Nat → Addr) (n : Nat) (f : List Dt → Option Dt) : Sp := fun vs H Q _ => ∃ (M0 : Addr → Prop) (ds : List Dt) (r : Dt), (∀ a, M0 a → H a ≠ none) ∧ ds.length = n ∧ RpA K cl (hd M0 H) vs ds ∧ f ds = some r ∧ ∀ v H', Same H H' → Rp K cl (hd M0 H') v r → Q v H'
/-- .. whose first argument is a list of its caller's, which it may change -/
def spO (K : Fg) (cl : Nat → Addr) (n : Nat) (f : Oc → List Dt → Option (Dt × Oc)) : Sp := fun vs H Q _ => ∃ (b : Addr) (us : List V) (M0 : Addr → Prop) (o o' : Oc) (ho : HO) (ds : List Dt) (r : Dt), vs = .ref b :: us ∧ ¬ M0 b ∧ (∀ a, M0 a → H a ≠ none) ∧ ds.length = n ∧ H b = some ho ∧
  RpO K cl (hd (fun a => M0 a ∨ a = b) H) ho o ∧ RpA K cl (hd (fun a => M0 a ∨ a = b) H) us ds ∧ f o ds = some (r, o') ∧
  ∀ v H' ho', (∀ a u, a ≠ b → H a = some u → H' a = some u) → H' b = some ho' → RpO K cl (hd (fun a => M0 a ∨ a = b) H') ho' o' → Rp K cl (hd (fun a => M0 a ∨ a = b) H') v r → Q v H'
@[simp] def runO (N : Nat) (ev : EvS) (o : Oc) (ds : List Dt) : Option (Dt × Oc) := (endOf (ev (.par o :: ds.map Sc.d ++ List.replicate (N - (ds.length + 1)) .un))).bind fun p => match p.2 with
  | .par o' :: _ => some (p.1, o')
  | _ => none
theorem oc_rep {m i : Nat} {o : Oc} {ds : List Dt} : ocAt (ds.map Sc.d ++ List.replicate m .un) i ≠ some o := fun h => by
  unfold ocAt at h
  rw [List.getElem?_append] at h
  split at h
  · rw [List.getElem?_map] at h
    cases e : ds[i]? with
    | none => rw [e] at h; cases h
    | some d => rw [e] at h; cases h
  · rw [List.getElem?_replicate] at h
    split at h <;> cases h
theorem start_get {N : List Str} {vs : List V} {i : Nat} {v : V} (h : vs[i]? = some v) : (start N vs)[i]? = some (some v) := by
  unfold L2.start
  have hi : i < vs.length := (List.getElem?_eq_some_iff.mp h).1
  rw [List.getElem?_append_left (by rw [List.length_map]; exact hi), List.getElem?_map, h]
  rfl
theorem start_len {N : List Str} {vs : List V} (h : vs.length ≤ N.length) : (start N vs).length = N.length := by
  unfold L2.start
  rw [List.length_append, List.length_map, List.length_replicate]
  omega
theorem slots_ok {B H : Hp} {l : Addr} {N : List Str} : ∀ {vs : List V} {ds : List Dt}, RpA K cl B vs ds → ∀ {m i : Nat} {sc : Sc}, (ds.map Sc.d ++ List.replicate m .un)[i]? = some sc → SlOk K cl B H l ((start N vs)[i]?) sc := fun {vs ds} r m i sc h => by
  rw [List.getElem?_append] at h
  split at h
  · rename_i hi
    rw [List.getElem?_map] at h
    cases e : ds[i]? with
    | none => rw [e] at h; cases h
    | some d =>
      rw [e] at h
      cases h
      obtain ⟨v, h1, h2⟩ := r.get e
      exact ⟨v, start_get h1, h2⟩
  · rw [List.getElem?_replicate] at h
    split at h
    · cases h; trivial
    · cases h
section
variable {P : Program} {w : World} {mg : Str → Option Value} {base : Heap}
theorem fn_e {x qual : Str} {st : Stmt} {f : Addr} {fd : FuncData} {N ps : List Str} {k : Nat} {ev : EvS} (F : Fun K x qual st f fd) (S : FnScope N ps (defScope st)) (hps : ps.length ≤ N.length)
    (hb : ∀ (cdv : Value) (A : Around) (outer : List PySem.Env) (s : Shared) (H : Hp) (E : XK), Room k (A.deeper (envOfC qual (defScope st) s.heap.objs.size f cdv)) →
      ∃ ts, VB cl (cxOf CX0 P w K mg base N qual (defScope st) f cdv A outer s H E).nox (defBody st) ts ev) : FnOk P w K mg base CX0 (k + 1) f fd ps (spE K cl ps.length (runE N.length ev)) := by
  refine F.ok S (fun vs H Q E h => ?_) (fun cdv A outer s H vs Q E hr h => ?_)
  · obtain ⟨M0, ds, r, _, hl, ra, _⟩ := h
    rw [ra.length, hl]
  · obtain ⟨ts, hB⟩ := hb cdv A outer s H E hr
    refine ⟨ts, hB.pe, ?_⟩
    obtain ⟨M0, ds, r, hm, hl, ra, hf, q⟩ := h
    have hvl : vs.length = ps.length := ra.length.trans hl
    have hmp : MP M0 (fun _ => 0) (ds.map Sc.d ++ List.replicate (N.length - ds.length) .un) = M0 := by
      funext a
      exact propext ⟨fun z => z.elim id fun ⟨i, o, z, _⟩ => (oc_rep z).elim, .inl⟩
    have hBv : Bv M0 (fun _ => 0) (ds.map Sc.d ++ List.replicate (N.length - ds.length) .un) H = hd M0 H := by unfold Bv; rw [hmp]
    have S0 : StA K cl H M0 (fun _ => 0) (ds.map Sc.d ++ List.replicate (N.length - ds.length) .un) (start N vs) H := by
      refine ⟨?_, Same.refl _, fun i o z => (oc_rep z).elim, hm, fun i j o o' z _ _ => (oc_rep z).elim, fun i sc h => ?_⟩
      · rw [start_len (by omega), List.length_append, List.length_map, List.length_replicate]
        omega
      · rw [hBv]
        exact slots_ok ra h
    unfold runE at hf
    obtain ⟨⟨x, e1⟩, hf, hx⟩ := map_some hf
    subst hx
    cases hev : ev (ds.map Sc.d ++ List.replicate (N.length - ds.length) .un) with
    | none => rw [hev] at hf; cases hf
    | some rs =>
      rw [hev] at hf
      refine hB.so H M0 _ _ _ H _ rs hev S0 ?_
      cases rs with
      | nx e => cases hf; exact fun as' σ' H' S' s' => q _ H' S'.same .non
      | rt y e =>
        cases hf
        exact fun as' σ' H' v S' s' rv => q v H' S'.same (Rp.mono (hd_mono (fun a _ h => .inl h) (Same.refl _)) _ _ rv)
      | bk e => cases hf
      | ct e => cases hf
end
end DL

set_option Elab.async false
set_option linter.all false
set_option maxRecDepth 100000
set_option maxHeartbeats 4000000
namespace DL
open PySem PySem.Spec PyProof.Rows L2
variable {K : Fg} {cl : Nat → Addr}
section
variable {P : Program} {w : World} {mg : Str → Option Value} {base : Heap}
theorem hd_hd {M : Addr → Prop} {b : Addr} {H : Hp} : hd M (hd (fun a => a = b) H) = hd (fun a => M a ∨ a = b) H := by
  funext a
  by_cases h1 : M a
  · rw [hd_in h1, hd_in (.inl h1)]
  · rw [hd_out h1]
    by_cases h2 : a = b
    · rw [hd_in (M := fun a => a = b) h2, hd_in (.inr h2)]
    · rw [hd_out (M := fun a => a = b) h2, hd_out (fun z => z.elim h1 h2)]
theorem fn_o {x qual : Str} {st : Stmt} {f : Addr} {fd : FuncData} {N ps : List Str} {k n : Nat} {ev : EvS} (F : Fun K x qual st f fd) (S : FnScope N ps (defScope st)) (hps : ps.length ≤ N.length) (hn : ps.length = n + 1)
    (hb : ∀ (cdv : Value) (A : Around) (outer : List PySem.Env) (s : Shared) (H : Hp) (E : XK), Room k (A.deeper (envOfC qual (defScope st) s.heap.objs.size f cdv)) →
      ∃ ts, VB cl (cxOf CX0 P w K mg base N qual (defScope st) f cdv A outer s H E).nox (defBody st) ts ev) : FnOk P w K mg base CX0 (k + 1) f fd ps (spO K cl n (runO N.length ev)) := by
  refine F.ok S (fun vs H Q E h => ?_) (fun cdv A outer s H vs Q E hr h => ?_)
  · obtain ⟨b, us, M0, o, o', ho, ds, r, rfl, _, _, hl, _, _, ra, _⟩ := h
    rw [List.length_cons, ra.length, hl, hn]
  · obtain ⟨ts, hB⟩ := hb cdv A outer s H E hr
    refine ⟨ts, hB.pe, ?_⟩
    obtain ⟨b, us, M0, o, o', ho, ds, r, rfl, hnb, hm, hl, hH, ro, ra, hf, q⟩ := h
    have hvl : us.length = n := ra.length.trans hl
    let env0 : Env := .par o :: ds.map Sc.d ++ List.replicate (N.length - (ds.length + 1)) .un
    have hoc : ∀ i p, ocAt env0 i = some p → i = 0 ∧ p = o := fun i p z => by
      cases i with
      | zero => cases z; exact ⟨rfl, rfl⟩
      | succ i => exact (oc_rep (i := i) (show ocAt (ds.map Sc.d ++ List.replicate (N.length - (ds.length + 1)) .un) i = some p from z)).elim
    have hmp : MP M0 (fun _ => b) env0 = fun a => M0 a ∨ a = b := by
      funext a
      exact propext ⟨fun z => z.elim .inl fun ⟨i, o, z, e⟩ => .inr e.symm, fun z => z.elim .inl fun e => .inr ⟨0, o, rfl, e.symm⟩⟩
    have hBv : Bv M0 (fun _ => b) env0 H = hd (fun a => M0 a ∨ a = b) H := by unfold Bv; rw [hmp]
    have S0 : StA K cl (hd (fun a => a = b) H) M0 (fun _ => b) env0 (start N (.ref b :: us)) H := by
      refine ⟨?_, hd_same, fun i o z => hd_in rfl, fun a ha => ?_, fun i j o o' z z' _ => ?_, fun i sc h => ?_⟩
      · rw [start_len (by rw [List.length_cons]; omega)]
        show N.length = (List.map Sc.d ds ++ List.replicate (N.length - (ds.length + 1)) Sc.un).length + 1
        rw [List.length_append, List.length_map, List.length_replicate]
        omega
      · rw [hd_out (M := fun a => a = b) (fun z => hnb (by rw [← z]; exact ha))]
        exact hm a ha
      · rw [(hoc i o z).1, (hoc j o' z').1]
      · rw [hBv]
        cases i with
        | zero => cases h; exact ⟨rfl, ho, hH, ro⟩
        | succ i =>
          have q := slots_ok (N := N) (H := H) (l := b) ra (m := N.length - (ds.length + 1)) (i := i) (sc := sc) h
          have e2 : (start N (.ref b :: us))[i + 1]? = (us.map some ++ List.replicate (N.length - (us.length + 1)) none)[i]? := rfl
          rw [e2]
          cases sc with
          | un => trivial
          | d y =>
            obtain ⟨v, g1, g2⟩ := q
            have hi : i < us.length := by
              have h : (ds.map Sc.d ++ List.replicate (N.length - (ds.length + 1)) .un)[i]? = some (Sc.d y) := h
              rw [List.getElem?_append] at h
              split at h
              · rename_i hi; rw [List.length_map] at hi; rw [ra.length]; exact hi
              · rw [List.getElem?_replicate] at h; split at h <;> cases h
            refine ⟨v, ?_, g2⟩
            unfold L2.start at g1
            rw [List.getElem?_append_left (by rw [List.length_map]; exact hi)] at g1 ⊢
            exact g1
          | own p => exact (oc_rep (ocAt_own (env := ds.map Sc.d ++ List.replicate (N.length - (ds.length + 1)) .un) h)).elim
          | par p => exact (oc_rep (ocAt_par (env := ds.map Sc.d ++ List.replicate (N.length - (ds.length + 1)) .un) h)).elim
    unfold runO at hf
    obtain ⟨⟨x, e1⟩, hf, hx⟩ := bind_some hf
    have fin : ∀ as' σ' H' v, StA K cl (hd (fun a => a = b) H) M0 as' e1 σ' H' → Step M0 (fun _ => b) env0 H as' e1 H' → Rp K cl (Bv M0 as' e1 H') v x → Q v H' := fun as' σ' H' v S' s' rv => by
      obtain ⟨ea, o2, e2⟩ := s'.p 0 o rfl
      cases e1 with
      | nil => cases hx
      | cons sc e1 =>
        cases (show sc = .par o2 from Option.some.inj e2)
        cases hx
        obtain ⟨_, ho', g2, g3⟩ := S'.own_at (i := 0) rfl
        rw [ea] at g2
        have mono : Same (Bv M0 as' (.par o' :: e1) H') (hd (fun a => M0 a ∨ a = b) H') := hd_mono (fun a _ h => h.elim .inl fun e => .inr ⟨0, o', rfl, by rw [e]; exact ea⟩) (Same.refl _)
        exact q v H' ho' (fun a u ha hu => S'.same a u (by rw [hd_out (M := fun a => a = b) ha]; exact hu)) g2 (g3.mono mono) (Rp.mono mono _ _ rv)
    cases hev : ev env0 with
    | none => rw [show endOf (ev (.par o :: ds.map Sc.d ++ List.replicate (N.length - (ds.length + 1)) .un)) = endOf none from congrArg endOf hev] at hf; cases hf
    | some rs =>
      rw [show endOf (ev (.par o :: ds.map Sc.d ++ List.replicate (N.length - (ds.length + 1)) .un)) = endOf (some rs) from congrArg endOf hev] at hf
      refine hB.so _ M0 _ _ _ H _ rs hev S0 ?_
      cases rs with
      | nx e => cases hf; exact fun as' σ' H' S' s' => fin as' σ' H' _ S' s' .non
      | rt y e => cases hf; exact fun as' σ' H' v S' s' rv => fin as' σ' H' v S' s' rv
      | bk e => cases hf
      | ct e => cases hf
end

/-! ### calls -/
@[simp] def callF (n : Nat) (f : List Dt → Option Dt) (ds : List Dt) : Option Dt := if ds.length = n then f ds else none
theorem se_call {n : Nat} {f : List Dt → Option Dt} {t : TA} {a : EvA} (ha : SA K cl t a) : SE K cl (tCall (spE K cl n f) [] E0 t) (xB (callF n f) a) := fun Hin M0 as env σ H Q x env' e S q => by
  obtain ⟨⟨ds, e1⟩, h1, e⟩ := bind_some e
  obtain ⟨z, h3, e⟩ := map_some e
  cases e
  refine ha Hin M0 as env σ H _ _ _ h1 S fun vs H1 S1 s1 r1 => ?_
  have h3 : (if ds.length = n then f ds else none) = some x := h3
  split at h3
  · rename_i hl
    show spE K cl n f (vs ++ []) H1 Q E0
    rw [List.append_nil]
    refine ⟨MP M0 as e1, ds, x, fun a h => S1.dom h, hl, r1, h3, fun v H2 sm rv => ?_⟩
    obtain ⟨S2, s2⟩ := S1.grow sm
    exact q v H2 S2 (s1.trans s2) rv
  · cases h3
/-- f(box, ..): the box's slot holds something else behind -/
@[simp] def xCallO (n : Nat) (f : Oc → List Dt → Option (Dt × Oc)) (i : Nat) (a : EvA) : EvE := fun env => match ocAt env i with
  | some _ => (a env).bind fun p => if p.1.length = n then (match ocAt p.2 i with
    | some o => (f o p.1).bind fun r => (putOc i r.2 p.2).map fun e => (r.1, e)
    | none => none) else none
  | none => none
theorem se_callO {n : Nat} {f : Oc → List Dt → Option (Dt × Oc)} {t : TA} {a : EvA} (i : Nat) (ha : SA K cl t a) : SE K cl (tCall (spO K cl n f) [] E0 (tCons (tVar i) t)) (xCallO n f i a) := fun Hin M0 as env σ H Q x env' e S q => by
  unfold xCallO at e
  split at e
  · rename_i o0 e0
    obtain ⟨⟨ds, e1⟩, h1, e⟩ := bind_some e
    obtain ⟨g1, _⟩ := S.own_at e0
    refine ⟨_, g1, ?_⟩
    refine ha Hin M0 as env σ H _ _ _ h1 S fun vs H1 S1 s1 r1 => ?_
    split at e
    · rename_i hl
      split at e
      · rename_i o e2
        obtain ⟨⟨y, o'⟩, h3, e⟩ := bind_some e
        obtain ⟨e3, h4, e⟩ := map_some e
        cases e
        obtain ⟨_, ho, k2, k3⟩ := S1.own_at e2
        show spO K cl n f ((.ref (as i) :: vs) ++ []) H1 Q E0
        rw [List.append_nil]
        have hM : (fun a => (M0 a ∨ ∃ j p, j ≠ i ∧ ocAt e1 j = some p ∧ as j = a) ∨ a = as i) = MP M0 as e1 := by
          funext a
          refine propext ⟨fun z => ?_, fun z => ?_⟩
          · rcases z with (z | ⟨j, p, _, z, ez⟩) | z
            · exact .inl z
            · exact .inr ⟨j, p, z, ez⟩
            · exact .inr ⟨i, o, e2, z.symm⟩
          · rcases z with z | ⟨j, p, z, ez⟩
            · exact .inl (.inl z)
            · by_cases hj : j = i
              · rw [hj] at ez; exact .inr ez.symm
              · exact .inl (.inr ⟨j, p, hj, z, ez⟩)
        have hnb : ¬ (M0 (as i) ∨ ∃ j p, j ≠ i ∧ ocAt e1 j = some p ∧ as j = as i) := fun z => by
          rcases z with z | ⟨j, p, hj, z, e⟩
          · exact S1.m0 _ z (S1.fr i o e2)
          · exact hj (S1.inj j i p o z e2 e)
        refine ⟨as i, vs, fun a => M0 a ∨ ∃ j p, j ≠ i ∧ ocAt e1 j = some p ∧ as j = a, o, o', ho, ds, _, rfl, hnb, fun a h => ?_, hl, k2, ?_, ?_, h3, fun v H2 ho' sm hb ro rv => ?_⟩
        · exact S1.dom (h.elim .inl fun ⟨j, p, _, z, e⟩ => .inr ⟨j, p, z, e⟩)
        · rw [hM]; exact k3
        · rw [hM]; exact r1
        · rw [hM] at ro rv
          -- first the rest of the heap grows, then the box turns
          have hH2 : H2 = upd (upd H2 (as i) ho) (as i) ho' := by
            rw [upd_upd]
            funext a
            by_cases ha : a = as i
            · rw [ha, upd_same, hb]
            · rw [upd_ne ha]
          have sm1 : Same H1 (upd H2 (as i) ho) := fun a u hu => by
            by_cases ha : a = as i
            · rw [ha] at hu ⊢
              rw [upd_same, ← k2]
              exact hu
            · rw [upd_ne ha]; exact sm a u ha hu
          obtain ⟨S2, s2⟩ := S1.grow sm1
          have hBe : Bv M0 as e1 (upd H2 (as i) ho) = hd (MP M0 as e1) H2 := by
            unfold Bv
            funext a
            by_cases ha : MP M0 as e1 a
            · rw [hd_in ha, hd_in ha]
            · rw [hd_out ha, hd_out ha, upd_ne (fun z => ha (.inr ⟨i, o, e2, z.symm⟩))]
          obtain ⟨S3, s3⟩ := S2.putOc (ho := ho') h4 (by rw [hBe]; exact ro)
          rw [← hH2] at S3 s3
          refine q v H2 S3 ((s1.trans s2).trans s3) (Rp.mono ?_ _ _ rv)
          have := s3.b
          rw [hBe] at this
          exact this
      · cases e
    · cases e
  · cases e
end DL

set_option Elab.async false
set_option linter.all false
set_option maxRecDepth 100000
set_option maxHeartbeats 4000000
namespace DL
open PySem PySem.Spec PyProof.Rows L2
variable {cl : Nat → Addr} {X : Cx}

/-! ### names, constants -/
theorem v_var (i : Nat) {x : Str} {pos : Pos} (hN : X.N[i]? = some x := by rfl) (hv : Vis X.env.scope x := by first | exact Or.inl rfl | exact Or.inr (Or.inl rfl) | exact Or.inr (Or.inr rfl)) (hd : (x == ("__debug__" : Str)) = false := by decide)
    (hcd : (x == ("__classdict__" : Str)) = false := by decide) : VE cl X (.Name x pos) (tVar i) (xVar i) := ⟨pe_var hN hv hd hcd, se_var i⟩
theorem v_int {i : Int} {j : Nat} {pos : Pos} : VE cl X (.Constant (.int i) j pos) (tC (.int i)) (xC (.int i)) := ⟨pe_int, se_c fun _ => .int i⟩
theorem v_bl {b : Bool} {j : Nat} {pos : Pos} : VE cl X (.Constant (.bool b) j pos) (tC (.bl b)) (xC (.bl b)) := ⟨pe_bl, se_c fun _ => .bl b⟩
theorem v_non {j : Nat} {pos : Pos} : VE cl X (.Constant .none j pos) (tC .non) (xC .non) := ⟨pe_non, se_c fun _ => .non⟩
theorem v_str {x : Str} {j : Nat} {pos : Pos} : VE cl X (.Constant (.str x) j pos) (tC (.str x)) (xC (.str x)) := ⟨pe_str, se_c fun _ => .str x⟩
theorem v_globI {x : Str} {i : Int} {t : Tok} {pos : Pos} (hg : Gl X x) (hm : X.mg x = some (.int i t)) (hd : (x == ("__debug__" : Str)) = false := by decide) : VE cl X (.Name x pos) (tC (.int i)) (xC (.int i)) := ⟨pe_glob hg hm ⟨t, rfl⟩ hd, se_c fun _ => .int i⟩

/-! ### operators -/
section
variable {a b c : Expr} {ta tb tc : TE} {ea eb ec : EvE} {pos : Pos}
theorem v_op {op : Operator} {r : R2} {f : Dt → Dt → Option Dt} (ho : OpR X (binaryOp op) r) (hs : OpS X.K cl r f) (ha : VE cl X a ta ea) (hb : VE cl X b tb eb) : VE cl X (.BinOp a op b pos) (tOp r ta tb) (x2 f ea eb) := ⟨pe_op ho ha.pe hb.pe, se_op hs ha.so hb.so⟩
theorem v_un {op : UnaryOp} {r : V → Hp → VK → Prop} {f : Dt → Option Dt} (ho : UnR X (unaryOp op) r) (hs : UnS X.K cl r f) (ha : VE cl X a ta ea) : VE cl X (.UnaryOp op a pos) (tUn r ta) (x1 f ea) := ⟨pe_un ho ha.pe, se_un hs ha.so⟩
@[simp] def fSub := fI fun i j => .int (i - j)
def smallI (i : Int) : Bool := decide (-(2 ^ 64) < i ∧ i < 2 ^ 64)
@[simp] def fMul := fIc (fun i j => smallI i || smallI j) fun i j => .int (i * j)
def CDivS (_ j : Int) : Prop := j ≠ 0 ∧ j.natAbs.log2 < 9000
def divOk (j : Int) : Bool := decide (j ≠ 0 ∧ j.natAbs.log2 < 9000)
@[simp] def fDiv := fIc (fun _ j => divOk j) fun i j => .int (i.fdiv j)
@[simp] def fMod := fIc (fun _ j => decide (j ≠ 0)) fun i j => .int (i.fmod j)
@[simp] def fPow := fIc (fun i j => decide (0 ≤ j ∧ j ≤ 1000 ∧ i.natAbs < 2 ^ 64)) fun i j => .int (i ^ j.toNat)
theorem op_fdivS : OpR X (binaryOp .FloorDiv) (rI CDivS fun i j => .int (i.fdiv j)) := opI fun i j _ _ _ _ _ hc q => floordiv_int hc.1 q (.inl (PyProof.noPylong_of_log2 hc.2))
theorem v_sub (ha : VE cl X a ta ea) (hb : VE cl X b tb eb) : VE cl X (.BinOp a .Sub b pos) (tOp (rI0 fun i j => .int (i - j)) ta tb) (x2 fSub ea eb) := v_op op_sub (ops_I0 fun _ _ _ => .int _) ha hb
theorem v_mul (ha : VE cl X a ta ea) (hb : VE cl X b tb eb) : VE cl X (.BinOp a .Mult b pos) (tOp (rI CMul fun i j => .int (i * j)) ta tb) (x2 fMul ea eb) := v_op op_mul (ops_I (fun i j h => by
  unfold smallI at h
  rw [Bool.or_eq_true, decide_eq_true_eq, decide_eq_true_eq] at h
  exact h) fun _ _ _ => .int _) ha hb
theorem v_div (ha : VE cl X a ta ea) (hb : VE cl X b tb eb) : VE cl X (.BinOp a .FloorDiv b pos) (tOp (rI CDivS fun i j => .int (i.fdiv j)) ta tb) (x2 fDiv ea eb) := v_op op_fdivS (ops_I (fun i j h => by unfold CDivS; unfold divOk at h; exact of_decide_eq_true h) fun _ _ _ => .int _) ha hb
theorem v_mod (ha : VE cl X a ta ea) (hb : VE cl X b tb eb) : VE cl X (.BinOp a .Mod b pos) (tOp (rI (fun _ j => j ≠ 0) fun i j => .int (i.fmod j)) ta tb) (x2 fMod ea eb) := v_op op_modN (ops_I (fun i j h => of_decide_eq_true h) fun _ _ _ => .int _) ha hb
theorem v_pow (ha : VE cl X a ta ea) (hb : VE cl X b tb eb) : VE cl X (.BinOp a .Pow b pos) (tOp (rI CPow fun i j => .int (i ^ j.toNat)) ta tb) (x2 fPow ea eb) := v_op op_pow (ops_I (fun i j h => by
  obtain ⟨h1, h2, h3⟩ := of_decide_eq_true h
  exact ⟨h1, by omega, h3⟩) fun _ _ _ => .int _) ha hb
@[simp] def fNeg : Dt → Option Dt
  | .int i => some (.int (-i))
  | _ => none
theorem v_neg (ha : VE cl X a ta ea) : VE cl X (.UnaryOp .USub a pos) (tUn (rU fun i => .int (-i)) ta) (x1 fNeg ea) := v_un un_neg (fun Hin M0 as env σ H Q x z v h S r q => by
  cases x with
  | int i => cases h; cases r; exact ⟨i, rfl, q _ H S Step.refl (.int _)⟩
  | _ => cases h) ha
/-! + of ints, texts, tuples, lists -/
@[simp] def fAdd : Dt → Dt → Option Dt
  | .int i, .int j => some (.int (i + j))
  | .tup xs, .tup ys => if xs.length + ys.length ≤ most then some (.tup (xs ++ ys)) else none
  | .lst xs, .lst ys => if xs.length + ys.length ≤ most then some (.lst (xs ++ ys)) else none
  | .str x, .str y => if x.length + y.length ≤ most then some (.str (x ++ y)) else none
  | _, _ => none
def rAddS2 : R2 := fun x y H Q => ∃ i j, x = .str i ∧ y = .str j ∧ i.length + j.length ≤ sizeLine ∧ Q (.str (i ++ j)) H
def rAddA (K : Fg) : R2 := fun x y H Q => (rI0 fun i j => .int (i + j)) x y H Q ∨ (rCatA K x y H Q ∨ (rCat x y H Q ∨ rAddS2 x y H Q))
theorem op_addA : OpR X (binaryOp .Add) (rAddA X.K) := op_add.or (op_catA.or (op_cat.or op_add_str))
theorem ops_addA {K : Fg} : OpS K cl (rAddA K) fAdd := fun Hin M0 as env σ H Q x y z v w h S r1 r2 q => by
  unfold fAdd at h
  split at h
  · cases h
    cases r1
    cases r2
    exact .inl ⟨_, _, rfl, rfl, q _ H S Step.refl (.int _)⟩
  · rename_i xs ys
    split at h
    · rename_i hl
      cases h
      cases r1 with
      | tup a1 a2 =>
        cases r2 with
        | tup b1 b2 =>
          rename_i p vs p2 ws
          have l1 := a2.length
          have l2 := b2.length
          refine .inr (.inl ⟨p, p2, vs, ws, rfl, rfl, same_t hd_same a1, same_t hd_same b1, most_ok (by rw [l1, l2]; exact hl), fun e => ?_, fun _ e => ?_, fun _ _ t ht => ?_⟩)
          · subst e
            cases a2
            exact q _ H S Step.refl (.tup b1 b2)
          · subst e
            cases b2
            rw [List.append_nil] at q
            exact q _ H S Step.refl (.tup a1 a2)
          · obtain ⟨S2, s2⟩ := S.grow (same_upd (o := .tup (vs ++ ws)) ht)
            exact q _ _ S2 s2 (.tup (.inl (.inl (Bv_new S ht))) (RpA.mono s2.b _ _ (a2.append b2)))
    · cases h
  · rename_i xs ys
    split at h
    · rename_i hl
      cases h
      cases r1 with
      | lst a1 a2 =>
        cases r2 with
        | lst b1 b2 =>
          rename_i p vs p2 ws
          refine .inr (.inr (.inl ⟨p, p2, vs, ws, rfl, rfl, hd_same _ _ a1, hd_same _ _ b1, most_ok (by rw [a2.length, b2.length]; exact hl), fun t ht => ?_⟩))
          obtain ⟨S2, s2⟩ := S.grow (same_upd (o := .lst (vs ++ ws)) ht)
          exact q _ _ S2 s2 (.lst (Bv_new S ht) (RpA.mono s2.b _ _ (a2.append b2)))
    · cases h
  · split at h
    · rename_i hl
      cases h
      cases r1
      cases r2
      exact .inr (.inr (.inr ⟨_, _, rfl, rfl, most_ok hl, q _ H S Step.refl (.str _)⟩))
    · cases h
  · cases h
theorem v_add (ha : VE cl X a ta ea) (hb : VE cl X b tb eb) : VE cl X (.BinOp a .Add b pos) (tOp (rAddA X.K) ta tb) (x2 fAdd ea eb) := v_op op_addA ops_addA ha hb

/-! ### comparisons -/
mutual
def py : Dt → PyData
  | .non => .none
  | .bl b => .bool b
  | .int i => .int i
  | .str x => .str x
  | .lst ds => .list (pys ds)
  | .tup ds => .tuple (pys ds)
  | .ins _ _ _ => .none
  | .scr _ => .none
def pys : List Dt → List PyData
  | [] => []
  | d :: ds => py d :: pys ds
end
mutual
def isPy : Dt → Bool
  | .lst ds => isPys ds
  | .tup ds => isPys ds
  | .ins _ _ _ => false
  | .scr _ => false
  | _ => true
def isPys : List Dt → Bool
  | [] => true
  | d :: ds => isPy d && isPys ds
end
mutual
theorem Rp.dp {K : Fg} {B H : Hp} (e : Same B H) : ∀ (d : Dt) (v : V), Rp K cl B v d → isPy d = true → Dp K H v (py d)
  | .non, _, h, _ => by cases h; exact .non
  | .bl _, _, h, _ => by cases h; exact .bl _
  | .int _, _, h, _ => by cases h; exact .int _
  | .str _, _, h, _ => by cases h; exact .str _
  | .lst ds, _, h, g => by cases h with | lst h1 h2 => exact .lst (.inl (.inl (e _ _ h1))) (RpA.dp e ds _ h2 g)
  | .tup ds, _, h, g => by cases h with | tup h1 h2 => exact .tup (same_t e h1) (RpA.dp e ds _ h2 g)
  | .ins _ _ _, _, _, g => by cases g
  | .scr _, _, _, g => by cases g
theorem RpA.dp {K : Fg} {B H : Hp} (e : Same B H) : ∀ (ds : List Dt) (vs : List V), RpA K cl B vs ds → isPys ds = true → DpAll K H vs (pys ds)
  | [], _, h, _ => by cases h; exact .nil
  | d :: ds, _, h, g => by
    cases h with
    | cons h1 h2 =>
      have g : (isPy d && isPys ds) = true := g
      rw [Bool.and_eq_true] at g
      exact .cons (Rp.dp e d _ h1 g.1) (RpA.dp e ds _ h2 g.2)
end
/-- data that == takes -/
def eqOk (d : Dt) : Bool := isPy d && SeqAt.shaped (py d)
def fEq (x y : Dt) : Option Dt := if (eqOk x && eqOk y) = true then some (.bl (PyData.eqv (py x) (py y))) else none
def fNe (x y : Dt) : Option Dt := if (eqOk x && eqOk y) = true then some (.bl (!PyData.eqv (py x) (py y))) else none
theorem ops_eq {K : Fg} : OpS K cl (rEqD K) fEq := fun Hin M0 as env σ H Q x y z v w h S r1 r2 q => by
  unfold fEq eqOk at h
  split at h
  · rename_i g
    cases h
    rw [Bool.and_eq_true, Bool.and_eq_true, Bool.and_eq_true] at g
    exact ⟨_, _, Rp.dp hd_same _ _ r1 g.1.1, Rp.dp hd_same _ _ r2 g.2.1, g.1.2, g.2.2, q _ H S Step.refl (.bl _)⟩
  · cases h
theorem ops_ne {K : Fg} : OpS K cl (rNeD K) fNe := fun Hin M0 as env σ H Q x y z v w h S r1 r2 q => by
  unfold fNe eqOk at h
  split at h
  · rename_i g
    cases h
    rw [Bool.and_eq_true, Bool.and_eq_true, Bool.and_eq_true] at g
    exact ⟨_, _, Rp.dp hd_same _ _ r1 g.1.1, Rp.dp hd_same _ _ r2 g.2.1, g.1.2, g.2.2, q _ H S Step.refl (.bl _)⟩
  · cases h
@[simp] def fLt := fI fun i j => .bl (decide (i < j))
@[simp] def fLe := fI fun i j => .bl (decide (i ≤ j))
@[simp] def fGt := fI fun i j => .bl (decide (j < i))
@[simp] def fGe := fI fun i j => .bl (decide (j ≤ i))
/-- a comparison: its rule, what it is worth -/
structure CmpV (cl : Nat → Addr) (X : Cx) (op : CmpOp) (r : R2) (f : Dt → Dt → Option Dt) : Prop where
  o : OpR X (compareOp op) r
  s : OpS X.K cl r f
theorem c_lt : CmpV cl X .Lt (rI0 fun i j => .bl (decide (i < j))) fLt := ⟨op_lt, ops_I0 fun _ _ _ => .bl _⟩
theorem c_le : CmpV cl X .LtE (rI0 fun i j => .bl (decide (i ≤ j))) fLe := ⟨op_le, ops_I0 fun _ _ _ => .bl _⟩
theorem c_gt : CmpV cl X .Gt (rI0 fun i j => .bl (decide (j < i))) fGt := ⟨op_gt, ops_I0 fun _ _ _ => .bl _⟩
theorem c_ge : CmpV cl X .GtE (rI0 fun i j => .bl (decide (j ≤ i))) fGe := ⟨op_ge, ops_I0 fun _ _ _ => .bl _⟩
theorem c_eq {k : Nat} (hr : Room k X.A) : CmpV cl X .Eq (rEqD X.K) fEq := ⟨op_eqD hr.units, ops_eq⟩
theorem c_ne {k : Nat} (hr : Room k X.A) : CmpV cl X .NotEq (rNeD X.K) fNe := ⟨op_neD hr.units, ops_ne⟩
@[simp] def fIs : Dt → Dt → Option Dt
  | .bl a, .bl b => some (.bl (decide (a = b)))
  | _, _ => none
@[simp] def fIsNot : Dt → Dt → Option Dt
  | .bl a, .bl b => some (.bl (!decide (a = b)))
  | _, _ => none
theorem c_is : CmpV cl X .Is rIsB fIs := ⟨op_isBl, fun Hin M0 as env σ H Q x y z v w h S r1 r2 q => by
  unfold fIs at h
  split at h
  · cases h; cases r1; cases r2; exact ⟨_, _, rfl, rfl, q _ H S Step.refl (.bl _)⟩
  · cases h⟩
theorem c_isNot : CmpV cl X .IsNot rNotB fIsNot := ⟨op_notBl, fun Hin M0 as env σ H Q x y z v w h S r1 r2 q => by
  unfold fIsNot at h
  split at h
  · cases h; cases r1; cases r2; exact ⟨_, _, rfl, rfl, q _ H S Step.refl (.bl _)⟩
  · cases h⟩
@[simp] theorem fEq_int (i j : Int) : fEq (.int i) (.int j) = some (.bl (i == j)) := rfl
@[simp] theorem fNe_int (i j : Int) : fNe (.int i) (.int j) = some (.bl (!(i == j))) := rfl
@[simp] theorem fEq_bl (i j : Bool) : fEq (.bl i) (.bl j) = some (.bl (i == j)) := rfl
@[simp] theorem fNe_bl (i j : Bool) : fNe (.bl i) (.bl j) = some (.bl (!(i == j))) := rfl
theorem smallI_of {i : Int} (h1 : -18446744073709551616 < i) (h2 : i < 18446744073709551616) : smallI i = true := by
  unfold smallI
  exact decide_eq_true ⟨by omega, by omega⟩
theorem divOk_of {i : Int} (h0 : i ≠ 0) (h : i.natAbs < 2 ^ 200) : divOk i = true := by
  unfold divOk
  refine decide_eq_true ⟨h0, ?_⟩
  have h1 := PySem.Flt.log2_lt_of (k := 200) (by decide) h
  omega
theorem v_cmp {op : CmpOp} {r : R2} {f : Dt → Dt → Option Dt} (h : CmpV cl X op r f) (ha : VE cl X a ta ea) (hb : VE cl X b tb eb) (hm : behindInMarks op b = false := by first | exact nomark _ | rfl) : VE cl X (.Compare a [op] [b] pos) (tOp r ta tb) (x2 f ea eb) := ⟨pe_cmpR h.o ha.pe hb.pe hm, se_op h.s ha.so hb.so⟩
theorem t_cmp {op : CmpOp} {r : R2} {f : Dt → Dt → Option Dt} (h : CmpV cl X op r f) (ha : VE cl X a ta ea) (hb : VE cl X b tb eb) (hm : behindInMarks op b = false := by first | exact nomark _ | rfl) : VT cl X (.Compare a [op] [b] pos) (tTest (tOp r ta tb)) (xT (x2 f ea eb)) := ⟨pt_cmpR h.o ha.pe hb.pe hm, st_test (se_op h.s ha.so hb.so)⟩
theorem v_chain {op op' : CmpOp} {r r' : R2} {f g : Dt → Dt → Option Dt} (h : CmpV cl X op r f) (h' : CmpV cl X op' r' g) (ha : VE cl X a ta ea) (hb : VE cl X b tb eb) (hc : VE cl X c tc ec) (hm : lastMarks [op, op'] [b, c] = false := by with_unfolding_all rfl) :
    VE cl X (.Compare a [op, op'] [b, c] pos) (tChain r r' ta tb tc) (xChain f g ea eb ec) := ⟨pe_chain h.o h'.o ha.pe hb.pe hc.pe hm, se_chain h.s h'.s ha.so hb.so hc.so⟩
theorem t_chain {op op' : CmpOp} {r r' : R2} {f g : Dt → Dt → Option Dt} (h : CmpV cl X op r f) (h' : CmpV cl X op' r' g) (ha : VE cl X a ta ea) (hb : VE cl X b tb eb) (hc : VE cl X c tc ec) (hm : lastMarks [op, op'] [b, c] = false := by with_unfolding_all rfl) :
    VT cl X (.Compare a [op, op'] [b, c] pos) (tTest (tChain r r' ta tb tc)) (xT (xChain f g ea eb ec)) := ⟨pt_chain h.o h'.o ha.pe hb.pe hc.pe hm, st_test (se_chain h.s h'.s ha.so hb.so hc.so)⟩
theorem t_val (h : VE cl X a ta ea) (he : ∀ whole, isTrue a X.env whole = (do let v ← whole; standAt a.pos; holding [v] (truthy v)) := by intro _; rfl) : VT cl X a (tB ta) (xT ea) := ⟨pt_val h.pe he, st_test h.so⟩
variable {tA tB' : TT} {eA eB : EvT} {rest : List Expr}
theorem w_and1 (ha : VT cl X a tA eA) : VW cl X (.BoolOp .And [a] pos) tA eA := ⟨pw_and1 ha.pe, ha.so⟩
theorem w_or1 (ha : VT cl X a tA eA) : VW cl X (.BoolOp .Or [a] pos) tA eA := ⟨pw_or1 ha.pe, ha.so⟩
theorem w_and (ha : VT cl X a tA eA) (hb : VW cl X (.BoolOp .And (b :: rest) pos) tB' eB) : VW cl X (.BoolOp .And (a :: b :: rest) pos) (tAnd tA tB') (xAndT eA eB) := ⟨pw_and ha.pe hb.pe, st_and ha.so hb.so⟩
theorem w_or (ha : VT cl X a tA eA) (hb : VW cl X (.BoolOp .Or (b :: rest) pos) tB' eB) : VW cl X (.BoolOp .Or (a :: b :: rest) pos) (tOr tA tB') (xOrT eA eB) := ⟨pw_or ha.pe hb.pe, st_or ha.so hb.so⟩
theorem VW.t (h : VW cl X a tA eA) : VT cl X a tA eA := ⟨h.pe.pt, h.so⟩
theorem t_not (ha : VT cl X a tA eA) : VT cl X (.UnaryOp .Not a pos) (tNot tA) (xNotT eA) := ⟨pt_not ha.pe, st_not ha.so⟩
theorem v_one {op : BoolOp} (ha : VE cl X a ta ea) : VE cl X (.BoolOp op [a] pos) ta ea := ⟨pe_one ha.pe, ha.so⟩
theorem v_and (ha : VE cl X a ta ea) (hb : VE cl X (.BoolOp .And (b :: rest) pos) tb eb) : VE cl X (.BoolOp .And (a :: b :: rest) pos) (tAndV ta tb) (xAnd ea eb) := ⟨pe_and ha.pe hb.pe, se_and ha.so hb.so⟩
theorem v_or (ha : VE cl X a ta ea) (hb : VE cl X (.BoolOp .Or (b :: rest) pos) tb eb) : VE cl X (.BoolOp .Or (a :: b :: rest) pos) (tOrV ta tb) (xOr ea eb) := ⟨pe_or ha.pe hb.pe, se_or ha.so hb.so⟩
theorem v_not (ha : VE cl X a ta ea) : VE cl X (.UnaryOp .Not a pos) (tNotV ta) (xNot ea) := ⟨pe_not ha.pe, se_not ha.so⟩
theorem v_if (hc : VT cl X c tA eA) (ha : VE cl X a ta ea) (hb : VE cl X b tb eb) : VE cl X (.IfExp c a b pos) (tIf tA ta tb) (xIf eA ea eb) := ⟨pe_ifExp hc.pe ha.pe hb.pe, se_if hc.so ha.so hb.so⟩

/-! ### displays, places, calls -/
variable {e : Expr} {es : List Expr} {te : TE} {ev : EvE} {t : TA} {ar : EvA}
theorem a_nil : VA cl X [] tNil xNil := ⟨pa_nil, sa_nil⟩
theorem a_cons (ha : VE cl X e te ev) (hr : VA cl X es t ar) (hs : starEach (e :: es) X.env = (false, eval e X.env) :: starEach es X.env := by rfl) : VA cl X (e :: es) (tCons te t) (xCons ev ar) := ⟨pa_cons ha.pe hr.pe hs, sa_cons ha.so hr.so⟩
theorem v_tup {k : Nat} (h : VA cl X es t ar) : VE cl X (.Tuple es k pos) (tTup t) (xTup ar) := ⟨pe_tup h.pe, se_tup h.so⟩
theorem l_lst (h : VA cl X es t ar) : VL cl X (.List es pos) (tLst t) (xLst ar) := ⟨pe_lst h.pe, sl_lst h.so⟩
theorem VL.v {ar : EvA} (h : VL cl X a ta ar) : VE cl X a ta (xL ar) := ⟨h.pe, h.so.e⟩
@[simp] def fIx : Dt → Dt → Option Dt
  | .lst ds, .int i => atI ds i
  | .tup ds, .int i => atI ds i
  | .scr ns, .int i => (atI ns i).map .int
  | .str s, .int i => if s.length ≤ most then (atI s.cps.toList i).map fun c => .str ⟨#[c]⟩ else none
  | _, _ => none
theorem at_rp {K : Fg} {B : Hp} {vs : List V} {ds : List Dt} {i : Int} {d : Dt} (r : RpA K cl B vs ds) (h : atI ds i = some d) : ∃ v, atI vs i = some v ∧ Rp K cl B v d := by
  unfold atI at h ⊢
  rw [r.length]
  obtain ⟨j, h1, h2⟩ := bind_some h
  rw [h1]
  exact r.get h2
theorem ops_ix {K : Fg} : OpS K cl (rIx K) fIx := fun Hin M0 as env σ H Q x y z v w h S r1 r2 q => by
  unfold fIx at h
  split at h
  · cases r2
    cases r1 with
    | lst a1 a2 =>
      obtain ⟨u, h1, h2⟩ := at_rp a2 h
      exact .inl ⟨_, _, _, u, rfl, rfl, .inl (.inl (hd_same _ _ a1)), h1, q u H S Step.refl h2⟩
  · cases r2
    cases r1 with
    | tup a1 a2 =>
      obtain ⟨u, h1, h2⟩ := at_rp a2 h
      exact .inr (.inl ⟨_, _, _, u, rfl, rfl, same_t hd_same a1, h1, q u H S Step.refl h2⟩)
  · rename_i ns i
    cases r2
    cases r1 with
    | scr a1 =>
      obtain ⟨n, h1, h2⟩ := map_some h
      subst h2
      refine .inl ⟨_, ns.map V.int, i, .int n, rfl, rfl, hd_same.seq a1, ?_, q _ H S Step.refl (.int n)⟩
      unfold atI at h1 ⊢
      rw [List.length_map]
      obtain ⟨j, g1, g2⟩ := bind_some h1
      rw [g1]
      show (ns.map V.int)[j]? = some (.int n)
      rw [List.getElem?_map, g2]
      rfl
  · cases r2
    cases r1
    split at h
    · rename_i hl
      obtain ⟨n, h1, h2⟩ := map_some h
      subst h2
      exact .inr (.inr ⟨_, _, n, rfl, rfl, most_ok hl, h1, q _ H S Step.refl (.str _)⟩)
    · cases h
  · cases h
theorem v_ix (ha : VE cl X a ta ea) (hb : VE cl X b tb eb) (hs : PlainIx b := by exact fun _ _ => rfl) : VE cl X (.Subscript a b pos) (tOp (rIx X.K) ta tb) (x2 fIx ea eb) := ⟨pe_ix ix_seq ha.pe hb.pe hs, se_op ops_ix ha.so hb.so⟩
/-- box[j], the box its slot's own -/
@[simp] def xIxO (i : Nat) (b : EvE) : EvE := fun env => match ocAt env i with
  | some (.l _) => (b env).bind fun q => match ocAt q.2 i, q.1 with
    | some (.l ds), .int k => (atI ds k).map fun z => (z, q.2)
    | _, _ => none
  | _ => none
theorem se_ixO {K : Fg} {tb : TE} {eb : EvE} (i : Nat) (hb : SE K cl tb eb) : SE K cl (tOp (rIx K) (tVar i) tb) (xIxO i eb) := fun Hin M0 as env σ H Q z env' h S q => by
  unfold xIxO at h
  split at h
  · rename_i ds0 e0
    obtain ⟨⟨y, e2⟩, h2, h⟩ := bind_some h
    obtain ⟨g1, _⟩ := S.own_at e0
    refine ⟨_, g1, ?_⟩
    refine hb Hin M0 as env σ H _ _ _ h2 S fun w H2 S2 s2 r2 => ?_
    cases y with
    | int k =>
      cases e2o : ocAt e2 i with
      | none => simp only [e2o] at h; cases h
      | some o =>
        cases o with
        | t => simp only [e2o] at h; cases h
        | l ds =>
          simp only [e2o] at h
          obtain ⟨y2, h4, h⟩ := map_some h
          cases h
          cases r2
          obtain ⟨_, ho, k2, k3⟩ := S2.own_at e2o
          cases ho with
          | lst vs =>
            obtain ⟨u, g3, g4⟩ := at_rp k3 h4
            exact .inl ⟨_, vs, k, u, rfl, rfl, .inl (.inl k2), g3, q u H2 S2 s2 g4⟩
          | _ => exact k3.elim
    | _ => simp at h
  · cases h
theorem v_ixO (i : Nat) {x : Str} {p : Pos} (hb : VE cl X b tb eb) (hs : PlainIx b := by exact fun _ _ => rfl) (hN : X.N[i]? = some x := by rfl) (hv : Vis X.env.scope x := by first | exact Or.inl rfl | exact Or.inr (Or.inl rfl) | exact Or.inr (Or.inr rfl)) (hd : (x == ("__debug__" : Str)) = false := by decide)
    (hcd : (x == ("__classdict__" : Str)) = false := by decide) : VE cl X (.Subscript (.Name x p) b pos) (tOp (rIx X.K) (tVar i) tb) (xIxO i eb) := ⟨pe_ix ix_seq (pe_var hN hv hd hcd) hb.pe hs, se_ixO i hb.so⟩
section
variable {P : Program} {w : World} {k n : Nat} {f : Addr} {fd : FuncData} {ps : List Str} {x : Str} {p : Pos}
theorem v_call {g : List Dt → Option Dt} (hr : Room k X.A) (F : FnOk X.prog X.w X.K X.mg X.base CX0 k f fd ps (spE X.K cl n g)) (hm : X.mg x = some (.ref f)) (hk : PySem.W.keepIn X.K (.ref f) = true) (hb : Binds X.K fd ps []) (ha : VA cl X (e :: es) t ar) (hg : Gl X x := by rfl)
    (hdb : (x == ("__debug__" : Str)) = false := by decide) (he : starEach (e :: es) X.env = (false, eval e X.env) :: starEach es X.env := by rfl) (hpl : (backTo pos (starEach es X.env)).any (·.1) = false := by rfl) :
    VE cl X (.Call (.Name x p) (e :: es) [] pos) (tCall (spE X.K cl n g) [] E0 t) (xB (callF n g) ar) := ⟨pe_call F hr hg hm hk hb .nil pass0 ha.pe hdb he hpl, se_call ha.so⟩
theorem v_callO (i : Nat) {g : Oc → List Dt → Option (Dt × Oc)} {y : Str} {py : Pos} (hr : Room k X.A) (F : FnOk X.prog X.w X.K X.mg X.base CX0 k f fd ps (spO X.K cl n g)) (hm : X.mg x = some (.ref f)) (hk : PySem.W.keepIn X.K (.ref f) = true) (hb : Binds X.K fd ps []) (ha : VA cl X es t ar)
    (hg : Gl X x := by rfl) (hN : X.N[i]? = some y := by rfl) (hv : Vis X.env.scope y := by first | exact Or.inl rfl | exact Or.inr (Or.inl rfl) | exact Or.inr (Or.inr rfl)) (hd : (y == ("__debug__" : Str)) = false := by decide)
    (hcd : (y == ("__classdict__" : Str)) = false := by decide) (hdb : (x == ("__debug__" : Str)) = false := by decide) (he : starEach (.Name y py :: es) X.env = (false, eval (.Name y py) X.env) :: starEach es X.env := by rfl) (hpl : (backTo pos (starEach es X.env)).any (·.1) = false := by rfl) :
    VE cl X (.Call (.Name x p) (.Name y py :: es) [] pos) (tCall (spO X.K cl n g) [] E0 (tCons (tVar i) t)) (xCallO n g i ar) := ⟨pe_call F hr hg hm hk hb .nil pass0 (pa_cons (pe_var hN hv hd hcd) ha.pe he) hdb he hpl, se_callO i ha.so⟩
theorem v_callB {id : String} {r : List V → Hp → VK → Prop} {g : List Dt → Option Dt} (hc : CallR X (.builtin id) r) (hs : CaS X.K cl r g) (hm : X.mg x = none) (ha : VA cl X (e :: es) t ar) (hv : bootBuiltins x = some (.builtin id) := by decide +kernel) (hg : Gl X x := by rfl) (hn : x ≠ "__name__" := by decide) (hdb : (x == ("__debug__" : Str)) = false := by decide)
    (he : starEach (e :: es) X.env = (false, eval e X.env) :: starEach es X.env := by rfl) (hpl : (backTo pos (starEach es X.env)).any (·.1) = false := by rfl) : VE cl X (.Call (.Name x p) (e :: es) [] pos) (tCB r t) (xB g ar) := ⟨pe_callB hc hg hm hv ha.pe hn hdb he hpl, se_cb hs ha.so⟩
theorem v_callTy {T : String} {r : List V → Hp → VK → Prop} {g : List Dt → Option Dt} (hc : CallR X (.type T) r) (hs : CaS X.K cl r g) (hm : X.mg x = none) (ha : VA cl X (e :: es) t ar) (hv : bootBuiltins x = some (.type T) := by decide +kernel) (hg : Gl X x := by rfl) (hn : x ≠ "__name__" := by decide) (hdb : (x == ("__debug__" : Str)) = false := by decide)
    (he : starEach (e :: es) X.env = (false, eval e X.env) :: starEach es X.env := by rfl) (hpl : (backTo pos (starEach es X.env)).any (·.1) = false := by rfl) : VE cl X (.Call (.Name x p) (e :: es) [] pos) (tCB r t) (xB g ar) := ⟨pe_callTy hc hg hm hv ha.pe hn hdb he hpl, se_cb hs ha.so⟩
/-- f(a, ..), f a module's name for a built-in function -/
theorem v_callF {id : String} {r : List V → Hp → VK → Prop} {g : List Dt → Option Dt} (hc : CallR X (.builtin id) r) (hs : CaS X.K cl r g) (hm : X.mg x = some (.builtin id)) (ha : VA cl X (e :: es) t ar) (hg : Gl X x := by rfl) (hdb : (x == ("__debug__" : Str)) = false := by decide)
    (he : starEach (e :: es) X.env = (false, eval e X.env) :: starEach es X.env := by rfl) (hpl : (backTo pos (starEach es X.env)).any (·.1) = false := by rfl) : VE cl X (.Call (.Name x p) (e :: es) [] pos) (tCB r t) (xB g ar) := ⟨pe_callBfun hc hg hm ha.pe hdb he hpl, se_cb hs ha.so⟩
end
@[simp] def fInt : List Dt → Option Dt
  | [.int i] => some (.int i)
  | [.bl b] => some (.int (if b then 1 else 0))
  | _ => none
theorem cas_int {K : Fg} : CaS K cl (fun xs H Q => (∃ i, xs = [.int i] ∧ Q (.int i) H) ∨ ∃ k, xs = [.bl k] ∧ Q (.int (if k then 1 else 0)) H) fInt := fun Hin M0 as env σ H Q xs z vs h S r q => by
  unfold fInt at h
  split at h
  · cases h
    cases r with
    | cons r1 r2 => cases r1; cases r2; exact .inl ⟨_, rfl, q _ H S Step.refl (.int _)⟩
  · cases h
    cases r with
    | cons r1 r2 => cases r1; cases r2; exact .inr ⟨_, rfl, q _ H S Step.refl (.int _)⟩
  · cases h
@[simp] def fAbs : List Dt → Option Dt
  | [.int i] => some (.int (if i < 0 then -i else i))
  | _ => none
theorem cas_abs {K : Fg} : CaS K cl (fun xs H Q => ∃ i, xs = [.int i] ∧ Q (.int (if i < 0 then -i else i)) H) fAbs := fun Hin M0 as env σ H Q xs z vs h S r q => by
  unfold fAbs at h
  split at h
  · cases h
    cases r with
    | cons r1 r2 => cases r1; cases r2; exact ⟨_, rfl, q _ H S Step.refl (.int _)⟩
  · cases h
@[simp] def fGcd : List Dt → Option Dt
  | [.int i, .int j] => some (.int ((Nat.gcd i.natAbs j.natAbs : Nat) : Int))
  | _ => none
theorem cas_gcd {K : Fg} : CaS K cl rGcd fGcd := fun Hin M0 as env σ H Q xs z vs h S r q => by
  unfold fGcd at h
  split at h
  · cases h
    cases r with
    | cons r1 r2 =>
      cases r1
      cases r2 with
      | cons r2 r3 => cases r2; cases r3; exact ⟨_, _, rfl, q _ H S Step.refl (.int _)⟩
  · cases h
@[simp] def fLen : List Dt → Option Dt
  | [.lst ds] => some (.int ds.length)
  | [.tup ds] => some (.int ds.length)
  | [.scr ns] => some (.int ns.length)
  | [.str s] => if s.length ≤ most then some (.int s.length) else none
  | _ => none
def rLenA (K : Fg) : List V → Hp → VK → Prop := fun xs H Q => (∃ p ys, xs = [.ref p] ∧ (SqL K H p ys ∨ SqT K H p ys) ∧ Q (.int ys.length) H) ∨ (∃ z, xs = [.str z] ∧ z.length ≤ sizeLine ∧ Q (.int z.length) H)
theorem call_lenA : CallR X (.builtin "len") (rLenA X.K) := call_len_seq.or call_len_str
theorem cas_len {K : Fg} : CaS K cl (rLenA K) fLen := fun Hin M0 as env σ H Q xs z vs h S r q => by
  unfold fLen at h
  split at h
  · cases h
    cases r with
    | cons r1 r2 =>
      cases r2
      cases r1 with
      | lst a1 a2 =>
        refine .inl ⟨_, _, rfl, .inl (.inl (.inl (hd_same _ _ a1))), ?_⟩
        rw [a2.length]
        exact q _ H S Step.refl (.int _)
  · cases h
    cases r with
    | cons r1 r2 =>
      cases r2
      cases r1 with
      | tup a1 a2 =>
        refine .inl ⟨_, _, rfl, .inr (same_t hd_same a1), ?_⟩
        rw [a2.length]
        exact q _ H S Step.refl (.int _)
  · cases h
    cases r with
    | cons r1 r2 =>
      cases r2
      cases r1 with
      | scr a1 =>
        refine .inl ⟨_, _, rfl, .inl (hd_same.seq a1), ?_⟩
        rw [List.length_map]
        exact q _ H S Step.refl (.int _)
  · split at h
    · rename_i hl
      cases h
      cases r with
      | cons r1 r2 => cases r1; cases r2; exact .inr ⟨_, rfl, most_ok hl, q _ H S Step.refl (.int _)⟩
    · cases h
  · cases h
/-- isinstance(e, tuple), isinstance(e, list), isinstance(e, bool) -/
@[simp] def tyOf : Dt → Option String
  | .non => some "NoneType"
  | .bl _ => some "bool"
  | .int _ => some "int"
  | .str _ => some "str"
  | .lst _ => some "list"
  | .tup _ => some "tuple"
  | .ins _ _ _ => none
  | .scr _ => none
@[simp] def fIsT (T : String) : Dt → Option Dt := fun d => (tyOf d).bind fun t => (kitB t T).map .bl
theorem ty_rp {K : Fg} {B H : Hp} {v : V} {d : Dt} {t : String} (e : Same B H) (r : Rp K cl B v d) (h : tyOf d = some t) : TyX K H v (.type t) := by
  cases r with
  | non => cases h; exact .base .non
  | bl => cases h; exact .base (.bl _)
  | int => cases h; exact .base (.int _)
  | str => cases h; exact .base (.str _)
  | lst a1 a2 => cases h; exact .base (.lst (e _ _ a1))
  | tup a1 a2 =>
    cases h
    rcases same_t e a1 with (a1 | ⟨o, a1⟩) | ⟨o, its, n, h1, h2, _⟩
    · exact .base (.tup a1)
    · exact .fTuple a1
    · exact .kTuple h1 h2
  | ins => cases h
  | scr => cases h
theorem v_isT {T : String} {x : Str} {p p2 pos : Pos} {y : Str} (hm : X.mg x = none) (hmy : X.mg y = none) (ha : VE cl X e te ev) (hv : bootBuiltins x = some (.builtin "isinstance") := by decide +kernel) (hvy : bootBuiltins y = some (.type T) := by decide +kernel) (hg : Gl X x := by rfl) (hgy : Gl X y := by rfl)
    (hn : x ≠ "__name__" := by decide) (hdb : (x == ("__debug__" : Str)) = false := by decide) (hny : y ≠ "__name__" := by decide) (hdy : (y == ("__debug__" : Str)) = false := by decide)
    (he : starEach [e, .Name y p2] X.env = (false, eval e X.env) :: starEach [.Name y p2] X.env := by rfl) (he2 : starEach [.Name y p2] X.env = (false, eval (.Name y p2) X.env) :: starEach [] X.env := by rfl) (hpl : (backTo pos (starEach [.Name y p2] X.env)).any (·.1) = false := by rfl) :
    VE cl X (.Call (.Name x p) [e, .Name y p2] [] pos) (tCB (rIsi X.K) (tCons te (tCons (tC (.ty T)) tNil))) (x1 (fIsT T) ev) :=
  ⟨pe_callB call_isi hg hm hv (pa_cons ha.pe (pa_cons (pe_bltn hgy hmy hvy rfl hny hdy) pa_nil he2) he) hn hdb he hpl, fun Hin M0 as env σ H Q z env' h S q => by
    obtain ⟨⟨y, e2⟩, h2, h⟩ := bind_some h
    obtain ⟨b, h3, h⟩ := map_some h
    cases h
    obtain ⟨t, h4, h3⟩ := bind_some h3
    obtain ⟨b, h5, h3⟩ := map_some h3
    subst h3
    refine ha.so Hin M0 as env σ H _ _ _ h2 S fun w H2 S2 s2 r2 => ?_
    exact ⟨w, .ty T, .type t, .type T, b, rfl, .ty T, ty_rp hd_same r2 h4, kit_ty h5, q _ H2 S2 s2 (.bl b)⟩⟩
end

/-! ### statements -/
section
variable {a b c e : Expr} {te : TE} {ev : EvE} {pos : Pos} {tA : TT} {eA : EvT} {st : Stmt} {rest body ta : List Stmt} {ts tu : TS} {es eu : EvS}
theorem b_nil : VB cl X [] tNext sNext := ⟨pss_nil, ss_next⟩
theorem b_one (h : VS cl X st ts es) : VB cl X [st] ts es := ⟨pss_one h.pe, h.so⟩
theorem b_cons (h : VS cl X st ts es) (h2 : VB cl X rest tu eu) : VB cl X (st :: rest) (tSeq ts tu) (sSeq es eu) := ⟨pss_cons h.pe h2.pe, ss_seq h.so h2.so⟩
theorem s_pass : VS cl X (.Pass pos) tNext sNext := ⟨ps_pass, ss_next⟩
theorem s_break : VS cl X (.Break pos) tBreak sBreak := ⟨ps_break, ss_break⟩
theorem s_cont : VS cl X (.Continue pos) tCont sCont := ⟨ps_continue, ss_cont⟩
theorem s_ret (h : VE cl X e te ev) : VS cl X (.Return (some e) pos) (tRet te) (sRet ev) := ⟨ps_ret h.pe, ss_ret h.so⟩
theorem s_retN : VS cl X (.Return none pos) tRetN sRetN := ⟨ps_retN, ss_retN⟩
theorem s_drop (h : VE cl X e te ev) (hs : swapsWith e none pos.line X.env = pure false := by rfl) : VS cl X (.Expr e pos) (tDrop te) (sDrop ev) := ⟨ps_expr h.pe hs, ss_drop h.so⟩
theorem s_if (hc : VT cl X c tA eA) (ha : VB cl X body ts es) (hb : VB cl X ta tu eu) : VS cl X (.If c body ta pos) (tIfS tA ts tu) (sIf eA es eu) := ⟨ps_if hc.pe ha.pe hb.pe, ss_if hc.so ha.so hb.so⟩
theorem s_set (i : Nat) {x : Str} {pos' : Pos} (hN : X.N.Nodup) (he : VE cl X e te ev) (hi : X.N[i]? = some x := by rfl) (hx : Loc X.env.scope x := by first | exact Or.inl rfl | exact Or.inr rfl) (hs : swapsWith e (some (.Name x pos')) pos.line X.env = pure false := by rfl) (hf : X.fn x = true ∨ X.env.scope.names.lookup x = some .local := by first | exact .inl rfl | exact .inr rfl) :
    VS cl X (.Assign [.Name x pos'] e pos) (tAsg te (gName i)) (sAsg ev (gN i)) := ⟨ps_set hN hi hx he.pe hs hf, ss_asg he.so (sg_name i)⟩
theorem s_setL (i : Nat) {x : Str} {pos' : Pos} {ar : EvA} (hN : X.N.Nodup) (he : VL cl X e te ar) (hi : X.N[i]? = some x := by rfl) (hx : Loc X.env.scope x := by first | exact Or.inl rfl | exact Or.inr rfl) (hs : swapsWith e (some (.Name x pos')) pos.line X.env = pure false := by rfl) (hf : X.fn x = true ∨ X.env.scope.names.lookup x = some .local := by first | exact .inl rfl | exact .inr rfl) :
    VS cl X (.Assign [.Name x pos'] e pos) (tAsg te (gName i)) (sAsgL i ar) := ⟨ps_set hN hi hx he.pe hs hf, ss_asgL i he.so⟩
structure VG (cl : Nat → Addr) (X : Cx) (e : Expr) (g : TG) (ev : EvG) : Prop where
  pe : PG X e g
  so : SG X.K cl g ev
structure VGs (cl : Nat → Addr) (X : Cx) (e : List Expr) (g : TGs) (ev : List Dt → Env → Option Env) : Prop where
  pe : PGs X e g
  so : SGs X.K cl g ev
theorem g_name (i : Nat) {x : Str} (hN : X.N.Nodup) (hi : X.N[i]? = some x := by rfl) (hx : Loc X.env.scope x := by first | exact Or.inl rfl | exact Or.inr rfl) (hf : X.fn x = true ∨ X.env.scope.names.lookup x = some .local := by first | exact .inl rfl | exact .inr rfl) : VG cl X (.Name x pos) (gName i) (gN i) := ⟨pg_name hN hi hx hf, sg_name i⟩
theorem gs_nil : VGs cl X [] gNil gsNil := ⟨pgs_nil, sgs_nil⟩
theorem gs_cons {es : List Expr} {t : TG} {u : TGs} {a : EvG} {b : List Dt → Env → Option Env} (h1 : VG cl X e t a) (h2 : VGs cl X es u b) (hs : (assignEach (e :: es) X.env).map (·.2) = assign e X.env :: (assignEach es X.env).map (·.2) := by rfl) : VGs cl X (e :: es) (gCons t u) (gsCons a b) := ⟨pgs_cons h1.pe h2.pe hs, sgs_cons h1.so h2.so⟩
theorem g_tup {es : List Expr} {k : Nat} {t : TGs} {b : List Dt → Env → Option Env} (n : Nat) (hc : X.calm = true) (h : VGs cl X es t b) (hn : (assignEach es X.env).length = n := by rfl) (hst : (assignEach es X.env).findIdx? (·.1) = none := by rfl) : VG cl X (.Tuple es k pos) (gTup X.K n t) (gT n b) := ⟨pg_tup hc h.pe hn hst, sg_tup h.so⟩
theorem s_asg {tg : Expr} {g : TG} {eg : EvG} (he : VE cl X e te ev) (hg : VG cl X tg g eg) (hs : swapsWithSole [tg] e pos.line X.env = pure false := by rfl) (hw : swappedStores [tg] e X.env = pure none := by rfl)
    (h1 : (assignEach [tg] X.env).map (·.2) = [assign tg X.env] := by rfl) : VS cl X (.Assign [tg] e pos) (tAsg te g) (sAsg ev eg) := ⟨ps_asg he.pe hg.pe hs hw h1, ss_asg he.so hg.so⟩
/-- box[c] = e, c a constant or a name -/
theorem s_setO (i : Nat) {x : Str} {p p2 : Pos} {tj : TE} {ej : EvE} (he : VE cl X e te ev) (hj : VE cl X b tj ej) (hk : ∀ env x env', ej env = some (x, env') → env' = env) (hN : X.N[i]? = some x := by rfl) (hv : Vis X.env.scope x := by first | exact Or.inl rfl | exact Or.inr (Or.inl rfl) | exact Or.inr (Or.inr rfl)) (hd : (x == ("__debug__" : Str)) = false := by decide)
    (hcd : (x == ("__classdict__" : Str)) = false := by decide) (ha : ∀ v, assign (.Subscript (.Name x p) b p2) X.env v = (do
      let ov ← holding [v] (eval (.Name x p) X.env)
      let iv ← holding [v, ov] (eval b X.env)
      standAt p2
      holding [v, ov, iv] (setItem ov iv v)
      release [v, ov, iv] []) := by intro _; rfl) (hs : swapsWithSole [.Subscript (.Name x p) b p2] e pos.line X.env = pure false := by rfl) (hw : swappedStores [.Subscript (.Name x p) b p2] e X.env = pure none := by rfl)
    (h1 : (assignEach [.Subscript (.Name x p) b p2] X.env).map (·.2) = [assign (.Subscript (.Name x p) b p2) X.env] := by rfl) :
    VS cl X (.Assign [.Subscript (.Name x p) b p2] e pos) (tAsg te (gSub (tVar i) tj rSetL)) (sSetO i ev ej) := ⟨ps_asg he.pe (pg_sub (pe_var hN hv hd hcd) hj.pe set_list ha) hs hw h1, ss_setO i he.so hj.so hk⟩
theorem keep_c {x : Dt} : ∀ env y env', xC x env = some (y, env') → env' = env := fun env y env' h => by cases h; rfl
/-- x.append(e) -/
theorem s_app (i : Nat) {x : Str} {p ap cp : Pos} (he : VE cl X e te ev) (hN : X.N[i]? = some x := by rfl) (hv : Vis X.env.scope x := by first | exact Or.inl rfl | exact Or.inr (Or.inl rfl) | exact Or.inr (Or.inr rfl)) (hd : (x == ("__debug__" : Str)) = false := by decide)
    (hcd : (x == ("__classdict__" : Str)) = false := by decide) (hse : starEach [e] X.env = (false, eval e X.env) :: starEach [] X.env := by rfl)
    (hbase : attributeBase (.Name x p) "append" X.env (eval (.Name x p) X.env) = eval (.Name x p) X.env := by rfl)
    (hfew : ((backTo cp (starEach [e] X.env)).all (fun x => !x.1) && (backToKw cp (keywordEach [] X.env)).all (fun x => x.1.isSome)
      && decide ([e].length + ([] : List Keyword).length + (if ([] : List Keyword).isEmpty then 0 else 1) < 30)) = true := by rfl)
    (hline : (ap.endLine == cp.line) = true := by rfl) (hplain : (backTo cp (starEach [] X.env)).any (·.1) = false := by rfl)
    (hs : swapsWith (.Call (.Attribute (.Name x p) "append" ap) [e] [] cp) none pos.line X.env = pure false := by rfl) :
    VS cl X (.Expr (.Call (.Attribute (.Name x p) "append" ap) [e] [] cp) pos) (tDrop (tBM X.K "list" rAppend (tVar i) (tCons te tNil))) (sApp i ev) :=
  ⟨ps_expr (pe_bm PySem.F.plainAttrs_list PySem.F.slot_list_append PySem.F.type_list_append mt_append (pe_var hN hv hd hcd) (pa_cons he.pe pa_nil hse) hbase hfew hline hse hplain) hs, ss_app i he.so⟩
theorem i_sq {tg : Expr} {a : EvE} (h : VE cl X e te a) : VI cl X tg e (tSq X.K te) (iSq a) := ⟨pi_sq h.pe, si_sq h.so⟩
theorem i_r1 {tg : Expr} {p : Pos} {t : TA} {ar : EvA} (hm : X.mg "range" = none) (h : VA cl X [a] t ar) (hg : Gl X "range" := by rfl) (hs : starEach [a] X.env = [(false, eval a X.env)] := by rfl) : VI cl X tg (.Call (.Name "range" p) [a] [] pos) (iRng1 t) (iR1 ar) := ⟨pi_range1 hg hm h.pe hs, si_r1 h.so⟩
theorem i_r2 {tg : Expr} {p : Pos} {t : TA} {ar : EvA} (hm : X.mg "range" = none) (h : VA cl X [a, b] t ar) (hg : Gl X "range" := by rfl) (hs : starEach [a, b] X.env = [(false, eval a X.env), (false, eval b X.env)] := by rfl) (hs2 : starEach [b] X.env = [(false, eval b X.env)] := by rfl) :
    VI cl X tg (.Call (.Name "range" p) [a, b] [] pos) (iRng2 t) (iR2 ar) := ⟨pi_range2 hg hm h.pe hs hs2, si_r2 h.so⟩
theorem s_for {tg iter : Expr} {wi : TI} {g : TG} {it : EvI} {eg : EvG} (hp : PassesOwn (model X.prog X.w) X.A X.env X.xe) (hc : X.calm = true) (hi : VI cl X tg iter wi it) (hg : VG cl X tg g eg) (hb : VB cl X body ts es) (hs : ∀ x, foldedSetIterable iter X.env x = pure x := by intro _; rfl) : VS cl X (.For tg iter body [] pos) (tFor wi g ts) (sFor it eg es) := ⟨ps_for hp hc hi.pe hg.pe hb.pe hs, ss_for hi.so hg.so hb.so⟩
theorem s_while (n : Nat) (hp : PassesOwn (model X.prog X.w) X.A X.env X.xe) (hc : VT cl X c tA eA) (hb : VB cl X body ts es) : VS cl X (.While c body [] pos) (tWhile tA ts) (whileE eA es n) := ⟨ps_while hp hc.pe hb.pe, ss_while n hc.so hb.so⟩
end

/-! ### the law -/
def spLaw (K : Fg) : Sp := fun vs H Q _ => ∃ (a : Addr) (ns : List Int), vs = [.ref a] ∧ SqL K H a (ns.map V.int) ∧ ns.length ≤ 63 ∧ ∀ H', Q (.bl true) H'
theorem law_of {P : Program} {w : World} {K : Fg} {mg : Str → Option Value} {base : Heap} {k : Nat} {f : Addr} {fd : FuncData} {ps : List Str} {g : List Dt → Option Dt} {cl : Nat → Addr} (ht : ∀ ns : List Int, ns.length ≤ 63 → g [.scr ns] = some (.bl true))
    (F : FnOk P w K mg base CX0 k f fd ps (spE K cl 1 g)) : FnOk P w K mg base CX0 k f fd ps (spLaw K) := F.imp fun vs H Q E h => by
  obtain ⟨a, ns, rfl, hS, hl, q⟩ := h
  refine ⟨fun _ => False, [.scr ns], .bl true, fun _ z => z.elim, rfl, .cons (.scr ?_) .nil, ht ns hl, fun v H' _ r => ?_⟩
  · have e : hd (fun _ => False) H = H := by
      funext b
      exact hd_out (fun z => z)
    rw [e]
    exact hS
  · cases r
    exact q H'
end DL

set_option Elab.async false
set_option linter.all false
set_option maxRecDepth 100000
set_option maxHeartbeats 4000000
/-! What the laws' own helpers are worth: cells, digits, draws. -/
namespace DL
open L2
/-- a loop whose turns keep P -/
theorem loop_keep' {g : EvG} {b : EvS} (P : Nat → DL.Env → Prop) : ∀ (xs : List Dt) (i : Nat) (env : DL.Env), P i env → (∀ (j : Nat) (x : Dt), xs[j]? = some x → ∀ env, P (i + j) env → ∃ e, (g x env).bind b = some (.nx e) ∧ P (i + j + 1) e) → ∃ e, loopE g b xs env = some (.nx e) ∧ P (i + xs.length) e
  | [], i, env, h, _ => ⟨env, rfl, h⟩
  | x :: xs, i, env, h, hs => by
    obtain ⟨e, h1, h2⟩ := hs 0 x rfl env h
    obtain ⟨e2, h3, h4⟩ := loop_keep' P xs (i + 1) e h2 fun j y hy env hP => by
      have e1 : i + 1 + j = i + (j + 1) := by omega
      rw [e1] at hP ⊢
      exact hs (j + 1) y hy env hP
    obtain ⟨e1, g1, g2⟩ := bind_some h1
    refine ⟨e2, ?_, by rw [List.length_cons, Nat.add_comm xs.length 1, ← Nat.add_assoc]; exact h4⟩
    show ((g x env).bind fun e => (b e).bind _) = _
    rw [g1]
    show (b e1).bind _ = _
    rw [g2]
    exact h3
theorem loop_keep {g : EvG} {b : EvS} (P : Nat → DL.Env → Prop) {xs : List Dt} {env : DL.Env} (h0 : P 0 env) (hs : ∀ (j : Nat) (x : Dt), xs[j]? = some x → ∀ env, P j env → ∃ e, (g x env).bind b = some (.nx e) ∧ P (j + 1) e) : ∃ e, loopE g b xs env = some (.nx e) ∧ P xs.length e := by
  obtain ⟨e, h1, h2⟩ := loop_keep' P xs 0 env h0 fun j x hx env hP => by
    rw [Nat.zero_add] at hP ⊢
    exact hs j x hx env hP
  rw [Nat.zero_add] at h2
  exact ⟨e, h1, h2⟩
/-- over a range -/
theorem loop_range {g : EvG} {b : EvS} {lo : Int} {n : Nat} (P : Nat → DL.Env → Prop) {env : DL.Env} (h0 : P 0 env) (hs : ∀ (j : Nat), j < n → ∀ env, P j env → ∃ e, (g (.int (lo + (j : Int))) env).bind b = some (.nx e) ∧ P (j + 1) e) : ∃ e, loopE g b (rangeD lo n) env = some (.nx e) ∧ P n e := by
  obtain ⟨e, h1, h2⟩ := loop_keep (g := g) (b := b) (xs := rangeD lo n) P h0 fun j x hx env hP => by
    have hj : j < n := by
      have := (List.getElem?_eq_some_iff.mp hx).1
      rwa [rangeD_len] at this
    unfold rangeD at hx
    rw [List.getElem?_map, List.getElem?_range hj] at hx
    cases hx
    exact hs j hj env hP
  rw [rangeD_len] at h2
  exact ⟨e, h1, h2⟩
theorem mem_range {lo : Int} {n : Nat} {x : Dt} (h : x ∈ rangeD lo n) : ∃ k : Nat, k < n ∧ x = .int (lo + (k : Int)) := by
  unfold rangeD at h
  obtain ⟨k, h1, h2⟩ := List.mem_map.mp h
  exact ⟨k, List.mem_range.mp h1, h2.symm⟩
theorem atI_of {α : Type} {xs : List α} {k : Int} (h0 : 0 ≤ k) (h : k < xs.length) : atI xs k = some (xs[k.toNat]'(by omega)) := by
  have := atI_nat (xs := xs) (j := k.toNat) (v := xs[k.toNat]'(by omega)) (by simp)
  rwa [show ((k.toNat : Nat) : Int) = k by omega] at this
@[simp] theorem at20 {α : Type} (x y : α) : atI [x, y] 0 = some x := rfl
@[simp] theorem at21 {α : Type} (x y : α) : atI [x, y] 1 = some y := rfl
@[simp] theorem at30 {α : Type} (x y z : α) : atI [x, y, z] 0 = some x := rfl
@[simp] theorem at31 {α : Type} (x y z : α) : atI [x, y, z] 1 = some y := rfl
@[simp] theorem at32 {α : Type} (x y z : α) : atI [x, y, z] 2 = some z := rfl
theorem sSeq_nx {a b : EvS} {env e : DL.Env} (h : a env = some (.nx e)) : sSeq a b env = b e := by
  show (a env).bind _ = _
  rw [h]
  rfl

/-! ### cells, digits, draws: the laws k00 to k10 -/
def ev_l_cell : EvS := sSeq (sIf (xT (x2 fLt (xVar 1) (xB fLen (xCons (xVar 0) (xNil))))) (sRet (x2 fIx (xVar 0) (xVar 1))) (sNext)) (sRet (xC (.int 0)))
def rv_l_cell : List Dt → Option Dt := runE 2 ev_l_cell
def lp_l_digits_0 : EvS := sIf (xT (x2 fGt (xVar 5) (xC (.int 0)))) (sSeq (sApp 3 (x2 fMod (xB fInt (xCons (xVar 5) (xNil))) (xC (.int 1000)))) (sAsg (x2 fDiv (xVar 5) (xC (.int 1000))) (gN 5))) (sNext)
def lp_l_digits_1 : EvS := sSeq (sAsg (x2 fMod (xB fInt (xCons (x2 fAdd (x2 fAdd (x2 fMul (xVar 7) (xC (.int 16807))) (x2 fMul (xC (.int 7)) (xVar 6))) (xC (.int 1))) (xNil))) (xC (.int 2147483647))) (gN 7)) (sApp 3 (x2 fMod (xB fInt (xCons (x2 fDiv (xVar 7) (xC (.int 997))) (xNil))) (xC (.int 1000))))
def lp_l_digits_2 : EvS := sSeq (sAsg (xB (callF 2 rv_l_cell) (xCons (xVar 0) (xCons (xVar 4) (xNil)))) (gN 5)) (sSeq (sIf (xT (x2 fLt (xVar 5) (xC (.int 0)))) (sAsg (x2 fSub (xC (.int 1)) (x2 fMul (xC (.int 2)) (xVar 5))) (gN 5)) (sNext)) (sIf (xT (x2 fGe (xVar 5) (x2 fPow (xC (.int 10)) (xC (.int 18))))) (sFor (iR1 (xCons (xC (.int 60)) (xNil))) (gN 6) lp_l_digits_0) (sSeq (sAsg (x2 fMod (xB fInt (xCons (x2 fAdd (x2 fAdd (x2 fMul (xVar 5) (xC (.int 48271))) (x2 fMul (xVar 4) (xC (.int 69621)))) (xC (.int 11))) (xNil))) (xC (.int 2147483647))) (gN 7)) (sFor (iR1 (xCons (xC (.int 12)) (xNil))) (gN 6) lp_l_digits_1))))
def ev_l_digits : EvS := sSeq (sAsgL 3 (xLst (xNil))) (sSeq (sFor (iR2 (xCons (xVar 1) (xCons (xVar 2) (xNil)))) (gN 4) lp_l_digits_2) (sRet (xVar 3)))
def rv_l_digits : List Dt → Option Dt := runE 8 ev_l_digits
def ev_l_draw : EvS := sSeq (sAsg (xIxO 0 (xC (.int 1))) (gN 2)) (sSeq (sSetO 0 (x2 fAdd (xVar 2) (xC (.int 1))) (xC (.int 1))) (sSeq (sIf (xT (x2 fLt (xVar 2) (xB fLen (xCons (xIxO 0 (xC (.int 0))) (xNil))))) (sRet (x2 fMod (xB fInt (xCons (x2 fIx (xIxO 0 (xC (.int 0))) (xVar 2)) (xNil))) (xVar 1))) (sNext)) (sRet (xC (.int 0)))))
def rv_l_draw : Oc → List Dt → Option (Dt × Oc) := runO 3 ev_l_draw
theorem cell_eq (ns : List Int) (k : Int) (hk : 0 ≤ k) : ∃ c, rv_l_cell [.scr ns, .int k] = some (.int c) := by
  by_cases h : k < ns.length
  · exact ⟨_, by simp [rv_l_cell, ev_l_cell, h, atI_of hk h]; rfl⟩
  · exact ⟨0, by simp [rv_l_cell, ev_l_cell, h]⟩
/-- where the digits stand -/
def DigP (ns : List Int) (s4 s7 : Sc) (n : Nat) (env : DL.Env) : Prop := ∃ (ds : List Int) (c : Int) (s6 : Sc), env = [.d (.scr ns), .d (.int 0), .d (.int 63), .own (.l (ds.map .int)), s4, .d (.int c), s6, s7] ∧ ds.length ≤ n ∧ s6.isPar = false
def DigQ (ns : List Int) (s4 s5 : Sc) (n : Nat) (env : DL.Env) : Prop := ∃ (ds : List Int) (c : Int) (s6 : Sc), env = [.d (.scr ns), .d (.int 0), .d (.int 63), .own (.l (ds.map .int)), s4, s5, s6, .d (.int c)] ∧ ds.length ≤ n ∧ s6.isPar = false
def DigS (ns : List Int) (n : Nat) (env : DL.Env) : Prop := ∃ (ds : List Int) (s4 s5 s6 s7 : Sc), env = [.d (.scr ns), .d (.int 0), .d (.int 63), .own (.l (ds.map .int)), s4, s5, s6, s7] ∧ ds.length ≤ n ∧ s4.isPar = false ∧ s5.isPar = false ∧ s6.isPar = false ∧ s7.isPar = false
theorem dig_lp0 {ns : List Int} {n : Nat} {s4 s7 : Sc} (hn : n < 100000) (x : Int) {env : DL.Env} (h : DigP ns s4 s7 n env) : ∃ e, (gN 6 (.int x) env).bind lp_l_digits_0 = some (.nx e) ∧ DigP ns s4 s7 (n + 1) e := by
  obtain ⟨ds, c, s6, rfl, hl, h6⟩ := h
  by_cases hc : 0 < c
  · refine ⟨_, ?_, ds ++ [c.fmod 1000], c.fdiv 1000, .d (.int x), rfl, by simp; omega, rfl⟩
    have hm : ds.length < most := by unfold most; omega
    have hd : divOk 1000 = true := by decide
    simp [lp_l_digits_0, hc, h6, hm, hd]
  · refine ⟨_, ?_, ds, c, .d (.int x), rfl, by omega, rfl⟩
    simp [lp_l_digits_0, hc, h6]
theorem dig_lp1 {ns : List Int} {n : Nat} {s5 : Sc} {k : Int} (hn : n < 100000) (x : Int) (hx : smallI x = true) {env : DL.Env} (h : DigQ ns (.d (.int k)) s5 n env) : ∃ e, (gN 6 (.int x) env).bind lp_l_digits_1 = some (.nx e) ∧ DigQ ns (.d (.int k)) s5 (n + 1) e := by
  obtain ⟨ds, c, s6, rfl, hl, h6⟩ := h
  have hm : ds.length < most := by unfold most; omega
  have hd : divOk 997 = true := by decide
  have h1 : smallI 16807 = true := by decide
  have h2 : smallI 7 = true := by decide
  refine ⟨_, ?_, ds ++ [(((c * 16807 + 7 * x + 1).fmod 2147483647).fdiv 997).fmod 1000], (c * 16807 + 7 * x + 1).fmod 2147483647, .d (.int x), rfl, by simp; omega, rfl⟩
  simp [lp_l_digits_1, h6, hm, hd, h1, h2, hx]
theorem dig_lp2 {ns : List Int} {n : Nat} (hn : n < 90000) (x : Int) (h0 : 0 ≤ x) {env : DL.Env} (h : DigS ns n env) : ∃ e, (gN 4 (.int x) env).bind lp_l_digits_2 = some (.nx e) ∧ DigS ns (n + 60) e := by
  obtain ⟨ds, s4, s5, s6, s7, rfl, hl, h4, h5, h6, h7⟩ := h
  obtain ⟨c, hc⟩ := cell_eq ns x h0
  have e2 : smallI 2 = true := by decide
  have e3 : smallI 48271 = true := by decide
  have e4 : smallI 69621 = true := by decide
  have fin : ∀ c : Int, ∃ e, sIf (xT (x2 fGe (xVar 5) (x2 fPow (xC (.int 10)) (xC (.int 18))))) (sFor (iR1 (xCons (xC (.int 60)) (xNil))) (gN 6) lp_l_digits_0) (sSeq (sAsg (x2 fMod (xB fInt (xCons (x2 fAdd (x2 fAdd (x2 fMul (xVar 5) (xC (.int 48271))) (x2 fMul (xVar 4) (xC (.int 69621)))) (xC (.int 11))) (xNil))) (xC (.int 2147483647))) (gN 7)) (sFor (iR1 (xCons (xC (.int 12)) (xNil))) (gN 6) lp_l_digits_1))
      [.d (.scr ns), .d (.int 0), .d (.int 63), .own (.l (ds.map .int)), .d (.int x), .d (.int c), s6, s7] = some (.nx e) ∧ DigS ns (n + 60) e := by
    intro c
    by_cases hb : 1000000000000000000 ≤ c
    · obtain ⟨e, k1, ds', c', s6', rfl, k3, k4⟩ := loop_range (lo := 0) (n := 60) (g := gN 6) (b := lp_l_digits_0) (fun i env => DigP ns (.d (.int x)) s7 (n + i) env) ⟨ds, c, s6, rfl, by omega, h6⟩ (fun j hj env hP => dig_lp0 (by show n + j < 100000; omega) _ hP)
      refine ⟨_, ?_, ds', .d (.int x), .d (.int c'), s6', s7, rfl, k3, rfl, rfl, k4, h7⟩
      simp [hb, k1]
    · obtain ⟨e, k1, ds', c', s6', rfl, k3, k4⟩ := loop_range (lo := 0) (n := 12) (g := gN 6) (b := lp_l_digits_1) (fun i env => DigQ ns (.d (.int x)) (.d (.int c)) (n + i) env) (env := [.d (.scr ns), .d (.int 0), .d (.int 63), .own (.l (ds.map .int)), .d (.int x), .d (.int c), s6, .d (.int ((c * 48271 + x * 69621 + 11).fmod 2147483647))]) ⟨ds, _, s6, rfl, by omega, h6⟩ (fun j hj env hP => dig_lp1 (by show n + j < 100000; omega) _ (smallI_of (by omega) (by omega)) hP)
      refine ⟨_, ?_, ds', .d (.int x), .d (.int c), s6', .d (.int c'), rfl, by omega, rfl, rfl, k4, rfl⟩
      simp [hb, h7, e3, e4, k1]
  by_cases hneg : c < 0
  · obtain ⟨e, k1, k2⟩ := fin (1 - 2 * c)
    refine ⟨e, ?_, k2⟩
    rw [← k1]
    simp [lp_l_digits_2, h4, h5, hc, hneg, e2]
  · obtain ⟨e, k1, k2⟩ := fin c
    refine ⟨e, ?_, k2⟩
    rw [← k1]
    simp [lp_l_digits_2, h4, h5, hc, hneg]
theorem digits_ok (ns : List Int) : ∃ ds : List Int, rv_l_digits [.scr ns, .int 0, .int 63] = some (.lst (ds.map .int)) ∧ ds.length ≤ 3780 := by
  obtain ⟨e, k1, ds', s4, s5, s6, s7, rfl, k3, _⟩ := loop_range (lo := 0) (n := 63) (g := gN 4) (b := lp_l_digits_2) (fun i env => DigS ns (60 * i) env) (env := [.d (.scr ns), .d (.int 0), .d (.int 63), .own (.l []), .un, .un, .un, .un]) ⟨[], .un, .un, .un, .un, rfl, by simp, rfl, rfl, rfl, rfl⟩ (fun j hj env hP => dig_lp2 (by show 60 * j < 90000; omega) _ (by omega) hP)
  refine ⟨ds', ?_, k3⟩
  simp [rv_l_digits, ev_l_digits, List.replicate, k1]
/-- a box of digits -/
def BoxD (o : Oc) : Prop := ∃ (ds : List Int) (at_ : Int), o = .l [.lst (ds.map .int), .int at_] ∧ 0 ≤ at_
theorem draw_ok {o : Oc} (h : BoxD o) {many : Int} (hm : 0 < many) : ∃ r o', rv_l_draw o [.int many] = some (.int r, o') ∧ 0 ≤ r ∧ r < many ∧ BoxD o' := by
  obtain ⟨ds, at_, rfl, h0⟩ := h
  by_cases hl : at_ < ds.length
  · refine ⟨(ds[at_.toNat]'(by omega)).fmod many, .l [.lst (ds.map .int), .int (at_ + 1)], ?_, Int.fmod_nonneg_of_pos _ hm, Int.fmod_lt_of_pos _ hm, ds, at_ + 1, rfl, by omega⟩
    have e : atI (ds.map Dt.int) at_ = some (.int (ds[at_.toNat]'(by omega))) := by
      rw [atI_of h0 (by rw [List.length_map]; exact hl)]
      simp
    have hne : ¬ many = 0 := by omega
    have e1 : ixN 2 1 = some 1 := rfl
    simp [rv_l_draw, ev_l_draw, hl, e, hne, e1, List.replicate]
  · refine ⟨0, .l [.lst (ds.map .int), .int (at_ + 1)], ?_, by omega, hm, ds, at_ + 1, rfl, by omega⟩
    have e1 : ixN 2 1 = some 1 := rfl
    simp [rv_l_draw, ev_l_draw, hl, e1, List.replicate]
end DL

set_option Elab.async false
set_option linter.all false
set_option maxRecDepth 100000
set_option maxHeartbeats 4000000
namespace K00
open PySem PySem.Spec PyProof.Rows L2 DL
def topS (i : Nat) : Stmt := PySem.Challenge.pw_millrolls_k00_fractions.main.body.getD i (.Pass ⟨0, 0, 0, 0⟩)
abbrev s_common_divisor : Stmt := topS 2
theorem sc_common_divisor : FnScope ["first", "second"] ["first", "second"] (defScope s_common_divisor) := ⟨rfl, rfl, rfl, by decide +kernel, rfl, by decide +kernel, by decide +kernel⟩
abbrev s_made : Stmt := topS 3
theorem sc_made : FnScope ["top", "bottom", "divisor"] ["top", "bottom"] (defScope s_made) := ⟨rfl, rfl, rfl, by decide +kernel, rfl, by decide +kernel, by decide +kernel⟩
abbrev s_added : Stmt := topS 4
theorem sc_added : FnScope ["first", "second"] ["first", "second"] (defScope s_added) := ⟨rfl, rfl, rfl, by decide +kernel, rfl, by decide +kernel, by decide +kernel⟩
abbrev s_taken : Stmt := topS 5
theorem sc_taken : FnScope ["first", "second"] ["first", "second"] (defScope s_taken) := ⟨rfl, rfl, rfl, by decide +kernel, rfl, by decide +kernel, by decide +kernel⟩
abbrev s_times : Stmt := topS 6
theorem sc_times : FnScope ["first", "second"] ["first", "second"] (defScope s_times) := ⟨rfl, rfl, rfl, by decide +kernel, rfl, by decide +kernel, by decide +kernel⟩
abbrev s_divided : Stmt := topS 7
theorem sc_divided : FnScope ["first", "second"] ["first", "second"] (defScope s_divided) := ⟨rfl, rfl, rfl, by decide +kernel, rfl, by decide +kernel, by decide +kernel⟩
abbrev s_is_less : Stmt := topS 8
theorem sc_is_less : FnScope ["first", "second"] ["first", "second"] (defScope s_is_less) := ⟨rfl, rfl, rfl, by decide +kernel, rfl, by decide +kernel, by decide +kernel⟩
abbrev s_floor_of : Stmt := topS 9
theorem sc_floor_of : FnScope ["one"] ["one"] (defScope s_floor_of) := ⟨rfl, rfl, rfl, by decide +kernel, rfl, by decide +kernel, by decide +kernel⟩
abbrev s_ceiling_of : Stmt := topS 10
theorem sc_ceiling_of : FnScope ["one"] ["one"] (defScope s_ceiling_of) := ⟨rfl, rfl, rfl, by decide +kernel, rfl, by decide +kernel, by decide +kernel⟩
abbrev s_l_cell : Stmt := topS 12
theorem sc_l_cell : FnScope ["script", "k"] ["script", "k"] (defScope s_l_cell) := ⟨rfl, rfl, rfl, by decide +kernel, rfl, by decide +kernel, by decide +kernel⟩
abbrev s_l_digits : Stmt := topS 13
theorem sc_l_digits : FnScope ["script", "first", "last", "digits", "k", "cell", "turn", "seed"] ["script", "first", "last"] (defScope s_l_digits) := ⟨rfl, rfl, rfl, by decide +kernel, rfl, by decide +kernel, by decide +kernel⟩
abbrev s_l_draw : Stmt := topS 14
theorem sc_l_draw : FnScope ["box", "many", "at"] ["box", "many"] (defScope s_l_draw) := ⟨rfl, rfl, rfl, by decide +kernel, rfl, by decide +kernel, by decide +kernel⟩
abbrev s_l_number : Stmt := topS 15
theorem sc_l_number : FnScope ["box"] ["box"] (defScope s_l_number) := ⟨rfl, rfl, rfl, by decide +kernel, rfl, by decide +kernel, by decide +kernel⟩
abbrev s_l_is : Stmt := topS 16
theorem sc_l_is : FnScope ["told", "top", "bottom", "k"] ["told", "top", "bottom"] (defScope s_l_is) := ⟨rfl, rfl, rfl, by decide +kernel, rfl, by decide +kernel, by decide +kernel⟩
abbrev s_law : Stmt := topS 17
theorem sc_law : FnScope ["script", "box", "turn", "a", "b", "c", "d", "one", "two", "p", "q", "r", "s", "low", "high", "k"] ["script"] (defScope s_law) := ⟨rfl, rfl, rfl, by decide +kernel, rfl, by decide +kernel, by decide +kernel⟩
/-! ### the evaluators -/
def ev_common_divisor : EvS := sRet (xB fGcd (xCons (xVar 0) (xCons (xVar 1) (xNil))))
def rv_common_divisor : List Dt → Option Dt := runE 2 ev_common_divisor
def ev_made : EvS := sSeq (sAsg (xB (callF 2 rv_common_divisor) (xCons (xVar 0) (xCons (xVar 1) (xNil)))) (gN 2)) (sSeq (sIf (xT (x2 fLt (xVar 1) (xC (.int 0)))) (sAsg (x1 fNeg (xVar 2)) (gN 2)) (sNext)) (sRet (xTup (xCons (x2 fDiv (xVar 0) (xVar 2)) (xCons (x2 fDiv (xVar 1) (xVar 2)) (xNil))))))
def rv_made : List Dt → Option Dt := runE 3 ev_made
def ev_added : EvS := sRet (xB (callF 2 rv_made) (xCons (x2 fAdd (x2 fMul (x2 fIx (xVar 0) (xC (.int 0))) (x2 fIx (xVar 1) (xC (.int 1)))) (x2 fMul (x2 fIx (xVar 1) (xC (.int 0))) (x2 fIx (xVar 0) (xC (.int 1))))) (xCons (x2 fMul (x2 fIx (xVar 0) (xC (.int 1))) (x2 fIx (xVar 1) (xC (.int 1)))) (xNil))))
def rv_added : List Dt → Option Dt := runE 2 ev_added
def ev_taken : EvS := sRet (xB (callF 2 rv_made) (xCons (x2 fSub (x2 fMul (x2 fIx (xVar 0) (xC (.int 0))) (x2 fIx (xVar 1) (xC (.int 1)))) (x2 fMul (x2 fIx (xVar 1) (xC (.int 0))) (x2 fIx (xVar 0) (xC (.int 1))))) (xCons (x2 fMul (x2 fIx (xVar 0) (xC (.int 1))) (x2 fIx (xVar 1) (xC (.int 1)))) (xNil))))
def rv_taken : List Dt → Option Dt := runE 2 ev_taken
def ev_times : EvS := sRet (xB (callF 2 rv_made) (xCons (x2 fMul (x2 fIx (xVar 0) (xC (.int 0))) (x2 fIx (xVar 1) (xC (.int 0)))) (xCons (x2 fMul (x2 fIx (xVar 0) (xC (.int 1))) (x2 fIx (xVar 1) (xC (.int 1)))) (xNil))))
def rv_times : List Dt → Option Dt := runE 2 ev_times
def ev_divided : EvS := sRet (xB (callF 2 rv_made) (xCons (x2 fMul (x2 fIx (xVar 0) (xC (.int 0))) (x2 fIx (xVar 1) (xC (.int 1)))) (xCons (x2 fMul (x2 fIx (xVar 0) (xC (.int 1))) (x2 fIx (xVar 1) (xC (.int 0)))) (xNil))))
def rv_divided : List Dt → Option Dt := runE 2 ev_divided
def ev_is_less : EvS := sRet (x2 fLt (x2 fMul (x2 fIx (xVar 0) (xC (.int 0))) (x2 fIx (xVar 1) (xC (.int 1)))) (x2 fMul (x2 fIx (xVar 1) (xC (.int 0))) (x2 fIx (xVar 0) (xC (.int 1)))))
def rv_is_less : List Dt → Option Dt := runE 2 ev_is_less
def ev_floor_of : EvS := sRet (x2 fDiv (x2 fIx (xVar 0) (xC (.int 0))) (x2 fIx (xVar 0) (xC (.int 1))))
def rv_floor_of : List Dt → Option Dt := runE 1 ev_floor_of
def ev_ceiling_of : EvS := sRet (x1 fNeg (x2 fDiv (x1 fNeg (x2 fIx (xVar 0) (xC (.int 0)))) (x2 fIx (xVar 0) (xC (.int 1)))))
def rv_ceiling_of : List Dt → Option Dt := runE 1 ev_ceiling_of
def ev_l_number : EvS := sRet (x2 fIx (xL (xLst (xCons (x2 fSub (xCallO 1 rv_l_draw 0 (xCons (xC (.int 25)) (xNil))) (xC (.int 12))) (xCons (x2 fAdd (x2 fMul (x2 fSub (xCallO 1 rv_l_draw 0 (xCons (xC (.int 1000)) (xNil))) (xC (.int 500))) (xC (.int 1000003))) (xCallO 1 rv_l_draw 0 (xCons (xC (.int 1000)) (xNil)))) (xNil))))) (xB fInt (xCons (x2 fEq (xCallO 1 rv_l_draw 0 (xCons (xC (.int 5)) (xNil))) (xC (.int 0))) (xNil))))
def rv_l_number : Oc → List Dt → Option (Dt × Oc) := runO 1 ev_l_number
def lp_l_is_0 : EvS := sIf (xAndT (xT (x2 fEq (x2 fMod (xB fInt (xCons (x2 fIx (xVar 0) (xC (.int 0))) (xNil))) (xVar 3)) (xC (.int 0)))) (xT (x2 fEq (x2 fMod (xB fInt (xCons (x2 fIx (xVar 0) (xC (.int 1))) (xNil))) (xVar 3)) (xC (.int 0))))) (sRet (xC (.bl false))) (sNext)
def ev_l_is : EvS := sSeq (sIf (xOrT (xNotT (xT (x1 (fIsT "tuple") (xVar 0)))) (xOrT (xT (x2 fNe (xB fLen (xCons (xVar 0) (xNil))) (xC (.int 2)))) (xOrT (xT (x2 fLt (x2 fIx (xVar 0) (xC (.int 1))) (xC (.int 1)))) (xT (x2 fNe (x2 fMul (x2 fIx (xVar 0) (xC (.int 0))) (xVar 2)) (x2 fMul (xVar 1) (x2 fIx (xVar 0) (xC (.int 1))))))))) (sRet (xC (.bl false))) (sNext)) (sSeq (sFor (iR2 (xCons (xC (.int 2)) (xCons (xC (.int 30)) (xNil)))) (gN 3) lp_l_is_0) (sRet (x2 fEq (xB (callF 2 rv_common_divisor) (xCons (x2 fIx (xVar 0) (xC (.int 0))) (xCons (x2 fIx (xVar 0) (xC (.int 1))) (xNil)))) (xC (.int 1)))))
def rv_l_is : List Dt → Option Dt := runE 4 ev_l_is
def lp_law_0 : EvS := sSeq (sAsg (xCallO 0 rv_l_number 1 (xNil)) (gN 3)) (sSeq (sAsg (x2 fIx (xL (xLst (xCons (xCallO 0 rv_l_number 1 (xNil)) (xCons (xC (.int 3)) (xNil))))) (xB fInt (xCons (x2 fEq (xCallO 1 rv_l_draw 1 (xCons (xC (.int 4)) (xNil))) (xC (.int 0))) (xNil)))) (gN 4)) (sSeq (sIf (xT (x2 fEq (xVar 4) (xC (.int 0)))) (sAsg (x1 fNeg (xC (.int 1))) (gN 4)) (sNext)) (sSeq (sAsg (xCallO 0 rv_l_number 1 (xNil)) (gN 5)) (sSeq (sAsg (x2 fAdd (xC (.int 1)) (xB fAbs (xCons (xCallO 0 rv_l_number 1 (xNil)) (xNil)))) (gN 6)) (sSeq (sAsg (xB (callF 2 rv_made) (xCons (xVar 3) (xCons (xVar 4) (xNil)))) (gN 7)) (sSeq (sAsg (xB (callF 2 rv_made) (xCons (xVar 5) (xCons (xVar 6) (xNil)))) (gN 8)) (sSeq (sIf (xOrT (xNotT (xT (xB (callF 3 rv_l_is) (xCons (xVar 7) (xCons (xVar 3) (xCons (xVar 4) (xNil))))))) (xNotT (xT (xB (callF 3 rv_l_is) (xCons (xVar 8) (xCons (xVar 5) (xCons (xVar 6) (xNil)))))))) (sRet (xC (.bl false))) (sNext)) (sSeq (sAsg (xVar 7) (gT 2 (gsCons (gN 9) (gsCons (gN 10) (gsNil))))) (sSeq (sAsg (xVar 8) (gT 2 (gsCons (gN 11) (gsCons (gN 12) (gsNil))))) (sSeq (sIf (xOrT (xNotT (xT (xB (callF 3 rv_l_is) (xCons (xB (callF 2 rv_added) (xCons (xVar 7) (xCons (xVar 8) (xNil)))) (xCons (x2 fAdd (x2 fMul (xVar 9) (xVar 12)) (x2 fMul (xVar 11) (xVar 10))) (xCons (x2 fMul (xVar 10) (xVar 12)) (xNil))))))) (xNotT (xT (xB (callF 3 rv_l_is) (xCons (xB (callF 2 rv_taken) (xCons (xVar 7) (xCons (xVar 8) (xNil)))) (xCons (x2 fSub (x2 fMul (xVar 9) (xVar 12)) (x2 fMul (xVar 11) (xVar 10))) (xCons (x2 fMul (xVar 10) (xVar 12)) (xNil)))))))) (sRet (xC (.bl false))) (sNext)) (sSeq (sIf (xOrT (xNotT (xT (xB (callF 3 rv_l_is) (xCons (xB (callF 2 rv_times) (xCons (xVar 7) (xCons (xVar 8) (xNil)))) (xCons (x2 fMul (xVar 9) (xVar 11)) (xCons (x2 fMul (xVar 10) (xVar 12)) (xNil))))))) (xT (x2 fNe (xB (callF 2 rv_is_less) (xCons (xVar 7) (xCons (xVar 8) (xNil)))) (x2 fLt (x2 fMul (xVar 9) (xVar 12)) (x2 fMul (xVar 11) (xVar 10)))))) (sRet (xC (.bl false))) (sNext)) (sSeq (sIf (xAndT (xT (x2 fNe (xVar 11) (xC (.int 0)))) (xNotT (xT (xB (callF 3 rv_l_is) (xCons (xB (callF 2 rv_divided) (xCons (xVar 7) (xCons (xVar 8) (xNil)))) (xCons (x2 fMul (xVar 9) (xVar 12)) (xCons (x2 fMul (xVar 10) (xVar 11)) (xNil)))))))) (sRet (xC (.bl false))) (sNext)) (sSeq (sAsg (xB (callF 1 rv_floor_of) (xCons (xVar 7) (xNil))) (gN 13)) (sSeq (sAsg (xB (callF 1 rv_ceiling_of) (xCons (xVar 7) (xNil))) (gN 14)) (sSeq (sIf (xOrT (xNotT (xT (xChain fLe fLt (x2 fMul (xVar 13) (xVar 10)) (xVar 9) (x2 fMul (x2 fAdd (xVar 13) (xC (.int 1))) (xVar 10))))) (xNotT (xT (xChain fLt fLe (x2 fMul (x2 fSub (xVar 14) (xC (.int 1))) (xVar 10)) (xVar 9) (x2 fMul (xVar 14) (xVar 10)))))) (sRet (xC (.bl false))) (sNext)) (sSeq (sAsg (xB (callF 2 rv_common_divisor) (xCons (xVar 3) (xCons (xVar 5) (xNil)))) (gN 15)) (sIf (xOrT (xT (x2 fLt (xVar 15) (xC (.int 0)))) (xOrT (xAndT (xT (x2 fGt (xVar 15) (xC (.int 0)))) (xOrT (xT (x2 fNe (x2 fSub (xVar 3) (x2 fMul (x2 fDiv (xVar 3) (xVar 15)) (xVar 15))) (xC (.int 0)))) (xT (x2 fNe (x2 fSub (xVar 5) (x2 fMul (x2 fDiv (xVar 5) (xVar 15)) (xVar 15))) (xC (.int 0)))))) (xT (x2 fNe (x2 fEq (xVar 15) (xC (.int 0))) (xAnd (x2 fEq (xVar 3) (xC (.int 0))) (x2 fEq (xVar 5) (xC (.int 0)))))))) (sRet (xC (.bl false))) (sNext))))))))))))))))))
def ev_law : EvS := sSeq (sAsgL 1 (xLst (xCons (xB (callF 3 rv_l_digits) (xCons (xVar 0) (xCons (xC (.int 0)) (xCons (xC (.int 63)) (xNil))))) (xCons (xC (.int 0)) (xNil))))) (sSeq (sFor (iR1 (xCons (xC (.int 6)) (xNil))) (gN 2) lp_law_0) (sRet (xAnd (x2 fEq (xB (callF 2 rv_common_divisor) (xCons (xC (.int 12)) (xCons (x1 fNeg (xC (.int 18))) (xNil)))) (xC (.int 6))) (x2 fEq (xB (callF 2 rv_common_divisor) (xCons (xC (.int 0)) (xCons (x1 fNeg (xC (.int 7))) (xNil)))) (xC (.int 7))))))
def rv_law : List Dt → Option Dt := runE 16 ev_law
/-! ### what the top has written -/
structure Tx (K : Fg) (mg : Str → Option Value) : Type where
  a_common_divisor : Addr
  d_common_divisor : FuncData
  F_common_divisor : Fun K "common_divisor" "common_divisor" s_common_divisor a_common_divisor d_common_divisor
  b_common_divisor : Binds K d_common_divisor ["first", "second"] []
  g_common_divisor : mg "common_divisor" = some (.ref a_common_divisor)
  a_made : Addr
  d_made : FuncData
  F_made : Fun K "made" "made" s_made a_made d_made
  b_made : Binds K d_made ["top", "bottom"] []
  g_made : mg "made" = some (.ref a_made)
  a_added : Addr
  d_added : FuncData
  F_added : Fun K "added" "added" s_added a_added d_added
  b_added : Binds K d_added ["first", "second"] []
  g_added : mg "added" = some (.ref a_added)
  a_taken : Addr
  d_taken : FuncData
  F_taken : Fun K "taken" "taken" s_taken a_taken d_taken
  b_taken : Binds K d_taken ["first", "second"] []
  g_taken : mg "taken" = some (.ref a_taken)
  a_times : Addr
  d_times : FuncData
  F_times : Fun K "times" "times" s_times a_times d_times
  b_times : Binds K d_times ["first", "second"] []
  g_times : mg "times" = some (.ref a_times)
  a_divided : Addr
  d_divided : FuncData
  F_divided : Fun K "divided" "divided" s_divided a_divided d_divided
  b_divided : Binds K d_divided ["first", "second"] []
  g_divided : mg "divided" = some (.ref a_divided)
  a_is_less : Addr
  d_is_less : FuncData
  F_is_less : Fun K "is_less" "is_less" s_is_less a_is_less d_is_less
  b_is_less : Binds K d_is_less ["first", "second"] []
  g_is_less : mg "is_less" = some (.ref a_is_less)
  a_floor_of : Addr
  d_floor_of : FuncData
  F_floor_of : Fun K "floor_of" "floor_of" s_floor_of a_floor_of d_floor_of
  b_floor_of : Binds K d_floor_of ["one"] []
  g_floor_of : mg "floor_of" = some (.ref a_floor_of)
  a_ceiling_of : Addr
  d_ceiling_of : FuncData
  F_ceiling_of : Fun K "ceiling_of" "ceiling_of" s_ceiling_of a_ceiling_of d_ceiling_of
  b_ceiling_of : Binds K d_ceiling_of ["one"] []
  g_ceiling_of : mg "ceiling_of" = some (.ref a_ceiling_of)
  a_l_cell : Addr
  d_l_cell : FuncData
  F_l_cell : Fun K "_law_cell" "_law_cell" s_l_cell a_l_cell d_l_cell
  b_l_cell : Binds K d_l_cell ["script", "k"] []
  g_l_cell : mg "_law_cell" = some (.ref a_l_cell)
  a_l_digits : Addr
  d_l_digits : FuncData
  F_l_digits : Fun K "_law_digits" "_law_digits" s_l_digits a_l_digits d_l_digits
  b_l_digits : Binds K d_l_digits ["script", "first", "last"] []
  g_l_digits : mg "_law_digits" = some (.ref a_l_digits)
  a_l_draw : Addr
  d_l_draw : FuncData
  F_l_draw : Fun K "_law_draw" "_law_draw" s_l_draw a_l_draw d_l_draw
  b_l_draw : Binds K d_l_draw ["box", "many"] []
  g_l_draw : mg "_law_draw" = some (.ref a_l_draw)
  a_l_number : Addr
  d_l_number : FuncData
  F_l_number : Fun K "_law_number" "_law_number" s_l_number a_l_number d_l_number
  b_l_number : Binds K d_l_number ["box"] []
  g_l_number : mg "_law_number" = some (.ref a_l_number)
  a_l_is : Addr
  d_l_is : FuncData
  F_l_is : Fun K "_law_is" "_law_is" s_l_is a_l_is d_l_is
  b_l_is : Binds K d_l_is ["told", "top", "bottom"] []
  g_l_is : mg "_law_is" = some (.ref a_l_is)
  a_law : Addr
  d_law : FuncData
  F_law : Fun K "law" "law" s_law a_law d_law
  b_law : Binds K d_law ["script"] []
  g_law : mg "law" = some (.ref a_law)
  z_abs : mg "abs" = none
  z_int : mg "int" = none
  z_isinstance : mg "isinstance" = none
  z_len : mg "len" = none
  z_range : mg "range" = none
  z_tuple : mg "tuple" = none
  m_gcd : mg "gcd" = some (.builtin "math.gcd")
section
variable {P : Program} {w : World} {K : Fg} {mg : Str → Option Value} {base : Heap} {cl : Nat → Addr}
theorem ok_common_divisor (T : Tx K mg) : FnOk P w K mg base CX0 1 T.a_common_divisor T.d_common_divisor ["first", "second"] (spE K cl 2 rv_common_divisor) := fn_e T.F_common_divisor sc_common_divisor (by decide) fun cdv A outer s H E hr => ⟨_, show VB cl _ (defBody s_common_divisor) _ ev_common_divisor from b_one (s_ret (v_callF cr_gcd cas_gcd T.m_gcd (a_cons (v_var 0) (a_cons (v_var 1) (a_nil)))))⟩
theorem ok_made (T : Tx K mg) : FnOk P w K mg base CX0 2 T.a_made T.d_made ["top", "bottom"] (spE K cl 2 rv_made) := fn_e T.F_made sc_made (by decide) fun cdv A outer s H E hr => ⟨_, show VB cl _ (defBody s_made) _ ev_made from b_cons (s_set 2 sc_made.nd (v_call (hr.mono (by decide)) (ok_common_divisor T) T.g_common_divisor T.F_common_divisor.kp T.b_common_divisor (a_cons (v_var 0) (a_cons (v_var 1) (a_nil))))) (b_cons (s_if (t_cmp c_lt (v_var 1) (v_int)) (b_one (s_set 2 sc_made.nd (v_neg (v_var 2)))) (b_nil)) (b_one (s_ret (v_tup (a_cons (v_div (v_var 0) (v_var 2)) (a_cons (v_div (v_var 1) (v_var 2)) (a_nil)))))))⟩
theorem ok_added (T : Tx K mg) : FnOk P w K mg base CX0 3 T.a_added T.d_added ["first", "second"] (spE K cl 2 rv_added) := fn_e T.F_added sc_added (by decide) fun cdv A outer s H E hr => ⟨_, show VB cl _ (defBody s_added) _ ev_added from b_one (s_ret (v_call (hr.mono (by decide)) (ok_made T) T.g_made T.F_made.kp T.b_made (a_cons (v_add (v_mul (v_ix (v_var 0) (v_int)) (v_ix (v_var 1) (v_int))) (v_mul (v_ix (v_var 1) (v_int)) (v_ix (v_var 0) (v_int)))) (a_cons (v_mul (v_ix (v_var 0) (v_int)) (v_ix (v_var 1) (v_int))) (a_nil)))))⟩
theorem ok_taken (T : Tx K mg) : FnOk P w K mg base CX0 3 T.a_taken T.d_taken ["first", "second"] (spE K cl 2 rv_taken) := fn_e T.F_taken sc_taken (by decide) fun cdv A outer s H E hr => ⟨_, show VB cl _ (defBody s_taken) _ ev_taken from b_one (s_ret (v_call (hr.mono (by decide)) (ok_made T) T.g_made T.F_made.kp T.b_made (a_cons (v_sub (v_mul (v_ix (v_var 0) (v_int)) (v_ix (v_var 1) (v_int))) (v_mul (v_ix (v_var 1) (v_int)) (v_ix (v_var 0) (v_int)))) (a_cons (v_mul (v_ix (v_var 0) (v_int)) (v_ix (v_var 1) (v_int))) (a_nil)))))⟩
theorem ok_times (T : Tx K mg) : FnOk P w K mg base CX0 3 T.a_times T.d_times ["first", "second"] (spE K cl 2 rv_times) := fn_e T.F_times sc_times (by decide) fun cdv A outer s H E hr => ⟨_, show VB cl _ (defBody s_times) _ ev_times from b_one (s_ret (v_call (hr.mono (by decide)) (ok_made T) T.g_made T.F_made.kp T.b_made (a_cons (v_mul (v_ix (v_var 0) (v_int)) (v_ix (v_var 1) (v_int))) (a_cons (v_mul (v_ix (v_var 0) (v_int)) (v_ix (v_var 1) (v_int))) (a_nil)))))⟩
theorem ok_divided (T : Tx K mg) : FnOk P w K mg base CX0 3 T.a_divided T.d_divided ["first", "second"] (spE K cl 2 rv_divided) := fn_e T.F_divided sc_divided (by decide) fun cdv A outer s H E hr => ⟨_, show VB cl _ (defBody s_divided) _ ev_divided from b_one (s_ret (v_call (hr.mono (by decide)) (ok_made T) T.g_made T.F_made.kp T.b_made (a_cons (v_mul (v_ix (v_var 0) (v_int)) (v_ix (v_var 1) (v_int))) (a_cons (v_mul (v_ix (v_var 0) (v_int)) (v_ix (v_var 1) (v_int))) (a_nil)))))⟩
theorem ok_is_less (T : Tx K mg) : FnOk P w K mg base CX0 1 T.a_is_less T.d_is_less ["first", "second"] (spE K cl 2 rv_is_less) := fn_e T.F_is_less sc_is_less (by decide) fun cdv A outer s H E hr => ⟨_, show VB cl _ (defBody s_is_less) _ ev_is_less from b_one (s_ret (v_cmp c_lt (v_mul (v_ix (v_var 0) (v_int)) (v_ix (v_var 1) (v_int))) (v_mul (v_ix (v_var 1) (v_int)) (v_ix (v_var 0) (v_int)))))⟩
theorem ok_floor_of (T : Tx K mg) : FnOk P w K mg base CX0 1 T.a_floor_of T.d_floor_of ["one"] (spE K cl 1 rv_floor_of) := fn_e T.F_floor_of sc_floor_of (by decide) fun cdv A outer s H E hr => ⟨_, show VB cl _ (defBody s_floor_of) _ ev_floor_of from b_one (s_ret (v_div (v_ix (v_var 0) (v_int)) (v_ix (v_var 0) (v_int))))⟩
theorem ok_ceiling_of (T : Tx K mg) : FnOk P w K mg base CX0 1 T.a_ceiling_of T.d_ceiling_of ["one"] (spE K cl 1 rv_ceiling_of) := fn_e T.F_ceiling_of sc_ceiling_of (by decide) fun cdv A outer s H E hr => ⟨_, show VB cl _ (defBody s_ceiling_of) _ ev_ceiling_of from b_one (s_ret (v_neg (v_div (v_neg (v_ix (v_var 0) (v_int))) (v_ix (v_var 0) (v_int)))))⟩
theorem ok_l_cell (T : Tx K mg) : FnOk P w K mg base CX0 1 T.a_l_cell T.d_l_cell ["script", "k"] (spE K cl 2 rv_l_cell) := fn_e T.F_l_cell sc_l_cell (by decide) fun cdv A outer s H E hr => ⟨_, show VB cl _ (defBody s_l_cell) _ ev_l_cell from b_cons (s_if (t_cmp c_lt (v_var 1) (v_callB call_lenA cas_len T.z_len (a_cons (v_var 0) (a_nil)))) (b_one (s_ret (v_ix (v_var 0) (v_var 1)))) (b_nil)) (b_one (s_ret (v_int)))⟩
theorem ok_l_digits (T : Tx K mg) : FnOk P w K mg base CX0 2 T.a_l_digits T.d_l_digits ["script", "first", "last"] (spE K cl 3 rv_l_digits) := fn_e T.F_l_digits sc_l_digits (by decide) fun cdv A outer s H E hr => ⟨_, show VB cl _ (defBody s_l_digits) _ ev_l_digits from b_cons (s_setL 3 sc_l_digits.nd (l_lst (a_nil))) (b_cons (s_for PassesOwn.never rfl (i_r2 T.z_range (a_cons (v_var 1) (a_cons (v_var 2) (a_nil)))) (g_name 4 sc_l_digits.nd) (es := lp_l_digits_2) (b_cons (s_set 5 sc_l_digits.nd (v_call (hr.mono (by decide)) (ok_l_cell T) T.g_l_cell T.F_l_cell.kp T.b_l_cell (a_cons (v_var 0) (a_cons (v_var 4) (a_nil))))) (b_cons (s_if (t_cmp c_lt (v_var 5) (v_int)) (b_one (s_set 5 sc_l_digits.nd (v_sub (v_int) (v_mul (v_int) (v_var 5))))) (b_nil)) (b_one (s_if (t_cmp c_ge (v_var 5) (v_pow (v_int) (v_int))) (b_one (s_for PassesOwn.never rfl (i_r1 T.z_range (a_cons (v_int) (a_nil))) (g_name 6 sc_l_digits.nd) (es := lp_l_digits_0) (b_one (s_if (t_cmp c_gt (v_var 5) (v_int)) (b_cons (s_app 3 (v_mod (v_callTy call_int1 cas_int T.z_int (a_cons (v_var 5) (a_nil))) (v_int))) (b_one (s_set 5 sc_l_digits.nd (v_div (v_var 5) (v_int))))) (b_nil))))) (b_cons (s_set 7 sc_l_digits.nd (v_mod (v_callTy call_int1 cas_int T.z_int (a_cons (v_add (v_add (v_mul (v_var 5) (v_int)) (v_mul (v_var 4) (v_int))) (v_int)) (a_nil))) (v_int))) (b_one (s_for PassesOwn.never rfl (i_r1 T.z_range (a_cons (v_int) (a_nil))) (g_name 6 sc_l_digits.nd) (es := lp_l_digits_1) (b_cons (s_set 7 sc_l_digits.nd (v_mod (v_callTy call_int1 cas_int T.z_int (a_cons (v_add (v_add (v_mul (v_var 7) (v_int)) (v_mul (v_int) (v_var 6))) (v_int)) (a_nil))) (v_int))) (b_one (s_app 3 (v_mod (v_callTy call_int1 cas_int T.z_int (a_cons (v_div (v_var 7) (v_int)) (a_nil))) (v_int))))))))))))) (b_one (s_ret (v_var 3))))⟩
theorem ok_l_draw (T : Tx K mg) : FnOk P w K mg base CX0 1 T.a_l_draw T.d_l_draw ["box", "many"] (spO K cl 1 rv_l_draw) := fn_o T.F_l_draw sc_l_draw (by decide) rfl fun cdv A outer s H E hr => ⟨_, show VB cl _ (defBody s_l_draw) _ ev_l_draw from b_cons (s_set 2 sc_l_draw.nd (v_ixO 0 (v_int))) (b_cons (s_setO 0 (v_add (v_var 2) (v_int)) (v_int) keep_c) (b_cons (s_if (t_cmp c_lt (v_var 2) (v_callB call_lenA cas_len T.z_len (a_cons (v_ixO 0 (v_int)) (a_nil)))) (b_one (s_ret (v_mod (v_callTy call_int1 cas_int T.z_int (a_cons (v_ix (v_ixO 0 (v_int)) (v_var 2)) (a_nil))) (v_var 1)))) (b_nil)) (b_one (s_ret (v_int)))))⟩
theorem ok_l_number (T : Tx K mg) : FnOk P w K mg base CX0 2 T.a_l_number T.d_l_number ["box"] (spO K cl 0 rv_l_number) := fn_o T.F_l_number sc_l_number (by decide) rfl fun cdv A outer s H E hr => ⟨_, show VB cl _ (defBody s_l_number) _ ev_l_number from b_one (s_ret (v_ix ((l_lst (a_cons (v_sub (v_callO 0 (hr.mono (by decide)) (ok_l_draw T) T.g_l_draw T.F_l_draw.kp T.b_l_draw (a_cons (v_int) (a_nil))) (v_int)) (a_cons (v_add (v_mul (v_sub (v_callO 0 (hr.mono (by decide)) (ok_l_draw T) T.g_l_draw T.F_l_draw.kp T.b_l_draw (a_cons (v_int) (a_nil))) (v_int)) (v_int)) (v_callO 0 (hr.mono (by decide)) (ok_l_draw T) T.g_l_draw T.F_l_draw.kp T.b_l_draw (a_cons (v_int) (a_nil)))) (a_nil)))).v) (v_callTy call_int1 cas_int T.z_int (a_cons (v_cmp (c_eq hr) (v_callO 0 (hr.mono (by decide)) (ok_l_draw T) T.g_l_draw T.F_l_draw.kp T.b_l_draw (a_cons (v_int) (a_nil))) (v_int)) (a_nil)))))⟩
theorem ok_l_is (T : Tx K mg) : FnOk P w K mg base CX0 2 T.a_l_is T.d_l_is ["told", "top", "bottom"] (spE K cl 3 rv_l_is) := fn_e T.F_l_is sc_l_is (by decide) fun cdv A outer s H E hr => ⟨_, show VB cl _ (defBody s_l_is) _ ev_l_is from b_cons (s_if ((w_or (t_not (t_val (v_isT (T := "tuple") T.z_isinstance T.z_tuple (v_var 0)))) (w_or (t_cmp (c_ne hr) (v_callB call_lenA cas_len T.z_len (a_cons (v_var 0) (a_nil))) (v_int)) (w_or (t_cmp c_lt (v_ix (v_var 0) (v_int)) (v_int)) (w_or1 (t_cmp (c_ne hr) (v_mul (v_ix (v_var 0) (v_int)) (v_var 2)) (v_mul (v_var 1) (v_ix (v_var 0) (v_int)))))))).t) (b_one (s_ret (v_bl))) (b_nil)) (b_cons (s_for PassesOwn.never rfl (i_r2 T.z_range (a_cons (v_int) (a_cons (v_int) (a_nil)))) (g_name 3 sc_l_is.nd) (es := lp_l_is_0) (b_one (s_if ((w_and (t_cmp (c_eq hr) (v_mod (v_callTy call_int1 cas_int T.z_int (a_cons (v_ix (v_var 0) (v_int)) (a_nil))) (v_var 3)) (v_int)) (w_and1 (t_cmp (c_eq hr) (v_mod (v_callTy call_int1 cas_int T.z_int (a_cons (v_ix (v_var 0) (v_int)) (a_nil))) (v_var 3)) (v_int)))).t) (b_one (s_ret (v_bl))) (b_nil)))) (b_one (s_ret (v_cmp (c_eq hr) (v_call (hr.mono (by decide)) (ok_common_divisor T) T.g_common_divisor T.F_common_divisor.kp T.b_common_divisor (a_cons (v_ix (v_var 0) (v_int)) (a_cons (v_ix (v_var 0) (v_int)) (a_nil)))) (v_int)))))⟩
theorem ok_law (T : Tx K mg) : FnOk P w K mg base CX0 4 T.a_law T.d_law ["script"] (spE K cl 1 rv_law) := fn_e T.F_law sc_law (by decide) fun cdv A outer s H E hr => ⟨_, show VB cl _ (defBody s_law) _ ev_law from b_cons (s_setL 1 sc_law.nd (l_lst (a_cons (v_call (hr.mono (by decide)) (ok_l_digits T) T.g_l_digits T.F_l_digits.kp T.b_l_digits (a_cons (v_var 0) (a_cons (v_int) (a_cons (v_int) (a_nil))))) (a_cons (v_int) (a_nil))))) (b_cons (s_for PassesOwn.never rfl (i_r1 T.z_range (a_cons (v_int) (a_nil))) (g_name 2 sc_law.nd) (es := lp_law_0) (b_cons (s_set 3 sc_law.nd (v_callO 1 (hr.mono (by decide)) (ok_l_number T) T.g_l_number T.F_l_number.kp T.b_l_number (a_nil))) (b_cons (s_set 4 sc_law.nd (v_ix ((l_lst (a_cons (v_callO 1 (hr.mono (by decide)) (ok_l_number T) T.g_l_number T.F_l_number.kp T.b_l_number (a_nil)) (a_cons (v_int) (a_nil)))).v) (v_callTy call_int1 cas_int T.z_int (a_cons (v_cmp (c_eq hr) (v_callO 1 (hr.mono (by decide)) (ok_l_draw T) T.g_l_draw T.F_l_draw.kp T.b_l_draw (a_cons (v_int) (a_nil))) (v_int)) (a_nil))))) (b_cons (s_if (t_cmp (c_eq hr) (v_var 4) (v_int)) (b_one (s_set 4 sc_law.nd (v_neg (v_int)))) (b_nil)) (b_cons (s_set 5 sc_law.nd (v_callO 1 (hr.mono (by decide)) (ok_l_number T) T.g_l_number T.F_l_number.kp T.b_l_number (a_nil))) (b_cons (s_set 6 sc_law.nd (v_add (v_int) (v_callB call_abs cas_abs T.z_abs (a_cons (v_callO 1 (hr.mono (by decide)) (ok_l_number T) T.g_l_number T.F_l_number.kp T.b_l_number (a_nil)) (a_nil))))) (b_cons (s_set 7 sc_law.nd (v_call (hr.mono (by decide)) (ok_made T) T.g_made T.F_made.kp T.b_made (a_cons (v_var 3) (a_cons (v_var 4) (a_nil))))) (b_cons (s_set 8 sc_law.nd (v_call (hr.mono (by decide)) (ok_made T) T.g_made T.F_made.kp T.b_made (a_cons (v_var 5) (a_cons (v_var 6) (a_nil))))) (b_cons (s_if ((w_or (t_not (t_val (v_call (hr.mono (by decide)) (ok_l_is T) T.g_l_is T.F_l_is.kp T.b_l_is (a_cons (v_var 7) (a_cons (v_var 3) (a_cons (v_var 4) (a_nil))))))) (w_or1 (t_not (t_val (v_call (hr.mono (by decide)) (ok_l_is T) T.g_l_is T.F_l_is.kp T.b_l_is (a_cons (v_var 8) (a_cons (v_var 5) (a_cons (v_var 6) (a_nil))))))))).t) (b_one (s_ret (v_bl))) (b_nil)) (b_cons (s_asg (v_var 7) (g_tup 2 rfl (gs_cons (g_name 9 sc_law.nd) (gs_cons (g_name 10 sc_law.nd) (gs_nil))))) (b_cons (s_asg (v_var 8) (g_tup 2 rfl (gs_cons (g_name 11 sc_law.nd) (gs_cons (g_name 12 sc_law.nd) (gs_nil))))) (b_cons (s_if ((w_or (t_not (t_val (v_call (hr.mono (by decide)) (ok_l_is T) T.g_l_is T.F_l_is.kp T.b_l_is (a_cons (v_call (hr.mono (by decide)) (ok_added T) T.g_added T.F_added.kp T.b_added (a_cons (v_var 7) (a_cons (v_var 8) (a_nil)))) (a_cons (v_add (v_mul (v_var 9) (v_var 12)) (v_mul (v_var 11) (v_var 10))) (a_cons (v_mul (v_var 10) (v_var 12)) (a_nil))))))) (w_or1 (t_not (t_val (v_call (hr.mono (by decide)) (ok_l_is T) T.g_l_is T.F_l_is.kp T.b_l_is (a_cons (v_call (hr.mono (by decide)) (ok_taken T) T.g_taken T.F_taken.kp T.b_taken (a_cons (v_var 7) (a_cons (v_var 8) (a_nil)))) (a_cons (v_sub (v_mul (v_var 9) (v_var 12)) (v_mul (v_var 11) (v_var 10))) (a_cons (v_mul (v_var 10) (v_var 12)) (a_nil))))))))).t) (b_one (s_ret (v_bl))) (b_nil)) (b_cons (s_if ((w_or (t_not (t_val (v_call (hr.mono (by decide)) (ok_l_is T) T.g_l_is T.F_l_is.kp T.b_l_is (a_cons (v_call (hr.mono (by decide)) (ok_times T) T.g_times T.F_times.kp T.b_times (a_cons (v_var 7) (a_cons (v_var 8) (a_nil)))) (a_cons (v_mul (v_var 9) (v_var 11)) (a_cons (v_mul (v_var 10) (v_var 12)) (a_nil))))))) (w_or1 (t_cmp (c_ne hr) (v_call (hr.mono (by decide)) (ok_is_less T) T.g_is_less T.F_is_less.kp T.b_is_less (a_cons (v_var 7) (a_cons (v_var 8) (a_nil)))) (v_cmp c_lt (v_mul (v_var 9) (v_var 12)) (v_mul (v_var 11) (v_var 10)))))).t) (b_one (s_ret (v_bl))) (b_nil)) (b_cons (s_if ((w_and (t_cmp (c_ne hr) (v_var 11) (v_int)) (w_and1 (t_not (t_val (v_call (hr.mono (by decide)) (ok_l_is T) T.g_l_is T.F_l_is.kp T.b_l_is (a_cons (v_call (hr.mono (by decide)) (ok_divided T) T.g_divided T.F_divided.kp T.b_divided (a_cons (v_var 7) (a_cons (v_var 8) (a_nil)))) (a_cons (v_mul (v_var 9) (v_var 12)) (a_cons (v_mul (v_var 10) (v_var 11)) (a_nil))))))))).t) (b_one (s_ret (v_bl))) (b_nil)) (b_cons (s_set 13 sc_law.nd (v_call (hr.mono (by decide)) (ok_floor_of T) T.g_floor_of T.F_floor_of.kp T.b_floor_of (a_cons (v_var 7) (a_nil)))) (b_cons (s_set 14 sc_law.nd (v_call (hr.mono (by decide)) (ok_ceiling_of T) T.g_ceiling_of T.F_ceiling_of.kp T.b_ceiling_of (a_cons (v_var 7) (a_nil)))) (b_cons (s_if ((w_or (t_not (t_chain c_le c_lt (v_mul (v_var 13) (v_var 10)) (v_var 9) (v_mul (v_add (v_var 13) (v_int)) (v_var 10)))) (w_or1 (t_not (t_chain c_lt c_le (v_mul (v_sub (v_var 14) (v_int)) (v_var 10)) (v_var 9) (v_mul (v_var 14) (v_var 10)))))).t) (b_one (s_ret (v_bl))) (b_nil)) (b_cons (s_set 15 sc_law.nd (v_call (hr.mono (by decide)) (ok_common_divisor T) T.g_common_divisor T.F_common_divisor.kp T.b_common_divisor (a_cons (v_var 3) (a_cons (v_var 5) (a_nil))))) (b_one (s_if ((w_or (t_cmp c_lt (v_var 15) (v_int)) (w_or ((w_and (t_cmp c_gt (v_var 15) (v_int)) (w_and1 ((w_or (t_cmp (c_ne hr) (v_sub (v_var 3) (v_mul (v_div (v_var 3) (v_var 15)) (v_var 15))) (v_int)) (w_or1 (t_cmp (c_ne hr) (v_sub (v_var 5) (v_mul (v_div (v_var 5) (v_var 15)) (v_var 15))) (v_int)))).t))).t) (w_or1 (t_cmp (c_ne hr) (v_cmp (c_eq hr) (v_var 15) (v_int)) (v_and (v_cmp (c_eq hr) (v_var 3) (v_int)) (v_one (v_cmp (c_eq hr) (v_var 5) (v_int)))))))).t) (b_one (s_ret (v_bl))) (b_nil))))))))))))))))))))) (b_one (s_ret (v_and (v_cmp (c_eq hr) (v_call (hr.mono (by decide)) (ok_common_divisor T) T.g_common_divisor T.F_common_divisor.kp T.b_common_divisor (a_cons (v_int) (a_cons (v_neg (v_int)) (a_nil)))) (v_int)) (v_one (v_cmp (c_eq hr) (v_call (hr.mono (by decide)) (ok_common_divisor T) T.g_common_divisor T.F_common_divisor.kp T.b_common_divisor (a_cons (v_int) (a_cons (v_neg (v_int)) (a_nil)))) (v_int)))))))⟩
end
end K00

set_option Elab.async false
set_option linter.all false
set_option maxRecDepth 100000
set_option maxHeartbeats 4000000
namespace K00
open DL L2
theorem gcd_ok (a b : Int) : rv_common_divisor [.int a, .int b] = some (.int ((Nat.gcd a.natAbs b.natAbs : Nat) : Int)) := by
  simp [rv_common_divisor, ev_common_divisor]
/-- what a fraction of P and Q is -/
structure Fr (x y P Q : Int) : Prop where
  eq : x * Q = P * y
  pos : 1 ≤ y
  co : Nat.gcd x.natAbs y.natAbs = 1
  lx : x.natAbs ≤ P.natAbs
  ly : y.natAbs ≤ Q.natAbs
theorem le_mul_abs {p g : Int} (h : g ≠ 0) : p.natAbs ≤ (p * g).natAbs := by
  rw [Int.natAbs_mul]
  exact Nat.le_mul_of_pos_right _ (by omega)
theorem made_ok {a b : Int} (hb : b ≠ 0) (hs : b.natAbs < 2 ^ 200) : ∃ x y, rv_made [.int a, .int b] = some (.tup [.int x, .int y]) ∧ Fr x y a b := by
  -- the divisor with the sign of b
  have hgpos : 0 < Nat.gcd a.natAbs b.natAbs := Nat.gcd_pos_of_pos_right _ (by omega)
  have key : ∀ g : Int, g.natAbs = Nat.gcd a.natAbs b.natAbs → (0 < b ∧ 0 < g ∨ b < 0 ∧ g < 0) → divOk g = true ∧ Fr (a.fdiv g) (b.fdiv g) a b := by
    intro g hg hsg
    have hg0 : g ≠ 0 := by omega
    have hda : g ∣ a := by
      rw [← Int.natAbs_dvd_natAbs, hg]
      exact Nat.gcd_dvd_left _ _
    have hdb : g ∣ b := by
      rw [← Int.natAbs_dvd_natAbs, hg]
      exact Nat.gcd_dvd_right _ _
    have ea := Int.fdiv_mul_cancel hda
    have eb := Int.fdiv_mul_cancel hdb
    generalize a.fdiv g = x at ea ⊢
    generalize b.fdiv g = y at eb ⊢
    have hy : 1 ≤ y := by
      rcases hsg with ⟨h1, h2⟩ | ⟨h1, h2⟩
      · rcases Int.lt_or_le 0 y with h | h
        · omega
        · have := Int.mul_nonpos_of_nonpos_of_nonneg h (Int.le_of_lt h2)
          omega
      · rcases Int.lt_or_le 0 y with h | h
        · omega
        · have := Int.mul_nonneg_of_nonpos_of_nonpos h (Int.le_of_lt h2)
          omega
    have hgle : g.natAbs ≤ b.natAbs := by
      rw [hg]
      exact Nat.gcd_le_right _ (by omega)
    refine ⟨divOk_of hg0 (by omega), ?_, hy, ?_, ?_, ?_⟩
    · rw [← ea, ← eb]
      rw [Int.mul_assoc, Int.mul_comm y g]
    · have h1 : Nat.gcd a.natAbs b.natAbs = Nat.gcd x.natAbs y.natAbs * g.natAbs := by
        rw [← ea, ← eb, Int.natAbs_mul, Int.natAbs_mul, Nat.gcd_mul_right]
      rw [← hg] at h1
      have h2 : 0 < g.natAbs := by omega
      exact Nat.eq_of_mul_eq_mul_right h2 (by omega)
    · rw [← ea]; exact le_mul_abs hg0
    · rw [← eb]; exact le_mul_abs hg0
  by_cases hn : b < 0
  · obtain ⟨h1, h2⟩ := key (-((Nat.gcd a.natAbs b.natAbs : Nat) : Int)) (by omega) (.inr ⟨hn, by omega⟩)
    exact ⟨_, _, by simp [rv_made, ev_made, gcd_ok, hn, h1, List.replicate, most], h2⟩
  · obtain ⟨h1, h2⟩ := key ((Nat.gcd a.natAbs b.natAbs : Nat) : Int) (by omega) (.inl ⟨by omega, by omega⟩)
    exact ⟨_, _, by simp [rv_made, ev_made, gcd_ok, hn, h1, List.replicate, most], h2⟩
theorem small_abs {x : Int} (h : x.natAbs < 2 ^ 64) : smallI x = true := smallI_of (by omega) (by omega)
theorem is_ok {x y P Q : Int} (f : Fr x y P Q) (hx : x.natAbs < 2 ^ 64) (hy : y.natAbs < 2 ^ 64) : rv_l_is [.tup [.int x, .int y], .int P, .int Q] = some (.bl true) := by
  have h1 := small_abs hx
  have h2 := small_abs hy
  obtain ⟨e, k1, s, rfl, hs⟩ := loop_range (lo := 2) (n := 28) (g := gN 3) (b := lp_l_is_0) (fun i env => ∃ s, env = [.d (.tup [.int x, .int y]), .d (.int P), .d (.int Q), s] ∧ s.isPar = false) (env := [.d (.tup [.int x, .int y]), .d (.int P), .d (.int Q), .un]) ⟨.un, rfl, rfl⟩ (fun j hj env hP => by
    obtain ⟨s, rfl, hs⟩ := hP
    refine ⟨_, ?_, .d (.int (2 + (j : Int))), rfl, rfl⟩
    have hne : ¬ (2 + (j : Int)) = 0 := by omega
    by_cases hxd : x.fmod (2 + (j : Int)) = 0
    · have hyd : ¬ y.fmod (2 + (j : Int)) = 0 := fun hyd => by
        have d1 := Int.dvd_of_fmod_eq_zero hxd
        have d2 := Int.dvd_of_fmod_eq_zero hyd
        have d3 : (2 + j) ∣ Nat.gcd x.natAbs y.natAbs := Nat.dvd_gcd (by
          have := Int.natAbs_dvd_natAbs.mpr d1
          rwa [show (2 + (j : Int)).natAbs = 2 + j by omega] at this) (by
          have := Int.natAbs_dvd_natAbs.mpr d2
          rwa [show (2 + (j : Int)).natAbs = 2 + j by omega] at this)
        rw [f.co] at d3
        have := Nat.le_of_dvd (by decide) d3
        omega
      simp [lp_l_is_0, hs, hne, hxd, hyd]
    · simp [lp_l_is_0, hs, hne, hxd])
  have e1 : ¬ y < 1 := by have := f.pos; omega
  have e2 := f.eq
  have e3 : kitB "tuple" "tuple" = some true := by decide +kernel
  have e4 : ((Nat.gcd x.natAbs y.natAbs : Nat) : Int) = 1 := by rw [f.co]; rfl
  simp [rv_l_is, ev_l_is, e1, e2, e3, h1, h2, k1, gcd_ok, f.co, List.replicate]
theorem number_ok {o : Oc} (h : BoxD o) : ∃ n o', rv_l_number o [] = some (.int n, o') ∧ -600000000 < n ∧ n < 600000000 ∧ BoxD o' := by
  obtain ⟨r1, o1, e1, a1, b1, h1⟩ := draw_ok h (many := 25) (by decide)
  obtain ⟨r2, o2, e2, a2, b2, h2⟩ := draw_ok h1 (many := 1000) (by decide)
  obtain ⟨r3, o3, e3, a3, b3, h3⟩ := draw_ok h2 (many := 1000) (by decide)
  obtain ⟨r4, o4, e4, a4, b4, h4⟩ := draw_ok h3 (many := 5) (by decide)
  have hs : smallI 1000003 = true := by decide
  by_cases hz : r4 = 0
  · exact ⟨(r2 - 500) * 1000003 + r3, o4, by simp [rv_l_number, ev_l_number, e1, e2, e3, e4, hz, hs, most], by omega, by omega, h4⟩
  · exact ⟨r1 - 12, o4, by simp [rv_l_number, ev_l_number, e1, e2, e3, e4, hz, hs, most], by omega, by omega, h4⟩
end K00

set_option Elab.async false
set_option linter.all false
set_option maxRecDepth 100000
set_option maxHeartbeats 4000000
namespace K00
open DL L2
theorem prod_lt {x y : Int} (hx : x.natAbs < 600000001) (hy : y.natAbs < 600000001) : (x * y).natAbs < 360000001200000002 := by
  rw [Int.natAbs_mul]
  have h1 : x.natAbs ≤ 600000000 := by omega
  have h2 : y.natAbs ≤ 600000000 := by omega
  have := Nat.mul_le_mul h1 h2
  omega
theorem floor_ok {p q : Int} (hq : 1 ≤ q) (hs : q.natAbs < 2 ^ 200) : rv_floor_of [.tup [.int p, .int q]] = some (.int (p.fdiv q)) ∧ p.fdiv q * q ≤ p ∧ p < (p.fdiv q + 1) * q := by
  have h1 : divOk q = true := divOk_of (by omega) hs
  have e := Int.mul_fdiv_add_fmod p q
  have h2 := Int.fmod_nonneg_of_pos p (b := q) (by omega)
  have h3 := Int.fmod_lt_of_pos p (b := q) (by omega)
  refine ⟨by simp [rv_floor_of, ev_floor_of, h1, List.replicate], ?_, ?_⟩
  · rw [Int.mul_comm]; omega
  · rw [Int.add_mul, Int.mul_comm (p.fdiv q) q]; omega
theorem ceil_ok {p q : Int} (hq : 1 ≤ q) (hs : q.natAbs < 2 ^ 200) : rv_ceiling_of [.tup [.int p, .int q]] = some (.int (-((-p).fdiv q))) ∧ (-((-p).fdiv q) - 1) * q < p ∧ p ≤ -((-p).fdiv q) * q := by
  have h1 : divOk q = true := divOk_of (by omega) hs
  have e := Int.mul_fdiv_add_fmod (-p) q
  have h2 := Int.fmod_nonneg_of_pos (-p) (b := q) (by omega)
  have h3 := Int.fmod_lt_of_pos (-p) (b := q) (by omega)
  refine ⟨by simp [rv_ceiling_of, ev_ceiling_of, h1, List.replicate], ?_, ?_⟩
  · rw [Int.sub_mul, Int.neg_mul, Int.mul_comm ((-p).fdiv q) q]; omega
  · rw [Int.neg_mul, Int.mul_comm ((-p).fdiv q) q]; omega
theorem added_eq {p q r s : Int} (h1 : smallI p = true) (h2 : smallI q = true) (h3 : smallI r = true) (h4 : smallI s = true) : rv_added [.tup [.int p, .int q], .tup [.int r, .int s]] = rv_made [.int (p * s + r * q), .int (q * s)] := by
  have e : ∀ o : Option Dt, (endOf (Option.map (fun p => Rs.rt p.1 p.2) (Option.map (fun z => (z, [Sc.d (.tup [.int p, .int q]), Sc.d (.tup [.int r, .int s])])) o))).map (·.1) = o := fun o => by cases o <;> rfl
  rw [← e (rv_made [.int (p * s + r * q), .int (q * s)])]
  simp [rv_added, ev_added, h1, h2, h3, h4, List.replicate]
theorem taken_eq {p q r s : Int} (h1 : smallI p = true) (h2 : smallI q = true) (h3 : smallI r = true) (h4 : smallI s = true) : rv_taken [.tup [.int p, .int q], .tup [.int r, .int s]] = rv_made [.int (p * s - r * q), .int (q * s)] := by
  have e : ∀ o : Option Dt, (endOf (Option.map (fun p => Rs.rt p.1 p.2) (Option.map (fun z => (z, [Sc.d (.tup [.int p, .int q]), Sc.d (.tup [.int r, .int s])])) o))).map (·.1) = o := fun o => by cases o <;> rfl
  rw [← e (rv_made [.int (p * s - r * q), .int (q * s)])]
  simp [rv_taken, ev_taken, h1, h2, h3, h4, List.replicate]
theorem times_eq {p q r s : Int} (h1 : smallI p = true) (h2 : smallI q = true) (h3 : smallI r = true) (h4 : smallI s = true) : rv_times [.tup [.int p, .int q], .tup [.int r, .int s]] = rv_made [.int (p * r), .int (q * s)] := by
  have e : ∀ o : Option Dt, (endOf (Option.map (fun p => Rs.rt p.1 p.2) (Option.map (fun z => (z, [Sc.d (.tup [.int p, .int q]), Sc.d (.tup [.int r, .int s])])) o))).map (·.1) = o := fun o => by cases o <;> rfl
  rw [← e (rv_made [.int (p * r), .int (q * s)])]
  simp [rv_times, ev_times, h1, h2, h3, h4, List.replicate]
theorem divided_eq {p q r s : Int} (h1 : smallI p = true) (h2 : smallI q = true) (h3 : smallI r = true) (h4 : smallI s = true) : rv_divided [.tup [.int p, .int q], .tup [.int r, .int s]] = rv_made [.int (p * s), .int (q * r)] := by
  have e : ∀ o : Option Dt, (endOf (Option.map (fun p => Rs.rt p.1 p.2) (Option.map (fun z => (z, [Sc.d (.tup [.int p, .int q]), Sc.d (.tup [.int r, .int s])])) o))).map (·.1) = o := fun o => by cases o <;> rfl
  rw [← e (rv_made [.int (p * s), .int (q * r)])]
  simp [rv_divided, ev_divided, h1, h2, h3, h4, List.replicate]
theorem is_less_eq {p q r s : Int} (h1 : smallI p = true) (h2 : smallI q = true) (h3 : smallI r = true) (h4 : smallI s = true) : rv_is_less [.tup [.int p, .int q], .tup [.int r, .int s]] = some (.bl (decide (p * s < r * q))) := by
  simp [rv_is_less, ev_is_less, h1, h2, h3, h4, List.replicate]
/-- a fraction made of P and Q is told to be one -/
theorem made_is {P Q : Int} (hQ : Q ≠ 0) (hP : P.natAbs < 2 ^ 63) (hQ2 : Q.natAbs < 2 ^ 63) : ∃ x y, rv_made [.int P, .int Q] = some (.tup [.int x, .int y]) ∧ rv_l_is [.tup [.int x, .int y], .int P, .int Q] = some (.bl true) := by
  obtain ⟨x, y, h1, h2⟩ := made_ok (a := P) hQ (by omega)
  exact ⟨x, y, h1, is_ok h2 (by have := h2.lx; omega) (by have := h2.ly; omega)⟩
def LawP (ns : List Int) (env : DL.Env) : Prop := ∃ (o : Oc) (s2 s3 s4 s5 s6 s7 s8 s9 s10 s11 s12 s13 s14 s15 : Sc), env = [.d (.scr ns), .own o, s2, s3, s4, s5, s6, s7, s8, s9, s10, s11, s12, s13, s14, s15] ∧ BoxD o ∧
  s2.isPar = false ∧ s3.isPar = false ∧ s4.isPar = false ∧ s5.isPar = false ∧ s6.isPar = false ∧ s7.isPar = false ∧ s8.isPar = false ∧ s9.isPar = false ∧ s10.isPar = false ∧ s11.isPar = false ∧ s12.isPar = false ∧ s13.isPar = false ∧ s14.isPar = false ∧ s15.isPar = false
theorem turn_ok {ns : List Int} (t : Int) {env : DL.Env} (h : LawP ns env) : ∃ e, (gN 2 (.int t) env).bind lp_law_0 = some (.nx e) ∧ LawP ns e := by
  obtain ⟨o, s2, s3, s4, s5, s6, s7, s8, s9, s10, s11, s12, s13, s14, s15, rfl, hB, g2, g3, g4, g5, g6, g7, g8, g9, g10, g11, g12, g13, g14, g15⟩ := h
  obtain ⟨a, o1, n1, la, ua, h1⟩ := number_ok hB
  obtain ⟨b0, o2, n2, lb, ub, h2⟩ := number_ok h1
  obtain ⟨r3, o3, n3, l3, u3, h3⟩ := draw_ok h2 (many := 4) (by decide)
  obtain ⟨c, o4, n4, lc, uc, h4⟩ := number_ok h3
  obtain ⟨d0, o5, n5, ld, ud, h5⟩ := number_ok h4
  -- b and d
  obtain ⟨b1, hb1, lb1, ub1⟩ : ∃ b1 : Int, b1 = (if r3 = 0 then 3 else b0) ∧ -600000000 < b1 ∧ b1 < 600000000 := by
    refine ⟨_, rfl, ?_, ?_⟩ <;> split <;> omega
  obtain ⟨b, hb, hb0, lb2, ub2⟩ : ∃ b : Int, b = (if b1 = 0 then -1 else b1) ∧ b ≠ 0 ∧ -600000000 < b ∧ b < 600000000 := by
    refine ⟨_, rfl, ?_, ?_, ?_⟩ <;> split <;> omega
  obtain ⟨d, hd, ld1, ud1⟩ : ∃ d : Int, d = 1 + (if d0 < 0 then -d0 else d0) ∧ 1 ≤ d ∧ d ≤ 600000000 := by
    refine ⟨_, rfl, ?_, ?_⟩ <;> split <;> omega
  obtain ⟨p, q, m1, f1⟩ := made_ok (a := a) (b := b) hb0 (by omega)
  obtain ⟨r, s, m2, f2⟩ := made_ok (a := c) (b := d) (by omega) (by omega)
  have bp : p.natAbs < 600000001 := by have := f1.lx; omega
  have bq : q.natAbs < 600000001 := by have := f1.ly; omega
  have br : r.natAbs < 600000001 := by have := f2.lx; omega
  have bs : s.natAbs < 600000001 := by have := f2.ly; omega
  have i1 := is_ok f1 (by omega) (by omega)
  have i2 := is_ok f2 (by omega) (by omega)
  have hq := f1.pos
  have hs := f2.pos
  have sp := small_abs (x := p) (by omega)
  have sq := small_abs (x := q) (by omega)
  have sr := small_abs (x := r) (by omega)
  have ss := small_abs (x := s) (by omega)
  have pps := prod_lt bp bs
  have prq := prod_lt br bq
  have pqs := prod_lt bq bs
  have ppr := prod_lt bp br
  have pqr := prod_lt bq br
  have nqs : q * s ≠ 0 := Int.mul_ne_zero (by omega) (by omega)
  obtain ⟨x1, y1, k1, j1⟩ := made_is (P := p * s + r * q) nqs (by omega) (by omega)
  obtain ⟨x2, y2, k2, j2⟩ := made_is (P := p * s - r * q) nqs (by omega) (by omega)
  obtain ⟨x3, y3, k3, j3⟩ := made_is (P := p * r) nqs (by omega) (by omega)
  have ad := (added_eq sp sq sr ss).trans k1
  have tk := (taken_eq sp sq sr ss).trans k2
  have tm := (times_eq sp sq sr ss).trans k3
  have il := is_less_eq sp sq sr ss
  have dv : r ≠ 0 → ∃ x y, rv_divided [.tup [.int p, .int q], .tup [.int r, .int s]] = some (.tup [.int x, .int y]) ∧ rv_l_is [.tup [.int x, .int y], .int (p * s), .int (q * r)] = some (.bl true) := fun hr => by
    obtain ⟨x, y, k, j⟩ := made_is (P := p * s) (Q := q * r) (Int.mul_ne_zero (by omega) hr) (by omega) (by omega)
    exact ⟨x, y, (divided_eq sp sq sr ss).trans k, j⟩
  obtain ⟨fl, fl1, fl2⟩ := floor_ok (p := p) hq (by omega)
  obtain ⟨ce, ce1, ce2⟩ := ceil_ok (p := p) hq (by omega)
  have e0 : gN 2 (.int t) [.d (.scr ns), .own o, s2, s3, s4, s5, s6, s7, s8, s9, s10, s11, s12, s13, s14, s15] = some [.d (.scr ns), .own o, .d (.int t), s3, s4, s5, s6, s7, s8, s9, s10, s11, s12, s13, s14, s15] := by simp [g2]
  have main : lp_law_0 [.d (.scr ns), .own o, .d (.int t), s3, s4, s5, s6, s7, s8, s9, s10, s11, s12, s13, s14, s15] = some (.nx [.d (.scr ns), .own o5, .d (.int t), .d (.int a), .d (.int b), .d (.int c), .d (.int d), .d (.tup [.int p, .int q]), .d (.tup [.int r, .int s]), .d (.int p), .d (.int q), .d (.int r), .d (.int s), .d (.int (p.fdiv q)), .d (.int (-((-p).fdiv q))), .d (.int ((Nat.gcd a.natAbs c.natAbs : Nat) : Int))]) := by
    unfold lp_law_0
    refine (sSeq_nx (e := [.d (.scr ns), .own o1, .d (.int t), .d (.int a), s4, s5, s6, s7, s8, s9, s10, s11, s12, s13, s14, s15]) (by simp [n1, g3])).trans ?_
    refine (sSeq_nx (e := [.d (.scr ns), .own o3, .d (.int t), .d (.int a), .d (.int b1), s5, s6, s7, s8, s9, s10, s11, s12, s13, s14, s15]) (by by_cases h : r3 = 0 <;> simp [n2, n3, g4, h, hb1, most])).trans ?_
    refine (sSeq_nx (e := [.d (.scr ns), .own o3, .d (.int t), .d (.int a), .d (.int b), s5, s6, s7, s8, s9, s10, s11, s12, s13, s14, s15]) (by by_cases h : b1 = 0 <;> simp [h, hb])).trans ?_
    refine (sSeq_nx (e := [.d (.scr ns), .own o4, .d (.int t), .d (.int a), .d (.int b), .d (.int c), s6, s7, s8, s9, s10, s11, s12, s13, s14, s15]) (by simp [n4, g5])).trans ?_
    refine (sSeq_nx (e := [.d (.scr ns), .own o5, .d (.int t), .d (.int a), .d (.int b), .d (.int c), .d (.int d), s7, s8, s9, s10, s11, s12, s13, s14, s15]) (by simp [n5, g6, hd])).trans ?_
    refine (sSeq_nx (e := [.d (.scr ns), .own o5, .d (.int t), .d (.int a), .d (.int b), .d (.int c), .d (.int d), .d (.tup [.int p, .int q]), s8, s9, s10, s11, s12, s13, s14, s15]) (by simp [m1, g7])).trans ?_
    refine (sSeq_nx (e := [.d (.scr ns), .own o5, .d (.int t), .d (.int a), .d (.int b), .d (.int c), .d (.int d), .d (.tup [.int p, .int q]), .d (.tup [.int r, .int s]), s9, s10, s11, s12, s13, s14, s15]) (by simp [m2, g8])).trans ?_
    refine (sSeq_nx (e := [.d (.scr ns), .own o5, .d (.int t), .d (.int a), .d (.int b), .d (.int c), .d (.int d), .d (.tup [.int p, .int q]), .d (.tup [.int r, .int s]), s9, s10, s11, s12, s13, s14, s15]) (by simp [i1, i2])).trans ?_
    refine (sSeq_nx (e := [.d (.scr ns), .own o5, .d (.int t), .d (.int a), .d (.int b), .d (.int c), .d (.int d), .d (.tup [.int p, .int q]), .d (.tup [.int r, .int s]), .d (.int p), .d (.int q), s11, s12, s13, s14, s15]) (by simp [g9, g10])).trans ?_
    refine (sSeq_nx (e := [.d (.scr ns), .own o5, .d (.int t), .d (.int a), .d (.int b), .d (.int c), .d (.int d), .d (.tup [.int p, .int q]), .d (.tup [.int r, .int s]), .d (.int p), .d (.int q), .d (.int r), .d (.int s), s13, s14, s15]) (by simp [g11, g12])).trans ?_
    refine (sSeq_nx (e := [.d (.scr ns), .own o5, .d (.int t), .d (.int a), .d (.int b), .d (.int c), .d (.int d), .d (.tup [.int p, .int q]), .d (.tup [.int r, .int s]), .d (.int p), .d (.int q), .d (.int r), .d (.int s), s13, s14, s15]) (by simp [ad, tk, j1, j2, sp, sq, sr, ss])).trans ?_
    refine (sSeq_nx (e := [.d (.scr ns), .own o5, .d (.int t), .d (.int a), .d (.int b), .d (.int c), .d (.int d), .d (.tup [.int p, .int q]), .d (.tup [.int r, .int s]), .d (.int p), .d (.int q), .d (.int r), .d (.int s), s13, s14, s15]) (by simp [tm, j3, il, sp, sq, sr, ss])).trans ?_
    refine (sSeq_nx (e := [.d (.scr ns), .own o5, .d (.int t), .d (.int a), .d (.int b), .d (.int c), .d (.int d), .d (.tup [.int p, .int q]), .d (.tup [.int r, .int s]), .d (.int p), .d (.int q), .d (.int r), .d (.int s), s13, s14, s15]) ?_).trans ?_
    · by_cases hr : r = 0
      · simp [hr]
      · obtain ⟨x, y, k, j⟩ := dv hr
        simp [hr, k, j, sp, sq, sr, ss]
    refine (sSeq_nx (e := [.d (.scr ns), .own o5, .d (.int t), .d (.int a), .d (.int b), .d (.int c), .d (.int d), .d (.tup [.int p, .int q]), .d (.tup [.int r, .int s]), .d (.int p), .d (.int q), .d (.int r), .d (.int s), .d (.int (p.fdiv q)), s14, s15]) (by simp [fl, g13])).trans ?_
    refine (sSeq_nx (e := [.d (.scr ns), .own o5, .d (.int t), .d (.int a), .d (.int b), .d (.int c), .d (.int d), .d (.tup [.int p, .int q]), .d (.tup [.int r, .int s]), .d (.int p), .d (.int q), .d (.int r), .d (.int s), .d (.int (p.fdiv q)), .d (.int (-((-p).fdiv q))), s15]) (by simp [ce, g14])).trans ?_
    refine (sSeq_nx (e := [.d (.scr ns), .own o5, .d (.int t), .d (.int a), .d (.int b), .d (.int c), .d (.int d), .d (.tup [.int p, .int q]), .d (.tup [.int r, .int s]), .d (.int p), .d (.int q), .d (.int r), .d (.int s), .d (.int (p.fdiv q)), .d (.int (-((-p).fdiv q))), s15]) (by simp [sq, fl1, fl2, ce1, ce2])).trans ?_
    refine (sSeq_nx (e := [.d (.scr ns), .own o5, .d (.int t), .d (.int a), .d (.int b), .d (.int c), .d (.int d), .d (.tup [.int p, .int q]), .d (.tup [.int r, .int s]), .d (.int p), .d (.int q), .d (.int r), .d (.int s), .d (.int (p.fdiv q)), .d (.int (-((-p).fdiv q))), .d (.int ((Nat.gcd a.natAbs c.natAbs : Nat) : Int))]) (by simp [gcd_ok, g15])).trans ?_
    by_cases hz : a = 0 ∧ c = 0
    · obtain ⟨rfl, rfl⟩ := hz
      simp
    · have hg : 0 < Nat.gcd a.natAbs c.natAbs := by
        by_cases ha : a = 0
        · exact Nat.gcd_pos_of_pos_right _ (by omega)
        · exact Nat.gcd_pos_of_pos_left _ (by omega)
      have hgs : Nat.gcd a.natAbs c.natAbs < 600000000 := by
        by_cases ha : a = 0
        · have := Nat.gcd_le_right a.natAbs (show 0 < c.natAbs by omega); omega
        · have := Nat.gcd_le_left c.natAbs (show 0 < a.natAbs by omega); omega
      have d1 : ((Nat.gcd a.natAbs c.natAbs : Nat) : Int) ∣ a := by
        rw [← Int.natAbs_dvd_natAbs]; exact Nat.gcd_dvd_left _ _
      have d2 : ((Nat.gcd a.natAbs c.natAbs : Nat) : Int) ∣ c := by
        rw [← Int.natAbs_dvd_natAbs]; exact Nat.gcd_dvd_right _ _
      have q1 := Int.fdiv_mul_cancel d1
      have q2 := Int.fdiv_mul_cancel d2
      generalize Nat.gcd a.natAbs c.natAbs = g at hg hgs q1 q2 ⊢
      have v1 : divOk (g : Int) = true := divOk_of (by omega) (by omega)
      have v2 : smallI (g : Int) = true := smallI_of (by omega) (by omega)
      have v3 : ¬ (g : Int) < 0 := by omega
      have v4 : (0 : Int) < g := by omega
      have v5 : ¬ (g : Int) = 0 := by omega
      have v6 : ¬ g = 0 := by omega
      have v7 : ((g : Int) == 0) = false := by simp; omega
      by_cases ha : a = 0
      · have hc : ¬ c = 0 := fun h => hz ⟨ha, h⟩
        simp [v1, v2, v3, v4, v5, v6, v7, q1, q2, ha, hc]
      · simp [v1, v2, v3, v4, v5, v6, v7, q1, q2, ha]
  refine ⟨[.d (.scr ns), .own o5, .d (.int t), .d (.int a), .d (.int b), .d (.int c), .d (.int d), .d (.tup [.int p, .int q]), .d (.tup [.int r, .int s]), .d (.int p), .d (.int q), .d (.int r), .d (.int s), .d (.int (p.fdiv q)), .d (.int (-((-p).fdiv q))), .d (.int ((Nat.gcd a.natAbs c.natAbs : Nat) : Int))], ?_, o5, .d (.int t), .d (.int a), .d (.int b), .d (.int c), .d (.int d), .d (.tup [.int p, .int q]), .d (.tup [.int r, .int s]), .d (.int p), .d (.int q), .d (.int r), .d (.int s), .d (.int (p.fdiv q)), .d (.int (-((-p).fdiv q))), .d (.int ((Nat.gcd a.natAbs c.natAbs : Nat) : Int)), rfl, h5, rfl, rfl, rfl, rfl, rfl, rfl, rfl, rfl, rfl, rfl, rfl, rfl, rfl, rfl⟩
  rw [e0]
  exact main
theorem law_true (ns : List Int) (hl : ns.length ≤ 63) : rv_law [.scr ns] = some (.bl true) := by
  obtain ⟨ds, hd, hdl⟩ := digits_ok ns
  obtain ⟨e, k1, o, s2, s3, s4, s5, s6, s7, s8, s9, s10, s11, s12, s13, s14, s15, rfl, _⟩ := loop_range (lo := 0) (n := 6) (g := gN 2) (b := lp_law_0) (fun _ env => LawP ns env) (env := [.d (.scr ns), .own (.l [.lst (ds.map .int), .int 0]), .un, .un, .un, .un, .un, .un, .un, .un, .un, .un, .un, .un, .un, .un])
    ⟨_, .un, .un, .un, .un, .un, .un, .un, .un, .un, .un, .un, .un, .un, .un, rfl, ⟨ds, 0, rfl, by omega⟩, rfl, rfl, rfl, rfl, rfl, rfl, rfl, rfl, rfl, rfl, rfl, rfl, rfl, rfl⟩ (fun j hj env hP => turn_ok _ hP)
  simp [rv_law, ev_law, hd, k1, gcd_ok, List.replicate, most]
end K00

set_option Elab.async false
set_option linter.all false
set_option maxRecDepth 100000
set_option maxHeartbeats 4000000
namespace K00
open PySem PySem.Spec PyProof.Rows L2 DL
/-! ### the law's own head -/
theorem all_mk {l : PySem.W.OpenLaw} {w : World} {K : Fg} {h : Heap} {mg : Str → Option Value} {fa f1 f2 f3 f4 f5 f6 f7 f8 f9 f10 f11 f12 f13 f14 f15 : Addr} (X : K.In h) (G : h.Ns mainGlobals mg) (hfa : mg "law" = some (.ref fa))
    {od1 an1 od2 an2 od3 an3 od4 an4 od5 an5 od6 an6 od7 an7 od8 an8 od9 an9 od10 an10 od11 an11 od12 an12 od13 an13 od14 an14 od15 an15 : Option Addr} {sl1 sl2 sl3 sl4 sl5 sl6 sl7 sl8 sl9 sl10 sl11 sl12 sl13 sl14 sl15 : Array (Option Value)} {oc1 kV1 dc1 pm1 cd1 ct1 oc2 kV2 dc2 pm2 cd2 ct2 oc3 kV3 dc3 pm3 cd3 ct3 oc4 kV4 dc4 pm4 cd4 ct4 oc5 kV5 dc5 pm5 cd5 ct5 oc6 kV6 dc6 pm6 cd6 ct6 oc7 kV7 dc7 pm7 cd7 ct7 oc8 kV8 dc8 pm8 cd8 ct8 oc9 kV9 dc9 pm9 cd9 ct9 oc10 kV10 dc10 pm10 cd10 ct10 oc11 kV11 dc11 pm11 cd11 ct11 oc12 kV12 dc12 pm12 cd12 ct12 oc13 kV13 dc13 pm13 cd13 ct13 oc14 kV14 dc14 pm14 cd14 ct14 oc15 kV15 dc15 pm15 cd15 ct15 : Value}
    (a1 : PySem.W.nsIn K mainGlobals "common_divisor" = some (some (.ref f1))) (l1 : K.lookup f1 = some ⟨oc1, od1, .func (PySem.W.fnOf "common_divisor" "common_divisor" (defArgs s_common_divisor) (defBody s_common_divisor) (defScope s_common_divisor) .none kV1 dc1 pm1 an1 cd1 ct1), sl1⟩) (c1 : PySem.W.codeIn K cd1 "common_divisor" = true) (k1 : PySem.W.keepIn K (.ref f1) = true)
    (a2 : PySem.W.nsIn K mainGlobals "made" = some (some (.ref f2))) (l2 : K.lookup f2 = some ⟨oc2, od2, .func (PySem.W.fnOf "made" "made" (defArgs s_made) (defBody s_made) (defScope s_made) .none kV2 dc2 pm2 an2 cd2 ct2), sl2⟩) (c2 : PySem.W.codeIn K cd2 "made" = true) (k2 : PySem.W.keepIn K (.ref f2) = true)
    (a3 : PySem.W.nsIn K mainGlobals "added" = some (some (.ref f3))) (l3 : K.lookup f3 = some ⟨oc3, od3, .func (PySem.W.fnOf "added" "added" (defArgs s_added) (defBody s_added) (defScope s_added) .none kV3 dc3 pm3 an3 cd3 ct3), sl3⟩) (c3 : PySem.W.codeIn K cd3 "added" = true) (k3 : PySem.W.keepIn K (.ref f3) = true)
    (a4 : PySem.W.nsIn K mainGlobals "taken" = some (some (.ref f4))) (l4 : K.lookup f4 = some ⟨oc4, od4, .func (PySem.W.fnOf "taken" "taken" (defArgs s_taken) (defBody s_taken) (defScope s_taken) .none kV4 dc4 pm4 an4 cd4 ct4), sl4⟩) (c4 : PySem.W.codeIn K cd4 "taken" = true) (k4 : PySem.W.keepIn K (.ref f4) = true)
    (a5 : PySem.W.nsIn K mainGlobals "times" = some (some (.ref f5))) (l5 : K.lookup f5 = some ⟨oc5, od5, .func (PySem.W.fnOf "times" "times" (defArgs s_times) (defBody s_times) (defScope s_times) .none kV5 dc5 pm5 an5 cd5 ct5), sl5⟩) (c5 : PySem.W.codeIn K cd5 "times" = true) (k5 : PySem.W.keepIn K (.ref f5) = true)
    (a6 : PySem.W.nsIn K mainGlobals "divided" = some (some (.ref f6))) (l6 : K.lookup f6 = some ⟨oc6, od6, .func (PySem.W.fnOf "divided" "divided" (defArgs s_divided) (defBody s_divided) (defScope s_divided) .none kV6 dc6 pm6 an6 cd6 ct6), sl6⟩) (c6 : PySem.W.codeIn K cd6 "divided" = true) (k6 : PySem.W.keepIn K (.ref f6) = true)
    (a7 : PySem.W.nsIn K mainGlobals "is_less" = some (some (.ref f7))) (l7 : K.lookup f7 = some ⟨oc7, od7, .func (PySem.W.fnOf "is_less" "is_less" (defArgs s_is_less) (defBody s_is_less) (defScope s_is_less) .none kV7 dc7 pm7 an7 cd7 ct7), sl7⟩) (c7 : PySem.W.codeIn K cd7 "is_less" = true) (k7 : PySem.W.keepIn K (.ref f7) = true)
    (a8 : PySem.W.nsIn K mainGlobals "floor_of" = some (some (.ref f8))) (l8 : K.lookup f8 = some ⟨oc8, od8, .func (PySem.W.fnOf "floor_of" "floor_of" (defArgs s_floor_of) (defBody s_floor_of) (defScope s_floor_of) .none kV8 dc8 pm8 an8 cd8 ct8), sl8⟩) (c8 : PySem.W.codeIn K cd8 "floor_of" = true) (k8 : PySem.W.keepIn K (.ref f8) = true)
    (a9 : PySem.W.nsIn K mainGlobals "ceiling_of" = some (some (.ref f9))) (l9 : K.lookup f9 = some ⟨oc9, od9, .func (PySem.W.fnOf "ceiling_of" "ceiling_of" (defArgs s_ceiling_of) (defBody s_ceiling_of) (defScope s_ceiling_of) .none kV9 dc9 pm9 an9 cd9 ct9), sl9⟩) (c9 : PySem.W.codeIn K cd9 "ceiling_of" = true) (k9 : PySem.W.keepIn K (.ref f9) = true)
    (a10 : PySem.W.nsIn K mainGlobals "_law_cell" = some (some (.ref f10))) (l10 : K.lookup f10 = some ⟨oc10, od10, .func (PySem.W.fnOf "_law_cell" "_law_cell" (defArgs s_l_cell) (defBody s_l_cell) (defScope s_l_cell) .none kV10 dc10 pm10 an10 cd10 ct10), sl10⟩) (c10 : PySem.W.codeIn K cd10 "_law_cell" = true) (k10 : PySem.W.keepIn K (.ref f10) = true)
    (a11 : PySem.W.nsIn K mainGlobals "_law_digits" = some (some (.ref f11))) (l11 : K.lookup f11 = some ⟨oc11, od11, .func (PySem.W.fnOf "_law_digits" "_law_digits" (defArgs s_l_digits) (defBody s_l_digits) (defScope s_l_digits) .none kV11 dc11 pm11 an11 cd11 ct11), sl11⟩) (c11 : PySem.W.codeIn K cd11 "_law_digits" = true) (k11 : PySem.W.keepIn K (.ref f11) = true)
    (a12 : PySem.W.nsIn K mainGlobals "_law_draw" = some (some (.ref f12))) (l12 : K.lookup f12 = some ⟨oc12, od12, .func (PySem.W.fnOf "_law_draw" "_law_draw" (defArgs s_l_draw) (defBody s_l_draw) (defScope s_l_draw) .none kV12 dc12 pm12 an12 cd12 ct12), sl12⟩) (c12 : PySem.W.codeIn K cd12 "_law_draw" = true) (k12 : PySem.W.keepIn K (.ref f12) = true)
    (a13 : PySem.W.nsIn K mainGlobals "_law_number" = some (some (.ref f13))) (l13 : K.lookup f13 = some ⟨oc13, od13, .func (PySem.W.fnOf "_law_number" "_law_number" (defArgs s_l_number) (defBody s_l_number) (defScope s_l_number) .none kV13 dc13 pm13 an13 cd13 ct13), sl13⟩) (c13 : PySem.W.codeIn K cd13 "_law_number" = true) (k13 : PySem.W.keepIn K (.ref f13) = true)
    (a14 : PySem.W.nsIn K mainGlobals "_law_is" = some (some (.ref f14))) (l14 : K.lookup f14 = some ⟨oc14, od14, .func (PySem.W.fnOf "_law_is" "_law_is" (defArgs s_l_is) (defBody s_l_is) (defScope s_l_is) .none kV14 dc14 pm14 an14 cd14 ct14), sl14⟩) (c14 : PySem.W.codeIn K cd14 "_law_is" = true) (k14 : PySem.W.keepIn K (.ref f14) = true)
    (a15 : PySem.W.nsIn K mainGlobals "law" = some (some (.ref f15))) (l15 : K.lookup f15 = some ⟨oc15, od15, .func (PySem.W.fnOf "law" "law" (defArgs s_law) (defBody s_law) (defScope s_law) .none kV15 dc15 pm15 an15 cd15 ct15), sl15⟩) (c15 : PySem.W.codeIn K cd15 "law" = true) (k15 : PySem.W.keepIn K (.ref f15) = true)
    (z_abs : PySem.W.nsIn K mainGlobals "abs" = some none)
    (z_int : PySem.W.nsIn K mainGlobals "int" = some none)
    (z_isinstance : PySem.W.nsIn K mainGlobals "isinstance" = some none)
    (z_len : PySem.W.nsIn K mainGlobals "len" = some none)
    (z_range : PySem.W.nsIn K mainGlobals "range" = some none)
    (z_tuple : PySem.W.nsIn K mainGlobals "tuple" = some none)
    (m_gcd : PySem.W.nsIn K mainGlobals "gcd" = some (some (.builtin "math.gcd")))
    (ht : ∀ ns : List Int, ns.length ≤ 63 → rv_law [.scr ns] = some (.bl true)) :
    ∃ fd : FuncData, (∀ (s : Shared) (v : Value), BindsTo s fd ⟨[v], []⟩ [("script", v)]) ∧ ∀ base : Heap, K.In base → base.Ns mainGlobals mg → FnOk l.prog w K mg base CX0 4 fa fd ["script"] (spLaw K) := by
  have e := hfa.symm.trans (PySem.W.mg_of X G a15)
  cases e
  have F1 := fun_mk (st := s_common_divisor) l1 c1 k1
  have b1 := F1.binds (ps := ["first", "second"]) fun _ _ _ _ _ _ us hl => match us, hl with | [_, _], _ => rfl
  have F2 := fun_mk (st := s_made) l2 c2 k2
  have b2 := F2.binds (ps := ["top", "bottom"]) fun _ _ _ _ _ _ us hl => match us, hl with | [_, _], _ => rfl
  have F3 := fun_mk (st := s_added) l3 c3 k3
  have b3 := F3.binds (ps := ["first", "second"]) fun _ _ _ _ _ _ us hl => match us, hl with | [_, _], _ => rfl
  have F4 := fun_mk (st := s_taken) l4 c4 k4
  have b4 := F4.binds (ps := ["first", "second"]) fun _ _ _ _ _ _ us hl => match us, hl with | [_, _], _ => rfl
  have F5 := fun_mk (st := s_times) l5 c5 k5
  have b5 := F5.binds (ps := ["first", "second"]) fun _ _ _ _ _ _ us hl => match us, hl with | [_, _], _ => rfl
  have F6 := fun_mk (st := s_divided) l6 c6 k6
  have b6 := F6.binds (ps := ["first", "second"]) fun _ _ _ _ _ _ us hl => match us, hl with | [_, _], _ => rfl
  have F7 := fun_mk (st := s_is_less) l7 c7 k7
  have b7 := F7.binds (ps := ["first", "second"]) fun _ _ _ _ _ _ us hl => match us, hl with | [_, _], _ => rfl
  have F8 := fun_mk (st := s_floor_of) l8 c8 k8
  have b8 := F8.binds (ps := ["one"]) fun _ _ _ _ _ _ us hl => match us, hl with | [_], _ => rfl
  have F9 := fun_mk (st := s_ceiling_of) l9 c9 k9
  have b9 := F9.binds (ps := ["one"]) fun _ _ _ _ _ _ us hl => match us, hl with | [_], _ => rfl
  have F10 := fun_mk (st := s_l_cell) l10 c10 k10
  have b10 := F10.binds (ps := ["script", "k"]) fun _ _ _ _ _ _ us hl => match us, hl with | [_, _], _ => rfl
  have F11 := fun_mk (st := s_l_digits) l11 c11 k11
  have b11 := F11.binds (ps := ["script", "first", "last"]) fun _ _ _ _ _ _ us hl => match us, hl with | [_, _, _], _ => rfl
  have F12 := fun_mk (st := s_l_draw) l12 c12 k12
  have b12 := F12.binds (ps := ["box", "many"]) fun _ _ _ _ _ _ us hl => match us, hl with | [_, _], _ => rfl
  have F13 := fun_mk (st := s_l_number) l13 c13 k13
  have b13 := F13.binds (ps := ["box"]) fun _ _ _ _ _ _ us hl => match us, hl with | [_], _ => rfl
  have F14 := fun_mk (st := s_l_is) l14 c14 k14
  have b14 := F14.binds (ps := ["told", "top", "bottom"]) fun _ _ _ _ _ _ us hl => match us, hl with | [_, _, _], _ => rfl
  have F15 := fun_mk (st := s_law) l15 c15 k15
  have b15 := F15.binds (ps := ["script"]) fun _ _ _ _ _ _ us hl => match us, hl with | [_], _ => rfl
  let T : Tx K mg := ⟨_, _, F1, b1, PySem.W.mg_of X G a1, _, _, F2, b2, PySem.W.mg_of X G a2, _, _, F3, b3, PySem.W.mg_of X G a3, _, _, F4, b4, PySem.W.mg_of X G a4, _, _, F5, b5, PySem.W.mg_of X G a5, _, _, F6, b6, PySem.W.mg_of X G a6, _, _, F7, b7, PySem.W.mg_of X G a7, _, _, F8, b8, PySem.W.mg_of X G a8, _, _, F9, b9, PySem.W.mg_of X G a9, _, _, F10, b10, PySem.W.mg_of X G a10, _, _, F11, b11, PySem.W.mg_of X G a11, _, _, F12, b12, PySem.W.mg_of X G a12, _, _, F13, b13, PySem.W.mg_of X G a13, _, _, F14, b14, PySem.W.mg_of X G a14, _, _, F15, b15, PySem.W.mg_of X G a15, PySem.W.mg_none_of X G z_abs, PySem.W.mg_none_of X G z_int, PySem.W.mg_none_of X G z_isinstance, PySem.W.mg_none_of X G z_len, PySem.W.mg_none_of X G z_range, PySem.W.mg_none_of X G z_tuple, PySem.W.mg_of X G m_gcd⟩
  exact ⟨_, fun s v => .of_eq rfl, fun base _ _ => law_of ht (ok_law (cl := fun _ => 0) T)⟩
end K00
open PySem PySem.W PyProof.Rows
set_option maxRecDepth 100000 in
set_option maxHeartbeats 0 in
theorem PySem.Challenge.cw_millrolls_k00_fractions_holds : PySem.Challenge.rw_millrolls_k00_fractions.Holds := by
  w_on; o_law; k_head; (case hw => w_witness2)
  k_fill
  refine L2.walk_of (l := PySem.Challenge.rw_millrolls_k00_fractions) (n := 63) (k := 4) (x := "script") (CX := fun _ => L2.CX0) (sp := fun w => DL.spLaw _) rfl (by decide) rfl ⟨rfl, by decide, by decide⟩ (fun w h Y => PySem.W.kIn_of Y) ?F (fun _ _ a ns hl _ hS => ⟨a, ns, rfl, hS, hl, fun _ => rfl⟩) (fun _ _ _ _ _ h => h)
  case F =>
    intro w mg fa h KX G hmg
    refine' K00.all_mk KX G hmg ?a1 ?l1 ?c1 ?k1 ?a2 ?l2 ?c2 ?k2 ?a3 ?l3 ?c3 ?k3 ?a4 ?l4 ?c4 ?k4 ?a5 ?l5 ?c5 ?k5 ?a6 ?l6 ?c6 ?k6 ?a7 ?l7 ?c7 ?k7 ?a8 ?l8 ?c8 ?k8 ?a9 ?l9 ?c9 ?k9 ?a10 ?l10 ?c10 ?k10 ?a11 ?l11 ?c11 ?k11 ?a12 ?l12 ?c12 ?k12 ?a13 ?l13 ?c13 ?k13 ?a14 ?l14 ?c14 ?k14 ?a15 ?l15 ?c15 ?k15 ?z_abs ?z_int ?z_isinstance ?z_len ?z_range ?z_tuple ?m_gcd K00.law_true
    (case a1 => k_is); (case l1 => k_is); (case c1 => k_is); (case k1 => k_is); (case a2 => k_is); (case l2 => k_is); (case c2 => k_is); (case k2 => k_is); (case a3 => k_is); (case l3 => k_is); (case c3 => k_is); (case k3 => k_is); (case a4 => k_is); (case l4 => k_is); (case c4 => k_is); (case k4 => k_is); (case a5 => k_is); (case l5 => k_is); (case c5 => k_is); (case k5 => k_is); (case a6 => k_is); (case l6 => k_is); (case c6 => k_is); (case k6 => k_is); (case a7 => k_is); (case l7 => k_is); (case c7 => k_is); (case k7 => k_is); (case a8 => k_is); (case l8 => k_is); (case c8 => k_is); (case k8 => k_is); (case a9 => k_is); (case l9 => k_is); (case c9 => k_is); (case k9 => k_is); (case a10 => k_is); (case l10 => k_is); (case c10 => k_is); (case k10 => k_is); (case a11 => k_is); (case l11 => k_is); (case c11 => k_is); (case k11 => k_is); (case a12 => k_is); (case l12 => k_is); (case c12 => k_is); (case k12 => k_is); (case a13 => k_is); (case l13 => k_is); (case c13 => k_is); (case k13 => k_is); (case a14 => k_is); (case l14 => k_is); (case c14 => k_is); (case k14 => k_is); (case a15 => k_is); (case l15 => k_is); (case c15 => k_is); (case k15 => k_is); (case z_abs => k_is); (case z_int => k_is); (case z_isinstance => k_is); (case z_len => k_is); (case z_range => k_is); (case z_tuple => k_is); (case m_gcd => k_is)
