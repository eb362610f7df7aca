import PyProof.Rows.All
import Wide.All
import OpenK.AllK
import Wide.FinOn
import HandS.ForMost
import HandS.Wide
import HandS.Gcd
import HandS.IsInst
import HandS.TupAny
import HandS.Style
import HandS.Zip
import HandS.TupMul
import HandS.Deep
import PySem.Challenge.RW_millrolls_k01_bounds_of_mills
set_option Elab.async false
set_option linter.all false
set_option maxRecDepth 100000
set_option maxHeartbeats 4000000
/-! A layer over the hand layer: pure evaluators over data, with slots that own a list, and what ties them to readings. -/
namespace DL
open PySem PySem.Spec PyProof.Rows L2

abbrev Fg := PySem.W.Frag
/-- data without addresses -/
inductive Dt where
  | non | bl (b : Bool) | int (i : Int) | str (x : Str) | lst (ds : List Dt) | tup (ds : List Dt) | ins (c : Nat) (ns : List Str) (ds : List Dt) | scr (ns : List Int)
mutual
inductive Rp (K : Fg) (cl : Nat → Addr) (H : Hp) : V → Dt → Prop
  | non : Rp K cl H .non .non
  | bl (b : Bool) : Rp K cl H (.bl b) (.bl b)
  | int (i : Int) : Rp K cl H (.int i) (.int i)
  | str (x : Str) : Rp K cl H (.str x) (.str x)
  | lst {a : Addr} {xs : List V} {ds : List Dt} : H a = some (.lst xs) → RpA K cl H xs ds → Rp K cl H (.ref a) (.lst ds)
  | tup {a : Addr} {xs : List V} {ds : List Dt} : SqT K H a xs → RpA K cl H xs ds → Rp K cl H (.ref a) (.tup ds)
  | ins {a dx : Addr} {fs : List (Str × V)} {c : Nat} {ns : List Str} {ds : List Dt} : H a = some (.ins (cl c) dx fs) → fs.map (·.1) = ns → RpA K cl H (fs.map (·.2)) ds → Rp K cl H (.ref a) (.ins c ns ds)
  | scr {a : Addr} {ns : List Int} : SqL K H a (ns.map V.int) → Rp K cl H (.ref a) (.scr ns)
inductive RpA (K : Fg) (cl : Nat → Addr) (H : Hp) : List V → List Dt → Prop
  | nil : RpA K cl H [] []
  | cons {v : V} {vs : List V} {d : Dt} {ds : List Dt} : Rp K cl H v d → RpA K cl H vs ds → RpA K cl H (v :: vs) (d :: ds)
end
variable {K : Fg} {cl : Nat → Addr}
theorem same_t {H H' : Hp} {a : Addr} {xs : List V} (e : Same H H') (h : SqT K H a xs) : SqT K H' a xs := by
  rcases h with (h | ⟨o, h⟩) | h
  · exact .inl (.inl (e _ _ h))
  · exact .inl (.inr ⟨o, e _ _ h⟩)
  · exact .inr h
mutual
theorem Rp.mono {H H' : Hp} (e : Same H H') : ∀ (d : Dt) (v : V), Rp K cl H v d → Rp K cl H' v d
  | .non, _, h => by cases h; exact .non
  | .bl _, _, h => by cases h; exact .bl _
  | .int _, _, h => by cases h; exact .int _
  | .str _, _, h => by cases h; exact .str _
  | .lst ds, _, h => by cases h with | lst h1 h2 => exact .lst (e _ _ h1) (RpA.mono e ds _ h2)
  | .tup ds, _, h => by cases h with | tup h1 h2 => exact .tup (same_t e h1) (RpA.mono e ds _ h2)
  | .ins _ _ ds, _, h => by cases h with | ins h1 h2 h3 => exact .ins (e _ _ h1) h2 (RpA.mono e ds _ h3)
  | .scr _, _, h => by cases h with | scr h1 => exact .scr (e.seq h1)
theorem RpA.mono {H H' : Hp} (e : Same H H') : ∀ (ds : List Dt) (vs : List V), RpA K cl H vs ds → RpA K cl H' vs ds
  | [], _, h => by cases h; exact .nil
  | d :: ds, _, h => by cases h with | cons h1 h2 => exact .cons (Rp.mono e d _ h1) (RpA.mono e ds _ h2)
end
theorem RpA.length {H : Hp} : ∀ {vs : List V} {ds : List Dt}, RpA K cl H vs ds → vs.length = ds.length
  | _, _, .nil => rfl
  | _, _, .cons _ h => congrArg (· + 1) (RpA.length h)
theorem RpA.get {H : Hp} : ∀ {vs : List V} {ds : List Dt} {i : Nat} {d : Dt}, RpA K cl H vs ds → ds[i]? = some d → ∃ v, vs[i]? = some v ∧ Rp K cl H v d
  | _, _, _, _, .nil, e => by simp at e
  | _, _, 0, _, .cons h _, e => by
    simp at e
    subst e
    exact ⟨_, rfl, h⟩
  | _, _, i + 1, _, .cons _ h, e => by
    obtain ⟨v, h1, h2⟩ := RpA.get (i := i) h (by simpa using e)
    exact ⟨v, by simpa using h1, h2⟩
theorem RpA.get' {H : Hp} {vs : List V} {ds : List Dt} {i : Nat} {v : V} (h : RpA K cl H vs ds) (e : vs[i]? = some v) : ∃ d, ds[i]? = some d ∧ Rp K cl H v d := by
  have hl := h.length
  obtain ⟨h1, h2⟩ := List.getElem?_eq_some_iff.mp e
  obtain ⟨v', e', r⟩ := h.get (List.getElem?_eq_getElem (show i < ds.length by omega))
  rw [e] at e'
  cases e'
  exact ⟨_, List.getElem?_eq_getElem _, r⟩
theorem RpA.append {H : Hp} : ∀ {vs ws : List V} {ds es : List Dt}, RpA K cl H vs ds → RpA K cl H ws es → RpA K cl H (vs ++ ws) (ds ++ es)
  | _, _, _, _, .nil, h => h
  | _, _, _, _, .cons a b, h => .cons a (RpA.append b h)
theorem RpA.set {H : Hp} {v : V} {d : Dt} (r : Rp K cl H v d) : ∀ {vs : List V} {ds : List Dt} (i : Nat), RpA K cl H vs ds → RpA K cl H (vs.set i v) (ds.set i d)
  | _, _, _, .nil => .nil
  | _, _, 0, .cons _ b => .cons r b
  | _, _, i + 1, .cons a b => .cons a (RpA.set r i b)
theorem RpA.take {H : Hp} : ∀ {vs : List V} {ds : List Dt} (n : Nat), RpA K cl H vs ds → RpA K cl H (vs.take n) (ds.take n)
  | _, _, 0, _ => .nil
  | _, _, _ + 1, .nil => .nil
  | _, _, n + 1, .cons a b => .cons a (RpA.take n b)
theorem RpA.drop {H : Hp} : ∀ {vs : List V} {ds : List Dt} (n : Nat), RpA K cl H vs ds → RpA K cl H (vs.drop n) (ds.drop n)
  | _, _, 0, h => h
  | _, _, _ + 1, .nil => .nil
  | _, _, n + 1, .cons _ b => RpA.drop n b
theorem RpA.reverse {H : Hp} : ∀ {vs : List V} {ds : List Dt}, RpA K cl H vs ds → RpA K cl H vs.reverse ds.reverse
  | _, _, .nil => .nil
  | _, _, .cons a b => by
    rw [List.reverse_cons, List.reverse_cons]
    exact RpA.append (RpA.reverse b) (.cons a .nil)
theorem RpA.ints {H : Hp} : ∀ {vs : List V} {ns : List Int}, RpA K cl H vs (ns.map Dt.int) → vs = ns.map V.int
  | _, [], h => by cases h; rfl
  | _, n :: ns, h => by
    cases h with
    | cons h1 h2 =>
      cases h1
      rw [RpA.ints h2]
      rfl
theorem RpA.bls {H : Hp} : ∀ {vs : List V} {ns : List Bool}, RpA K cl H vs (ns.map Dt.bl) → vs = ns.map V.bl
  | _, [], h => by cases h; rfl
  | _, n :: ns, h => by
    cases h with
    | cons h1 h2 =>
      cases h1
      rw [RpA.bls h2]
      rfl
theorem RpA.ofInts {H : Hp} : ∀ (ns : List Int), RpA K cl H (ns.map V.int) (ns.map Dt.int)
  | [] => .nil
  | n :: ns => .cons (.int n) (RpA.ofInts ns)

/-! ### heaps with a part hidden -/
open Classical in
noncomputable def hd (M : Addr → Prop) (H : Hp) : Hp := fun a => if M a then none else H a
theorem hd_in {M : Addr → Prop} {H : Hp} {a : Addr} (h : M a) : hd M H a = none := by unfold hd; rw [if_pos h]
theorem hd_out {M : Addr → Prop} {H : Hp} {a : Addr} (h : ¬ M a) : hd M H a = H a := by unfold hd; rw [if_neg h]
theorem of_hd {M : Addr → Prop} {H : Hp} {a : Addr} {o : HO} (h : hd M H a = some o) : ¬ M a ∧ H a = some o := by
  by_cases hm : M a
  · rw [hd_in hm] at h; cases h
  · rw [hd_out hm] at h; exact ⟨hm, h⟩
theorem hd_same {M : Addr → Prop} {H : Hp} : Same (hd M H) H := fun a o h => (of_hd h).2
theorem hd_mono {M M' : Addr → Prop} {H H' : Hp} (hm : ∀ a, H a ≠ none → M' a → M a) (e : Same H H') : Same (hd M H) (hd M' H') := fun a o h => by
  obtain ⟨h1, h2⟩ := of_hd h
  rw [hd_out (fun z => h1 (hm a (by rw [h2]; simp) z))]
  exact e a o h2

/-! ### slots -/
/-- what an owned object holds -/
inductive Oc where
  | l (ds : List Dt)
  | t (kvs : List (List Key × Dt))
  | o (c : Nat) (ns : List Str) (ds : List Dt)
def RpO (K : Fg) (cl : Nat → Addr) (B : Hp) : HO → Oc → Prop
  | .lst vs, .l ds => RpA K cl B vs ds
  | .dT ws, .t kvs => ws.map (·.1) = kvs.map (·.1) ∧ RpA K cl B (ws.map (·.2)) (kvs.map (·.2))
  | .ins C _ fs, .o c ns ds => C = cl c ∧ fs.map (·.1) = ns ∧ RpA K cl B (fs.map (·.2)) ds
  | _, _ => False
theorem RpO.mono {B B' : Hp} (e : Same B B') : ∀ {ho : HO} {o : Oc}, RpO K cl B ho o → RpO K cl B' ho o := by
  intro ho o h
  cases ho <;> cases o <;> first | exact h.elim | exact RpA.mono e _ _ h | exact ⟨h.1, RpA.mono e _ _ h.2⟩ | exact ⟨h.1, h.2.1, RpA.mono e _ _ h.2.2⟩
inductive Sc where
  | un | d (x : Dt) | own (o : Oc) | par (o : Oc)
def Sc.isPar : Sc → Bool
  | .par _ => true
  | _ => false
@[simp] theorem isPar_un : Sc.isPar .un = false := rfl
@[simp] theorem isPar_d (x : Dt) : Sc.isPar (.d x) = false := rfl
@[simp] theorem isPar_own (o : Oc) : Sc.isPar (.own o) = false := rfl
@[simp] theorem isPar_par (o : Oc) : Sc.isPar (.par o) = true := rfl
def Sc.oc : Sc → Option Oc
  | .own o => some o
  | .par o => some o
  | _ => none
@[simp] theorem oc_un : Sc.oc .un = none := rfl
@[simp] theorem oc_d (x : Dt) : Sc.oc (.d x) = none := rfl
@[simp] theorem oc_own (o : Oc) : Sc.oc (.own o) = some o := rfl
@[simp] theorem oc_par (o : Oc) : Sc.oc (.par o) = some o := rfl
abbrev Env := List Sc
@[simp] def ocAt (env : Env) (i : Nat) : Option Oc := env[i]?.bind Sc.oc
/-- the addresses that are somebody's own -/
def MP (M0 : Addr → Prop) (as : Nat → Addr) (env : Env) (a : Addr) : Prop := M0 a ∨ ∃ i o, ocAt env i = some o ∧ as i = a
noncomputable def Bv (M0 : Addr → Prop) (as : Nat → Addr) (env : Env) (H : Hp) : Hp := hd (MP M0 as env) H
def SlOk (K : Fg) (cl : Nat → Addr) (B H : Hp) (l : Addr) (s : Option (Option V)) : Sc → Prop
  | .un => True
  | .d x => ∃ v, s = some (some v) ∧ Rp K cl B v x
  | .own o => s = some (some (.ref l)) ∧ ∃ ho, H l = some ho ∧ RpO K cl B ho o
  | .par o => s = some (some (.ref l)) ∧ ∃ ho, H l = some ho ∧ RpO K cl B ho o
structure StA (K : Fg) (cl : Nat → Addr) (Hin : Hp) (M0 : Addr → Prop) (as : Nat → Addr) (env : Env) (σ : L2.St) (H : Hp) : Prop where
  len : σ.length = env.length
  same : Same Hin H
  fr : ∀ i o, ocAt env i = some o → Hin (as i) = none ∧ ¬ M0 (as i)
  m0 : ∀ a, M0 a → H a ≠ none
  inj : ∀ i j o o', ocAt env i = some o → ocAt env j = some o' → as i = as j → i = j
  sl : ∀ i sc, env[i]? = some sc → SlOk K cl (Bv M0 as env H) H (as i) (σ[i]?) sc
structure Step (M0 : Addr → Prop) (as : Nat → Addr) (env : Env) (H : Hp) (as' : Nat → Addr) (env' : Env) (H' : Hp) : Prop where
  b : Same (Bv M0 as env H) (Bv M0 as' env' H')
  p : ∀ i o, env[i]? = some (.par o) → as' i = as i ∧ ∃ o', env'[i]? = some (.par o')
  f : ∀ a o, M0 a → H a = some o → H' a = some o
theorem Step.refl {M0 : Addr → Prop} {as : Nat → Addr} {env : Env} {H : Hp} : Step M0 as env H as env H := ⟨Same.refl _, fun i o h => ⟨rfl, o, h⟩, fun _ _ _ h => h⟩
theorem Step.trans {M0 : Addr → Prop} {as as1 as2 : Nat → Addr} {env env1 env2 : Env} {H H1 H2 : Hp} (a : Step M0 as env H as1 env1 H1) (b : Step M0 as1 env1 H1 as2 env2 H2) : Step M0 as env H as2 env2 H2 :=
  ⟨a.b.trans b.b, fun i o h => by
    obtain ⟨e1, o1, h1⟩ := a.p i o h
    obtain ⟨e2, o2, h2⟩ := b.p i o1 h1
    exact ⟨e2.trans e1, o2, h2⟩, fun c o hc h => b.f c o hc (a.f c o hc h)⟩

section
variable {Hin H H' : Hp} {M0 : Addr → Prop} {as : Nat → Addr} {env : Env} {σ : L2.St} {i : Nat} {x : Dt} {v : V}
theorem ocAt_own {o : Oc} (h : env[i]? = some (.own o)) : ocAt env i = some o := by unfold ocAt; rw [h]; rfl
theorem ocAt_par {o : Oc} (h : env[i]? = some (.par o)) : ocAt env i = some o := by unfold ocAt; rw [h]; rfl
theorem ocAt_set {s : Sc} (hi : i < env.length) : ocAt (env.set i s) i = s.oc := by
  unfold ocAt
  rw [List.getElem?_set_self hi]
  rfl
theorem ocAt_ne {s : Sc} {j : Nat} (h : j ≠ i) : ocAt (env.set i s) j = ocAt env j := by
  unfold ocAt
  rw [List.getElem?_set_ne (Ne.symm h)]
theorem StA.own_at (S : StA K cl Hin M0 as env σ H) {o : Oc} (h : ocAt env i = some o) : σ[i]? = some (some (.ref (as i))) ∧ ∃ ho, H (as i) = some ho ∧ RpO K cl (Bv M0 as env H) ho o := by
  unfold ocAt at h
  cases e : env[i]? with
  | none => rw [e] at h; cases h
  | some s =>
    rw [e] at h
    have q := S.sl i s e
    cases s with
    | un => cases h
    | d => cases h
    | own o' => cases h; exact q
    | par o' => cases h; exact q
theorem StA.dom (S : StA K cl Hin M0 as env σ H) {a : Addr} (h : MP M0 as env a) : H a ≠ none := by
  rcases h with h | ⟨i, o, h, rfl⟩
  · exact S.m0 a h
  · obtain ⟨_, ho, e, _⟩ := S.own_at h
    rw [e]; simp
/-- the heap grows -/
theorem StA.grow (S : StA K cl Hin M0 as env σ H) (e : Same H H') : StA K cl Hin M0 as env σ H' ∧ Step M0 as env H as env H' := by
  have hb : Same (Bv M0 as env H) (Bv M0 as env H') := hd_mono (fun _ _ h => h) e
  refine ⟨⟨S.len, S.same.trans e, S.fr, fun a ha => ?_, S.inj, fun j s h => ?_⟩, hb, fun i o h => ⟨rfl, o, h⟩, fun a o _ h => e a o h⟩
  · cases q : H a with
    | none => exact absurd q (S.m0 a ha)
    | some o => rw [e a o q]; simp
  have q := S.sl j s h
  cases s with
  | un => trivial
  | d y => obtain ⟨v, h1, h2⟩ := q; exact ⟨v, h1, Rp.mono hb _ _ h2⟩
  | own o => obtain ⟨h1, ho, h2, h3⟩ := q; exact ⟨h1, ho, e _ _ h2, h3.mono hb⟩
  | par o => obtain ⟨h1, ho, h2, h3⟩ := q; exact ⟨h1, ho, e _ _ h2, h3.mono hb⟩
theorem same_upd {H : Hp} {p : Addr} {o : HO} (h : H p = none) : Same H (upd H p o) := fun b x e => by
  rw [upd_ne (ne_of_none e h)]
  exact e
theorem StA.fresh (S : StA K cl Hin M0 as env σ H) {p : Addr} (h : H p = none) : ¬ MP M0 as env p := fun z => S.dom z h
theorem Bv_new (S : StA K cl Hin M0 as env σ H) {p : Addr} {o : HO} (h : H p = none) : Bv M0 as env (upd H p o) p = some o := by
  unfold Bv
  rw [hd_out (S.fresh h)]
  exact upd_same
/-- a slot takes data -/
theorem StA.setD (S : StA K cl Hin M0 as env σ H) (hi : i < env.length) (hp : ∀ o, env[i]? ≠ some (.par o)) (r : Rp K cl (Bv M0 as env H) v x) :
    StA K cl Hin M0 as (env.set i (.d x)) (σ.set i (some v)) H ∧ Step M0 as env H as (env.set i (.d x)) H := by
  have hm : ∀ a, MP M0 as (env.set i (.d x)) a → MP M0 as env a := fun a h => by
    rcases h with h | ⟨j, o, h, e⟩
    · exact .inl h
    · by_cases hj : j = i
      · subst hj; rw [ocAt_set hi] at h; cases h
      · rw [ocAt_ne hj] at h; exact .inr ⟨j, o, h, e⟩
  have hb : Same (Bv M0 as env H) (Bv M0 as (env.set i (.d x)) H) := hd_mono (fun a _ h => hm a h) (Same.refl _)
  have ho : ∀ j o, ocAt (env.set i (.d x)) j = some o → ocAt env j = some o := fun j o h => by
    by_cases hj : j = i
    · subst hj; rw [ocAt_set hi] at h; cases h
    · rw [ocAt_ne hj] at h; exact h
  refine ⟨⟨by rw [List.length_set, List.length_set]; exact S.len, S.same, fun j o h => S.fr j o (ho j o h), S.m0, fun j k o o' h h' e => S.inj j k o o' (ho j o h) (ho k o' h') e, fun j s h => ?_⟩, hb, fun j o h => ?_, fun _ _ _ h => h⟩
  · by_cases hj : j = i
    · subst hj
      rw [List.getElem?_set_self hi] at h
      cases h
      exact ⟨v, by rw [List.getElem?_set_self (by rw [S.len]; exact hi)], Rp.mono hb _ _ r⟩
    · rw [List.getElem?_set_ne (Ne.symm hj)] at h ⊢
      have q := S.sl j s h
      cases s with
      | un => trivial
      | d y => obtain ⟨v, h1, h2⟩ := q; exact ⟨v, h1, Rp.mono hb _ _ h2⟩
      | own o => obtain ⟨h1, ho, h2, h3⟩ := q; exact ⟨h1, ho, h2, h3.mono hb⟩
      | par o => obtain ⟨h1, ho, h2, h3⟩ := q; exact ⟨h1, ho, h2, h3.mono hb⟩
  · have hj : j ≠ i := fun z => by subst z; exact hp o h
    exact ⟨rfl, o, by rw [List.getElem?_set_ne (Ne.symm hj)]; exact h⟩
theorem set_same {α : Type} {l : List α} {i : Nat} {x : α} (h : l[i]? = some x) : l.set i x = l := by
  apply List.ext_getElem?
  intro j
  by_cases hj : i = j
  · subst hj
    rw [List.getElem?_set_self (List.getElem?_eq_some_iff.mp h).1, h]
  · rw [List.getElem?_set_ne hj]
/-- an owned list is given free -/
theorem StA.thaw (S : StA K cl Hin M0 as env σ H) {ds : List Dt} (h : env[i]? = some (.own (.l ds))) :
    StA K cl Hin M0 as (env.set i (.d (.lst ds))) σ H ∧ Step M0 as env H as (env.set i (.d (.lst ds))) H ∧ Rp K cl (Bv M0 as (env.set i (.d (.lst ds))) H) (.ref (as i)) (.lst ds) := by
  have hi : i < env.length := (List.getElem?_eq_some_iff.mp h).1
  obtain ⟨h1, ho, h2, h3⟩ := S.own_at (ocAt_own h)
  have hm : ∀ a, MP M0 as (env.set i (.d (.lst ds))) a → MP M0 as env a := fun a h => by
    rcases h with h | ⟨j, o, h, e⟩
    · exact .inl h
    · by_cases hj : j = i
      · subst hj; rw [ocAt_set hi] at h; cases h
      · rw [ocAt_ne hj] at h; exact .inr ⟨j, o, h, e⟩
  have hb : Same (Bv M0 as env H) (Bv M0 as (env.set i (.d (.lst ds))) H) := hd_mono (fun a _ h => hm a h) (Same.refl _)
  have hnot : ¬ MP M0 as (env.set i (.d (.lst ds))) (as i) := fun z => by
    rcases z with z | ⟨j, o, z, e⟩
    · exact (S.fr i _ (ocAt_own h)).2 z
    · have hj : j ≠ i := fun y => by subst y; rw [ocAt_set hi] at z; cases z
      rw [ocAt_ne hj] at z
      exact hj (S.inj j i o _ z (ocAt_own h) e)
  have hr : Rp K cl (Bv M0 as (env.set i (.d (.lst ds))) H) (.ref (as i)) (.lst ds) := by
    cases ho with
    | lst vs =>
      refine .lst (xs := vs) ?_ (RpA.mono hb _ _ h3)
      unfold Bv
      rw [hd_out hnot]
      exact h2
    | _ => exact h3.elim
  have hoo : ∀ j o, ocAt (env.set i (.d (.lst ds))) j = some o → ocAt env j = some o := fun j o h => by
    by_cases hj : j = i
    · subst hj; rw [ocAt_set hi] at h; cases h
    · rw [ocAt_ne hj] at h; exact h
  refine ⟨⟨by rw [List.length_set]; exact S.len, S.same, fun j o h => S.fr j o (hoo j o h), S.m0, fun j k o o' h h' e => S.inj j k o o' (hoo j o h) (hoo k o' h') e, fun j s hs => ?_⟩, ⟨hb, fun j o hj => ?_, fun _ _ _ h => h⟩, hr⟩
  · by_cases hj : j = i
    · subst hj
      rw [List.getElem?_set_self hi] at hs
      cases hs
      exact ⟨_, h1, hr⟩
    · rw [List.getElem?_set_ne (Ne.symm hj)] at hs
      have q := S.sl j s hs
      cases s with
      | un => trivial
      | d y => obtain ⟨v, h1, h2⟩ := q; exact ⟨v, h1, Rp.mono hb _ _ h2⟩
      | own o => obtain ⟨h1, ho, h2, h3⟩ := q; exact ⟨h1, ho, h2, h3.mono hb⟩
      | par o => obtain ⟨h1, ho, h2, h3⟩ := q; exact ⟨h1, ho, h2, h3.mono hb⟩
  · have hji : j ≠ i := fun z => by subst z; rw [h] at hj; cases hj
    exact ⟨rfl, o, by rw [List.getElem?_set_ne (Ne.symm hji)]; exact hj⟩
/-- what an owned object holds is changed -/
theorem StA.mut (S : StA K cl Hin M0 as env σ H) {o o' : Oc} {s' : Sc} {ho : HO} (h : ocAt env i = some o) (hs' : s'.oc = some o') (hk : (∃ p, env[i]? = some (.par p)) → ∃ p, s' = .par p) (r : RpO K cl (Bv M0 as env H) ho o') :
    StA K cl Hin M0 as (env.set i s') σ (upd H (as i) ho) ∧ Step M0 as env H as (env.set i s') (upd H (as i) ho) := by
  have hi : i < env.length := by
    unfold ocAt at h
    cases e : env[i]? with
    | none => rw [e] at h; cases h
    | some s => exact (List.getElem?_eq_some_iff.mp e).1
  have hm : MP M0 as (env.set i s') = MP M0 as env := by
    funext a
    refine propext ⟨fun z => ?_, fun z => ?_⟩
    · rcases z with z | ⟨j, p, z, e⟩
      · exact .inl z
      · by_cases hj : j = i
        · subst hj; exact .inr ⟨j, o, h, e⟩
        · rw [ocAt_ne hj] at z; exact .inr ⟨j, p, z, e⟩
    · rcases z with z | ⟨j, p, z, e⟩
      · exact .inl z
      · by_cases hj : j = i
        · subst hj; exact .inr ⟨j, o', by rw [ocAt_set hi]; exact hs', e⟩
        · exact .inr ⟨j, p, by rw [ocAt_ne hj]; exact z, e⟩
  have hin : MP M0 as env (as i) := .inr ⟨i, o, h, rfl⟩
  have hb : Bv M0 as (env.set i s') (upd H (as i) ho) = Bv M0 as env H := by
    unfold Bv
    rw [hm]
    funext a
    by_cases ha : MP M0 as env a
    · rw [hd_in ha, hd_in ha]
    · rw [hd_out ha, hd_out ha, upd_ne (fun z => ha (by rw [z]; exact hin))]
  have hoo : ∀ j p, ocAt (env.set i s') j = some p → ∃ p', ocAt env j = some p' := fun j p z => by
    by_cases hj : j = i
    · subst hj; exact ⟨o, h⟩
    · rw [ocAt_ne hj] at z; exact ⟨p, z⟩
  refine ⟨⟨by rw [List.length_set]; exact S.len, fun a u e => ?_, fun j p z => ?_, fun a ha => ?_, fun j k p p' z z' e => ?_, fun j s hs => ?_⟩, ⟨by rw [hb]; exact Same.refl _, fun j p hj => ?_, fun a u ha hu => ?_⟩⟩
  · rw [upd_ne (ne_of_none e (S.fr i o h).1)]
    exact S.same a u e
  · obtain ⟨p', z'⟩ := hoo j p z
    exact S.fr j p' z'
  · rw [upd_ne (fun z => (S.fr i o h).2 (by rw [← z]; exact ha))]
    exact S.m0 a ha
  · obtain ⟨q, zq⟩ := hoo j p z
    obtain ⟨q', zq'⟩ := hoo k p' z'
    exact S.inj j k q q' zq zq' e
  · rw [hb]
    by_cases hj : j = i
    · subst hj
      rw [List.getElem?_set_self hi] at hs
      cases hs
      obtain ⟨h1, _⟩ := S.own_at h
      have hq : SlOk K cl (Bv M0 as env H) (upd H (as j) ho) (as j) (σ[j]?) s' := by
        cases s' with
        | un => cases hs'
        | d => cases hs'
        | own p => cases hs'; exact ⟨h1, ho, upd_same, r⟩
        | par p => cases hs'; exact ⟨h1, ho, upd_same, r⟩
      exact hq
    · rw [List.getElem?_set_ne (Ne.symm hj)] at hs
      have q := S.sl j s hs
      have hne : ∀ p, ocAt env j = some p → as j ≠ as i := fun p z e => hj (S.inj j i p o z h e)
      cases s with
      | un => trivial
      | d y => exact q
      | own p => obtain ⟨h1, hq, h2, h3⟩ := q; exact ⟨h1, hq, by rw [upd_ne (hne p (ocAt_own hs))]; exact h2, h3⟩
      | par p => obtain ⟨h1, hq, h2, h3⟩ := q; exact ⟨h1, hq, by rw [upd_ne (hne p (ocAt_par hs))]; exact h2, h3⟩
  · by_cases hji : j = i
    · subst hji
      obtain ⟨q, rfl⟩ := hk ⟨p, hj⟩
      exact ⟨rfl, q, List.getElem?_set_self hi⟩
    · exact ⟨rfl, p, by rw [List.getElem?_set_ne (Ne.symm hji)]; exact hj⟩
  · rw [upd_ne (fun z => (S.fr i o h).2 (by rw [← z]; exact ha))]
    exact hu
def asSet (as : Nat → Addr) (i : Nat) (p : Addr) : Nat → Addr := fun j => if j = i then p else as j
theorem asSet_eq {i j : Nat} {p : Addr} (h : j = i) : asSet as i p j = p := if_pos h
theorem asSet_ne {i j : Nat} {p : Addr} (h : ¬ j = i) : asSet as i p j = as j := if_neg h
/-- a slot takes a new object as its own -/
theorem StA.setO (S : StA K cl Hin M0 as env σ H) {p : Addr} {ho : HO} {o : Oc} (hi : i < env.length) (hp : ∀ o, env[i]? ≠ some (.par o)) (hn : H p = none) (r : RpO K cl (Bv M0 as env H) ho o) :
    StA K cl Hin M0 (asSet as i p) (env.set i (.own o)) (σ.set i (some (.ref p))) (upd H p ho) ∧ Step M0 as env H (asSet as i p) (env.set i (.own o)) (upd H p ho) := by
  have hpn : ∀ j q, ocAt env j = some q → as j ≠ p := fun j q z e => by
    obtain ⟨_, _, e2, _⟩ := S.own_at z
    rw [e, hn] at e2
    cases e2
  have hinn : Hin p = none := S.same.free hn
  have hb : Same (Bv M0 as env H) (Bv M0 (asSet as i p) (env.set i (.own o)) (upd H p ho)) := hd_mono (fun a ha z => by
    rcases z with z | ⟨j, q, z, e⟩
    · exact .inl z
    · by_cases hj : j = i
      · rw [asSet_eq hj] at e
        subst e
        exact absurd hn ha
      · rw [asSet_ne hj] at e
        rw [ocAt_ne hj] at z
        exact .inr ⟨j, q, z, e⟩) (same_upd hn)
  refine ⟨⟨by rw [List.length_set, List.length_set]; exact S.len, S.same.trans (same_upd hn), fun j q z => ?_, fun a ha => ?_, fun j k q q' z z' e => ?_, fun j s hs => ?_⟩, ⟨hb, fun j q hj => ?_, fun a u ha hu => same_upd hn a u hu⟩⟩
  · by_cases hj : j = i
    · rw [asSet_eq hj]; exact ⟨hinn, fun z => S.m0 p z hn⟩
    · rw [asSet_ne hj]; rw [ocAt_ne hj] at z; exact S.fr j q z
  · cases q : H a with
    | none => exact absurd q (S.m0 a ha)
    | some o => rw [same_upd hn a o q]; simp
  · by_cases hj : j = i
    · by_cases hk : k = i
      · rw [hj, hk]
      · rw [asSet_eq hj, asSet_ne hk] at e
        rw [ocAt_ne hk] at z'
        exact absurd e.symm (hpn k q' z')
    · by_cases hk : k = i
      · rw [asSet_ne hj, asSet_eq hk] at e
        rw [ocAt_ne hj] at z
        exact absurd e (hpn j q z)
      · rw [asSet_ne hj, asSet_ne hk] at e
        rw [ocAt_ne hj] at z
        rw [ocAt_ne hk] at z'
        exact S.inj j k q q' z z' e
  · by_cases hj : j = i
    · subst hj
      rw [List.getElem?_set_self hi] at hs
      cases hs
      refine ⟨by rw [List.getElem?_set_self (by rw [S.len]; exact hi), asSet_eq rfl], ho, by rw [asSet_eq rfl]; exact upd_same, r.mono hb⟩
    · rw [List.getElem?_set_ne (Ne.symm hj)] at hs ⊢
      have q := S.sl j s hs
      cases s with
      | un => trivial
      | d y => obtain ⟨v, h1, h2⟩ := q; exact ⟨v, h1, Rp.mono hb _ _ h2⟩
      | own p' =>
        obtain ⟨h1, hq, h2, h3⟩ := q
        exact ⟨by rw [asSet_ne hj]; exact h1, hq, by rw [asSet_ne hj, upd_ne (hpn j _ (ocAt_own hs))]; exact h2, h3.mono hb⟩
      | par p' =>
        obtain ⟨h1, hq, h2, h3⟩ := q
        exact ⟨by rw [asSet_ne hj]; exact h1, hq, by rw [asSet_ne hj, upd_ne (hpn j _ (ocAt_par hs))]; exact h2, h3.mono hb⟩
  · have hji : j ≠ i := fun z => by subst z; exact hp q hj
    exact ⟨asSet_ne hji, q, by rw [List.getElem?_set_ne (Ne.symm hji)]; exact hj⟩
end
end DL

set_option Elab.async false
set_option linter.all false
set_option maxRecDepth 100000
set_option maxHeartbeats 4000000
namespace DL
open PySem PySem.Spec PyProof.Rows L2
variable {K : Fg} {cl : Nat → Addr}

/-! ### evaluators -/
abbrev EvE := Env → Option (Dt × Env)
abbrev EvT := Env → Option (Bool × Env)
abbrev EvA := Env → Option (List Dt × Env)
inductive Rs where
  | nx (e : Env) | rt (x : Dt) (e : Env) | bk (e : Env) | ct (e : Env)
abbrev EvS := Env → Option Rs

def SE (K : Fg) (cl : Nat → Addr) (te : TE) (ev : EvE) : Prop := ∀ (Hin : Hp) (M0 : Addr → Prop) (as : Nat → Addr) (env : Env) (σ : L2.St) (H : Hp) (Q : VK) (x : Dt) (env' : Env), ev env = some (x, env') → StA K cl Hin M0 as env σ H →
  (∀ v H', StA K cl Hin M0 as env' σ H' → Step M0 as env H as env' H' → Rp K cl (Bv M0 as env' H') v x → Q v H') → te σ H Q
def ST (K : Fg) (cl : Nat → Addr) (tt : TT) (ev : EvT) : Prop := ∀ (Hin : Hp) (M0 : Addr → Prop) (as : Nat → Addr) (env : Env) (σ : L2.St) (H : Hp) (Q : Bool → Hp → Prop) (b : Bool) (env' : Env), ev env = some (b, env') → StA K cl Hin M0 as env σ H →
  (∀ H', StA K cl Hin M0 as env' σ H' → Step M0 as env H as env' H' → Q b H') → tt σ H Q
def SA (K : Fg) (cl : Nat → Addr) (ta : TA) (ev : EvA) : Prop := ∀ (Hin : Hp) (M0 : Addr → Prop) (as : Nat → Addr) (env : Env) (σ : L2.St) (H : Hp) (Q : List V → Hp → Prop) (ds : List Dt) (env' : Env), ev env = some (ds, env') → StA K cl Hin M0 as env σ H →
  (∀ vs H', StA K cl Hin M0 as env' σ H' → Step M0 as env H as env' H' → RpA K cl (Bv M0 as env' H') vs ds → Q vs H') → ta σ H Q
/-- a new list -/
def SL (K : Fg) (cl : Nat → Addr) (te : TE) (ev : EvA) : Prop := ∀ (Hin : Hp) (M0 : Addr → Prop) (as : Nat → Addr) (env : Env) (σ : L2.St) (H : Hp) (Q : VK) (ds : List Dt) (env' : Env), ev env = some (ds, env') → StA K cl Hin M0 as env σ H →
  (∀ p vs H1, StA K cl Hin M0 as env' σ H1 → Step M0 as env H as env' H1 → H1 p = none → RpA K cl (Bv M0 as env' H1) vs ds → Q (.ref p) (upd H1 p (.lst vs))) → te σ H Q
def RsOk (K : Fg) (cl : Nat → Addr) (Hin : Hp) (M0 : Addr → Prop) (as : Nat → Addr) (env : Env) (H : Hp) (D : Ends) : Rs → Prop
  | .nx e => ∀ as' σ' H', StA K cl Hin M0 as' e σ' H' → Step M0 as env H as' e H' → D.nx σ' H'
  | .bk e => ∀ as' σ' H', StA K cl Hin M0 as' e σ' H' → Step M0 as env H as' e H' → D.bk σ' H'
  | .ct e => ∀ as' σ' H', StA K cl Hin M0 as' e σ' H' → Step M0 as env H as' e H' → D.ct σ' H'
  | .rt x e => ∀ as' σ' H' v, StA K cl Hin M0 as' e σ' H' → Step M0 as env H as' e H' → Rp K cl (Bv M0 as' e H') v x → D.rt v H'
def SS (K : Fg) (cl : Nat → Addr) (ts : TS) (ev : EvS) : Prop := ∀ (Hin : Hp) (M0 : Addr → Prop) (as : Nat → Addr) (env : Env) (σ : L2.St) (H : Hp) (D : Ends) (r : Rs), ev env = some r → StA K cl Hin M0 as env σ H →
  RsOk K cl Hin M0 as env H D r → ts D σ H
theorem RsOk.step {Hin H H1 : Hp} {M0 : Addr → Prop} {as as1 : Nat → Addr} {env env1 : Env} {D : Ends} (st : Step M0 as env H as1 env1 H1) : ∀ {r : Rs}, RsOk K cl Hin M0 as env H D r → RsOk K cl Hin M0 as1 env1 H1 D r
  | .nx _, h => fun as' σ' H' S q => h as' σ' H' S (st.trans q)
  | .bk _, h => fun as' σ' H' S q => h as' σ' H' S (st.trans q)
  | .ct _, h => fun as' σ' H' S q => h as' σ' H' S (st.trans q)
  | .rt _ _, h => fun as' σ' H' v S q => h as' σ' H' v S (st.trans q)

structure VE (cl : Nat → Addr) (X : Cx) (e : Expr) (te : TE) (ev : EvE) : Prop where
  pe : PE X e te
  so : SE X.K cl te ev
structure VT (cl : Nat → Addr) (X : Cx) (e : Expr) (tt : TT) (ev : EvT) : Prop where
  pe : PT X e tt
  so : ST X.K cl tt ev
structure VW (cl : Nat → Addr) (X : Cx) (e : Expr) (tt : TT) (ev : EvT) : Prop where
  pe : PW X e tt
  so : ST X.K cl tt ev
structure VA (cl : Nat → Addr) (X : Cx) (es : List Expr) (ta : TA) (ev : EvA) : Prop where
  pe : PA X es ta
  so : SA X.K cl ta ev
structure VL (cl : Nat → Addr) (X : Cx) (e : Expr) (te : TE) (ev : EvA) : Prop where
  pe : PE X e te
  so : SL X.K cl te ev
structure VS (cl : Nat → Addr) (X : Cx) (s : Stmt) (ts : TS) (ev : EvS) : Prop where
  pe : PS X s ts
  so : SS X.K cl ts ev
structure VB (cl : Nat → Addr) (X : Cx) (s : List Stmt) (ts : TS) (ev : EvS) : Prop where
  pe : PSs X s ts
  so : SS X.K cl ts ev

/-! ### names and constants -/
@[simp] def xVar (i : Nat) : EvE := fun env => match env[i]? with
  | some (.d x) => some (x, env)
  | some (.own (.l ds)) => some (.lst ds, env.set i (.d (.lst ds)))
  | _ => none
theorem se_var (i : Nat) : SE K cl (tVar i) (xVar i) := fun Hin M0 as env σ H Q x env' h S q => by
  unfold xVar at h
  split at h
  · rename_i y e
    cases h
    obtain ⟨v, h1, h2⟩ := S.sl i _ e
    exact ⟨v, h1, q v H S Step.refl h2⟩
  · rename_i ds e
    cases h
    obtain ⟨S', st, r⟩ := S.thaw e
    exact ⟨_, (S.own_at (ocAt_own e)).1, q _ H S' st r⟩
  · cases h
@[simp] def xC (x : Dt) : EvE := fun env => some (x, env)
theorem se_c {v : V} {x : Dt} (h : ∀ B, Rp K cl B v x) : SE K cl (tC v) (xC x) := fun Hin M0 as env σ H Q y env' e S q => by
  cases e
  exact q v H S Step.refl (h _)

/-! ### operations by values -/
def OpS (K : Fg) (cl : Nat → Addr) (r : R2) (f : Dt → Dt → Option Dt) : Prop := ∀ (Hin : Hp) (M0 : Addr → Prop) (as : Nat → Addr) (env : Env) (σ : L2.St) (H : Hp) (Q : VK) (x y z : Dt) (v w : V), f x y = some z → StA K cl Hin M0 as env σ H →
  Rp K cl (Bv M0 as env H) v x → Rp K cl (Bv M0 as env H) w y → (∀ u H', StA K cl Hin M0 as env σ H' → Step M0 as env H as env H' → Rp K cl (Bv M0 as env H') u z → Q u H') → r v w H Q
def UnS (K : Fg) (cl : Nat → Addr) (r : V → Hp → VK → Prop) (f : Dt → Option Dt) : Prop := ∀ (Hin : Hp) (M0 : Addr → Prop) (as : Nat → Addr) (env : Env) (σ : L2.St) (H : Hp) (Q : VK) (x z : Dt) (v : V), f x = some z → StA K cl Hin M0 as env σ H →
  Rp K cl (Bv M0 as env H) v x → (∀ u H', StA K cl Hin M0 as env σ H' → Step M0 as env H as env H' → Rp K cl (Bv M0 as env H') u z → Q u H') → r v H Q
def CaS (K : Fg) (cl : Nat → Addr) (r : List V → Hp → VK → Prop) (f : List Dt → Option Dt) : Prop := ∀ (Hin : Hp) (M0 : Addr → Prop) (as : Nat → Addr) (env : Env) (σ : L2.St) (H : Hp) (Q : VK) (xs : List Dt) (z : Dt) (vs : List V), f xs = some z → StA K cl Hin M0 as env σ H →
  RpA K cl (Bv M0 as env H) vs xs → (∀ u H', StA K cl Hin M0 as env σ H' → Step M0 as env H as env H' → Rp K cl (Bv M0 as env H') u z → Q u H') → r vs H Q
@[simp] def x2 (f : Dt → Dt → Option Dt) (a b : EvE) : EvE := fun env => (a env).bind fun p => (b p.2).bind fun q => (f p.1 q.1).map fun z => (z, q.2)
@[simp] def x1 (f : Dt → Option Dt) (a : EvE) : EvE := fun env => (a env).bind fun p => (f p.1).map fun z => (z, p.2)
@[simp] def xB (f : List Dt → Option Dt) (a : EvA) : EvE := fun env => (a env).bind fun p => (f p.1).map fun z => (z, p.2)
section
variable {ta tb tc te : TE} {ea eb ec : EvE} {r : R2} {f : Dt → Dt → Option Dt}
theorem bind_some {α β : Type} {o : Option α} {g : α → Option β} {b : β} (h : o.bind g = some b) : ∃ a, o = some a ∧ g a = some b := by
  cases o with
  | none => cases h
  | some a => exact ⟨a, rfl, h⟩
theorem map_some {α β : Type} {o : Option α} {g : α → β} {b : β} (h : o.map g = some b) : ∃ a, o = some a ∧ g a = b := by
  cases o with
  | none => cases h
  | some a => exact ⟨a, rfl, Option.some.inj h⟩
theorem se_op (hr : OpS K cl r f) (ha : SE K cl ta ea) (hb : SE K cl tb eb) : SE K cl (tOp r ta tb) (x2 f ea eb) := fun Hin M0 as env σ H Q x env' h S q => by
  obtain ⟨⟨x1, e1⟩, h1, h⟩ := bind_some h
  obtain ⟨⟨x2, e2⟩, h2, h⟩ := bind_some h
  obtain ⟨z, h3, h⟩ := map_some h
  cases h
  refine ha Hin M0 as env σ H _ x1 e1 h1 S fun v H1 S1 s1 r1 => ?_
  refine hb Hin M0 as e1 σ H1 _ x2 e2 h2 S1 fun w H2 S2 s2 r2 => ?_
  exact hr Hin M0 as e2 σ H2 Q x1 x2 x v w h3 S2 (Rp.mono s2.b _ _ r1) r2 fun u H3 S3 s3 r3 => q u H3 S3 ((s1.trans s2).trans s3) r3
theorem se_un {r : V → Hp → VK → Prop} {f : Dt → Option Dt} (hr : UnS K cl r f) (ha : SE K cl ta ea) : SE K cl (tUn r ta) (x1 f ea) := fun Hin M0 as env σ H Q x env' h S q => by
  obtain ⟨⟨x1, e1⟩, h1, h⟩ := bind_some h
  obtain ⟨z, h3, h⟩ := map_some h
  cases h
  refine ha Hin M0 as env σ H _ x1 e1 h1 S fun v H1 S1 s1 r1 => ?_
  exact hr Hin M0 as e1 σ H1 Q x1 x v h3 S1 r1 fun u H3 S3 s3 r3 => q u H3 S3 (s1.trans s3) r3
theorem se_cb {r : List V → Hp → VK → Prop} {f : List Dt → Option Dt} {t : TA} {ev : EvA} (hr : CaS K cl r f) (ha : SA K cl t ev) : SE K cl (tCB r t) (xB f ev) := fun Hin M0 as env σ H Q x env' h S q => by
  obtain ⟨⟨x1, e1⟩, h1, h⟩ := bind_some h
  obtain ⟨z, h3, h⟩ := map_some h
  cases h
  refine ha Hin M0 as env σ H _ x1 e1 h1 S fun v H1 S1 s1 r1 => ?_
  exact hr Hin M0 as e1 σ H1 Q x1 x v h3 S1 r1 fun u H3 S3 s3 r3 => q u H3 S3 (s1.trans s3) r3
end
@[simp] def fI (g : Int → Int → Dt) : Dt → Dt → Option Dt
  | .int i, .int j => some (g i j)
  | _, _ => none
@[simp] def fIc (c : Int → Int → Bool) (g : Int → Int → Dt) : Dt → Dt → Option Dt
  | .int i, .int j => if c i j = true then some (g i j) else none
  | _, _ => none
theorem ops_I0 {g : Int → Int → V} {g' : Int → Int → Dt} (hg : ∀ i j B, Rp K cl B (g i j) (g' i j)) : OpS K cl (rI0 g) (fI g') := fun Hin M0 as env σ H Q x y z v w h S r1 r2 q => by
  unfold fI at h
  split at h
  · cases h
    cases r1
    cases r2
    exact ⟨_, _, rfl, rfl, q _ H S Step.refl (hg _ _ _)⟩
  · cases h
theorem ops_I {C : Int → Int → Prop} {c : Int → Int → Bool} {g : Int → Int → V} {g' : Int → Int → Dt} (hc : ∀ i j, c i j = true → C i j) (hg : ∀ i j B, Rp K cl B (g i j) (g' i j)) : OpS K cl (rI C g) (fIc c g') := fun Hin M0 as env σ H Q x y z v w h S r1 r2 q => by
  unfold fIc at h
  split at h
  · split at h
    · rename_i hh
      cases h
      cases r1
      cases r2
      exact ⟨_, _, rfl, rfl, hc _ _ hh, q _ H S Step.refl (hg _ _ _)⟩
    · cases h
  · cases h
/-- a test by a value -/
@[simp] def xT (a : EvE) : EvT := fun env => (a env).bind fun p => match p.1 with
  | .bl b => some (b, p.2)
  | _ => none
theorem st_test {te : TE} {ev : EvE} (h : SE K cl te ev) : ST K cl (tTest te) (xT ev) := fun Hin M0 as env σ H Q b env' e S q => by
  obtain ⟨⟨x, e1⟩, h1, h2⟩ := bind_some e
  cases x with
  | bl c =>
    cases h2
    refine h Hin M0 as env σ H _ _ _ h1 S fun v H1 S1 s1 r1 => ?_
    cases r1
    exact ⟨_, rfl, q H1 S1 s1⟩
  | _ => cases h2
@[simp] def xAndT (a b : EvT) : EvT := fun env => (a env).bind fun p => if p.1 = true then b p.2 else some (false, p.2)
@[simp] def xOrT (a b : EvT) : EvT := fun env => (a env).bind fun p => if p.1 = true then some (true, p.2) else b p.2
@[simp] def xNotT (a : EvT) : EvT := fun env => (a env).map fun p => (!p.1, p.2)
theorem st_and {t u : TT} {a b : EvT} (ha : ST K cl t a) (hb : ST K cl u b) : ST K cl (tAnd t u) (xAndT a b) := fun Hin M0 as env σ H Q z env' e S q => by
  obtain ⟨⟨x, e1⟩, h1, h2⟩ := bind_some e
  refine ha Hin M0 as env σ H _ _ _ h1 S fun H1 S1 s1 => ?_
  cases x with
  | true => exact iteT (hb Hin M0 as e1 σ H1 Q _ _ (by simpa using h2) S1 fun H2 S2 s2 => q H2 S2 (s1.trans s2))
  | false =>
    cases (show some (false, e1) = some (z, env') by simpa using h2)
    exact iteF (q H1 S1 s1)
theorem st_or {t u : TT} {a b : EvT} (ha : ST K cl t a) (hb : ST K cl u b) : ST K cl (tOr t u) (xOrT a b) := fun Hin M0 as env σ H Q z env' e S q => by
  obtain ⟨⟨x, e1⟩, h1, h2⟩ := bind_some e
  refine ha Hin M0 as env σ H _ _ _ h1 S fun H1 S1 s1 => ?_
  cases x with
  | false => exact iteF (hb Hin M0 as e1 σ H1 Q _ _ (by simpa using h2) S1 fun H2 S2 s2 => q H2 S2 (s1.trans s2))
  | true =>
    cases (show some (true, e1) = some (z, env') by simpa using h2)
    exact iteT (q H1 S1 s1)
theorem st_not {t : TT} {a : EvT} (ha : ST K cl t a) : ST K cl (tNot t) (xNotT a) := fun Hin M0 as env σ H Q z env' e S q => by
  obtain ⟨⟨x, e1⟩, h1, h2⟩ := map_some e
  cases h2
  exact ha Hin M0 as env σ H _ _ _ h1 S fun H1 S1 s1 => q H1 S1 s1
@[simp] def xAnd (a b : EvE) : EvE := fun env => (a env).bind fun p => match p.1 with
  | .bl c => if c = true then b p.2 else some (.bl false, p.2)
  | _ => none
@[simp] def xOr (a b : EvE) : EvE := fun env => (a env).bind fun p => match p.1 with
  | .bl c => if c = true then some (.bl true, p.2) else b p.2
  | _ => none
@[simp] def xNot (a : EvE) : EvE := fun env => (a env).bind fun p => match p.1 with
  | .bl c => some (.bl (!c), p.2)
  | _ => none
theorem se_and {ta tb : TE} {a b : EvE} (ha : SE K cl ta a) (hb : SE K cl tb b) : SE K cl (tAndV ta tb) (xAnd a b) := fun Hin M0 as env σ H Q z env' e S q => by
  obtain ⟨⟨x, e1⟩, h1, h2⟩ := bind_some e
  cases x with
  | bl c =>
    refine ha Hin M0 as env σ H _ _ _ h1 S fun v H1 S1 s1 r1 => ?_
    cases r1
    refine ⟨c, rfl, ?_⟩
    cases c with
    | true => exact iteT (hb Hin M0 as e1 σ H1 Q _ _ (by simpa using h2) S1 fun v H2 S2 s2 r2 => q v H2 S2 (s1.trans s2) r2)
    | false =>
      cases (show some (Dt.bl false, e1) = some (z, env') by simpa using h2)
      exact iteF (q _ H1 S1 s1 (.bl _))
  | _ => cases h2
theorem se_or {ta tb : TE} {a b : EvE} (ha : SE K cl ta a) (hb : SE K cl tb b) : SE K cl (tOrV ta tb) (xOr a b) := fun Hin M0 as env σ H Q z env' e S q => by
  obtain ⟨⟨x, e1⟩, h1, h2⟩ := bind_some e
  cases x with
  | bl c =>
    refine ha Hin M0 as env σ H _ _ _ h1 S fun v H1 S1 s1 r1 => ?_
    cases r1
    refine ⟨c, rfl, ?_⟩
    cases c with
    | false => exact iteF (hb Hin M0 as e1 σ H1 Q _ _ (by simpa using h2) S1 fun v H2 S2 s2 r2 => q v H2 S2 (s1.trans s2) r2)
    | true =>
      cases (show some (Dt.bl true, e1) = some (z, env') by simpa using h2)
      exact iteT (q _ H1 S1 s1 (.bl _))
  | _ => cases h2
theorem se_not {ta : TE} {a : EvE} (ha : SE K cl ta a) : SE K cl (tNotV ta) (xNot a) := fun Hin M0 as env σ H Q z env' e S q => by
  obtain ⟨⟨x, e1⟩, h1, h2⟩ := bind_some e
  cases x with
  | bl c =>
    cases h2
    refine ha Hin M0 as env σ H _ _ _ h1 S fun v H1 S1 s1 r1 => ?_
    cases r1
    exact ⟨c, rfl, q _ H1 S1 s1 (.bl _)⟩
  | _ => cases h2
@[simp] def xIf (c : EvT) (a b : EvE) : EvE := fun env => (c env).bind fun p => if p.1 = true then a p.2 else b p.2
theorem se_if {t : TT} {ta tb : TE} {c : EvT} {a b : EvE} (hc : ST K cl t c) (ha : SE K cl ta a) (hb : SE K cl tb b) : SE K cl (tIf t ta tb) (xIf c a b) := fun Hin M0 as env σ H Q z env' e S q => by
  obtain ⟨⟨x, e1⟩, h1, h2⟩ := bind_some e
  refine hc Hin M0 as env σ H _ _ _ h1 S fun H1 S1 s1 => ?_
  cases x with
  | true => exact iteT (ha Hin M0 as e1 σ H1 Q _ _ (by simpa using h2) S1 fun v H2 S2 s2 r2 => q v H2 S2 (s1.trans s2) r2)
  | false => exact iteF (hb Hin M0 as e1 σ H1 Q _ _ (by simpa using h2) S1 fun v H2 S2 s2 r2 => q v H2 S2 (s1.trans s2) r2)
/-- a chain of two comparisons -/
@[simp] def xChain (f g : Dt → Dt → Option Dt) (a b c : EvE) : EvE := fun env => (a env).bind fun p => (b p.2).bind fun q => (f p.1 q.1).bind fun z => match z with
  | .bl k => if k = true then (c q.2).bind fun w => (g q.1 w.1).map fun z => (z, w.2) else some (.bl false, q.2)
  | _ => none
theorem se_chain {ta tb tc : TE} {r r' : R2} {f g : Dt → Dt → Option Dt} {a b c : EvE} (h1 : OpS K cl r f) (h2 : OpS K cl r' g) (ha : SE K cl ta a) (hb : SE K cl tb b) (hc : SE K cl tc c) : SE K cl (tChain r r' ta tb tc) (xChain f g a b c) := fun Hin M0 as env σ H Q z env' e S q => by
  obtain ⟨⟨x, e1⟩, g1, e⟩ := bind_some e
  obtain ⟨⟨y, e2⟩, g2, e⟩ := bind_some e
  obtain ⟨k, g3, e⟩ := bind_some e
  cases k with
  | bl k =>
    refine ha Hin M0 as env σ H _ _ _ g1 S fun v H1 S1 s1 r1 => ?_
    refine hb Hin M0 as e1 σ H1 _ _ _ g2 S1 fun w H2 S2 s2 r2 => ?_
    refine h1 Hin M0 as e2 σ H2 _ x y _ v w g3 S2 (Rp.mono s2.b _ _ r1) r2 fun u H3 S3 s3 r3 => ?_
    cases r3
    refine ⟨k, rfl, ?_⟩
    cases k with
    | true =>
      obtain ⟨⟨w', e4⟩, g4, e⟩ := bind_some (show ((c e2).bind fun w => (g y w.1).map fun z => (z, w.2)) = some (z, env') by simpa using e)
      obtain ⟨z', g5, e⟩ := map_some e
      cases e
      refine iteT (hc Hin M0 as e2 σ H3 _ _ _ g4 S3 fun w2 H4 S4 s4 r4 => ?_)
      exact h2 Hin M0 as _ σ H4 Q y w' _ w w2 g5 S4 (Rp.mono (s3.trans s4).b _ _ r2) r4 fun u H5 S5 s5 r5 => q u H5 S5 (((s1.trans s2).trans (s3.trans s4)).trans s5) r5
    | false =>
      cases (show some (Dt.bl false, e2) = some (z, env') by simpa using e)
      exact iteF (q _ H3 S3 ((s1.trans s2).trans s3) (.bl _))
  | _ => cases e

/-! ### arguments, displays -/
@[simp] def xNil : EvA := fun env => some ([], env)
@[simp] def xCons (a : EvE) (b : EvA) : EvA := fun env => (a env).bind fun p => (b p.2).map fun q => (p.1 :: q.1, q.2)
theorem sa_nil : SA K cl tNil xNil := fun Hin M0 as env σ H Q ds env' e S q => by
  cases e
  exact q [] H S Step.refl .nil
theorem sa_cons {ta : TE} {tr : TA} {a : EvE} {b : EvA} (ha : SE K cl ta a) (hb : SA K cl tr b) : SA K cl (tCons ta tr) (xCons a b) := fun Hin M0 as env σ H Q ds env' e S q => by
  obtain ⟨⟨x, e1⟩, h1, e⟩ := bind_some e
  obtain ⟨⟨y, e2⟩, h2, e⟩ := map_some e
  cases e
  refine ha Hin M0 as env σ H _ _ _ h1 S fun v H1 S1 s1 r1 => ?_
  refine hb Hin M0 as e1 σ H1 _ _ _ h2 S1 fun vs H2 S2 s2 r2 => ?_
  exact q _ H2 S2 (s1.trans s2) (.cons (Rp.mono s2.b _ _ r1) r2)
/-- a list, a tuple of at most so many -/
def most : Nat := 1000000
theorem most_ok {n : Nat} (h : n ≤ most) : n ≤ sizeLine := Nat.le_trans h (by decide)
theorem most_lt {n : Nat} (h : n < most) : n < sizeLine := Nat.lt_of_lt_of_le h (by decide)
@[simp] def xTup (a : EvA) : EvE := fun env => (a env).bind fun p => if p.1.length ≤ most then some (.tup p.1, p.2) else none
theorem se_tup {ta : TA} {a : EvA} (ha : SA K cl ta a) : SE K cl (tTup ta) (xTup a) := fun Hin M0 as env σ H Q z env' e S q => by
  obtain ⟨⟨x, e1⟩, h1, e⟩ := bind_some e
  split at e
  · rename_i hl
    cases e
    refine ha Hin M0 as env σ H _ _ _ h1 S fun vs H1 S1 s1 r1 => ?_
    refine ⟨most_ok (by rw [r1.length]; exact hl), fun p hp => ?_⟩
    obtain ⟨S2, s2⟩ := S1.grow (same_upd (o := .tup vs) hp)
    exact q _ _ S2 (s1.trans s2) (.tup (xs := vs) (.inl (.inl (Bv_new S1 hp))) (RpA.mono s2.b _ _ r1))
  · cases e
@[simp] def xLst (a : EvA) : EvA := fun env => (a env).bind fun p => if p.1.length ≤ most then some p else none
theorem sl_lst {ta : TA} {a : EvA} (ha : SA K cl ta a) : SL K cl (tLst ta) (xLst a) := fun Hin M0 as env σ H Q ds env' e S q => by
  obtain ⟨⟨x, e1⟩, h1, e⟩ := bind_some e
  split at e
  · rename_i hl
    cases e
    refine ha Hin M0 as env σ H _ _ _ h1 S fun vs H1 S1 s1 r1 => ?_
    exact ⟨most_ok (by rw [r1.length]; exact hl), fun p hp => q p vs H1 S1 s1 hp r1⟩
  · cases e
/-- a new list as a value -/
@[simp] def xL (a : EvA) : EvE := fun env => (a env).map fun p => (.lst p.1, p.2)
theorem SL.e {te : TE} {a : EvA} (h : SL K cl te a) : SE K cl te (xL a) := fun Hin M0 as env σ H Q z env' e S q => by
  obtain ⟨⟨x, e1⟩, h1, e⟩ := map_some e
  cases e
  refine h Hin M0 as env σ H _ _ _ h1 S fun p vs H1 S1 s1 hp r1 => ?_
  obtain ⟨S2, s2⟩ := S1.grow (same_upd (o := .lst vs) hp)
  exact q _ _ S2 (s1.trans s2) (.lst (xs := vs) (Bv_new S1 hp) (RpA.mono s2.b _ _ r1))

/-! ### statements -/
@[simp] def sNext : EvS := fun env => some (.nx env)
@[simp] def sSeq (a b : EvS) : EvS := fun env => (a env).bind fun r => match r with
  | .nx e => b e
  | r => some r
theorem ss_next : SS K cl tNext sNext := fun Hin M0 as env σ H D r e S q => by
  cases e
  exact q as σ H S Step.refl
theorem ss_seq {t u : TS} {a b : EvS} (ha : SS K cl t a) (hb : SS K cl u b) : SS K cl (tSeq t u) (sSeq a b) := fun Hin M0 as env σ H D r e S q => by
  obtain ⟨r1, h1, e⟩ := bind_some e
  cases r1 with
  | nx e1 => exact ha Hin M0 as env σ H _ _ h1 S fun as' σ' H' S' s' => hb Hin M0 as' e1 σ' H' D r e S' (q.step s')
  | bk e1 => cases e; exact ha Hin M0 as env σ H _ _ h1 S q
  | ct e1 => cases e; exact ha Hin M0 as env σ H _ _ h1 S q
  | rt x e1 => cases e; exact ha Hin M0 as env σ H _ _ h1 S q
@[simp] def sBreak : EvS := fun env => some (.bk env)
@[simp] def sCont : EvS := fun env => some (.ct env)
theorem ss_break : SS K cl tBreak sBreak := fun Hin M0 as env σ H D r e S q => by
  cases e
  exact q as σ H S Step.refl
theorem ss_cont : SS K cl tCont sCont := fun Hin M0 as env σ H D r e S q => by
  cases e
  exact q as σ H S Step.refl
@[simp] def sIf (c : EvT) (a b : EvS) : EvS := fun env => (c env).bind fun p => if p.1 = true then a p.2 else b p.2
theorem ss_if {c : TT} {t u : TS} {ec : EvT} {a b : EvS} (hc : ST K cl c ec) (ha : SS K cl t a) (hb : SS K cl u b) : SS K cl (tIfS c t u) (sIf ec a b) := fun Hin M0 as env σ H D r e S q => by
  obtain ⟨⟨x, e1⟩, h1, h2⟩ := bind_some e
  refine hc Hin M0 as env σ H _ _ _ h1 S fun H1 S1 s1 => ?_
  cases x with
  | true => exact iteT (ha Hin M0 as e1 σ H1 D r (by simpa using h2) S1 (q.step s1))
  | false => exact iteF (hb Hin M0 as e1 σ H1 D r (by simpa using h2) S1 (q.step s1))
@[simp] def sRet (a : EvE) : EvS := fun env => (a env).map fun p => .rt p.1 p.2
theorem ss_ret {te : TE} {a : EvE} (ha : SE K cl te a) : SS K cl (tRet te) (sRet a) := fun Hin M0 as env σ H D r e S q => by
  obtain ⟨⟨x, e1⟩, h1, e⟩ := map_some e
  cases e
  exact ha Hin M0 as env σ H _ _ _ h1 S fun v H1 S1 s1 r1 => q as σ H1 v S1 s1 r1
@[simp] def sRetN : EvS := fun env => some (.rt .non env)
theorem ss_retN : SS K cl tRetN sRetN := fun Hin M0 as env σ H D r e S q => by
  cases e
  exact q as σ H _ S Step.refl .non
@[simp] def sDrop (a : EvE) : EvS := fun env => (a env).map fun p => .nx p.2
theorem ss_drop {te : TE} {a : EvE} (ha : SE K cl te a) : SS K cl (tDrop te) (sDrop a) := fun Hin M0 as env σ H D r e S q => by
  obtain ⟨⟨x, e1⟩, h1, e⟩ := map_some e
  cases e
  exact ha Hin M0 as env σ H _ _ _ h1 S fun v H1 S1 s1 r1 => q as σ H1 S1 s1

/-! ### targets -/
abbrev EvG := Dt → Env → Option Env
/-- T: the slots that it may store to -/
def SG (K : Fg) (cl : Nat → Addr) (T : List Nat) (g : TG) (b : EvG) : Prop := ∀ (Hin : Hp) (M0 : Addr → Prop) (as : Nat → Addr) (env : Env) (σ : L2.St) (H : Hp) (Q : L2.St → Hp → Prop) (x : Dt) (v : V) (env' : Env), b x env = some env' → StA K cl Hin M0 as env σ H → Rp K cl (Bv M0 as env H) v x →
  (∀ σ' H', StA K cl Hin M0 as env' σ' H' → Step M0 as env H as env' H' → (∀ vs : List Nat, (∀ i ∈ T, i ∈ vs) → wipe σ' vs = wipe σ vs) → Q σ' H') → g v σ H Q
def SGs (K : Fg) (cl : Nat → Addr) (T : List Nat) (g : TGs) (b : List Dt → Env → Option Env) : Prop := ∀ (Hin : Hp) (M0 : Addr → Prop) (as : Nat → Addr) (env : Env) (σ : L2.St) (H : Hp) (Q : L2.St → Hp → Prop) (xs : List Dt) (vs : List V) (env' : Env), b xs env = some env' → StA K cl Hin M0 as env σ H → RpA K cl (Bv M0 as env H) vs xs →
  (∀ σ' H', StA K cl Hin M0 as env' σ' H' → Step M0 as env H as env' H' → (∀ vs : List Nat, (∀ i ∈ T, i ∈ vs) → wipe σ' vs = wipe σ vs) → Q σ' H') → g vs σ H Q
theorem wipe_get {σ : L2.St} {k : Nat} : ∀ {vs : List Nat}, (wipe σ vs)[k]? = if k ∈ vs ∧ k < σ.length then some none else σ[k]?
  | [] => by simp [wipe]
  | v :: vs => by
    unfold wipe
    have ih := wipe_get (σ := σ) (k := k) (vs := vs)
    have hl := wipe_length σ vs
    by_cases hk : k = v
    · subst hk
      by_cases hl2 : k < σ.length
      · rw [List.getElem?_set_self (by rw [hl]; exact hl2), if_pos ⟨List.mem_cons_self .., hl2⟩]
      · rw [if_neg (fun z => hl2 z.2), List.getElem?_eq_none (by rw [List.length_set, hl]; omega), List.getElem?_eq_none (by omega)]
    · rw [List.getElem?_set_ne (Ne.symm hk), ih]
      have e : (k ∈ v :: vs ∧ k < σ.length) ↔ (k ∈ vs ∧ k < σ.length) := by
        rw [List.mem_cons]
        exact ⟨fun z => ⟨z.1.resolve_left hk, z.2⟩, fun z => ⟨.inr z.1, z.2⟩⟩
      simp only [e]
theorem wipe_set {σ : L2.St} {i : Nat} {x : Option V} {vs : List Nat} (h : i ∈ vs) : wipe (σ.set i x) vs = wipe σ vs := by
  apply List.ext_getElem?
  intro k
  rw [wipe_get, wipe_get, List.length_set]
  by_cases hk : k = i
  · subst hk
    by_cases hl : k < σ.length
    · rw [if_pos ⟨h, hl⟩, if_pos ⟨h, hl⟩]
    · rw [if_neg (fun z => hl z.2), if_neg (fun z => hl z.2), List.getElem?_eq_none (by rw [List.length_set]; omega), List.getElem?_eq_none (by omega)]
  · rw [List.getElem?_set_ne (Ne.symm hk)]
/-- slot i takes x -/
@[simp] def put (i : Nat) (x : Dt) (env : Env) : Option Env := match env[i]? with
  | some s => if s.isPar = true then none else some (env.set i (.d x))
  | none => none
theorem put_ok {i : Nat} {x : Dt} {env env' : Env} (h : put i x env = some env') : i < env.length ∧ (∀ o, env[i]? ≠ some (.par o)) ∧ env' = env.set i (.d x) := by
  unfold put at h
  split at h
  · rename_i s e
    split at h
    · cases h
    · rename_i hp
      cases h
      exact ⟨(List.getElem?_eq_some_iff.mp e).1, fun o z => hp (by rw [e] at z; cases z; rfl), rfl⟩
  · cases h
@[simp] def gN (i : Nat) : EvG := fun x env => put i x env
theorem sg_name (i : Nat) : SG K cl [i] (gName i) (gN i) := fun Hin M0 as env σ H Q x v env' h S r q => by
  obtain ⟨h1, h2, rfl⟩ := put_ok h
  obtain ⟨S', s'⟩ := S.setD h1 h2 r
  exact q _ _ S' s' fun vs hv => wipe_set (hv i (List.mem_singleton_self i))
@[simp] def gsNil : List Dt → Env → Option Env
  | [], env => some env
  | _, _ => none
@[simp] def gsCons (a : EvG) (b : List Dt → Env → Option Env) : List Dt → Env → Option Env
  | x :: xs, env => (a x env).bind (b xs)
  | [], _ => none
theorem sgs_nil : SGs K cl [] gNil gsNil := fun Hin M0 as env σ H Q xs vs env' h S r q => by
  cases xs with
  | nil =>
    cases h
    cases r
    exact ⟨rfl, q σ H S Step.refl fun _ _ => rfl⟩
  | cons => cases h
theorem sgs_cons {t : TG} {u : TGs} {a : EvG} {b : List Dt → Env → Option Env} {T1 T2 : List Nat} (ha : SG K cl T1 t a) (hb : SGs K cl T2 u b) : SGs K cl (T1 ++ T2) (gCons t u) (gsCons a b) := fun Hin M0 as env σ H Q xs vs env' h S r q => by
  cases xs with
  | nil => cases h
  | cons x xs =>
    obtain ⟨e1, h1, h⟩ := bind_some h
    cases r with
    | cons r1 r2 =>
      refine ⟨_, _, rfl, ha Hin M0 as env σ H _ _ _ e1 h1 S r1 fun σ1 H1 S1 s1 w1 => ?_⟩
      exact hb Hin M0 as e1 σ1 H1 Q _ _ env' h S1 (RpA.mono s1.b _ _ r2) fun σ2 H2 S2 s2 w2 => q σ2 H2 S2 (s1.trans s2) fun vs hv => (w2 vs fun i hi => hv i (List.mem_append_right _ hi)).trans (w1 vs fun i hi => hv i (List.mem_append_left _ hi))
@[simp] def gT (n : Nat) (b : List Dt → Env → Option Env) : EvG := fun x env => match x with
  | .tup xs => if xs.length = n then b xs env else none
  | _ => none
theorem sg_tup {n : Nat} {T : List Nat} {t : TGs} {b : List Dt → Env → Option Env} (hb : SGs K cl T t b) : SG K cl T (gTup K n t) (gT n b) := fun Hin M0 as env σ H Q x v env' h S r q => by
  cases x with
  | tup xs =>
    have h : (if xs.length = n then b xs env else none) = some env' := h
    split at h
    · rename_i hl
      cases r with
      | tup r1 r2 => exact ⟨_, _, rfl, same_t hd_same r1, r2.length.trans hl, hb Hin M0 as env σ H Q _ _ env' h S r2 q⟩
    · cases h
  | _ => cases h
@[simp] def sAsg (a : EvE) (g : EvG) : EvS := fun env => (a env).bind fun p => (g p.1 p.2).map .nx
theorem ss_asg {te : TE} {tg : TG} {a : EvE} {g : EvG} {T : List Nat} (ha : SE K cl te a) (hg : SG K cl T tg g) : SS K cl (tAsg te tg) (sAsg a g) := fun Hin M0 as env σ H D r e S q => by
  obtain ⟨⟨x, e1⟩, h1, e⟩ := bind_some e
  obtain ⟨e2, h2, e⟩ := map_some e
  cases e
  refine ha Hin M0 as env σ H _ _ _ h1 S fun v H1 S1 s1 r1 => ?_
  exact hg Hin M0 as e1 σ H1 _ _ _ e2 h2 S1 r1 fun σ2 H2 S2 s2 _ => q as σ2 H2 S2 (s1.trans s2)
/-- name = a new list -/
@[simp] def putO (i : Nat) (o : Oc) (env : Env) : Option Env := match env[i]? with
  | some s => if s.isPar = true then none else some (env.set i (.own o))
  | none => none
@[simp] def sAsgL (i : Nat) (a : EvA) : EvS := fun env => (a env).bind fun p => (putO i (.l p.1) p.2).map .nx
theorem putO_ok {i : Nat} {o : Oc} {env env' : Env} (h : putO i o env = some env') : i < env.length ∧ (∀ o, env[i]? ≠ some (.par o)) ∧ env' = env.set i (.own o) := by
  unfold putO at h
  split at h
  · rename_i s e
    split at h
    · cases h
    · rename_i hp
      cases h
      exact ⟨(List.getElem?_eq_some_iff.mp e).1, fun o z => hp (by rw [e] at z; cases z; rfl), rfl⟩
  · cases h
theorem ss_asgL {te : TE} {a : EvA} (i : Nat) (ha : SL K cl te a) : SS K cl (tAsg te (gName i)) (sAsgL i a) := fun Hin M0 as env σ H D r e S q => by
  obtain ⟨⟨x, e1⟩, h1, e⟩ := bind_some e
  obtain ⟨e2, h2, e⟩ := map_some e
  cases e
  obtain ⟨g1, g2, rfl⟩ := putO_ok h2
  refine ha Hin M0 as env σ H _ _ _ h1 S fun p vs H1 S1 s1 hp r1 => ?_
  obtain ⟨S2, s2⟩ := S1.setO (ho := .lst vs) (o := .l x) g1 g2 hp r1
  exact q _ _ _ S2 (s1.trans s2)
/-- the slot's object holds something else -/
@[simp] def putOc (i : Nat) (o : Oc) (env : Env) : Option Env := match env[i]? with
  | some (.own _) => some (env.set i (.own o))
  | some (.par _) => some (env.set i (.par o))
  | _ => none
theorem StA.putOc {Hin H : Hp} {M0 : Addr → Prop} {as : Nat → Addr} {env env' : Env} {σ : L2.St} {i : Nat} {o' : Oc} {ho : HO} (S : StA K cl Hin M0 as env σ H) (h : DL.putOc i o' env = some env') (r : RpO K cl (Bv M0 as env H) ho o') :
    StA K cl Hin M0 as env' σ (upd H (as i) ho) ∧ Step M0 as env H as env' (upd H (as i) ho) := by
  unfold DL.putOc at h
  split at h
  · rename_i o e
    cases h
    exact S.mut (ocAt_own e) rfl (fun ⟨p, z⟩ => by rw [e] at z; cases z) r
  · rename_i o e
    cases h
    exact S.mut (ocAt_par e) rfl (fun _ => ⟨_, rfl⟩) r
  · cases h
/-- x.append(e) -/
@[simp] def sApp (i : Nat) (a : EvE) : EvS := fun env => match ocAt env i with
  | some (.l _) => (a env).bind fun p => match ocAt p.2 i with
    | some (.l ds) => if ds.length < most then (putOc i (.l (ds ++ [p.1])) p.2).map .nx else none
    | _ => none
  | _ => none
theorem ocAt_some {env : Env} {i : Nat} {o : Oc} (h : ocAt env i = some o) : env[i]? = some (.own o) ∨ env[i]? = some (.par o) := by
  unfold ocAt at h
  cases e : env[i]? with
  | none => rw [e] at h; cases h
  | some s =>
    rw [e] at h
    cases s with
    | un => cases h
    | d => cases h
    | own o => cases h; exact .inl rfl
    | par o => cases h; exact .inr rfl
/-- an own slot stays own through a step, and its address -/
def keepsO (a : EvE) (i : Nat) : Prop := ∀ env x env', a env = some (x, env') → ∀ o, ocAt env' i = some o → ∃ o', ocAt env i = some o'
theorem ss_app {te : TE} {a : EvE} (i : Nat) (ha : SE K cl te a) : SS K cl (tDrop (tBM K "list" rAppend (tVar i) (tCons te tNil))) (sApp i a) := fun Hin M0 as env σ H D r e S q => by
  unfold sApp at e
  split at e
  · rename_i ds0 e0
    obtain ⟨⟨x, e1⟩, h1, e⟩ := bind_some e
    obtain ⟨g1, ho0, g2, g3⟩ := S.own_at e0
    cases ho0 with
    | lst vs0 =>
      refine ⟨_, g1, .inl ⟨rfl, _, .inl (.inl g2)⟩, ?_⟩
      refine ha Hin M0 as env σ H _ _ _ h1 S fun v H1 S1 s1 r1 => ?_
      split at e
      · rename_i ds e2
        obtain ⟨_, ho, k2, k3⟩ := S1.own_at e2
        cases ho with
        | lst vs =>
          split at e
          · rename_i hl
            obtain ⟨e3, h3, e⟩ := map_some e
            cases e
            have r3 : RpO K cl (Bv M0 as e1 H1) (.lst (vs ++ [v])) (.l (ds ++ [x])) := RpA.append k3 (.cons r1 .nil)
            obtain ⟨S3, s3⟩ := S1.putOc h3 r3
            refine ⟨_, vs, v, rfl, rfl, k2, most_lt (by rw [RpA.length k3]; exact hl), ?_⟩
            exact q as σ _ S3 (s1.trans s3)
          · cases e
        | _ => exact k3.elim
      · cases e
    | _ => exact g3.elim
  · cases e
/-- x[j] = e -/
@[simp] def sSetO (i : Nat) (a j : EvE) : EvS := fun env => (a env).bind fun p => (j p.2).bind fun q => match ocAt q.2 i, q.1 with
  | some (.l ds), .int k => match ixN ds.length k with
    | some m => (putOc i (.l (ds.set m p.1)) q.2).map .nx
    | none => none
  | _, _ => none
theorem ss_setO {te tj : TE} {a j : EvE} (i : Nat) (ha : SE K cl te a) (hj : SE K cl tj j) (hk : ∀ env x env', j env = some (x, env') → env' = env) : SS K cl (tAsg te (gSub (tVar i) tj rSetL)) (sSetO i a j) := fun Hin M0 as env σ H D r e S q => by
  obtain ⟨⟨x, e1⟩, h1, e⟩ := bind_some e
  obtain ⟨⟨y, e2⟩, h2, e⟩ := bind_some e
  obtain rfl := hk _ _ _ h2
  refine ha Hin M0 as env σ H _ _ _ h1 S fun v H1 S1 s1 r1 => ?_
  cases y with
  | int k =>
    cases e2o : ocAt e2 i with
    | none => simp only [e2o] at e; cases e
    | some o =>
      cases o with
      | t => simp only [e2o] at e; cases e
      | o => simp only [e2o] at e; cases e
      | l ds =>
        simp only [e2o] at e
        obtain ⟨g1, _⟩ := S1.own_at e2o
        refine ⟨_, g1, ?_⟩
        refine hj Hin M0 as _ σ H1 _ _ _ h2 S1 fun w H2 S2 s2 r2 => ?_
        cases r2
        obtain ⟨_, ho, k2, k3⟩ := S2.own_at e2o
        cases ho with
        | lst vs =>
          cases hm : ixN ds.length k with
          | none => simp only [hm] at e; cases e
          | some m =>
            simp only [hm] at e
            obtain ⟨e3, h3, e⟩ := map_some e
            cases e
            have r3 : RpO K cl (Bv M0 as e2 H2) (.lst (vs.set m v)) (.l (ds.set m x)) := RpA.set (Rp.mono s2.b _ _ r1) m k3
            obtain ⟨S3, s3⟩ := S2.putOc h3 r3
            refine ⟨_, vs, k, m, rfl, rfl, k2, by rw [RpA.length k3]; exact hm, ?_⟩
            exact q as σ _ S3 ((s1.trans s2).trans s3)
        | _ => exact k3.elim
  | _ => simp at e
end DL

set_option Elab.async false
set_option linter.all false
set_option maxRecDepth 100000
set_option maxHeartbeats 4000000
namespace DL
open PySem PySem.Spec PyProof.Rows L2
variable {K : Fg} {cl : Nat → Addr}

/-! ### what is walked -/
abbrev EvI := Env → Option (List Dt × Env)
/-- J hands out xs, whatever else changes behind B -/
structure Feeds (K : Fg) (cl : Nat → Addr) (J : It) (B : Hp) (xs : List Dt) : Prop where
  go : ∀ (H : Hp) (i : Nat), Same B H → i < xs.length → J.go i H
  stop : ∀ (H : Hp) (i : Nat), Same B H → xs.length ≤ i → J.stop i H
  yld : ∀ (H H' : Hp) (i : Nat) (v : V) (M : Addr → Prop), Same B (hd M H) → (∀ a, M a → H a ≠ none) → i < xs.length → J.yld i H v H' → Same H H' ∧ ∃ x, xs[i]? = some x ∧ Rp K cl (hd M H') v x
def SI (K : Fg) (cl : Nat → Addr) (wi : TI) (ev : EvI) : Prop := ∀ (Hin : Hp) (M0 : Addr → Prop) (as : Nat → Addr) (env : Env) (σ : L2.St) (H : Hp) (R : It → Hp → Prop) (xs : List Dt) (env' : Env), ev env = some (xs, env') → StA K cl Hin M0 as env σ H →
  (∀ J H', StA K cl Hin M0 as env' σ H' → Step M0 as env H as env' H' → Feeds K cl J (Bv M0 as env' H') xs → R J H') → wi σ H R
structure VI (cl : Nat → Addr) (X : Cx) (tg iter : Expr) (wi : TI) (ev : EvI) : Prop where
  pe : PI X tg iter wi
  so : SI X.K cl wi ev
theorem sql_all {K : Fg} {B : Hp} {a : Addr} {xs : List V} (h : B a = some (.lst xs)) : SqL K B a xs := .inl (.inl h)
/-- what SqL says is one list -/
theorem feeds_list {B : Hp} {a : Addr} {vs : List V} {xs : List Dt} (h : SqL K B a vs) (r : RpA K cl B vs xs) : Feeds K cl (Itl K a) B xs := by
  have hl := r.length
  refine ⟨fun H i e hi => ⟨vs, vs[i]'(by omega), e.seq h, by simp [hl, hi]⟩, fun H i e hi => ⟨vs, e.seq h, by omega⟩, fun H H' i v M e hM hi y => ?_⟩
  obtain ⟨rfl, y⟩ := y
  have g := y vs ((e.trans hd_same).seq h)
  obtain ⟨x, hx, rx⟩ := r.get' g
  exact ⟨Same.refl _, x, hx, Rp.mono e _ _ rx⟩
theorem feeds_tup {B : Hp} {a : Addr} {vs : List V} {xs : List Dt} (h : SqT K B a vs) (r : RpA K cl B vs xs) : Feeds K cl (Itt K a) B xs := by
  have hl := r.length
  refine ⟨fun H i e hi => ⟨vs, vs[i]'(by omega), same_t e h, by simp [hl, hi]⟩, fun H i e hi => ⟨vs, same_t e h, by omega⟩, fun H H' i v M e hM hi y => ?_⟩
  obtain ⟨rfl, y⟩ := y
  have g := y vs (same_t (e.trans hd_same) h)
  obtain ⟨x, hx, rx⟩ := r.get' g
  exact ⟨Same.refl _, x, hx, Rp.mono e _ _ rx⟩
def rangeD (lo : Int) (n : Nat) : List Dt := (List.range n).map fun (k : Nat) => .int (lo + (k : Int))
theorem rangeD_len (lo : Int) (n : Nat) : (rangeD lo n).length = n := by unfold rangeD; rw [List.length_map, List.length_range]
theorem feeds_range {B : Hp} (lo : Int) (n : Nat) : Feeds K cl (Itr lo n) B (rangeD lo n) := by
  refine ⟨fun H i _ hi => by rw [rangeD_len] at hi; exact hi, fun H i _ hi => by rw [rangeD_len] at hi; exact hi, fun H H' i v M e hM hi y => ?_⟩
  obtain ⟨rfl, rfl⟩ := y
  rw [rangeD_len] at hi
  refine ⟨Same.refl _, .int (lo + (i : Int)), ?_, .int _⟩
  unfold rangeD
  rw [List.getElem?_map, List.getElem?_range hi]
  rfl
/-- a list, a tuple -/
def tSq (K : Fg) (tl : TE) : TI := fun σ H R => tl σ H fun x H1 => ∃ a, x = .ref a ∧ ((∃ xs, SqL K H1 a xs) ∧ R (Itl K a) H1 ∨ (∃ xs, SqT K H1 a xs) ∧ R (Itt K a) H1)
theorem pi_sq {X : Cx} {tg l : Expr} {tl : TE} (hl : PE X l tl) : PI X tg l (tSq X.K tl) := by
  refine ⟨fun pins s σ H R I h => ?_⟩
  refine thn (hl.run pins s σ H _ I h) fun v s1 ⟨x, H1, I1, r1, q1⟩ => ?_
  obtain ⟨a, e, q1⟩ := q1
  subst e
  cases r1
  rcases q1 with ⟨⟨xs, hq⟩, q⟩ | ⟨⟨xs, hq⟩, q⟩
  · obtain ⟨its, rv, p, hz⟩ := I1.list hq
    refine wpAny_pyIter_list p.isList ?_
    refine ⟨s1.heap.objs.size, [s1.heap.objs.size], _, _, H1, rfl, I1.kept (t' := s1.toks) fun b o e => Heap.get?_push_of_some _ e, turn_list a _, ⟨_, Heap.get?_push_size _ rfl, rfl, rfl⟩, fun b hb => ?_, q⟩
    have e : b = s1.heap.objs.size := by simpa using hb
    subst e
    exact I1.fpOk (Nat.le_refl _) (I1.hok.fresh (Nat.le_refl _))
  · obtain ⟨its, rv, p, hz⟩ := I1.tuple hq
    refine wpAny_pyIter_tuple (show s1.heap.IsTuple a its.toArray from p) ?_
    refine ⟨s1.heap.objs.size, [s1.heap.objs.size], _, _, H1, rfl, I1.kept (t' := s1.toks) fun b o e => Heap.get?_push_of_some _ e, turn_tuple a _, ⟨_, Heap.get?_push_size _ rfl, rfl, rfl⟩, fun b hb => ?_, q⟩
    have e : b = s1.heap.objs.size := by simpa using hb
    subst e
    exact I1.fpOk (Nat.le_refl _) (I1.hok.fresh (Nat.le_refl _))
@[simp] def seqOf : Dt → Option (List Dt)
  | .lst ds => some ds
  | .tup ds => some ds
  | .scr ns => some (ns.map .int)
  | _ => none
@[simp] def iSq (a : EvE) : EvI := fun env => (a env).bind fun p => (seqOf p.1).map fun xs => (xs, p.2)
theorem si_sq {tl : TE} {a : EvE} (ha : SE K cl tl a) : SI K cl (tSq K tl) (iSq a) := fun Hin M0 as env σ H R xs env' e S q => by
  obtain ⟨⟨x, e1⟩, h1, e⟩ := bind_some e
  obtain ⟨ys, h2, e⟩ := map_some e
  cases e
  refine ha Hin M0 as env σ H _ _ _ h1 S fun v H1 S1 s1 r1 => ?_
  cases x with
  | lst ds =>
    cases h2
    cases r1 with
    | lst g1 g2 => exact ⟨_, rfl, .inl ⟨⟨_, hd_same.seq (sql_all g1)⟩, q _ H1 S1 s1 (feeds_list (sql_all g1) g2)⟩⟩
  | tup ds =>
    cases h2
    cases r1 with
    | tup g1 g2 => exact ⟨_, rfl, .inr ⟨⟨_, same_t hd_same g1⟩, q _ H1 S1 s1 (feeds_tup g1 g2)⟩⟩
  | scr ns =>
    cases h2
    cases r1 with
    | scr g1 => exact ⟨_, rfl, .inl ⟨⟨_, hd_same.seq g1⟩, q _ H1 S1 s1 (feeds_list g1 (RpA.ofInts ns))⟩⟩
  | _ => cases h2
/-- ranges -/
@[simp] def iR1 (a : EvA) : EvI := fun env => (a env).bind fun p => match p.1 with
  | [.int j] => if -1000000000000000000 ≤ j ∧ j ≤ 1000000000000000000 then some (rangeD 0 j.toNat, p.2) else none
  | _ => none
theorem si_r1 {ta : TA} {a : EvA} (ha : SA K cl ta a) : SI K cl (iRng1 ta) (iR1 a) := fun Hin M0 as env σ H R xs env' e S q => by
  obtain ⟨⟨x, e1⟩, h1, e⟩ := bind_some e
  split at e
  · rename_i j hx
    split at e
    · rename_i hj
      cases e
      refine ha Hin M0 as env σ H _ _ _ h1 S fun v H1 S1 s1 r1 => ?_
      have hx : x = [.int j] := hx
      subst hx
      cases r1 with
      | cons g1 g2 =>
        cases g1
        cases g2
        exact ⟨j, rfl, by omega, by omega, q _ H1 S1 s1 (feeds_range 0 j.toNat)⟩
    · cases e
  · cases e
@[simp] def iR2 (a : EvA) : EvI := fun env => (a env).bind fun p => match p.1 with
  | [.int i, .int j] => if (-1000000000000000000 ≤ i ∧ i ≤ 1000000000000000000) ∧ -1000000000000000000 ≤ j ∧ j ≤ 1000000000000000000 then some (rangeD i (j - i).toNat, p.2) else none
  | _ => none
theorem si_r2 {ta : TA} {a : EvA} (ha : SA K cl ta a) : SI K cl (iRng2 ta) (iR2 a) := fun Hin M0 as env σ H R xs env' e S q => by
  obtain ⟨⟨x, e1⟩, h1, e⟩ := bind_some e
  split at e
  · rename_i i j hx
    split at e
    · rename_i hj
      cases e
      refine ha Hin M0 as env σ H _ _ _ h1 S fun v H1 S1 s1 r1 => ?_
      have hx : x = [.int i, .int j] := hx
      subst hx
      cases r1 with
      | cons g1 g2 =>
        cases g1
        cases g2 with
        | cons g1 g2 =>
          cases g1
          cases g2
          exact ⟨i, j, rfl, ⟨by omega, by omega, by omega, by omega⟩, q _ H1 S1 s1 (feeds_range i (j - i).toNat)⟩
    · cases e
  · cases e

/-! ### loops -/
def loopE (g : EvG) (b : EvS) : List Dt → EvS
  | [], env => some (.nx env)
  | x :: xs, env => (g x env).bind fun e => (b e).bind fun r => match r with
    | .nx e1 => loopE g b xs e1
    | .ct e1 => loopE g b xs e1
    | .bk e1 => some (.nx e1)
    | .rt y e1 => some (.rt y e1)
@[simp] def sFor (it : EvI) (g : EvG) (b : EvS) : EvS := fun env => (it env).bind fun p => loopE g b p.1 p.2
theorem ss_for {wi : TI} {tg : TG} {tb : TS} {it : EvI} {g : EvG} {b : EvS} {T : List Nat} (hi : SI K cl wi it) (hg : SG K cl T tg g) (hb : SS K cl tb b) : SS K cl (tFor wi tg tb) (sFor it g b) := fun Hin M0 as env σ H D r e S q => by
  obtain ⟨⟨xs, e1⟩, h1, e⟩ := bind_some e
  refine hi Hin M0 as env σ H _ _ _ h1 S fun J H1 S1 s1 F => ?_
  refine ⟨fun i m σ' H' => m = xs.length - i ∧ i ≤ xs.length ∧ ∃ as' env', StA K cl Hin M0 as' env' σ' H' ∧ Step M0 as e1 H1 as' env' H' ∧ loopE g b (xs.drop i) env' = some r, ⟨xs.length, by simp, Nat.zero_le _, as, e1, S1, Step.refl, by simpa using e⟩, ?_⟩
  rintro i m σ' H' ⟨rfl, hi, as', env', S', s', hr⟩
  by_cases hlt : i < xs.length
  · have hd : xs.drop i = xs[i] :: xs.drop (i + 1) := List.drop_eq_getElem_cons hlt
    rw [hd] at hr
    obtain ⟨e2, h2, hr⟩ := bind_some hr
    obtain ⟨r2, h3, hr⟩ := bind_some hr
    have sB : Same (Bv M0 as e1 H1) H' := s'.b.trans hd_same
    refine .inr ⟨F.go H' i sB hlt, fun σ2 H2 => ∃ as2 env2, StA K cl Hin M0 as2 env2 σ2 H2 ∧ Step M0 as e1 H1 as2 env2 H2 ∧ loopE g b (xs.drop (i + 1)) env2 = some r, fun σ2 H2 ⟨as2, env2, S2, s2, h⟩ => ⟨xs.length - (i + 1), by omega, rfl, hlt, as2, env2, S2, s2, h⟩, fun v H3 hy => ?_⟩
    obtain ⟨sm, x, hx, rx⟩ := F.yld H' H3 i v (MP M0 as' env') s'.b (fun a h => S'.dom h) hlt hy
    rw [List.getElem?_eq_getElem hlt] at hx
    cases hx
    obtain ⟨S3, s3⟩ := S'.grow sm
    refine hg Hin M0 as' env' σ' H3 _ _ v e2 h2 S3 rx fun σ4 H4 S4 s4 _ => ?_
    refine hb Hin M0 as' e2 σ4 H4 _ r2 h3 S4 ?_
    have st := (s'.trans s3).trans s4
    cases r2 with
    | nx e5 => exact fun as5 σ5 H5 S5 s5 => ⟨as5, e5, S5, st.trans s5, hr⟩
    | ct e5 => exact fun as5 σ5 H5 S5 s5 => ⟨as5, e5, S5, st.trans s5, hr⟩
    | bk e5 => cases hr; exact fun as5 σ5 H5 S5 s5 => q as5 σ5 H5 S5 (s1.trans (st.trans s5))
    | rt y e5 => cases hr; exact fun as5 σ5 H5 w S5 s5 r5 => q as5 σ5 H5 w S5 (s1.trans (st.trans s5)) r5
  · have he : i = xs.length := by omega
    subst he
    rw [List.drop_length] at hr
    cases hr
    exact .inl ⟨F.stop H' _ (s'.b.trans hd_same) (Nat.le_refl _), q as' σ' H' S' (s1.trans s')⟩
/-- while, at most so many turns -/
def whileE (c : EvT) (b : EvS) : Nat → EvS
  | 0, _ => none
  | n + 1, env => (c env).bind fun p => if p.1 = true then (b p.2).bind fun r => (match r with
    | .nx e1 => whileE c b n e1
    | .ct e1 => whileE c b n e1
    | .bk e1 => some (.nx e1)
    | .rt y e1 => some (.rt y e1)) else some (.nx p.2)
theorem ss_while {tc : TT} {tb : TS} {c : EvT} {b : EvS} (n : Nat) (hc : ST K cl tc c) (hb : SS K cl tb b) : SS K cl (tWhile tc tb) (whileE c b n) := fun Hin M0 as env σ H D r e S q => by
  refine ⟨fun m σ' H' => ∃ as' env', StA K cl Hin M0 as' env' σ' H' ∧ Step M0 as env H as' env' H' ∧ whileE c b m env' = some r, ⟨n, as, env, S, Step.refl, e⟩, ?_⟩
  rintro m σ' H' ⟨as', env', S', s', hr⟩
  cases m with
  | zero => cases hr
  | succ m =>
    obtain ⟨⟨k, e1⟩, h1, hr⟩ := bind_some hr
    refine hc Hin M0 as' env' σ' H' _ _ _ h1 S' fun H1 S1 s1 => ?_
    cases k with
    | true =>
      have hr : ((b e1).bind fun r => (match r with
        | .nx e1 => whileE c b m e1
        | .ct e1 => whileE c b m e1
        | .bk e1 => some (.nx e1)
        | .rt y e1 => some (.rt y e1))) = some r := by simpa using hr
      obtain ⟨r2, h3, hr⟩ := bind_some hr
      refine iteT ⟨fun σ2 H2 => ∃ as2 env2, StA K cl Hin M0 as2 env2 σ2 H2 ∧ Step M0 as env H as2 env2 H2 ∧ whileE c b m env2 = some r, fun σ2 H2 h => ⟨m, Nat.lt_succ_self m, h⟩, ?_⟩
      refine hb Hin M0 as' e1 σ' H1 _ r2 h3 S1 ?_
      have st := s'.trans s1
      cases r2 with
      | nx e5 => exact fun as5 σ5 H5 S5 s5 => ⟨as5, e5, S5, st.trans s5, hr⟩
      | ct e5 => exact fun as5 σ5 H5 S5 s5 => ⟨as5, e5, S5, st.trans s5, hr⟩
      | bk e5 => cases hr; exact fun as5 σ5 H5 S5 s5 => q as5 σ5 H5 S5 (st.trans s5)
      | rt y e5 => cases hr; exact fun as5 σ5 H5 w S5 s5 r5 => q as5 σ5 H5 w S5 (st.trans s5) r5
    | false =>
      cases (show some (Rs.nx e1) = some r by simpa using hr)
      exact iteF (q as' σ' H1 S1 (s'.trans s1))

/-! ### defs -/
@[simp] def endOf : Option Rs → Option (Dt × Env)
  | some (.rt x e) => some (x, e)
  | some (.nx e) => some (.non, e)
  | _ => none
@[simp] def runE (N : Nat) (ev : EvS) (ds : List Dt) : Option Dt := (endOf (ev (ds.map Sc.d ++ List.replicate (N - ds.length) .un))).map (·.1)
/-- a def that hands back the value of f -/
def spE (K : Fg) (cl : Nat → Addr) (n : Nat) (f : List Dt → Option Dt) : Sp := fun vs H Q _ => ∃ (M0 : Addr → Prop) (ds : List Dt) (r : Dt), (∀ a, M0 a → H a ≠ none) ∧ ds.length = n ∧ RpA K cl (hd M0 H) vs ds ∧ f ds = some r ∧ ∀ v H', Same H H' → Rp K cl (hd M0 H') v r → Q v H'
/-- .. whose first argument is a list of its caller's, which it may change -/
def spO (K : Fg) (cl : Nat → Addr) (n : Nat) (f : Oc → List Dt → Option (Dt × Oc)) : Sp := fun vs H Q _ => ∃ (b : Addr) (us : List V) (M0 : Addr → Prop) (o o' : Oc) (ho : HO) (ds : List Dt) (r : Dt), vs = .ref b :: us ∧ ¬ M0 b ∧ (∀ a, M0 a → H a ≠ none) ∧ ds.length = n ∧ H b = some ho ∧
  RpO K cl (hd (fun a => M0 a ∨ a = b) H) ho o ∧ RpA K cl (hd (fun a => M0 a ∨ a = b) H) us ds ∧ f o ds = some (r, o') ∧
  ∀ v H' ho', (∀ a u, a ≠ b → H a = some u → H' a = some u) → H' b = some ho' → RpO K cl (hd (fun a => M0 a ∨ a = b) H') ho' o' → Rp K cl (hd (fun a => M0 a ∨ a = b) H') v r → Q v H'
@[simp] def runO (N : Nat) (ev : EvS) (o : Oc) (ds : List Dt) : Option (Dt × Oc) := (endOf (ev (.par o :: ds.map Sc.d ++ List.replicate (N - (ds.length + 1)) .un))).bind fun p => match p.2 with
  | .par o' :: _ => some (p.1, o')
  | _ => none
theorem oc_rep {m i : Nat} {o : Oc} {ds : List Dt} : ocAt (ds.map Sc.d ++ List.replicate m .un) i ≠ some o := fun h => by
  unfold ocAt at h
  rw [List.getElem?_append] at h
  split at h
  · rw [List.getElem?_map] at h
    cases e : ds[i]? with
    | none => rw [e] at h; cases h
    | some d => rw [e] at h; cases h
  · rw [List.getElem?_replicate] at h
    split at h <;> cases h
theorem start_get {N : List Str} {vs : List V} {i : Nat} {v : V} (h : vs[i]? = some v) : (start N vs)[i]? = some (some v) := by
  unfold L2.start
  have hi : i < vs.length := (List.getElem?_eq_some_iff.mp h).1
  rw [List.getElem?_append_left (by rw [List.length_map]; exact hi), List.getElem?_map, h]
  rfl
theorem start_len {N : List Str} {vs : List V} (h : vs.length ≤ N.length) : (start N vs).length = N.length := by
  unfold L2.start
  rw [List.length_append, List.length_map, List.length_replicate]
  omega
theorem slots_ok {B H : Hp} {l : Addr} {N : List Str} : ∀ {vs : List V} {ds : List Dt}, RpA K cl B vs ds → ∀ {m i : Nat} {sc : Sc}, (ds.map Sc.d ++ List.replicate m .un)[i]? = some sc → SlOk K cl B H l ((start N vs)[i]?) sc := fun {vs ds} r m i sc h => by
  rw [List.getElem?_append] at h
  split at h
  · rename_i hi
    rw [List.getElem?_map] at h
    cases e : ds[i]? with
    | none => rw [e] at h; cases h
    | some d =>
      rw [e] at h
      cases h
      obtain ⟨v, h1, h2⟩ := r.get e
      exact ⟨v, start_get h1, h2⟩
  · rw [List.getElem?_replicate] at h
    split at h
    · cases h; trivial
    · cases h
section
variable {P : Program} {w : World} {mg : Str → Option Value} {base : Heap}
theorem fn_e {x qual : Str} {st : Stmt} {f : Addr} {fd : FuncData} {N ps : List Str} {k : Nat} {ev : EvS} (F : Fun K x qual st f fd) (S : FnScope N ps (defScope st)) (hps : ps.length ≤ N.length)
    (hb : ∀ (cdv : Value) (A : Around) (outer : List PySem.Env) (s : Shared) (H : Hp) (E : XK), Room k (A.deeper (envOfC qual (defScope st) s.heap.objs.size f cdv)) →
      ∃ ts, VB cl (cxOf CX0 P w K mg base N qual (defScope st) f cdv A outer s H E).nox (defBody st) ts ev) : FnOk P w K mg base CX0 (k + 1) f fd ps (spE K cl ps.length (runE N.length ev)) := by
  refine F.ok S (fun vs H Q E h => ?_) (fun cdv A outer s H vs Q E hr h => ?_)
  · obtain ⟨M0, ds, r, _, hl, ra, _⟩ := h
    rw [ra.length, hl]
  · obtain ⟨ts, hB⟩ := hb cdv A outer s H E hr
    refine ⟨ts, hB.pe, ?_⟩
    obtain ⟨M0, ds, r, hm, hl, ra, hf, q⟩ := h
    have hvl : vs.length = ps.length := ra.length.trans hl
    have hmp : MP M0 (fun _ => 0) (ds.map Sc.d ++ List.replicate (N.length - ds.length) .un) = M0 := by
      funext a
      exact propext ⟨fun z => z.elim id fun ⟨i, o, z, _⟩ => (oc_rep z).elim, .inl⟩
    have hBv : Bv M0 (fun _ => 0) (ds.map Sc.d ++ List.replicate (N.length - ds.length) .un) H = hd M0 H := by unfold Bv; rw [hmp]
    have S0 : StA K cl H M0 (fun _ => 0) (ds.map Sc.d ++ List.replicate (N.length - ds.length) .un) (start N vs) H := by
      refine ⟨?_, Same.refl _, fun i o z => (oc_rep z).elim, hm, fun i j o o' z _ _ => (oc_rep z).elim, fun i sc h => ?_⟩
      · rw [start_len (by omega), List.length_append, List.length_map, List.length_replicate]
        omega
      · rw [hBv]
        exact slots_ok ra h
    unfold runE at hf
    obtain ⟨⟨x, e1⟩, hf, hx⟩ := map_some hf
    subst hx
    cases hev : ev (ds.map Sc.d ++ List.replicate (N.length - ds.length) .un) with
    | none => rw [hev] at hf; cases hf
    | some rs =>
      rw [hev] at hf
      refine hB.so H M0 _ _ _ H _ rs hev S0 ?_
      cases rs with
      | nx e => cases hf; exact fun as' σ' H' S' s' => q _ H' S'.same .non
      | rt y e =>
        cases hf
        exact fun as' σ' H' v S' s' rv => q v H' S'.same (Rp.mono (hd_mono (fun a _ h => .inl h) (Same.refl _)) _ _ rv)
      | bk e => cases hf
      | ct e => cases hf
end
end DL

set_option Elab.async false
set_option linter.all false
set_option maxRecDepth 100000
set_option maxHeartbeats 4000000
namespace DL
open PySem PySem.Spec PyProof.Rows L2
variable {K : Fg} {cl : Nat → Addr}
section
variable {P : Program} {w : World} {mg : Str → Option Value} {base : Heap}
theorem hd_hd {M : Addr → Prop} {b : Addr} {H : Hp} : hd M (hd (fun a => a = b) H) = hd (fun a => M a ∨ a = b) H := by
  funext a
  by_cases h1 : M a
  · rw [hd_in h1, hd_in (.inl h1)]
  · rw [hd_out h1]
    by_cases h2 : a = b
    · rw [hd_in (M := fun a => a = b) h2, hd_in (.inr h2)]
    · rw [hd_out (M := fun a => a = b) h2, hd_out (fun z => z.elim h1 h2)]
theorem fn_o {x qual : Str} {st : Stmt} {f : Addr} {fd : FuncData} {N ps : List Str} {k n : Nat} {ev : EvS} (F : Fun K x qual st f fd) (S : FnScope N ps (defScope st)) (hps : ps.length ≤ N.length) (hn : ps.length = n + 1)
    (hb : ∀ (cdv : Value) (A : Around) (outer : List PySem.Env) (s : Shared) (H : Hp) (E : XK), Room k (A.deeper (envOfC qual (defScope st) s.heap.objs.size f cdv)) →
      ∃ ts, VB cl (cxOf CX0 P w K mg base N qual (defScope st) f cdv A outer s H E).nox (defBody st) ts ev) : FnOk P w K mg base CX0 (k + 1) f fd ps (spO K cl n (runO N.length ev)) := by
  refine F.ok S (fun vs H Q E h => ?_) (fun cdv A outer s H vs Q E hr h => ?_)
  · obtain ⟨b, us, M0, o, o', ho, ds, r, rfl, _, _, hl, _, _, ra, _⟩ := h
    rw [List.length_cons, ra.length, hl, hn]
  · obtain ⟨ts, hB⟩ := hb cdv A outer s H E hr
    refine ⟨ts, hB.pe, ?_⟩
    obtain ⟨b, us, M0, o, o', ho, ds, r, rfl, hnb, hm, hl, hH, ro, ra, hf, q⟩ := h
    have hvl : us.length = n := ra.length.trans hl
    let env0 : Env := .par o :: ds.map Sc.d ++ List.replicate (N.length - (ds.length + 1)) .un
    have hoc : ∀ i p, ocAt env0 i = some p → i = 0 ∧ p = o := fun i p z => by
      cases i with
      | zero => cases z; exact ⟨rfl, rfl⟩
      | succ i => exact (oc_rep (i := i) (show ocAt (ds.map Sc.d ++ List.replicate (N.length - (ds.length + 1)) .un) i = some p from z)).elim
    have hmp : MP M0 (fun _ => b) env0 = fun a => M0 a ∨ a = b := by
      funext a
      exact propext ⟨fun z => z.elim .inl fun ⟨i, o, z, e⟩ => .inr e.symm, fun z => z.elim .inl fun e => .inr ⟨0, o, rfl, e.symm⟩⟩
    have hBv : Bv M0 (fun _ => b) env0 H = hd (fun a => M0 a ∨ a = b) H := by unfold Bv; rw [hmp]
    have S0 : StA K cl (hd (fun a => a = b) H) M0 (fun _ => b) env0 (start N (.ref b :: us)) H := by
      refine ⟨?_, hd_same, fun i o z => ⟨hd_in rfl, hnb⟩, fun a ha => hm a ha, fun i j o o' z z' _ => ?_, fun i sc h => ?_⟩
      · rw [start_len (by rw [List.length_cons]; omega)]
        show N.length = (List.map Sc.d ds ++ List.replicate (N.length - (ds.length + 1)) Sc.un).length + 1
        rw [List.length_append, List.length_map, List.length_replicate]
        omega
      · rw [(hoc i o z).1, (hoc j o' z').1]
      · rw [hBv]
        cases i with
        | zero => cases h; exact ⟨rfl, ho, hH, ro⟩
        | succ i =>
          have q := slots_ok (N := N) (H := H) (l := b) ra (m := N.length - (ds.length + 1)) (i := i) (sc := sc) h
          have e2 : (start N (.ref b :: us))[i + 1]? = (us.map some ++ List.replicate (N.length - (us.length + 1)) none)[i]? := rfl
          rw [e2]
          cases sc with
          | un => trivial
          | d y =>
            obtain ⟨v, g1, g2⟩ := q
            have hi : i < us.length := by
              have h : (ds.map Sc.d ++ List.replicate (N.length - (ds.length + 1)) .un)[i]? = some (Sc.d y) := h
              rw [List.getElem?_append] at h
              split at h
              · rename_i hi; rw [List.length_map] at hi; rw [ra.length]; exact hi
              · rw [List.getElem?_replicate] at h; split at h <;> cases h
            refine ⟨v, ?_, g2⟩
            unfold L2.start at g1
            rw [List.getElem?_append_left (by rw [List.length_map]; exact hi)] at g1 ⊢
            exact g1
          | own p => exact (oc_rep (ocAt_own (env := ds.map Sc.d ++ List.replicate (N.length - (ds.length + 1)) .un) h)).elim
          | par p => exact (oc_rep (ocAt_par (env := ds.map Sc.d ++ List.replicate (N.length - (ds.length + 1)) .un) h)).elim
    unfold runO at hf
    obtain ⟨⟨x, e1⟩, hf, hx⟩ := bind_some hf
    have fin : ∀ as' σ' H' v, StA K cl (hd (fun a => a = b) H) M0 as' e1 σ' H' → Step M0 (fun _ => b) env0 H as' e1 H' → Rp K cl (Bv M0 as' e1 H') v x → Q v H' := fun as' σ' H' v S' s' rv => by
      obtain ⟨ea, o2, e2⟩ := s'.p 0 o rfl
      cases e1 with
      | nil => cases hx
      | cons sc e1 =>
        cases (show sc = .par o2 from Option.some.inj e2)
        cases hx
        obtain ⟨_, ho', g2, g3⟩ := S'.own_at (i := 0) rfl
        rw [ea] at g2
        have mono : Same (Bv M0 as' (.par o' :: e1) H') (hd (fun a => M0 a ∨ a = b) H') := hd_mono (fun a _ h => h.elim .inl fun e => .inr ⟨0, o', rfl, by rw [e]; exact ea⟩) (Same.refl _)
        exact q v H' ho' (fun a u ha hu => S'.same a u (by rw [hd_out (M := fun a => a = b) ha]; exact hu)) g2 (g3.mono mono) (Rp.mono mono _ _ rv)
    cases hev : ev env0 with
    | none => rw [show endOf (ev (.par o :: ds.map Sc.d ++ List.replicate (N.length - (ds.length + 1)) .un)) = endOf none from congrArg endOf hev] at hf; cases hf
    | some rs =>
      rw [show endOf (ev (.par o :: ds.map Sc.d ++ List.replicate (N.length - (ds.length + 1)) .un)) = endOf (some rs) from congrArg endOf hev] at hf
      refine hB.so _ M0 _ _ _ H _ rs hev S0 ?_
      cases rs with
      | nx e => cases hf; exact fun as' σ' H' S' s' => fin as' σ' H' _ S' s' .non
      | rt y e => cases hf; exact fun as' σ' H' v S' s' rv => fin as' σ' H' v S' s' rv
      | bk e => cases hf
      | ct e => cases hf
end

/-! ### calls -/
@[simp] def callF (n : Nat) (f : List Dt → Option Dt) (ds : List Dt) : Option Dt := if ds.length = n then f ds else none
theorem se_call {n : Nat} {f : List Dt → Option Dt} {t : TA} {a : EvA} (ha : SA K cl t a) : SE K cl (tCall (spE K cl n f) [] E0 t) (xB (callF n f) a) := fun Hin M0 as env σ H Q x env' e S q => by
  obtain ⟨⟨ds, e1⟩, h1, e⟩ := bind_some e
  obtain ⟨z, h3, e⟩ := map_some e
  cases e
  refine ha Hin M0 as env σ H _ _ _ h1 S fun vs H1 S1 s1 r1 => ?_
  have h3 : (if ds.length = n then f ds else none) = some x := h3
  split at h3
  · rename_i hl
    show spE K cl n f (vs ++ []) H1 Q E0
    rw [List.append_nil]
    refine ⟨MP M0 as e1, ds, x, fun a h => S1.dom h, hl, r1, h3, fun v H2 sm rv => ?_⟩
    obtain ⟨S2, s2⟩ := S1.grow sm
    exact q v H2 S2 (s1.trans s2) rv
  · cases h3
/-- f(box, ..): the box's slot holds something else behind -/
@[simp] def xCallO (n : Nat) (f : Oc → List Dt → Option (Dt × Oc)) (i : Nat) (a : EvA) : EvE := fun env => match ocAt env i with
  | some _ => (a env).bind fun p => if p.1.length = n then (match ocAt p.2 i with
    | some o => (f o p.1).bind fun r => (putOc i r.2 p.2).map fun e => (r.1, e)
    | none => none) else none
  | none => none
theorem se_callO {n : Nat} {f : Oc → List Dt → Option (Dt × Oc)} {t : TA} {a : EvA} (i : Nat) (ha : SA K cl t a) : SE K cl (tCall (spO K cl n f) [] E0 (tCons (tVar i) t)) (xCallO n f i a) := fun Hin M0 as env σ H Q x env' e S q => by
  unfold xCallO at e
  split at e
  · rename_i o0 e0
    obtain ⟨⟨ds, e1⟩, h1, e⟩ := bind_some e
    obtain ⟨g1, _⟩ := S.own_at e0
    refine ⟨_, g1, ?_⟩
    refine ha Hin M0 as env σ H _ _ _ h1 S fun vs H1 S1 s1 r1 => ?_
    split at e
    · rename_i hl
      split at e
      · rename_i o e2
        obtain ⟨⟨y, o'⟩, h3, e⟩ := bind_some e
        obtain ⟨e3, h4, e⟩ := map_some e
        cases e
        obtain ⟨_, ho, k2, k3⟩ := S1.own_at e2
        show spO K cl n f ((.ref (as i) :: vs) ++ []) H1 Q E0
        rw [List.append_nil]
        have hM : (fun a => (M0 a ∨ ∃ j p, j ≠ i ∧ ocAt e1 j = some p ∧ as j = a) ∨ a = as i) = MP M0 as e1 := by
          funext a
          refine propext ⟨fun z => ?_, fun z => ?_⟩
          · rcases z with (z | ⟨j, p, _, z, ez⟩) | z
            · exact .inl z
            · exact .inr ⟨j, p, z, ez⟩
            · exact .inr ⟨i, o, e2, z.symm⟩
          · rcases z with z | ⟨j, p, z, ez⟩
            · exact .inl (.inl z)
            · by_cases hj : j = i
              · rw [hj] at ez; exact .inr ez.symm
              · exact .inl (.inr ⟨j, p, hj, z, ez⟩)
        have hnb : ¬ (M0 (as i) ∨ ∃ j p, j ≠ i ∧ ocAt e1 j = some p ∧ as j = as i) := fun z => by
          rcases z with z | ⟨j, p, hj, z, e⟩
          · exact (S1.fr i o e2).2 z
          · exact hj (S1.inj j i p o z e2 e)
        refine ⟨as i, vs, fun a => M0 a ∨ ∃ j p, j ≠ i ∧ ocAt e1 j = some p ∧ as j = a, o, o', ho, ds, _, rfl, hnb, fun a h => ?_, hl, k2, ?_, ?_, h3, fun v H2 ho' sm hb ro rv => ?_⟩
        · exact S1.dom (h.elim .inl fun ⟨j, p, _, z, e⟩ => .inr ⟨j, p, z, e⟩)
        · rw [hM]; exact k3
        · rw [hM]; exact r1
        · rw [hM] at ro rv
          -- first the rest of the heap grows, then the box turns
          have hH2 : H2 = upd (upd H2 (as i) ho) (as i) ho' := by
            rw [upd_upd]
            funext a
            by_cases ha : a = as i
            · rw [ha, upd_same, hb]
            · rw [upd_ne ha]
          have sm1 : Same H1 (upd H2 (as i) ho) := fun a u hu => by
            by_cases ha : a = as i
            · rw [ha] at hu ⊢
              rw [upd_same, ← k2]
              exact hu
            · rw [upd_ne ha]; exact sm a u ha hu
          obtain ⟨S2, s2⟩ := S1.grow sm1
          have hBe : Bv M0 as e1 (upd H2 (as i) ho) = hd (MP M0 as e1) H2 := by
            unfold Bv
            funext a
            by_cases ha : MP M0 as e1 a
            · rw [hd_in ha, hd_in ha]
            · rw [hd_out ha, hd_out ha, upd_ne (fun z => ha (.inr ⟨i, o, e2, z.symm⟩))]
          obtain ⟨S3, s3⟩ := S2.putOc (ho := ho') h4 (by rw [hBe]; exact ro)
          rw [← hH2] at S3 s3
          refine q v H2 S3 ((s1.trans s2).trans s3) (Rp.mono ?_ _ _ rv)
          have := s3.b
          rw [hBe] at this
          exact this
      · cases e
    · cases e
  · cases e
end DL

set_option Elab.async false
set_option linter.all false
set_option maxRecDepth 100000
set_option maxHeartbeats 4000000
namespace DL
open PySem PySem.Spec PyProof.Rows L2
variable {cl : Nat → Addr} {X : Cx}

/-! ### names, constants -/
theorem v_var (i : Nat) {x : Str} {pos : Pos} (hN : X.N[i]? = some x := by rfl) (hv : Vis X.env.scope x := by first | exact Or.inl rfl | exact Or.inr (Or.inl rfl) | exact Or.inr (Or.inr rfl)) (hd : (x == ("__debug__" : Str)) = false := by decide)
    (hcd : (x == ("__classdict__" : Str)) = false := by decide) : VE cl X (.Name x pos) (tVar i) (xVar i) := ⟨pe_var hN hv hd hcd, se_var i⟩
theorem v_int {i : Int} {j : Nat} {pos : Pos} : VE cl X (.Constant (.int i) j pos) (tC (.int i)) (xC (.int i)) := ⟨pe_int, se_c fun _ => .int i⟩
theorem v_bl {b : Bool} {j : Nat} {pos : Pos} : VE cl X (.Constant (.bool b) j pos) (tC (.bl b)) (xC (.bl b)) := ⟨pe_bl, se_c fun _ => .bl b⟩
theorem v_non {j : Nat} {pos : Pos} : VE cl X (.Constant .none j pos) (tC .non) (xC .non) := ⟨pe_non, se_c fun _ => .non⟩
theorem v_str {x : Str} {j : Nat} {pos : Pos} : VE cl X (.Constant (.str x) j pos) (tC (.str x)) (xC (.str x)) := ⟨pe_str, se_c fun _ => .str x⟩
theorem v_globI {x : Str} {i : Int} {t : Tok} {pos : Pos} (hg : Gl X x) (hm : X.mg x = some (.int i t)) (hd : (x == ("__debug__" : Str)) = false := by decide) : VE cl X (.Name x pos) (tC (.int i)) (xC (.int i)) := ⟨pe_glob hg hm ⟨t, rfl⟩ hd, se_c fun _ => .int i⟩

/-! ### operators -/
section
variable {a b c : Expr} {ta tb tc : TE} {ea eb ec : EvE} {pos : Pos}
theorem v_op {op : Operator} {r : R2} {f : Dt → Dt → Option Dt} (ho : OpR X (binaryOp op) r) (hs : OpS X.K cl r f) (ha : VE cl X a ta ea) (hb : VE cl X b tb eb) : VE cl X (.BinOp a op b pos) (tOp r ta tb) (x2 f ea eb) := ⟨pe_op ho ha.pe hb.pe, se_op hs ha.so hb.so⟩
theorem v_un {op : UnaryOp} {r : V → Hp → VK → Prop} {f : Dt → Option Dt} (ho : UnR X (unaryOp op) r) (hs : UnS X.K cl r f) (ha : VE cl X a ta ea) : VE cl X (.UnaryOp op a pos) (tUn r ta) (x1 f ea) := ⟨pe_un ho ha.pe, se_un hs ha.so⟩
@[simp] def fSub : Dt → Dt → Option Dt := fun x y => fI (fun i j => .int (i - j)) x y
def smallI (i : Int) : Bool := decide (-(2 ^ 64) < i ∧ i < 2 ^ 64)
@[simp] def fMul : Dt → Dt → Option Dt := fun x y => fIc (fun i j => smallI i || smallI j) (fun i j => .int (i * j)) x y
def CDivS (_ j : Int) : Prop := j ≠ 0 ∧ j.natAbs.log2 < 9000
def divOk (j : Int) : Bool := decide (j ≠ 0 ∧ j.natAbs.log2 < 9000)
@[simp] def fDiv : Dt → Dt → Option Dt := fun x y => fIc (fun _ j => divOk j) (fun i j => .int (i.fdiv j)) x y
@[simp] def fMod : Dt → Dt → Option Dt := fun x y => fIc (fun _ j => decide (j ≠ 0)) (fun i j => .int (i.fmod j)) x y
@[simp] def fPow : Dt → Dt → Option Dt := fun x y => fIc (fun i j => decide (0 ≤ j ∧ j ≤ 1000 ∧ i.natAbs < 2 ^ 64)) (fun i j => .int (i ^ j.toNat)) x y
theorem op_fdivS : OpR X (binaryOp .FloorDiv) (rI CDivS fun i j => .int (i.fdiv j)) := opI fun i j _ _ _ _ _ hc q => floordiv_int hc.1 q (.inl (PyProof.noPylong_of_log2 hc.2))
theorem v_sub (ha : VE cl X a ta ea) (hb : VE cl X b tb eb) : VE cl X (.BinOp a .Sub b pos) (tOp (rI0 fun i j => .int (i - j)) ta tb) (x2 fSub ea eb) := v_op op_sub (ops_I0 fun _ _ _ => .int _) ha hb
theorem v_mul (ha : VE cl X a ta ea) (hb : VE cl X b tb eb) : VE cl X (.BinOp a .Mult b pos) (tOp (rI CMul fun i j => .int (i * j)) ta tb) (x2 fMul ea eb) := v_op op_mul (ops_I (fun i j h => by
  unfold smallI at h
  rw [Bool.or_eq_true, decide_eq_true_eq, decide_eq_true_eq] at h
  exact h) fun _ _ _ => .int _) ha hb
theorem v_div (ha : VE cl X a ta ea) (hb : VE cl X b tb eb) : VE cl X (.BinOp a .FloorDiv b pos) (tOp (rI CDivS fun i j => .int (i.fdiv j)) ta tb) (x2 fDiv ea eb) := v_op op_fdivS (ops_I (fun i j h => by unfold CDivS; unfold divOk at h; exact of_decide_eq_true h) fun _ _ _ => .int _) ha hb
theorem v_mod (ha : VE cl X a ta ea) (hb : VE cl X b tb eb) : VE cl X (.BinOp a .Mod b pos) (tOp (rI (fun _ j => j ≠ 0) fun i j => .int (i.fmod j)) ta tb) (x2 fMod ea eb) := v_op op_modN (ops_I (fun i j h => of_decide_eq_true h) fun _ _ _ => .int _) ha hb
theorem v_pow (ha : VE cl X a ta ea) (hb : VE cl X b tb eb) : VE cl X (.BinOp a .Pow b pos) (tOp (rI CPow fun i j => .int (i ^ j.toNat)) ta tb) (x2 fPow ea eb) := v_op op_pow (ops_I (fun i j h => by
  obtain ⟨h1, h2, h3⟩ := of_decide_eq_true h
  exact ⟨h1, by omega, h3⟩) fun _ _ _ => .int _) ha hb
@[simp] def fNeg : Dt → Option Dt
  | .int i => some (.int (-i))
  | _ => none
theorem v_neg (ha : VE cl X a ta ea) : VE cl X (.UnaryOp .USub a pos) (tUn (rU fun i => .int (-i)) ta) (x1 fNeg ea) := v_un un_neg (fun Hin M0 as env σ H Q x z v h S r q => by
  cases x with
  | int i => cases h; cases r; exact ⟨i, rfl, q _ H S Step.refl (.int _)⟩
  | _ => cases h) ha
/-! + of ints, texts, tuples, lists -/
@[simp] def fAdd : Dt → Dt → Option Dt
  | .int i, .int j => some (.int (i + j))
  | .tup xs, .tup ys => if xs.length + ys.length ≤ most then some (.tup (xs ++ ys)) else none
  | .lst xs, .lst ys => if xs.length + ys.length ≤ most then some (.lst (xs ++ ys)) else none
  | .str x, .str y => if x.length + y.length ≤ most then some (.str (x ++ y)) else none
  | _, _ => none
def rAddS2 : R2 := fun x y H Q => ∃ i j, x = .str i ∧ y = .str j ∧ i.length + j.length ≤ sizeLine ∧ Q (.str (i ++ j)) H
def rAddA (K : Fg) : R2 := fun x y H Q => (rI0 fun i j => .int (i + j)) x y H Q ∨ (rCatA K x y H Q ∨ (rCat x y H Q ∨ rAddS2 x y H Q))
theorem op_addA : OpR X (binaryOp .Add) (rAddA X.K) := op_add.or (op_catA.or (op_cat.or op_add_str))
theorem ops_addA {K : Fg} : OpS K cl (rAddA K) fAdd := fun Hin M0 as env σ H Q x y z v w h S r1 r2 q => by
  unfold fAdd at h
  split at h
  · cases h
    cases r1
    cases r2
    exact .inl ⟨_, _, rfl, rfl, q _ H S Step.refl (.int _)⟩
  · rename_i xs ys
    split at h
    · rename_i hl
      cases h
      cases r1 with
      | tup a1 a2 =>
        cases r2 with
        | tup b1 b2 =>
          rename_i p vs p2 ws
          have l1 := a2.length
          have l2 := b2.length
          refine .inr (.inl ⟨p, p2, vs, ws, rfl, rfl, same_t hd_same a1, same_t hd_same b1, most_ok (by rw [l1, l2]; exact hl), fun e => ?_, fun _ e => ?_, fun _ _ t ht => ?_⟩)
          · subst e
            cases a2
            exact q _ H S Step.refl (.tup b1 b2)
          · subst e
            cases b2
            rw [List.append_nil] at q
            exact q _ H S Step.refl (.tup a1 a2)
          · obtain ⟨S2, s2⟩ := S.grow (same_upd (o := .tup (vs ++ ws)) ht)
            exact q _ _ S2 s2 (.tup (.inl (.inl (Bv_new S ht))) (RpA.mono s2.b _ _ (a2.append b2)))
    · cases h
  · rename_i xs ys
    split at h
    · rename_i hl
      cases h
      cases r1 with
      | lst a1 a2 =>
        cases r2 with
        | lst b1 b2 =>
          rename_i p vs p2 ws
          refine .inr (.inr (.inl ⟨p, p2, vs, ws, rfl, rfl, hd_same _ _ a1, hd_same _ _ b1, most_ok (by rw [a2.length, b2.length]; exact hl), fun t ht => ?_⟩))
          obtain ⟨S2, s2⟩ := S.grow (same_upd (o := .lst (vs ++ ws)) ht)
          exact q _ _ S2 s2 (.lst (Bv_new S ht) (RpA.mono s2.b _ _ (a2.append b2)))
    · cases h
  · split at h
    · rename_i hl
      cases h
      cases r1
      cases r2
      exact .inr (.inr (.inr ⟨_, _, rfl, rfl, most_ok hl, q _ H S Step.refl (.str _)⟩))
    · cases h
  · cases h
theorem v_add (ha : VE cl X a ta ea) (hb : VE cl X b tb eb) : VE cl X (.BinOp a .Add b pos) (tOp (rAddA X.K) ta tb) (x2 fAdd ea eb) := v_op op_addA ops_addA ha hb

/-! ### comparisons -/
mutual
def py : Dt → PyData
  | .non => .none
  | .bl b => .bool b
  | .int i => .int i
  | .str x => .str x
  | .lst ds => .list (pys ds)
  | .tup ds => .tuple (pys ds)
  | .ins _ _ _ => .none
  | .scr _ => .none
def pys : List Dt → List PyData
  | [] => []
  | d :: ds => py d :: pys ds
end
mutual
def isPy : Dt → Bool
  | .lst ds => isPys ds
  | .tup ds => isPys ds
  | .ins _ _ _ => false
  | .scr _ => false
  | _ => true
def isPys : List Dt → Bool
  | [] => true
  | d :: ds => isPy d && isPys ds
end
mutual
theorem Rp.dp {K : Fg} {B H : Hp} (e : Same B H) : ∀ (d : Dt) (v : V), Rp K cl B v d → isPy d = true → Dp K H v (py d)
  | .non, _, h, _ => by cases h; exact .non
  | .bl _, _, h, _ => by cases h; exact .bl _
  | .int _, _, h, _ => by cases h; exact .int _
  | .str _, _, h, _ => by cases h; exact .str _
  | .lst ds, _, h, g => by cases h with | lst h1 h2 => exact .lst (.inl (.inl (e _ _ h1))) (RpA.dp e ds _ h2 g)
  | .tup ds, _, h, g => by cases h with | tup h1 h2 => exact .tup (same_t e h1) (RpA.dp e ds _ h2 g)
  | .ins _ _ _, _, _, g => by cases g
  | .scr _, _, _, g => by cases g
theorem RpA.dp {K : Fg} {B H : Hp} (e : Same B H) : ∀ (ds : List Dt) (vs : List V), RpA K cl B vs ds → isPys ds = true → DpAll K H vs (pys ds)
  | [], _, h, _ => by cases h; exact .nil
  | d :: ds, _, h, g => by
    cases h with
    | cons h1 h2 =>
      have g : (isPy d && isPys ds) = true := g
      rw [Bool.and_eq_true] at g
      exact .cons (Rp.dp e d _ h1 g.1) (RpA.dp e ds _ h2 g.2)
end
/-- data that == takes -/
def eqOk (d : Dt) : Bool := isPy d && SeqAt.shaped (py d)
def fEq (x y : Dt) : Option Dt := if (eqOk x && eqOk y) = true then some (.bl (PyData.eqv (py x) (py y))) else none
def fNe (x y : Dt) : Option Dt := if (eqOk x && eqOk y) = true then some (.bl (!PyData.eqv (py x) (py y))) else none
theorem ops_eq {K : Fg} : OpS K cl (rEqD K) fEq := fun Hin M0 as env σ H Q x y z v w h S r1 r2 q => by
  unfold fEq eqOk at h
  split at h
  · rename_i g
    cases h
    rw [Bool.and_eq_true, Bool.and_eq_true, Bool.and_eq_true] at g
    exact ⟨_, _, Rp.dp hd_same _ _ r1 g.1.1, Rp.dp hd_same _ _ r2 g.2.1, g.1.2, g.2.2, q _ H S Step.refl (.bl _)⟩
  · cases h
theorem ops_ne {K : Fg} : OpS K cl (rNeD K) fNe := fun Hin M0 as env σ H Q x y z v w h S r1 r2 q => by
  unfold fNe eqOk at h
  split at h
  · rename_i g
    cases h
    rw [Bool.and_eq_true, Bool.and_eq_true, Bool.and_eq_true] at g
    exact ⟨_, _, Rp.dp hd_same _ _ r1 g.1.1, Rp.dp hd_same _ _ r2 g.2.1, g.1.2, g.2.2, q _ H S Step.refl (.bl _)⟩
  · cases h
@[simp] def fLt : Dt → Dt → Option Dt := fun x y => fI (fun i j => .bl (decide (i < j))) x y
@[simp] def fLe : Dt → Dt → Option Dt := fun x y => fI (fun i j => .bl (decide (i ≤ j))) x y
@[simp] def fGt : Dt → Dt → Option Dt := fun x y => fI (fun i j => .bl (decide (j < i))) x y
@[simp] def fGe : Dt → Dt → Option Dt := fun x y => fI (fun i j => .bl (decide (j ≤ i))) x y
/-- a comparison: its rule, what it is worth -/
structure CmpV (cl : Nat → Addr) (X : Cx) (op : CmpOp) (r : R2) (f : Dt → Dt → Option Dt) : Prop where
  o : OpR X (compareOp op) r
  s : OpS X.K cl r f
theorem c_lt : CmpV cl X .Lt (rI0 fun i j => .bl (decide (i < j))) fLt := ⟨op_lt, ops_I0 fun _ _ _ => .bl _⟩
theorem c_le : CmpV cl X .LtE (rI0 fun i j => .bl (decide (i ≤ j))) fLe := ⟨op_le, ops_I0 fun _ _ _ => .bl _⟩
theorem c_gt : CmpV cl X .Gt (rI0 fun i j => .bl (decide (j < i))) fGt := ⟨op_gt, ops_I0 fun _ _ _ => .bl _⟩
theorem c_ge : CmpV cl X .GtE (rI0 fun i j => .bl (decide (j ≤ i))) fGe := ⟨op_ge, ops_I0 fun _ _ _ => .bl _⟩
theorem c_eq {k : Nat} (hr : Room k X.A) : CmpV cl X .Eq (rEqD X.K) fEq := ⟨op_eqD hr.units, ops_eq⟩
theorem c_ne {k : Nat} (hr : Room k X.A) : CmpV cl X .NotEq (rNeD X.K) fNe := ⟨op_neD hr.units, ops_ne⟩
@[simp] def fIs : Dt → Dt → Option Dt
  | .bl a, .bl b => some (.bl (decide (a = b)))
  | _, _ => none
@[simp] def fIsNot : Dt → Dt → Option Dt
  | .bl a, .bl b => some (.bl (!decide (a = b)))
  | _, _ => none
theorem c_is : CmpV cl X .Is rIsB fIs := ⟨op_isBl, fun Hin M0 as env σ H Q x y z v w h S r1 r2 q => by
  unfold fIs at h
  split at h
  · cases h; cases r1; cases r2; exact ⟨_, _, rfl, rfl, q _ H S Step.refl (.bl _)⟩
  · cases h⟩
theorem c_isNot : CmpV cl X .IsNot rNotB fIsNot := ⟨op_notBl, fun Hin M0 as env σ H Q x y z v w h S r1 r2 q => by
  unfold fIsNot at h
  split at h
  · cases h; cases r1; cases r2; exact ⟨_, _, rfl, rfl, q _ H S Step.refl (.bl _)⟩
  · cases h⟩
@[simp] theorem fEq_int (i j : Int) : fEq (.int i) (.int j) = some (.bl (i == j)) := rfl
@[simp] theorem fNe_int (i j : Int) : fNe (.int i) (.int j) = some (.bl (!(i == j))) := rfl
@[simp] theorem fEq_bl (i j : Bool) : fEq (.bl i) (.bl j) = some (.bl (i == j)) := rfl
@[simp] theorem fNe_bl (i j : Bool) : fNe (.bl i) (.bl j) = some (.bl (!(i == j))) := rfl
theorem smallI_of {i : Int} (h1 : -18446744073709551616 < i) (h2 : i < 18446744073709551616) : smallI i = true := by
  unfold smallI
  exact decide_eq_true ⟨by omega, by omega⟩
theorem divOk_of {i : Int} (h0 : i ≠ 0) (h : i.natAbs < 2 ^ 200) : divOk i = true := by
  unfold divOk
  refine decide_eq_true ⟨h0, ?_⟩
  have h1 := PySem.Flt.log2_lt_of (k := 200) (by decide) h
  omega
theorem v_cmp {op : CmpOp} {r : R2} {f : Dt → Dt → Option Dt} (h : CmpV cl X op r f) (ha : VE cl X a ta ea) (hb : VE cl X b tb eb) (hm : behindInMarks op b = false := by first | exact nomark _ | rfl) : VE cl X (.Compare a [op] [b] pos) (tOp r ta tb) (x2 f ea eb) := ⟨pe_cmpR h.o ha.pe hb.pe hm, se_op h.s ha.so hb.so⟩
theorem t_cmp {op : CmpOp} {r : R2} {f : Dt → Dt → Option Dt} (h : CmpV cl X op r f) (ha : VE cl X a ta ea) (hb : VE cl X b tb eb) (hm : behindInMarks op b = false := by first | exact nomark _ | rfl) : VT cl X (.Compare a [op] [b] pos) (tTest (tOp r ta tb)) (xT (x2 f ea eb)) := ⟨pt_cmpR h.o ha.pe hb.pe hm, st_test (se_op h.s ha.so hb.so)⟩
theorem v_chain {op op' : CmpOp} {r r' : R2} {f g : Dt → Dt → Option Dt} (h : CmpV cl X op r f) (h' : CmpV cl X op' r' g) (ha : VE cl X a ta ea) (hb : VE cl X b tb eb) (hc : VE cl X c tc ec) (hm : lastMarks [op, op'] [b, c] = false := by with_unfolding_all rfl) :
    VE cl X (.Compare a [op, op'] [b, c] pos) (tChain r r' ta tb tc) (xChain f g ea eb ec) := ⟨pe_chain h.o h'.o ha.pe hb.pe hc.pe hm, se_chain h.s h'.s ha.so hb.so hc.so⟩
theorem t_chain {op op' : CmpOp} {r r' : R2} {f g : Dt → Dt → Option Dt} (h : CmpV cl X op r f) (h' : CmpV cl X op' r' g) (ha : VE cl X a ta ea) (hb : VE cl X b tb eb) (hc : VE cl X c tc ec) (hm : lastMarks [op, op'] [b, c] = false := by with_unfolding_all rfl) :
    VT cl X (.Compare a [op, op'] [b, c] pos) (tTest (tChain r r' ta tb tc)) (xT (xChain f g ea eb ec)) := ⟨pt_chain h.o h'.o ha.pe hb.pe hc.pe hm, st_test (se_chain h.s h'.s ha.so hb.so hc.so)⟩
theorem t_val (h : VE cl X a ta ea) (he : ∀ whole, isTrue a X.env whole = (do let v ← whole; standAt a.pos; holding [v] (truthy v)) := by intro _; rfl) : VT cl X a (tB ta) (xT ea) := ⟨pt_val h.pe he, st_test h.so⟩
variable {tA tB' : TT} {eA eB : EvT} {rest : List Expr}
theorem w_and1 (ha : VT cl X a tA eA) : VW cl X (.BoolOp .And [a] pos) tA eA := ⟨pw_and1 ha.pe, ha.so⟩
theorem w_or1 (ha : VT cl X a tA eA) : VW cl X (.BoolOp .Or [a] pos) tA eA := ⟨pw_or1 ha.pe, ha.so⟩
theorem w_and (ha : VT cl X a tA eA) (hb : VW cl X (.BoolOp .And (b :: rest) pos) tB' eB) : VW cl X (.BoolOp .And (a :: b :: rest) pos) (tAnd tA tB') (xAndT eA eB) := ⟨pw_and ha.pe hb.pe, st_and ha.so hb.so⟩
theorem w_or (ha : VT cl X a tA eA) (hb : VW cl X (.BoolOp .Or (b :: rest) pos) tB' eB) : VW cl X (.BoolOp .Or (a :: b :: rest) pos) (tOr tA tB') (xOrT eA eB) := ⟨pw_or ha.pe hb.pe, st_or ha.so hb.so⟩
theorem VW.t (h : VW cl X a tA eA) : VT cl X a tA eA := ⟨h.pe.pt, h.so⟩
theorem t_not (ha : VT cl X a tA eA) : VT cl X (.UnaryOp .Not a pos) (tNot tA) (xNotT eA) := ⟨pt_not ha.pe, st_not ha.so⟩
theorem v_one {op : BoolOp} (ha : VE cl X a ta ea) : VE cl X (.BoolOp op [a] pos) ta ea := ⟨pe_one ha.pe, ha.so⟩
theorem v_and (ha : VE cl X a ta ea) (hb : VE cl X (.BoolOp .And (b :: rest) pos) tb eb) : VE cl X (.BoolOp .And (a :: b :: rest) pos) (tAndV ta tb) (xAnd ea eb) := ⟨pe_and ha.pe hb.pe, se_and ha.so hb.so⟩
theorem v_or (ha : VE cl X a ta ea) (hb : VE cl X (.BoolOp .Or (b :: rest) pos) tb eb) : VE cl X (.BoolOp .Or (a :: b :: rest) pos) (tOrV ta tb) (xOr ea eb) := ⟨pe_or ha.pe hb.pe, se_or ha.so hb.so⟩
theorem v_not (ha : VE cl X a ta ea) : VE cl X (.UnaryOp .Not a pos) (tNotV ta) (xNot ea) := ⟨pe_not ha.pe, se_not ha.so⟩
theorem v_if (hc : VT cl X c tA eA) (ha : VE cl X a ta ea) (hb : VE cl X b tb eb) : VE cl X (.IfExp c a b pos) (tIf tA ta tb) (xIf eA ea eb) := ⟨pe_ifExp hc.pe ha.pe hb.pe, se_if hc.so ha.so hb.so⟩

/-! ### displays, places, calls -/
variable {e : Expr} {es : List Expr} {te : TE} {ev : EvE} {t : TA} {ar : EvA}
theorem a_nil : VA cl X [] tNil xNil := ⟨pa_nil, sa_nil⟩
theorem a_cons (ha : VE cl X e te ev) (hr : VA cl X es t ar) (hs : starEach (e :: es) X.env = (false, eval e X.env) :: starEach es X.env := by rfl) : VA cl X (e :: es) (tCons te t) (xCons ev ar) := ⟨pa_cons ha.pe hr.pe hs, sa_cons ha.so hr.so⟩
theorem v_tup {k : Nat} (h : VA cl X es t ar) : VE cl X (.Tuple es k pos) (tTup t) (xTup ar) := ⟨pe_tup h.pe, se_tup h.so⟩
theorem l_lst (h : VA cl X es t ar) : VL cl X (.List es pos) (tLst t) (xLst ar) := ⟨pe_lst h.pe, sl_lst h.so⟩
theorem VL.v {ar : EvA} (h : VL cl X a ta ar) : VE cl X a ta (xL ar) := ⟨h.pe, h.so.e⟩
@[simp] def fIx : Dt → Dt → Option Dt
  | .lst ds, .int i => atI ds i
  | .tup ds, .int i => atI ds i
  | .scr ns, .int i => (atI ns i).map .int
  | .str s, .int i => if s.length ≤ most then (atI s.cps.toList i).map fun c => .str ⟨#[c]⟩ else none
  | _, _ => none
theorem at_rp {K : Fg} {B : Hp} {vs : List V} {ds : List Dt} {i : Int} {d : Dt} (r : RpA K cl B vs ds) (h : atI ds i = some d) : ∃ v, atI vs i = some v ∧ Rp K cl B v d := by
  unfold atI at h ⊢
  rw [r.length]
  obtain ⟨j, h1, h2⟩ := bind_some h
  rw [h1]
  exact r.get h2
theorem ops_ix {K : Fg} : OpS K cl (rIx K) fIx := fun Hin M0 as env σ H Q x y z v w h S r1 r2 q => by
  unfold fIx at h
  split at h
  · cases r2
    cases r1 with
    | lst a1 a2 =>
      obtain ⟨u, h1, h2⟩ := at_rp a2 h
      exact .inl ⟨_, _, _, u, rfl, rfl, .inl (.inl (hd_same _ _ a1)), h1, q u H S Step.refl h2⟩
  · cases r2
    cases r1 with
    | tup a1 a2 =>
      obtain ⟨u, h1, h2⟩ := at_rp a2 h
      exact .inr (.inl ⟨_, _, _, u, rfl, rfl, same_t hd_same a1, h1, q u H S Step.refl h2⟩)
  · rename_i ns i
    cases r2
    cases r1 with
    | scr a1 =>
      obtain ⟨n, h1, h2⟩ := map_some h
      subst h2
      refine .inl ⟨_, ns.map V.int, i, .int n, rfl, rfl, hd_same.seq a1, ?_, q _ H S Step.refl (.int n)⟩
      unfold atI at h1 ⊢
      rw [List.length_map]
      obtain ⟨j, g1, g2⟩ := bind_some h1
      rw [g1]
      show (ns.map V.int)[j]? = some (.int n)
      rw [List.getElem?_map, g2]
      rfl
  · cases r2
    cases r1
    split at h
    · rename_i hl
      obtain ⟨n, h1, h2⟩ := map_some h
      subst h2
      exact .inr (.inr ⟨_, _, n, rfl, rfl, most_ok hl, h1, q _ H S Step.refl (.str _)⟩)
    · cases h
  · cases h
theorem v_ix (ha : VE cl X a ta ea) (hb : VE cl X b tb eb) (hs : PlainIx b := by exact fun _ _ => rfl) : VE cl X (.Subscript a b pos) (tOp (rIx X.K) ta tb) (x2 fIx ea eb) := ⟨pe_ix ix_seq ha.pe hb.pe hs, se_op ops_ix ha.so hb.so⟩
/-- box[j], the box its slot's own -/
@[simp] def xIxO (i : Nat) (b : EvE) : EvE := fun env => match ocAt env i with
  | some (.l _) => (b env).bind fun q => match ocAt q.2 i, q.1 with
    | some (.l ds), .int k => (atI ds k).map fun z => (z, q.2)
    | _, _ => none
  | _ => none
theorem se_ixO {K : Fg} {tb : TE} {eb : EvE} (i : Nat) (hb : SE K cl tb eb) : SE K cl (tOp (rIx K) (tVar i) tb) (xIxO i eb) := fun Hin M0 as env σ H Q z env' h S q => by
  unfold xIxO at h
  split at h
  · rename_i ds0 e0
    obtain ⟨⟨y, e2⟩, h2, h⟩ := bind_some h
    obtain ⟨g1, _⟩ := S.own_at e0
    refine ⟨_, g1, ?_⟩
    refine hb Hin M0 as env σ H _ _ _ h2 S fun w H2 S2 s2 r2 => ?_
    cases y with
    | int k =>
      cases e2o : ocAt e2 i with
      | none => simp only [e2o] at h; cases h
      | some o =>
        cases o with
        | t => simp only [e2o] at h; cases h
        | o => simp only [e2o] at h; cases h
        | l ds =>
          simp only [e2o] at h
          obtain ⟨y2, h4, h⟩ := map_some h
          cases h
          cases r2
          obtain ⟨_, ho, k2, k3⟩ := S2.own_at e2o
          cases ho with
          | lst vs =>
            obtain ⟨u, g3, g4⟩ := at_rp k3 h4
            exact .inl ⟨_, vs, k, u, rfl, rfl, .inl (.inl k2), g3, q u H2 S2 s2 g4⟩
          | _ => exact k3.elim
    | _ => simp at h
  · cases h
theorem v_ixO (i : Nat) {x : Str} {p : Pos} (hb : VE cl X b tb eb) (hs : PlainIx b := by exact fun _ _ => rfl) (hN : X.N[i]? = some x := by rfl) (hv : Vis X.env.scope x := by first | exact Or.inl rfl | exact Or.inr (Or.inl rfl) | exact Or.inr (Or.inr rfl)) (hd : (x == ("__debug__" : Str)) = false := by decide)
    (hcd : (x == ("__classdict__" : Str)) = false := by decide) : VE cl X (.Subscript (.Name x p) b pos) (tOp (rIx X.K) (tVar i) tb) (xIxO i eb) := ⟨pe_ix ix_seq (pe_var hN hv hd hcd) hb.pe hs, se_ixO i hb.so⟩
section
variable {P : Program} {w : World} {k n : Nat} {f : Addr} {fd : FuncData} {ps : List Str} {x : Str} {p : Pos}
theorem v_call {g : List Dt → Option Dt} (hr : Room k X.A) (F : FnOk X.prog X.w X.K X.mg X.base CX0 k f fd ps (spE X.K cl n g)) (hm : X.mg x = some (.ref f)) (hk : PySem.W.keepIn X.K (.ref f) = true) (hb : Binds X.K fd ps []) (ha : VA cl X (e :: es) t ar) (hg : Gl X x := by rfl)
    (hdb : (x == ("__debug__" : Str)) = false := by decide) (he : starEach (e :: es) X.env = (false, eval e X.env) :: starEach es X.env := by rfl) (hpl : (backTo pos (starEach es X.env)).any (·.1) = false := by rfl) :
    VE cl X (.Call (.Name x p) (e :: es) [] pos) (tCall (spE X.K cl n g) [] E0 t) (xB (callF n g) ar) := ⟨pe_call F hr hg hm hk hb .nil pass0 ha.pe hdb he hpl, se_call ha.so⟩
theorem v_callO (i : Nat) {g : Oc → List Dt → Option (Dt × Oc)} {y : Str} {py : Pos} (hr : Room k X.A) (F : FnOk X.prog X.w X.K X.mg X.base CX0 k f fd ps (spO X.K cl n g)) (hm : X.mg x = some (.ref f)) (hk : PySem.W.keepIn X.K (.ref f) = true) (hb : Binds X.K fd ps []) (ha : VA cl X es t ar)
    (hg : Gl X x := by rfl) (hN : X.N[i]? = some y := by rfl) (hv : Vis X.env.scope y := by first | exact Or.inl rfl | exact Or.inr (Or.inl rfl) | exact Or.inr (Or.inr rfl)) (hd : (y == ("__debug__" : Str)) = false := by decide)
    (hcd : (y == ("__classdict__" : Str)) = false := by decide) (hdb : (x == ("__debug__" : Str)) = false := by decide) (he : starEach (.Name y py :: es) X.env = (false, eval (.Name y py) X.env) :: starEach es X.env := by rfl) (hpl : (backTo pos (starEach es X.env)).any (·.1) = false := by rfl) :
    VE cl X (.Call (.Name x p) (.Name y py :: es) [] pos) (tCall (spO X.K cl n g) [] E0 (tCons (tVar i) t)) (xCallO n g i ar) := ⟨pe_call F hr hg hm hk hb .nil pass0 (pa_cons (pe_var hN hv hd hcd) ha.pe he) hdb he hpl, se_callO i ha.so⟩
theorem v_callB {id : String} {r : List V → Hp → VK → Prop} {g : List Dt → Option Dt} (hc : CallR X (.builtin id) r) (hs : CaS X.K cl r g) (hm : X.mg x = none) (ha : VA cl X (e :: es) t ar) (hv : bootBuiltins x = some (.builtin id) := by decide +kernel) (hg : Gl X x := by rfl) (hn : x ≠ "__name__" := by decide) (hdb : (x == ("__debug__" : Str)) = false := by decide)
    (he : starEach (e :: es) X.env = (false, eval e X.env) :: starEach es X.env := by rfl) (hpl : (backTo pos (starEach es X.env)).any (·.1) = false := by rfl) : VE cl X (.Call (.Name x p) (e :: es) [] pos) (tCB r t) (xB g ar) := ⟨pe_callB hc hg hm hv ha.pe hn hdb he hpl, se_cb hs ha.so⟩
theorem v_callTy {T : String} {r : List V → Hp → VK → Prop} {g : List Dt → Option Dt} (hc : CallR X (.type T) r) (hs : CaS X.K cl r g) (hm : X.mg x = none) (ha : VA cl X (e :: es) t ar) (hv : bootBuiltins x = some (.type T) := by decide +kernel) (hg : Gl X x := by rfl) (hn : x ≠ "__name__" := by decide) (hdb : (x == ("__debug__" : Str)) = false := by decide)
    (he : starEach (e :: es) X.env = (false, eval e X.env) :: starEach es X.env := by rfl) (hpl : (backTo pos (starEach es X.env)).any (·.1) = false := by rfl) : VE cl X (.Call (.Name x p) (e :: es) [] pos) (tCB r t) (xB g ar) := ⟨pe_callTy hc hg hm hv ha.pe hn hdb he hpl, se_cb hs ha.so⟩
/-- f(a, ..), f a module's name for a built-in function -/
theorem v_callF {id : String} {r : List V → Hp → VK → Prop} {g : List Dt → Option Dt} (hc : CallR X (.builtin id) r) (hs : CaS X.K cl r g) (hm : X.mg x = some (.builtin id)) (ha : VA cl X (e :: es) t ar) (hg : Gl X x := by rfl) (hdb : (x == ("__debug__" : Str)) = false := by decide)
    (he : starEach (e :: es) X.env = (false, eval e X.env) :: starEach es X.env := by rfl) (hpl : (backTo pos (starEach es X.env)).any (·.1) = false := by rfl) : VE cl X (.Call (.Name x p) (e :: es) [] pos) (tCB r t) (xB g ar) := ⟨pe_callBfun hc hg hm ha.pe hdb he hpl, se_cb hs ha.so⟩
end
@[simp] def fInt : List Dt → Option Dt
  | [.int i] => some (.int i)
  | [.bl b] => some (.int (if b then 1 else 0))
  | _ => none
theorem cas_int {K : Fg} : CaS K cl (fun xs H Q => (∃ i, xs = [.int i] ∧ Q (.int i) H) ∨ ∃ k, xs = [.bl k] ∧ Q (.int (if k then 1 else 0)) H) fInt := fun Hin M0 as env σ H Q xs z vs h S r q => by
  unfold fInt at h
  split at h
  · cases h
    cases r with
    | cons r1 r2 => cases r1; cases r2; exact .inl ⟨_, rfl, q _ H S Step.refl (.int _)⟩
  · cases h
    cases r with
    | cons r1 r2 => cases r1; cases r2; exact .inr ⟨_, rfl, q _ H S Step.refl (.int _)⟩
  · cases h
@[simp] def fAbs : List Dt → Option Dt
  | [.int i] => some (.int (if i < 0 then -i else i))
  | _ => none
theorem cas_abs {K : Fg} : CaS K cl (fun xs H Q => ∃ i, xs = [.int i] ∧ Q (.int (if i < 0 then -i else i)) H) fAbs := fun Hin M0 as env σ H Q xs z vs h S r q => by
  unfold fAbs at h
  split at h
  · cases h
    cases r with
    | cons r1 r2 => cases r1; cases r2; exact ⟨_, rfl, q _ H S Step.refl (.int _)⟩
  · cases h
@[simp] def fGcd : List Dt → Option Dt
  | [.int i, .int j] => some (.int ((Nat.gcd i.natAbs j.natAbs : Nat) : Int))
  | _ => none
theorem cas_gcd {K : Fg} : CaS K cl rGcd fGcd := fun Hin M0 as env σ H Q xs z vs h S r q => by
  unfold fGcd at h
  split at h
  · cases h
    cases r with
    | cons r1 r2 =>
      cases r1
      cases r2 with
      | cons r2 r3 => cases r2; cases r3; exact ⟨_, _, rfl, q _ H S Step.refl (.int _)⟩
  · cases h
@[simp] def fLen : List Dt → Option Dt
  | [.lst ds] => some (.int ds.length)
  | [.tup ds] => some (.int ds.length)
  | [.scr ns] => some (.int ns.length)
  | [.str s] => if s.length ≤ most then some (.int s.length) else none
  | _ => none
def rLenA (K : Fg) : List V → Hp → VK → Prop := fun xs H Q => (∃ p ys, xs = [.ref p] ∧ (SqL K H p ys ∨ SqT K H p ys) ∧ Q (.int ys.length) H) ∨ (∃ z, xs = [.str z] ∧ z.length ≤ sizeLine ∧ Q (.int z.length) H)
theorem call_lenA : CallR X (.builtin "len") (rLenA X.K) := call_len_seq.or call_len_str
theorem cas_len {K : Fg} : CaS K cl (rLenA K) fLen := fun Hin M0 as env σ H Q xs z vs h S r q => by
  unfold fLen at h
  split at h
  · cases h
    cases r with
    | cons r1 r2 =>
      cases r2
      cases r1 with
      | lst a1 a2 =>
        refine .inl ⟨_, _, rfl, .inl (.inl (.inl (hd_same _ _ a1))), ?_⟩
        rw [a2.length]
        exact q _ H S Step.refl (.int _)
  · cases h
    cases r with
    | cons r1 r2 =>
      cases r2
      cases r1 with
      | tup a1 a2 =>
        refine .inl ⟨_, _, rfl, .inr (same_t hd_same a1), ?_⟩
        rw [a2.length]
        exact q _ H S Step.refl (.int _)
  · cases h
    cases r with
    | cons r1 r2 =>
      cases r2
      cases r1 with
      | scr a1 =>
        refine .inl ⟨_, _, rfl, .inl (hd_same.seq a1), ?_⟩
        rw [List.length_map]
        exact q _ H S Step.refl (.int _)
  · split at h
    · rename_i hl
      cases h
      cases r with
      | cons r1 r2 => cases r1; cases r2; exact .inr ⟨_, rfl, most_ok hl, q _ H S Step.refl (.int _)⟩
    · cases h
  · cases h
/-- isinstance(e, tuple), isinstance(e, list), isinstance(e, bool) -/
@[simp] def tyOf : Dt → Option String
  | .non => some "NoneType"
  | .bl _ => some "bool"
  | .int _ => some "int"
  | .str _ => some "str"
  | .lst _ => some "list"
  | .tup _ => some "tuple"
  | .ins _ _ _ => none
  | .scr _ => none
@[simp] def fIsT (T : String) : Dt → Option Dt := fun d => (tyOf d).bind fun t => (kitB t T).map .bl
theorem ty_rp {K : Fg} {B H : Hp} {v : V} {d : Dt} {t : String} (e : Same B H) (r : Rp K cl B v d) (h : tyOf d = some t) : TyX K H v (.type t) := by
  cases r with
  | non => cases h; exact .base .non
  | bl => cases h; exact .base (.bl _)
  | int => cases h; exact .base (.int _)
  | str => cases h; exact .base (.str _)
  | lst a1 a2 => cases h; exact .base (.lst (e _ _ a1))
  | tup a1 a2 =>
    cases h
    rcases same_t e a1 with (a1 | ⟨o, a1⟩) | ⟨o, its, n, h1, h2, _⟩
    · exact .base (.tup a1)
    · exact .fTuple a1
    · exact .kTuple h1 h2
  | ins => cases h
  | scr => cases h
theorem v_isT {T : String} {x : Str} {p p2 pos : Pos} {y : Str} (hm : X.mg x = none) (hmy : X.mg y = none) (ha : VE cl X e te ev) (hv : bootBuiltins x = some (.builtin "isinstance") := by decide +kernel) (hvy : bootBuiltins y = some (.type T) := by decide +kernel) (hg : Gl X x := by rfl) (hgy : Gl X y := by rfl)
    (hn : x ≠ "__name__" := by decide) (hdb : (x == ("__debug__" : Str)) = false := by decide) (hny : y ≠ "__name__" := by decide) (hdy : (y == ("__debug__" : Str)) = false := by decide)
    (he : starEach [e, .Name y p2] X.env = (false, eval e X.env) :: starEach [.Name y p2] X.env := by rfl) (he2 : starEach [.Name y p2] X.env = (false, eval (.Name y p2) X.env) :: starEach [] X.env := by rfl) (hpl : (backTo pos (starEach [.Name y p2] X.env)).any (·.1) = false := by rfl) :
    VE cl X (.Call (.Name x p) [e, .Name y p2] [] pos) (tCB (rIsi X.K) (tCons te (tCons (tC (.ty T)) tNil))) (x1 (fIsT T) ev) :=
  ⟨pe_callB call_isi hg hm hv (pa_cons ha.pe (pa_cons (pe_bltn hgy hmy hvy rfl hny hdy) pa_nil he2) he) hn hdb he hpl, fun Hin M0 as env σ H Q z env' h S q => by
    obtain ⟨⟨y, e2⟩, h2, h⟩ := bind_some h
    obtain ⟨b, h3, h⟩ := map_some h
    cases h
    obtain ⟨t, h4, h3⟩ := bind_some h3
    obtain ⟨b, h5, h3⟩ := map_some h3
    subst h3
    refine ha.so Hin M0 as env σ H _ _ _ h2 S fun w H2 S2 s2 r2 => ?_
    exact ⟨w, .ty T, .type t, .type T, b, rfl, .ty T, ty_rp hd_same r2 h4, kit_ty h5, q _ H2 S2 s2 (.bl b)⟩⟩
end

/-! ### statements -/
section
variable {a b c e : Expr} {te : TE} {ev : EvE} {pos : Pos} {tA : TT} {eA : EvT} {st : Stmt} {rest body ta : List Stmt} {ts tu : TS} {es eu : EvS}
theorem b_nil : VB cl X [] tNext sNext := ⟨pss_nil, ss_next⟩
theorem b_one (h : VS cl X st ts es) : VB cl X [st] ts es := ⟨pss_one h.pe, h.so⟩
theorem b_cons (h : VS cl X st ts es) (h2 : VB cl X rest tu eu) : VB cl X (st :: rest) (tSeq ts tu) (sSeq es eu) := ⟨pss_cons h.pe h2.pe, ss_seq h.so h2.so⟩
theorem s_pass : VS cl X (.Pass pos) tNext sNext := ⟨ps_pass, ss_next⟩
theorem s_break : VS cl X (.Break pos) tBreak sBreak := ⟨ps_break, ss_break⟩
theorem s_cont : VS cl X (.Continue pos) tCont sCont := ⟨ps_continue, ss_cont⟩
theorem s_ret (h : VE cl X e te ev) : VS cl X (.Return (some e) pos) (tRet te) (sRet ev) := ⟨ps_ret h.pe, ss_ret h.so⟩
theorem s_retN : VS cl X (.Return none pos) tRetN sRetN := ⟨ps_retN, ss_retN⟩
theorem s_drop (h : VE cl X e te ev) (hs : swapsWith e none pos.line X.env = pure false := by rfl) : VS cl X (.Expr e pos) (tDrop te) (sDrop ev) := ⟨ps_expr h.pe hs, ss_drop h.so⟩
theorem s_if (hc : VT cl X c tA eA) (ha : VB cl X body ts es) (hb : VB cl X ta tu eu) : VS cl X (.If c body ta pos) (tIfS tA ts tu) (sIf eA es eu) := ⟨ps_if hc.pe ha.pe hb.pe, ss_if hc.so ha.so hb.so⟩
theorem s_set (i : Nat) {x : Str} {pos' : Pos} (hN : X.N.Nodup) (he : VE cl X e te ev) (hi : X.N[i]? = some x := by rfl) (hx : Loc X.env.scope x := by first | exact Or.inl rfl | exact Or.inr rfl) (hs : swapsWith e (some (.Name x pos')) pos.line X.env = pure false := by rfl) (hf : X.fn x = true ∨ X.env.scope.names.lookup x = some .local := by first | exact .inl rfl | exact .inr rfl) :
    VS cl X (.Assign [.Name x pos'] e pos) (tAsg te (gName i)) (sAsg ev (gN i)) := ⟨ps_set hN hi hx he.pe hs hf, ss_asg he.so (sg_name i)⟩
theorem s_setL (i : Nat) {x : Str} {pos' : Pos} {ar : EvA} (hN : X.N.Nodup) (he : VL cl X e te ar) (hi : X.N[i]? = some x := by rfl) (hx : Loc X.env.scope x := by first | exact Or.inl rfl | exact Or.inr rfl) (hs : swapsWith e (some (.Name x pos')) pos.line X.env = pure false := by rfl) (hf : X.fn x = true ∨ X.env.scope.names.lookup x = some .local := by first | exact .inl rfl | exact .inr rfl) :
    VS cl X (.Assign [.Name x pos'] e pos) (tAsg te (gName i)) (sAsgL i ar) := ⟨ps_set hN hi hx he.pe hs hf, ss_asgL i he.so⟩
structure VG (cl : Nat → Addr) (X : Cx) (e : Expr) (T : List Nat) (g : TG) (ev : EvG) : Prop where
  pe : PG X e g
  so : SG X.K cl T g ev
structure VGs (cl : Nat → Addr) (X : Cx) (e : List Expr) (T : List Nat) (g : TGs) (ev : List Dt → Env → Option Env) : Prop where
  pe : PGs X e g
  so : SGs X.K cl T g ev
theorem g_name (i : Nat) {x : Str} (hN : X.N.Nodup) (hi : X.N[i]? = some x := by rfl) (hx : Loc X.env.scope x := by first | exact Or.inl rfl | exact Or.inr rfl) (hf : X.fn x = true ∨ X.env.scope.names.lookup x = some .local := by first | exact .inl rfl | exact .inr rfl) : VG cl X (.Name x pos) [i] (gName i) (gN i) := ⟨pg_name hN hi hx hf, sg_name i⟩
theorem gs_nil : VGs cl X [] [] gNil gsNil := ⟨pgs_nil, sgs_nil⟩
theorem gs_cons {es : List Expr} {t : TG} {u : TGs} {a : EvG} {b : List Dt → Env → Option Env} {T1 T2 : List Nat} (h1 : VG cl X e T1 t a) (h2 : VGs cl X es T2 u b) (hs : (assignEach (e :: es) X.env).map (·.2) = assign e X.env :: (assignEach es X.env).map (·.2) := by rfl) : VGs cl X (e :: es) (T1 ++ T2) (gCons t u) (gsCons a b) := ⟨pgs_cons h1.pe h2.pe hs, sgs_cons h1.so h2.so⟩
theorem g_tup {es : List Expr} {k : Nat} {t : TGs} {b : List Dt → Env → Option Env} (n : Nat) {T : List Nat} (h : VGs cl X es T t b) (hc : X.calm = true := by rfl) (hn : (assignEach es X.env).length = n := by rfl) (hst : (assignEach es X.env).findIdx? (·.1) = none := by rfl) : VG cl X (.Tuple es k pos) T (gTup X.K n t) (gT n b) := ⟨pg_tup hc h.pe hn hst, sg_tup h.so⟩
theorem s_asg {tg : Expr} {g : TG} {eg : EvG} {T : List Nat} (he : VE cl X e te ev) (hg : VG cl X tg T g eg) (hs : swapsWithSole [tg] e pos.line X.env = pure false := by rfl) (hw : swappedStores [tg] e X.env = pure none := by rfl)
    (h1 : (assignEach [tg] X.env).map (·.2) = [assign tg X.env] := by rfl) : VS cl X (.Assign [tg] e pos) (tAsg te g) (sAsg ev eg) := ⟨ps_asg he.pe hg.pe hs hw h1, ss_asg he.so hg.so⟩
/-- box[c] = e, c a constant or a name -/
theorem s_setO (i : Nat) {x : Str} {p p2 : Pos} {tj : TE} {ej : EvE} (he : VE cl X e te ev) (hj : VE cl X b tj ej) (hk : ∀ env x env', ej env = some (x, env') → env' = env) (hN : X.N[i]? = some x := by rfl) (hv : Vis X.env.scope x := by first | exact Or.inl rfl | exact Or.inr (Or.inl rfl) | exact Or.inr (Or.inr rfl)) (hd : (x == ("__debug__" : Str)) = false := by decide)
    (hcd : (x == ("__classdict__" : Str)) = false := by decide) (ha : ∀ v, assign (.Subscript (.Name x p) b p2) X.env v = (do
      let ov ← holding [v] (eval (.Name x p) X.env)
      let iv ← holding [v, ov] (eval b X.env)
      standAt p2
      holding [v, ov, iv] (setItem ov iv v)
      release [v, ov, iv] []) := by intro _; rfl) (hs : swapsWithSole [.Subscript (.Name x p) b p2] e pos.line X.env = pure false := by rfl) (hw : swappedStores [.Subscript (.Name x p) b p2] e X.env = pure none := by rfl)
    (h1 : (assignEach [.Subscript (.Name x p) b p2] X.env).map (·.2) = [assign (.Subscript (.Name x p) b p2) X.env] := by rfl) :
    VS cl X (.Assign [.Subscript (.Name x p) b p2] e pos) (tAsg te (gSub (tVar i) tj rSetL)) (sSetO i ev ej) := ⟨ps_asg he.pe (pg_sub (pe_var hN hv hd hcd) hj.pe set_list ha) hs hw h1, ss_setO i he.so hj.so hk⟩
theorem keep_c {x : Dt} : ∀ env y env', xC x env = some (y, env') → env' = env := fun env y env' h => by cases h; rfl
/-- x.append(e) -/
theorem s_app (i : Nat) {x : Str} {p ap cp : Pos} (he : VE cl X e te ev) (hN : X.N[i]? = some x := by rfl) (hv : Vis X.env.scope x := by first | exact Or.inl rfl | exact Or.inr (Or.inl rfl) | exact Or.inr (Or.inr rfl)) (hd : (x == ("__debug__" : Str)) = false := by decide)
    (hcd : (x == ("__classdict__" : Str)) = false := by decide) (hse : starEach [e] X.env = (false, eval e X.env) :: starEach [] X.env := by rfl)
    (hbase : attributeBase (.Name x p) "append" X.env (eval (.Name x p) X.env) = eval (.Name x p) X.env := by rfl)
    (hfew : ((backTo cp (starEach [e] X.env)).all (fun x => !x.1) && (backToKw cp (keywordEach [] X.env)).all (fun x => x.1.isSome)
      && decide ([e].length + ([] : List Keyword).length + (if ([] : List Keyword).isEmpty then 0 else 1) < 30)) = true := by rfl)
    (hline : (ap.endLine == cp.line) = true := by rfl) (hplain : (backTo cp (starEach [] X.env)).any (·.1) = false := by rfl)
    (hs : swapsWith (.Call (.Attribute (.Name x p) "append" ap) [e] [] cp) none pos.line X.env = pure false := by rfl) :
    VS cl X (.Expr (.Call (.Attribute (.Name x p) "append" ap) [e] [] cp) pos) (tDrop (tBM X.K "list" rAppend (tVar i) (tCons te tNil))) (sApp i ev) :=
  ⟨ps_expr (pe_bm PySem.F.plainAttrs_list PySem.F.slot_list_append PySem.F.type_list_append mt_append (pe_var hN hv hd hcd) (pa_cons he.pe pa_nil hse) hbase hfew hline hse hplain) hs, ss_app i he.so⟩
theorem i_sq {tg : Expr} {a : EvE} (h : VE cl X e te a) : VI cl X tg e (tSq X.K te) (iSq a) := ⟨pi_sq h.pe, si_sq h.so⟩
theorem i_r1 {tg : Expr} {p : Pos} {t : TA} {ar : EvA} (hm : X.mg "range" = none) (h : VA cl X [a] t ar) (hg : Gl X "range" := by rfl) (hs : starEach [a] X.env = [(false, eval a X.env)] := by rfl) : VI cl X tg (.Call (.Name "range" p) [a] [] pos) (iRng1 t) (iR1 ar) := ⟨pi_range1 hg hm h.pe hs, si_r1 h.so⟩
theorem i_r2 {tg : Expr} {p : Pos} {t : TA} {ar : EvA} (hm : X.mg "range" = none) (h : VA cl X [a, b] t ar) (hg : Gl X "range" := by rfl) (hs : starEach [a, b] X.env = [(false, eval a X.env), (false, eval b X.env)] := by rfl) (hs2 : starEach [b] X.env = [(false, eval b X.env)] := by rfl) :
    VI cl X tg (.Call (.Name "range" p) [a, b] [] pos) (iRng2 t) (iR2 ar) := ⟨pi_range2 hg hm h.pe hs hs2, si_r2 h.so⟩
theorem s_for {tg iter : Expr} {wi : TI} {g : TG} {it : EvI} {eg : EvG} (hp : PassesOwn (model X.prog X.w) X.A X.env X.xe) (hc : X.calm = true) {T : List Nat} (hi : VI cl X tg iter wi it) (hg : VG cl X tg T g eg) (hb : VB cl X body ts es) (hs : ∀ x, foldedSetIterable iter X.env x = pure x := by intro _; rfl) : VS cl X (.For tg iter body [] pos) (tFor wi g ts) (sFor it eg es) := ⟨ps_for hp hc hi.pe hg.pe hb.pe hs, ss_for hi.so hg.so hb.so⟩
theorem s_while (n : Nat) (hp : PassesOwn (model X.prog X.w) X.A X.env X.xe) (hc : VT cl X c tA eA) (hb : VB cl X body ts es) : VS cl X (.While c body [] pos) (tWhile tA ts) (whileE eA es n) := ⟨ps_while hp hc.pe hb.pe, ss_while n hc.so hb.so⟩
end

/-! ### the law -/
def spLaw (K : Fg) : Sp := fun vs H Q _ => ∃ (a : Addr) (ns : List Int), vs = [.ref a] ∧ SqL K H a (ns.map V.int) ∧ ns.length ≤ 63 ∧ ∀ H', Q (.bl true) H'
theorem law_of {P : Program} {w : World} {K : Fg} {mg : Str → Option Value} {base : Heap} {k : Nat} {f : Addr} {fd : FuncData} {ps : List Str} {g : List Dt → Option Dt} {cl : Nat → Addr} (ht : ∀ ns : List Int, ns.length ≤ 63 → g [.scr ns] = some (.bl true))
    (F : FnOk P w K mg base CX0 k f fd ps (spE K cl 1 g)) : FnOk P w K mg base CX0 k f fd ps (spLaw K) := F.imp fun vs H Q E h => by
  obtain ⟨a, ns, rfl, hS, hl, q⟩ := h
  refine ⟨fun _ => False, [.scr ns], .bl true, fun _ z => z.elim, rfl, .cons (.scr ?_) .nil, ht ns hl, fun v H' _ r => ?_⟩
  · have e : hd (fun _ => False) H = H := by
      funext b
      exact hd_out (fun z => z)
    rw [e]
    exact hS
  · cases r
    exact q H'
end DL

set_option Elab.async false
set_option linter.all false
set_option maxRecDepth 100000
set_option maxHeartbeats 4000000
/-! What the laws' own helpers are worth: cells, digits, draws. -/
namespace DL
open L2
/-- a loop whose turns keep P -/
theorem loop_keep' {g : EvG} {b : EvS} (P : Nat → DL.Env → Prop) : ∀ (xs : List Dt) (i : Nat) (env : DL.Env), P i env → (∀ (j : Nat) (x : Dt), xs[j]? = some x → ∀ env, P (i + j) env → ∃ e, (g x env).bind b = some (.nx e) ∧ P (i + j + 1) e) → ∃ e, loopE g b xs env = some (.nx e) ∧ P (i + xs.length) e
  | [], i, env, h, _ => ⟨env, rfl, h⟩
  | x :: xs, i, env, h, hs => by
    obtain ⟨e, h1, h2⟩ := hs 0 x rfl env h
    obtain ⟨e2, h3, h4⟩ := loop_keep' P xs (i + 1) e h2 fun j y hy env hP => by
      have e1 : i + 1 + j = i + (j + 1) := by omega
      rw [e1] at hP ⊢
      exact hs (j + 1) y hy env hP
    obtain ⟨e1, g1, g2⟩ := bind_some h1
    refine ⟨e2, ?_, by rw [List.length_cons, Nat.add_comm xs.length 1, ← Nat.add_assoc]; exact h4⟩
    show ((g x env).bind fun e => (b e).bind _) = _
    rw [g1]
    show (b e1).bind _ = _
    rw [g2]
    exact h3
theorem loop_keep {g : EvG} {b : EvS} (P : Nat → DL.Env → Prop) {xs : List Dt} {env : DL.Env} (h0 : P 0 env) (hs : ∀ (j : Nat) (x : Dt), xs[j]? = some x → ∀ env, P j env → ∃ e, (g x env).bind b = some (.nx e) ∧ P (j + 1) e) : ∃ e, loopE g b xs env = some (.nx e) ∧ P xs.length e := by
  obtain ⟨e, h1, h2⟩ := loop_keep' P xs 0 env h0 fun j x hx env hP => by
    rw [Nat.zero_add] at hP ⊢
    exact hs j x hx env hP
  rw [Nat.zero_add] at h2
  exact ⟨e, h1, h2⟩
/-- over a range -/
theorem loop_range {g : EvG} {b : EvS} {lo : Int} {n : Nat} (P : Nat → DL.Env → Prop) {env : DL.Env} (h0 : P 0 env) (hs : ∀ (j : Nat), j < n → ∀ env, P j env → ∃ e, (g (.int (lo + (j : Int))) env).bind b = some (.nx e) ∧ P (j + 1) e) : ∃ e, loopE g b (rangeD lo n) env = some (.nx e) ∧ P n e := by
  obtain ⟨e, h1, h2⟩ := loop_keep (g := g) (b := b) (xs := rangeD lo n) P h0 fun j x hx env hP => by
    have hj : j < n := by
      have := (List.getElem?_eq_some_iff.mp hx).1
      rwa [rangeD_len] at this
    unfold rangeD at hx
    rw [List.getElem?_map, List.getElem?_range hj] at hx
    cases hx
    exact hs j hj env hP
  rw [rangeD_len] at h2
  exact ⟨e, h1, h2⟩
theorem mem_range {lo : Int} {n : Nat} {x : Dt} (h : x ∈ rangeD lo n) : ∃ k : Nat, k < n ∧ x = .int (lo + (k : Int)) := by
  unfold rangeD at h
  obtain ⟨k, h1, h2⟩ := List.mem_map.mp h
  exact ⟨k, List.mem_range.mp h1, h2.symm⟩
theorem atI_of {α : Type} {xs : List α} {k : Int} (h0 : 0 ≤ k) (h : k < xs.length) : atI xs k = some (xs[k.toNat]'(by omega)) := by
  have := atI_nat (xs := xs) (j := k.toNat) (v := xs[k.toNat]'(by omega)) (by simp)
  rwa [show ((k.toNat : Nat) : Int) = k by omega] at this
@[simp] theorem at20 {α : Type} (x y : α) : atI [x, y] 0 = some x := rfl
@[simp] theorem at21 {α : Type} (x y : α) : atI [x, y] 1 = some y := rfl
@[simp] theorem at30 {α : Type} (x y z : α) : atI [x, y, z] 0 = some x := rfl
@[simp] theorem at31 {α : Type} (x y z : α) : atI [x, y, z] 1 = some y := rfl
@[simp] theorem at32 {α : Type} (x y z : α) : atI [x, y, z] 2 = some z := rfl
theorem sSeq_nx {a b : EvS} {env e : DL.Env} (h : a env = some (.nx e)) : sSeq a b env = b e := by
  show (a env).bind _ = _
  rw [h]
  rfl

/-! ### cells, digits, draws: the laws k00 to k10 -/
def ev_l_cell : EvS := sSeq (sIf (xT (x2 fLt (xVar 1) (xB fLen (xCons (xVar 0) (xNil))))) (sRet (x2 fIx (xVar 0) (xVar 1))) (sNext)) (sRet (xC (.int 0)))
def rv_l_cell : List Dt → Option Dt := runE 2 ev_l_cell
def lp_l_digits_0 : EvS := sIf (xT (x2 fGt (xVar 5) (xC (.int 0)))) (sSeq (sApp 3 (x2 fMod (xB fInt (xCons (xVar 5) (xNil))) (xC (.int 1000)))) (sAsg (x2 fDiv (xVar 5) (xC (.int 1000))) (gN 5))) (sNext)
def lp_l_digits_1 : EvS := sSeq (sAsg (x2 fMod (xB fInt (xCons (x2 fAdd (x2 fAdd (x2 fMul (xVar 7) (xC (.int 16807))) (x2 fMul (xC (.int 7)) (xVar 6))) (xC (.int 1))) (xNil))) (xC (.int 2147483647))) (gN 7)) (sApp 3 (x2 fMod (xB fInt (xCons (x2 fDiv (xVar 7) (xC (.int 997))) (xNil))) (xC (.int 1000))))
def lp_l_digits_2 : EvS := sSeq (sAsg (xB (callF 2 rv_l_cell) (xCons (xVar 0) (xCons (xVar 4) (xNil)))) (gN 5)) (sSeq (sIf (xT (x2 fLt (xVar 5) (xC (.int 0)))) (sAsg (x2 fSub (xC (.int 1)) (x2 fMul (xC (.int 2)) (xVar 5))) (gN 5)) (sNext)) (sIf (xT (x2 fGe (xVar 5) (x2 fPow (xC (.int 10)) (xC (.int 18))))) (sFor (iR1 (xCons (xC (.int 60)) (xNil))) (gN 6) lp_l_digits_0) (sSeq (sAsg (x2 fMod (xB fInt (xCons (x2 fAdd (x2 fAdd (x2 fMul (xVar 5) (xC (.int 48271))) (x2 fMul (xVar 4) (xC (.int 69621)))) (xC (.int 11))) (xNil))) (xC (.int 2147483647))) (gN 7)) (sFor (iR1 (xCons (xC (.int 12)) (xNil))) (gN 6) lp_l_digits_1))))
def ev_l_digits : EvS := sSeq (sAsgL 3 (xLst (xNil))) (sSeq (sFor (iR2 (xCons (xVar 1) (xCons (xVar 2) (xNil)))) (gN 4) lp_l_digits_2) (sRet (xVar 3)))
def rv_l_digits : List Dt → Option Dt := runE 8 ev_l_digits
def ev_l_draw : EvS := sSeq (sAsg (xIxO 0 (xC (.int 1))) (gN 2)) (sSeq (sSetO 0 (x2 fAdd (xVar 2) (xC (.int 1))) (xC (.int 1))) (sSeq (sIf (xT (x2 fLt (xVar 2) (xB fLen (xCons (xIxO 0 (xC (.int 0))) (xNil))))) (sRet (x2 fMod (xB fInt (xCons (x2 fIx (xIxO 0 (xC (.int 0))) (xVar 2)) (xNil))) (xVar 1))) (sNext)) (sRet (xC (.int 0)))))
def rv_l_draw : Oc → List Dt → Option (Dt × Oc) := runO 3 ev_l_draw
theorem cell_eq (ns : List Int) (k : Int) (hk : 0 ≤ k) : ∃ c, rv_l_cell [.scr ns, .int k] = some (.int c) := by
  by_cases h : k < ns.length
  · exact ⟨_, by simp [rv_l_cell, ev_l_cell, h, atI_of hk h]; rfl⟩
  · exact ⟨0, by simp [rv_l_cell, ev_l_cell, h]⟩
/-- where the digits stand -/
def DigP (ns : List Int) (s4 s7 : Sc) (n : Nat) (env : DL.Env) : Prop := ∃ (ds : List Int) (c : Int) (s6 : Sc), env = [.d (.scr ns), .d (.int 0), .d (.int 63), .own (.l (ds.map .int)), s4, .d (.int c), s6, s7] ∧ ds.length ≤ n ∧ s6.isPar = false
def DigQ (ns : List Int) (s4 s5 : Sc) (n : Nat) (env : DL.Env) : Prop := ∃ (ds : List Int) (c : Int) (s6 : Sc), env = [.d (.scr ns), .d (.int 0), .d (.int 63), .own (.l (ds.map .int)), s4, s5, s6, .d (.int c)] ∧ ds.length ≤ n ∧ s6.isPar = false
def DigS (ns : List Int) (n : Nat) (env : DL.Env) : Prop := ∃ (ds : List Int) (s4 s5 s6 s7 : Sc), env = [.d (.scr ns), .d (.int 0), .d (.int 63), .own (.l (ds.map .int)), s4, s5, s6, s7] ∧ ds.length ≤ n ∧ s4.isPar = false ∧ s5.isPar = false ∧ s6.isPar = false ∧ s7.isPar = false
theorem dig_lp0 {ns : List Int} {n : Nat} {s4 s7 : Sc} (hn : n < 100000) (x : Int) {env : DL.Env} (h : DigP ns s4 s7 n env) : ∃ e, (gN 6 (.int x) env).bind lp_l_digits_0 = some (.nx e) ∧ DigP ns s4 s7 (n + 1) e := by
  obtain ⟨ds, c, s6, rfl, hl, h6⟩ := h
  by_cases hc : 0 < c
  · refine ⟨_, ?_, ds ++ [c.fmod 1000], c.fdiv 1000, .d (.int x), rfl, by simp; omega, rfl⟩
    have hm : ds.length < most := by unfold most; omega
    have hd : divOk 1000 = true := by decide
    simp [lp_l_digits_0, hc, h6, hm, hd]
  · refine ⟨_, ?_, ds, c, .d (.int x), rfl, by omega, rfl⟩
    simp [lp_l_digits_0, hc, h6]
theorem dig_lp1 {ns : List Int} {n : Nat} {s5 : Sc} {k : Int} (hn : n < 100000) (x : Int) (hx : smallI x = true) {env : DL.Env} (h : DigQ ns (.d (.int k)) s5 n env) : ∃ e, (gN 6 (.int x) env).bind lp_l_digits_1 = some (.nx e) ∧ DigQ ns (.d (.int k)) s5 (n + 1) e := by
  obtain ⟨ds, c, s6, rfl, hl, h6⟩ := h
  have hm : ds.length < most := by unfold most; omega
  have hd : divOk 997 = true := by decide
  have h1 : smallI 16807 = true := by decide
  have h2 : smallI 7 = true := by decide
  refine ⟨_, ?_, ds ++ [(((c * 16807 + 7 * x + 1).fmod 2147483647).fdiv 997).fmod 1000], (c * 16807 + 7 * x + 1).fmod 2147483647, .d (.int x), rfl, by simp; omega, rfl⟩
  simp [lp_l_digits_1, h6, hm, hd, h1, h2, hx]
theorem dig_lp2 {ns : List Int} {n : Nat} (hn : n < 90000) (x : Int) (h0 : 0 ≤ x) {env : DL.Env} (h : DigS ns n env) : ∃ e, (gN 4 (.int x) env).bind lp_l_digits_2 = some (.nx e) ∧ DigS ns (n + 60) e := by
  obtain ⟨ds, s4, s5, s6, s7, rfl, hl, h4, h5, h6, h7⟩ := h
  obtain ⟨c, hc⟩ := cell_eq ns x h0
  have e2 : smallI 2 = true := by decide
  have e3 : smallI 48271 = true := by decide
  have e4 : smallI 69621 = true := by decide
  have fin : ∀ c : Int, ∃ e, sIf (xT (x2 fGe (xVar 5) (x2 fPow (xC (.int 10)) (xC (.int 18))))) (sFor (iR1 (xCons (xC (.int 60)) (xNil))) (gN 6) lp_l_digits_0) (sSeq (sAsg (x2 fMod (xB fInt (xCons (x2 fAdd (x2 fAdd (x2 fMul (xVar 5) (xC (.int 48271))) (x2 fMul (xVar 4) (xC (.int 69621)))) (xC (.int 11))) (xNil))) (xC (.int 2147483647))) (gN 7)) (sFor (iR1 (xCons (xC (.int 12)) (xNil))) (gN 6) lp_l_digits_1))
      [.d (.scr ns), .d (.int 0), .d (.int 63), .own (.l (ds.map .int)), .d (.int x), .d (.int c), s6, s7] = some (.nx e) ∧ DigS ns (n + 60) e := by
    intro c
    by_cases hb : 1000000000000000000 ≤ c
    · obtain ⟨e, k1, ds', c', s6', rfl, k3, k4⟩ := loop_range (lo := 0) (n := 60) (g := gN 6) (b := lp_l_digits_0) (fun i env => DigP ns (.d (.int x)) s7 (n + i) env) ⟨ds, c, s6, rfl, by omega, h6⟩ (fun j hj env hP => dig_lp0 (by show n + j < 100000; omega) _ hP)
      refine ⟨_, ?_, ds', .d (.int x), .d (.int c'), s6', s7, rfl, k3, rfl, rfl, k4, h7⟩
      simp [hb, k1]
    · obtain ⟨e, k1, ds', c', s6', rfl, k3, k4⟩ := loop_range (lo := 0) (n := 12) (g := gN 6) (b := lp_l_digits_1) (fun i env => DigQ ns (.d (.int x)) (.d (.int c)) (n + i) env) (env := [.d (.scr ns), .d (.int 0), .d (.int 63), .own (.l (ds.map .int)), .d (.int x), .d (.int c), s6, .d (.int ((c * 48271 + x * 69621 + 11).fmod 2147483647))]) ⟨ds, _, s6, rfl, by omega, h6⟩ (fun j hj env hP => dig_lp1 (by show n + j < 100000; omega) _ (smallI_of (by omega) (by omega)) hP)
      refine ⟨_, ?_, ds', .d (.int x), .d (.int c), s6', .d (.int c'), rfl, by omega, rfl, rfl, k4, rfl⟩
      simp [hb, h7, e3, e4, k1]
  by_cases hneg : c < 0
  · obtain ⟨e, k1, k2⟩ := fin (1 - 2 * c)
    refine ⟨e, ?_, k2⟩
    rw [← k1]
    simp [lp_l_digits_2, h4, h5, hc, hneg, e2]
  · obtain ⟨e, k1, k2⟩ := fin c
    refine ⟨e, ?_, k2⟩
    rw [← k1]
    simp [lp_l_digits_2, h4, h5, hc, hneg]
theorem digits_ok (ns : List Int) : ∃ ds : List Int, rv_l_digits [.scr ns, .int 0, .int 63] = some (.lst (ds.map .int)) ∧ ds.length ≤ 3780 := by
  obtain ⟨e, k1, ds', s4, s5, s6, s7, rfl, k3, _⟩ := loop_range (lo := 0) (n := 63) (g := gN 4) (b := lp_l_digits_2) (fun i env => DigS ns (60 * i) env) (env := [.d (.scr ns), .d (.int 0), .d (.int 63), .own (.l []), .un, .un, .un, .un]) ⟨[], .un, .un, .un, .un, rfl, by simp, rfl, rfl, rfl, rfl⟩ (fun j hj env hP => dig_lp2 (by show 60 * j < 90000; omega) _ (by omega) hP)
  refine ⟨ds', ?_, k3⟩
  simp [rv_l_digits, ev_l_digits, List.replicate, k1]
/-- a box of digits -/
def BoxD (o : Oc) : Prop := ∃ (ds : List Int) (at_ : Int), o = .l [.lst (ds.map .int), .int at_] ∧ 0 ≤ at_
theorem draw_ok {o : Oc} (h : BoxD o) {many : Int} (hm : 0 < many) : ∃ r o', rv_l_draw o [.int many] = some (.int r, o') ∧ 0 ≤ r ∧ r < many ∧ BoxD o' := by
  obtain ⟨ds, at_, rfl, h0⟩ := h
  by_cases hl : at_ < ds.length
  · refine ⟨(ds[at_.toNat]'(by omega)).fmod many, .l [.lst (ds.map .int), .int (at_ + 1)], ?_, Int.fmod_nonneg_of_pos _ hm, Int.fmod_lt_of_pos _ hm, ds, at_ + 1, rfl, by omega⟩
    have e : atI (ds.map Dt.int) at_ = some (.int (ds[at_.toNat]'(by omega))) := by
      rw [atI_of h0 (by rw [List.length_map]; exact hl)]
      simp
    have hne : ¬ many = 0 := by omega
    have e1 : ixN 2 1 = some 1 := rfl
    simp [rv_l_draw, ev_l_draw, hl, e, hne, e1, List.replicate]
  · refine ⟨0, .l [.lst (ds.map .int), .int (at_ + 1)], ?_, by omega, hm, ds, at_ + 1, rfl, by omega⟩
    have e1 : ixN 2 1 = some 1 := rfl
    simp [rv_l_draw, ev_l_draw, hl, e1, List.replicate]
end DL

set_option Elab.async false
set_option linter.all false
set_option maxRecDepth 100000
set_option maxHeartbeats 4000000
namespace DL
open PySem PySem.Spec PyProof.Rows L2
variable {K : Fg} {cl : Nat → Addr}

/-! ### comprehensions -/
/-- the slots vs forgotten; none of them an owner -/
def wipeE (env : Env) : List Nat → Option Env
  | [] => some env
  | v :: vs => (wipeE env vs).bind fun e => match e[v]? with
    | some .un => some e
    | some (.d _) => some (e.set v .un)
    | _ => none
theorem StA.setU {Hin H : Hp} {M0 : Addr → Prop} {as : Nat → Addr} {env : Env} {σ σ' : L2.St} {i : Nat} {s : Sc} (S : StA K cl Hin M0 as env σ H) (h : env[i]? = some s) (hs : s.oc = none) (hl : σ'.length = σ.length) (hk : ∀ j, j ≠ i → σ'[j]? = σ[j]?) :
    StA K cl Hin M0 as (env.set i .un) σ' H ∧ Step M0 as env H as (env.set i .un) H := by
  have hi : i < env.length := (List.getElem?_eq_some_iff.mp h).1
  have hn : ocAt env i = none := by unfold ocAt; rw [h]; exact hs
  have ho : ∀ j, ocAt (env.set i .un) j = ocAt env j := fun j => by
    by_cases hj : j = i
    · subst hj; rw [ocAt_set hi, hn]; rfl
    · exact ocAt_ne hj
  have hm : MP M0 as (env.set i .un) = MP M0 as env := by
    funext a
    unfold MP
    simp only [ho]
  have hb : Bv M0 as (env.set i .un) H = Bv M0 as env H := by unfold Bv; rw [hm]
  refine ⟨⟨by rw [List.length_set, hl]; exact S.len, S.same, fun j o z => S.fr j o (by rw [← ho j]; exact z), S.m0, fun j k o o' z z' e => S.inj j k o o' (by rw [← ho j]; exact z) (by rw [← ho k]; exact z') e, fun j t ht => ?_⟩, ⟨by rw [hb]; exact Same.refl _, fun j o hj => ?_, fun _ _ _ z => z⟩⟩
  · by_cases hj : j = i
    · subst hj
      rw [List.getElem?_set_self hi] at ht
      cases ht
      trivial
    · rw [List.getElem?_set_ne (Ne.symm hj)] at ht
      have q := S.sl j t ht
      rw [hb, hk j hj]
      exact q
  · by_cases hji : j = i
    · rw [hji, h] at hj
      cases hj
      cases hs
    · exact ⟨rfl, o, by rw [List.getElem?_set_ne (Ne.symm hji)]; exact hj⟩
theorem wipeE_ok {Hin H : Hp} {M0 : Addr → Prop} {as : Nat → Addr} {env : Env} {σ : L2.St} (S : StA K cl Hin M0 as env σ H) : ∀ {vs : List Nat} {e : Env}, wipeE env vs = some e → StA K cl Hin M0 as e (wipe σ vs) H ∧ StA K cl Hin M0 as e σ H ∧ Step M0 as env H as e H ∧ ∀ v ∈ vs, e[v]? = some .un
  | [], e, h => by
    cases h
    exact ⟨S, S, Step.refl, fun _ z => by cases z⟩
  | v :: vs, e, h => by
    obtain ⟨e1, h1, h⟩ := bind_some h
    obtain ⟨S1, S2, s1, u1⟩ := wipeE_ok S h1
    have hset : ∀ j, j ≠ v → ((wipe σ vs).set v none)[j]? = (wipe σ vs)[j]? := fun j hj => List.getElem?_set_ne (Ne.symm hj)
    split at h
    · rename_i e0
      cases h
      obtain ⟨T1, t1⟩ := S1.setU (σ' := (wipe σ vs).set v none) e0 rfl (List.length_set) hset
      rw [set_same e0] at T1
      refine ⟨T1, S2, s1, fun w hw => ?_⟩
      rcases List.mem_cons.mp hw with rfl | hw
      · exact e0
      · exact u1 w hw
    · rename_i x e0
      cases h
      have hv : v < e1.length := (List.getElem?_eq_some_iff.mp e0).1
      obtain ⟨T1, t1⟩ := S1.setU (σ' := (wipe σ vs).set v none) e0 rfl (List.length_set) hset
      obtain ⟨T2, t2⟩ := S2.setU (σ' := σ) e0 rfl rfl (fun _ _ => rfl)
      refine ⟨T1, T2, s1.trans t2, fun w hw => ?_⟩
      by_cases hwv : w = v
      · rw [hwv, List.getElem?_set_self hv]
      · rw [List.getElem?_set_ne (Ne.symm hwv)]
        exact u1 w ((List.mem_cons.mp hw).resolve_left hwv)
    · cases h
/-- slots that are unknown anyway: their values are no matter -/
theorem StA.reSt {Hin H : Hp} {M0 : Addr → Prop} {as : Nat → Addr} {env : Env} {σ σ' : L2.St} (S : StA K cl Hin M0 as env σ H) (hl : σ'.length = σ.length) (hk : ∀ j : Nat, env[j]? ≠ some Sc.un → σ'[j]? = σ[j]?) : StA K cl Hin M0 as env σ' H :=
  ⟨hl.trans S.len, S.same, S.fr, S.m0, S.inj, fun j s h => by
    have q := S.sl j s h
    cases s with
    | un => trivial
    | d x => rw [hk j (by rw [h]; intro z; cases z)]; exact q
    | own o => rw [hk j (by rw [h]; intro z; cases z)]; exact q
    | par o => rw [hk j (by rw [h]; intro z; cases z)]; exact q⟩
/-- an object that is nobody's slot's is somebody's from now on -/
theorem StA.hide {Hin H : Hp} {M0 : Addr → Prop} {as : Nat → Addr} {env : Env} {σ : L2.St} {D : Addr} {o : HO} (S : StA K cl Hin M0 as env σ H) (hD : H D = none) :
    StA K cl Hin (fun a => M0 a ∨ a = D) as env σ (upd H D o) ∧ Bv (fun a => M0 a ∨ a = D) as env (upd H D o) = Bv M0 as env H := by
  have hnD : ∀ i p, ocAt env i = some p → as i ≠ D := fun i p z e => by
    obtain ⟨_, ho, h2, _⟩ := S.own_at z
    rw [e, hD] at h2
    cases h2
  have hb : Bv (fun a => M0 a ∨ a = D) as env (upd H D o) = Bv M0 as env H := by
    unfold Bv
    funext a
    by_cases ha : a = D
    · rw [ha, hd_in (M := MP (fun a => M0 a ∨ a = D) as env) (.inl (.inr rfl))]
      by_cases hm : MP M0 as env D
      · rw [hd_in hm]
      · rw [hd_out hm, hD]
    · by_cases hm : MP M0 as env a
      · rw [hd_in hm, hd_in (M := MP (fun a => M0 a ∨ a = D) as env) (hm.elim (fun z => .inl (.inl z)) .inr)]
      · rw [hd_out hm, hd_out (M := MP (fun a => M0 a ∨ a = D) as env) (fun z => z.elim (fun z => z.elim (fun z => hm (.inl z)) ha) fun z => hm (.inr z)), upd_ne ha]
  refine ⟨⟨S.len, S.same.trans (same_upd hD), fun i p z => ⟨(S.fr i p z).1, fun y => y.elim (S.fr i p z).2 (hnD i p z)⟩, fun a ha => ?_, S.inj, fun j s hs => ?_⟩, hb⟩
  · by_cases h : a = D
    · rw [h, upd_same]; simp
    · rw [upd_ne h]; exact S.m0 a (ha.resolve_right h)
  · rw [hb]
    have q := S.sl j s hs
    cases s with
    | un => trivial
    | d x => exact q
    | own p => obtain ⟨h1, ho, h2, h3⟩ := q; exact ⟨h1, ho, by rw [upd_ne (hnD j p (ocAt_own hs))]; exact h2, h3⟩
    | par p => obtain ⟨h1, ho, h2, h3⟩ := q; exact ⟨h1, ho, by rw [upd_ne (hnD j p (ocAt_par hs))]; exact h2, h3⟩
def dropH (H : Hp) (D : Addr) : Hp := fun a => if a = D then none else H a
theorem dropH_ne {H : Hp} {D a : Addr} (h : a ≠ D) : dropH H D a = H a := if_neg h
theorem dropH_eq {H : Hp} {D : Addr} : dropH H D D = none := if_pos rfl
theorem dropH_upd {H : Hp} {D : Addr} {o : HO} (h : H D = some o) : upd (dropH H D) D o = H := by
  funext a
  by_cases ha : a = D
  · rw [ha, upd_same, h]
  · rw [upd_ne ha, dropH_ne ha]
/-- .. and given back -/
theorem StA.show_ {Hin H : Hp} {M0 : Addr → Prop} {as : Nat → Addr} {env : Env} {σ : L2.St} {D : Addr} {o : HO} (S : StA K cl Hin (fun a => M0 a ∨ a = D) as env σ H) (hD : H D = some o) (hin : Hin D = none) (h0 : ¬ M0 D) :
    StA K cl Hin M0 as env σ (dropH H D) ∧ Bv M0 as env (dropH H D) = Bv (fun a => M0 a ∨ a = D) as env H := by
  have hnD : ∀ i p, ocAt env i = some p → as i ≠ D := fun i p z e => (S.fr i p z).2 (.inr e)
  have hb : Bv M0 as env (dropH H D) = Bv (fun a => M0 a ∨ a = D) as env H := by
    unfold Bv
    funext a
    by_cases ha : a = D
    · rw [ha, hd_in (M := MP (fun a => M0 a ∨ a = D) as env) (.inl (.inr rfl))]
      by_cases hm : MP M0 as env D
      · rw [hd_in hm]
      · rw [hd_out hm, dropH_eq]
    · by_cases hm : MP M0 as env a
      · rw [hd_in hm, hd_in (M := MP (fun a => M0 a ∨ a = D) as env) (hm.elim (fun z => .inl (.inl z)) .inr)]
      · rw [hd_out hm, hd_out (M := MP (fun a => M0 a ∨ a = D) as env) (fun z => z.elim (fun z => z.elim (fun z => hm (.inl z)) ha) fun z => hm (.inr z)), dropH_ne ha]
  refine ⟨⟨S.len, fun a u hu => ?_, fun i p z => ⟨(S.fr i p z).1, fun y => (S.fr i p z).2 (.inl y)⟩, fun a ha => ?_, S.inj, fun j s hs => ?_⟩, hb⟩
  · rw [dropH_ne (ne_of_none hu hin)]
    exact S.same a u hu
  · rw [dropH_ne (fun z => h0 (by rw [← z]; exact ha))]
    exact S.m0 a (.inl ha)
  · rw [hb]
    have q := S.sl j s hs
    cases s with
    | un => trivial
    | d x => exact q
    | own p => obtain ⟨h1, ho, h2, h3⟩ := q; exact ⟨h1, ho, by rw [dropH_ne (hnD j p (ocAt_own hs))]; exact h2, h3⟩
    | par p => obtain ⟨h1, ho, h2, h3⟩ := q; exact ⟨h1, ho, by rw [dropH_ne (hnD j p (ocAt_par hs))]; exact h2, h3⟩
/-- the turns: what is made so far is acc -/
def lcE (g : EvG) (c : EvT) (b : EvE) (vs : List Nat) : List Dt → List Dt → Env → Option (List Dt × Env)
  | [], acc, env => some (acc, env)
  | x :: xs, acc, env => (g x env).bind fun e => (c e).bind fun p => if p.1 = true then (b p.2).bind fun q => if acc.length < most then (wipeE q.2 vs).bind fun e4 => lcE g c b vs xs (acc ++ [q.1]) e4 else none
      else (wipeE p.2 vs).bind fun e4 => lcE g c b vs xs acc e4
@[simp] def xLc (it : EvI) (g : EvG) (c : EvT) (b : EvE) (vs : List Nat) : EvA := fun env => (it env).bind fun p => (wipeE p.2 vs).bind fun e => lcE g c b vs p.1 [] e
theorem sl_lc {wi : TI} {tg : TG} {tt : TT} {te : TE} {T vs : List Nat} {it : EvI} {g : EvG} {c : EvT} {b : EvE} (hi : SI K cl wi it) (hg : SG K cl T tg g) (ht : ST K cl tt c) (he : SE K cl te b) (hT : ∀ i ∈ T, i ∈ vs) : SL K cl (tLc wi tg tt te vs) (xLc it g c b vs) := fun Hin M0 as env σ H Q ds env' e S q => by
  obtain ⟨⟨xs, e1⟩, h1, e⟩ := bind_some e
  obtain ⟨e2, h2, e⟩ := bind_some e
  refine hi Hin M0 as env σ H _ _ _ h1 S fun J H1 S1 s1 F => fun D hD => ?_
  obtain ⟨W1, W2, w1, _⟩ := wipeE_ok S1 h2
  have hinD : Hin D = none := S1.same.free hD
  have h0D : ¬ M0 D := fun z => S1.m0 D z hD
  obtain ⟨S2, hB2⟩ := W1.hide (o := .lst []) hD
  -- the invariant
  refine ⟨fun i m H' => m = xs.length - i ∧ i ≤ xs.length ∧ ∃ (acc : List Dt) (vsd : List V) (envi : Env), StA K cl Hin (fun a => M0 a ∨ a = D) as envi (wipe σ vs) H' ∧ Same (Bv M0 as e2 H1) (Bv (fun a => M0 a ∨ a = D) as envi H') ∧
      (∀ (j : Nat) (o : Oc), e2[j]? = some (Sc.par o) → ∃ o' : Oc, envi[j]? = some (Sc.par o')) ∧ (∀ a o, M0 a → H1 a = some o → H' a = some o) ∧ H' D = some (.lst vsd) ∧ RpA K cl (Bv (fun a => M0 a ∨ a = D) as envi H') vsd acc ∧ (∀ v ∈ vs, envi[v]? = some Sc.un) ∧ lcE g c b vs (xs.drop i) acc envi = some (ds, env'),
    ⟨xs.length, by simp, Nat.zero_le _, [], [], e2, S2, by rw [hB2]; exact Same.refl _, fun j o z => ⟨o, z⟩, fun a o _ z => same_upd hD a o z, upd_same, .nil, (wipeE_ok S1 h2).2.2.2, by simpa using e⟩, ?_⟩
  rintro i m H' ⟨rfl, hi', acc, vsd, envi, Si, sB, sp, sf, hDi, ra, un, hr⟩
  by_cases hlt : i < xs.length
  · have hdr : xs.drop i = xs[i] :: xs.drop (i + 1) := List.drop_eq_getElem_cons hlt
    rw [hdr] at hr
    obtain ⟨g1, k1, hr⟩ := bind_some hr
    obtain ⟨⟨bb, g2⟩, k2, hr⟩ := bind_some hr
    have sBH : Same (Bv M0 as e1 H1) (hd (MP (fun a => M0 a ∨ a = D) as envi) H') := w1.b.trans sB
    refine .inr ⟨F.go H' i (sBH.trans hd_same) hlt, _, fun H2 h => ⟨xs.length - (i + 1), by omega, rfl, hlt, h⟩, fun v H3 hy => ?_⟩
    obtain ⟨sm, x, hx, rx⟩ := F.yld H' H3 i v _ sBH (fun a h => Si.dom h) hlt hy
    rw [List.getElem?_eq_getElem hlt] at hx
    cases hx
    obtain ⟨S3, s3⟩ := Si.grow sm
    refine hg Hin _ as envi (wipe σ vs) H3 _ _ v g1 k1 S3 rx fun σ4 H4 S4 s4 wp => ?_
    have wp := wp vs hT
    have ww : wipe (wipe σ vs) vs = wipe σ vs := by
      apply List.ext_getElem?
      intro k
      rw [wipe_get, wipe_length, wipe_get]
      by_cases hk : k ∈ vs ∧ k < σ.length <;> simp [hk]
    rw [ww] at wp
    refine ⟨wp, ht Hin _ as g1 σ4 H4 _ bb g2 k2 S4 fun H5 S5 s5 => ?_⟩
    -- a state behind the turn
    have back : ∀ (g3 g4 : Env) (H6 : Hp), StA K cl Hin (fun a => M0 a ∨ a = D) as g3 σ4 H6 → wipeE g3 vs = some g4 → StA K cl Hin (fun a => M0 a ∨ a = D) as g4 (wipe σ vs) H6 ∧ Step (fun a => M0 a ∨ a = D) as g3 H6 as g4 H6 ∧ ∀ v ∈ vs, g4[v]? = some .un := fun g3 g4 H6 S6 hw => by
      obtain ⟨A1, _, A3, A4⟩ := wipeE_ok S6 hw
      rw [wp] at A1
      exact ⟨A1, A3, A4⟩
    have st := (s3.trans s4).trans s5
    cases bb with
    | true =>
      have hr : ((b g2).bind fun q => if acc.length < most then (wipeE q.2 vs).bind fun e4 => lcE g c b vs (xs.drop (i + 1)) (acc ++ [q.1]) e4 else none) = some (ds, env') := by simpa using hr
      obtain ⟨⟨y, g3⟩, k3, hr⟩ := bind_some hr
      split at hr
      · rename_i hl
        obtain ⟨g4, k4, hr⟩ := bind_some hr
        refine iteT (he Hin _ as g2 σ4 H5 _ y g3 k3 S5 fun u H6 S6 s6 r6 => ?_)
        have st6 := st.trans s6
        have hD6 : H6 D = some (.lst vsd) := st6.f D _ (.inr rfl) hDi
        refine ⟨vsd, hD6, most_lt (by rw [ra.length]; exact hl), ?_⟩
        obtain ⟨S7, s7, u7⟩ := back g3 g4 H6 S6 k4
        -- the new item is laid
        have hb7 : Bv (fun a => M0 a ∨ a = D) as g4 (upd H6 D (.lst (vsd ++ [u]))) = Bv (fun a => M0 a ∨ a = D) as g4 H6 := by
          unfold Bv
          funext a
          by_cases hm : MP (fun a => M0 a ∨ a = D) as g4 a
          · rw [hd_in hm, hd_in hm]
          · rw [hd_out hm, hd_out hm, upd_ne (fun z => hm (.inl (.inr z)))]
        have S8 : StA K cl Hin (fun a => M0 a ∨ a = D) as g4 (wipe σ vs) (upd H6 D (.lst (vsd ++ [u]))) := by
          refine ⟨S7.len, fun a o z => ?_, S7.fr, fun a ha => ?_, S7.inj, fun j s hs => ?_⟩
          · rw [upd_ne (ne_of_none z hinD)]; exact S7.same a o z
          · by_cases h : a = D
            · rw [h, upd_same]; simp
            · rw [upd_ne h]; exact S7.m0 a ha
          · rw [hb7]
            have q := S7.sl j s hs
            have hne : ∀ p, ocAt g4 j = some p → as j ≠ D := fun p z e => (S7.fr j p z).2 (.inr e)
            cases s with
            | un => trivial
            | d x => exact q
            | own p => obtain ⟨a1, ho, a2, a3⟩ := q; exact ⟨a1, ho, by rw [upd_ne (hne p (ocAt_own hs))]; exact a2, a3⟩
            | par p => obtain ⟨a1, ho, a2, a3⟩ := q; exact ⟨a1, ho, by rw [upd_ne (hne p (ocAt_par hs))]; exact a2, a3⟩
        have st7 := st6.trans s7
        refine ⟨acc ++ [y], vsd ++ [u], g4, S8, by rw [hb7]; exact sB.trans st7.b, fun j o z => ?_, fun a o ha z => ?_, upd_same, ?_, u7, hr⟩
        · obtain ⟨o1, z1⟩ := sp j o z
          exact (st7.p j o1 z1).2
        · rw [upd_ne (fun y => h0D (by rw [← y]; exact ha))]
          exact st7.f a o (.inl ha) (sf a o ha z)
        · rw [hb7]
          exact (RpA.mono st7.b _ _ ra).append (.cons (Rp.mono s7.b _ _ r6) .nil)
      · cases hr
    | false =>
      have hr : ((wipeE g2 vs).bind fun e4 => lcE g c b vs (xs.drop (i + 1)) acc e4) = some (ds, env') := by simpa using hr
      obtain ⟨g4, k4, hr⟩ := bind_some hr
      obtain ⟨S7, s7, u7⟩ := back g2 g4 H5 S5 k4
      have st7 := st.trans s7
      refine iteF ⟨acc, vsd, g4, S7, sB.trans st7.b, fun j o z => ?_, fun a o ha z => st7.f a o (.inl ha) (sf a o ha z), st7.f D _ (.inr rfl) hDi, RpA.mono st7.b _ _ ra, u7, hr⟩
      obtain ⟨o1, z1⟩ := sp j o z
      exact (st7.p j o1 z1).2
  · have hie : i = xs.length := by omega
    subst hie
    rw [List.drop_length] at hr
    cases hr
    refine .inl ⟨F.stop H' _ ((w1.b.trans sB).trans hd_same) (Nat.le_refl _), ?_⟩
    obtain ⟨Sf, hBf⟩ := Si.show_ hDi hinD h0D
    have Sg : StA K cl Hin M0 as env' σ (dropH H' D) := Sf.reSt (wipe_length σ vs).symm fun j hj => by
      rw [wipe_get, if_neg]
      exact fun z => hj (un j z.1)
    have := q D vsd (dropH H' D) Sg (s1.trans (w1.trans ⟨by rw [hBf]; exact sB, fun j o z => ⟨rfl, sp j o z⟩, fun a o ha z => by
      rw [dropH_ne (fun y => h0D (by rw [← y]; exact ha))]
      exact sf a o ha z⟩)) dropH_eq (by rw [hBf]; exact ra)
    rw [dropH_upd hDi] at this
    exact this
end DL

set_option Elab.async false
set_option linter.all false
set_option maxRecDepth 100000
set_option maxHeartbeats 4000000
namespace DL
open PySem PySem.Spec PyProof.Rows L2
variable {cl : Nat → Addr} {X : Cx}
/-! ### comprehensions of the text -/
structure VTs (cl : Nat → Addr) (X : Cx) (es : List Expr) (tt : TT) (ev : EvT) : Prop where
  pe : PTs X es tt
  so : ST X.K cl tt ev
@[simp] def xYes : EvT := fun env => some (true, env)
theorem ts_nil : VTs cl X [] tYes xYes := ⟨pts_nil, fun Hin M0 as env σ H Q b env' e S q => by cases e; exact q H S Step.refl⟩
theorem ts_one {c : Expr} {t : TT} {ev : EvT} (h : VT cl X c t ev) : VTs cl X [c] t ev := ⟨pts_one h.pe, h.so⟩
section
variable {elt tg iter : Expr} {ifs : List Expr} {scope : Scope} {pos spos : Pos} {wi : TI} {g : TG} {tt : TT} {te : TE} {it : EvI} {eg : EvG} {ec : EvT} {ev : EvE} {T : List Nat}
theorem VE.to {te' : TE} (h : VE cl X elt te ev) (e : te = te') : VE cl X elt te' ev := e ▸ h
theorem VTs.to {tt' : TT} (h : VTs cl X ifs tt ec) (e : tt = tt') : VTs cl X ifs tt' ec := e ▸ h
theorem VG.to {g' : TG} (h : VG cl X tg T g eg) (e : g = g') : VG cl X tg T g' eg := e ▸ h
theorem l_lc (own : List (Str × Nat)) (hc : X.calm = true) (hN : X.N.Nodup) (hi : VI cl X tg iter wi it) (ok : BlkOk X.N X.env.scope scope own)
    (hg : ∀ (s : Shared) (H : Hp) (C : Addr) (c : List (Str × Addr)) (fp : List Addr), VG cl (X.blk s H scope (compEnvC scope c C X.env) fp) tg T g eg)
    (ht : ∀ (s : Shared) (H : Hp) (C : Addr) (c : List (Str × Addr)) (fp : List Addr), VTs cl (X.blk s H scope (compEnvC scope c C X.env) fp) ifs tt ec)
    (he : ∀ (s : Shared) (H : Hp) (C : Addr) (c : List (Str × Addr)) (fp : List Addr), VE cl (X.blk s H scope (compEnvC scope c C X.env) fp) elt te ev)
    (hT : ∀ i ∈ T, i ∈ own.map (·.2)) (hs : ∀ x, foldedSetIterable iter X.env x = pure x := by intro _; rfl) :
    VL cl X (.ListComp elt [⟨tg, iter, ifs, 0⟩] scope pos) (tLc wi g tt te (own.map (·.2))) (xLc it eg ec ev (own.map (·.2))) :=
  ⟨pe_lc hc hN hi.pe ok (fun s H C c fp => (hg s H C c fp).pe) (fun s H C c fp => (ht s H C c fp).pe) (fun s H C c fp => (he s H C c fp).pe) hs,
    sl_lc hi.so (hg X.s_0 X.H_0 0 [] []).so (ht X.s_0 X.H_0 0 [] []).so (he X.s_0 X.H_0 0 [] []).so hT⟩
/-- name = [..] -/
theorem s_setLc (i : Nat) {y : Str} {yp : Pos} (own : List (Str × Nat)) (hc : X.calm = true) (hN : X.N.Nodup) (hi : VI cl X tg iter wi it) (ok : BlkOk X.N X.env.scope scope own)
    (hg : ∀ (s : Shared) (H : Hp) (C : Addr) (c : List (Str × Addr)) (fp : List Addr), VG cl (X.blk s H scope (compEnvC scope c C X.env) fp) tg T g eg)
    (ht : ∀ (s : Shared) (H : Hp) (C : Addr) (c : List (Str × Addr)) (fp : List Addr), VTs cl (X.blk s H scope (compEnvC scope c C X.env) fp) ifs tt ec)
    (he : ∀ (s : Shared) (H : Hp) (C : Addr) (c : List (Str × Addr)) (fp : List Addr), VE cl (X.blk s H scope (compEnvC scope c C X.env) fp) elt te ev)
    (hT : ∀ i ∈ T, i ∈ own.map (·.2)) (hy : X.N[i]? = some y := by rfl) (hyl : X.env.scope.names.lookup y = some .local := by rfl)
    (hsw : swapsWith (.ListComp elt [⟨tg, iter, ifs, 0⟩] scope pos) (some (.Name y yp)) spos.line X.env = pure true := by exact sw_true rfl rfl rfl (by decide +kernel)) (hs : ∀ x, foldedSetIterable iter X.env x = pure x := by intro _; rfl) :
    VS cl X (.Assign [.Name y yp] (.ListComp elt [⟨tg, iter, ifs, 0⟩] scope pos) spos) (tAsg (tLc wi g tt te (own.map (·.2))) (gName i)) (sAsgL i (xLc it eg ec ev (own.map (·.2)))) :=
  ⟨ps_setLc hc hN hy hyl hsw hi.pe ok (fun s H C c fp => (hg s H C c fp).pe) (fun s H C c fp => (ht s H C c fp).pe) (fun s H C c fp => (he s H C c fp).pe) hs,
    ss_asgL i (sl_lc hi.so (hg X.s_0 X.H_0 0 [] []).so (ht X.s_0 X.H_0 0 [] []).so (he X.s_0 X.H_0 0 [] []).so hT)⟩
end

/-! ### calls that hand back a new list -/
def CaL (K : Fg) (cl : Nat → Addr) (r : List V → Hp → VK → Prop) (f : List Dt → Option (List Dt)) : Prop := ∀ (Hin : Hp) (M0 : Addr → Prop) (as : Nat → Addr) (env : Env) (σ : L2.St) (H : Hp) (Q : VK) (xs ds : List Dt) (vs : List V), f xs = some ds → StA K cl Hin M0 as env σ H →
  RpA K cl (Bv M0 as env H) vs xs → (∀ p ws, H p = none → RpA K cl (Bv M0 as env H) ws ds → Q (.ref p) (upd H p (.lst ws))) → r vs H Q
@[simp] def xBL (f : List Dt → Option (List Dt)) (a : EvA) : EvA := fun env => (a env).bind fun p => (f p.1).map fun z => (z, p.2)
theorem sl_cb {K : Fg} {r : List V → Hp → VK → Prop} {f : List Dt → Option (List Dt)} {t : TA} {ev : EvA} (hr : CaL K cl r f) (ha : SA K cl t ev) : SL K cl (tCB r t) (xBL f ev) := fun Hin M0 as env σ H Q ds env' h S q => by
  obtain ⟨⟨x1, e1⟩, h1, h⟩ := bind_some h
  obtain ⟨z, h3, h⟩ := map_some h
  cases h
  refine ha Hin M0 as env σ H _ x1 e1 h1 S fun v H1 S1 s1 r1 => ?_
  exact hr Hin M0 as e1 σ H1 Q x1 ds v h3 S1 r1 fun p ws hp rw => q p ws H1 S1 s1 hp rw
@[simp] def fList : List Dt → Option (List Dt)
  | [d] => seqOf d
  | _ => none
theorem cal_list {K : Fg} : CaL K cl (fun xs H Q => ∃ p ys, xs = [.ref p] ∧ (SqL K H p ys ∨ SqT K H p ys) ∧ ∀ l, H l = none → Q (.ref l) (upd H l (.lst ys))) fList := fun Hin M0 as env σ H Q xs ds vs h S r q => by
  unfold fList at h
  split at h
  · rename_i d
    cases r with
    | cons r1 r2 =>
      cases r2
      cases d with
      | lst es => cases h; cases r1 with | lst a1 a2 => exact ⟨_, _, rfl, .inl (.inl (.inl (hd_same _ _ a1))), fun l hl => q l _ hl a2⟩
      | tup es => cases h; cases r1 with | tup a1 a2 => exact ⟨_, _, rfl, .inr (same_t hd_same a1), fun l hl => q l _ hl a2⟩
      | scr ns => cases h; cases r1 with | scr a1 => exact ⟨_, _, rfl, .inl (hd_same.seq a1), fun l hl => q l _ hl (RpA.ofInts ns)⟩
      | _ => cases h
  · cases h
section
variable {e : Expr} {es : List Expr} {t : TA} {ar : EvA} {x : Str} {p pos : Pos}
theorem l_callTy {T : String} {r : List V → Hp → VK → Prop} {g : List Dt → Option (List Dt)} (hc : CallR X (.type T) r) (hs : CaL X.K cl r g) (hm : X.mg x = none) (ha : VA cl X (e :: es) t ar) (hv : bootBuiltins x = some (.type T) := by decide +kernel) (hg : Gl X x := by rfl) (hn : x ≠ "__name__" := by decide) (hdb : (x == ("__debug__" : Str)) = false := by decide)
    (he : starEach (e :: es) X.env = (false, eval e X.env) :: starEach es X.env := by rfl) (hpl : (backTo pos (starEach es X.env)).any (·.1) = false := by rfl) : VL cl X (.Call (.Name x p) (e :: es) [] pos) (tCB r t) (xBL g ar) := ⟨pe_callTy hc hg hm hv ha.pe hn hdb he hpl, sl_cb hs ha.so⟩
end
/-! ### tuple(..), sum, max, min, all, any -/
@[simp] def fTupleOf : List Dt → Option Dt
  | [d] => (seqOf d).map .tup
  | _ => none
theorem cas_tuple {K : Fg} : CaS K cl (fun xs H Q => ∃ p ys, xs = [.ref p] ∧ ((SqL K H p ys ∧ ∀ l, H l = none → Q (.ref l) (upd H l (.tup ys))) ∨ (SqT K H p ys ∧ Q (.ref p) H))) fTupleOf := fun Hin M0 as env σ H Q xs z vs h S r q => by
  unfold fTupleOf at h
  split at h
  · rename_i d
    cases r with
    | cons r1 r2 =>
      cases r2
      cases d with
      | lst es =>
        cases h
        cases r1 with
        | @lst _ ws _ a1 a2 =>
          refine ⟨_, _, rfl, .inl ⟨.inl (.inl (hd_same _ _ a1)), fun l hl => ?_⟩⟩
          obtain ⟨S2, s2⟩ := S.grow (same_upd (o := .tup ws) hl)
          exact q _ _ S2 s2 (.tup (.inl (.inl (Bv_new S hl))) (RpA.mono s2.b _ _ a2))
      | tup es => cases h; cases r1 with | tup a1 a2 => exact ⟨_, _, rfl, .inr ⟨same_t hd_same a1, q _ H S Step.refl (.tup a1 a2)⟩⟩
      | scr ns =>
        cases h
        cases r1 with
        | scr a1 =>
          refine ⟨_, _, rfl, .inl ⟨hd_same.seq a1, fun l hl => ?_⟩⟩
          obtain ⟨S2, s2⟩ := S.grow (same_upd (o := .tup (ns.map V.int)) hl)
          exact q _ _ S2 s2 (.tup (.inl (.inl (Bv_new S hl))) (RpA.ofInts ns))
      | _ => cases h
  · cases h
def intsOf : List Dt → Option (List Int)
  | [] => some []
  | .int i :: ds => (intsOf ds).map (i :: ·)
  | _ :: _ => none
def blsOf : List Dt → Option (List Bool)
  | [] => some []
  | .bl i :: ds => (blsOf ds).map (i :: ·)
  | _ :: _ => none
theorem intsOf_eq : ∀ {ds : List Dt} {ns : List Int}, intsOf ds = some ns → ds = ns.map .int
  | [], ns, h => by cases h; rfl
  | d :: ds, ns, h => by
    cases d with
    | int i =>
      obtain ⟨ms, h1, h2⟩ := map_some (show (intsOf ds).map (i :: ·) = some ns from h)
      subst h2
      rw [intsOf_eq h1]
      rfl
    | _ => cases h
@[simp] theorem intsOf_map : ∀ ns : List Int, intsOf (ns.map Dt.int) = some ns
  | [] => rfl
  | n :: ns => by show (intsOf (ns.map .int)).map (n :: ·) = _; rw [intsOf_map ns]; rfl
theorem blsOf_eq : ∀ {ds : List Dt} {ns : List Bool}, blsOf ds = some ns → ds = ns.map .bl
  | [], ns, h => by cases h; rfl
  | d :: ds, ns, h => by
    cases d with
    | bl i =>
      obtain ⟨ms, h1, h2⟩ := map_some (show (blsOf ds).map (i :: ·) = some ns from h)
      subst h2
      rw [blsOf_eq h1]
      rfl
    | _ => cases h
@[simp] theorem blsOf_map : ∀ ns : List Bool, blsOf (ns.map Dt.bl) = some ns
  | [] => rfl
  | n :: ns => by show (blsOf (ns.map .bl)).map (n :: ·) = _; rw [blsOf_map ns]; rfl
def maxL : List Int → Option Int
  | [] => none
  | n :: ns => some (ns.foldl max n)
def minL : List Int → Option Int
  | [] => none
  | n :: ns => some (ns.foldl min n)
theorem foldl_max_ge : ∀ (ns : List Int) (n : Int), n ≤ ns.foldl max n ∧ (∀ y ∈ ns, y ≤ ns.foldl max n) ∧ (ns.foldl max n = n ∨ ns.foldl max n ∈ ns)
  | [], n => ⟨Int.le_refl _, fun _ h => (by cases h), .inl rfl⟩
  | m :: ns, n => by
    obtain ⟨h1, h2, h3⟩ := foldl_max_ge ns (max n m)
    show n ≤ ns.foldl max (max n m) ∧ _ ∧ _
    refine ⟨by omega, fun y hy => ?_, ?_⟩
    · rcases List.mem_cons.mp hy with rfl | hy
      · show _ ≤ ns.foldl max (max n _); omega
      · exact h2 y hy
    · show ns.foldl max (max n m) = n ∨ _
      rcases h3 with h3 | h3
      · by_cases hm : n ≤ m
        · right; show ns.foldl max (max n m) ∈ m :: ns; rw [h3, Int.max_eq_right hm]; exact List.mem_cons_self ..
        · left; rw [h3]; omega
      · right; exact List.mem_cons_of_mem _ h3
theorem foldl_min_le : ∀ (ns : List Int) (n : Int), ns.foldl min n ≤ n ∧ (∀ y ∈ ns, ns.foldl min n ≤ y) ∧ (ns.foldl min n = n ∨ ns.foldl min n ∈ ns)
  | [], n => ⟨Int.le_refl _, fun _ h => (by cases h), .inl rfl⟩
  | m :: ns, n => by
    obtain ⟨h1, h2, h3⟩ := foldl_min_le ns (min n m)
    show ns.foldl min (min n m) ≤ n ∧ _ ∧ _
    refine ⟨by omega, fun y hy => ?_, ?_⟩
    · rcases List.mem_cons.mp hy with rfl | hy
      · show ns.foldl min (min n _) ≤ _; omega
      · exact h2 y hy
    · show ns.foldl min (min n m) = n ∨ _
      rcases h3 with h3 | h3
      · by_cases hm : m ≤ n
        · right; show ns.foldl min (min n m) ∈ m :: ns; rw [h3, Int.min_eq_right hm]; exact List.mem_cons_self ..
        · left; rw [h3]; omega
      · right; exact List.mem_cons_of_mem _ h3
theorem maxL_ok {ns : List Int} {m m' : Int} (h : maxL ns = some m) (h1 : m' ∈ ns) (h2 : ∀ y ∈ ns, y ≤ m') : m' = m := by
  cases ns with
  | nil => cases h
  | cons n ns =>
    cases h
    obtain ⟨a, b, c⟩ := foldl_max_ge ns n
    have u1 : m' ≤ ns.foldl max n := by
      rcases List.mem_cons.mp h1 with e | e
      · omega
      · exact b _ e
    have u2 : ns.foldl max n ≤ m' := by
      rcases c with e | e
      · rw [e]; exact h2 _ (List.mem_cons_self ..)
      · exact h2 _ (List.mem_cons_of_mem _ e)
    omega
theorem minL_ok {ns : List Int} {m m' : Int} (h : minL ns = some m) (h1 : m' ∈ ns) (h2 : ∀ y ∈ ns, m' ≤ y) : m' = m := by
  cases ns with
  | nil => cases h
  | cons n ns =>
    cases h
    obtain ⟨a, b, c⟩ := foldl_min_le ns n
    have u1 : ns.foldl min n ≤ m' := by
      rcases List.mem_cons.mp h1 with e | e
      · omega
      · exact b _ e
    have u2 : m' ≤ ns.foldl min n := by
      rcases c with e | e
      · rw [e]; exact h2 _ (List.mem_cons_self ..)
      · exact h2 _ (List.mem_cons_of_mem _ e)
    omega
@[simp] def fSum : List Dt → Option Dt
  | [.lst ds] => (intsOf ds).map fun ns => .int ns.sum
  | _ => none
@[simp] def fMax : List Dt → Option Dt
  | [.lst ds] => (intsOf ds).bind fun ns => (maxL ns).map .int
  | _ => none
@[simp] def fMin : List Dt → Option Dt
  | [.lst ds] => (intsOf ds).bind fun ns => (minL ns).map .int
  | _ => none
@[simp] def fAll : List Dt → Option Dt
  | [.lst ds] => (blsOf ds).map fun bs => .bl (bs.all id)
  | _ => none
@[simp] def fAny : List Dt → Option Dt
  | [.lst ds] => (blsOf ds).map fun bs => .bl (bs.any id)
  | _ => none
theorem one_lst {K : Fg} {B H : Hp} {vs : List V} {ds : List Dt} (e : Same B H) (r : RpA K cl B vs [.lst ds]) : ∃ a ws, vs = [.ref a] ∧ H a = some (.lst ws) ∧ RpA K cl B ws ds := by
  cases r with
  | cons r1 r2 => cases r2; cases r1 with | lst a1 a2 => exact ⟨_, _, rfl, e _ _ a1, a2⟩
theorem cas_sum {K : Fg} : CaS K cl (rSum K) fSum := fun Hin M0 as env σ H Q xs z vs h S r q => by
  unfold fSum at h
  split at h
  · obtain ⟨ns, h1, h2⟩ := map_some h
    subst h2
    rw [intsOf_eq h1] at r
    obtain ⟨a, ws, rfl, hH, rw1⟩ := one_lst hd_same r
    exact ⟨a, ns, rfl, .inl (.inl (by rw [hH, rw1.ints])), q _ H S Step.refl (.int _)⟩
  · cases h
theorem maxL_ne {ns : List Int} {m : Int} (h : maxL ns = some m) : 0 < ns.length := by cases ns with | nil => cases h | cons n ns => exact Nat.zero_lt_succ _
theorem minL_ne {ns : List Int} {m : Int} (h : minL ns = some m) : 0 < ns.length := by cases ns with | nil => cases h | cons n ns => exact Nat.zero_lt_succ _
theorem cas_max {K : Fg} : CaS K cl (rMax K) fMax := fun Hin M0 as env σ H Q xs z vs h S r q => by
  unfold fMax at h
  split at h
  · obtain ⟨ns, h1, h⟩ := bind_some h
    obtain ⟨m, h3, h2⟩ := map_some h
    subst h2
    rw [intsOf_eq h1] at r
    obtain ⟨a, ws, rfl, hH, rw1⟩ := one_lst hd_same r
    exact ⟨a, ns, rfl, .inl (.inl (by rw [hH, rw1.ints])), maxL_ne h3, fun m' g1 g2 => by rw [maxL_ok h3 g1 g2]; exact q _ H S Step.refl (.int _)⟩
  · cases h
theorem cas_min {K : Fg} : CaS K cl (rMin K) fMin := fun Hin M0 as env σ H Q xs z vs h S r q => by
  unfold fMin at h
  split at h
  · obtain ⟨ns, h1, h⟩ := bind_some h
    obtain ⟨m, h3, h2⟩ := map_some h
    subst h2
    rw [intsOf_eq h1] at r
    obtain ⟨a, ws, rfl, hH, rw1⟩ := one_lst hd_same r
    exact ⟨a, ns, rfl, .inl (.inl (by rw [hH, rw1.ints])), minL_ne h3, fun m' g1 g2 => by rw [minL_ok h3 g1 g2]; exact q _ H S Step.refl (.int _)⟩
  · cases h
theorem cas_all {K : Fg} : CaS K cl (rAll K) fAll := fun Hin M0 as env σ H Q xs z vs h S r q => by
  unfold fAll at h
  split at h
  · obtain ⟨ns, h1, h2⟩ := map_some h
    subst h2
    rw [blsOf_eq h1] at r
    obtain ⟨a, ws, rfl, hH, rw1⟩ := one_lst hd_same r
    exact ⟨a, ns, rfl, .inl (.inl (by rw [hH, rw1.bls])), q _ H S Step.refl (.bl _)⟩
  · cases h
theorem cas_any {K : Fg} : CaS K cl (rAny K) fAny := fun Hin M0 as env σ H Q xs z vs h S r q => by
  unfold fAny at h
  split at h
  · obtain ⟨ns, h1, h2⟩ := map_some h
    subst h2
    rw [blsOf_eq h1] at r
    obtain ⟨a, ws, rfl, hH, rw1⟩ := one_lst hd_same r
    exact ⟨a, ns, rfl, .inl (.inl (by rw [hH, rw1.bls])), q _ H S Step.refl (.bl _)⟩
  · cases h

/-! ### len(set(xs)) of ints -/
def distinct (ns : List Int) : Nat := (PyProof.Rows.firstMet (fun i => ns.getD i 0) ns.length).length
def tLenSt (K : Fg) (ta : TE) : TE := fun σ H Q => ta σ H fun x H1 => ∃ (l : Addr) (ns : List Int), x = .ref l ∧ SqL K H1 l (ns.map V.int) ∧ ns.length ≤ 4000 ∧ Q (.int (distinct ns : Nat)) H1
theorem pe_lenSt {a : Expr} {ta : TE} {p p2 q pos : Pos} (hg : Gl X "len") (hm : X.mg "len" = none) (hg2 : Gl X "set") (hm2 : X.mg "set" = none) (ha : PE X a ta) (hc : X.calm = true)
    (na : starEach [a] X.env = (false, eval a X.env) :: starEach [] X.env) : PE X (.Call (.Name "len" p) [.Call (.Name "set" p2) [a] [] q] [] pos) (tLenSt X.K ta) := by
  refine ⟨fun pins s0 σ H Q I0 hw => ?_⟩
  refine Call_ (ld_blt I0 hg hm boot_len ?_)
  refine PyProof.Rows.callWith_builtin1 (PyProof.Rows.args_cons ?_ rfl) rfl rfl
  refine Call_ (ld_blt I0 hg2 hm2 boot_set ?_)
  refine PyProof.Rows.callWith_type1 (PyProof.Rows.args_cons (thn (ha.run pins s0 σ H _ I0 hw) fun v0 s1 ⟨x0, H0, I1, rx0, qx⟩ => PyProof.Rows.args_nil ?_) na) na rfl
  obtain ⟨l0, ms, e0, hseq, hle, qx⟩ := qx
  subst e0
  cases rx0
  obtain ⟨its0, rv0, pl0, hz0⟩ := I1.list hseq
  have hsz : its0.toArray.size = ms.length := by rw [List.size_toArray, ← rv0.length, List.length_map]
  refine call_set_list (I1.ok.hd hc) pl0.isList (by simpa using RZ.intsAre_vals rv0) (by rw [hsz]; unfold scanBound; omega) fun hp1 tk1 hS1 hk1 => ?_
  refine PyProof.Rows.args_nil ?_
  rw [hsz] at hS1
  obtain ⟨ob, es0, ep0, tt0, hob, hex0, hdt0, _, _, _, hf0, hn0⟩ := hS1
  have I3 : Inv X pins σ H0 { s1 with heap := hp1, toks := tk1 } := I1.kept fun b u eb => hk1 b u (Heap.lt_size eb) eb
  have hle2 := PyProof.Rows.firstMet_length_le (fun i => ms.getD i 0) ms.length
  exact call_len_set hob hex0 hdt0 hf0 (by rw [hn0] <;> omega) ⟨.int (distinct ms : Nat), H0, I3.tok _, ⟨_, by rw [hn0] <;> rfl⟩, qx⟩
@[simp] def fLenSet : Dt → Option Dt
  | .lst ds => (intsOf ds).bind fun ns => if ns.length ≤ 4000 then some (.int (distinct ns : Nat)) else none
  | _ => none
theorem v_lenSet {a : Expr} {ta : TE} {ea : EvE} {p p2 q pos : Pos} (hm : X.mg "len" = none) (hm2 : X.mg "set" = none) (hc : X.calm = true) (ha : VE cl X a ta ea) (hg : Gl X "len" := by rfl) (hg2 : Gl X "set" := by rfl)
    (na : starEach [a] X.env = (false, eval a X.env) :: starEach [] X.env := by rfl) : VE cl X (.Call (.Name "len" p) [.Call (.Name "set" p2) [a] [] q] [] pos) (tLenSt X.K ta) (x1 fLenSet ea) :=
  ⟨pe_lenSt hg hm hg2 hm2 ha.pe hc na, fun Hin M0 as env σ H Q x env' e S k => by
    obtain ⟨⟨d, e1⟩, h1, e⟩ := bind_some e
    obtain ⟨z, h2, e⟩ := map_some e
    cases e
    refine ha.so Hin M0 as env σ H _ _ _ h1 S fun v H1 S1 s1 r1 => ?_
    cases d with
    | lst ds =>
      obtain ⟨ns, h3, h2⟩ := bind_some (show ((intsOf ds).bind fun ns => if ns.length ≤ 4000 then some (Dt.int (distinct ns : Nat)) else none) = some x from h2)
      split at h2
      · rename_i hl
        cases h2
        rw [intsOf_eq h3] at r1
        cases r1 with
        | lst a1 a2 => exact ⟨_, ns, rfl, .inl (.inl (by rw [hd_same _ _ a1, a2.ints])), hl, k _ H1 S1 s1 (.int _)⟩
      · cases h2
    | _ => cases h2⟩
end DL

set_option Elab.async false
set_option linter.all false
set_option maxRecDepth 100000
set_option maxHeartbeats 4000000
namespace DL
open PySem PySem.Spec PyProof.Rows L2
variable {cl : Nat → Addr} {X : Cx}
/-! ### * of ints, lists, tuples -/
@[simp] def fMulA : Dt → Dt → Option Dt
  | .int i, .int j => fMul (.int i) (.int j)
  | .lst xs, .int k => if -1000 ≤ k ∧ k ≤ 1000 ∧ xs.length ≤ 1000 then some (.lst (List.replicate k.toNat xs).flatten) else none
  | .tup xs, .int k => if 2 ≤ k ∧ k ≤ 1000 ∧ 1 ≤ xs.length ∧ xs.length ≤ 1000 then some (.tup (List.replicate k.toNat xs).flatten) else none
  | _, _ => none
def rMulA (K : Fg) : R2 := fun x y H Q => (rI CMul fun i j => .int (i * j)) x y H Q ∨ (rRep x y H Q ∨ rRepT K x y H Q)
theorem op_mulA : OpR X (binaryOp .Mult) (rMulA X.K) := op_mul.or (op_rep.or op_repT)
theorem RpA.rep {K : Fg} {H : Hp} {vs : List V} {ds : List Dt} (h : RpA K cl H vs ds) : ∀ k : Nat, RpA K cl H (List.replicate k vs).flatten (List.replicate k ds).flatten
  | 0 => .nil
  | k + 1 => by
    rw [List.replicate_succ, List.replicate_succ, List.flatten_cons, List.flatten_cons]
    exact h.append (RpA.rep h k)
theorem mul_le_most {a b : Nat} (ha : a ≤ 1000) (hb : b ≤ 1000) : a * b ≤ sizeLine := Nat.le_trans (Nat.mul_le_mul ha hb) (by decide)
theorem ops_mulA {K : Fg} : OpS K cl (rMulA K) fMulA := fun Hin M0 as env σ H Q x y z v w h S r1 r2 q => by
  unfold fMulA at h
  split at h
  · exact .inl (ops_I (c := fun i j => smallI i || smallI j) (fun i j h => by
      unfold smallI at h
      rw [Bool.or_eq_true, decide_eq_true_eq, decide_eq_true_eq] at h
      exact h) (fun _ _ _ => .int _) Hin M0 as env σ H Q _ _ z v w h S r1 r2 q)
  · split at h
    · rename_i xs k hk
      cases h
      cases r2
      cases r1 with
      | @lst _ ws _ a1 a2 =>
        refine .inr (.inl ⟨_, k, ws, rfl, rfl, hd_same _ _ a1, by omega, by omega, mul_le_most (by rw [a2.length]; omega) (by omega), fun p hp => ?_⟩)
        obtain ⟨S2, s2⟩ := S.grow (same_upd (o := .lst (List.replicate k.toNat ws).flatten) hp)
        exact q _ _ S2 s2 (.lst (Bv_new S hp) (RpA.mono s2.b _ _ (a2.rep _)))
    · cases h
  · split at h
    · rename_i xs k hk
      cases h
      cases r2
      cases r1 with
      | @tup _ ws _ a1 a2 =>
        have hl := a2.length
        refine .inr (.inr ⟨_, k, ws, rfl, rfl, same_t hd_same a1, fun e => by subst e; rw [← hl] at hk; simp at hk, by omega, by omega, by omega, fun p hp => ?_⟩)
        obtain ⟨S2, s2⟩ := S.grow (same_upd (o := .tup (List.replicate k.toNat ws).flatten) hp)
        exact q _ _ S2 s2 (.tup (.inl (.inl (Bv_new S hp))) (RpA.mono s2.b _ _ (a2.rep _)))
    · cases h
  · cases h
section
variable {a b c e : Expr} {ta tb tc te : TE} {ea eb ec ev : EvE} {pos : Pos}
theorem v_mulA (ha : VE cl X a ta ea) (hb : VE cl X b tb eb) : VE cl X (.BinOp a .Mult b pos) (tOp (rMulA X.K) ta tb) (x2 fMulA ea eb) := v_op op_mulA ops_mulA ha hb

/-! ### in -/
def fIn (x y : Dt) : Option Dt := match y with
  | .lst ds => if (eqOk x && eqOk (.lst ds)) = true then some (.bl ((pys ds).any fun z => PyData.eqv z (py x))) else none
  | _ => none
def fNotIn (x y : Dt) : Option Dt := match y with
  | .lst ds => if (eqOk x && eqOk (.lst ds)) = true then some (.bl (!(pys ds).any fun z => PyData.eqv z (py x))) else none
  | _ => none
theorem ops_in {K : Fg} : OpS K cl (rInD K) fIn := fun Hin M0 as env σ H Q x y z v w h S r1 r2 q => by
  unfold fIn at h
  split at h
  · rename_i ds
    split at h
    · rename_i g
      cases h
      unfold eqOk at g
      rw [Bool.and_eq_true, Bool.and_eq_true, Bool.and_eq_true] at g
      exact ⟨_, _, Rp.dp hd_same _ _ r1 g.1.1, Rp.dp hd_same _ _ r2 g.2.1, g.1.2, g.2.2, q _ H S Step.refl (.bl _)⟩
    · cases h
  · cases h
theorem ops_notIn {K : Fg} : OpS K cl (rNotInD K) fNotIn := fun Hin M0 as env σ H Q x y z v w h S r1 r2 q => by
  unfold fNotIn at h
  split at h
  · rename_i ds
    split at h
    · rename_i g
      cases h
      unfold eqOk at g
      rw [Bool.and_eq_true, Bool.and_eq_true, Bool.and_eq_true] at g
      exact ⟨_, _, Rp.dp hd_same _ _ r1 g.1.1, Rp.dp hd_same _ _ r2 g.2.1, g.1.2, g.2.2, q _ H S Step.refl (.bl _)⟩
    · cases h
  · cases h
theorem units65 {k : Nat} {A : Around} (r : Room k A) : A.units + 65 < cLine := by have := r.un; omega
theorem c_in {k : Nat} (hr : Room k X.A) : CmpV cl X .In (rInD X.K) fIn := ⟨op_inD (units65 hr), ops_in⟩
theorem c_notIn {k : Nat} (hr : Room k X.A) : CmpV cl X .NotIn (rNotInD X.K) fNotIn := ⟨op_notInD (units65 hr), ops_notIn⟩
/-! .. its list the slot's own -/
@[simp] def xInO (f : Dt → Dt → Option Dt) (a : EvE) (i : Nat) : EvE := fun env => (a env).bind fun p => match ocAt p.2 i with
  | some (.l ds) => (f p.1 (.lst ds)).map fun z => (z, p.2)
  | _ => none
theorem own_dp {K : Fg} {Hin H : Hp} {M0 : Addr → Prop} {as : Nat → Addr} {env : DL.Env} {σ : L2.St} {i : Nat} {ds : List Dt} (S : StA K cl Hin M0 as env σ H) (h : ocAt env i = some (.l ds)) (g : isPys ds = true) : Dp K H (.ref (as i)) (.list (pys ds)) := by
  obtain ⟨_, ho, h2, h3⟩ := S.own_at h
  cases ho with
  | lst vs => exact .lst (.inl (.inl h2)) (RpA.dp hd_same ds _ h3 g)
  | _ => exact h3.elim
theorem se_inO {K : Fg} (i : Nat) (ha : SE K cl ta ea) : SE K cl (tOp (rInD K) ta (tVar i)) (xInO fIn ea i) := fun Hin M0 as env σ H Q z env' h S q => by
  obtain ⟨⟨x, e1⟩, h1, h⟩ := bind_some h
  refine ha Hin M0 as env σ H _ _ _ h1 S fun v H1 S1 s1 r1 => ?_
  split at h
  · rename_i ds e0
    obtain ⟨y, h2, h⟩ := map_some h
    cases h
    refine ⟨_, (S1.own_at e0).1, ?_⟩
    unfold fIn at h2
    simp only at h2
    split at h2
    · rename_i g
      cases h2
      unfold eqOk at g
      rw [Bool.and_eq_true, Bool.and_eq_true, Bool.and_eq_true] at g
      exact ⟨_, _, Rp.dp hd_same _ _ r1 g.1.1, own_dp S1 e0 g.2.1, g.1.2, g.2.2, q _ H1 S1 s1 (.bl _)⟩
    · cases h2
  · cases h
theorem se_notInO {K : Fg} (i : Nat) (ha : SE K cl ta ea) : SE K cl (tOp (rNotInD K) ta (tVar i)) (xInO fNotIn ea i) := fun Hin M0 as env σ H Q z env' h S q => by
  obtain ⟨⟨x, e1⟩, h1, h⟩ := bind_some h
  refine ha Hin M0 as env σ H _ _ _ h1 S fun v H1 S1 s1 r1 => ?_
  split at h
  · rename_i ds e0
    obtain ⟨y, h2, h⟩ := map_some h
    cases h
    refine ⟨_, (S1.own_at e0).1, ?_⟩
    unfold fNotIn at h2
    simp only at h2
    split at h2
    · rename_i g
      cases h2
      unfold eqOk at g
      rw [Bool.and_eq_true, Bool.and_eq_true, Bool.and_eq_true] at g
      exact ⟨_, _, Rp.dp hd_same _ _ r1 g.1.1, own_dp S1 e0 g.2.1, g.1.2, g.2.2, q _ H1 S1 s1 (.bl _)⟩
    · cases h2
  · cases h
theorem v_inO (i : Nat) {k : Nat} {x : Str} {p : Pos} (hr : Room k X.A) (ha : VE cl X a ta ea) (hm : behindInMarks .In (.Name x p) = false := by rfl) (hN : X.N[i]? = some x := by rfl) (hv : Vis X.env.scope x := by first | exact Or.inl rfl | exact Or.inr (Or.inl rfl) | exact Or.inr (Or.inr rfl)) (hd : (x == ("__debug__" : Str)) = false := by decide)
    (hcd : (x == ("__classdict__" : Str)) = false := by decide) : VE cl X (.Compare a [.In] [.Name x p] pos) (tOp (rInD X.K) ta (tVar i)) (xInO fIn ea i) := ⟨pe_cmpR (op_inD (units65 hr)) ha.pe (pe_var hN hv hd hcd) hm, se_inO i ha.so⟩
theorem v_notInO (i : Nat) {k : Nat} {x : Str} {p : Pos} (hr : Room k X.A) (ha : VE cl X a ta ea) (hm : behindInMarks .NotIn (.Name x p) = false := by rfl) (hN : X.N[i]? = some x := by rfl) (hv : Vis X.env.scope x := by first | exact Or.inl rfl | exact Or.inr (Or.inl rfl) | exact Or.inr (Or.inr rfl)) (hd : (x == ("__debug__" : Str)) = false := by decide)
    (hcd : (x == ("__classdict__" : Str)) = false := by decide) : VE cl X (.Compare a [.NotIn] [.Name x p] pos) (tOp (rNotInD X.K) ta (tVar i)) (xInO fNotIn ea i) := ⟨pe_cmpR (op_notInD (units65 hr)) ha.pe (pe_var hN hv hd hcd) hm, se_notInO i ha.so⟩
theorem t_inO (i : Nat) {k : Nat} {x : Str} {p : Pos} (hr : Room k X.A) (ha : VE cl X a ta ea) (hm : behindInMarks .In (.Name x p) = false := by rfl) (hN : X.N[i]? = some x := by rfl) (hv : Vis X.env.scope x := by first | exact Or.inl rfl | exact Or.inr (Or.inl rfl) | exact Or.inr (Or.inr rfl)) (hd : (x == ("__debug__" : Str)) = false := by decide)
    (hcd : (x == ("__classdict__" : Str)) = false := by decide) : VT cl X (.Compare a [.In] [.Name x p] pos) (tTest (tOp (rInD X.K) ta (tVar i))) (xT (xInO fIn ea i)) := ⟨pt_cmpR (op_inD (units65 hr)) ha.pe (pe_var hN hv hd hcd) hm, st_test (se_inO i ha.so)⟩
theorem t_notInO (i : Nat) {k : Nat} {x : Str} {p : Pos} (hr : Room k X.A) (ha : VE cl X a ta ea) (hm : behindInMarks .NotIn (.Name x p) = false := by rfl) (hN : X.N[i]? = some x := by rfl) (hv : Vis X.env.scope x := by first | exact Or.inl rfl | exact Or.inr (Or.inl rfl) | exact Or.inr (Or.inr rfl)) (hd : (x == ("__debug__" : Str)) = false := by decide)
    (hcd : (x == ("__classdict__" : Str)) = false := by decide) : VT cl X (.Compare a [.NotIn] [.Name x p] pos) (tTest (tOp (rNotInD X.K) ta (tVar i))) (xT (xInO fNotIn ea i)) := ⟨pt_cmpR (op_notInD (units65 hr)) ha.pe (pe_var hN hv hd hcd) hm, st_test (se_notInO i ha.so)⟩
/-- len(x), x its slot's own -/
@[simp] def xLenO (i : Nat) : EvE := fun env => match ocAt env i with
  | some (.l ds) => some (.int ds.length, env)
  | _ => none
theorem v_lenO (i : Nat) {x : Str} {p p2 : Pos} (hm : X.mg "len" = none) (hg : Gl X "len" := by rfl) (hN : X.N[i]? = some x := by rfl) (hv : Vis X.env.scope x := by first | exact Or.inl rfl | exact Or.inr (Or.inl rfl) | exact Or.inr (Or.inr rfl)) (hd : (x == ("__debug__" : Str)) = false := by decide)
    (hcd : (x == ("__classdict__" : Str)) = false := by decide) (he : starEach [.Name x p2] X.env = (false, eval (.Name x p2) X.env) :: starEach [] X.env := by rfl) (hpl : (backTo pos (starEach [] X.env)).any (·.1) = false := by rfl) :
    VE cl X (.Call (.Name "len" p) [.Name x p2] [] pos) (tCB (rLenA X.K) (tCons (tVar i) tNil)) (xLenO i) :=
  ⟨pe_callB call_lenA hg hm (by decide +kernel) (pa_cons (pe_var hN hv hd hcd) pa_nil he) (by decide) (by decide) he hpl, fun Hin M0 as env σ H Q z env' h S q => by
    unfold xLenO at h
    split at h
    · rename_i ds e0
      cases h
      obtain ⟨h1, ho, h2, h3⟩ := S.own_at e0
      cases ho with
      | lst vs =>
        refine ⟨_, h1, .inl ⟨_, vs, rfl, .inl (.inl (.inl h2)), ?_⟩⟩
        rw [RpA.length h3]
        exact q _ H S Step.refl (.int _)
      | _ => exact h3.elim
    · cases h⟩

/-! ### slices -/
abbrev EvO := DL.Env → Option (Option Int × DL.Env)
def SO (K : Fg) (cl : Nat → Addr) (to : TO) (ev : EvO) : Prop := ∀ (Hin : Hp) (M0 : Addr → Prop) (as : Nat → Addr) (env : DL.Env) (σ : L2.St) (H : Hp) (Q : Option Int → Hp → Prop) (b : Option Int) (env' : DL.Env), ev env = some (b, env') → StA K cl Hin M0 as env σ H →
  (∀ H', StA K cl Hin M0 as env' σ H' → Step M0 as env H as env' H' → Q b H') → to σ H Q
structure VO (cl : Nat → Addr) (X : Cx) (e : Option Expr) (t : TO) (ev : EvO) : Prop where
  pe : PO X e t
  so : SO X.K cl t ev
@[simp] def xNoP : EvO := fun env => some (none, env)
@[simp] def xPart (a : EvE) : EvO := fun env => (a env).bind fun p => match p.1 with
  | .int i => some (some i, p.2)
  | _ => none
theorem o_none : VO cl X none tNoPart xNoP := ⟨po_none, fun Hin M0 as env σ H Q b env' h S q => by cases h; exact q H S Step.refl⟩
theorem o_some (ha : VE cl X e te ev) : VO cl X (some e) (tPart te) (xPart ev) := ⟨po_some ha.pe, fun Hin M0 as env σ H Q b env' h S q => by
  obtain ⟨⟨x, e1⟩, h1, h⟩ := bind_some h
  cases x with
  | int i =>
    cases h
    refine ha.so Hin M0 as env σ H _ _ _ h1 S fun v H1 S1 s1 r1 => ?_
    cases r1
    exact ⟨i, rfl, q H1 S1 s1⟩
  | _ => cases h⟩
def cutD (xs : List Dt) (lo hi : Option Int) : List Dt := (xs.drop (HT.sIx xs.length 0 lo)).take (HT.sIx xs.length xs.length hi - HT.sIx xs.length 0 lo)
theorem RpA.cut {K : Fg} {H : Hp} {vs : List V} {ds : List Dt} (h : RpA K cl H vs ds) (lo hi : Option Int) : RpA K cl H (cutV vs lo hi) (cutD ds lo hi) := by
  unfold cutV cutD
  rw [h.length]
  exact (h.drop _).take _
def rSlAll (K : Fg) : V → Option Int → Option Int → Hp → VK → Prop := fun x lo hi H Q => rSlA K x lo hi H Q ∨ rSlL K x lo hi H Q
theorem sl_all : SlR X (rSlAll X.K) := sl_tupA.or sl_list
@[simp] def fSl : Dt → Option Int → Option Int → Option Dt
  | .tup ds, lo, hi => some (.tup (cutD ds lo hi))
  | .lst ds, lo, hi => some (.lst (cutD ds lo hi))
  | _, _, _ => none
@[simp] def xSl (a : EvE) (lo hi : EvO) : EvE := fun env => (a env).bind fun p => (lo p.2).bind fun l => (hi l.2).bind fun h => (fSl p.1 l.1 h.1).map fun z => (z, h.2)
theorem v_slice {lo hi : Option Expr} {tl th : TO} {el eh : EvO} {p2 : Pos} (ha : VE cl X a ta ea) (hl : VO cl X lo tl el) (hh : VO cl X hi th eh) : VE cl X (.Subscript a (.Slice lo hi none p2) pos) (tSl (rSlAll X.K) ta tl th) (xSl ea el eh) :=
  ⟨pe_slice sl_all ha.pe hl.pe hh.pe, fun Hin M0 as env σ H Q z env' h S q => by
    obtain ⟨⟨x, e1⟩, h1, h⟩ := bind_some h
    obtain ⟨⟨l, e2⟩, h2, h⟩ := bind_some h
    obtain ⟨⟨u, e3⟩, h3, h⟩ := bind_some h
    obtain ⟨y, h4, h⟩ := map_some h
    cases h
    refine ha.so Hin M0 as env σ H _ _ _ h1 S fun v H1 S1 s1 r1 => ?_
    refine hl.so Hin M0 as e1 σ H1 _ _ _ h2 S1 fun H2 S2 s2 => ?_
    refine hh.so Hin M0 as e2 σ H2 _ _ _ h3 S2 fun H3 S3 s3 => ?_
    have r3 := Rp.mono (s2.trans s3).b _ _ r1
    have st := (s1.trans s2).trans s3
    cases x with
    | tup ds =>
      cases h4
      cases r3 with
      | @tup _ ws _ a1 a2 =>
        refine .inl ⟨_, ws, rfl, same_t hd_same a1, fun hw => ?_, fun hw p hp => ?_⟩
        · refine q _ H3 S3 st (.tup a1 ?_)
          have : cutD ds l u = ds := by
            unfold cutD
            rw [← a2.length, hw.1, hw.2, List.drop_zero, Nat.sub_zero]
            exact List.take_of_length_le (by rw [a2.length]; exact Nat.le_refl _)
          rw [this]
          exact a2
        · obtain ⟨S4, s4⟩ := S3.grow (same_upd (o := .tup (cutV ws l u)) hp)
          exact q _ _ S4 (st.trans s4) (.tup (.inl (.inl (Bv_new S3 hp))) (RpA.mono s4.b _ _ (a2.cut l u)))
    | lst ds =>
      cases h4
      cases r3 with
      | @lst _ ws _ a1 a2 =>
        refine .inr ⟨_, ws, rfl, .inl (.inl (hd_same _ _ a1)), fun p hp => ?_⟩
        obtain ⟨S4, s4⟩ := S3.grow (same_upd (o := .lst (cutV ws l u)) hp)
        exact q _ _ S4 (st.trans s4) (.lst (Bv_new S3 hp) (RpA.mono s4.b _ _ (a2.cut l u)))
    | _ => cases h4⟩

/-! ### objects -/
/-- what a class of the text has -/
structure ClsOk (K : Fg) (C : Addr) (fs : List Str) : Prop where
  c : Cls K C
  n : ∀ f ∈ fs, NoAttr K C f
theorem lookup_rp {K : Fg} {B : Hp} {f : Str} : ∀ {fs : List (Str × V)} {ds : List Dt} {d : Dt}, RpA K cl B (fs.map (·.2)) ds → (((fs.map (·.1)).zip ds).lookup f) = some d → ∃ v, fs.lookup f = some v ∧ Rp K cl B v d
  | [], _, _, _, h => by cases h
  | (g, v) :: fs, _, d, .cons r1 r2, h => by
    by_cases e : f == g
    · simp [List.lookup, e] at h ⊢
      rw [← h]
      exact r1
    · simp [List.lookup, e] at h ⊢
      exact lookup_rp r2 h
@[simp] def fFld (c : Nat) (f : Str) : Dt → Option Dt
  | .ins c' ns ds => if c' = c then (ns.zip ds).lookup f else none
  | _ => none
theorem v_fld (c : Nat) {f : Str} {fs : List Str} (hc : ClsOk X.K (cl c) fs) (hf : f ∈ fs) (ha : VE cl X a ta ea) (hb : attributeBase a f X.env (eval a X.env) = eval a X.env := by rfl) : VE cl X (.Attribute a f pos) (tFld X.K ta f) (x1 (fFld c f) ea) :=
  ⟨pe_fld ha.pe hb, fun Hin M0 as env σ H Q z env' h S q => by
    obtain ⟨⟨x, e1⟩, h1, h⟩ := bind_some h
    obtain ⟨y, h2, h⟩ := map_some h
    cases h
    refine ha.so Hin M0 as env σ H _ _ _ h1 S fun v H1 S1 s1 r1 => ?_
    cases x with
    | ins c' ns ds =>
      have h5 : (if c' = c then (ns.zip ds).lookup f else none) = some z := h2
      clear h2
      split at h5
      · rename_i ec
        subst ec
        cases r1 with
        | @ins _ dx gs _ _ _ a1 a2 a3 =>
          subst a2
          obtain ⟨u, h3, h4⟩ := lookup_rp a3 h5
          exact ⟨_, _, dx, gs, u, rfl, hd_same _ _ a1, hc.c, hc.n f hf, h3, q u H1 S1 s1 h4⟩
      · cases h5
    | _ => cases h2⟩
/-- self.f = e, self the slot's own -/
def putL (f : Str) (d : Dt) : List Str → List Dt → List Str × List Dt
  | g :: ns, e :: ds => if f = g then (g :: ns, d :: ds) else ((g :: (putL f d ns ds).1), e :: (putL f d ns ds).2)
  | _, _ => ([f], [d])
theorem putL_ok {K : Fg} {B : Hp} {f : Str} {v : V} {d : Dt} (r : Rp K cl B v d) : ∀ {fs : List (Str × V)} {ds : List Dt}, RpA K cl B (fs.map (·.2)) ds → (putF f v fs).map (·.1) = (putL f d (fs.map (·.1)) ds).1 ∧ RpA K cl B ((putF f v fs).map (·.2)) (putL f d (fs.map (·.1)) ds).2
  | [], _, .nil => ⟨rfl, .cons r .nil⟩
  | (g, w) :: fs, _, .cons r1 r2 => by
    obtain ⟨h1, h2⟩ := putL_ok r r2
    by_cases e : f = g
    · subst e
      simp [putF, putL]
      exact .cons r r2
    · have e2 : ¬ g = f := fun z => e z.symm
      simp only [putF, putL, List.map_cons, if_neg e, if_neg e2]
      exact ⟨by rw [h1], .cons r1 h2⟩
@[simp] def sFldO (i c : Nat) (f : Str) (a : EvE) : EvS := fun env => match ocAt env i with
  | some (.o c0 _ _) => if c0 = c then (a env).bind fun p => match ocAt p.2 i with
    | some (.o c1 ns ds) => if c1 = c ∧ ds.length < 900 then (putOc i (.o c (putL f p.1 ns ds).1 (putL f p.1 ns ds).2) p.2).map .nx else none
    | _ => none else none
  | _ => none
theorem s_fldO (i c : Nat) {f : Str} {fs : List Str} {x : Str} {p p2 : Pos} (hk : ClsOk X.K (cl c) fs) (hf : f ∈ fs) (he : VE cl X e te ev)
    (hs : swapsWith e (some (.Attribute (.Name x p) f p2)) pos.line X.env = pure false := by rfl) (hN : X.N[i]? = some x := by rfl) (hv : Vis X.env.scope x := by first | exact Or.inl rfl | exact Or.inr (Or.inl rfl) | exact Or.inr (Or.inr rfl)) (hd : (x == ("__debug__" : Str)) = false := by decide)
    (hcd : (x == ("__classdict__" : Str)) = false := by decide) : VS cl X (.Assign [.Attribute (.Name x p) f p2] e pos) (sFld X.K (tVar i) te f) (sFldO i c f ev) :=
  ⟨ps_fld (pe_var hN hv hd hcd) he.pe hs, fun Hin M0 as env σ H D r e S q => by
    unfold sFldO at e
    split at e
    · rename_i c0 ns0 ds0 e0
      split at e
      · obtain ⟨⟨y, e1⟩, h1, e⟩ := bind_some e
        refine he.so Hin M0 as env σ H _ _ _ h1 S fun v H1 S1 s1 r1 => ?_
        split at e
        · rename_i c1 ns ds e2
          split at e
          · rename_i hc
            obtain ⟨rfl, hl⟩ := hc
            obtain ⟨e3, h3, e⟩ := map_some e
            cases e
            obtain ⟨k1, ho, k2, k3⟩ := S1.own_at e2
            cases ho with
            | ins C dx gs =>
              obtain ⟨rfl, rfl, ra⟩ := k3
              obtain ⟨p1, p3⟩ := putL_ok (f := f) r1 ra
              have hlen : gs.length = ds.length := by rw [← ra.length, List.length_map]
              obtain ⟨S3, s3⟩ := S1.putOc (ho := .ins (cl c1) dx (putF f v gs)) h3 ⟨rfl, p1, p3⟩
              exact ⟨_, k1, _, _, dx, gs, rfl, k2, hk.c, hk.n f hf, by omega, q as σ _ S3 (s1.trans s3)⟩
            | _ => exact k3.elim
          · cases e
        · cases e
      · cases e
    · cases e⟩
/-- C(..): a new object -/
@[simp] def xMake (c n : Nat) (g : Oc → List Dt → Option (Dt × Oc)) (a : EvA) : EvE := fun env => (a env).bind fun p => if p.1.length = n then (g (.o c [] []) p.1).bind fun r => match r with
    | (.non, .o c' ns ds) => some (.ins c' ns ds, p.2)
    | _ => none else none
theorem se_make {K : Fg} {c n : Nat} {g : Oc → List Dt → Option (Dt × Oc)} {t : TA} {ar : EvA} (ha : SA K cl t ar) : SE K cl (tMake (cl c) (spO K cl n g) [] E0 t) (xMake c n g ar) := fun Hin M0 as env σ H Q z env' h S q => by
  obtain ⟨⟨ds, e1⟩, h1, h⟩ := bind_some h
  refine ha Hin M0 as env σ H _ _ _ h1 S fun vs H1 S1 s1 r1 => fun x dx nx ndx nex => ?_
  split at h
  · rename_i hl
    obtain ⟨⟨y, o'⟩, h2, h⟩ := bind_some h
    cases y with
    | non =>
      cases o' with
      | o c' ns es =>
        cases h
        have sm : Same H1 (upd (upd H1 dx (.own x)) x (.ins (cl c) dx [])) := fun b u e => by
          rw [upd_ne (ne_of_none e nx), upd_ne (ne_of_none e ndx)]
          exact e
        have hx : ¬ MP M0 as e1 x := S1.fresh nx
        have hb : Same (Bv M0 as e1 H1) (hd (fun a => MP M0 as e1 a ∨ a = x) (upd (upd H1 dx (.own x)) x (.ins (cl c) dx []))) := hd_mono (fun a hne z => z.elim id fun e => by rw [e] at hne; exact absurd nx hne) sm
        show spO K cl n g (.ref x :: (vs ++ [])) _ _ E0
        rw [List.append_nil]
        refine ⟨x, vs, MP M0 as e1, .o c [] [], .o c' ns es, .ins (cl c) dx [], ds, .non, rfl, hx, fun a h => ?_, hl, upd_same, ⟨rfl, rfl, .nil⟩, RpA.mono hb _ _ r1, h2, fun v H2 ho' keep hx2 ro _ => ?_⟩
        · cases e : H1 a with
          | none => exact absurd e (S1.dom h)
          | some u => rw [sm a u e]; simp
        · rename_i rv
          cases rv
          refine ⟨rfl, ?_⟩
          have sm2 : Same H1 H2 := fun b u e => keep b u (ne_of_none e nx) (sm b u e)
          obtain ⟨S2, s2⟩ := S1.grow sm2
          have hmono : Same (hd (fun a => MP M0 as e1 a ∨ a = x) H2) (Bv M0 as e1 H2) := hd_mono (fun a _ z => .inl z) (Same.refl _)
          cases ho' with
          | ins C2 dx2 gs =>
            obtain ⟨r3, r4, r5⟩ := ro
            subst r3 r4
            refine q _ H2 S2 (s1.trans s2) (.ins (dx := dx2) (fs := gs) ?_ rfl (RpA.mono hmono _ _ r5))
            unfold Bv
            rw [hd_out hx]
            exact hx2
          | _ => exact ro.elim
      | _ => cases h
    | _ => cases h
  · cases h
theorem v_make (c : Nat) {n k : Nat} {g : Oc → List Dt → Option (Dt × Oc)} {x : Str} {p : Pos} {es : List Expr} {t : TA} {ar : EvA} {f : Addr} {fd : FuncData} {ps : List Str} (hr : Room (k + 1) X.A) (M : Mk X.K (cl c) f) (F : FnOk X.prog X.w X.K X.mg X.base CX0 k f fd ps (spO X.K cl n g)) (hm : X.mg x = some (.ref (cl c))) (hb : Binds X.K fd ps []) (ha : VA cl X (e :: es) t ar) (hg : Gl X x := by rfl)
    (hdb : (x == ("__debug__" : Str)) = false := by decide) (he : starEach (e :: es) X.env = (false, eval e X.env) :: starEach es X.env := by rfl) (hpl : (backTo pos (starEach es X.env)).any (·.1) = false := by rfl) :
    VE cl X (.Call (.Name x p) (e :: es) [] pos) (tMake (cl c) (spO X.K cl n g) [] E0 t) (xMake c n g ar) := ⟨pe_make M F hr hg hm hb .nil pass0 ha.pe hdb he hpl, se_make ha.so⟩
end
end DL

set_option Elab.async false
set_option linter.all false
set_option maxRecDepth 100000
set_option maxHeartbeats 4000000
/-! Data that == takes; comprehensions as maps. -/
namespace DL
open L2 PySem
structure Flat (n : Nat) (d : Dt) : Prop where
  p : isPy d = true
  l : (py d).canLay0 = true
  d : (py d).depth ≤ n
theorem Flat.ok {n : Nat} {d : Dt} (h : Flat n d) (hn : n ≤ 64) : eqOk d = true := by
  unfold eqOk SeqAt.shaped
  rw [h.p, h.l, decide_eq_true (Nat.le_trans h.d hn)]
  rfl
theorem flat_int (n : Nat) (i : Int) : Flat n (.int i) := ⟨rfl, rfl, by show PyData.depth (.int i) ≤ n; simp [PyData.depth]⟩
theorem flat_bl (n : Nat) (i : Bool) : Flat n (.bl i) := ⟨rfl, rfl, by show PyData.depth (.bool i) ≤ n; simp [PyData.depth]⟩
theorem flat_non (n : Nat) : Flat n .non := ⟨rfl, rfl, by show PyData.depth .none ≤ n; simp [PyData.depth]⟩
theorem flat_all {n : Nat} : ∀ {ds : List Dt}, (∀ d ∈ ds, Flat n d) → isPys ds = true ∧ PyData.canLayAll0 (pys ds) = true ∧ PyData.depthAll (pys ds) ≤ n
  | [], _ => ⟨rfl, rfl, by simp [pys, PyData.depthAll]⟩
  | d :: ds, h => by
    obtain ⟨h1, h2, h3⟩ := flat_all (ds := ds) fun x hx => h x (List.mem_cons_of_mem _ hx)
    obtain ⟨g1, g2, g3⟩ := h d (List.mem_cons_self ..)
    refine ⟨by simp [isPys, g1, h1], by simp [pys, PyData.canLayAll0, g2, h2], ?_⟩
    simp only [pys, PyData.depthAll]
    omega
theorem flat_lst {n : Nat} {ds : List Dt} (h : ∀ d ∈ ds, Flat n d) : Flat (n + 1) (.lst ds) := by
  obtain ⟨h1, h2, h3⟩ := flat_all h
  exact ⟨by simp [isPy, h1], by simp [py, PyData.canLay0, h2], by simp only [py, PyData.depth]; omega⟩
theorem flat_tup {n : Nat} {ds : List Dt} (h : ∀ d ∈ ds, Flat n d) : Flat (n + 1) (.tup ds) := by
  obtain ⟨h1, h2, h3⟩ := flat_all h
  exact ⟨by simp [isPy, h1], by simp [py, PyData.canLay0, h2], by simp only [py, PyData.depth]; omega⟩
theorem flat_ints (n : Nat) (ns : List Int) : ∀ d ∈ ns.map Dt.int, Flat n d := fun d h => by
  obtain ⟨i, _, rfl⟩ := List.mem_map.mp h
  exact flat_int n i
theorem fEq_self {d : Dt} {n : Nat} (h : Flat n d) (hn : n ≤ 64) (hr : PyData.eqv (py d) (py d) = true) : fEq d d = some (.bl true) := by
  unfold fEq
  rw [h.ok hn, hr]
  rfl
theorem fNe_self {d : Dt} {n : Nat} (h : Flat n d) (hn : n ≤ 64) (hr : PyData.eqv (py d) (py d) = true) : fNe d d = some (.bl false) := by
  unfold fNe
  rw [h.ok hn, hr]
  rfl
mutual
theorem eqv_self : ∀ d : Dt, PyData.eqv (py d) (py d) = true
  | .non => rfl
  | .bl b => by simp [py, PyData.eqv]
  | .int i => by simp [py, PyData.eqv]
  | .str x => by simp [py, PyData.eqv]
  | .lst ds => by simp only [py, PyData.eqv]; exact eqv_selfs ds
  | .tup ds => by simp only [py, PyData.eqv]; exact eqv_selfs ds
  | .ins _ _ _ => rfl
  | .scr _ => rfl
theorem eqv_selfs : ∀ ds : List Dt, PyData.eqvAll (pys ds) (pys ds) = true
  | [] => rfl
  | d :: ds => by simp only [pys, PyData.eqvAll, eqv_self d, eqv_selfs ds]; rfl
end
/-- a comprehension whose elements need nothing but their item -/
theorem lc_map {g : EvG} {c : EvT} {b : EvE} {vs : List Nat} {env : DL.Env} (f : Dt → Dt) : ∀ (xs acc : List Dt), (∀ x ∈ xs, ∃ e1 e2 e3, g x env = some e1 ∧ c e1 = some (true, e2) ∧ b e2 = some (f x, e3) ∧ wipeE e3 vs = some env) → acc.length + xs.length ≤ most → lcE g c b vs xs acc env = some (acc ++ xs.map f, env)
  | [], acc, _, _ => by simp [lcE]
  | x :: xs, acc, h, hl => by
    obtain ⟨e1, e2, e3, h1, h2, h3, h4⟩ := h x (List.mem_cons_self ..)
    have ih := lc_map (g := g) (c := c) (b := b) (vs := vs) (env := env) f xs (acc ++ [f x]) (fun y hy => h y (List.mem_cons_of_mem _ hy)) (by simp at hl ⊢; omega)
    have hm : acc.length < most := by simp at hl; omega
    simp [lcE, h1, h2, h3, h4, hm, ih]
/-- .. that keep P -/
theorem lc_keep {g : EvG} {c : EvT} {b : EvE} {vs : List Nat} (P : List Dt → DL.Env → Prop) : ∀ (xs acc : List Dt) (env : DL.Env), P acc env → (∀ x ∈ xs, ∀ acc env, P acc env → ∃ e1 e2 y e3 e4, g x env = some e1 ∧ c e1 = some (true, e2) ∧ b e2 = some (y, e3) ∧ wipeE e3 vs = some e4 ∧ P (acc ++ [y]) e4) → acc.length + xs.length ≤ most →
    ∃ ds e, lcE g c b vs xs acc env = some (ds, e) ∧ P ds e ∧ ds.length = acc.length + xs.length
  | [], acc, env, h0, _, _ => ⟨acc, env, rfl, h0, rfl⟩
  | x :: xs, acc, env, h0, h, hl => by
    obtain ⟨e1, e2, y, e3, e4, h1, h2, h3, h4, h5⟩ := h x (List.mem_cons_self ..) acc env h0
    obtain ⟨ds, e, k1, k2, k3⟩ := lc_keep P xs (acc ++ [y]) e4 h5 (fun z hz => h z (List.mem_cons_of_mem _ hz)) (by simp at hl ⊢; omega)
    have hm : acc.length < most := by simp at hl; omega
    refine ⟨ds, e, by simp [lcE, h1, h2, h3, h4, hm, k1], k2, by rw [k3]; simp; omega⟩
theorem ne_rw : ¬ (("rolls" : Str) = "widths") ∧ ¬ (("rolls" : Str) = "knives") ∧ ¬ (("widths" : Str) = "rolls") ∧ ¬ (("widths" : Str) = "knives") ∧ ¬ (("knives" : Str) = "rolls") ∧ ¬ (("knives" : Str) = "widths") := by decide +kernel
theorem beq_rw : (("rolls" : Str) == "widths") = false ∧ (("rolls" : Str) == "knives") = false ∧ (("widths" : Str) == "rolls") = false ∧ (("widths" : Str) == "knives") = false ∧ (("knives" : Str) == "rolls") = false ∧ (("knives" : Str) == "widths") = false := by decide +kernel
def fstD : Dt → Dt
  | .tup (x :: _) => x
  | _ => .non
end DL

set_option Elab.async false
set_option linter.all false
set_option maxRecDepth 100000
set_option maxHeartbeats 4000000
/-! The laws' mills: parts, orders; the program's Mill. -/
namespace DL
open L2 PySem
def ev_Mill_init : EvS := sSeq (sFldO 0 0 "rolls" (xL (xBL fList (xCons (xVar 1) (xNil))))) (sSeq (sFldO 0 0 "widths" (xL (xBL fList (xCons (xVar 2) (xNil))))) (sFldO 0 0 "knives" (xVar 3)))
def rv_Mill_init : Oc → List Dt → Option (Dt × Oc) := runO 4 ev_Mill_init
def lp_l_parts_0 : EvS := sApp 4 (xTup (xCons (x2 fAdd (xC (.int 2)) (xCallO 1 rv_l_draw 0 (xCons (xVar 1) (xNil)))) (xCons (x2 fAdd (xC (.int 1)) (xCallO 1 rv_l_draw 0 (xCons (xC (.int 5)) (xNil)))) (xNil))))
def lp_l_parts_1 : EvS := sSeq (sAsg (x2 fAdd (xC (.int 1)) (xCallO 1 rv_l_draw 0 (xCons (xVar 6) (xNil)))) (gN 8)) (sIf (xT (xInO fNotIn (xVar 8) 7)) (sApp 7 (xVar 8)) (sNext))
def ev_l_parts : EvS := sSeq (sAsgL 4 (xLst (xNil))) (sSeq (sFor (iR1 (xCons (x2 fAdd (xC (.int 1)) (xCallO 1 rv_l_draw 0 (xCons (xC (.int 2)) (xNil)))) (xNil))) (gN 5) lp_l_parts_0) (sSeq (sAsg (xB fMax (xCons (xL (xLc (iSq (xVar 4)) (gN 3) (xYes) (x2 fIx (xVar 3) (xC (.int 0))) [3])) (xNil))) (gN 6)) (sSeq (sAsgL 7 (xLst (xNil))) (sSeq (sFor (iR1 (xCons (x2 fAdd (xC (.int 1)) (xCallO 1 rv_l_draw 0 (xCons (xVar 2) (xNil)))) (xNil))) (gN 5) lp_l_parts_1) (sRet (xL (xLst (xCons (xVar 4) (xCons (xVar 7) (xCons (x2 fAdd (xC (.int 1)) (xCallO 1 rv_l_draw 0 (xCons (xC (.int 4)) (xNil)))) (xNil)))))))))))
def rv_l_parts : Oc → List Dt → Option (Dt × Oc) := runO 9 ev_l_parts
def ev_l_order : EvS := sRet (xB fTupleOf (xCons (xL (xLc (iSq (x2 fIx (xVar 1) (xC (.int 1)))) (gN 3) (xYes) (xCallO 1 rv_l_draw 0 (xCons (x2 fAdd (xVar 2) (xC (.int 1))) (xNil))) [3])) (xNil)))
def rv_l_order : Oc → List Dt → Option (Dt × Oc) := runO 4 ev_l_order
def ev_l_mill : EvS := sRet (xMake 0 3 rv_Mill_init (xCons (x2 fIx (xVar 0) (xC (.int 0))) (xCons (x2 fIx (xVar 0) (xC (.int 1))) (xCons (x2 fIx (xVar 0) (xC (.int 2))) (xNil)))))
def rv_l_mill : List Dt → Option Dt := runE 1 ev_l_mill
def encR (rs : List (Int × Int)) : List Dt := rs.map fun r => .tup [.int r.1, .int r.2]
theorem encR_len (rs : List (Int × Int)) : (encR rs).length = rs.length := List.length_map ..
theorem flat_encR (rs : List (Int × Int)) : ∀ d ∈ encR rs, Flat 1 d := fun d h => by
  obtain ⟨r, _, rfl⟩ := List.mem_map.mp h
  exact flat_tup (n := 0) fun x hx => by
    simp at hx
    rcases hx with rfl | rfl <;> exact flat_int 0 _
def encM (rs : List (Int × Int)) (ws : List Int) (k : Int) : Dt := .ins 0 ["rolls", "widths", "knives"] [.lst (encR rs), .lst (ws.map .int), .int k]
def encP (rs : List (Int × Int)) (ws : List Int) (k : Int) : Dt := .lst [.lst (encR rs), .lst (ws.map .int), .int k]
theorem init_ok (a b : List Dt) (k : Dt) : rv_Mill_init (.o 0 [] []) [.lst a, .lst b, k] = some (.non, .o 0 ["rolls", "widths", "knives"] [.lst a, .lst b, k]) := by
  obtain ⟨h1, h2, h3, h4, h5, h6⟩ := ne_rw
  simp [rv_Mill_init, ev_Mill_init, putL, h1, h2, h3, h4, h5, h6]
theorem mill_ok (rs : List (Int × Int)) (ws : List Int) (k : Int) : rv_l_mill [encP rs ws k] = some (encM rs ws k) := by
  simp [rv_l_mill, ev_l_mill, encP, encM, init_ok]
/-- what the law's parts are -/
structure PartsOk (wide most_ : Int) (rs : List (Int × Int)) (ws : List Int) (k : Int) : Prop where
  r1 : 1 ≤ rs.length
  r2 : rs.length ≤ 2
  rw : ∀ r ∈ rs, 2 ≤ r.1 ∧ r.1 < 2 + wide ∧ 1 ≤ r.2 ∧ r.2 ≤ 5
  w1 : 1 ≤ ws.length
  w2 : (ws.length : Int) ≤ most_
  wd : ws.Nodup
  ww : ∀ w ∈ ws, 1 ≤ w ∧ ∃ r ∈ rs, w ≤ r.1
  k1 : 1 ≤ k
  k2 : k ≤ 4
def PP1 (wide most_ : Int) (n : Nat) (env : DL.Env) : Prop := ∃ (o : Oc) (rs : List (Int × Int)) (s5 : Sc), env = [.par o, .d (.int wide), .d (.int most_), .un, .own (.l (encR rs)), s5, .un, .un, .un] ∧ BoxD o ∧ rs.length = n ∧ (∀ r ∈ rs, 2 ≤ r.1 ∧ r.1 < 2 + wide ∧ 1 ≤ r.2 ∧ r.2 ≤ 5) ∧ s5.isPar = false
theorem parts_lp0 {wide most_ : Int} (hw : 0 < wide) {n : Nat} (hn : n < 100) (x : Int) {env : DL.Env} (h : PP1 wide most_ n env) : ∃ e, (gN 5 (.int x) env).bind lp_l_parts_0 = some (.nx e) ∧ PP1 wide most_ (n + 1) e := by
  obtain ⟨o, rs, s5, rfl, hB, hl, hr, h5⟩ := h
  obtain ⟨a, o1, e1, a0, a1, h1⟩ := draw_ok hB hw
  obtain ⟨b, o2, e2, b0, b1, h2⟩ := draw_ok h1 (many := 5) (by decide)
  have hm : (encR rs).length < most := by rw [encR_len]; unfold most; omega
  refine ⟨_, ?_, o2, rs ++ [(2 + a, 1 + b)], .d (.int x), rfl, h2, by simp [hl], fun r hr2 => ?_, rfl⟩
  · simp [lp_l_parts_0, h5, e1, e2, most, encR]
    omega
  · rcases List.mem_append.mp hr2 with hr2 | hr2
    · exact hr r hr2
    · simp at hr2
      subst hr2
      exact ⟨by show 2 ≤ 2 + a; omega, by show 2 + a < 2 + wide; omega, by show 1 ≤ 1 + b; omega, by show 1 + b ≤ 5; omega⟩
def PP2 (rs : List (Int × Int)) (wide most_ m : Int) (n : Nat) (env : DL.Env) : Prop := ∃ (o : Oc) (ws : List Int) (s5 s8 : Sc), env = [.par o, .d (.int wide), .d (.int most_), .un, .d (.lst (encR rs)), s5, .d (.int m), .own (.l (ws.map .int)), s8] ∧ BoxD o ∧ ws.length ≤ n ∧ (0 < n → 1 ≤ ws.length) ∧ ws.Nodup ∧ (∀ w ∈ ws, 1 ≤ w ∧ w ≤ m) ∧ s5.isPar = false ∧ s8.isPar = false
theorem any_eqv (w : Int) : ∀ ws : List Int, ((pys (ws.map Dt.int)).any fun z => PyData.eqv z (.int w)) = decide (w ∈ ws)
  | [] => by simp [pys]
  | v :: ws => by
    have ih := any_eqv w ws
    simp only [List.map_cons, pys, List.any_cons, ih, py, PyData.eqv]
    by_cases h : v = w
    · simp [h]
    · have h2 : ¬ w = v := fun e => h e.symm
      simp [h, h2]
theorem fNotIn_ints (w : Int) (ws : List Int) : fNotIn (.int w) (.lst (ws.map .int)) = some (.bl (!decide (w ∈ ws))) := by
  unfold fNotIn
  simp only [(flat_int 0 w).ok (by decide), (flat_lst (flat_ints 0 ws)).ok (by decide), Bool.and_self, if_true]
  show some (Dt.bl (!((pys (ws.map Dt.int)).any fun z => PyData.eqv z (.int w)))) = _
  rw [any_eqv]
theorem parts_lp1 {rs : List (Int × Int)} {wide most_ m : Int} (hm0 : 0 < m) {n : Nat} (hn : n < 100) (x : Int) {env : DL.Env} (h : PP2 rs wide most_ m n env) : ∃ e, (gN 5 (.int x) env).bind lp_l_parts_1 = some (.nx e) ∧ PP2 rs wide most_ m (n + 1) e := by
  obtain ⟨o, ws, s5, s8, rfl, hB, hl, hp, hd, hw, h5, h8⟩ := h
  obtain ⟨a, o1, e1, a0, a1, h1⟩ := draw_ok hB hm0
  have hm : ws.length < most := by unfold most; omega
  by_cases hin : (1 + a) ∈ ws
  · refine ⟨_, ?_, o1, ws, .d (.int x), .d (.int (1 + a)), rfl, h1, by omega, fun _ => List.length_pos_of_mem hin, hd, hw, rfl, rfl⟩
    simp [lp_l_parts_1, h5, h8, e1, fNotIn_ints, hin]
  · refine ⟨_, ?_, o1, ws ++ [1 + a], .d (.int x), .d (.int (1 + a)), rfl, h1, by simp; omega, fun _ => by simp, ?_, fun w hw2 => ?_, rfl, rfl⟩
    · simp [lp_l_parts_1, h5, h8, e1, fNotIn_ints, hin, hm]
    · rw [List.nodup_append]
      exact ⟨hd, by simp, fun y hy z hz => by simp at hz; subst hz; exact fun e => hin (e ▸ hy)⟩
    · rcases List.mem_append.mp hw2 with hw2 | hw2
      · exact hw w hw2
      · simp at hw2; subst hw2; omega
/-- the widest roll -/
theorem widest_ok (rs : List (Int × Int)) (h : 1 ≤ rs.length) : ∃ m, maxL (rs.map (·.1)) = some m ∧ (∃ r ∈ rs, r.1 = m) ∧ ∀ r ∈ rs, r.1 ≤ m := by
  cases rs with
  | nil => simp at h
  | cons r rs =>
    obtain ⟨h1, h2, h3⟩ := foldl_max_ge (rs.map (·.1)) r.1
    refine ⟨_, rfl, ?_, fun q hq => ?_⟩
    · rcases h3 with e | e
      · exact ⟨r, List.mem_cons_self .., e.symm⟩
      · obtain ⟨q, hq, eq⟩ := List.mem_map.mp e
        exact ⟨q, List.mem_cons_of_mem _ hq, eq⟩
    · rcases List.mem_cons.mp hq with rfl | hq
      · exact h1
      · exact h2 _ (List.mem_map.mpr ⟨q, hq, rfl⟩)
theorem encR_ints (rs : List (Int × Int)) : (encR rs).map fstD = (rs.map (·.1)).map Dt.int := by
  unfold encR
  rw [List.map_map, List.map_map]
  rfl
theorem parts_ok {o : Oc} (hB : BoxD o) {wide most_ : Int} (hw : 0 < wide) (hm : 0 < most_) (hm2 : most_ ≤ 50) : ∃ rs ws k o', rv_l_parts o [.int wide, .int most_] = some (encP rs ws k, o') ∧ PartsOk wide most_ rs ws k ∧ BoxD o' := by
  obtain ⟨a, o1, e1, a0, a1, h1⟩ := draw_ok hB (many := 2) (by decide)
  obtain ⟨e, k1, o2, rs, s5, rfl, h2, hl, hr, h5⟩ := loop_range (lo := 0) (n := (1 + a).toNat) (g := gN 5) (b := lp_l_parts_0) (fun i env => PP1 wide most_ i env) (env := [.par o1, .d (.int wide), .d (.int most_), .un, .own (.l []), .un, .un, .un, .un]) ⟨o1, [], .un, rfl, h1, rfl, fun _ h => (by cases h), rfl⟩ (fun j hj env hP => parts_lp0 hw (by omega) _ hP)
  obtain ⟨m, hmx, ⟨r0, hr0, hr0m⟩, hle⟩ := widest_ok rs (by omega)
  have hm0 : 0 < m := by have := (hr r0 hr0).1; omega
  obtain ⟨b, o3, e3, b0, b1, h3⟩ := draw_ok h2 hm
  obtain ⟨e', k2, o4, ws, s5', s8, rfl, h4, wl, wp, wd, ww, g5, g8⟩ := loop_range (lo := 0) (n := (1 + b).toNat) (g := gN 5) (b := lp_l_parts_1) (fun i env => PP2 rs wide most_ m i env) (env := [.par o3, .d (.int wide), .d (.int most_), .un, .d (.lst (encR rs)), s5, .d (.int m), .own (.l []), .un]) ⟨o3, [], s5, .un, rfl, h3, by simp, fun h => absurd h (by omega), List.nodup_nil, fun _ h => (by cases h), h5, rfl⟩ (fun j hj env hP => parts_lp1 hm0 (by omega) _ hP)
  obtain ⟨c, o5, e5, c0, c1, h6⟩ := draw_ok h4 (many := 4) (by decide)
  have klc : lcE (gN 3) xYes (x2 fIx (xVar 3) (xC (.int 0))) [3] (encR rs) [] [.par o2, .d (.int wide), .d (.int most_), .un, .d (.lst (encR rs)), s5, .un, .un, .un] = some ((rs.map (·.1)).map .int, [.par o2, .d (.int wide), .d (.int most_), .un, .d (.lst (encR rs)), s5, .un, .un, .un]) := by
    rw [lc_map fstD (encR rs) [] (fun x hx => ?_) (by rw [encR_len]; simp; unfold most; omega), encR_ints]
    · rfl
    · obtain ⟨r, _, rfl⟩ := List.mem_map.mp hx
      exact ⟨_, _, _, rfl, rfl, rfl, rfl⟩
  refine ⟨rs, ws, 1 + c, o5, ?_, ⟨by omega, by omega, hr, wp (by omega), by omega, wd, fun w hw => ⟨(ww w hw).1, r0, hr0, by rw [hr0m]; exact (ww w hw).2⟩, by omega, by omega⟩, h6⟩
  generalize hms : rs.map (·.1) = ms at klc hmx
  simp [rv_l_parts, ev_l_parts, List.replicate, e1, e3, e5, wipeE, klc, hmx, most, encP, k1, k2, show -1000000000000000000 ≤ 1 + a by omega, show 1 + a ≤ 1000000000000000000 by omega, show -1000000000000000000 ≤ 1 + b by omega, show 1 + b ≤ 1000000000000000000 by omega]
/-- an order of the law's -/
def OrdP (p : Dt) (m : Int) (n : Nat) (acc : List Dt) (env : DL.Env) : Prop := ∃ (o : Oc) (os : List Int), acc = os.map .int ∧ env = [.par o, .d p, .d (.int m), .un] ∧ BoxD o ∧ ∀ c ∈ os, 0 ≤ c ∧ c ≤ m
theorem order_ok {o : Oc} (hB : BoxD o) (rs : List (Int × Int)) (ws : List Int) (k : Int) {m : Int} (hm : 0 ≤ m) (hw : ws.length ≤ 1000) : ∃ (os : List Int) (o' : Oc), rv_l_order o [encP rs ws k, .int m] = some (.tup (os.map .int), o') ∧ os.length = ws.length ∧ (∀ c ∈ os, 0 ≤ c ∧ c ≤ m) ∧ BoxD o' := by
  obtain ⟨ds, e, h1, ⟨o', os, rfl, rfl, hB', hos⟩, h3⟩ := lc_keep (g := gN 3) (c := xYes) (b := xCallO 1 rv_l_draw 0 (xCons (x2 fAdd (xVar 2) (xC (.int 1))) (xNil))) (vs := [3]) (OrdP (encP rs ws k) m 0) (ws.map .int) [] [.par o, .d (encP rs ws k), .d (.int m), .un] ⟨o, [], rfl, rfl, hB, fun _ h => (by cases h)⟩ (fun x hx acc env hP => by
    obtain ⟨o, os, rfl, rfl, hB, hos⟩ := hP
    obtain ⟨a, o1, e1, a0, a1, h1⟩ := draw_ok hB (many := m + 1) (by omega)
    refine ⟨[.par o, .d (encP rs ws k), .d (.int m), .d x], [.par o, .d (encP rs ws k), .d (.int m), .d x], .int a, [.par o1, .d (encP rs ws k), .d (.int m), .d x], [.par o1, .d (encP rs ws k), .d (.int m), .un], rfl, rfl, by simp [e1], rfl, o1, os ++ [a], by simp, rfl, h1, fun c hc => ?_⟩
    rcases List.mem_append.mp hc with hc | hc
    · exact hos c hc
    · simp at hc; subst hc; omega) (by simp; unfold most; omega)
  simp at h3
  refine ⟨os, o', ?_, h3, hos, hB'⟩
  simp only [encP] at h1
  simp [rv_l_order, ev_l_order, List.replicate, encP, wipeE, h1]
def cutI (xs : List Int) (lo hi : Option Int) : List Int := (xs.drop (HT.sIx xs.length 0 lo)).take (HT.sIx xs.length xs.length hi - HT.sIx xs.length 0 lo)
theorem cutD_ints (xs : List Int) (lo hi : Option Int) : cutD (xs.map .int) lo hi = (cutI xs lo hi).map .int := by
  unfold cutD cutI
  rw [List.length_map, List.map_take, List.map_drop]
theorem sIx_some (n d : Nat) (v : Int) : ((HT.sIx n d (some v) : Nat) : Int) = if v < 0 then max (v + (n : Int)) 0 else min v (n : Int) := (HT.clip_eq v n d).symm
end DL

set_option Elab.async false
set_option linter.all false
set_option maxRecDepth 100000
set_option maxHeartbeats 4000000
namespace K01
open PySem PySem.Spec PyProof.Rows L2 DL
def topS (i : Nat) : Stmt := PySem.Challenge.pw_millrolls_k01_bounds_of_mills.main.body.getD i (.Pass ⟨0, 0, 0, 0⟩)
abbrev s_Mill_init : Stmt := inClass (topS 7) 0
theorem sc_Mill_init : FnScope ["self", "rolls", "widths", "knives"] ["self", "rolls", "widths", "knives"] (defScope s_Mill_init) := ⟨rfl, rfl, rfl, by decide +kernel, rfl, by decide +kernel, by decide +kernel⟩
abbrev s_is_roll : Stmt := topS 10
theorem sc_is_roll : FnScope ["width", "cost"] ["width", "cost"] (defScope s_is_roll) := ⟨rfl, rfl, rfl, by decide +kernel, rfl, by decide +kernel, by decide +kernel⟩
abbrev s_are_rolls : Stmt := topS 9
theorem sc_are_rolls : FnScope ["rolls", "width", "cost"] ["rolls"] (defScope s_are_rolls) := ⟨rfl, rfl, rfl, by decide +kernel, rfl, by decide +kernel, by decide +kernel⟩
abbrev s_are_widths : Stmt := topS 12
theorem sc_are_widths : FnScope ["widths", "widest", "width"] ["widths", "widest"] (defScope s_are_widths) := ⟨rfl, rfl, rfl, by decide +kernel, rfl, by decide +kernel, by decide +kernel⟩
abbrev s_widest_roll : Stmt := topS 11
theorem sc_widest_roll : FnScope ["rolls", "roll"] ["rolls"] (defScope s_widest_roll) := ⟨rfl, rfl, rfl, by decide +kernel, rfl, by decide +kernel, by decide +kernel⟩
abbrev s_is_mill : Stmt := topS 8
theorem sc_is_mill : FnScope ["mill"] ["mill"] (defScope s_is_mill) := ⟨rfl, rfl, rfl, by decide +kernel, rfl, by decide +kernel, by decide +kernel⟩
abbrev s_is_order : Stmt := topS 13
theorem sc_is_order : FnScope ["mill", "order", "count"] ["mill", "order"] (defScope s_is_order) := ⟨rfl, rfl, rfl, by decide +kernel, rfl, by decide +kernel, by decide +kernel⟩
abbrev s_l_cell : Stmt := topS 15
theorem sc_l_cell : FnScope ["script", "k"] ["script", "k"] (defScope s_l_cell) := ⟨rfl, rfl, rfl, by decide +kernel, rfl, by decide +kernel, by decide +kernel⟩
abbrev s_l_digits : Stmt := topS 16
theorem sc_l_digits : FnScope ["script", "first", "last", "digits", "k", "cell", "turn", "seed"] ["script", "first", "last"] (defScope s_l_digits) := ⟨rfl, rfl, rfl, by decide +kernel, rfl, by decide +kernel, by decide +kernel⟩
abbrev s_l_draw : Stmt := topS 17
theorem sc_l_draw : FnScope ["box", "many", "at"] ["box", "many"] (defScope s_l_draw) := ⟨rfl, rfl, rfl, by decide +kernel, rfl, by decide +kernel, by decide +kernel⟩
abbrev s_l_parts : Stmt := topS 18
theorem sc_l_parts : FnScope ["box", "wide", "most", "roll", "rolls", "turn", "widest", "widths", "width"] ["box", "wide", "most"] (defScope s_l_parts) := ⟨rfl, rfl, rfl, by decide +kernel, rfl, by decide +kernel, by decide +kernel⟩
abbrev s_l_order : Stmt := topS 19
theorem sc_l_order : FnScope ["box", "parts", "most", "width"] ["box", "parts", "most"] (defScope s_l_order) := ⟨rfl, rfl, rfl, by decide +kernel, rfl, by decide +kernel, by decide +kernel⟩
abbrev s_l_used : Stmt := topS 21
theorem sc_l_used : FnScope ["parts", "row", "total", "place"] ["parts", "row"] (defScope s_l_used) := ⟨rfl, rfl, rfl, by decide +kernel, rfl, by decide +kernel, by decide +kernel⟩
abbrev s_l_rows : Stmt := topS 20
theorem sc_l_rows : FnScope ["parts", "kind", "rows", "place", "longer", "row", "count", "good"] ["parts", "kind"] (defScope s_l_rows) := ⟨rfl, rfl, rfl, by decide +kernel, rfl, by decide +kernel, by decide +kernel⟩
abbrev s_l_all : Stmt := topS 22
theorem sc_l_all : FnScope ["parts", "found", "kind"] ["parts"] (defScope s_l_all) := ⟨rfl, rfl, rfl, by decide +kernel, rfl, by decide +kernel, by decide +kernel⟩
abbrev s_l_full : Stmt := topS 23
theorem sc_l_full : FnScope ["parts", "cuts", "found", "kind", "row", "more", "place"] ["parts"] (defScope s_l_full) := ⟨rfl, rfl, rfl, by decide +kernel, rfl, by decide +kernel, by decide +kernel⟩
abbrev s_l_mill : Stmt := topS 24
theorem sc_l_mill : FnScope ["parts"] ["parts"] (defScope s_l_mill) := ⟨rfl, rfl, rfl, by decide +kernel, rfl, by decide +kernel, by decide +kernel⟩
abbrev s_law : Stmt := topS 25
theorem sc_law : FnScope ["script", "roll", "box", "parts", "mill", "widest", "kind", "wrong", "order", "at", "bad"] ["script"] (defScope s_law) := ⟨rfl, rfl, rfl, by decide +kernel, rfl, by decide +kernel, by decide +kernel⟩
/-! ### the evaluators -/
def ev_is_roll : EvS := sRet (xAnd (xChain fLe fLe (xC (.int 1)) (xVar 0) (xC (.int 400))) (xChain fLe fLe (xC (.int 1)) (xVar 1) (xC (.int 100))))
def rv_is_roll : List Dt → Option Dt := runE 2 ev_is_roll
def ev_are_rolls : EvS := sRet (xAnd (xChain fLe fLe (xC (.int 1)) (xB fLen (xCons (xVar 0) (xNil))) (xC (.int 3))) (xB fAll (xCons (xL (xLc (iSq (xVar 0)) (gT 2 (gsCons (gN 1) (gsCons (gN 2) (gsNil)))) (xYes) (xB (callF 2 rv_is_roll) (xCons (xVar 1) (xCons (xVar 2) (xNil)))) [1, 2])) (xNil))))
def rv_are_rolls : List Dt → Option Dt := runE 3 ev_are_rolls
def ev_are_widths : EvS := sRet (xAnd (xChain fLe fLe (xC (.int 1)) (xB fLen (xCons (xVar 0) (xNil))) (xC (.int 6))) (xAnd (x2 fEq (x1 fLenSet (xVar 0)) (xB fLen (xCons (xVar 0) (xNil)))) (xB fAll (xCons (xL (xLc (iSq (xVar 0)) (gN 2) (xYes) (xChain fLe fLe (xC (.int 1)) (xVar 2) (xVar 1)) [2])) (xNil)))))
def rv_are_widths : List Dt → Option Dt := runE 3 ev_are_widths
def ev_widest_roll : EvS := sRet (xB fMax (xCons (xL (xLc (iSq (xVar 0)) (gN 1) (xYes) (x2 fIx (xVar 1) (xC (.int 0))) [1])) (xNil)))
def rv_widest_roll : List Dt → Option Dt := runE 2 ev_widest_roll
def ev_is_mill : EvS := sRet (xAnd (xB (callF 1 rv_are_rolls) (xCons (x1 (fFld 0 "rolls") (xVar 0)) (xNil))) (xAnd (xB (callF 2 rv_are_widths) (xCons (x1 (fFld 0 "widths") (xVar 0)) (xCons (xB (callF 1 rv_widest_roll) (xCons (x1 (fFld 0 "rolls") (xVar 0)) (xNil))) (xNil)))) (xChain fLe fLe (xC (.int 1)) (x1 (fFld 0 "knives") (xVar 0)) (xC (.int 12)))))
def rv_is_mill : List Dt → Option Dt := runE 1 ev_is_mill
def ev_is_order : EvS := sRet (xAnd (x2 fEq (xB fLen (xCons (xVar 1) (xNil))) (xB fLen (xCons (x1 (fFld 0 "widths") (xVar 0)) (xNil)))) (xB fAll (xCons (xL (xLc (iSq (xVar 1)) (gN 2) (xYes) (xChain fLe fLe (xC (.int 0)) (xVar 2) (xC (.int 99))) [2])) (xNil))))
def rv_is_order : List Dt → Option Dt := runE 3 ev_is_order
def lp_l_used_0 : EvS := sAsg (x2 fAdd (xVar 2) (x2 fMul (x2 fIx (xVar 1) (xVar 3)) (x2 fIx (x2 fIx (xVar 0) (xC (.int 1))) (xVar 3)))) (gN 2)
def ev_l_used : EvS := sSeq (sAsg (xC (.int 0)) (gN 2)) (sSeq (sFor (iR1 (xCons (xB fLen (xCons (xVar 1) (xNil))) (xNil))) (gN 3) lp_l_used_0) (sRet (xVar 2)))
def rv_l_used : List Dt → Option Dt := runE 4 ev_l_used
def lp_l_rows_0 : EvS := sApp 4 (x2 fAdd (xVar 5) (xTup (xCons (xVar 6) (xNil))))
def lp_l_rows_1 : EvS := sFor (iR1 (xCons (x2 fAdd (x2 fIx (xVar 0) (xC (.int 2))) (xC (.int 1))) (xNil))) (gN 6) lp_l_rows_0
def lp_l_rows_2 : EvS := sSeq (sAsgL 4 (xLst (xNil))) (sSeq (sFor (iSq (xVar 2)) (gN 5) lp_l_rows_1) (sAsg (xVar 4) (gN 2)))
def lp_l_rows_3 : EvS := sIf (xAndT (xT (xChain fLe fLe (xC (.int 1)) (xB fSum (xCons (xVar 5) (xNil))) (x2 fIx (xVar 0) (xC (.int 2))))) (xT (x2 fLe (xB (callF 2 rv_l_used) (xCons (xVar 0) (xCons (xVar 5) (xNil)))) (x2 fIx (x2 fIx (x2 fIx (xVar 0) (xC (.int 0))) (xVar 1)) (xC (.int 0)))))) (sApp 7 (xTup (xCons (xVar 1) (xCons (xVar 5) (xNil))))) (sNext)
def ev_l_rows : EvS := sSeq (sAsgL 2 (xLst (xCons (xTup (xNil)) (xNil)))) (sSeq (sFor (iR1 (xCons (xB fLen (xCons (x2 fIx (xVar 0) (xC (.int 1))) (xNil))) (xNil))) (gN 3) lp_l_rows_2) (sSeq (sAsgL 7 (xLst (xNil))) (sSeq (sFor (iSq (xVar 2)) (gN 5) lp_l_rows_3) (sRet (xVar 7)))))
def rv_l_rows : List Dt → Option Dt := runE 8 ev_l_rows
def lp_l_all_0 : EvS := sAsg (x2 fAdd (xVar 1) (xB (callF 2 rv_l_rows) (xCons (xVar 0) (xCons (xVar 2) (xNil))))) (gN 1)
def ev_l_all : EvS := sSeq (sAsgL 1 (xLst (xNil))) (sSeq (sFor (iR1 (xCons (xB fLen (xCons (x2 fIx (xVar 0) (xC (.int 0))) (xNil))) (xNil))) (gN 2) lp_l_all_0) (sRet (xVar 1)))
def rv_l_all : List Dt → Option Dt := runE 3 ev_l_all
def lp_l_full_0 : EvS := sIf (xT (x2 fIn (xTup (xCons (xVar 3) (xCons (x2 fAdd (x2 fAdd (xSl (xVar 4) (xNoP) (xPart (xVar 6))) (xTup (xCons (x2 fAdd (x2 fIx (xVar 4) (xVar 6)) (xC (.int 1))) (xNil)))) (xSl (xVar 4) (xPart (x2 fAdd (xVar 6) (xC (.int 1)))) (xNoP))) (xNil)))) (xVar 1))) (sAsg (xC (.bl true)) (gN 5)) (sNext)
def lp_l_full_1 : EvS := sSeq (sAsg (xC (.bl false)) (gN 5)) (sSeq (sFor (iR1 (xCons (xB fLen (xCons (xVar 4) (xNil))) (xNil))) (gN 6) lp_l_full_0) (sIf (xNotT (xT (xVar 5))) (sApp 2 (xTup (xCons (xVar 3) (xCons (xVar 4) (xNil))))) (sNext)))
def ev_l_full : EvS := sSeq (sAsg (xB (callF 1 rv_l_all) (xCons (xVar 0) (xNil))) (gN 1)) (sSeq (sAsgL 2 (xLst (xNil))) (sSeq (sFor (iSq (xVar 1)) (gT 2 (gsCons (gN 3) (gsCons (gN 4) (gsNil)))) lp_l_full_1) (sRet (xVar 2))))
def rv_l_full : List Dt → Option Dt := runE 7 ev_l_full
def ev_law : EvS := sSeq (sAsgL 2 (xLst (xCons (xB (callF 3 rv_l_digits) (xCons (xVar 0) (xCons (xC (.int 0)) (xCons (xC (.int 63)) (xNil))))) (xCons (xC (.int 0)) (xNil))))) (sSeq (sAsg (xCallO 2 rv_l_parts 2 (xCons (xC (.int 20)) (xCons (xC (.int 6)) (xNil)))) (gN 3)) (sSeq (sAsg (xB (callF 1 rv_l_mill) (xCons (xVar 3) (xNil))) (gN 4)) (sSeq (sIf (xOrT (xT (x2 fIsNot (xB (callF 1 rv_is_mill) (xCons (xVar 4) (xNil))) (xC (.bl true)))) (xOrT (xT (x2 fNe (x1 (fFld 0 "rolls") (xVar 4)) (x2 fIx (xVar 3) (xC (.int 0))))) (xOrT (xT (x2 fNe (x1 (fFld 0 "widths") (xVar 4)) (x2 fIx (xVar 3) (xC (.int 1))))) (xT (x2 fNe (x1 (fFld 0 "knives") (xVar 4)) (x2 fIx (xVar 3) (xC (.int 2)))))))) (sRet (xC (.bl false))) (sNext)) (sSeq (sIf (xOrT (xT (x2 fIsNot (xB (callF 1 rv_is_mill) (xCons (xMake 0 3 rv_Mill_init (xCons (x2 fMulA (xL (xLst (xCons (xTup (xCons (xC (.int 400)) (xCons (xC (.int 100)) (xNil)))) (xNil)))) (xC (.int 3))) (xCons (xL (xLst (xCons (xC (.int 1)) (xCons (xC (.int 2)) (xCons (xC (.int 3)) (xCons (xC (.int 4)) (xCons (xC (.int 5)) (xCons (xC (.int 400)) (xNil))))))))) (xCons (xC (.int 12)) (xNil))))) (xNil))) (xC (.bl true)))) (xT (x2 fIsNot (xB (callF 1 rv_is_mill) (xCons (xMake 0 3 rv_Mill_init (xCons (xL (xLst (xCons (xTup (xCons (xC (.int 1)) (xCons (xC (.int 1)) (xNil)))) (xNil)))) (xCons (xL (xLst (xCons (xC (.int 1)) (xNil)))) (xCons (xC (.int 1)) (xNil))))) (xNil))) (xC (.bl true))))) (sRet (xC (.bl false))) (sNext)) (sSeq (sAsg (xB fMax (xCons (xL (xLc (iSq (x2 fIx (xVar 3) (xC (.int 0)))) (gN 1) (xYes) (x2 fIx (xVar 1) (xC (.int 0))) [1])) (xNil))) (gN 5)) (sSeq (sAsg (xCallO 1 rv_l_draw 2 (xCons (xC (.int 11)) (xNil))) (gN 6)) (sSeq (sAsgL 7 (xLst (xCons (xL (xBL fList (xCons (x2 fIx (xVar 3) (xC (.int 0))) (xNil)))) (xCons (xL (xBL fList (xCons (x2 fIx (xVar 3) (xC (.int 1))) (xNil)))) (xCons (x2 fIx (xVar 3) (xC (.int 2))) (xNil)))))) (sSeq (sIf (xT (x2 fEq (xVar 6) (xC (.int 0)))) (sSetO 7 (xL (xLst (xNil))) (xC (.int 0))) (sIf (xT (x2 fEq (xVar 6) (xC (.int 1)))) (sSeq (sSetO 7 (x2 fMulA (xL (xLst (xCons (x2 fIx (x2 fIx (xVar 3) (xC (.int 0))) (xC (.int 0))) (xNil)))) (xC (.int 4))) (xC (.int 0))) (sSetO 7 (xL (xLst (xCons (xC (.int 1)) (xNil)))) (xC (.int 1)))) (sIf (xT (x2 fEq (xVar 6) (xC (.int 2)))) (sSeq (sSetO 7 (x2 fAdd (xIxO 7 (xC (.int 0))) (xL (xLst (xCons (x2 fIx (xL (xLst (xCons (xTup (xCons (xC (.int 0)) (xCons (xC (.int 1)) (xNil)))) (xCons (xTup (xCons (xC (.int 401)) (xCons (xC (.int 1)) (xNil)))) (xNil))))) (xCallO 1 rv_l_draw 2 (xCons (xC (.int 2)) (xNil)))) (xNil))))) (xC (.int 0))) (sSeq (sSetO 7 (xSl (xIxO 7 (xC (.int 0))) (xPart (x1 fNeg (xC (.int 2)))) (xNoP)) (xC (.int 0))) (sSetO 7 (xL (xLst (xCons (xC (.int 1)) (xNil)))) (xC (.int 1))))) (sIf (xT (x2 fEq (xVar 6) (xC (.int 3)))) (sSetO 7 (xL (xLst (xCons (xTup (xCons (xVar 5) (xCons (x2 fIx (xL (xLst (xCons (xC (.int 0)) (xCons (xC (.int 101)) (xNil))))) (xCallO 1 rv_l_draw 2 (xCons (xC (.int 2)) (xNil)))) (xNil)))) (xNil)))) (xC (.int 0))) (sIf (xT (x2 fEq (xVar 6) (xC (.int 4)))) (sSetO 7 (xL (xLst (xNil))) (xC (.int 1))) (sIf (xT (x2 fEq (xVar 6) (xC (.int 5)))) (sSeq (sSetO 7 (xL (xLst (xCons (xTup (xCons (xC (.int 400)) (xCons (xC (.int 1)) (xNil)))) (xNil)))) (xC (.int 0))) (sSetO 7 (xL (xLst (xCons (xC (.int 1)) (xCons (xC (.int 2)) (xCons (xC (.int 3)) (xCons (xC (.int 4)) (xCons (xC (.int 5)) (xCons (xC (.int 6)) (xCons (xC (.int 7)) (xNil)))))))))) (xC (.int 1)))) (sIf (xT (x2 fEq (xVar 6) (xC (.int 6)))) (sSetO 7 (x2 fAdd (xIxO 7 (xC (.int 1))) (xL (xLst (xCons (x2 fIx (xIxO 7 (xC (.int 1))) (xC (.int 0))) (xNil))))) (xC (.int 1))) (sIf (xT (x2 fEq (xVar 6) (xC (.int 7)))) (sSetO 7 (xL (xLst (xCons (x2 fAdd (xVar 5) (xC (.int 1))) (xNil)))) (xC (.int 1))) (sIf (xT (x2 fEq (xVar 6) (xC (.int 8)))) (sSetO 7 (xL (xLst (xCons (xC (.int 0)) (xNil)))) (xC (.int 1))) (sSetO 7 (x2 fIx (xL (xLst (xCons (xC (.int 0)) (xCons (xC (.int 13)) (xNil))))) (x2 fSub (xVar 6) (xC (.int 9)))) (xC (.int 2)))))))))))) (sSeq (sIf (xT (x2 fIsNot (xB (callF 1 rv_is_mill) (xCons (xB (callF 1 rv_l_mill) (xCons (xVar 7) (xNil))) (xNil))) (xC (.bl false)))) (sRet (xC (.bl false))) (sNext)) (sSeq (sAsg (xCallO 2 rv_l_order 2 (xCons (xVar 3) (xCons (xC (.int 99)) (xNil)))) (gN 8)) (sSeq (sAsg (xCallO 1 rv_l_draw 2 (xCons (xB fLen (xCons (xVar 8) (xNil))) (xNil))) (gN 9)) (sSeq (sAsg (x2 fIx (xL (xLst (xCons (x2 fAdd (xVar 8) (xTup (xCons (xC (.int 0)) (xNil)))) (xCons (xSl (xVar 8) (xNoP) (xPart (x1 fNeg (xC (.int 1))))) (xCons (x2 fAdd (x2 fAdd (xSl (xVar 8) (xNoP) (xPart (xVar 9))) (xTup (xCons (xC (.int 100)) (xNil)))) (xSl (xVar 8) (xPart (x2 fAdd (xVar 9) (xC (.int 1)))) (xNoP))) (xCons (x2 fAdd (x2 fAdd (xSl (xVar 8) (xNoP) (xPart (xVar 9))) (xTup (xCons (x1 fNeg (xC (.int 1))) (xNil)))) (xSl (xVar 8) (xPart (x2 fAdd (xVar 9) (xC (.int 1)))) (xNoP))) (xNil))))))) (xCallO 1 rv_l_draw 2 (xCons (xC (.int 4)) (xNil)))) (gN 10)) (sRet (xAnd (x2 fIs (xB (callF 2 rv_is_order) (xCons (xVar 4) (xCons (xVar 8) (xNil)))) (xC (.bl true))) (x2 fIs (xB (callF 2 rv_is_order) (xCons (xVar 4) (xCons (xVar 10) (xNil)))) (xC (.bl false)))))))))))))))))
def rv_law : List Dt → Option Dt := runE 11 ev_law
/-! ### what the top has written -/
structure Tx (K : Fg) (cl : Nat → Addr) (mg : Str → Option Value) : Type where
  a_Mill_init : Addr
  d_Mill_init : FuncData
  F_Mill_init : Fun K "__init__" "Mill.__init__" s_Mill_init a_Mill_init d_Mill_init
  b_Mill_init : Binds K d_Mill_init ["self", "rolls", "widths", "knives"] []
  a_is_roll : Addr
  d_is_roll : FuncData
  F_is_roll : Fun K "is_roll" "is_roll" s_is_roll a_is_roll d_is_roll
  b_is_roll : Binds K d_is_roll ["width", "cost"] []
  g_is_roll : mg "is_roll" = some (.ref a_is_roll)
  a_are_rolls : Addr
  d_are_rolls : FuncData
  F_are_rolls : Fun K "are_rolls" "are_rolls" s_are_rolls a_are_rolls d_are_rolls
  b_are_rolls : Binds K d_are_rolls ["rolls"] []
  g_are_rolls : mg "are_rolls" = some (.ref a_are_rolls)
  a_are_widths : Addr
  d_are_widths : FuncData
  F_are_widths : Fun K "are_widths" "are_widths" s_are_widths a_are_widths d_are_widths
  b_are_widths : Binds K d_are_widths ["widths", "widest"] []
  g_are_widths : mg "are_widths" = some (.ref a_are_widths)
  a_widest_roll : Addr
  d_widest_roll : FuncData
  F_widest_roll : Fun K "widest_roll" "widest_roll" s_widest_roll a_widest_roll d_widest_roll
  b_widest_roll : Binds K d_widest_roll ["rolls"] []
  g_widest_roll : mg "widest_roll" = some (.ref a_widest_roll)
  a_is_mill : Addr
  d_is_mill : FuncData
  F_is_mill : Fun K "is_mill" "is_mill" s_is_mill a_is_mill d_is_mill
  b_is_mill : Binds K d_is_mill ["mill"] []
  g_is_mill : mg "is_mill" = some (.ref a_is_mill)
  a_is_order : Addr
  d_is_order : FuncData
  F_is_order : Fun K "is_order" "is_order" s_is_order a_is_order d_is_order
  b_is_order : Binds K d_is_order ["mill", "order"] []
  g_is_order : mg "is_order" = some (.ref a_is_order)
  a_l_cell : Addr
  d_l_cell : FuncData
  F_l_cell : Fun K "_law_cell" "_law_cell" s_l_cell a_l_cell d_l_cell
  b_l_cell : Binds K d_l_cell ["script", "k"] []
  g_l_cell : mg "_law_cell" = some (.ref a_l_cell)
  a_l_digits : Addr
  d_l_digits : FuncData
  F_l_digits : Fun K "_law_digits" "_law_digits" s_l_digits a_l_digits d_l_digits
  b_l_digits : Binds K d_l_digits ["script", "first", "last"] []
  g_l_digits : mg "_law_digits" = some (.ref a_l_digits)
  a_l_draw : Addr
  d_l_draw : FuncData
  F_l_draw : Fun K "_law_draw" "_law_draw" s_l_draw a_l_draw d_l_draw
  b_l_draw : Binds K d_l_draw ["box", "many"] []
  g_l_draw : mg "_law_draw" = some (.ref a_l_draw)
  a_l_parts : Addr
  d_l_parts : FuncData
  F_l_parts : Fun K "_law_parts" "_law_parts" s_l_parts a_l_parts d_l_parts
  b_l_parts : Binds K d_l_parts ["box", "wide", "most"] []
  g_l_parts : mg "_law_parts" = some (.ref a_l_parts)
  a_l_order : Addr
  d_l_order : FuncData
  F_l_order : Fun K "_law_order" "_law_order" s_l_order a_l_order d_l_order
  b_l_order : Binds K d_l_order ["box", "parts", "most"] []
  g_l_order : mg "_law_order" = some (.ref a_l_order)
  a_l_used : Addr
  d_l_used : FuncData
  F_l_used : Fun K "_law_used" "_law_used" s_l_used a_l_used d_l_used
  b_l_used : Binds K d_l_used ["parts", "row"] []
  g_l_used : mg "_law_used" = some (.ref a_l_used)
  a_l_rows : Addr
  d_l_rows : FuncData
  F_l_rows : Fun K "_law_rows" "_law_rows" s_l_rows a_l_rows d_l_rows
  b_l_rows : Binds K d_l_rows ["parts", "kind"] []
  g_l_rows : mg "_law_rows" = some (.ref a_l_rows)
  a_l_all : Addr
  d_l_all : FuncData
  F_l_all : Fun K "_law_all" "_law_all" s_l_all a_l_all d_l_all
  b_l_all : Binds K d_l_all ["parts"] []
  g_l_all : mg "_law_all" = some (.ref a_l_all)
  a_l_full : Addr
  d_l_full : FuncData
  F_l_full : Fun K "_law_full" "_law_full" s_l_full a_l_full d_l_full
  b_l_full : Binds K d_l_full ["parts"] []
  g_l_full : mg "_law_full" = some (.ref a_l_full)
  a_l_mill : Addr
  d_l_mill : FuncData
  F_l_mill : Fun K "_law_mill" "_law_mill" s_l_mill a_l_mill d_l_mill
  b_l_mill : Binds K d_l_mill ["parts"] []
  g_l_mill : mg "_law_mill" = some (.ref a_l_mill)
  a_law : Addr
  d_law : FuncData
  F_law : Fun K "law" "law" s_law a_law d_law
  b_law : Binds K d_law ["script"] []
  g_law : mg "law" = some (.ref a_law)
  k_Mill : ClsOk K (cl 0) ["rolls", "widths", "knives"]
  M_Mill : Mk K (cl 0) a_Mill_init
  g_Mill : mg "Mill" = some (.ref (cl 0))
  z_all : mg "all" = none
  z_int : mg "int" = none
  z_len : mg "len" = none
  z_list : mg "list" = none
  z_max : mg "max" = none
  z_range : mg "range" = none
  z_set : mg "set" = none
  z_sum : mg "sum" = none
  z_tuple : mg "tuple" = none
  t_MOST_ROLLS : Tok
  c_MOST_ROLLS : mg "MOST_ROLLS" = some (.int 3 t_MOST_ROLLS)
  t_MOST_WIDTHS : Tok
  c_MOST_WIDTHS : mg "MOST_WIDTHS" = some (.int 6 t_MOST_WIDTHS)
  t_MOST_WIDTH : Tok
  c_MOST_WIDTH : mg "MOST_WIDTH" = some (.int 400 t_MOST_WIDTH)
  t_MOST_COST : Tok
  c_MOST_COST : mg "MOST_COST" = some (.int 100 t_MOST_COST)
  t_MOST_KNIVES : Tok
  c_MOST_KNIVES : mg "MOST_KNIVES" = some (.int 12 t_MOST_KNIVES)
  t_MOST_COUNT : Tok
  c_MOST_COUNT : mg "MOST_COUNT" = some (.int 99 t_MOST_COUNT)
section
variable {P : Program} {w : World} {K : Fg} {mg : Str → Option Value} {base : Heap} {cl : Nat → Addr}
theorem ok_Mill_init (T : Tx K cl mg) : FnOk P w K mg base CX0 1 T.a_Mill_init T.d_Mill_init ["self", "rolls", "widths", "knives"] (spO K cl 3 rv_Mill_init) := fn_o T.F_Mill_init sc_Mill_init (by decide) rfl fun cdv A outer s H E hr => by
  apply Exists.intro
  case h =>
    show VB cl _ (defBody s_Mill_init) _ ev_Mill_init
    exact b_cons (s_fldO 0 0 T.k_Mill (by decide) (VL.v (l_callTy call_list_of cal_list T.z_list (a_cons (v_var 1) (a_nil))))) (b_cons (s_fldO 0 0 T.k_Mill (by decide) (VL.v (l_callTy call_list_of cal_list T.z_list (a_cons (v_var 2) (a_nil))))) (b_one (s_fldO 0 0 T.k_Mill (by decide) (v_var 3))))
theorem ok_is_roll (T : Tx K cl mg) : FnOk P w K mg base CX0 1 T.a_is_roll T.d_is_roll ["width", "cost"] (spE K cl 2 rv_is_roll) := fn_e T.F_is_roll sc_is_roll (by decide) fun cdv A outer s H E hr => by
  apply Exists.intro
  case h =>
    show VB cl _ (defBody s_is_roll) _ ev_is_roll
    exact b_one (s_ret (v_and (v_chain c_le c_le (v_int) (v_var 0) (v_globI (by rfl) T.c_MOST_WIDTH)) (v_one (v_chain c_le c_le (v_int) (v_var 1) (v_globI (by rfl) T.c_MOST_COST)))))
theorem ok_are_rolls (T : Tx K cl mg) : FnOk P w K mg base CX0 2 T.a_are_rolls T.d_are_rolls ["rolls"] (spE K cl 1 rv_are_rolls) := fn_e T.F_are_rolls sc_are_rolls (by decide) fun cdv A outer s H E hr => by
  apply Exists.intro
  case h =>
    show VB cl _ (defBody s_are_rolls) _ ev_are_rolls
    refine' b_one (s_ret (v_and (v_chain c_le c_le (v_int) (v_callB call_lenA cas_len T.z_len (a_cons (v_var 0) (a_nil))) (v_globI (by rfl) T.c_MOST_ROLLS)) (v_one (v_callB (cr_all rfl) cas_all T.z_all (a_cons (VL.v (l_lc (T := ([1] ++ ([2] ++ ([])))) [("width", 1), ("cost", 2)] rfl sc_are_rolls.nd (i_sq (v_var 0)) (blkOk_by (N := ["rolls", "width", "cost"]) (sc := defScope s_are_rolls) (by decide +kernel)) ?g0 ?t0 ?e0 (by decide))) (a_nil))))))
    case' g0 => (intro _ _ _ _ _; refine' VG.to (g_tup 2 (gs_cons (g_name 1 sc_are_rolls.nd) (gs_cons (g_name 2 sc_are_rolls.nd) (gs_nil)))) ?gq0)
    case gq0 => first | (dsimp only [cxOf]; done) | (dsimp only [cxOf]; rfl) | rfl
    case' t0 => (intro _ _ _ _ _; refine' VTs.to (ts_nil) ?tq0)
    case' e0 => (intro _ _ _ _ _; refine' VE.to (v_call (hr.mono (by decide)) (ok_is_roll T) T.g_is_roll T.F_is_roll.kp T.b_is_roll (a_cons (v_var 1) (a_cons (v_var 2) (a_nil)))) ?eq0)
    case tq0 => first | (dsimp only [cxOf]; done) | (dsimp only [cxOf]; rfl) | rfl
    case eq0 => first | (dsimp only [cxOf]; done) | (dsimp only [cxOf]; rfl) | rfl
theorem ok_are_widths (T : Tx K cl mg) : FnOk P w K mg base CX0 1 T.a_are_widths T.d_are_widths ["widths", "widest"] (spE K cl 2 rv_are_widths) := fn_e T.F_are_widths sc_are_widths (by decide) fun cdv A outer s H E hr => by
  apply Exists.intro
  case h =>
    show VB cl _ (defBody s_are_widths) _ ev_are_widths
    refine' b_one (s_ret (v_and (v_chain c_le c_le (v_int) (v_callB call_lenA cas_len T.z_len (a_cons (v_var 0) (a_nil))) (v_globI (by rfl) T.c_MOST_WIDTHS)) (v_and (v_cmp (c_eq hr) (v_lenSet T.z_len T.z_set rfl (v_var 0)) (v_callB call_lenA cas_len T.z_len (a_cons (v_var 0) (a_nil)))) (v_one (v_callB (cr_all rfl) cas_all T.z_all (a_cons (VL.v (l_lc (T := ([2])) [("width", 2)] rfl sc_are_widths.nd (i_sq (v_var 0)) (blkOk_by (N := ["widths", "widest", "width"]) (sc := defScope s_are_widths) (by decide +kernel)) ?g0 ?t0 ?e0 (by decide))) (a_nil)))))))
    case' g0 => (intro _ _ _ _ _; refine' VG.to (g_name 2 sc_are_widths.nd) ?gq0)
    case gq0 => first | (dsimp only [cxOf]; done) | (dsimp only [cxOf]; rfl) | rfl
    case' t0 => (intro _ _ _ _ _; refine' VTs.to (ts_nil) ?tq0)
    case' e0 => (intro _ _ _ _ _; refine' VE.to (v_chain c_le c_le (v_int) (v_var 2) (v_var 1)) ?eq0)
    case tq0 => first | (dsimp only [cxOf]; done) | (dsimp only [cxOf]; rfl) | rfl
    case eq0 => first | (dsimp only [cxOf]; done) | (dsimp only [cxOf]; rfl) | rfl
theorem ok_widest_roll (T : Tx K cl mg) : FnOk P w K mg base CX0 1 T.a_widest_roll T.d_widest_roll ["rolls"] (spE K cl 1 rv_widest_roll) := fn_e T.F_widest_roll sc_widest_roll (by decide) fun cdv A outer s H E hr => by
  apply Exists.intro
  case h =>
    show VB cl _ (defBody s_widest_roll) _ ev_widest_roll
    refine' b_one (s_ret (v_callB (cr_max rfl) cas_max T.z_max (a_cons (VL.v (l_lc (T := ([1])) [("roll", 1)] rfl sc_widest_roll.nd (i_sq (v_var 0)) (blkOk_by (N := ["rolls", "roll"]) (sc := defScope s_widest_roll) (by decide +kernel)) ?g0 ?t0 ?e0 (by decide))) (a_nil))))
    case' g0 => (intro _ _ _ _ _; refine' VG.to (g_name 1 sc_widest_roll.nd) ?gq0)
    case gq0 => first | (dsimp only [cxOf]; done) | (dsimp only [cxOf]; rfl) | rfl
    case' t0 => (intro _ _ _ _ _; refine' VTs.to (ts_nil) ?tq0)
    case' e0 => (intro _ _ _ _ _; refine' VE.to (v_ix (v_var 1) (v_int)) ?eq0)
    case tq0 => first | (dsimp only [cxOf]; done) | (dsimp only [cxOf]; rfl) | rfl
    case eq0 => first | (dsimp only [cxOf]; done) | (dsimp only [cxOf]; rfl) | rfl
theorem ok_is_mill (T : Tx K cl mg) : FnOk P w K mg base CX0 3 T.a_is_mill T.d_is_mill ["mill"] (spE K cl 1 rv_is_mill) := fn_e T.F_is_mill sc_is_mill (by decide) fun cdv A outer s H E hr => by
  apply Exists.intro
  case h =>
    show VB cl _ (defBody s_is_mill) _ ev_is_mill
    exact b_one (s_ret (v_and (v_call (hr.mono (by decide)) (ok_are_rolls T) T.g_are_rolls T.F_are_rolls.kp T.b_are_rolls (a_cons (v_fld 0 (f := "rolls") T.k_Mill (by decide) (v_var 0)) (a_nil))) (v_and (v_call (hr.mono (by decide)) (ok_are_widths T) T.g_are_widths T.F_are_widths.kp T.b_are_widths (a_cons (v_fld 0 (f := "widths") T.k_Mill (by decide) (v_var 0)) (a_cons (v_call (hr.mono (by decide)) (ok_widest_roll T) T.g_widest_roll T.F_widest_roll.kp T.b_widest_roll (a_cons (v_fld 0 (f := "rolls") T.k_Mill (by decide) (v_var 0)) (a_nil))) (a_nil)))) (v_one (v_chain c_le c_le (v_int) (v_fld 0 (f := "knives") T.k_Mill (by decide) (v_var 0)) (v_globI (by rfl) T.c_MOST_KNIVES))))))
theorem ok_is_order (T : Tx K cl mg) : FnOk P w K mg base CX0 1 T.a_is_order T.d_is_order ["mill", "order"] (spE K cl 2 rv_is_order) := fn_e T.F_is_order sc_is_order (by decide) fun cdv A outer s H E hr => by
  apply Exists.intro
  case h =>
    show VB cl _ (defBody s_is_order) _ ev_is_order
    refine' b_one (s_ret (v_and (v_cmp (c_eq hr) (v_callB call_lenA cas_len T.z_len (a_cons (v_var 1) (a_nil))) (v_callB call_lenA cas_len T.z_len (a_cons (v_fld 0 (f := "widths") T.k_Mill (by decide) (v_var 0)) (a_nil)))) (v_one (v_callB (cr_all rfl) cas_all T.z_all (a_cons (VL.v (l_lc (T := ([2])) [("count", 2)] rfl sc_is_order.nd (i_sq (v_var 1)) (blkOk_by (N := ["mill", "order", "count"]) (sc := defScope s_is_order) (by decide +kernel)) ?g0 ?t0 ?e0 (by decide))) (a_nil))))))
    case' g0 => (intro _ _ _ _ _; refine' VG.to (g_name 2 sc_is_order.nd) ?gq0)
    case gq0 => first | (dsimp only [cxOf]; done) | (dsimp only [cxOf]; rfl) | rfl
    case' t0 => (intro _ _ _ _ _; refine' VTs.to (ts_nil) ?tq0)
    case' e0 => (intro _ _ _ _ _; refine' VE.to (v_chain c_le c_le (v_int) (v_var 2) (v_globI (by rfl) T.c_MOST_COUNT)) ?eq0)
    case tq0 => first | (dsimp only [cxOf]; done) | (dsimp only [cxOf]; rfl) | rfl
    case eq0 => first | (dsimp only [cxOf]; done) | (dsimp only [cxOf]; rfl) | rfl
theorem ok_l_cell (T : Tx K cl mg) : FnOk P w K mg base CX0 1 T.a_l_cell T.d_l_cell ["script", "k"] (spE K cl 2 rv_l_cell) := fn_e T.F_l_cell sc_l_cell (by decide) fun cdv A outer s H E hr => by
  apply Exists.intro
  case h =>
    show VB cl _ (defBody s_l_cell) _ ev_l_cell
    exact b_cons (s_if (t_cmp c_lt (v_var 1) (v_callB call_lenA cas_len T.z_len (a_cons (v_var 0) (a_nil)))) (b_one (s_ret (v_ix (v_var 0) (v_var 1)))) (b_nil)) (b_one (s_ret (v_int)))
theorem ok_l_digits (T : Tx K cl mg) : FnOk P w K mg base CX0 2 T.a_l_digits T.d_l_digits ["script", "first", "last"] (spE K cl 3 rv_l_digits) := fn_e T.F_l_digits sc_l_digits (by decide) fun cdv A outer s H E hr => by
  apply Exists.intro
  case h =>
    show VB cl _ (defBody s_l_digits) _ ev_l_digits
    exact b_cons (s_setL 3 sc_l_digits.nd (l_lst (a_nil))) (b_cons (s_for PassesOwn.never rfl (i_r2 T.z_range (a_cons (v_var 1) (a_cons (v_var 2) (a_nil)))) (g_name 4 sc_l_digits.nd) (es := lp_l_digits_2) (b_cons (s_set 5 sc_l_digits.nd (v_call (hr.mono (by decide)) (ok_l_cell T) T.g_l_cell T.F_l_cell.kp T.b_l_cell (a_cons (v_var 0) (a_cons (v_var 4) (a_nil))))) (b_cons (s_if (t_cmp c_lt (v_var 5) (v_int)) (b_one (s_set 5 sc_l_digits.nd (v_sub (v_int) (v_mul (v_int) (v_var 5))))) (b_nil)) (b_one (s_if (t_cmp c_ge (v_var 5) (v_pow (v_int) (v_int))) (b_one (s_for PassesOwn.never rfl (i_r1 T.z_range (a_cons (v_int) (a_nil))) (g_name 6 sc_l_digits.nd) (es := lp_l_digits_0) (b_one (s_if (t_cmp c_gt (v_var 5) (v_int)) (b_cons (s_app 3 (v_mod (v_callTy call_int1 cas_int T.z_int (a_cons (v_var 5) (a_nil))) (v_int))) (b_one (s_set 5 sc_l_digits.nd (v_div (v_var 5) (v_int))))) (b_nil))))) (b_cons (s_set 7 sc_l_digits.nd (v_mod (v_callTy call_int1 cas_int T.z_int (a_cons (v_add (v_add (v_mul (v_var 5) (v_int)) (v_mul (v_var 4) (v_int))) (v_int)) (a_nil))) (v_int))) (b_one (s_for PassesOwn.never rfl (i_r1 T.z_range (a_cons (v_int) (a_nil))) (g_name 6 sc_l_digits.nd) (es := lp_l_digits_1) (b_cons (s_set 7 sc_l_digits.nd (v_mod (v_callTy call_int1 cas_int T.z_int (a_cons (v_add (v_add (v_mul (v_var 7) (v_int)) (v_mul (v_int) (v_var 6))) (v_int)) (a_nil))) (v_int))) (b_one (s_app 3 (v_mod (v_callTy call_int1 cas_int T.z_int (a_cons (v_div (v_var 7) (v_int)) (a_nil))) (v_int))))))))))))) (b_one (s_ret (v_var 3))))
theorem ok_l_draw (T : Tx K cl mg) : FnOk P w K mg base CX0 1 T.a_l_draw T.d_l_draw ["box", "many"] (spO K cl 1 rv_l_draw) := fn_o T.F_l_draw sc_l_draw (by decide) rfl fun cdv A outer s H E hr => by
  apply Exists.intro
  case h =>
    show VB cl _ (defBody s_l_draw) _ ev_l_draw
    exact b_cons (s_set 2 sc_l_draw.nd (v_ixO 0 (v_int))) (b_cons (s_setO 0 (v_add (v_var 2) (v_int)) (v_int) keep_c) (b_cons (s_if (t_cmp c_lt (v_var 2) (v_callB call_lenA cas_len T.z_len (a_cons (v_ixO 0 (v_int)) (a_nil)))) (b_one (s_ret (v_mod (v_callTy call_int1 cas_int T.z_int (a_cons (v_ix (v_ixO 0 (v_int)) (v_var 2)) (a_nil))) (v_var 1)))) (b_nil)) (b_one (s_ret (v_int)))))
theorem ok_l_parts (T : Tx K cl mg) : FnOk P w K mg base CX0 2 T.a_l_parts T.d_l_parts ["box", "wide", "most"] (spO K cl 2 rv_l_parts) := fn_o T.F_l_parts sc_l_parts (by decide) rfl fun cdv A outer s H E hr => by
  apply Exists.intro
  case h =>
    show VB cl _ (defBody s_l_parts) _ ev_l_parts
    refine' b_cons (s_setL 4 sc_l_parts.nd (l_lst (a_nil))) (b_cons (s_for PassesOwn.never rfl (i_r1 T.z_range (a_cons (v_add (v_int) (v_callO 0 (hr.mono (by decide)) (ok_l_draw T) T.g_l_draw T.F_l_draw.kp T.b_l_draw (a_cons (v_int) (a_nil)))) (a_nil))) (g_name 5 sc_l_parts.nd) (es := lp_l_parts_0) (b_one (s_app 4 (v_tup (a_cons (v_add (v_int) (v_callO 0 (hr.mono (by decide)) (ok_l_draw T) T.g_l_draw T.F_l_draw.kp T.b_l_draw (a_cons (v_var 1) (a_nil)))) (a_cons (v_add (v_int) (v_callO 0 (hr.mono (by decide)) (ok_l_draw T) T.g_l_draw T.F_l_draw.kp T.b_l_draw (a_cons (v_int) (a_nil)))) (a_nil))))))) (b_cons (s_set 6 sc_l_parts.nd (v_callB (cr_max rfl) cas_max T.z_max (a_cons (VL.v (l_lc (T := ([3])) [("roll", 3)] rfl sc_l_parts.nd (i_sq (v_var 4)) (blkOk_by (N := ["box", "wide", "most", "roll", "rolls", "turn", "widest", "widths", "width"]) (sc := defScope s_l_parts) (by decide +kernel)) ?g0 ?t0 ?e0 (by decide))) (a_nil)))) (b_cons (s_setL 7 sc_l_parts.nd (l_lst (a_nil))) (b_cons (s_for PassesOwn.never rfl (i_r1 T.z_range (a_cons (v_add (v_int) (v_callO 0 (hr.mono (by decide)) (ok_l_draw T) T.g_l_draw T.F_l_draw.kp T.b_l_draw (a_cons (v_var 2) (a_nil)))) (a_nil))) (g_name 5 sc_l_parts.nd) (es := lp_l_parts_1) (b_cons (s_set 8 sc_l_parts.nd (v_add (v_int) (v_callO 0 (hr.mono (by decide)) (ok_l_draw T) T.g_l_draw T.F_l_draw.kp T.b_l_draw (a_cons (v_var 6) (a_nil))))) (b_one (s_if (t_notInO 7 hr (v_var 8)) (b_one (s_app 7 (v_var 8))) (b_nil))))) (b_one (s_ret (VL.v (l_lst (a_cons (v_var 4) (a_cons (v_var 7) (a_cons (v_add (v_int) (v_callO 0 (hr.mono (by decide)) (ok_l_draw T) T.g_l_draw T.F_l_draw.kp T.b_l_draw (a_cons (v_int) (a_nil)))) (a_nil))))))))))))
    case' g0 => (intro _ _ _ _ _; refine' VG.to (g_name 3 sc_l_parts.nd) ?gq0)
    case gq0 => first | (dsimp only [cxOf]; done) | (dsimp only [cxOf]; rfl) | rfl
    case' t0 => (intro _ _ _ _ _; refine' VTs.to (ts_nil) ?tq0)
    case' e0 => (intro _ _ _ _ _; refine' VE.to (v_ix (v_var 3) (v_int)) ?eq0)
    case tq0 => first | (dsimp only [cxOf]; done) | (dsimp only [cxOf]; rfl) | rfl
    case eq0 => first | (dsimp only [cxOf]; done) | (dsimp only [cxOf]; rfl) | rfl
theorem ok_l_order (T : Tx K cl mg) : FnOk P w K mg base CX0 2 T.a_l_order T.d_l_order ["box", "parts", "most"] (spO K cl 2 rv_l_order) := fn_o T.F_l_order sc_l_order (by decide) rfl fun cdv A outer s H E hr => by
  apply Exists.intro
  case h =>
    show VB cl _ (defBody s_l_order) _ ev_l_order
    refine' b_one (s_ret (v_callTy call_tuple_of cas_tuple T.z_tuple (a_cons (VL.v (l_lc (T := ([3])) [("width", 3)] rfl sc_l_order.nd (i_sq (v_ix (v_var 1) (v_int))) (blkOk_by (N := ["box", "parts", "most", "width"]) (sc := defScope s_l_order) (by decide +kernel)) ?g0 ?t0 ?e0 (by decide))) (a_nil))))
    case' g0 => (intro _ _ _ _ _; refine' VG.to (g_name 3 sc_l_order.nd) ?gq0)
    case gq0 => first | (dsimp only [cxOf]; done) | (dsimp only [cxOf]; rfl) | rfl
    case' t0 => (intro _ _ _ _ _; refine' VTs.to (ts_nil) ?tq0)
    case' e0 => (intro _ _ _ _ _; refine' VE.to (v_callO 0 (hr.mono (by decide)) (ok_l_draw T) T.g_l_draw T.F_l_draw.kp T.b_l_draw (a_cons (v_add (v_var 2) (v_int)) (a_nil))) ?eq0)
    case tq0 => first | (dsimp only [cxOf]; done) | (dsimp only [cxOf]; rfl) | rfl
    case eq0 => first | (dsimp only [cxOf]; done) | (dsimp only [cxOf]; rfl) | rfl
theorem ok_l_used (T : Tx K cl mg) : FnOk P w K mg base CX0 1 T.a_l_used T.d_l_used ["parts", "row"] (spE K cl 2 rv_l_used) := fn_e T.F_l_used sc_l_used (by decide) fun cdv A outer s H E hr => by
  apply Exists.intro
  case h =>
    show VB cl _ (defBody s_l_used) _ ev_l_used
    exact b_cons (s_set 2 sc_l_used.nd (v_int)) (b_cons (s_for PassesOwn.never rfl (i_r1 T.z_range (a_cons (v_callB call_lenA cas_len T.z_len (a_cons (v_var 1) (a_nil))) (a_nil))) (g_name 3 sc_l_used.nd) (es := lp_l_used_0) (b_one (s_set 2 sc_l_used.nd (v_add (v_var 2) (v_mul (v_ix (v_var 1) (v_var 3)) (v_ix (v_ix (v_var 0) (v_int)) (v_var 3))))))) (b_one (s_ret (v_var 2))))
theorem ok_l_rows (T : Tx K cl mg) : FnOk P w K mg base CX0 2 T.a_l_rows T.d_l_rows ["parts", "kind"] (spE K cl 2 rv_l_rows) := fn_e T.F_l_rows sc_l_rows (by decide) fun cdv A outer s H E hr => by
  apply Exists.intro
  case h =>
    show VB cl _ (defBody s_l_rows) _ ev_l_rows
    exact b_cons (s_setL 2 sc_l_rows.nd (l_lst (a_cons (v_tup (a_nil)) (a_nil)))) (b_cons (s_for PassesOwn.never rfl (i_r1 T.z_range (a_cons (v_callB call_lenA cas_len T.z_len (a_cons (v_ix (v_var 0) (v_int)) (a_nil))) (a_nil))) (g_name 3 sc_l_rows.nd) (es := lp_l_rows_2) (b_cons (s_setL 4 sc_l_rows.nd (l_lst (a_nil))) (b_cons (s_for PassesOwn.never rfl (i_sq (v_var 2)) (g_name 5 sc_l_rows.nd) (es := lp_l_rows_1) (b_one (s_for PassesOwn.never rfl (i_r1 T.z_range (a_cons (v_add (v_ix (v_var 0) (v_int)) (v_int)) (a_nil))) (g_name 6 sc_l_rows.nd) (es := lp_l_rows_0) (b_one (s_app 4 (v_add (v_var 5) (v_tup (a_cons (v_var 6) (a_nil))))))))) (b_one (s_set 2 sc_l_rows.nd (v_var 4)))))) (b_cons (s_setL 7 sc_l_rows.nd (l_lst (a_nil))) (b_cons (s_for PassesOwn.never rfl (i_sq (v_var 2)) (g_name 5 sc_l_rows.nd) (es := lp_l_rows_3) (b_one (s_if (VW.t (w_and (t_chain c_le c_le (v_int) (v_callB (cr_sum rfl) cas_sum T.z_sum (a_cons (v_var 5) (a_nil))) (v_ix (v_var 0) (v_int))) (w_and1 (t_cmp c_le (v_call (hr.mono (by decide)) (ok_l_used T) T.g_l_used T.F_l_used.kp T.b_l_used (a_cons (v_var 0) (a_cons (v_var 5) (a_nil)))) (v_ix (v_ix (v_ix (v_var 0) (v_int)) (v_var 1)) (v_int)))))) (b_one (s_app 7 (v_tup (a_cons (v_var 1) (a_cons (v_var 5) (a_nil)))))) (b_nil)))) (b_one (s_ret (v_var 7))))))
theorem ok_l_all (T : Tx K cl mg) : FnOk P w K mg base CX0 3 T.a_l_all T.d_l_all ["parts"] (spE K cl 1 rv_l_all) := fn_e T.F_l_all sc_l_all (by decide) fun cdv A outer s H E hr => by
  apply Exists.intro
  case h =>
    show VB cl _ (defBody s_l_all) _ ev_l_all
    exact b_cons (s_setL 1 sc_l_all.nd (l_lst (a_nil))) (b_cons (s_for PassesOwn.never rfl (i_r1 T.z_range (a_cons (v_callB call_lenA cas_len T.z_len (a_cons (v_ix (v_var 0) (v_int)) (a_nil))) (a_nil))) (g_name 2 sc_l_all.nd) (es := lp_l_all_0) (b_one (s_set 1 sc_l_all.nd (v_add (v_var 1) (v_call (hr.mono (by decide)) (ok_l_rows T) T.g_l_rows T.F_l_rows.kp T.b_l_rows (a_cons (v_var 0) (a_cons (v_var 2) (a_nil)))))))) (b_one (s_ret (v_var 1))))
theorem ok_l_full (T : Tx K cl mg) : FnOk P w K mg base CX0 4 T.a_l_full T.d_l_full ["parts"] (spE K cl 1 rv_l_full) := fn_e T.F_l_full sc_l_full (by decide) fun cdv A outer s H E hr => by
  apply Exists.intro
  case h =>
    show VB cl _ (defBody s_l_full) _ ev_l_full
    exact b_cons (s_set 1 sc_l_full.nd (v_call (hr.mono (by decide)) (ok_l_all T) T.g_l_all T.F_l_all.kp T.b_l_all (a_cons (v_var 0) (a_nil)))) (b_cons (s_setL 2 sc_l_full.nd (l_lst (a_nil))) (b_cons (s_for PassesOwn.never rfl (i_sq (v_var 1)) (g_tup 2 (gs_cons (g_name 3 sc_l_full.nd) (gs_cons (g_name 4 sc_l_full.nd) (gs_nil)))) (es := lp_l_full_1) (b_cons (s_set 5 sc_l_full.nd (v_bl)) (b_cons (s_for PassesOwn.never rfl (i_r1 T.z_range (a_cons (v_callB call_lenA cas_len T.z_len (a_cons (v_var 4) (a_nil))) (a_nil))) (g_name 6 sc_l_full.nd) (es := lp_l_full_0) (b_one (s_if (t_cmp (c_in hr) (v_tup (a_cons (v_var 3) (a_cons (v_add (v_add (v_slice (v_var 4) (o_none) (o_some (v_var 6))) (v_tup (a_cons (v_add (v_ix (v_var 4) (v_var 6)) (v_int)) (a_nil)))) (v_slice (v_var 4) (o_some (v_add (v_var 6) (v_int))) (o_none))) (a_nil)))) (v_var 1)) (b_one (s_set 5 sc_l_full.nd (v_bl))) (b_nil)))) (b_one (s_if (t_not (t_val (v_var 5))) (b_one (s_app 2 (v_tup (a_cons (v_var 3) (a_cons (v_var 4) (a_nil)))))) (b_nil)))))) (b_one (s_ret (v_var 2)))))
theorem ok_l_mill (T : Tx K cl mg) : FnOk P w K mg base CX0 3 T.a_l_mill T.d_l_mill ["parts"] (spE K cl 1 rv_l_mill) := fn_e T.F_l_mill sc_l_mill (by decide) fun cdv A outer s H E hr => by
  apply Exists.intro
  case h =>
    show VB cl _ (defBody s_l_mill) _ ev_l_mill
    exact b_one (s_ret (v_make 0 (hr.mono (by decide)) T.M_Mill (ok_Mill_init T) T.g_Mill T.b_Mill_init (a_cons (v_ix (v_var 0) (v_int)) (a_cons (v_ix (v_var 0) (v_int)) (a_cons (v_ix (v_var 0) (v_int)) (a_nil))))))
theorem ok_law (T : Tx K cl mg) : FnOk P w K mg base CX0 4 T.a_law T.d_law ["script"] (spE K cl 1 rv_law) := fn_e T.F_law sc_law (by decide) fun cdv A outer s H E hr => by
  apply Exists.intro
  case h =>
    show VB cl _ (defBody s_law) _ ev_law
    refine' b_cons (s_setL 2 sc_law.nd (l_lst (a_cons (v_call (hr.mono (by decide)) (ok_l_digits T) T.g_l_digits T.F_l_digits.kp T.b_l_digits (a_cons (v_var 0) (a_cons (v_int) (a_cons (v_int) (a_nil))))) (a_cons (v_int) (a_nil))))) (b_cons (s_set 3 sc_law.nd (v_callO 2 (hr.mono (by decide)) (ok_l_parts T) T.g_l_parts T.F_l_parts.kp T.b_l_parts (a_cons (v_int) (a_cons (v_int) (a_nil))))) (b_cons (s_set 4 sc_law.nd (v_call (hr.mono (by decide)) (ok_l_mill T) T.g_l_mill T.F_l_mill.kp T.b_l_mill (a_cons (v_var 3) (a_nil)))) (b_cons (s_if (VW.t (w_or (t_cmp c_isNot (v_call (hr.mono (by decide)) (ok_is_mill T) T.g_is_mill T.F_is_mill.kp T.b_is_mill (a_cons (v_var 4) (a_nil))) (v_bl)) (w_or (t_cmp (c_ne hr) (v_fld 0 (f := "rolls") T.k_Mill (by decide) (v_var 4)) (v_ix (v_var 3) (v_int))) (w_or (t_cmp (c_ne hr) (v_fld 0 (f := "widths") T.k_Mill (by decide) (v_var 4)) (v_ix (v_var 3) (v_int))) (w_or1 (t_cmp (c_ne hr) (v_fld 0 (f := "knives") T.k_Mill (by decide) (v_var 4)) (v_ix (v_var 3) (v_int)))))))) (b_one (s_ret (v_bl))) (b_nil)) (b_cons (s_if (VW.t (w_or (t_cmp c_isNot (v_call (hr.mono (by decide)) (ok_is_mill T) T.g_is_mill T.F_is_mill.kp T.b_is_mill (a_cons (v_make 0 (hr.mono (by decide)) T.M_Mill (ok_Mill_init T) T.g_Mill T.b_Mill_init (a_cons (v_mulA (VL.v (l_lst (a_cons (v_tup (a_cons (v_int) (a_cons (v_int) (a_nil)))) (a_nil)))) (v_int)) (a_cons (VL.v (l_lst (a_cons (v_int) (a_cons (v_int) (a_cons (v_int) (a_cons (v_int) (a_cons (v_int) (a_cons (v_int) (a_nil))))))))) (a_cons (v_int) (a_nil))))) (a_nil))) (v_bl)) (w_or1 (t_cmp c_isNot (v_call (hr.mono (by decide)) (ok_is_mill T) T.g_is_mill T.F_is_mill.kp T.b_is_mill (a_cons (v_make 0 (hr.mono (by decide)) T.M_Mill (ok_Mill_init T) T.g_Mill T.b_Mill_init (a_cons (VL.v (l_lst (a_cons (v_tup (a_cons (v_int) (a_cons (v_int) (a_nil)))) (a_nil)))) (a_cons (VL.v (l_lst (a_cons (v_int) (a_nil)))) (a_cons (v_int) (a_nil))))) (a_nil))) (v_bl))))) (b_one (s_ret (v_bl))) (b_nil)) (b_cons (s_set 5 sc_law.nd (v_callB (cr_max rfl) cas_max T.z_max (a_cons (VL.v (l_lc (T := ([1])) [("roll", 1)] rfl sc_law.nd (i_sq (v_ix (v_var 3) (v_int))) (blkOk_by (N := ["script", "roll", "box", "parts", "mill", "widest", "kind", "wrong", "order", "at", "bad"]) (sc := defScope s_law) (by decide +kernel)) ?g0 ?t0 ?e0 (by decide))) (a_nil)))) (b_cons (s_set 6 sc_law.nd (v_callO 2 (hr.mono (by decide)) (ok_l_draw T) T.g_l_draw T.F_l_draw.kp T.b_l_draw (a_cons (v_int) (a_nil)))) (b_cons (s_setL 7 sc_law.nd (l_lst (a_cons (VL.v (l_callTy call_list_of cal_list T.z_list (a_cons (v_ix (v_var 3) (v_int)) (a_nil)))) (a_cons (VL.v (l_callTy call_list_of cal_list T.z_list (a_cons (v_ix (v_var 3) (v_int)) (a_nil)))) (a_cons (v_ix (v_var 3) (v_int)) (a_nil)))))) (b_cons (s_if (t_cmp (c_eq hr) (v_var 6) (v_int)) (b_one (s_setO 7 (VL.v (l_lst (a_nil))) (v_int) keep_c)) (b_one (s_if (t_cmp (c_eq hr) (v_var 6) (v_int)) (b_cons (s_setO 7 (v_mulA (VL.v (l_lst (a_cons (v_ix (v_ix (v_var 3) (v_int)) (v_int)) (a_nil)))) (v_int)) (v_int) keep_c) (b_one (s_setO 7 (VL.v (l_lst (a_cons (v_int) (a_nil)))) (v_int) keep_c))) (b_one (s_if (t_cmp (c_eq hr) (v_var 6) (v_int)) (b_cons (s_setO 7 (v_add (v_ixO 7 (v_int)) (VL.v (l_lst (a_cons (v_ix (VL.v (l_lst (a_cons (v_tup (a_cons (v_int) (a_cons (v_int) (a_nil)))) (a_cons (v_tup (a_cons (v_int) (a_cons (v_int) (a_nil)))) (a_nil))))) (v_callO 2 (hr.mono (by decide)) (ok_l_draw T) T.g_l_draw T.F_l_draw.kp T.b_l_draw (a_cons (v_int) (a_nil)))) (a_nil))))) (v_int) keep_c) (b_cons (s_setO 7 (v_slice (v_ixO 7 (v_int)) (o_some (v_neg (v_int))) (o_none)) (v_int) keep_c) (b_one (s_setO 7 (VL.v (l_lst (a_cons (v_int) (a_nil)))) (v_int) keep_c)))) (b_one (s_if (t_cmp (c_eq hr) (v_var 6) (v_int)) (b_one (s_setO 7 (VL.v (l_lst (a_cons (v_tup (a_cons (v_var 5) (a_cons (v_ix (VL.v (l_lst (a_cons (v_int) (a_cons (v_int) (a_nil))))) (v_callO 2 (hr.mono (by decide)) (ok_l_draw T) T.g_l_draw T.F_l_draw.kp T.b_l_draw (a_cons (v_int) (a_nil)))) (a_nil)))) (a_nil)))) (v_int) keep_c)) (b_one (s_if (t_cmp (c_eq hr) (v_var 6) (v_int)) (b_one (s_setO 7 (VL.v (l_lst (a_nil))) (v_int) keep_c)) (b_one (s_if (t_cmp (c_eq hr) (v_var 6) (v_int)) (b_cons (s_setO 7 (VL.v (l_lst (a_cons (v_tup (a_cons (v_int) (a_cons (v_int) (a_nil)))) (a_nil)))) (v_int) keep_c) (b_one (s_setO 7 (VL.v (l_lst (a_cons (v_int) (a_cons (v_int) (a_cons (v_int) (a_cons (v_int) (a_cons (v_int) (a_cons (v_int) (a_cons (v_int) (a_nil)))))))))) (v_int) keep_c))) (b_one (s_if (t_cmp (c_eq hr) (v_var 6) (v_int)) (b_one (s_setO 7 (v_add (v_ixO 7 (v_int)) (VL.v (l_lst (a_cons (v_ix (v_ixO 7 (v_int)) (v_int)) (a_nil))))) (v_int) keep_c)) (b_one (s_if (t_cmp (c_eq hr) (v_var 6) (v_int)) (b_one (s_setO 7 (VL.v (l_lst (a_cons (v_add (v_var 5) (v_int)) (a_nil)))) (v_int) keep_c)) (b_one (s_if (t_cmp (c_eq hr) (v_var 6) (v_int)) (b_one (s_setO 7 (VL.v (l_lst (a_cons (v_int) (a_nil)))) (v_int) keep_c)) (b_one (s_setO 7 (v_ix (VL.v (l_lst (a_cons (v_int) (a_cons (v_int) (a_nil))))) (v_sub (v_var 6) (v_int))) (v_int) keep_c))))))))))))))))))) (b_cons (s_if (t_cmp c_isNot (v_call (hr.mono (by decide)) (ok_is_mill T) T.g_is_mill T.F_is_mill.kp T.b_is_mill (a_cons (v_call (hr.mono (by decide)) (ok_l_mill T) T.g_l_mill T.F_l_mill.kp T.b_l_mill (a_cons (v_var 7) (a_nil))) (a_nil))) (v_bl)) (b_one (s_ret (v_bl))) (b_nil)) (b_cons (s_set 8 sc_law.nd (v_callO 2 (hr.mono (by decide)) (ok_l_order T) T.g_l_order T.F_l_order.kp T.b_l_order (a_cons (v_var 3) (a_cons (v_int) (a_nil))))) (b_cons (s_set 9 sc_law.nd (v_callO 2 (hr.mono (by decide)) (ok_l_draw T) T.g_l_draw T.F_l_draw.kp T.b_l_draw (a_cons (v_callB call_lenA cas_len T.z_len (a_cons (v_var 8) (a_nil))) (a_nil)))) (b_cons (s_set 10 sc_law.nd (v_ix (VL.v (l_lst (a_cons (v_add (v_var 8) (v_tup (a_cons (v_int) (a_nil)))) (a_cons (v_slice (v_var 8) (o_none) (o_some (v_neg (v_int)))) (a_cons (v_add (v_add (v_slice (v_var 8) (o_none) (o_some (v_var 9))) (v_tup (a_cons (v_int) (a_nil)))) (v_slice (v_var 8) (o_some (v_add (v_var 9) (v_int))) (o_none))) (a_cons (v_add (v_add (v_slice (v_var 8) (o_none) (o_some (v_var 9))) (v_tup (a_cons (v_neg (v_int)) (a_nil)))) (v_slice (v_var 8) (o_some (v_add (v_var 9) (v_int))) (o_none))) (a_nil))))))) (v_callO 2 (hr.mono (by decide)) (ok_l_draw T) T.g_l_draw T.F_l_draw.kp T.b_l_draw (a_cons (v_int) (a_nil))))) (b_one (s_ret (v_and (v_cmp c_is (v_call (hr.mono (by decide)) (ok_is_order T) T.g_is_order T.F_is_order.kp T.b_is_order (a_cons (v_var 4) (a_cons (v_var 8) (a_nil)))) (v_bl)) (v_one (v_cmp c_is (v_call (hr.mono (by decide)) (ok_is_order T) T.g_is_order T.F_is_order.kp T.b_is_order (a_cons (v_var 4) (a_cons (v_var 10) (a_nil)))) (v_bl))))))))))))))))))
    case' g0 => (intro _ _ _ _ _; refine' VG.to (g_name 1 sc_law.nd) ?gq0)
    case gq0 => first | (dsimp only [cxOf]; done) | (dsimp only [cxOf]; rfl) | rfl
    case' t0 => (intro _ _ _ _ _; refine' VTs.to (ts_nil) ?tq0)
    case' e0 => (intro _ _ _ _ _; refine' VE.to (v_ix (v_var 1) (v_int)) ?eq0)
    case tq0 => first | (dsimp only [cxOf]; done) | (dsimp only [cxOf]; rfl) | rfl
    case eq0 => first | (dsimp only [cxOf]; done) | (dsimp only [cxOf]; rfl) | rfl
end
end K01

set_option Elab.async false
set_option linter.all false
set_option maxRecDepth 100000
set_option maxHeartbeats 4000000
namespace K01
open DL L2 PySem
def okr (r : Int × Int) : Bool := (decide (1 ≤ r.1) && decide (r.1 ≤ 400)) && (decide (1 ≤ r.2) && decide (r.2 ≤ 100))
theorem is_roll_eq (w c : Int) : rv_is_roll [.int w, .int c] = some (.bl (okr (w, c))) := by
  by_cases h1 : 1 ≤ w <;> by_cases h2 : w ≤ 400 <;> by_cases h3 : 1 ≤ c <;> simp [rv_is_roll, ev_is_roll, okr, h1, h2, h3]
theorem are_rolls_eq (rs : List (Int × Int)) (hl : rs.length ≤ 100) : rv_are_rolls [.lst (encR rs)] = some (.bl (decide (1 ≤ rs.length) && decide (rs.length ≤ 3) && rs.all okr)) := by
  have klc : lcE (gT 2 (gsCons (gN 1) (gsCons (gN 2) gsNil))) xYes (xB (callF 2 rv_is_roll) (xCons (xVar 1) (xCons (xVar 2) xNil))) [1, 2] (encR rs) [] [.d (.lst (encR rs)), .un, .un] = some ((rs.map okr).map .bl, [.d (.lst (encR rs)), .un, .un]) := by
    rw [lc_map (fun d => match d with | .tup [.int w, .int c] => .bl (okr (w, c)) | _ => .non) (encR rs) [] (fun x hx => ?_) (by rw [encR_len]; simp; unfold most; omega)]
    · unfold encR
      simp
    · obtain ⟨r, _, rfl⟩ := List.mem_map.mp hx
      exact ⟨_, _, _, rfl, rfl, by simp [is_roll_eq]; rfl, rfl⟩
  generalize hbs : rs.map okr = bs at klc
  have hall : bs.all id = rs.all okr := by rw [← hbs]; simp [List.all_map]
  by_cases h1 : 1 ≤ rs.length
  · by_cases h2 : rs.length ≤ 3
    · have h1' : (1 : Int) ≤ (rs.length : Int) := by omega
      have h2' : (rs.length : Int) ≤ 3 := by omega
      simp [rv_are_rolls, ev_are_rolls, List.replicate, encR_len, h1, h2, h1', h2', wipeE, klc, hall]
    · have h1' : (1 : Int) ≤ (rs.length : Int) := by omega
      have h2' : ¬ (rs.length : Int) ≤ 3 := by omega
      simp [rv_are_rolls, ev_are_rolls, List.replicate, encR_len, h1, h2, h1', h2']
  · have h1' : ¬ (1 : Int) ≤ (rs.length : Int) := by omega
    simp [rv_are_rolls, ev_are_rolls, List.replicate, encR_len, h1, h1']
theorem are_widths_eq (ws : List Int) (m : Int) (hl : ws.length ≤ 100) : rv_are_widths [.lst (ws.map .int), .int m] = some (.bl (decide (1 ≤ ws.length) && decide (ws.length ≤ 6) && (decide (distinct ws = ws.length) && ws.all fun w => decide (1 ≤ w) && decide (w ≤ m)))) := by
  have klc : lcE (gN 2) xYes (xChain fLe fLe (xC (.int 1)) (xVar 2) (xVar 1)) [2] (ws.map .int) [] [.d (.lst (ws.map .int)), .d (.int m), .un] = some ((ws.map fun w => decide (1 ≤ w) && decide (w ≤ m)).map .bl, [.d (.lst (ws.map .int)), .d (.int m), .un]) := by
    rw [lc_map (fun d => match d with | .int w => .bl (decide (1 ≤ w) && decide (w ≤ m)) | _ => .non) (ws.map .int) [] (fun x hx => ?_) (by simp; unfold most; omega)]
    · simp
    · obtain ⟨w, _, rfl⟩ := List.mem_map.mp hx
      refine ⟨_, _, [.d (.lst (ws.map .int)), .d (.int m), .d (.int w)], rfl, rfl, ?_, rfl⟩
      by_cases h : 1 ≤ w <;> simp [h]
  generalize hbs : (ws.map fun w => decide (1 ≤ w) && decide (w ≤ m)) = bs at klc
  have hall : bs.all id = ws.all fun w => decide (1 ≤ w) && decide (w ≤ m) := by rw [← hbs]; simp [List.all_map]
  have h4 : ws.length ≤ 4000 := by omega
  by_cases h1 : 1 ≤ ws.length
  · by_cases h2 : ws.length ≤ 6
    · have h1' : (1 : Int) ≤ (ws.length : Int) := by omega
      have h2' : (ws.length : Int) ≤ 6 := by omega
      by_cases h3 : distinct ws = ws.length
      · simp [rv_are_widths, ev_are_widths, List.replicate, h1, h2, h1', h2', h3, h4, wipeE, klc]
        simpa using hall
      · have h3' : ¬ (distinct ws : Int) = (ws.length : Int) := by omega
        simp [rv_are_widths, ev_are_widths, List.replicate, h1, h2, h1', h2', h3, h3', h4, wipeE]
    · have h1' : (1 : Int) ≤ (ws.length : Int) := by omega
      have h2' : ¬ (ws.length : Int) ≤ 6 := by omega
      simp [rv_are_widths, ev_are_widths, List.replicate, h1, h2, h1', h2']
  · have h1' : ¬ (1 : Int) ≤ (ws.length : Int) := by omega
    simp [rv_are_widths, ev_are_widths, List.replicate, h1, h1']
theorem widest_eq (rs : List (Int × Int)) (hl : rs.length ≤ 100) {m : Int} (h : maxL (rs.map (·.1)) = some m) : rv_widest_roll [.lst (encR rs)] = some (.int m) := by
  have klc : lcE (gN 1) xYes (x2 fIx (xVar 1) (xC (.int 0))) [1] (encR rs) [] [.d (.lst (encR rs)), .un] = some ((rs.map (·.1)).map .int, [.d (.lst (encR rs)), .un]) := by
    rw [lc_map fstD (encR rs) [] (fun x hx => ?_) (by rw [encR_len]; simp; unfold most; omega), encR_ints]
    · rfl
    · obtain ⟨r, _, rfl⟩ := List.mem_map.mp hx
      exact ⟨_, _, _, rfl, rfl, rfl, rfl⟩
  generalize hms : rs.map (·.1) = ms at klc h
  simp [rv_widest_roll, ev_widest_roll, List.replicate, wipeE, klc, h]
theorem is_mill_no1 (rs : List (Int × Int)) (ws : List Int) (k : Int) (h : rv_are_rolls [.lst (encR rs)] = some (.bl false)) : rv_is_mill [encM rs ws k] = some (.bl false) := by
  obtain ⟨h1, h2, h3, h4, h5, h6⟩ := beq_rw
  simp [rv_is_mill, ev_is_mill, encM, h, List.lookup, h1, h2, h3, h4, h5, h6]
theorem is_mill_eq (rs : List (Int × Int)) (ws : List Int) (k m : Int) (b : Bool) (h : rv_are_rolls [.lst (encR rs)] = some (.bl true)) (hw : rv_widest_roll [.lst (encR rs)] = some (.int m)) (hb : rv_are_widths [.lst (ws.map .int), .int m] = some (.bl b)) :
    rv_is_mill [encM rs ws k] = some (.bl (b && (decide (1 ≤ k) && decide (k ≤ 12)))) := by
  obtain ⟨h1, h2, h3, h4, h5, h6⟩ := beq_rw
  cases b
  · simp [rv_is_mill, ev_is_mill, encM, h, hw, hb, List.lookup, h1, h2, h3, h4, h5, h6]
  · by_cases hk : 1 ≤ k <;> simp [rv_is_mill, ev_is_mill, encM, h, hw, hb, List.lookup, h1, h2, h3, h4, h5, h6, hk]
end K01

set_option Elab.async false
set_option linter.all false
set_option maxRecDepth 100000
set_option maxHeartbeats 4000000
namespace K01
open DL L2 PySem
def st8 : EvS := sIf (xT (x2 fEq (xVar 6) (xC (.int 0)))) (sSetO 7 (xL (xLst (xNil))) (xC (.int 0))) (sIf (xT (x2 fEq (xVar 6) (xC (.int 1)))) (sSeq (sSetO 7 (x2 fMulA (xL (xLst (xCons (x2 fIx (x2 fIx (xVar 3) (xC (.int 0))) (xC (.int 0))) (xNil)))) (xC (.int 4))) (xC (.int 0))) (sSetO 7 (xL (xLst (xCons (xC (.int 1)) (xNil)))) (xC (.int 1)))) (sIf (xT (x2 fEq (xVar 6) (xC (.int 2)))) (sSeq (sSetO 7 (x2 fAdd (xIxO 7 (xC (.int 0))) (xL (xLst (xCons (x2 fIx (xL (xLst (xCons (xTup (xCons (xC (.int 0)) (xCons (xC (.int 1)) (xNil)))) (xCons (xTup (xCons (xC (.int 401)) (xCons (xC (.int 1)) (xNil)))) (xNil))))) (xCallO 1 rv_l_draw 2 (xCons (xC (.int 2)) (xNil)))) (xNil))))) (xC (.int 0))) (sSeq (sSetO 7 (xSl (xIxO 7 (xC (.int 0))) (xPart (x1 fNeg (xC (.int 2)))) (xNoP)) (xC (.int 0))) (sSetO 7 (xL (xLst (xCons (xC (.int 1)) (xNil)))) (xC (.int 1))))) (sIf (xT (x2 fEq (xVar 6) (xC (.int 3)))) (sSetO 7 (xL (xLst (xCons (xTup (xCons (xVar 5) (xCons (x2 fIx (xL (xLst (xCons (xC (.int 0)) (xCons (xC (.int 101)) (xNil))))) (xCallO 1 rv_l_draw 2 (xCons (xC (.int 2)) (xNil)))) (xNil)))) (xNil)))) (xC (.int 0))) (sIf (xT (x2 fEq (xVar 6) (xC (.int 4)))) (sSetO 7 (xL (xLst (xNil))) (xC (.int 1))) (sIf (xT (x2 fEq (xVar 6) (xC (.int 5)))) (sSeq (sSetO 7 (xL (xLst (xCons (xTup (xCons (xC (.int 400)) (xCons (xC (.int 1)) (xNil)))) (xNil)))) (xC (.int 0))) (sSetO 7 (xL (xLst (xCons (xC (.int 1)) (xCons (xC (.int 2)) (xCons (xC (.int 3)) (xCons (xC (.int 4)) (xCons (xC (.int 5)) (xCons (xC (.int 6)) (xCons (xC (.int 7)) (xNil)))))))))) (xC (.int 1)))) (sIf (xT (x2 fEq (xVar 6) (xC (.int 6)))) (sSetO 7 (x2 fAdd (xIxO 7 (xC (.int 1))) (xL (xLst (xCons (x2 fIx (xIxO 7 (xC (.int 1))) (xC (.int 0))) (xNil))))) (xC (.int 1))) (sIf (xT (x2 fEq (xVar 6) (xC (.int 7)))) (sSetO 7 (xL (xLst (xCons (x2 fAdd (xVar 5) (xC (.int 1))) (xNil)))) (xC (.int 1))) (sIf (xT (x2 fEq (xVar 6) (xC (.int 8)))) (sSetO 7 (xL (xLst (xCons (xC (.int 0)) (xNil)))) (xC (.int 1))) (sSetO 7 (x2 fIx (xL (xLst (xCons (xC (.int 0)) (xCons (xC (.int 13)) (xNil))))) (x2 fSub (xVar 6) (xC (.int 9)))) (xC (.int 2)))))))))))
def st12 : EvS := sAsg (x2 fIx (xL (xLst (xCons (x2 fAdd (xVar 8) (xTup (xCons (xC (.int 0)) (xNil)))) (xCons (xSl (xVar 8) (xNoP) (xPart (x1 fNeg (xC (.int 1))))) (xCons (x2 fAdd (x2 fAdd (xSl (xVar 8) (xNoP) (xPart (xVar 9))) (xTup (xCons (xC (.int 100)) (xNil)))) (xSl (xVar 8) (xPart (x2 fAdd (xVar 9) (xC (.int 1)))) (xNoP))) (xCons (x2 fAdd (x2 fAdd (xSl (xVar 8) (xNoP) (xPart (xVar 9))) (xTup (xCons (x1 fNeg (xC (.int 1))) (xNil)))) (xSl (xVar 8) (xPart (x2 fAdd (xVar 9) (xC (.int 1)))) (xNoP))) (xNil))))))) (xCallO 1 rv_l_draw 2 (xCons (xC (.int 4)) (xNil)))) (gN 10)
theorem is_order_eq (rs : List (Int × Int)) (ws : List Int) (k : Int) (bs : List Int) (hb : bs.length ≤ 1000) : rv_is_order [encM rs ws k, .tup (bs.map .int)] = some (.bl (decide (bs.length = ws.length) && bs.all fun c => decide (0 ≤ c) && decide (c ≤ 99))) := by
  obtain ⟨h1, h2, h3, h4, h5, h6⟩ := beq_rw
  have klc : lcE (gN 2) xYes (xChain fLe fLe (xC (.int 0)) (xVar 2) (xC (.int 99))) [2] (bs.map .int) [] [.d (encM rs ws k), .d (.tup (bs.map .int)), .un] = some ((bs.map fun c => decide (0 ≤ c) && decide (c ≤ 99)).map .bl, [.d (encM rs ws k), .d (.tup (bs.map .int)), .un]) := by
    rw [lc_map (fun d => match d with | .int w => .bl (decide (0 ≤ w) && decide (w ≤ 99)) | _ => .non) (bs.map .int) [] (fun x hx => ?_) (by simp; unfold most; omega)]
    · simp
    · obtain ⟨w, _, rfl⟩ := List.mem_map.mp hx
      refine ⟨_, _, [.d (encM rs ws k), .d (.tup (bs.map .int)), .d (.int w)], rfl, rfl, ?_, rfl⟩
      by_cases h : 0 ≤ w <;> simp [h]
  generalize hcs : (bs.map fun c => decide (0 ≤ c) && decide (c ≤ 99)) = cs at klc
  have hall : cs.all id = bs.all fun c => decide (0 ≤ c) && decide (c ≤ 99) := by rw [← hcs]; simp [List.all_map]
  by_cases h : bs.length = ws.length
  · have h' : (bs.length : Int) = (ws.length : Int) := by omega
    simp [encM] at klc
    simp [rv_is_order, ev_is_order, List.replicate, encM, List.lookup, h1, h2, h3, h4, h5, h6, h, wipeE, klc]
    simpa using hall
  · have h' : ¬ (bs.length : Int) = (ws.length : Int) := by omega
    simp [rv_is_order, ev_is_order, List.replicate, encM, List.lookup, h1, h2, h3, h4, h5, h6, h, h']
end K01

set_option Elab.async false
set_option linter.all false
set_option maxRecDepth 100000
set_option maxHeartbeats 4000000
namespace K01
open DL L2 PySem
theorem distinct_nodup {ws : List Int} (h : ws.Nodup) : distinct ws = ws.length := by
  unfold distinct
  rw [RZ.firstMet_nodup h _ (Nat.le_refl _), List.take_length]
theorem distinct_dup {ws : List Int} (h : ws.Nodup) {x : Int} (hx : x ∈ ws) : distinct (ws ++ [x]) = ws.length := by
  unfold distinct
  have e1 : (ws ++ [x]).length = ws.length + 1 := by simp
  rw [e1, PyProof.Rows.firstMet_succ]
  have e2 : PyProof.Rows.firstMet (fun i => (ws ++ [x]).getD i 0) ws.length = PyProof.Rows.firstMet (fun i => ws.getD i 0) ws.length := by
    unfold PyProof.Rows.firstMet
    congr 1
    apply List.map_congr_left
    intro i hi
    have hi := List.mem_range.mp hi
    simp [List.getD_eq_getElem?_getD, List.getElem?_append_left hi]
  rw [e2, RZ.firstMet_nodup h _ (Nat.le_refl _), List.take_length]
  have e3 : (ws ++ [x]).getD ws.length 0 = x := by simp [List.getD_eq_getElem?_getD]
  rw [e3]
  unfold PyProof.Rows.step_dedup
  have e4 : (ws.any fun y => y == x) = true := List.any_eq_true.mpr ⟨x, hx, by simp⟩
  simp [e4, hx]
theorem good {rs : List (Int × Int)} {ws : List Int} {k : Int} (h : PartsOk 20 6 rs ws k) {m : Int} (hm : maxL (rs.map (·.1)) = some m) (hle : ∀ r ∈ rs, r.1 ≤ m) :
    rv_are_rolls [.lst (encR rs)] = some (.bl true) ∧ rv_are_widths [.lst (ws.map .int), .int m] = some (.bl true) ∧ rv_is_mill [encM rs ws k] = some (.bl true) := by
  have h1 : rv_are_rolls [.lst (encR rs)] = some (.bl true) := by
    rw [are_rolls_eq rs (by have := h.r2; omega)]
    have ha : rs.all okr = true := List.all_eq_true.mpr fun r hr => by
      have := h.rw r hr
      unfold okr
      simp
      omega
    have := h.r1
    have := h.r2
    simp [ha]
    omega
  have h2 : rv_are_widths [.lst (ws.map .int), .int m] = some (.bl true) := by
    have w2 := h.w2
    rw [are_widths_eq ws m (by omega)]
    have ha : (ws.all fun w => decide (1 ≤ w) && decide (w ≤ m)) = true := List.all_eq_true.mpr fun w hw => by
      obtain ⟨g1, r, g2, g3⟩ := h.ww w hw
      have := hle r g2
      simp
      omega
    have := h.w1
    rw [ha, distinct_nodup h.wd]
    simp
    omega
  refine ⟨h1, h2, ?_⟩
  rw [is_mill_eq rs ws k m true h1 (widest_eq rs (by have := h.r2; omega) hm) h2]
  have := h.k1
  have := h.k2
  simp
  omega
theorem rolls_bad {rs : List (Int × Int)} (hl : rs.length ≤ 100) (h : ∃ r ∈ rs, okr r = false) : rv_are_rolls [.lst (encR rs)] = some (.bl false) := by
  rw [are_rolls_eq rs hl]
  have ha : rs.all okr = false := by
    obtain ⟨r, h1, h2⟩ := h
    exact List.all_eq_false.mpr ⟨r, h1, by rw [h2]; decide⟩
  rw [ha, Bool.and_false]
theorem rolls_len {rs : List (Int × Int)} (hl : rs.length ≤ 100) (h : rs.length = 0 ∨ 3 < rs.length) : rv_are_rolls [.lst (encR rs)] = some (.bl false) := by
  rw [are_rolls_eq rs hl]
  rcases h with h | h
  · simp [h]
  · have : ¬ rs.length ≤ 3 := by omega
    simp [this]
theorem mill_w {rs : List (Int × Int)} {ws : List Int} {k m : Int} (hl : rs.length ≤ 100) (h1 : rv_are_rolls [.lst (encR rs)] = some (.bl true)) (hm : maxL (rs.map (·.1)) = some m) (hw : rv_are_widths [.lst (ws.map .int), .int m] = some (.bl false)) : rv_is_mill [encM rs ws k] = some (.bl false) := by
  rw [is_mill_eq rs ws k m false h1 (widest_eq rs hl hm) hw]
  rfl
def Env8 (ns : List Int) (o : Oc) (rs : List (Int × Int)) (ws : List Int) (k m kind : Int) (rs' : List (Int × Int)) (ws' : List Int) (k' : Int) : DL.Env :=
  [.d (.scr ns), .un, .own o, .d (encP rs ws k), .d (encM rs ws k), .d (.int m), .d (.int kind), .own (.l [.lst (encR rs'), .lst (ws'.map .int), .int k']), .un, .un, .un]
theorem st8_ok {ns : List Int} {o : Oc} (hB : BoxD o) {rs : List (Int × Int)} {ws : List Int} {k m kind : Int} (h : PartsOk 20 6 rs ws k) (hm : maxL (rs.map (·.1)) = some m) (hle : ∀ r ∈ rs, r.1 ≤ m) (h0 : 0 ≤ kind) (h1 : kind < 11) :
    ∃ o' rs' ws' k', st8 (Env8 ns o rs ws k m kind rs ws k) = some (.nx (Env8 ns o' rs ws k m kind rs' ws' k')) ∧ BoxD o' ∧ rv_is_mill [encM rs' ws' k'] = some (.bl false) := by
  obtain ⟨g1, g2, g3⟩ := good h hm hle
  have hl : rs.length ≤ 100 := by have := h.r2; omega
  have ix2 : ixN 3 2 = some 2 := rfl
  have ix1 : ixN 3 1 = some 1 := rfl
  have ix0 : ixN 3 0 = some 0 := rfl
  rcases (show kind = 0 ∨ kind = 1 ∨ kind = 2 ∨ kind = 3 ∨ kind = 4 ∨ kind = 5 ∨ kind = 6 ∨ kind = 7 ∨ kind = 8 ∨ kind = 9 ∨ kind = 10 by omega) with rfl | rfl | rfl | rfl | rfl | rfl | rfl | rfl | rfl | rfl | rfl
  · refine ⟨o, [], ws, k, ?_, hB, is_mill_no1 _ _ _ (rolls_len (by decide) (.inl rfl))⟩
    simp [st8, Env8, ix0, most, encR]
  · obtain ⟨r, rs1, rfl⟩ : ∃ r rs1, rs = r :: rs1 := by
      cases rs with
      | nil => have := h.r1; simp at this
      | cons r rs1 => exact ⟨r, rs1, rfl⟩
    refine ⟨o, [r, r, r, r], [1], k, ?_, hB, is_mill_no1 _ _ _ (rolls_len (by simp) (.inr (by simp)))⟩
    have a0 : ∀ (x : Dt) (xs : List Dt), atI (x :: xs) 0 = some x := fun x xs => atI_nat (j := 0) rfl
    simp [st8, Env8, ix0, ix1, most, encR, encP, a0, List.replicate]
  · obtain ⟨a, o1, e1, a0, a1, hB1⟩ := draw_ok hB (many := 2) (by decide)
    have hbad : ∃ b : Int × Int, okr b = false ∧ atI [Dt.tup [.int 0, .int 1], Dt.tup [.int 401, .int 1]] a = some (.tup [.int b.1, .int b.2]) := by
      rcases (show a = 0 ∨ a = 1 by omega) with rfl | rfl
      · exact ⟨(0, 1), by decide, rfl⟩
      · exact ⟨(401, 1), by decide, rfl⟩
    obtain ⟨b, hb, hat⟩ := hbad
    obtain ⟨r, rs1, rfl⟩ : ∃ r rs1, rs = r :: rs1 := by
      cases rs with
      | nil => have := h.r1; simp at this
      | cons r rs1 => exact ⟨r, rs1, rfl⟩
    cases rs1 with
    | nil =>
      refine ⟨o1, [r, b], [1], k, ?_, hB1, is_mill_no1 _ _ _ (rolls_bad (by simp) ⟨b, by simp, hb⟩)⟩
      have hc : ∀ x y : Dt, cutD [x, y] (some (-2)) none = [x, y] := fun x y => rfl
      simp [st8, Env8, ix0, ix1, most, encR, e1, hat, hc]
    | cons r2 rs2 =>
      cases rs2 with
      | nil =>
        refine ⟨o1, [r2, b], [1], k, ?_, hB1, is_mill_no1 _ _ _ (rolls_bad (by simp) ⟨b, by simp, hb⟩)⟩
        have hc : ∀ x y z : Dt, cutD [x, y, z] (some (-2)) none = [y, z] := fun x y z => rfl
        simp [st8, Env8, ix0, ix1, most, encR, e1, hat, hc]
      | cons r3 rs3 => have := h.r2; simp at this
  · obtain ⟨a, o1, e1, a0, a1, hB1⟩ := draw_ok hB (many := 2) (by decide)
    have hbad : ∃ b : Int, okr (m, b) = false ∧ atI [Dt.int 0, Dt.int 101] a = some (.int b) := by
      rcases (show a = 0 ∨ a = 1 by omega) with rfl | rfl
      · exact ⟨0, by simp [okr], rfl⟩
      · exact ⟨101, by simp [okr], rfl⟩
    obtain ⟨b, hb, hat⟩ := hbad
    refine ⟨o1, [(m, b)], ws, k, ?_, hB1, is_mill_no1 _ _ _ (rolls_bad (by simp) ⟨(m, b), by simp, hb⟩)⟩
    simp [st8, Env8, ix0, ix1, most, encR, e1, hat]
  · refine ⟨o, rs, [], k, ?_, hB, mill_w hl g1 hm ?_⟩
    · simp [st8, Env8, ix0, ix1, most]
    · rw [are_widths_eq [] m (by decide)]; rfl
  · refine ⟨o, [(400, 1)], [1, 2, 3, 4, 5, 6, 7], k, ?_, hB, mill_w (m := 400) (by decide) ?_ rfl ?_⟩
    · simp [st8, Env8, ix0, ix1, most, encR]
    · rw [are_rolls_eq _ (by decide)]; rfl
    · rw [are_widths_eq _ _ (by decide)]; rfl
  · obtain ⟨w, ws1, rfl⟩ : ∃ w ws1, ws = w :: ws1 := by
      cases ws with
      | nil => have := h.w1; simp at this
      | cons w ws1 => exact ⟨w, ws1, rfl⟩
    have w2 := h.w2
    refine ⟨o, rs, (w :: ws1) ++ [w], k, ?_, hB, mill_w hl g1 hm ?_⟩
    · have a0 : ∀ (x : Dt) (xs : List Dt), atI (x :: xs) 0 = some x := fun x xs => atI_nat (j := 0) rfl
      simp at w2
      have hlm : ws1.length + 1 + 1 ≤ 1000000 := by omega
      simp [st8, Env8, ix0, ix1, most, a0, hlm]
    · rw [are_widths_eq _ _ (by simp at w2 ⊢; omega), distinct_dup h.wd (List.mem_cons_self ..)]
      simp
  · refine ⟨o, rs, [m + 1], k, ?_, hB, mill_w hl g1 hm ?_⟩
    · simp [st8, Env8, ix0, ix1, most]
    · rw [are_widths_eq _ _ (by simp)]
      have : ¬ m + 1 ≤ m := by omega
      simp [this]
  · refine ⟨o, rs, [0], k, ?_, hB, mill_w hl g1 hm ?_⟩
    · simp [st8, Env8, ix0, ix1, most]
    · rw [are_widths_eq _ _ (by decide)]
      simp
  · refine ⟨o, rs, ws, 0, ?_, hB, ?_⟩
    · simp [st8, Env8, ix0, ix1, ix2, most]
    · rw [is_mill_eq rs ws 0 m true g1 (widest_eq rs hl hm) g2]; rfl
  · refine ⟨o, rs, ws, 13, ?_, hB, ?_⟩
    · simp [st8, Env8, ix0, ix1, ix2, most]
    · rw [is_mill_eq rs ws 13 m true g1 (widest_eq rs hl hm) g2]; rfl
theorem cut_all {p : Int → Bool} (xs : List Int) (x : Int) (ys : List Int) (h : p x = false) : (xs ++ [x] ++ ys).all p = false := List.all_eq_false.mpr ⟨x, by simp, by rw [h]; decide⟩
theorem cutI_len (xs : List Int) (lo hi : Option Int) : (cutI xs lo hi).length ≤ xs.length := by
  unfold cutI
  rw [List.length_take, List.length_drop]
  omega
theorem st12_ok {ns : List Int} {o : Oc} (hB : BoxD o) {rs : List (Int × Int)} {ws : List Int} {k m kind at_ : Int} {s7 : Sc} (os : List Int) (hl : os.length = ws.length) (h1 : 1 ≤ ws.length) (h2 : ws.length ≤ 10) (ha : 0 ≤ at_) (ha2 : at_ < os.length) :
    ∃ (o' : Oc) (bs : List Int), st12 [.d (.scr ns), .un, .own o, .d (encP rs ws k), .d (encM rs ws k), .d (.int m), .d (.int kind), s7, .d (.tup (os.map .int)), .d (.int at_), .un] = some (.nx [.d (.scr ns), .un, .own o', .d (encP rs ws k), .d (encM rs ws k), .d (.int m), .d (.int kind), s7, .d (.tup (os.map .int)), .d (.int at_), .d (.tup (bs.map .int))]) ∧ rv_is_order [encM rs ws k, .tup (bs.map .int)] = some (.bl false) := by
  obtain ⟨a, o1, e1, a0, a1, hB1⟩ := draw_ok hB (many := 4) (by decide)
  have c1 := cutI_len os none (some at_)
  have c2 := cutI_len os (some (at_ + 1)) none
  have l1 : os.length + 1 ≤ 1000000 := by omega
  have l2 : (cutI os none (some at_)).length + 1 ≤ 1000000 := by omega
  have l3 : (cutI os none (some at_)).length + 1 + (cutI os (some (at_ + 1)) none).length ≤ 1000000 := by omega
  have cut1 : (cutI os none (some (-1))).length = os.length - 1 := by
    unfold cutI
    have e := sIx_some os.length os.length (-1)
    rw [if_pos (by decide)] at e
    rw [List.length_take, List.length_drop, HT.sIx_none]
    omega
  have all4 : ∀ (b : List Int), (b = os ++ [0] ∨ b = cutI os none (some (-1)) ∨ b = cutI os none (some at_) ++ [100] ++ cutI os (some (at_ + 1)) none ∨ b = cutI os none (some at_) ++ [-1] ++ cutI os (some (at_ + 1)) none) → rv_is_order [encM rs ws k, .tup (b.map .int)] = some (.bl false) := fun b hb => by
    rw [is_order_eq rs ws k b (by
      rcases hb with rfl | rfl | rfl | rfl
      · simp; omega
      · omega
      · simp; omega
      · simp; omega)]
    rcases hb with rfl | rfl | rfl | rfl
    · have : ¬ (os ++ [(0 : Int)]).length = ws.length := by simp; omega
      simp [hl]
    · have : ¬ (cutI os none (some (-1))).length = ws.length := by omega
      simp [this]
    · rw [cut_all _ _ _ (by decide), Bool.and_false]
    · rw [cut_all _ _ _ (by decide), Bool.and_false]
  have hev : ∀ (b : List Int), (b = os ++ [0] ∧ a = 0 ∨ b = cutI os none (some (-1)) ∧ a = 1 ∨ b = cutI os none (some at_) ++ [100] ++ cutI os (some (at_ + 1)) none ∧ a = 2 ∨ b = cutI os none (some at_) ++ [-1] ++ cutI os (some (at_ + 1)) none ∧ a = 3) →
      st12 [.d (.scr ns), .un, .own o, .d (encP rs ws k), .d (encM rs ws k), .d (.int m), .d (.int kind), s7, .d (.tup (os.map .int)), .d (.int at_), .un] = some (.nx [.d (.scr ns), .un, .own o1, .d (encP rs ws k), .d (encM rs ws k), .d (.int m), .d (.int kind), s7, .d (.tup (os.map .int)), .d (.int at_), .d (.tup (b.map .int))]) := fun b hb => by
    have h4 : ∀ (x y z w : Dt), atI [x, y, z, w] 0 = some x ∧ atI [x, y, z, w] 1 = some y ∧ atI [x, y, z, w] 2 = some z ∧ atI [x, y, z, w] 3 = some w := fun _ _ _ _ => ⟨rfl, rfl, rfl, rfl⟩
    rcases hb with ⟨rfl, rfl⟩ | ⟨rfl, rfl⟩ | ⟨rfl, rfl⟩ | ⟨rfl, rfl⟩ <;> simp [st12, most, e1, cutD_ints, l1, l2, l3, h4]
  rcases (show a = 0 ∨ a = 1 ∨ a = 2 ∨ a = 3 by omega) with h | h | h | h
  · exact ⟨o1, _, hev _ (.inl ⟨rfl, h⟩), all4 _ (.inl rfl)⟩
  · exact ⟨o1, _, hev _ (.inr (.inl ⟨rfl, h⟩)), all4 _ (.inr (.inl rfl))⟩
  · exact ⟨o1, _, hev _ (.inr (.inr (.inl ⟨rfl, h⟩))), all4 _ (.inr (.inr (.inl rfl)))⟩
  · exact ⟨o1, _, hev _ (.inr (.inr (.inr ⟨rfl, h⟩))), all4 _ (.inr (.inr (.inr rfl)))⟩
end K01

set_option Elab.async false
set_option linter.all false
set_option maxRecDepth 100000
set_option maxHeartbeats 4000000
namespace K01
open DL L2 PySem
theorem big_ok : rv_is_mill [encM [(400, 100), (400, 100), (400, 100)] [1, 2, 3, 4, 5, 400] 12] = some (.bl true) := by
  rw [is_mill_eq _ _ 12 400 true (by rw [are_rolls_eq _ (by simp)]; rfl) (widest_eq _ (by simp) rfl) (by
    rw [are_widths_eq _ _ (by simp), distinct_nodup (by decide)]; rfl)]
  rfl
theorem one_ok : rv_is_mill [encM [(1, 1)] [1] 1] = some (.bl true) := by
  rw [is_mill_eq _ _ 1 1 true (by rw [are_rolls_eq _ (by simp)]; rfl) (widest_eq _ (by simp) rfl) (by
    rw [are_widths_eq _ _ (by simp), distinct_nodup (by decide)]; rfl)]
  rfl
theorem law_true (ns : List Int) (hl : ns.length ≤ 63) : rv_law [.scr ns] = some (.bl true) := by
  obtain ⟨ds, hd, hdl⟩ := digits_ok ns
  obtain ⟨rs, ws, k, o1, p1, hP, hB1⟩ := parts_ok (o := .l [.lst (ds.map .int), .int 0]) ⟨ds, 0, rfl, by omega⟩ (wide := 20) (most_ := 6) (by decide) (by decide) (by decide)
  obtain ⟨m, hm, _, hle⟩ := widest_ok rs hP.r1
  obtain ⟨g1, g2, g3⟩ := good hP hm hle
  obtain ⟨kind, o2, e2, k0, k1, hB2⟩ := draw_ok hB1 (many := 11) (by decide)
  obtain ⟨o3, rs', ws', k', e8, hB3, hbad⟩ := st8_ok (ns := ns) hB2 hP hm hle k0 k1
  obtain ⟨os, o4, e4, hol, hos, hB4⟩ := order_ok hB3 rs ws k (m := 99) (by decide) (by have := hP.w2; omega)
  have w1 := hP.w1
  have w2 := hP.w2
  obtain ⟨at_, o5, e5, at0, at1, hB5⟩ := draw_ok hB4 (many := (os.length : Int)) (by omega)
  obtain ⟨o6, bs, e6, hbs⟩ := st12_ok (ns := ns) hB5 (rs := rs) (ws := ws) (k := k) (m := m) (kind := kind) (s7 := .d (encP rs' ws' k')) os hol w1 (by omega) at0 (by omega)
  have good_o : rv_is_order [encM rs ws k, .tup (os.map .int)] = some (.bl true) := by
    rw [is_order_eq rs ws k os (by omega)]
    have : (os.all fun c => decide (0 ≤ c) && decide (c ≤ 99)) = true := List.all_eq_true.mpr fun c hc => by
      have := hos c hc
      simp
      omega
    simp [this, hol]
  have klc : lcE (gN 1) xYes (x2 fIx (xVar 1) (xC (.int 0))) [1] (encR rs) [] [.d (.scr ns), .un, .own o1, .d (encP rs ws k), .d (encM rs ws k), .un, .un, .un, .un, .un, .un] = some ((rs.map (·.1)).map .int, [.d (.scr ns), .un, .own o1, .d (encP rs ws k), .d (encM rs ws k), .un, .un, .un, .un, .un, .un]) := by
    rw [lc_map fstD (encR rs) [] (fun x hx => ?_) (by rw [encR_len]; simp; have := hP.r2; unfold most; omega), encR_ints]
    · rfl
    · obtain ⟨r, _, rfl⟩ := List.mem_map.mp hx
      exact ⟨_, _, _, rfl, rfl, rfl, rfl⟩
  generalize hms : rs.map (·.1) = ms at klc hm
  obtain ⟨q1, q2, q3, q4, q5, q6⟩ := beq_rw
  have ne1 : fNe (.lst (encR rs)) (.lst (encR rs)) = some (.bl false) := fNe_self (n := 2) (flat_lst (flat_encR rs)) (by decide) (eqv_self _)
  have ne2 : fNe (.lst (ws.map .int)) (.lst (ws.map .int)) = some (.bl false) := fNe_self (n := 1) (flat_lst (flat_ints 0 ws)) (by decide) (eqv_self _)
  have big : rv_Mill_init (.o 0 [] []) [.lst [.tup [.int 400, .int 100], .tup [.int 400, .int 100], .tup [.int 400, .int 100]], .lst [.int 1, .int 2, .int 3, .int 4, .int 5, .int 400], .int 12] = _ := init_ok _ _ _
  have one : rv_Mill_init (.o 0 [] []) [.lst [.tup [.int 1, .int 1]], .lst [.int 1], .int 1] = _ := init_ok _ _ _
  have big2 := big_ok
  have one2 := one_ok
  simp only [encM, encR, List.map] at big2 one2
  have main : ev_law [.d (.scr ns), .un, .un, .un, .un, .un, .un, .un, .un, .un, .un] = some (.rt (.bl true) [.d (.scr ns), .un, .own o6, .d (encP rs ws k), .d (encM rs ws k), .d (.int m), .d (.int kind), .d (encP rs' ws' k'), .d (.tup (os.map .int)), .d (.int at_), .d (.tup (bs.map .int))]) := by
    unfold ev_law
    refine (sSeq_nx (e := [.d (.scr ns), .un, .own (.l [.lst (ds.map .int), .int 0]), .un, .un, .un, .un, .un, .un, .un, .un]) (by simp [hd, most])).trans ?_
    refine (sSeq_nx (e := [.d (.scr ns), .un, .own o1, .d (encP rs ws k), .un, .un, .un, .un, .un, .un, .un]) (by simp [p1])).trans ?_
    refine (sSeq_nx (e := [.d (.scr ns), .un, .own o1, .d (encP rs ws k), .d (encM rs ws k), .un, .un, .un, .un, .un, .un]) (by simp [mill_ok])).trans ?_
    refine (sSeq_nx (e := [.d (.scr ns), .un, .own o1, .d (encP rs ws k), .d (encM rs ws k), .un, .un, .un, .un, .un, .un]) ?_).trans ?_
    · simp [g3]
      simp [encM, encP, List.lookup, q1, q2, q3, q4, q5, q6, ne1, ne2]
    refine (sSeq_nx (e := [.d (.scr ns), .un, .own o1, .d (encP rs ws k), .d (encM rs ws k), .un, .un, .un, .un, .un, .un]) ?_).trans ?_
    · simp [most, List.replicate, big, one, big2, one2]
    refine (sSeq_nx (e := [.d (.scr ns), .un, .own o1, .d (encP rs ws k), .d (encM rs ws k), .d (.int m), .un, .un, .un, .un, .un]) ?_).trans ?_
    · simp only [encP] at klc
      simp [encP, wipeE, klc, hm]
    refine (sSeq_nx (e := [.d (.scr ns), .un, .own o2, .d (encP rs ws k), .d (encM rs ws k), .d (.int m), .d (.int kind), .un, .un, .un, .un]) (by simp [e2])).trans ?_
    refine (sSeq_nx (e := Env8 ns o2 rs ws k m kind rs ws k) (by simp [Env8, encP, most])).trans ?_
    refine (sSeq_nx (a := st8) e8).trans ?_
    refine (sSeq_nx (e := [.d (.scr ns), .un, .own o3, .d (encP rs ws k), .d (encM rs ws k), .d (.int m), .d (.int kind), .d (encP rs' ws' k'), .un, .un, .un]) ?_).trans ?_
    · have hmk := mill_ok rs' ws' k'
      simp only [encP] at hmk
      simp [Env8, encP, hmk, hbad]
    refine (sSeq_nx (e := [.d (.scr ns), .un, .own o4, .d (encP rs ws k), .d (encM rs ws k), .d (.int m), .d (.int kind), .d (encP rs' ws' k'), .d (.tup (os.map .int)), .un, .un]) (by simp [e4])).trans ?_
    refine (sSeq_nx (e := [.d (.scr ns), .un, .own o5, .d (encP rs ws k), .d (encM rs ws k), .d (.int m), .d (.int kind), .d (encP rs' ws' k'), .d (.tup (os.map .int)), .d (.int at_), .un]) (by simp [e5])).trans ?_
    refine (sSeq_nx (a := st12) e6).trans ?_
    simp [good_o, hbs]
  show (endOf (ev_law [.d (.scr ns), .un, .un, .un, .un, .un, .un, .un, .un, .un, .un])).map (·.1) = some (.bl true)
  rw [main]
  rfl
end K01

set_option Elab.async false
set_option linter.all false
set_option maxRecDepth 100000
set_option maxHeartbeats 4000000
namespace K01
open PySem PySem.Spec PyProof.Rows L2 DL
/-! ### the law's own head -/
theorem all_mk {l : PySem.W.OpenLaw} {w : World} {K : Fg} {h : Heap} {mg : Str → Option Value} {fa f1 f2 f3 f4 f5 f6 f7 f8 f9 f10 f11 f12 f13 f14 f15 f16 f17 f18 C0 : Addr} (X : K.In h) (G : h.Ns mainGlobals mg) (hfa : mg "law" = some (.ref fa))
    {od1 an1 od2 an2 od3 an3 od4 an4 od5 an5 od6 an6 od7 an7 od8 an8 od9 an9 od10 an10 od11 an11 od12 an12 od13 an13 od14 an14 od15 an15 od16 an16 od17 an17 od18 an18 : Option Addr} {sl1 sl2 sl3 sl4 sl5 sl6 sl7 sl8 sl9 sl10 sl11 sl12 sl13 sl14 sl15 sl16 sl17 sl18 : Array (Option Value)} {oc1 kV1 dc1 pm1 cd1 ct1 oc2 kV2 dc2 pm2 cd2 ct2 oc3 kV3 dc3 pm3 cd3 ct3 oc4 kV4 dc4 pm4 cd4 ct4 oc5 kV5 dc5 pm5 cd5 ct5 oc6 kV6 dc6 pm6 cd6 ct6 oc7 kV7 dc7 pm7 cd7 ct7 oc8 kV8 dc8 pm8 cd8 ct8 oc9 kV9 dc9 pm9 cd9 ct9 oc10 kV10 dc10 pm10 cd10 ct10 oc11 kV11 dc11 pm11 cd11 ct11 oc12 kV12 dc12 pm12 cd12 ct12 oc13 kV13 dc13 pm13 cd13 ct13 oc14 kV14 dc14 pm14 cd14 ct14 oc15 kV15 dc15 pm15 cd15 ct15 oc16 kV16 dc16 pm16 cd16 ct16 oc17 kV17 dc17 pm17 cd17 ct17 oc18 kV18 dc18 pm18 cd18 ct18 : Value}
    (a1 : PySem.W.findIn K (.ref C0) "__init__" = some (some (.ref f1))) (i1 : PySem.W.isFn K (.ref f1) = true)
    (l1 : K.lookup f1 = some ⟨oc1, od1, .func (PySem.W.fnOf "__init__" "Mill.__init__" (defArgs s_Mill_init) (defBody s_Mill_init) (defScope s_Mill_init) .none kV1 dc1 pm1 an1 cd1 ct1), sl1⟩) (c1 : PySem.W.codeIn K cd1 "Mill.__init__" = true) (k1 : PySem.W.keepIn K (.ref f1) = true)
    (a2 : PySem.W.nsIn K mainGlobals "is_roll" = some (some (.ref f2)))
    (l2 : K.lookup f2 = some ⟨oc2, od2, .func (PySem.W.fnOf "is_roll" "is_roll" (defArgs s_is_roll) (defBody s_is_roll) (defScope s_is_roll) .none kV2 dc2 pm2 an2 cd2 ct2), sl2⟩) (c2 : PySem.W.codeIn K cd2 "is_roll" = true) (k2 : PySem.W.keepIn K (.ref f2) = true)
    (a3 : PySem.W.nsIn K mainGlobals "are_rolls" = some (some (.ref f3)))
    (l3 : K.lookup f3 = some ⟨oc3, od3, .func (PySem.W.fnOf "are_rolls" "are_rolls" (defArgs s_are_rolls) (defBody s_are_rolls) (defScope s_are_rolls) .none kV3 dc3 pm3 an3 cd3 ct3), sl3⟩) (c3 : PySem.W.codeIn K cd3 "are_rolls" = true) (k3 : PySem.W.keepIn K (.ref f3) = true)
    (a4 : PySem.W.nsIn K mainGlobals "are_widths" = some (some (.ref f4)))
    (l4 : K.lookup f4 = some ⟨oc4, od4, .func (PySem.W.fnOf "are_widths" "are_widths" (defArgs s_are_widths) (defBody s_are_widths) (defScope s_are_widths) .none kV4 dc4 pm4 an4 cd4 ct4), sl4⟩) (c4 : PySem.W.codeIn K cd4 "are_widths" = true) (k4 : PySem.W.keepIn K (.ref f4) = true)
    (a5 : PySem.W.nsIn K mainGlobals "widest_roll" = some (some (.ref f5)))
    (l5 : K.lookup f5 = some ⟨oc5, od5, .func (PySem.W.fnOf "widest_roll" "widest_roll" (defArgs s_widest_roll) (defBody s_widest_roll) (defScope s_widest_roll) .none kV5 dc5 pm5 an5 cd5 ct5), sl5⟩) (c5 : PySem.W.codeIn K cd5 "widest_roll" = true) (k5 : PySem.W.keepIn K (.ref f5) = true)
    (a6 : PySem.W.nsIn K mainGlobals "is_mill" = some (some (.ref f6)))
    (l6 : K.lookup f6 = some ⟨oc6, od6, .func (PySem.W.fnOf "is_mill" "is_mill" (defArgs s_is_mill) (defBody s_is_mill) (defScope s_is_mill) .none kV6 dc6 pm6 an6 cd6 ct6), sl6⟩) (c6 : PySem.W.codeIn K cd6 "is_mill" = true) (k6 : PySem.W.keepIn K (.ref f6) = true)
    (a7 : PySem.W.nsIn K mainGlobals "is_order" = some (some (.ref f7)))
    (l7 : K.lookup f7 = some ⟨oc7, od7, .func (PySem.W.fnOf "is_order" "is_order" (defArgs s_is_order) (defBody s_is_order) (defScope s_is_order) .none kV7 dc7 pm7 an7 cd7 ct7), sl7⟩) (c7 : PySem.W.codeIn K cd7 "is_order" = true) (k7 : PySem.W.keepIn K (.ref f7) = true)
    (a8 : PySem.W.nsIn K mainGlobals "_law_cell" = some (some (.ref f8)))
    (l8 : K.lookup f8 = some ⟨oc8, od8, .func (PySem.W.fnOf "_law_cell" "_law_cell" (defArgs s_l_cell) (defBody s_l_cell) (defScope s_l_cell) .none kV8 dc8 pm8 an8 cd8 ct8), sl8⟩) (c8 : PySem.W.codeIn K cd8 "_law_cell" = true) (k8 : PySem.W.keepIn K (.ref f8) = true)
    (a9 : PySem.W.nsIn K mainGlobals "_law_digits" = some (some (.ref f9)))
    (l9 : K.lookup f9 = some ⟨oc9, od9, .func (PySem.W.fnOf "_law_digits" "_law_digits" (defArgs s_l_digits) (defBody s_l_digits) (defScope s_l_digits) .none kV9 dc9 pm9 an9 cd9 ct9), sl9⟩) (c9 : PySem.W.codeIn K cd9 "_law_digits" = true) (k9 : PySem.W.keepIn K (.ref f9) = true)
    (a10 : PySem.W.nsIn K mainGlobals "_law_draw" = some (some (.ref f10)))
    (l10 : K.lookup f10 = some ⟨oc10, od10, .func (PySem.W.fnOf "_law_draw" "_law_draw" (defArgs s_l_draw) (defBody s_l_draw) (defScope s_l_draw) .none kV10 dc10 pm10 an10 cd10 ct10), sl10⟩) (c10 : PySem.W.codeIn K cd10 "_law_draw" = true) (k10 : PySem.W.keepIn K (.ref f10) = true)
    (a11 : PySem.W.nsIn K mainGlobals "_law_parts" = some (some (.ref f11)))
    (l11 : K.lookup f11 = some ⟨oc11, od11, .func (PySem.W.fnOf "_law_parts" "_law_parts" (defArgs s_l_parts) (defBody s_l_parts) (defScope s_l_parts) .none kV11 dc11 pm11 an11 cd11 ct11), sl11⟩) (c11 : PySem.W.codeIn K cd11 "_law_parts" = true) (k11 : PySem.W.keepIn K (.ref f11) = true)
    (a12 : PySem.W.nsIn K mainGlobals "_law_order" = some (some (.ref f12)))
    (l12 : K.lookup f12 = some ⟨oc12, od12, .func (PySem.W.fnOf "_law_order" "_law_order" (defArgs s_l_order) (defBody s_l_order) (defScope s_l_order) .none kV12 dc12 pm12 an12 cd12 ct12), sl12⟩) (c12 : PySem.W.codeIn K cd12 "_law_order" = true) (k12 : PySem.W.keepIn K (.ref f12) = true)
    (a13 : PySem.W.nsIn K mainGlobals "_law_used" = some (some (.ref f13)))
    (l13 : K.lookup f13 = some ⟨oc13, od13, .func (PySem.W.fnOf "_law_used" "_law_used" (defArgs s_l_used) (defBody s_l_used) (defScope s_l_used) .none kV13 dc13 pm13 an13 cd13 ct13), sl13⟩) (c13 : PySem.W.codeIn K cd13 "_law_used" = true) (k13 : PySem.W.keepIn K (.ref f13) = true)
    (a14 : PySem.W.nsIn K mainGlobals "_law_rows" = some (some (.ref f14)))
    (l14 : K.lookup f14 = some ⟨oc14, od14, .func (PySem.W.fnOf "_law_rows" "_law_rows" (defArgs s_l_rows) (defBody s_l_rows) (defScope s_l_rows) .none kV14 dc14 pm14 an14 cd14 ct14), sl14⟩) (c14 : PySem.W.codeIn K cd14 "_law_rows" = true) (k14 : PySem.W.keepIn K (.ref f14) = true)
    (a15 : PySem.W.nsIn K mainGlobals "_law_all" = some (some (.ref f15)))
    (l15 : K.lookup f15 = some ⟨oc15, od15, .func (PySem.W.fnOf "_law_all" "_law_all" (defArgs s_l_all) (defBody s_l_all) (defScope s_l_all) .none kV15 dc15 pm15 an15 cd15 ct15), sl15⟩) (c15 : PySem.W.codeIn K cd15 "_law_all" = true) (k15 : PySem.W.keepIn K (.ref f15) = true)
    (a16 : PySem.W.nsIn K mainGlobals "_law_full" = some (some (.ref f16)))
    (l16 : K.lookup f16 = some ⟨oc16, od16, .func (PySem.W.fnOf "_law_full" "_law_full" (defArgs s_l_full) (defBody s_l_full) (defScope s_l_full) .none kV16 dc16 pm16 an16 cd16 ct16), sl16⟩) (c16 : PySem.W.codeIn K cd16 "_law_full" = true) (k16 : PySem.W.keepIn K (.ref f16) = true)
    (a17 : PySem.W.nsIn K mainGlobals "_law_mill" = some (some (.ref f17)))
    (l17 : K.lookup f17 = some ⟨oc17, od17, .func (PySem.W.fnOf "_law_mill" "_law_mill" (defArgs s_l_mill) (defBody s_l_mill) (defScope s_l_mill) .none kV17 dc17 pm17 an17 cd17 ct17), sl17⟩) (c17 : PySem.W.codeIn K cd17 "_law_mill" = true) (k17 : PySem.W.keepIn K (.ref f17) = true)
    (a18 : PySem.W.nsIn K mainGlobals "law" = some (some (.ref f18)))
    (l18 : K.lookup f18 = some ⟨oc18, od18, .func (PySem.W.fnOf "law" "law" (defArgs s_law) (defBody s_law) (defScope s_law) .none kV18 dc18 pm18 an18 cd18 ct18), sl18⟩) (c18 : PySem.W.codeIn K cd18 "law" = true) (k18 : PySem.W.keepIn K (.ref f18) = true)
    (aC0 : PySem.W.nsIn K mainGlobals "Mill" = some (some (.ref C0))) (pg0 : PySem.W.plainGet K C0 Str.empty = true) (hd0 : PySem.W.hasDictIn K C0 = true) (po0 : PySem.W.plainOver K C0 = true) (sa0 : PySem.W.findIn K (.ref C0) "__setattr__" = some (some (.builtin "object.__setattr__"))) (mk0 : PySem.W.makesIn K C0 = true) (kc0 : PySem.W.keepIn K (.ref C0) = true)
    (n0_rolls : PySem.W.findIn K (.ref C0) "rolls" = some none)
    (n0_widths : PySem.W.findIn K (.ref C0) "widths" = some none)
    (n0_knives : PySem.W.findIn K (.ref C0) "knives" = some none)
    (z_all : PySem.W.nsIn K mainGlobals "all" = some none)
    (z_int : PySem.W.nsIn K mainGlobals "int" = some none)
    (z_len : PySem.W.nsIn K mainGlobals "len" = some none)
    (z_list : PySem.W.nsIn K mainGlobals "list" = some none)
    (z_max : PySem.W.nsIn K mainGlobals "max" = some none)
    (z_range : PySem.W.nsIn K mainGlobals "range" = some none)
    (z_set : PySem.W.nsIn K mainGlobals "set" = some none)
    (z_sum : PySem.W.nsIn K mainGlobals "sum" = some none)
    (z_tuple : PySem.W.nsIn K mainGlobals "tuple" = some none)
    {t_MOST_ROLLS : Tok} (c_MOST_ROLLS : PySem.W.nsIn K mainGlobals "MOST_ROLLS" = some (some (.int 3 t_MOST_ROLLS)))
    {t_MOST_WIDTHS : Tok} (c_MOST_WIDTHS : PySem.W.nsIn K mainGlobals "MOST_WIDTHS" = some (some (.int 6 t_MOST_WIDTHS)))
    {t_MOST_WIDTH : Tok} (c_MOST_WIDTH : PySem.W.nsIn K mainGlobals "MOST_WIDTH" = some (some (.int 400 t_MOST_WIDTH)))
    {t_MOST_COST : Tok} (c_MOST_COST : PySem.W.nsIn K mainGlobals "MOST_COST" = some (some (.int 100 t_MOST_COST)))
    {t_MOST_KNIVES : Tok} (c_MOST_KNIVES : PySem.W.nsIn K mainGlobals "MOST_KNIVES" = some (some (.int 12 t_MOST_KNIVES)))
    {t_MOST_COUNT : Tok} (c_MOST_COUNT : PySem.W.nsIn K mainGlobals "MOST_COUNT" = some (some (.int 99 t_MOST_COUNT)))
    (ht : ∀ ns : List Int, ns.length ≤ 63 → rv_law [.scr ns] = some (.bl true)) :
    ∃ fd : FuncData, (∀ (s : Shared) (v : Value), BindsTo s fd ⟨[v], []⟩ [("script", v)]) ∧ ∀ base : Heap, K.In base → base.Ns mainGlobals mg → FnOk l.prog w K mg base CX0 4 fa fd ["script"] (spLaw K) := by
  have e := hfa.symm.trans (PySem.W.mg_of X G a18)
  cases e
  have F1 := fun_mk (st := s_Mill_init) l1 c1 k1
  have b1 := F1.binds (ps := ["self", "rolls", "widths", "knives"]) fun _ _ _ _ _ _ us hl => match us, hl with | [_, _, _, _], _ => rfl
  have F2 := fun_mk (st := s_is_roll) l2 c2 k2
  have b2 := F2.binds (ps := ["width", "cost"]) fun _ _ _ _ _ _ us hl => match us, hl with | [_, _], _ => rfl
  have F3 := fun_mk (st := s_are_rolls) l3 c3 k3
  have b3 := F3.binds (ps := ["rolls"]) fun _ _ _ _ _ _ us hl => match us, hl with | [_], _ => rfl
  have F4 := fun_mk (st := s_are_widths) l4 c4 k4
  have b4 := F4.binds (ps := ["widths", "widest"]) fun _ _ _ _ _ _ us hl => match us, hl with | [_, _], _ => rfl
  have F5 := fun_mk (st := s_widest_roll) l5 c5 k5
  have b5 := F5.binds (ps := ["rolls"]) fun _ _ _ _ _ _ us hl => match us, hl with | [_], _ => rfl
  have F6 := fun_mk (st := s_is_mill) l6 c6 k6
  have b6 := F6.binds (ps := ["mill"]) fun _ _ _ _ _ _ us hl => match us, hl with | [_], _ => rfl
  have F7 := fun_mk (st := s_is_order) l7 c7 k7
  have b7 := F7.binds (ps := ["mill", "order"]) fun _ _ _ _ _ _ us hl => match us, hl with | [_, _], _ => rfl
  have F8 := fun_mk (st := s_l_cell) l8 c8 k8
  have b8 := F8.binds (ps := ["script", "k"]) fun _ _ _ _ _ _ us hl => match us, hl with | [_, _], _ => rfl
  have F9 := fun_mk (st := s_l_digits) l9 c9 k9
  have b9 := F9.binds (ps := ["script", "first", "last"]) fun _ _ _ _ _ _ us hl => match us, hl with | [_, _, _], _ => rfl
  have F10 := fun_mk (st := s_l_draw) l10 c10 k10
  have b10 := F10.binds (ps := ["box", "many"]) fun _ _ _ _ _ _ us hl => match us, hl with | [_, _], _ => rfl
  have F11 := fun_mk (st := s_l_parts) l11 c11 k11
  have b11 := F11.binds (ps := ["box", "wide", "most"]) fun _ _ _ _ _ _ us hl => match us, hl with | [_, _, _], _ => rfl
  have F12 := fun_mk (st := s_l_order) l12 c12 k12
  have b12 := F12.binds (ps := ["box", "parts", "most"]) fun _ _ _ _ _ _ us hl => match us, hl with | [_, _, _], _ => rfl
  have F13 := fun_mk (st := s_l_used) l13 c13 k13
  have b13 := F13.binds (ps := ["parts", "row"]) fun _ _ _ _ _ _ us hl => match us, hl with | [_, _], _ => rfl
  have F14 := fun_mk (st := s_l_rows) l14 c14 k14
  have b14 := F14.binds (ps := ["parts", "kind"]) fun _ _ _ _ _ _ us hl => match us, hl with | [_, _], _ => rfl
  have F15 := fun_mk (st := s_l_all) l15 c15 k15
  have b15 := F15.binds (ps := ["parts"]) fun _ _ _ _ _ _ us hl => match us, hl with | [_], _ => rfl
  have F16 := fun_mk (st := s_l_full) l16 c16 k16
  have b16 := F16.binds (ps := ["parts"]) fun _ _ _ _ _ _ us hl => match us, hl with | [_], _ => rfl
  have F17 := fun_mk (st := s_l_mill) l17 c17 k17
  have b17 := F17.binds (ps := ["parts"]) fun _ _ _ _ _ _ us hl => match us, hl with | [_], _ => rfl
  have F18 := fun_mk (st := s_law) l18 c18 k18
  have b18 := F18.binds (ps := ["script"]) fun _ _ _ _ _ _ us hl => match us, hl with | [_], _ => rfl
  let T : Tx K (fun n => C0) mg := ⟨_, _, F1, b1, _, _, F2, b2, PySem.W.mg_of X G a2, _, _, F3, b3, PySem.W.mg_of X G a3, _, _, F4, b4, PySem.W.mg_of X G a4, _, _, F5, b5, PySem.W.mg_of X G a5, _, _, F6, b6, PySem.W.mg_of X G a6, _, _, F7, b7, PySem.W.mg_of X G a7, _, _, F8, b8, PySem.W.mg_of X G a8, _, _, F9, b9, PySem.W.mg_of X G a9, _, _, F10, b10, PySem.W.mg_of X G a10, _, _, F11, b11, PySem.W.mg_of X G a11, _, _, F12, b12, PySem.W.mg_of X G a12, _, _, F13, b13, PySem.W.mg_of X G a13, _, _, F14, b14, PySem.W.mg_of X G a14, _, _, F15, b15, PySem.W.mg_of X G a15, _, _, F16, b16, PySem.W.mg_of X G a16, _, _, F17, b17, PySem.W.mg_of X G a17, _, _, F18, b18, PySem.W.mg_of X G a18, ⟨⟨pg0, hd0, po0, sa0⟩, fun z hz => (List.mem_cons.mp hz).elim (fun e => by rw [e]; exact n0_rolls) (fun hz => (List.mem_cons.mp hz).elim (fun e => by rw [e]; exact n0_widths) (fun hz => (List.mem_cons.mp hz).elim (fun e => by rw [e]; exact n0_knives) (fun hz => by cases hz)))⟩, ⟨mk0, a1, i1, kc0⟩, PySem.W.mg_of X G aC0, PySem.W.mg_none_of X G z_all, PySem.W.mg_none_of X G z_int, PySem.W.mg_none_of X G z_len, PySem.W.mg_none_of X G z_list, PySem.W.mg_none_of X G z_max, PySem.W.mg_none_of X G z_range, PySem.W.mg_none_of X G z_set, PySem.W.mg_none_of X G z_sum, PySem.W.mg_none_of X G z_tuple, t_MOST_ROLLS, PySem.W.mg_of X G c_MOST_ROLLS, t_MOST_WIDTHS, PySem.W.mg_of X G c_MOST_WIDTHS, t_MOST_WIDTH, PySem.W.mg_of X G c_MOST_WIDTH, t_MOST_COST, PySem.W.mg_of X G c_MOST_COST, t_MOST_KNIVES, PySem.W.mg_of X G c_MOST_KNIVES, t_MOST_COUNT, PySem.W.mg_of X G c_MOST_COUNT⟩
  exact ⟨_, fun s v => .of_eq rfl, fun base _ _ => law_of ht (ok_law T)⟩
end K01
open PySem PySem.W PyProof.Rows
set_option maxRecDepth 100000 in
set_option maxHeartbeats 0 in
theorem PySem.Challenge.cw_millrolls_k01_bounds_of_mills_holds : PySem.Challenge.rw_millrolls_k01_bounds_of_mills.Holds := by
  w_on; o_law; k_head; (case hw => w_witness2)
  k_fill
  refine L2.walk_of (l := PySem.Challenge.rw_millrolls_k01_bounds_of_mills) (n := 63) (k := 4) (x := "script") (CX := fun _ => L2.CX0) (sp := fun w => DL.spLaw _) rfl (by decide) rfl ⟨rfl, by decide, by decide⟩ (fun w h Y => PySem.W.kIn_of Y) ?F (fun _ _ a ns hl _ hS => ⟨a, ns, rfl, hS, hl, fun _ => rfl⟩) (fun _ _ _ _ _ h => h)
  case F =>
    intro w mg fa h KX G hmg
    refine' K01.all_mk KX G hmg ?a1 ?i1 ?l1 ?c1 ?k1 ?a2 ?l2 ?c2 ?k2 ?a3 ?l3 ?c3 ?k3 ?a4 ?l4 ?c4 ?k4 ?a5 ?l5 ?c5 ?k5 ?a6 ?l6 ?c6 ?k6 ?a7 ?l7 ?c7 ?k7 ?a8 ?l8 ?c8 ?k8 ?a9 ?l9 ?c9 ?k9 ?a10 ?l10 ?c10 ?k10 ?a11 ?l11 ?c11 ?k11 ?a12 ?l12 ?c12 ?k12 ?a13 ?l13 ?c13 ?k13 ?a14 ?l14 ?c14 ?k14 ?a15 ?l15 ?c15 ?k15 ?a16 ?l16 ?c16 ?k16 ?a17 ?l17 ?c17 ?k17 ?a18 ?l18 ?c18 ?k18 ?aC0 ?pg0 ?hd0 ?po0 ?sa0 ?mk0 ?kc0 ?n0_rolls ?n0_widths ?n0_knives ?z_all ?z_int ?z_len ?z_list ?z_max ?z_range ?z_set ?z_sum ?z_tuple ?c_MOST_ROLLS ?c_MOST_WIDTHS ?c_MOST_WIDTH ?c_MOST_COST ?c_MOST_KNIVES ?c_MOST_COUNT K01.law_true
    (case aC0 => k_is); (case a1 => k_is); (case i1 => k_is); (case l1 => k_is); (case c1 => k_is); (case k1 => k_is); (case a2 => k_is); (case l2 => k_is); (case c2 => k_is); (case k2 => k_is); (case a3 => k_is); (case l3 => k_is); (case c3 => k_is); (case k3 => k_is); (case a4 => k_is); (case l4 => k_is); (case c4 => k_is); (case k4 => k_is); (case a5 => k_is); (case l5 => k_is); (case c5 => k_is); (case k5 => k_is); (case a6 => k_is); (case l6 => k_is); (case c6 => k_is); (case k6 => k_is); (case a7 => k_is); (case l7 => k_is); (case c7 => k_is); (case k7 => k_is); (case a8 => k_is); (case l8 => k_is); (case c8 => k_is); (case k8 => k_is); (case a9 => k_is); (case l9 => k_is); (case c9 => k_is); (case k9 => k_is); (case a10 => k_is); (case l10 => k_is); (case c10 => k_is); (case k10 => k_is); (case a11 => k_is); (case l11 => k_is); (case c11 => k_is); (case k11 => k_is); (case a12 => k_is); (case l12 => k_is); (case c12 => k_is); (case k12 => k_is); (case a13 => k_is); (case l13 => k_is); (case c13 => k_is); (case k13 => k_is); (case a14 => k_is); (case l14 => k_is); (case c14 => k_is); (case k14 => k_is); (case a15 => k_is); (case l15 => k_is); (case c15 => k_is); (case k15 => k_is); (case a16 => k_is); (case l16 => k_is); (case c16 => k_is); (case k16 => k_is); (case a17 => k_is); (case l17 => k_is); (case c17 => k_is); (case k17 => k_is); (case a18 => k_is); (case l18 => k_is); (case c18 => k_is); (case k18 => k_is); (case pg0 => k_is); (case hd0 => k_is); (case po0 => k_is); (case sa0 => k_is); (case mk0 => k_is); (case kc0 => k_is); (case n0_rolls => k_is); (case n0_widths => k_is); (case n0_knives => k_is); (case z_all => k_is); (case z_int => k_is); (case z_len => k_is); (case z_list => k_is); (case z_max => k_is); (case z_range => k_is); (case z_set => k_is); (case z_sum => k_is); (case z_tuple => k_is); (case c_MOST_ROLLS => k_is); (case c_MOST_WIDTHS => k_is); (case c_MOST_WIDTH => k_is); (case c_MOST_COST => k_is); (case c_MOST_KNIVES => k_is); (case c_MOST_COUNT => k_is)
