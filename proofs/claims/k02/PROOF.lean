import PyProof.Rows.All
import Wide.All
import OpenK.AllK
import Wide.FinOn
import HandS.Base
import HandS.Call
import HandS.List
import HandS.Comp
import HandS.Ends
import HandS.Evl
import HandS.Iter
import HandS.Text
import HandS.AnyAll
import HandS.Words
import HandS.WordsList
import HandS.Walk
import HandS.IsInst
import HandS.Rev
import HandS.GenList
import HandS.EndTab
import HandS.HeadWalk
import KE.KNest
import HandS.RevTup
import HandS.DictComp
import HandS.More
import PySem.Challenge.RW_everywish_k02_what_is_ended
set_option Elab.async false
set_option linter.all false
set_option maxRecDepth 100000
set_option maxHeartbeats 2000000
/-! Data in place of heaps: what a def does, told of plain data. -/
namespace DL
open PySem PySem.Spec L2
open Evl (Ex)
abbrev D := PyData

/-! ### data stands in a heap -/
theorem ex_rd {H H' : Hp} {a : Addr} {u : HO} (e : Ex H H') (h : Rd H a u) : Rd H' a u := Evl.ex_rd e h
mutual
theorem dp_mono {K : PySem.W.Frag} {H H' : Hp} (e : Ex H H') : ∀ (d : D) (v : V), Dp K H v d → Dp K H' v d
  | .none, _, h => by cases h; exact .non
  | .bool b, _, h => by cases h; exact .bl b
  | .int i, _, h => by cases h; exact .int i
  | .str x, _, h => by cases h; exact .str x
  | .list ds, _, h => by
    cases h with
    | lst hs ha => exact .lst (Evl.ex_l e hs) (dps_mono e ds _ ha)
  | .tuple ds, _, h => by
    cases h with
    | tup hs ha => exact .tup (Evl.ex_t e hs) (dps_mono e ds _ ha)
  | .dict _, _, h => by cases h
theorem dps_mono {K : PySem.W.Frag} {H H' : Hp} (e : Ex H H') : ∀ (ds : List D) (vs : List V), DpAll K H vs ds → DpAll K H' vs ds
  | [], _, h => by cases h; exact .nil
  | d :: ds, _, h => by
    cases h with
    | cons h1 h2 => exact .cons (dp_mono e d _ h1) (dps_mono e ds _ h2)
end
section
variable {K : PySem.W.Frag} {H H' F F' : Hp} {v x y : V} {vs ws : List V} {d : D} {ds es : List D}
theorem dps_len : ∀ {vs : List V} {ds : List D}, DpAll K H vs ds → vs.length = ds.length
  | _, _, .nil => rfl
  | _, _, .cons _ t => by rw [List.length_cons, List.length_cons, dps_len t]
theorem dps_get : ∀ {vs : List V} {ds : List D} {i : Nat} {d : D}, DpAll K H vs ds → ds[i]? = some d → ∃ v, vs[i]? = some v ∧ Dp K H v d
  | _, _, _, _, .nil, e => by simp at e
  | _, _, 0, _, .cons h _, e => by simp at e; subst e; exact ⟨_, rfl, h⟩
  | _, _, i + 1, _, .cons _ t, e => by
    obtain ⟨v, h1, h2⟩ := dps_get (i := i) t (by simpa using e)
    exact ⟨v, by simpa using h1, h2⟩
theorem dps_getV : ∀ {vs : List V} {ds : List D} {i : Nat} {v : V}, DpAll K H vs ds → vs[i]? = some v → ∃ d, ds[i]? = some d ∧ Dp K H v d
  | _, _, _, _, .nil, e => by simp at e
  | _, _, 0, _, .cons h _, e => by simp at e; subst e; exact ⟨_, rfl, h⟩
  | _, _, i + 1, _, .cons _ t, e => by
    obtain ⟨d, h1, h2⟩ := dps_getV (i := i) t (by simpa using e)
    exact ⟨d, by simpa using h1, h2⟩
theorem dps_app : ∀ {vs ws : List V} {ds es : List D}, DpAll K H vs ds → DpAll K H ws es → DpAll K H (vs ++ ws) (ds ++ es)
  | _, _, _, _, .nil, s => s
  | _, _, _, _, .cons r t, s => .cons r (dps_app t s)
theorem dps_take : ∀ {vs : List V} {ds : List D} (n : Nat), DpAll K H vs ds → DpAll K H (vs.take n) (ds.take n)
  | _, _, 0, _ => .nil
  | _, _, _ + 1, .nil => .nil
  | _, _, n + 1, .cons r t => .cons r (dps_take n t)
theorem dps_drop : ∀ {vs : List V} {ds : List D} (n : Nat), DpAll K H vs ds → DpAll K H (vs.drop n) (ds.drop n)
  | _, _, 0, r => r
  | _, _, _ + 1, .nil => .nil
  | _, _, n + 1, .cons _ t => dps_drop n t
theorem dps_ints : ∀ {vs : List V} {ns : List Int}, DpAll K H vs (ns.map PyData.int) → vs = ns.map V.int
  | _, [], h => by cases h; rfl
  | _, n :: ns, h => by
    cases h with
    | cons h1 h2 => cases h1; rw [dps_ints h2]; rfl
theorem ints_dps : ∀ (ns : List Int), DpAll K H (ns.map V.int) (ns.map PyData.int)
  | [] => .nil
  | n :: ns => .cons (.int n) (ints_dps ns)
theorem dps_bools : ∀ {vs : List V} {ns : List Bool}, DpAll K H vs (ns.map PyData.bool) → vs = ns.map V.bl
  | _, [], h => by cases h; rfl
  | _, n :: ns, h => by
    cases h with
    | cons h1 h2 => cases h1; rw [dps_bools h2]; rfl
end

/-! ### the frozen part F of a heap H; T: the tables of code objects, which grow -/
structure Wk (T : List Addr) (F H : Hp) : Prop where
  sub : Ex F H
  tab : ∀ P ∈ T, GxR.TabG H P ∧ F P = none
structure Nx (T : List Addr) (F H F' H' : Hp) : Prop where
  exF : Ex F F'
  exH : ∀ a o, H a = some o → a ∉ T → H' a = some o
  own : ∀ a o, H a = some o → F a = none → F' a = none
section
variable {T : List Addr} {F H F' H' F2 H2 : Hp} {p : Addr} {o : HO}
theorem Nx.refl (T : List Addr) (F H : Hp) : Nx T F H F H := ⟨Ex.refl F, fun _ _ h _ => h, fun _ _ _ n => n⟩
theorem Wk.has (w : Wk T F H) {P : Addr} (h : P ∈ T) : ∃ ps, H P = some (.tbl ps) := let ⟨ps, e, _⟩ := (w.tab P h).1; ⟨ps, e⟩
theorem Nx.trans (w : Wk T F' H') (a : Nx T F H F' H') (b : Nx T F' H' F2 H2) : Nx T F H F2 H2 :=
  ⟨a.exF.trans b.exF, fun c u e n => b.exH c u (a.exH c u e n) n, fun c u e n => by
    have n1 := a.own c u e n
    by_cases hc : c ∈ T
    · obtain ⟨ps, e1⟩ := w.has hc
      exact b.own c _ e1 n1
    · exact b.own c u (a.exH c u e hc) n1⟩
theorem Wk.notT (w : Wk T F H) (hp : H p = none) : p ∉ T := fun h => by
  obtain ⟨ps, e⟩ := w.has h
  rw [hp] at e
  cases e
theorem Wk.noF (w : Wk T F H) (hp : H p = none) : F p = none := Evl.fresh_back w.sub hp
theorem Wk.new (w : Wk T F H) (hp : H p = none) : Wk T (upd F p o) (upd H p o) where
  sub := fun a u e => by
    by_cases ha : a = p
    · subst ha
      rw [upd_same] at e ⊢
      exact e
    · rw [upd_ne ha] at e ⊢
      exact w.sub a u e
  tab := fun P h => by
    have hP : P ≠ p := fun z => w.notT hp (z ▸ h)
    obtain ⟨⟨ps, e, t⟩, n⟩ := w.tab P h
    exact ⟨⟨ps, (upd_ne hP).trans e, t⟩, (upd_ne hP).trans n⟩
theorem Nx.new (w : Wk T F H) (hp : H p = none) : Nx T F H (upd F p o) (upd H p o) where
  exF := Ex.new (w.noF hp)
  exH := fun a u e _ => Ex.new hp a u e
  own := fun a u e n => by rw [upd_ne (ne_of_none e hp)]; exact n
/-- a new object that stays ours -/
theorem Wk.mine (w : Wk T F H) (hp : H p = none) : Wk T F (upd H p o) where
  sub := fun a u e => by rw [upd_ne (ne_of_none (w.sub a u e) hp)]; exact w.sub a u e
  tab := fun P h => by
    have hP : P ≠ p := fun z => w.notT hp (z ▸ h)
    obtain ⟨⟨ps, e, t⟩, n⟩ := w.tab P h
    exact ⟨⟨ps, (upd_ne hP).trans e, t⟩, n⟩
theorem Wk.write (w : Wk T F H) (hF : F p = none) (hT : p ∉ T) : Wk T F (upd H p o) where
  sub := fun a u e => by rw [upd_ne (ne_of_none e hF)]; exact w.sub a u e
  tab := fun P h => by
    have hP : P ≠ p := fun z => hT (z ▸ h)
    obtain ⟨⟨ps, e, t⟩, n⟩ := w.tab P h
    exact ⟨⟨ps, (upd_ne hP).trans e, t⟩, n⟩
theorem Wk.freeze (w : Wk T F H) (hT : p ∉ T) (e : H p = some o) : Wk T (upd F p o) H where
  sub := fun a u h => by
    by_cases ha : a = p
    · subst ha
      rw [upd_same] at h
      exact e.trans h
    · rw [upd_ne ha] at h
      exact w.sub a u h
  tab := fun P h => by
    have hP : P ≠ p := fun z => hT (z ▸ h)
    obtain ⟨t, n⟩ := w.tab P h
    exact ⟨t, (upd_ne hP).trans n⟩
end

/-! ### slots -/
inductive Sl where
  | no
  | dat (d : D)
  /-- a list of the def's own that it goes on filling -/
  | own (xs : List D)
  /-- the same, its address told: a list that callers and callees fill too -/
  | held (a : Addr) (xs : List D)
  /-- a list that the def has made and no one changes any more -/
  | lst (xs : List D)
  /-- an object that no one changes any more -/
  | obj (o : HO)
  /-- just this value -/
  | val (v : V)
def Sl.owned : Sl → Bool
  | .own _ => true
  | .held _ _ => true
  | _ => false
def MutOk (K : PySem.W.Frag) (T : List Addr) (H0 F H : Hp) (x : Option (Option V)) (a : Addr) (xs : List D) : Prop := ∃ vs, x = some (some (.ref a)) ∧ F a = none ∧ H0 a = none ∧ a ∉ T ∧ H a = some (.lst vs) ∧ DpAll K F vs xs
def SlOk (K : PySem.W.Frag) (T : List Addr) (H0 F H : Hp) (x : Option (Option V)) : Sl → Prop
  | .no => True
  | .dat d => ∃ v, x = some (some v) ∧ Dp K F v d
  | .own xs => ∃ a, MutOk K T H0 F H x a xs
  | .held a xs => MutOk K T H0 F H x a xs
  | .lst xs => ∃ a vs, x = some (some (.ref a)) ∧ F a = some (.lst vs) ∧ DpAll K F vs xs
  | .obj o => ∃ a, x = some (some (.ref a)) ∧ F a = some o
  | .val v => x = some (some v)
def IsOwn (env : List Sl) (i : Nat) : Prop := ∃ s, env[i]? = some s ∧ s.owned = true
structure Ok (K : PySem.W.Frag) (T : List Addr) (F0 H0 F H : Hp) (σ : L2.St) (env : List Sl) : Prop where
  wk : Wk T F H
  nx : Nx T F0 H0 F H
  len : σ.length = env.length
  sl : ∀ (i : Nat) (s : Sl), env[i]? = some s → SlOk K T H0 F H σ[i]? s
  apart : ∀ (i j : Nat) (a : Addr), i ≠ j → IsOwn env i → IsOwn env j → σ[i]? = some (some (.ref a)) → σ[j]? = some (some (.ref a)) → False
section
variable {K : PySem.W.Frag} {T : List Addr} {F0 H0 F H F' H' : Hp} {σ : L2.St} {env : List Sl} {i : Nat} {d : D} {v : V}
theorem MutOk.step {x : Option (Option V)} {a : Addr} {xs : List D} (w : Wk T F H) (n : Nx T F H F' H') (h : MutOk K T H0 F H x a xs) : MutOk K T H0 F' H' x a xs := by
  obtain ⟨vs, e, f, h0, t, ha, hd⟩ := h
  exact ⟨vs, e, n.own a _ ha f, h0, t, n.exH a _ ha t, dps_mono n.exF _ _ hd⟩
theorem SlOk.mutOk {x : Option (Option V)} {s : Sl} (h : SlOk K T H0 F H x s) (ho : s.owned = true) : ∃ a xs, MutOk K T H0 F H x a xs := by
  cases s with
  | own xs => exact let ⟨a, q⟩ := h; ⟨a, xs, q⟩
  | held a xs => exact ⟨a, xs, h⟩
  | _ => cases ho
theorem SlOk.step {x : Option (Option V)} {s : Sl} (w : Wk T F H) (n : Nx T F H F' H') (h : SlOk K T H0 F H x s) : SlOk K T H0 F' H' x s := by
  cases s with
  | no => trivial
  | dat d =>
    obtain ⟨v, e, h⟩ := h
    exact ⟨v, e, dp_mono n.exF _ _ h⟩
  | own xs =>
    obtain ⟨a, h⟩ := h
    exact ⟨a, h.step w n⟩
  | held a xs => exact MutOk.step w n h
  | lst xs =>
    obtain ⟨a, vs, e, ha, hd⟩ := h
    exact ⟨a, vs, e, n.exF a _ ha, dps_mono n.exF _ _ hd⟩
  | obj u =>
    obtain ⟨a, e, ha⟩ := h
    exact ⟨a, e, n.exF a _ ha⟩
  | val v => exact h
theorem Ok.step (o : Ok K T F0 H0 F H σ env) (w : Wk T F' H') (n : Nx T F H F' H') : Ok K T F0 H0 F' H' σ env :=
  ⟨w, o.nx.trans o.wk n, o.len, fun i s e => (o.sl i s e).step o.wk n, o.apart⟩
theorem get_set {α : Type} {l : List α} {i j : Nat} {x y : α} (h : (l.set i x)[j]? = some y) : (i = j ∧ i < l.length ∧ x = y) ∨ (i ≠ j ∧ l[j]? = some y) := by
  by_cases e : i = j
  · subst e
    by_cases hl : i < l.length
    · rw [List.getElem?_set_self hl] at h
      exact .inl ⟨rfl, hl, Option.some.inj h⟩
    · rw [List.getElem?_eq_none (by simpa using hl)] at h
      cases h
  · rw [List.getElem?_set_ne e] at h
    exact .inr ⟨e, h⟩
/-- a slot is set to what is not ours to fill -/
theorem Ok.put' {x : Sl} {y : Option V} (o : Ok K T F0 H0 F H σ env) (hx : x.owned = false) (h : SlOk K T H0 F H (some y) x) : Ok K T F0 H0 F H (σ.set i y) (env.set i x) := by
  refine ⟨o.wk, o.nx, by simp [o.len], fun j s e => ?_, fun j k a hjk hj hk e1 e2 => ?_⟩
  · rcases get_set e with ⟨rfl, hl, rfl⟩ | ⟨hne, e⟩
    · rw [List.getElem?_set_self (by rw [o.len]; exact hl)]
      exact h
    · rw [List.getElem?_set_ne hne]
      exact o.sl j s e
  · obtain ⟨s1, hj, q1⟩ := hj
    obtain ⟨s2, hk, q2⟩ := hk
    rcases get_set hj with ⟨_, _, z⟩ | ⟨n1, hj⟩
    · rw [← z, hx] at q1; cases q1
    rcases get_set hk with ⟨_, _, z⟩ | ⟨n2, hk⟩
    · rw [← z, hx] at q2; cases q2
    rw [List.getElem?_set_ne n1] at e1
    rw [List.getElem?_set_ne n2] at e2
    exact o.apart j k a hjk ⟨s1, hj, q1⟩ ⟨s2, hk, q2⟩ e1 e2
theorem Ok.put {x : Sl} (o : Ok K T F0 H0 F H σ env) (hx : x.owned = false) (h : SlOk K T H0 F H (some (some v)) x) : Ok K T F0 H0 F H (σ.set i (some v)) (env.set i x) := o.put' hx h
/-- a slot is set to data -/
theorem Ok.set (o : Ok K T F0 H0 F H σ env) (h : Dp K F v d) : Ok K T F0 H0 F H (σ.set i (some v)) (env.set i (.dat d)) := o.put rfl ⟨v, rfl, h⟩
/-- a slot is forgotten -/
theorem Ok.wipe (o : Ok K T F0 H0 F H σ env) (y : Option V) : Ok K T F0 H0 F H (σ.set i y) (env.set i .no) := o.put' rfl trivial
/-- a new list that stays ours comes into a slot -/
theorem Ok.mine {p : Addr} (o : Ok K T F0 H0 F H σ env) (hp : H p = none) : Ok K T F0 H0 F (upd H p (.lst [])) (σ.set i (some (.ref p))) (env.set i (.own [])) := by
  have h0 : H0 p = none := by
    cases q : H0 p with
    | none => rfl
    | some u =>
      rw [o.nx.exH p u q (o.wk.notT hp)] at hp
      cases hp
  have alt : ∀ (j : Nat), IsOwn env j → σ[j]? ≠ some (some (V.ref p)) := fun j ⟨s, e, q⟩ z => by
    obtain ⟨a, xs, vs, e1, _, _, _, ha, _⟩ := (o.sl j _ e).mutOk q
    rw [z] at e1
    cases e1
    rw [hp] at ha
    cases ha
  have keep : ∀ {x : Option (Option V)} {a : Addr} {xs : List D}, MutOk K T H0 F H x a xs → MutOk K T H0 F (upd H p (.lst [])) x a xs := fun ⟨vs, e1, f, h1, t, ha, hd⟩ => ⟨vs, e1, f, h1, t, by rw [upd_ne (ne_of_none ha hp)]; exact ha, hd⟩
  refine ⟨o.wk.mine hp, ⟨o.nx.exF, fun a u e n => ?_, o.nx.own⟩, by simp [o.len], fun j s e => ?_, fun j k a hjk hj hk e1 e2 => ?_⟩
  · have q := o.nx.exH a u e n
    rw [upd_ne (ne_of_none q hp)]
    exact q
  · rcases get_set e with ⟨rfl, hl, rfl⟩ | ⟨hne, e⟩
    · exact ⟨p, [], by rw [List.getElem?_set_self (by rw [o.len]; exact hl)], o.wk.noF hp, h0, o.wk.notT hp, upd_same, .nil⟩
    · rw [List.getElem?_set_ne hne]
      have q := o.sl j s e
      cases s with
      | no => trivial
      | dat d => exact q
      | lst ys => exact q
      | obj u => exact q
      | val v => exact q
      | own xs => exact let ⟨a, q⟩ := q; ⟨a, keep q⟩
      | held a xs => exact keep q
  · obtain ⟨s1, hj, q1⟩ := hj
    obtain ⟨s2, hk, q2⟩ := hk
    rcases get_set hj with ⟨rfl, hl, _⟩ | ⟨n1, hj⟩
    · rcases get_set hk with ⟨rfl, _, _⟩ | ⟨n2, hk⟩
      · exact hjk rfl
      · rw [List.getElem?_set_self (by rw [o.len]; exact hl)] at e1
        cases e1
        rw [List.getElem?_set_ne n2] at e2
        exact alt k ⟨s2, hk, q2⟩ e2
    · rw [List.getElem?_set_ne n1] at e1
      rcases get_set hk with ⟨rfl, hl, _⟩ | ⟨n2, hk⟩
      · rw [List.getElem?_set_self (by rw [o.len]; exact hl)] at e2
        cases e2
        exact alt j ⟨s1, hj, q1⟩ e1
      · rw [List.getElem?_set_ne n2] at e2
        exact o.apart j k a hjk ⟨s1, hj, q1⟩ ⟨s2, hk, q2⟩ e1 e2
/-- the lists of ours in other slots stand elsewhere -/
theorem Ok.other {j : Nat} {a b : Addr} {s s' : Sl} {xs : List D} (o : Ok K T F0 H0 F H σ env) (hij : i ≠ j) (hi : env[i]? = some s) (hs : s.owned = true) (hj : env[j]? = some s') (hs' : s'.owned = true) (ha : σ[i]? = some (some (.ref a))) (h : MutOk K T H0 F H σ[j]? b xs) : b ≠ a := fun z => by
  obtain ⟨vs, e, _⟩ := h
  exact o.apart i j a hij ⟨s, hi, hs⟩ ⟨s', hj, hs'⟩ ha (by rw [e, z])
/-- our list in a slot is changed; s' tells it anew -/
theorem Ok.write' {a : Addr} {s s' : Sl} {ws : List V} (o : Ok K T F0 H0 F H σ env) (hi : env[i]? = some s) (hso : s.owned = true) (hs : σ[i]? = some (some (.ref a))) (ho' : s'.owned = true) (h : SlOk K T H0 F (upd H a (.lst ws)) (some (some (.ref a))) s') : Ok K T F0 H0 F (upd H a (.lst ws)) σ (env.set i s') := by
  obtain ⟨b, xs, vs, e1, f, h0, t, ha, hd⟩ := (o.sl i _ hi).mutOk hso
  rw [hs] at e1
  cases e1
  have keep : ∀ {j : Nat} {s2 : Sl} {c : Addr} {ys : List D}, i ≠ j → env[j]? = some s2 → s2.owned = true → MutOk K T H0 F H σ[j]? c ys → MutOk K T H0 F (upd H a (.lst ws)) σ[j]? c ys := fun hne e q m => by
    have ne := o.other hne hi hso e q hs m
    obtain ⟨us, e1, f1, h1, t1, hc, hd1⟩ := m
    exact ⟨us, e1, f1, h1, t1, by rw [upd_ne ne]; exact hc, hd1⟩
  refine ⟨o.wk.write f t, ⟨o.nx.exF, fun c u e n => ?_, o.nx.own⟩, by simp [o.len], fun j s2 e => ?_, fun j k c hjk hj hk e1 e2 => ?_⟩
  · rw [upd_ne (ne_of_none e h0)]
    exact o.nx.exH c u e n
  · rcases get_set e with ⟨rfl, hl, rfl⟩ | ⟨hne, e⟩
    · rw [hs]
      exact h
    · have q := o.sl j s2 e
      cases s2 with
      | no => trivial
      | dat d => exact q
      | lst ys => exact q
      | obj u => exact q
      | val v => exact q
      | own zs => exact let ⟨c, q⟩ := q; ⟨c, keep hne e rfl q⟩
      | held c zs => exact keep hne e rfl q
  · have own : ∀ j, IsOwn (env.set i s') j → IsOwn env j := fun j ⟨s3, hz, q3⟩ => by
      rcases get_set hz with ⟨rfl, _, _⟩ | ⟨_, hz⟩
      · exact ⟨s, hi, hso⟩
      · exact ⟨s3, hz, q3⟩
    exact o.apart j k c hjk (own j hj) (own k hk) e1 e2
theorem Ok.write {a : Addr} {xs ys : List D} {ws : List V} (o : Ok K T F0 H0 F H σ env) (hi : env[i]? = some (.own xs)) (hs : σ[i]? = some (some (.ref a))) (h : DpAll K F ws ys) : Ok K T F0 H0 F (upd H a (.lst ws)) σ (env.set i (.own ys)) := by
  obtain ⟨b, vs, e1, f, h0, t, ha, hd⟩ := o.sl i _ hi
  rw [hs] at e1
  cases e1
  exact o.write' hi rfl hs rfl ⟨a, ws, rfl, f, h0, t, upd_same, h⟩
/-- a slot's list is told otherwise -/
theorem Ok.retell {s s' : Sl} (o : Ok K T F0 H0 F H σ env) (hi : env[i]? = some s) (hs : s.owned = true) (h : SlOk K T H0 F H σ[i]? s') : Ok K T F0 H0 F H σ (env.set i s') := by
  refine ⟨o.wk, o.nx, by simp [o.len], fun j s2 e => ?_, fun j k c hjk hj hk e1 e2 => ?_⟩
  · rcases get_set e with ⟨rfl, hl, rfl⟩ | ⟨hne, e⟩
    · exact h
    · exact o.sl j s2 e
  · have own : ∀ j, IsOwn (env.set i s') j → IsOwn env j := fun j ⟨s3, hz, q3⟩ => by
      rcases get_set hz with ⟨rfl, _, _⟩ | ⟨_, hz⟩
      · exact ⟨s, hi, hs⟩
      · exact ⟨s3, hz, q3⟩
    exact o.apart j k c hjk (own j hj) (own k hk) e1 e2
/-- our list becomes plain data -/
theorem Ok.freeze {xs : List D} (o : Ok K T F0 H0 F H σ env) (hi : env[i]? = some (.own xs)) : ∃ F', Ex F F' ∧ Ok K T F0 H0 F' H σ (env.set i (.dat (.list xs))) := by
  obtain ⟨a, vs, e1, f, h0, t, ha, hd⟩ := o.sl i _ hi
  have ex : Ex F (upd F a (.lst vs)) := Ex.new f
  have keep : ∀ {j : Nat} {s2 : Sl} {c : Addr} {ys : List D}, i ≠ j → env[j]? = some s2 → s2.owned = true → MutOk K T H0 F H σ[j]? c ys → MutOk K T H0 (upd F a (.lst vs)) H σ[j]? c ys := fun hne e q m => by
    have ne := o.other hne hi rfl e q e1 m
    obtain ⟨us, e2, f1, h1, t1, hc, hd1⟩ := m
    exact ⟨us, e2, (upd_ne ne).trans f1, h1, t1, hc, dps_mono ex _ _ hd1⟩
  refine ⟨upd F a (.lst vs), ex, o.wk.freeze t ha, ⟨o.nx.exF.trans ex, o.nx.exH, fun c u e n => ?_⟩, by simp [o.len], fun j s e => ?_, fun j k c hjk hj hk e1 e2 => ?_⟩
  · rw [upd_ne (ne_of_none e h0)]
    exact o.nx.own c u e n
  · rcases get_set e with ⟨rfl, hl, rfl⟩ | ⟨hne, e⟩
    · exact ⟨.ref a, e1, .lst (.inl (.inl upd_same)) (dps_mono ex _ _ hd)⟩
    · have q := o.sl j s e
      cases s with
      | no => trivial
      | dat d =>
        obtain ⟨v, e2, h⟩ := q
        exact ⟨v, e2, dp_mono ex _ _ h⟩
      | lst ys =>
        obtain ⟨c, us, e2, h2, h3⟩ := q
        exact ⟨c, us, e2, ex c _ h2, dps_mono ex _ _ h3⟩
      | obj u =>
        obtain ⟨c, e2, h2⟩ := q
        exact ⟨c, e2, ex c _ h2⟩
      | val v => exact q
      | own zs => exact let ⟨c, q⟩ := q; ⟨c, keep hne e rfl q⟩
      | held c zs => exact keep hne e rfl q
  · have own : ∀ j, IsOwn (env.set i (.dat (.list xs))) j → IsOwn env j := fun j ⟨s3, hz, q3⟩ => by
      rcases get_set hz with ⟨_, _, z⟩ | ⟨_, hz⟩
      · rw [← z] at q3; cases q3
      · exact ⟨s3, hz, q3⟩
    exact o.apart j k c hjk (own j hj) (own k hk) e1 e2
end

/-! ### what an expression gives -/
section
variable (K : PySem.W.Frag) (T : List Addr)
def EvD (te : TE) (env : List Sl) (d : D) : Prop := ∀ F0 H0 F H σ, Ok K T F0 H0 F H σ env → ∀ Q : VK, (∀ v F' H', Wk T F' H' → Nx T F H F' H' → Dp K F' v d → Q v H') → te σ H Q
def EvT (tt : TT) (env : List Sl) (b : Bool) : Prop := ∀ F0 H0 F H σ, Ok K T F0 H0 F H σ env → ∀ Q : Bool → Hp → Prop, (∀ F' H', Wk T F' H' → Nx T F H F' H' → Q b H') → tt σ H Q
def EvA (ta : TA) (env : List Sl) (ds : List D) : Prop := ∀ F0 H0 F H σ, Ok K T F0 H0 F H σ env → ∀ Q : List V → Hp → Prop, (∀ vs F' H', Wk T F' H' → Nx T F H F' H' → DpAll K F' vs ds → Q vs H') → ta σ H Q
def EvO (to : TO) (env : List Sl) (o : Option Int) : Prop := ∀ F0 H0 F H σ, Ok K T F0 H0 F H σ env → ∀ Q : Option Int → Hp → Prop, (∀ F' H', Wk T F' H' → Nx T F H F' H' → Q o H') → to σ H Q
def ROp (r : R2) (x y z : D) : Prop := ∀ F H a b, Wk T F H → Dp K F a x → Dp K F b y → ∀ Q : VK, (∀ v F' H', Wk T F' H' → Nx T F H F' H' → Dp K F' v z → Q v H') → r a b H Q
def RUn (r : V → Hp → VK → Prop) (x z : D) : Prop := ∀ F H a, Wk T F H → Dp K F a x → ∀ Q : VK, (∀ v F' H', Wk T F' H' → Nx T F H F' H' → Dp K F' v z → Q v H') → r a H Q
def RCa (r : List V → Hp → VK → Prop) (xs : List D) (z : D) : Prop := ∀ F H vs, Wk T F H → DpAll K F vs xs → ∀ Q : VK, (∀ v F' H', Wk T F' H' → Nx T F H F' H' → Dp K F' v z → Q v H') → r vs H Q
/-- a def's promise -/
def PrD (G : List D → D → Prop) : Sp := fun vs H Q _ => ∃ F ds d, Wk T F H ∧ DpAll K F vs ds ∧ G ds d ∧ ∀ v F' H', Wk T F' H' → Nx T F H F' H' → Dp K F' v d → Q v H'
end
section
variable {K : PySem.W.Frag} {T : List Addr} {env : List Sl} {ta tb tc te : TE} {t u : TT} {x y z d : D} {r r' : R2} {i : Nat}
theorem d_var (h : env[i]? = some (.dat d)) : EvD K T (tVar i) env d := fun F0 H0 F H σ o Q q => by
  obtain ⟨v, e, hd⟩ := o.sl i _ h
  exact ⟨v, e, q v F H o.wk (Nx.refl T F H) hd⟩
theorem d_int {n : Int} : EvD K T (tC (.int n)) env (.int n) := fun F0 H0 F H σ o Q q => q _ F H o.wk (Nx.refl T F H) (.int n)
theorem d_bl {b : Bool} : EvD K T (tC (.bl b)) env (.bool b) := fun F0 H0 F H σ o Q q => q _ F H o.wk (Nx.refl T F H) (.bl b)
theorem d_non : EvD K T (tC .non) env .none := fun F0 H0 F H σ o Q q => q _ F H o.wk (Nx.refl T F H) .non
theorem d_str {s : Str} : EvD K T (tC (.str s)) env (.str s) := fun F0 H0 F H σ o Q q => q _ F H o.wk (Nx.refl T F H) (.str s)
theorem d_op (ha : EvD K T ta env x) (hb : EvD K T tb env y) (hr : ROp K T r x y z) : EvD K T (tOp r ta tb) env z := fun F0 H0 F H σ o Q q =>
  ha F0 H0 F H σ o _ fun v F1 H1 w1 n1 d1 => hb F0 H0 F1 H1 σ (o.step w1 n1) _ fun v2 F2 H2 w2 n2 d2 =>
    hr F2 H2 v v2 w2 (dp_mono n2.exF _ _ d1) d2 Q fun v3 F3 H3 w3 n3 d3 => q v3 F3 H3 w3 (n1.trans w1 (n2.trans w2 n3)) d3
theorem d_un {r : V → Hp → VK → Prop} (ha : EvD K T ta env x) (hr : RUn K T r x z) : EvD K T (tUn r ta) env z := fun F0 H0 F H σ o Q q =>
  ha F0 H0 F H σ o _ fun v F1 H1 w1 n1 d1 => hr F1 H1 v w1 d1 Q fun v3 F3 H3 w3 n3 d3 => q v3 F3 H3 w3 (n1.trans w1 n3) d3
theorem d_cb {r : List V → Hp → VK → Prop} {ta : TA} {xs : List D} (ha : EvA K T ta env xs) (hr : RCa K T r xs z) : EvD K T (tCB r ta) env z := fun F0 H0 F H σ o Q q =>
  ha F0 H0 F H σ o _ fun v F1 H1 w1 n1 d1 => hr F1 H1 v w1 d1 Q fun v3 F3 H3 w3 n3 d3 => q v3 F3 H3 w3 (n1.trans w1 n3) d3
theorem d_call {G : List D → D → Prop} {E : XK} {ta : TA} {xs : List D} (ha : EvA K T ta env xs) (hG : G xs z) : EvD K T (tCall (PrD K T G) [] E ta) env z := fun F0 H0 F H σ o Q q =>
  ha F0 H0 F H σ o _ fun v F1 H1 w1 n1 d1 => by
    show PrD K T G (v ++ []) H1 Q E
    rw [List.append_nil]
    exact ⟨F1, xs, z, w1, d1, hG, fun v3 F3 H3 w3 n3 d3 => q v3 F3 H3 w3 (n1.trans w1 n3) d3⟩
theorem a_nil : EvA K T tNil env [] := fun F0 H0 F H σ o Q q => q _ F H o.wk (Nx.refl T F H) .nil
theorem a_cons {tr : TA} {xs : List D} (h : EvD K T te env x) (hr : EvA K T tr env xs) : EvA K T (tCons te tr) env (x :: xs) := fun F0 H0 F H σ o Q q =>
  h F0 H0 F H σ o _ fun v F1 H1 w1 n1 d1 => hr F0 H0 F1 H1 σ (o.step w1 n1) _ fun vs F2 H2 w2 n2 d2 => q _ F2 H2 w2 (n1.trans w1 n2) (.cons (dp_mono n2.exF _ _ d1) d2)
theorem o_none : EvO K T tNoPart env none := fun F0 H0 F H σ o Q q => q F H o.wk (Nx.refl T F H)
theorem o_some {n : Int} (h : EvD K T te env (.int n)) : EvO K T (tPart te) env (some n) := fun F0 H0 F H σ o Q q =>
  h F0 H0 F H σ o _ fun v F1 H1 w1 n1 d1 => by cases d1; exact ⟨n, rfl, q F1 H1 w1 n1⟩
theorem d_is {z' : D} (h : EvD K T te env z) (e : z = z') : EvD K T te env z' := e ▸ h
theorem t_is {b b' : Bool} (h : EvT K T t env b) (e : b = b') : EvT K T t env b' := e ▸ h
/-! tests -/
theorem t_test {b : Bool} (h : EvD K T te env (.bool b)) : EvT K T (tTest te) env b := fun F0 H0 F H σ o Q q =>
  h F0 H0 F H σ o _ fun v F1 H1 w1 n1 d1 => by cases d1; exact ⟨b, rfl, q F1 H1 w1 n1⟩
theorem t_B {b : Bool} (h : EvD K T te env (.bool b)) : EvT K T (tB te) env b := fun F0 H0 F H σ o Q q =>
  h F0 H0 F H σ o _ fun v F1 H1 w1 n1 d1 => by cases d1; exact ⟨b, rfl, q F1 H1 w1 n1⟩
theorem t_not {b : Bool} (h : EvT K T t env b) : EvT K T (tNot t) env (!b) := fun F0 H0 F H σ o Q q => h F0 H0 F H σ o _ fun F1 H1 w1 n1 => q F1 H1 w1 n1
theorem t_and {a b : Bool} (h1 : EvT K T t env a) (h2 : a = true → EvT K T u env b) : EvT K T (tAnd t u) env (a && b) := fun F0 H0 F H σ o Q q =>
  h1 F0 H0 F H σ o _ fun F1 H1 w1 n1 => by
    cases a with
    | true => exact iteT (h2 rfl F0 H0 F1 H1 σ (o.step w1 n1) Q fun F2 H2 w2 n2 => q F2 H2 w2 (n1.trans w1 n2))
    | false => exact iteF (q F1 H1 w1 n1)
theorem t_or {a b : Bool} (h1 : EvT K T t env a) (h2 : a = false → EvT K T u env b) : EvT K T (tOr t u) env (a || b) := fun F0 H0 F H σ o Q q =>
  h1 F0 H0 F H σ o _ fun F1 H1 w1 n1 => by
    cases a with
    | true => exact iteT (q F1 H1 w1 n1)
    | false => exact iteF (h2 rfl F0 H0 F1 H1 σ (o.step w1 n1) Q fun F2 H2 w2 n2 => q F2 H2 w2 (n1.trans w1 n2))
theorem d_andV {a b : Bool} (h1 : EvD K T ta env (.bool a)) (h2 : a = true → EvD K T tb env (.bool b)) : EvD K T (tAndV ta tb) env (.bool (a && b)) := fun F0 H0 F H σ o Q q =>
  h1 F0 H0 F H σ o _ fun v F1 H1 w1 n1 d1 => by
    cases d1
    refine ⟨a, rfl, ?_⟩
    cases a with
    | true => exact iteT (h2 rfl F0 H0 F1 H1 σ (o.step w1 n1) Q fun v F2 H2 w2 n2 d2 => q v F2 H2 w2 (n1.trans w1 n2) d2)
    | false => exact iteF (q _ F1 H1 w1 n1 (.bl false))
theorem d_orV {a b : Bool} (h1 : EvD K T ta env (.bool a)) (h2 : a = false → EvD K T tb env (.bool b)) : EvD K T (tOrV ta tb) env (.bool (a || b)) := fun F0 H0 F H σ o Q q =>
  h1 F0 H0 F H σ o _ fun v F1 H1 w1 n1 d1 => by
    cases d1
    refine ⟨a, rfl, ?_⟩
    cases a with
    | true => exact iteT (q _ F1 H1 w1 n1 (.bl true))
    | false => exact iteF (h2 rfl F0 H0 F1 H1 σ (o.step w1 n1) Q fun v F2 H2 w2 n2 d2 => q v F2 H2 w2 (n1.trans w1 n2) d2)
theorem d_notV {a : Bool} (h1 : EvD K T ta env (.bool a)) : EvD K T (tNotV ta) env (.bool (!a)) := fun F0 H0 F H σ o Q q =>
  h1 F0 H0 F H σ o _ fun v F1 H1 w1 n1 d1 => by cases d1; exact ⟨a, rfl, q _ F1 H1 w1 n1 (.bl _)⟩
theorem d_if {b : Bool} (h : EvT K T t env b) (h1 : b = true → EvD K T ta env d) (h2 : b = false → EvD K T tb env d) : EvD K T (tIf t ta tb) env d := fun F0 H0 F H σ o Q q =>
  h F0 H0 F H σ o _ fun F1 H1 w1 n1 => by
    cases b with
    | true => exact iteT (h1 rfl F0 H0 F1 H1 σ (o.step w1 n1) Q fun v F2 H2 w2 n2 d2 => q v F2 H2 w2 (n1.trans w1 n2) d2)
    | false => exact iteF (h2 rfl F0 H0 F1 H1 σ (o.step w1 n1) Q fun v F2 H2 w2 n2 d2 => q v F2 H2 w2 (n1.trans w1 n2) d2)
theorem d_chain {a b : Bool} (ha : EvD K T ta env x) (hb : EvD K T tb env y) (hr : ROp K T r x y (.bool a)) (hc : a = true → EvD K T tc env z) (hr' : a = true → ROp K T r' y z (.bool b)) : EvD K T (tChain r r' ta tb tc) env (.bool (a && b)) := fun F0 H0 F H σ o Q q =>
  ha F0 H0 F H σ o _ fun v F1 H1 w1 n1 d1 => hb F0 H0 F1 H1 σ (o.step w1 n1) _ fun v2 F2 H2 w2 n2 d2 =>
    hr F2 H2 v v2 w2 (dp_mono n2.exF _ _ d1) d2 _ fun v3 F3 H3 w3 n3 d3 => by
      cases d3
      refine ⟨a, rfl, ?_⟩
      have n12 := n1.trans w1 (n2.trans w2 n3)
      cases a with
      | true =>
        exact iteT (hc rfl F0 H0 F3 H3 σ (o.step w3 n12) _ fun v4 F4 H4 w4 n4 d4 =>
          hr' rfl F4 H4 v2 v4 w4 (dp_mono (n3.exF.trans n4.exF) _ _ d2) d4 Q fun v5 F5 H5 w5 n5 d5 => q v5 F5 H5 w5 (n12.trans w3 (n4.trans w4 n5)) d5)
      | false => exact iteF (q _ F3 H3 w3 n12 (.bl false))
/-! displays -/
theorem d_tup {ta : TA} {xs : List D} (h : EvA K T ta env xs) (hl : xs.length ≤ sizeLine) : EvD K T (tTup ta) env (.tuple xs) := fun F0 H0 F H σ o Q q =>
  h F0 H0 F H σ o _ fun vs F1 H1 w1 n1 d1 => ⟨by rw [dps_len d1]; exact hl, fun p hp => q _ (upd F1 p (.tup vs)) _ (w1.new hp) (n1.trans w1 (Nx.new w1 hp)) (.tup (.inl (.inl upd_same)) (dps_mono (Nx.new w1 hp).exF _ _ d1))⟩
theorem d_lst {ta : TA} {xs : List D} (h : EvA K T ta env xs) (hl : xs.length ≤ sizeLine) : EvD K T (tLst ta) env (.list xs) := fun F0 H0 F H σ o Q q =>
  h F0 H0 F H σ o _ fun vs F1 H1 w1 n1 d1 => ⟨by rw [dps_len d1]; exact hl, fun p hp => q _ (upd F1 p (.lst vs)) _ (w1.new hp) (n1.trans w1 (Nx.new w1 hp)) (.lst (.inl (.inl upd_same)) (dps_mono (Nx.new w1 hp).exF _ _ d1))⟩
end
end DL
set_option Elab.async false
set_option linter.all false
set_option maxRecDepth 100000
set_option maxHeartbeats 2000000
/-! Operations by data, statements, loops, comprehensions, defs. -/
namespace DL
open PySem PySem.Spec PyProof.Rows L2
open Evl (Ex)
section
variable {K : PySem.W.Frag} {T : List Addr} {i j : Int}
/-! ### operations -/
theorem r_int {g : Int → Int → Int} : ROp K T (rI0 fun i j => .int (g i j)) (.int i) (.int j) (.int (g i j)) := fun F H a b w ha hb Q q => by
  cases ha; cases hb
  exact ⟨i, j, rfl, rfl, q _ F H w (Nx.refl T F H) (.int _)⟩
theorem r_bool {g : Int → Int → Bool} : ROp K T (rI0 fun i j => .bl (g i j)) (.int i) (.int j) (.bool (g i j)) := fun F H a b w ha hb Q q => by
  cases ha; cases hb
  exact ⟨i, j, rfl, rfl, q _ F H w (Nx.refl T F H) (.bl _)⟩
theorem r_intC {C : Int → Int → Prop} {g : Int → Int → Int} (h : C i j) : ROp K T (rI C fun i j => .int (g i j)) (.int i) (.int j) (.int (g i j)) := fun F H a b w ha hb Q q => by
  cases ha; cases hb
  exact ⟨i, j, rfl, rfl, h, q _ F H w (Nx.refl T F H) (.int _)⟩
theorem r_neg {g : Int → Int} : RUn K T (rU fun i => .int (g i)) (.int i) (.int (g i)) := fun F H a w ha Q q => by
  cases ha
  exact ⟨i, rfl, q _ F H w (Nx.refl T F H) (.int _)⟩
theorem dec_V {α : Type} [DecidableEq α] {f : α → V} (hf : ∀ a b, f a = f b → a = b) (a b : α) : decide (f a = f b) = decide (a = b) := by
  by_cases h : a = b
  · subst h; simp
  · rw [decide_eq_false h, decide_eq_false fun z => h (hf a b z)]
theorem r_eqI : ROp K T rEq (.int i) (.int j) (.bool (decide (i = j))) := fun F H a b w ha hb Q q => by
  cases ha; cases hb
  refine ⟨rfl, ?_⟩
  rw [dec_V (f := V.int) (fun _ _ z => V.int.inj z)]
  exact q _ F H w (Nx.refl T F H) (.bl _)
theorem r_neI : ROp K T rNe (.int i) (.int j) (.bool (!decide (i = j))) := fun F H a b w ha hb Q q => by
  cases ha; cases hb
  refine ⟨rfl, ?_⟩
  rw [dec_V (f := V.int) (fun _ _ z => V.int.inj z)]
  exact q _ F H w (Nx.refl T F H) (.bl _)
theorem r_eqB {a b : Bool} : ROp K T rEq (.bool a) (.bool b) (.bool (decide (a = b))) := fun F H x y w ha hb Q q => by
  cases ha; cases hb
  refine ⟨rfl, ?_⟩
  rw [dec_V (f := V.bl) (fun _ _ z => V.bl.inj z)]
  exact q _ F H w (Nx.refl T F H) (.bl _)
theorem r_neB {a b : Bool} : ROp K T rNe (.bool a) (.bool b) (.bool (!decide (a = b))) := fun F H x y w ha hb Q q => by
  cases ha; cases hb
  refine ⟨rfl, ?_⟩
  rw [dec_V (f := V.bl) (fun _ _ z => V.bl.inj z)]
  exact q _ F H w (Nx.refl T F H) (.bl _)
theorem r_eqS {a b : Str} : ROp K T rEq (.str a) (.str b) (.bool (decide (a = b))) := fun F H x y w ha hb Q q => by
  cases ha; cases hb
  refine ⟨rfl, ?_⟩
  rw [dec_V (f := V.str) (fun _ _ z => V.str.inj z)]
  exact q _ F H w (Nx.refl T F H) (.bl _)
theorem r_neS {a b : Str} : ROp K T rNe (.str a) (.str b) (.bool (!decide (a = b))) := fun F H x y w ha hb Q q => by
  cases ha; cases hb
  refine ⟨rfl, ?_⟩
  rw [dec_V (f := V.str) (fun _ _ z => V.str.inj z)]
  exact q _ F H w (Nx.refl T F H) (.bl _)
theorem r_eqD {d e : D} (h1 : SeqAt.shaped d = true) (h2 : SeqAt.shaped e = true) : ROp K T (rEqD K) d e (.bool (PyData.eqv d e)) := fun F H x y w ha hb Q q =>
  ⟨d, e, dp_mono w.sub _ _ ha, dp_mono w.sub _ _ hb, h1, h2, q _ F H w (Nx.refl T F H) (.bl _)⟩
theorem r_neD {d e : D} (h1 : SeqAt.shaped d = true) (h2 : SeqAt.shaped e = true) : ROp K T (rNeD K) d e (.bool (!PyData.eqv d e)) := fun F H x y w ha hb Q q =>
  ⟨d, e, dp_mono w.sub _ _ ha, dp_mono w.sub _ _ hb, h1, h2, q _ F H w (Nx.refl T F H) (.bl _)⟩
def isNone : D → Bool
  | .none => true
  | _ => false
theorem none_V {F : Hp} {v : V} {d : D} (h : Dp K F v d) : decide (v = .non) = isNone d := by
  cases h <;> simp [isNone]
theorem r_isN {d : D} : ROp K T (fun x y H Q => y = .non ∧ Q (.bl (decide (x = .non))) H) d .none (.bool (isNone d)) := fun F H x y w ha hb Q q => by
  cases hb
  refine ⟨rfl, ?_⟩
  rw [none_V ha]
  exact q _ F H w (Nx.refl T F H) (.bl _)
theorem r_notN {d : D} : ROp K T (fun x y H Q => y = .non ∧ Q (.bl (!decide (x = .non))) H) d .none (.bool (!isNone d)) := fun F H x y w ha hb Q q => by
  cases hb
  refine ⟨rfl, ?_⟩
  rw [none_V ha]
  exact q _ F H w (Nx.refl T F H) (.bl _)
theorem r_addS {a b : Str} (h : a.length + b.length ≤ sizeLine) : ROp K T (fun x y H Q => ∃ i j, x = V.str i ∧ y = V.str j ∧ i.length + j.length ≤ sizeLine ∧ Q (.str (i ++ j)) H) (.str a) (.str b) (.str (a ++ b)) := fun F H x y w ha hb Q q => by
  cases ha; cases hb
  exact ⟨a, b, rfl, rfl, h, q _ F H w (Nx.refl T F H) (.str _)⟩
/-! items -/
theorem ixN_nat {n k : Nat} (h : k < n) : ixN n (k : Int) = some k := Evl.ixN_nat h
theorem atI_k {α : Type} {xs : List α} {k : Nat} {x : α} (h : xs[k]? = some x) : atI xs (k : Int) = some x := atI_nat h
theorem r_ixL {ds : List D} {d : D} (h : atI ds i = some d) : ROp K T (rIxL K) (.list ds) (.int i) d := fun F H x y w ha hb Q q => by
  cases hb
  cases ha with
  | @lst a xs _ hs hd =>
    unfold atI at h
    cases e : ixN ds.length i with
    | none => rw [e] at h; cases h
    | some k =>
      rw [e] at h
      obtain ⟨v, hv, hvd⟩ := dps_get (K := K) (H := F) hd (show ds[k]? = some d from h)
      refine ⟨a, xs, i, v, rfl, rfl, Evl.ex_l w.sub hs, ?_, q v F H w (Nx.refl T F H) hvd⟩
      unfold atI
      rw [dps_len hd, e]
      exact hv
theorem r_ixT {ds : List D} {d : D} (h : atI ds i = some d) : ROp K T (rIxT K) (.tuple ds) (.int i) d := fun F H x y w ha hb Q q => by
  cases hb
  cases ha with
  | @tup a xs _ hs hd =>
    unfold atI at h
    cases e : ixN ds.length i with
    | none => rw [e] at h; cases h
    | some k =>
      rw [e] at h
      obtain ⟨v, hv, hvd⟩ := dps_get (K := K) (H := F) hd (show ds[k]? = some d from h)
      refine ⟨a, xs, i, v, rfl, rfl, Evl.ex_t w.sub hs, ?_, q v F H w (Nx.refl T F H) hvd⟩
      unfold atI
      rw [dps_len hd, e]
      exact hv
theorem r_ixS {z : Str} {c : Nat} (hz : z.length ≤ sizeLine) (h : atI z.cps.toList i = some c) : ROp K T rIxS (.str z) (.int i) (.str ⟨#[c]⟩) := fun F H x y w ha hb Q q => by
  cases ha; cases hb
  exact ⟨z, i, c, rfl, rfl, hz, h, q _ F H w (Nx.refl T F H) (.str _)⟩
/-! calls of built-ins -/
theorem r_abs : RCa K T (fun xs H Q => ∃ i, xs = [V.int i] ∧ Q (.int (if i < 0 then -i else i)) H) [.int i] (.int (if i < 0 then -i else i)) := fun F H vs w ha Q q => by
  cases ha with
  | cons h t => cases h; cases t; exact ⟨i, rfl, q _ F H w (Nx.refl T F H) (.int _)⟩
theorem r_max2 : RCa K T (fun xs H Q => ∃ i j, xs = [V.int i, V.int j] ∧ Q (.int (if j > i then j else i)) H) [.int i, .int j] (.int (if j > i then j else i)) := fun F H vs w ha Q q => by
  cases ha with
  | cons h t => cases h; cases t with
    | cons h t => cases h; cases t; exact ⟨i, j, rfl, q _ F H w (Nx.refl T F H) (.int _)⟩
theorem r_intB {b : Bool} : RCa K T (fun xs H Q => (∃ i, xs = [V.int i] ∧ Q (.int i) H) ∨ ∃ k, xs = [V.bl k] ∧ Q (.int (if k then 1 else 0)) H) [.bool b] (.int (if b then 1 else 0)) := fun F H vs w ha Q q => by
  cases ha with
  | cons h t => cases h; cases t; exact .inr ⟨b, rfl, q _ F H w (Nx.refl T F H) (.int _)⟩
theorem r_lenL {ds : List D} : RCa K T (fun xs H Q => ∃ p ys, xs = [V.ref p] ∧ (SqL K H p ys ∨ SqT K H p ys) ∧ Q (.int ys.length) H) [.list ds] (.int (ds.length : Int)) := fun F H vs w ha Q q => by
  cases ha with
  | cons h t =>
    cases t
    cases h with
    | @lst a xs _ hs hd =>
      refine ⟨a, xs, rfl, .inl (Evl.ex_l w.sub hs), ?_⟩
      rw [dps_len hd]
      exact q _ F H w (Nx.refl T F H) (.int _)
theorem r_lenT {ds : List D} : RCa K T (fun xs H Q => ∃ p ys, xs = [V.ref p] ∧ (SqL K H p ys ∨ SqT K H p ys) ∧ Q (.int ys.length) H) [.tuple ds] (.int (ds.length : Int)) := fun F H vs w ha Q q => by
  cases ha with
  | cons h t =>
    cases t
    cases h with
    | @tup a xs _ hs hd =>
      refine ⟨a, xs, rfl, .inr (Evl.ex_t w.sub hs), ?_⟩
      rw [dps_len hd]
      exact q _ F H w (Nx.refl T F H) (.int _)
theorem r_lenS {z : Str} (hz : z.length ≤ sizeLine) : RCa K T (fun xs H Q => ∃ z, xs = [V.str z] ∧ z.length ≤ sizeLine ∧ Q (.int z.length) H) [.str z] (.int (z.length : Int)) := fun F H vs w ha Q q => by
  cases ha with
  | cons h t => cases h; cases t; exact ⟨z, rfl, hz, q _ F H w (Nx.refl T F H) (.int _)⟩
theorem r_list {ds : List D} : RCa K T (fun xs H Q => ∃ p ys, xs = [V.ref p] ∧ (SqL K H p ys ∨ SqT K H p ys) ∧ ∀ l, H l = none → Q (.ref l) (upd H l (.lst ys))) [.list ds] (.list ds) := fun F H vs w ha Q q => by
  cases ha with
  | cons h t =>
    cases t
    cases h with
    | @lst a xs _ hs hd =>
      exact ⟨a, xs, rfl, .inl (Evl.ex_l w.sub hs), fun l hl => q _ (upd F l (.lst xs)) _ (w.new hl) (Nx.new w hl) (.lst (.inl (.inl upd_same)) (dps_mono (Nx.new w hl).exF _ _ hd))⟩
/-! isinstance -/
theorem tyx_of {F H : Hp} {v : V} {d : D} (w : Wk T F H) (h : Dp K F v d) : ∃ t, (match d with | .none => t = Value.type "NoneType" | .bool _ => t = Value.type "bool" | .int _ => t = Value.type "int" | .str _ => t = Value.type "str" | .list _ => t = Value.type "list" | .tuple _ => t = Value.type "tuple" | .dict _ => False) ∧ TyX K H v t := by
  cases h with
  | non => exact ⟨_, rfl, .base .non⟩
  | bl b => exact ⟨_, rfl, .base (.bl b)⟩
  | int n => exact ⟨_, rfl, .base (.int n)⟩
  | str n => exact ⟨_, rfl, .base (.str n)⟩
  | @lst a xs ds hs hd =>
    rcases hs with (h | ⟨o, h⟩) | ⟨o, its, n, h1, h2, _⟩
    · exact ⟨_, rfl, .base (.lst (w.sub _ _ h))⟩
    · exact ⟨_, rfl, .base (.frz (w.sub _ _ h))⟩
    · exact ⟨_, rfl, .kList h1 h2⟩
  | @tup a xs ds hs hd =>
    rcases hs with (h | ⟨o, h⟩) | ⟨o, its, n, h1, h2, _⟩
    · exact ⟨_, rfl, .base (.tup (w.sub _ _ h))⟩
    · exact ⟨_, rfl, .fTuple (w.sub _ _ h)⟩
    · exact ⟨_, rfl, .kTuple h1 h2⟩
def tyName : D → String
  | .none => "NoneType"
  | .bool _ => "bool"
  | .int _ => "int"
  | .str _ => "str"
  | .list _ => "list"
  | .tuple _ => "tuple"
  | .dict _ => "dict"
/-- isinstance(x, n), n a built-in class: h by decide +kernel, d's constructor given -/
theorem d_isi {env : List Sl} {te : TE} {d : D} {n : String} {b : Bool} (ha : EvD K T te env d) (h : PySem.W.kitOne K (.type (tyName d)) (.type n) = some b) : EvD K T (tCB (rIsi K) (tCons te (tCons (tC (.ty n)) tNil))) env (.bool b) := fun F0 H0 F H σ o Q q =>
  ha F0 H0 F H σ o _ fun v F1 H1 w1 n1 d1 => by
    obtain ⟨t, e, ty⟩ := tyx_of w1 d1
    have e' : t = .type (tyName d) := by cases d <;> first | exact e | exact e.elim
    subst e'
    exact ⟨v, .ty n, _, _, b, rfl, .ty n, ty, h, q _ F1 H1 w1 n1 (.bl b)⟩
/-! slices, texts -/
theorem d_slL {env : List Sl} {te : TE} {tl th : TO} {ds : List D} {lo hi : Option Int} (h : EvD K T te env (.list ds)) (h1 : EvO K T tl env lo) (h2 : EvO K T th env hi) : EvD K T (tSl (rSlL K) te tl th) env (.list ((ds.drop (HT.sIx ds.length 0 lo)).take (HT.sIx ds.length ds.length hi - HT.sIx ds.length 0 lo))) := fun F0 H0 F H σ o Q q =>
  h F0 H0 F H σ o _ fun v F1 H1 w1 n1 d1 => h1 F0 H0 F1 H1 σ (o.step w1 n1) _ fun F2 H2 w2 n2 => h2 F0 H0 F2 H2 σ (o.step w2 (n1.trans w1 n2)) _ fun F3 H3 w3 n3 => by
    have d3 := dp_mono (n2.exF.trans n3.exF) _ _ d1
    cases d3 with
    | @lst a xs _ hs hd =>
      refine ⟨a, xs, rfl, Evl.ex_l w3.sub hs, fun p hp => q _ (upd F3 p (.lst (cutV xs lo hi))) _ (w3.new hp) ((n1.trans w1 (n2.trans w2 n3)).trans w3 (Nx.new w3 hp)) (.lst (.inl (.inl upd_same)) ?_)⟩
      unfold cutV
      rw [dps_len hd]
      exact dps_mono (Nx.new w3 hp).exF _ _ (dps_take _ (dps_drop _ hd))
theorem d_slS {env : List Sl} {te : TE} {tl th : TO} {z : Str} {lo hi : Option Int} (h : EvD K T te env (.str z)) (h1 : EvO K T tl env lo) (h2 : EvO K T th env hi) (hz : z.length ≤ sizeLine) : EvD K T (tSl rSlS te tl th) env (.str (cutS z lo hi)) := fun F0 H0 F H σ o Q q =>
  h F0 H0 F H σ o _ fun v F1 H1 w1 n1 d1 => h1 F0 H0 F1 H1 σ (o.step w1 n1) _ fun F2 H2 w2 n2 => h2 F0 H0 F2 H2 σ (o.step w2 (n1.trans w1 n2)) _ fun F3 H3 w3 n3 => by
    cases d1
    exact ⟨z, rfl, hz, q _ F3 H3 w3 (n1.trans w1 (n2.trans w2 n3)) (.str _)⟩
/-- xs + ys, lists -/
theorem d_cat {env : List Sl} {ta tb : TE} {xs ys : List D} (ha : EvD K T ta env (.list xs)) (hb : EvD K T tb env (.list ys)) (hl : xs.length + ys.length ≤ sizeLine)
    (fa : ∀ F v, Dp K F v (.list xs) → ∃ a vs, v = .ref a ∧ F a = some (.lst vs) ∧ DpAll K F vs xs) (fb : ∀ F v, Dp K F v (.list ys) → ∃ a vs, v = .ref a ∧ F a = some (.lst vs) ∧ DpAll K F vs ys) : EvD K T (tOp rCat ta tb) env (.list (xs ++ ys)) := fun F0 H0 F H σ o Q q =>
  ha F0 H0 F H σ o _ fun v F1 H1 w1 n1 d1 => hb F0 H0 F1 H1 σ (o.step w1 n1) _ fun v2 F2 H2 w2 n2 d2 => by
    obtain ⟨a, vs, rfl, h1, h2⟩ := fa F2 v (dp_mono n2.exF _ _ d1)
    obtain ⟨b, ws, rfl, h3, h4⟩ := fb F2 v2 d2
    exact ⟨a, b, vs, ws, rfl, rfl, w2.sub _ _ h1, w2.sub _ _ h3, by rw [dps_len h2, dps_len h4]; exact hl, fun p hp => q _ (upd F2 p (.lst (vs ++ ws))) _ (w2.new hp) ((n1.trans w1 n2).trans w2 (Nx.new w2 hp)) (.lst (.inl (.inl upd_same)) (dps_mono (Nx.new w2 hp).exF _ _ (dps_app h2 h4)))⟩
end

/-! ### statements -/
structure Po where
  nx : List Sl → Prop
  rt : D → Prop
  bk : List Sl → Prop := fun _ => False
  ct : List Sl → Prop := fun _ => False
  /-- what is returned, told together with the slots as they then are -/
  rtE : List Sl → D → Prop := fun _ _ => False
section
variable (K : PySem.W.Frag) (T : List Addr) (F0 H0 : Hp)
/-- what the ends say, from F on -/
structure EndsOk (F : Hp) (P : Po) (De : Ends) : Prop where
  nx : ∀ e F' H' (σ' : L2.St), P.nx e → Ok K T F0 H0 F' H' σ' e → Ex F F' → De.nx σ' H'
  rt : ∀ d v F' H', P.rt d → Wk T F' H' → Nx T F0 H0 F' H' → Dp K F' v d → De.rt v H'
  bk : ∀ e F' H' (σ' : L2.St), P.bk e → Ok K T F0 H0 F' H' σ' e → Ex F F' → De.bk σ' H'
  ct : ∀ e F' H' (σ' : L2.St), P.ct e → Ok K T F0 H0 F' H' σ' e → Ex F F' → De.ct σ' H'
  rtE : ∀ e d v F' H' (σ' : L2.St), P.rtE e d → Ok K T F0 H0 F' H' σ' e → Dp K F' v d → De.rt v H'
def StD (t : TS) (env : List Sl) (P : Po) : Prop := ∀ F H σ, Ok K T F0 H0 F H σ env → ∀ De : Ends, EndsOk K T F0 H0 F P De → t De σ H
end
section
variable {K : PySem.W.Frag} {T : List Addr} {F0 H0 F F' : Hp} {env : List Sl} {P : Po} {De : Ends} {te ta : TE} {tt : TT} {t u : TS} {d : D} {i j : Nat} {x : Sl}
theorem EndsOk.mono (h : EndsOk K T F0 H0 F P De) (e : Ex F F') : EndsOk K T F0 H0 F' P De :=
  ⟨fun a F' H' σ' p o x => h.nx a F' H' σ' p o (e.trans x), h.rt, fun a F' H' σ' p o x => h.bk a F' H' σ' p o (e.trans x), fun a F' H' σ' p o x => h.ct a F' H' σ' p o (e.trans x), h.rtE⟩
theorem s_seq (h : StD K T F0 H0 t env { P with nx := fun e => StD K T F0 H0 u e P }) : StD K T F0 H0 (tSeq t u) env P := fun F H σ o De E =>
  h F H σ o { De with nx := u De } ⟨fun e F' H' σ' p o' x => p F' H' σ' o' De (E.mono x), E.rt, E.bk, E.ct, E.rtE⟩
theorem s_next (h : P.nx env) : StD K T F0 H0 tNext env P := fun F H σ o De E => E.nx env F H σ h o (Ex.refl F)
theorem s_brk (h : P.bk env) : StD K T F0 H0 tBreak env P := fun F H σ o De E => E.bk env F H σ h o (Ex.refl F)
theorem s_cont (h : P.ct env) : StD K T F0 H0 tCont env P := fun F H σ o De E => E.ct env F H σ h o (Ex.refl F)
theorem s_asg (h : EvD K T te env d) (k : P.nx (env.set i (.dat d))) : StD K T F0 H0 (tAsg te (gName i)) env P := fun F H σ o De E =>
  h F0 H0 F H σ o _ fun v F1 H1 w1 n1 d1 => E.nx _ F1 H1 _ k ((o.step w1 n1).set d1) n1.exF
/-- x = [], a list that is filled -/
theorem s_new (k : P.nx (env.set i (.own []))) : StD K T F0 H0 (tAsg (tLst tNil) (gName i)) env P := fun F H σ o De E =>
  ⟨Nat.zero_le _, fun p hp => E.nx _ F _ _ k (o.mine hp) (Ex.refl F)⟩
theorem s_app {xs : List D} (hi : env[i]? = some (.own xs)) (h : EvD K T te env d) (hz : xs.length < sizeLine) (k : P.nx (env.set i (.own (xs ++ [d])))) :
    StD K T F0 H0 (tDrop (tBM K "list" rAppend (tVar i) (tCons te tNil))) env P := fun F H σ o De E => by
  obtain ⟨a, vs, e1, f, h0, t1, ha, hd⟩ := o.sl i _ hi
  refine ⟨.ref a, e1, .inl ⟨rfl, vs, .inl (.inl ha)⟩, h F0 H0 F H σ o _ fun v F1 H1 w1 n1 d1 => ?_⟩
  have o1 := o.step w1 n1
  refine ⟨a, vs, v, rfl, rfl, n1.exH a _ ha t1, by rw [dps_len hd]; exact hz, E.nx _ F1 _ _ k (o1.write hi e1 (dps_app (dps_mono n1.exF _ _ hd) (.cons d1 .nil))) n1.exF⟩
theorem s_ret (h : EvD K T te env d) (k : P.rt d) : StD K T F0 H0 (tRet te) env P := fun F H σ o De E =>
  h F0 H0 F H σ o _ fun v F1 H1 w1 n1 d1 => E.rt d v F1 H1 k w1 (o.nx.trans o.wk n1) d1
theorem s_retN (k : P.rt .none) : StD K T F0 H0 tRetN env P := fun F H σ o De E => E.rt .none .non F H k o.wk o.nx .non
/-- from here on our list is plain data -/
theorem s_frz {xs : List D} (hi : env[i]? = some (.own xs)) (h : StD K T F0 H0 t (env.set i (.dat (.list xs))) P) : StD K T F0 H0 t env P := fun F H σ o De E => by
  obtain ⟨F', e, o'⟩ := o.freeze hi
  exact h F' H σ o' De (E.mono e)
theorem s_if {b : Bool} (h : EvT K T tt env b) (h1 : b = true → StD K T F0 H0 t env P) (h2 : b = false → StD K T F0 H0 u env P) : StD K T F0 H0 (tIfS tt t u) env P := fun F H σ o De E =>
  h F0 H0 F H σ o _ fun F1 H1 w1 n1 => by
    cases b with
    | true => exact iteT (h1 rfl F1 H1 σ (o.step w1 n1) De (E.mono n1.exF))
    | false => exact iteF (h2 rfl F1 H1 σ (o.step w1 n1) De (E.mono n1.exF))
theorem s_drop (h : EvD K T te env d) (k : P.nx env) : StD K T F0 H0 (tDrop te) env P := fun F H σ o De E =>
  h F0 H0 F H σ o _ fun v F1 H1 w1 n1 d1 => E.nx _ F1 H1 _ k (o.step w1 n1) n1.exF
theorem s_aug {f : Int → Int → Int} {a b : Int} (hx : env[i]? = some (.dat (.int a))) (h : EvD K T te env (.int b)) (k : P.nx (env.set i (.dat (.int (f a b))))) : StD K T F0 H0 (tAug i te (ipI f)) env P := fun F H σ o De E => by
  obtain ⟨v, e, hv⟩ := o.sl i _ hx
  cases hv
  exact ⟨_, e, h F0 H0 F H σ o _ fun v F1 H1 w1 n1 d1 => by cases d1; exact ⟨a, b, rfl, rfl, E.nx _ F1 H1 _ k ((o.step w1 n1).set (.int _)) n1.exF⟩⟩
/-- a, b = e, f -/
theorem s_par {ta : TA} {d e : D} (h : EvA K T ta env [d, e]) (k : P.nx ((env.set i (.dat d)).set j (.dat e))) : StD K T F0 H0 (tPar i j ta) env P := fun F H σ o De E =>
  h F0 H0 F H σ o _ fun vs F1 H1 w1 n1 d1 => by
    cases d1 with
    | cons h1 t =>
      cases t with
      | cons h2 t =>
        cases t
        exact ⟨_, _, rfl, E.nx _ F1 H1 _ k (((o.step w1 n1).set h1).set h2) n1.exF⟩
/-! loops -/
variable {tl : TE} {tb : TS}
/-- what a turn's end must reach -/
abbrev Po.turn (P : Po) (I : List Sl → Prop) : Po := { nx := I, rt := P.rt, bk := P.nx, ct := I, rtE := P.rtE }
theorem s_forL {ds : List D} (h : EvD K T tl env (.list ds)) (I : Nat → List Sl → Prop) (h0 : I 0 env)
    (hs : ∀ (k : Nat) d e, ds[k]? = some d → I k e → StD K T F0 H0 tb (e.set j (.dat d)) (P.turn (I (k + 1)))) (hd : ∀ e, I ds.length e → P.nx e) : StD K T F0 H0 (tFor (iList K tl) (gName j) tb) env P := fun F H σ o De E =>
  h F0 H0 F H σ o _ fun v F1 H1 w1 n1 d1 => by
    cases d1 with
    | @lst a xs _ hsq hdd =>
      refine ⟨a, rfl, ⟨xs, Evl.ex_l w1.sub hsq⟩, for_list (fun k σ' H' => ∃ e F', I k e ∧ Ok K T F0 H0 F' H' σ' e ∧ Ex F1 F') ⟨env, F1, h0, o.step w1 n1, Ex.refl F1⟩ (fun k σ' H' _ ⟨e, F', _, o', x⟩ => Evl.ex_l (x.trans o'.wk.sub) hsq) (fun k v σ' H' hk ⟨e, F', p, o', x⟩ => ?_) (fun σ' H' ⟨e, F', p, o', x⟩ => ?_)⟩
      · obtain ⟨d, hd1, hv⟩ := dps_getV hdd hk
        exact hs k d e hd1 p F' H' _ (o'.set (dp_mono x _ _ hv)) _ ⟨fun e2 F2 H2 σ2 p2 o2 x2 => ⟨e2, F2, p2, o2, x.trans x2⟩, E.rt, fun e2 F2 H2 σ2 p2 o2 x2 => E.nx e2 F2 H2 σ2 p2 o2 ((n1.exF.trans x).trans x2), fun e2 F2 H2 σ2 p2 o2 x2 => ⟨e2, F2, p2, o2, x.trans x2⟩, E.rtE⟩
      · rw [dps_len hdd] at p
        exact E.nx e F' H' σ' (hd e p) o' (n1.exF.trans x)
theorem s_forT {ds : List D} (h : EvD K T tl env (.tuple ds)) (I : Nat → List Sl → Prop) (h0 : I 0 env)
    (hs : ∀ (k : Nat) d e, ds[k]? = some d → I k e → StD K T F0 H0 tb (e.set j (.dat d)) (P.turn (I (k + 1)))) (hd : ∀ e, I ds.length e → P.nx e) : StD K T F0 H0 (tFor (iTup K tl) (gName j) tb) env P := fun F H σ o De E =>
  h F0 H0 F H σ o _ fun v F1 H1 w1 n1 d1 => by
    cases d1 with
    | @tup a xs _ hsq hdd =>
      refine ⟨a, rfl, ⟨xs, Evl.ex_t w1.sub hsq⟩, for_tup (fun k σ' H' => ∃ e F', I k e ∧ Ok K T F0 H0 F' H' σ' e ∧ Ex F1 F') ⟨env, F1, h0, o.step w1 n1, Ex.refl F1⟩ (fun k σ' H' _ ⟨e, F', _, o', x⟩ => Evl.ex_t (x.trans o'.wk.sub) hsq) (fun k v σ' H' hk ⟨e, F', p, o', x⟩ => ?_) (fun σ' H' ⟨e, F', p, o', x⟩ => ?_)⟩
      · obtain ⟨d, hd1, hv⟩ := dps_getV hdd hk
        exact hs k d e hd1 p F' H' _ (o'.set (dp_mono x _ _ hv)) _ ⟨fun e2 F2 H2 σ2 p2 o2 x2 => ⟨e2, F2, p2, o2, x.trans x2⟩, E.rt, fun e2 F2 H2 σ2 p2 o2 x2 => E.nx e2 F2 H2 σ2 p2 o2 ((n1.exF.trans x).trans x2), fun e2 F2 H2 σ2 p2 o2 x2 => ⟨e2, F2, p2, o2, x.trans x2⟩, E.rtE⟩
      · rw [dps_len hdd] at p
        exact E.nx e F' H' σ' (hd e p) o' (n1.exF.trans x)
theorem s_forR {ta : TA} {n : Nat} (h : EvA K T ta env [.int (n : Int)]) (hn : n ≤ 100000) (I : Nat → List Sl → Prop) (h0 : I 0 env)
    (hs : ∀ (k : Nat) e, k < n → I k e → StD K T F0 H0 tb (e.set j (.dat (.int (k : Int)))) (P.turn (I (k + 1)))) (hd : ∀ e, I n e → P.nx e) : StD K T F0 H0 (tFor (iRng1 ta) (gName j) tb) env P := fun F H σ o De E =>
  h F0 H0 F H σ o _ fun vs F1 H1 w1 n1 d1 => by
    cases d1 with
    | cons h1 t =>
      cases t; cases h1
      refine ⟨(n : Int), rfl, by omega, by omega, for_range (lo := 0) (n := (n : Int).toNat) (fun k σ' H' => ∃ e F', I k e ∧ Ok K T F0 H0 F' H' σ' e ∧ Ex F1 F') ⟨env, F1, h0, o.step w1 n1, Ex.refl F1⟩ (fun k σ' H' hk ⟨e, F', p, o', x⟩ => ?_) (fun σ' H' ⟨e, F', p, o', x⟩ => ?_)⟩
      · have e0 : (0 : Int) + (k : Int) = (k : Int) := Int.zero_add _
        show tb _ (σ'.set j (some (.int ((0 : Int) + (k : Int))))) H'
        rw [e0]
        exact hs k e (by omega) p F' H' _ (o'.set (.int _)) _ ⟨fun e2 F2 H2 σ2 p2 o2 x2 => ⟨e2, F2, p2, o2, x.trans x2⟩, E.rt, fun e2 F2 H2 σ2 p2 o2 x2 => E.nx e2 F2 H2 σ2 p2 o2 ((n1.exF.trans x).trans x2), fun e2 F2 H2 σ2 p2 o2 x2 => ⟨e2, F2, p2, o2, x.trans x2⟩, E.rtE⟩
      · rw [Int.toNat_natCast] at p
        exact E.nx e F' H' σ' (hd e p) o' (n1.exF.trans x)
theorem s_forR2 {ta : TA} {lo n : Int} (h : EvA K T ta env [.int lo, .int n]) (hn : -100000 ≤ lo ∧ lo ≤ 100000 ∧ -100000 ≤ n ∧ n ≤ 100000) (I : Nat → List Sl → Prop) (h0 : I 0 env)
    (hs : ∀ (k : Nat) e, k < (n - lo).toNat → I k e → StD K T F0 H0 tb (e.set j (.dat (.int (lo + (k : Int))))) (P.turn (I (k + 1)))) (hd : ∀ e, I (n - lo).toNat e → P.nx e) : StD K T F0 H0 (tFor (iRng2 ta) (gName j) tb) env P := fun F H σ o De E =>
  h F0 H0 F H σ o _ fun vs F1 H1 w1 n1 d1 => by
    cases d1 with
    | cons h1 t =>
      cases t with
      | cons h2 t =>
        cases t; cases h1; cases h2
        refine ⟨lo, n, rfl, ⟨by omega, by omega, by omega, by omega⟩, for_range (lo := lo) (n := (n - lo).toNat) (fun k σ' H' => ∃ e F', I k e ∧ Ok K T F0 H0 F' H' σ' e ∧ Ex F1 F') ⟨env, F1, h0, o.step w1 n1, Ex.refl F1⟩ (fun k σ' H' hk ⟨e, F', p, o', x⟩ => ?_) (fun σ' H' ⟨e, F', p, o', x⟩ => ?_)⟩
        · exact hs k e hk p F' H' _ (o'.set (.int _)) _ ⟨fun e2 F2 H2 σ2 p2 o2 x2 => ⟨e2, F2, p2, o2, x.trans x2⟩, E.rt, fun e2 F2 H2 σ2 p2 o2 x2 => E.nx e2 F2 H2 σ2 p2 o2 ((n1.exF.trans x).trans x2), fun e2 F2 H2 σ2 p2 o2 x2 => ⟨e2, F2, p2, o2, x.trans x2⟩, E.rtE⟩
        · exact E.nx e F' H' σ' (hd e p) o' (n1.exF.trans x)
theorem s_forS {z : Str} (h : EvD K T tl env (.str z)) (I : Nat → List Sl → Prop) (h0 : I 0 env)
    (hs : ∀ (k c : Nat) e, z.cps[k]? = some c → I k e → StD K T F0 H0 tb (e.set j (.dat (.str ⟨#[c]⟩))) (P.turn (I (k + 1)))) (hd : ∀ e, I z.cps.size e → P.nx e) : StD K T F0 H0 (tFor (iStr tl) (gName j) tb) env P := fun F H σ o De E =>
  h F0 H0 F H σ o _ fun v F1 H1 w1 n1 d1 => by
    cases d1
    refine ⟨z, rfl, for_it walk_str (fun k σ' H' => ∃ e F', I k e ∧ Ok K T F0 H0 F' H' σ' e ∧ Ex F1 F') ⟨env, F1, h0, o.step w1 n1, Ex.refl F1⟩ (fun _ _ _ _ _ => trivial) (fun k v σ' H' H'' hk ⟨e, F', p, o', x⟩ hy => ?_) (fun σ' H' ⟨e, F', p, o', x⟩ => ?_)⟩
    · obtain ⟨rfl, c, hc, rfl⟩ := hy
      exact hs k c e hc p F' _ _ (o'.set (.str _)) _ ⟨fun e2 F2 H2 σ2 p2 o2 x2 => ⟨e2, F2, p2, o2, x.trans x2⟩, E.rt, fun e2 F2 H2 σ2 p2 o2 x2 => E.nx e2 F2 H2 σ2 p2 o2 ((n1.exF.trans x).trans x2), fun e2 F2 H2 σ2 p2 o2 x2 => ⟨e2, F2, p2, o2, x.trans x2⟩, E.rtE⟩
    · exact E.nx e F' H' σ' (hd e p) o' (n1.exF.trans x)
theorem s_while (I : Nat → List Sl → Prop) (m0 : Nat) (h0 : I m0 env)
    (hs : ∀ m e, I m e → ∃ b, EvT K T tt e b ∧ (b = true → StD K T F0 H0 tb e (P.turn fun e' => ∃ m', m' < m ∧ I m' e')) ∧ (b = false → P.nx e)) : StD K T F0 H0 (tWhile tt tb) env P := fun F H σ o De E => by
  refine ⟨fun m σ' H' => ∃ e F', I m e ∧ Ok K T F0 H0 F' H' σ' e ∧ Ex F F', ⟨m0, env, F, h0, o, Ex.refl F⟩, ?_⟩
  rintro m σ' H' ⟨e, F', p, o', x⟩
  obtain ⟨b, ht, h1, h2⟩ := hs m e p
  refine ht F0 H0 F' H' σ' o' _ fun F1 H1 w1 n1 => ?_
  cases b with
  | true =>
    refine iteT ⟨fun σ2 H2 => ∃ m', m' < m ∧ ∃ e2 F2, I m' e2 ∧ Ok K T F0 H0 F2 H2 σ2 e2 ∧ Ex F F2, fun σ2 H2 ⟨m', hm, q⟩ => ⟨m', hm, q⟩, ?_⟩
    exact h1 rfl F1 H1 σ' (o'.step w1 n1) _ ⟨fun e2 F2 H2 σ2 ⟨m', hm, p2⟩ o2 x2 => ⟨m', hm, e2, F2, p2, o2, (x.trans n1.exF).trans x2⟩, E.rt, fun e2 F2 H2 σ2 p2 o2 x2 => E.nx e2 F2 H2 σ2 p2 o2 ((x.trans n1.exF).trans x2), fun e2 F2 H2 σ2 ⟨m', hm, p2⟩ o2 x2 => ⟨m', hm, e2, F2, p2, o2, (x.trans n1.exF).trans x2⟩, E.rtE⟩
  | false => exact iteF (E.nx e F1 H1 σ' (h2 rfl) (o'.step w1 n1) (x.trans n1.exF))
end

/-! ### a comprehension over a list, over a range: one clause, its variable in slot j -/
section
variable {K : PySem.W.Frag} {T : List Addr} {env : List Sl} {te : TE} {tt : TT} {tl : TE} {j : Nat}
theorem wipe_one {σ : L2.St} {x : Option V} : wipe ((wipe σ [j]).set j x) [j] = wipe σ [j] := by
  show (((σ.set j none).set j x).set j none) = σ.set j none
  rw [List.set_set, List.set_set]
theorem filterMap_take_succ {α β : Type} {f : α → Option β} : ∀ {l : List α} {k : Nat} {x : α}, l[k]? = some x → (l.take (k + 1)).filterMap f = (l.take k).filterMap f ++ (f x).toList
  | [], k, x, h => by simp at h
  | a :: l, 0, x, h => by
    have e : a = x := Option.some.inj h
    subst e
    show [a].filterMap f = _
    cases q : f a <;> simp [q]
  | a :: l, k + 1, x, h => by
    have ih := filterMap_take_succ (f := f) (l := l) (k := k) (x := x) h
    show (a :: l.take (k + 1)).filterMap f = (a :: l.take k).filterMap f ++ _
    cases q : f a with
    | none => rw [List.filterMap_cons_none q, List.filterMap_cons_none q]; exact ih
    | some b => rw [List.filterMap_cons_some q, List.filterMap_cons_some q, ih]; rfl
/-- G: which items give, and what -/
theorem d_lc {ds : List D} (G : D → Option D) (h : EvD K T tl env (.list ds)) (hl : ds.length < sizeLine)
    (hs : ∀ (k : Nat) d, ds[k]? = some d → ∃ b, EvT K T tt ((env.set j .no).set j (.dat d)) b ∧ (b = false → G d = none) ∧ (b = true → ∃ z, G d = some z ∧ EvD K T te ((env.set j .no).set j (.dat d)) z)) :
    EvD K T (tLc (iList K tl) (gName j) tt te [j]) env (.list (ds.filterMap G)) := fun F0 H0 F H σ o Q q =>
  h F0 H0 F H σ o _ fun v F1 H1 w1 n1 d1 => by
    cases d1 with
    | @lst a xs _ hsq hdd =>
      refine ⟨a, rfl, ⟨xs, Evl.ex_l w1.sub hsq⟩, fun Dl hD => lc_list (K := K) (a := a) (xs := xs) (fun k H' => ∃ F' vs, Wk T F' H' ∧ Nx T F1 H1 F' H' ∧ F' Dl = none ∧ H' Dl = some (.lst vs) ∧ DpAll K F' vs ((ds.take k).filterMap G) ∧ vs.length ≤ k) ?_ (fun k H' _ ⟨F', vs, w', n', _⟩ => Evl.ex_l (n'.exF.trans w'.sub) hsq) (fun k x H' hk ⟨F', vs, w', n', f', e', hv, hz⟩ => ?_) (fun H' ⟨F', vs, w', n', f', e', hv, hz⟩ => ?_)⟩
      · exact ⟨F1, [], w1.mine hD, ⟨Ex.refl F1, fun b u e t => by rw [upd_ne (ne_of_none e hD)]; exact e, fun _ _ _ n => n⟩, w1.noF hD, upd_same, .nil, Nat.zero_le _⟩
      · refine ⟨wipe_one, ?_⟩
        obtain ⟨d, hd1, hx⟩ := dps_getV hdd hk
        have hkl : k < ds.length := (List.getElem?_eq_some_iff.mp hd1).1
        have hT := w1.notT hD
        have o1 : Ok K T F0 H0 F' H' ((wipe σ [j]).set j (some x)) ((env.set j .no).set j (.dat d)) := (((o.step w1 n1).step w' n').wipe (i := j) none).set (dp_mono n'.exF _ _ hx)
        obtain ⟨b, ht, hb0, hb1⟩ := hs k d hd1
        refine ht F0 H0 F' H' _ o1 _ fun F2 H2 w2 n2 => ?_
        have e2 := n2.exH Dl _ e' hT
        have f2 := n2.own Dl _ e' f'
        have n12 := n'.trans w' n2
        cases b with
        | false =>
          refine iteF ⟨F2, vs, w2, n12, f2, e2, ?_, Nat.le_succ_of_le hz⟩
          rw [filterMap_take_succ hd1, hb0 rfl, Option.toList, List.append_nil]
          exact dps_mono n2.exF _ _ hv
        | true =>
          obtain ⟨z, hz1, he⟩ := hb1 rfl
          refine iteT (he F0 H0 F2 H2 _ (o1.step w2 n2) _ fun y F3 H3 w3 n3 d3 => ?_)
          have e3 := n3.exH Dl _ e2 hT
          have f3 := n3.own Dl _ e2 f2
          have n13 := n12.trans w2 n3
          refine ⟨vs, e3, Nat.lt_of_le_of_lt hz (Nat.lt_trans hkl hl), F3, vs ++ [y], w3.write f3 hT, ⟨n13.exF, fun b u e t => ?_, fun b u e n => n13.own b u e n⟩, f3, upd_same, ?_, by rw [List.length_append]; exact Nat.succ_le_succ hz⟩
          · rw [upd_ne (ne_of_none e hD)]
            exact n13.exH b u e t
          · rw [filterMap_take_succ hd1, hz1]
            exact dps_app (dps_mono (n2.exF.trans n3.exF) _ _ hv) (.cons d3 .nil)
      · rw [dps_len hdd, List.take_length] at hv
        have hT := w1.notT hD
        have ex : Ex F' (upd F' Dl (.lst vs)) := Ex.new f'
        have nn := n1.trans w1 n'
        refine q (.ref Dl) (upd F' Dl (.lst vs)) H' (w'.freeze hT e') ⟨nn.exF.trans ex, nn.exH, fun c u e n => ?_⟩ (.lst (.inl (.inl upd_same)) (dps_mono ex _ _ hv))
        have hc : c ≠ Dl := fun z => by
          rw [z] at e
          rw [n1.exH Dl u e hT] at hD
          cases hD
        rw [upd_ne hc]
        exact nn.own c u e n
end
/-! ### defs -/
section
variable {P : Program} {w : World} {K : PySem.W.Frag} {mg : Str → Option Value} {base : Heap} {T : List Addr}
def envOf (N : List Str) (ds : List D) : List Sl := ds.map Sl.dat ++ List.replicate (N.length - ds.length) Sl.no
theorem ok_start {F H : Hp} {N : List Str} {vs : List V} {ds : List D} (wk : Wk T F H) (h : DpAll K F vs ds) : Ok K T F H F H (L2.start N vs) (envOf N ds) := by
  have hl := dps_len h
  refine ⟨wk, Nx.refl T F H, by unfold L2.start envOf; simp [hl], fun i s e => ?_, fun i j a hij hi hj => ?_⟩
  · unfold envOf at e
    unfold L2.start
    by_cases hi : i < ds.length
    · rw [List.getElem?_append_left (by simpa using hi), List.getElem?_map] at e
      cases q : ds[i]? with
      | none => rw [q] at e; cases e
      | some d =>
        rw [q] at e
        cases e
        obtain ⟨v, hv, hd⟩ := dps_get h q
        exact ⟨v, by rw [List.getElem?_append_left (by simpa [hl] using hi), List.getElem?_map, hv]; rfl, hd⟩
    · rw [List.getElem?_append_right (by simpa using hi), List.getElem?_replicate] at e
      split at e
      · cases e; trivial
      · cases e
  · obtain ⟨xs, hi, hq⟩ := hi
    unfold envOf at hi
    by_cases h1 : i < ds.length
    · rw [List.getElem?_append_left (by simpa using h1), List.getElem?_map] at hi
      cases q : ds[i]? with
      | none => rw [q] at hi; cases hi
      | some d => rw [q] at hi; cases hi; cases hq
    · rw [List.getElem?_append_right (by simpa using h1), List.getElem?_replicate] at hi
      split at hi
      · cases hi; cases hq
      · cases hi
/-- a def by its body over data -/
theorem fn_dl {x qual : Str} {st : Stmt} {f : Addr} {fd : FuncData} {N ps : List Str} {k : Nat} {G : List D → D → Prop} (F : Fun K x qual st f fd) (S : FnScope N ps (defScope st)) (len : ∀ ds d, G ds d → ds.length = ps.length)
    (hbody : ∀ (cdv : Value) (A : Around) (outer : List Env) (s : Shared) (H : Hp) (E : XK), Room k (A.deeper (envOfC qual (defScope st) s.heap.objs.size f cdv)) →
      ∃ t, PSs (cxOf CX0 P w K mg base N qual (defScope st) f cdv A outer s H E).nox (defBody st) t ∧ ∀ F0 H0 ds d, G ds d → StD K T F0 H0 t (envOf N ds) { nx := fun _ => d = .none, rt := fun d' => d' = d }) :
    FnOk P w K mg base CX0 (k + 1) f fd ps (PrD K T G) := by
  refine F.ok S (fun vs H Q E ⟨F, ds, d, _, hd, hg, _⟩ => by rw [dps_len hd]; exact len ds d hg) (fun cdv A outer s H vs Q E hr h => ?_)
  obtain ⟨F0, ds, d, wk, hd, hg, q⟩ := h
  obtain ⟨t, ht, hst⟩ := hbody cdv A outer s H E hr
  refine ⟨t, ht, hst F0 H ds d hg F0 H _ (ok_start wk hd) _ ⟨fun e F' H' σ' p o _ => ?_, fun d' v F' H' p w' n' hv => ?_, fun _ _ _ _ p _ _ => False.elim p, fun _ _ _ _ p _ _ => False.elim p, fun _ _ _ _ _ _ p _ _ => False.elim p⟩⟩
  · have p' : d = .none := p
    subst p'
    exact q .non F' H' o.wk o.nx .non
  · have p' : d' = d := p
    subst p'
    exact q v F' H' w' n' hv
end
end DL
set_option Elab.async false
set_option linter.all false
set_option maxRecDepth 100000
set_option maxHeartbeats 2000000
/-! Promises as functions; the shapes of data that are used. -/
namespace DL
open PySem PySem.Spec PyProof.Rows L2
open Evl (Ex)
abbrev dInts (ns : List Int) : D := .list (ns.map PyData.int)
abbrev dBools (bs : List Bool) : D := .list (bs.map PyData.bool)
def GF {α : Type} (arg : α → List D) (pre : α → Prop) (out : α → D) : List D → D → Prop := fun ds d => ∃ x, ds = arg x ∧ pre x ∧ d = out x
section
variable {P : Program} {w : World} {K : PySem.W.Frag} {mg : Str → Option Value} {base : Heap} {T : List Addr}
theorem fn_gf {x qual : Str} {st : Stmt} {f : Addr} {fd : FuncData} {N ps : List Str} {k : Nat} {α : Type} {arg : α → List D} {pre : α → Prop} {out : α → D} (F : Fun K x qual st f fd) (S : FnScope N ps (defScope st)) (len : ∀ x, (arg x).length = ps.length)
    (hbody : ∀ (cdv : Value) (A : Around) (outer : List Env) (s : Shared) (H : Hp) (E : XK), Room k (A.deeper (envOfC qual (defScope st) s.heap.objs.size f cdv)) →
      ∃ t, PSs (cxOf CX0 P w K mg base N qual (defScope st) f cdv A outer s H E).nox (defBody st) t ∧ ∀ F0 H0 x, pre x → StD K T F0 H0 t (envOf N (arg x)) { nx := fun _ => out x = .none, rt := fun d' => d' = out x }) :
    FnOk P w K mg base CX0 (k + 1) f fd ps (PrD K T (GF arg pre out)) :=
  fn_dl F S (fun ds d ⟨x, e, _, _⟩ => by rw [e]; exact len x) fun cdv A outer s H E hr => by
    obtain ⟨t, ht, h⟩ := hbody cdv A outer s H E hr
    refine ⟨t, ht, fun F0 H0 ds d ⟨x, e, p, o⟩ => ?_⟩
    subst e o
    exact h F0 H0 x p
end
theorem s_env {K : PySem.W.Frag} {T : List Addr} {F0 H0 : Hp} {t : TS} {env env' : List Sl} {P : Po} (e : env = env') (h : StD K T F0 H0 t env' P) : StD K T F0 H0 t env P := e ▸ h
theorem bools_get {bs : List Bool} {k : Nat} {b : Bool} (h : bs[k]? = some b) : atI (bs.map PyData.bool) (k : Int) = some (.bool b) := atI_k (by rw [List.getElem?_map, h]; rfl)
theorem ints_get {bs : List Int} {k : Nat} {b : Int} (h : bs[k]? = some b) : atI (bs.map PyData.int) (k : Int) = some (.int b) := atI_k (by rw [List.getElem?_map, h]; rfl)
theorem map_at {α β : Type} {f : α → β} {l : List α} {k : Nat} {d : β} (h : (l.map f)[k]? = some d) : ∃ x, l[k]? = some x ∧ d = f x := by
  rw [List.getElem?_map] at h
  cases e : l[k]? with
  | none => rw [e] at h; cases h
  | some x => rw [e] at h; exact ⟨x, rfl, (Option.some.inj h).symm⟩
theorem line_big {n : Nat} (h : n ≤ 100000) : n ≤ sizeLine := Nat.le_trans h (by decide)
theorem line_lt {n : Nat} (h : n < 100000) : n < sizeLine := Nat.lt_of_lt_of_le h (by decide)
end DL
set_option Elab.async false
set_option linter.all false
set_option maxRecDepth 100000
set_option maxHeartbeats 2000000
/-! all(elt for x in xs): xs a list, the element any expression (calls too) that gives True or False. -/
namespace AG
open PySem PySem.Spec PyProof.Rows L2 GxR GenW
open Sem (wp)

/-- the names of a generator expression's block -/
structure GBlk (N : List Str) (sc scope : Scope) (own : List (Str × Nat)) (x : Str) : Prop where
  blk : BlkOk N sc scope own
  co : scope.isCoroutine = false
  nocell : ∀ y ∈ scope.names, y.2 ≠ .cell
  dot : scope.names.lookup (".0" : Str) = some NameKind.local
  loc : scope.names.lookup x = some .local
/-- the context of the generator's frame -/
abbrev gnX (X : Cx) (A : Around) (s : Shared) (H : Hp) (env : Env) (it : Addr) (pn : List (Addr × Obj)) : Cx :=
  { X with A := A, s_0 := s, H_0 := H, env := env, outer := X.stack, stack := env :: X.stack, ex := [it], fn := fun _ => false, calm := true, pn := pn, xe := fun _ _ => False }
theorem inv_heap {X : Cx} {pins : List (Addr × Obj)} {σ : L2.St} {H : Hp} {s s' : Shared} (I : Inv X pins σ H s) (h : s'.heap = s.heap) (o : s'.os = s.os) (b : AllBare s'.gens) : Inv X pins σ H s' :=
  ⟨I.ok, o.trans I.os, b, by rw [h]; exact I.base, by rw [h]; exact I.loc, by rw [h]; exact I.cell, I.free, I.freeC, by rw [h]; exact I.pin, by rw [h]; exact I.hok, I.len⟩

section
variable {X : Cx} {pins : List (Addr × Obj)} {σ : L2.St} {H : Hp} {s : Shared}
theorem gen_start {scope : Scope} {own : List (Str × Nat)} {x : Str} {it a : Addr} {og : Obj} {A : Around} {code : Value} {h5 : Heap} {G : Array GenState} {tk : Nat} {m : Str → Option Value}
    (I : Inv X pins σ H s) (ok : GBlk X.N X.env.scope scope own x) (hN : X.N.Nodup) (hA : A.handled = none)
    (hfr : A.frames = some (genEnv scope (cloFrom X.env.cells scope.names []) s.heap.objs.size code builtinsNs X.env :: X.stack))
    (hit : FpOk X pins H it) (hlt : it < s.heap.objs.size) (hG : AllBare G) (kp : ∀ b o, s.heap.get? b = some o → h5.get? b = some o) (hns : h5.Ns s.heap.objs.size m)
    (ha : h5.get? a = some og) (hna : s.heap.objs.size < a) (hd : ∀ v, og.data ≠ .cell v) :
    Inv (gnX X A s H (genEnv scope (cloFrom X.env.cells scope.names []) s.heap.objs.size code builtinsNs X.env) it [(a, og)]) [] (wipe σ (own.map (·.2))) H { s with gens := G, toks := tk, heap := h5 } := by
  have hfree : ∀ y ∈ scope.names, y.2 = .free → ∃ c, X.env.cells.lookup y.1 = some c := fun y hy e => by
    rcases ok.blk.free y hy e with k | k
    · exact I.ok.has _ (.inl k)
    · exact I.ok.has _ (.inr k)
  have cm : ∀ {y c}, (cloFrom X.env.cells scope.names []).lookup y = some c → X.env.cells.lookup y = some c := fun {y c} hm => by
    rcases cloFrom_mem (PySem.mem_of_lookup hm) with hm | ⟨h1, rfl⟩
    · cases hm
    · obtain ⟨c, hc⟩ := hfree _ h1 rfl
      rw [hc]
      rfl
  have look : ∀ {y}, scope.names.lookup y = some .free → ∃ c, (cloFrom X.env.cells scope.names []).lookup y = some c ∧ X.env.cells.lookup y = some c := fun {y} hl => by
    obtain ⟨c', e'⟩ := mem_lookup (cloFrom_has (cells := X.env.cells) (acc := []) (PySem.mem_of_lookup hl))
    exact ⟨c', e', cm e'⟩
  have nocell : ∀ y, scope.names.lookup y ≠ some .cell := fun y hy => ok.nocell _ (PySem.mem_of_lookup hy) rfl
  have itfs : it ∉ frs X.stack := fun z => by
    rcases List.mem_cons.mp (I.stkSub it z) with z | z
    · exact hit.2.1 z
    · exact hit.2.2.1 z
  refine ⟨⟨I.ok.mod, ok.blk.kind, I.ok.glob, rfl, Nat.le_refl _, fun y z c e1 e2 => I.ok.inj y z c (cm e1) (cm e2), fun y hy => ?_, fun y c z _ => absurd (show false = true from z) Bool.false_ne_true, fun _ => hA, hfr, .inr ⟨rfl, rfl⟩, fun b hb => ⟨?_, fun y c e => ?_⟩, I.bs, Nat.le_trans I.ok.bsz I.sz, fun b o e hb => ?_, fun b hb => ?_, I.stack, I.stkFree⟩,
    rfl, hG, Un.kept kp, ⟨m, hns, fun i y av e1 e2 e3 => ?_⟩, fun y c e => ?_, I.hok.fresh (Nat.le_refl _), fun y c e => I.freeC y c (cm e), fun p hp => ?_, I.hok.kept kp, by rw [wipe_length]; exact I.len⟩
  · rcases hy with hy | hy
    · exact absurd hy (nocell y)
    · obtain ⟨c, e, _⟩ := look hy
      exact ⟨c, e⟩
  · rw [List.mem_singleton.mp hb]
    exact Nat.ne_of_lt hlt
  · rw [List.mem_singleton.mp hb]
    exact hit.2.2.2.2.1 y c (cm e)
  · rw [List.mem_singleton.mp hb] at e
    rcases hit.2.2.2.1 with z | z
    · exact I.ok.noex it o e z
    · exact absurd (Nat.lt_of_lt_of_le (Heap.lt_size e) (Nat.le_trans I.ok.bsz z)) (Nat.lt_irrefl _)
  · rw [List.mem_singleton.mp hb]
    exact itfs
  · obtain ⟨e2, hne⟩ := wipe_some e2
    have hfr' : scope.names.lookup y = some .free := by
      have e3 : Vis scope y := e3
      rcases e3 with e3 | e3 | e3
      · exfalso
        rcases ok.blk.own _ (PySem.mem_of_lookup e3) (.inl rfl) with e' | e'
        · obtain ⟨p, hp, hpy⟩ := List.mem_map.mp e'
          have e4 := ok.blk.ix p hp
          have : p.1 = y := hpy
          rw [this] at e4
          exact hne (List.mem_map.mpr ⟨p, hp, nodup_ix hN e4 e1⟩)
        · exact e' (List.mem_of_getElem? e1)
      · exact absurd e3 (nocell y)
      · exact e3
    obtain ⟨m', hn, hl⟩ := I.loc
    have hvis : Vis X.env.scope y := (ok.blk.free _ (PySem.mem_of_lookup hfr') rfl).elim (fun k => .inr (.inl k)) (fun k => .inr (.inr k))
    obtain ⟨w, r, q⟩ := hl i y av e1 e2 hvis
    obtain ⟨c, h1, h2⟩ := look hfr'
    refine ⟨w, r, .inr ⟨.inr hfr', ?_⟩⟩
    rcases q with ⟨k, _⟩ | ⟨_, c', e', z⟩
    · have k : X.env.scope.names.lookup y = some .local := k
      rcases ok.blk.free _ (PySem.mem_of_lookup hfr') rfl with k' | k' <;> rw [show X.env.scope.names.lookup y = _ from k'] at k <;> cases k
    · rw [h2] at e'
      cases e'
      exact ⟨c, h1, z.keeps kp⟩
  · obtain ⟨w, z⟩ := I.cell y c (cm e)
    exact ⟨w, z.keeps kp⟩
  · have e : p = (a, og) := by simpa using hp
    subst e
    have hge : s.heap.objs.size ≤ a := Nat.le_of_lt hna
    refine ⟨ha, I.hok.fresh hge, Nat.ne_of_gt hna, fun z => ?_, hd⟩
    rcases List.mem_cons.mp (I.stkSub a z) with z | z
    · have := I.lt
      rw [← z] at this
      exact absurd (Nat.lt_of_lt_of_le this hge) (Nat.lt_irrefl _)
    · exact I.nofs hge z
end

section
variable {X : Cx} {pins : List (Addr × Obj)} {σ : L2.St} {H4 : Hp} {s4 : Shared}
/-- what stands behind a turn of the generator -/
def Out (X : Cx) (H4 : Hp) (s4 : Shared) (it a : Addr) (g : Nat) (s : Shared) (H : Hp) : Prop :=
  s.os = s4.os ∧ AllBare s.gens ∧ Un (frs X.stack) [it] H4 H s4.heap s.heap ∧ HOk X.prog X.w H s.heap ∧ s.heap.IsGen a g ∧ s.heap.NoLimit
def YA (X : Cx) (H4 : Hp) (s4 : Shared) (it a : Addr) (g : Nat) (Q : VK) : Protocol := fun _ _ v s kap =>
  ∃ b H, v = .bool b ∧ Out X H4 s4 it a g s H ∧ (b = false → Q (.bl false) H) ∧ (b = true → ∀ s' : Shared, s'.heap = s.heap → s'.os = s.os → AllBare s'.gens → kap (.send .none) s')
def RA (X : Cx) (H4 : Hp) (s4 : Shared) (it a : Addr) (g : Nat) (Q : VK) : Nat → Shared → Shared → Prop := fun _ _ s => ∃ H, Out X H4 s4 it a g s H ∧ Q (.bl true) H

/-- all's own loop over such a generator -/
theorem drain_all {A : Around} {it a : Addr} {g : Nat} {Q : VK} {R : Result → Shared → Prop} (hh : A.handled = none) (hd : A.depth < recursionLimit)
    (hend : ∀ b s' H, s'.os = s4.os → AllBare s'.gens → Un (frs X.stack) [it] H4 H s4.heap s'.heap → HOk X.prog X.w H s'.heap → Q (.bl b) H → R (.ok (.ret (.bool b))) s') :
    ∀ (k : Nat) (s : Shared), s.heap.IsGen a g → s.heap.NoLimit → (∃ gs, s.gens[g]? = some gs ∧ gs.Goes (model X.prog X.w) A.in1.in1 (fun n s₀ r s₁ => r = .ok .next ∧ RA X H4 s4 it a g Q n s₀ s₁) (YA X H4 s4 it a g Q) k (.send .none) (s.setGen g .running)) →
      codeAny (model X.prog X.w) A (.builtin "all.loop" ⟨[.ref a], []⟩) R s := by
  intro k
  induction k with
  | zero =>
    intro s hg hl ⟨gs, hgs, hgo⟩
    refine codeAny_builtin F.entry_all_loop ?_
    rw [Around.under_plainId F.plain_all_loop _]
    show wpAny _ A.in1 (pyNext (.ref a) >>= _) _ _ s
    refine wpAny_bind (wpAny_pyNext_genexpQ (A := A.in1) (P := RA X H4 s4 it a g Q) hh hl hd hg hgs hgo (fun v s₁ gs' hbare hv => ?_) (fun s₁ hp h' hk => ?_))
    · obtain ⟨b, H, rfl, ⟨o1, o2, o3, o4, o5, o6⟩, h0, h1⟩ := hv
      refine wpAny_bind (wpAny_holding (wpAny_truthy_bool ?_))
      refine wpAny_bind (wpAny_letGo ?_)
      cases b with
      | true => exact False.elim (h1 rfl s₁ rfl rfl o2)
      | false =>
        simp only [Bool.false_eq_true, if_false]
        refine wpAny_bind (wpAny_rule (wpAny_pure ?_))
        exact hend false _ H o1 (allBare_setGen o2 hbare) o3 o4 (h0 rfl)
    · obtain ⟨H, ⟨o1, o2, o3, o4, o5, o6⟩, hq⟩ := hp
      refine wpAny_bind (wpAny_rule (wpAny_pure ?_))
      exact hend true _ H o1 (allBare_setGen o2 rfl) (o3.trans (Un.kept hk)) (o4.kept hk) hq
  | succ k ih =>
    intro s hg hl ⟨gs, hgs, hgo⟩
    have hgl : g < s.gens.size := (Array.getElem?_eq_some_iff.mp hgs).1
    refine codeAny_builtin F.entry_all_loop ?_
    rw [Around.under_plainId F.plain_all_loop _]
    show wpAny _ A.in1 (pyNext (.ref a) >>= _) _ _ s
    refine wpAny_bind (wpAny_gsz (n := g + 1) hgl (wpAny_pyNext_genexpQ (A := A.in1) (P := RA X H4 s4 it a g Q) hh hl hd hg hgs hgo (fun v s₁ gs' hbare hv => ?_) (fun s₁ hp h' hk => ?_)))
    · intro hsz
      obtain ⟨b, H, rfl, ⟨o1, o2, o3, o4, o5, o6⟩, h0, h1⟩ := hv
      refine wpAny_bind (wpAny_holding (wpAny_truthy_bool ?_))
      refine wpAny_bind (wpAny_letGo ?_)
      cases b with
      | true =>
        simp only [if_true]
        have hsz1 : g < s₁.gens.size := by
          have q : (s₁.setGen g gs').gens.size = s₁.gens.size := setGen_size _ _ _
          omega
        refine wpAny_pure ⟨plainId_quiet F.plain_all_loop _, ih _ o5 o6 ⟨gs', setGen_at hsz1, ?_⟩⟩
        exact h1 rfl _ rfl rfl (allBare_setGen (s := s₁.setGen g gs') (allBare_setGen o2 hbare) rfl)
      | false =>
        simp only [Bool.false_eq_true, if_false]
        refine wpAny_bind (wpAny_rule (wpAny_pure ?_))
        exact hend false _ H o1 (allBare_setGen o2 hbare) o3 o4 (h0 rfl)
    · intro hsz
      obtain ⟨H, ⟨o1, o2, o3, o4, o5, o6⟩, hq⟩ := hp
      refine wpAny_bind (wpAny_rule (wpAny_pure ?_))
      exact hend true _ H o1 (allBare_setGen o2 rfl) (o3.trans (Un.kept hk)) (o4.kept hk) hq
end

section
variable {X : Cx} {pins : List (Addr × Obj)} {σ : L2.St} {H4 : Hp} {s4 : Shared}
/-- the generator's own loop from its i-th item on -/
theorem seg_all {A0 A : Around} {scope : Scope} {own : List (Str × Nat)} {x : Str} {j : Nat} {px pos : Pos} {elt iter : Expr} {it a l : Addr} {g : Nat} {og : Obj} {cenv : Env} {te : TE} {xs : List V} {Q : VK} {W : Nat → Hp → Prop}
    (hN : X.N.Nodup) (hj : X.N[j]? = some x) (hov : A0.over (.compLoop (.GeneratorExp elt [⟨.Name x px, iter, [], 0⟩] scope pos) 0 (.ref it) .none cenv) [] = A) (hsc : cenv.scope = scope) (hco : scope.isCoroutine = false)
    (hx : scope.names.lookup x = some .local) (hov2 : own = [(x, j)])
    (hgen : ∀ h : Heap, h.get? a = some og → h.IsGen a g) (hia : a ≠ it)
    (hel : PE (gnX X A s4 H4 cenv it [(a, og)]) elt te)
    (wl : ∀ i H, i ≤ xs.length → W i H → SqL X.K H l xs)
    (wt : ∀ i v H, xs[i]? = some v → W i H → te ((wipe σ (own.map (·.2))).set j (some v)) H fun y H' => ∃ b, y = .bl b ∧ if b = true then W (i + 1) H' else Q (.bl false) H')
    (we : ∀ H, W xs.length H → Q (.bl true) H) :
    ∀ (k i : Nat) (s₀ s : Shared) (H : Hp), xs.length - i = k → i ≤ xs.length → Inv (gnX X A s4 H4 cenv it [(a, og)]) [] (wipe σ (own.map (·.2))) H s → s.heap.IsListIter it l i → H it = none → W i H →
      Seg (model X.prog X.w) A0 (fun n s₀ r s₁ => r = .ok .next ∧ RA X H4 s4 it a g Q n s₀ s₁) (YA X H4 s4 it a g Q) k s₀
        (.compLoop (.GeneratorExp elt [⟨.Name x px, iter, [], 0⟩] scope pos) 0 (.ref it) .none cenv)
        ((model X.prog X.w).den (.compLoop (.GeneratorExp elt [⟨.Name x px, iter, [], 0⟩] scope pos) 0 (.ref it) .none cenv)) [] s := by
  subst hov2
  have stat : ∀ {σ' : L2.St} {H' : Hp} {s' : Shared}, Inv (gnX X A s4 H4 cenv it [(a, og)]) [] σ' H' s' → H' it = none → ∀ b ∈ [it], FpOk (gnX X A s4 H4 cenv it [(a, og)]) [] H' b := fun {σ' H' s'} I' hn b hb => by
    have e := List.mem_singleton.mp hb
    subst e
    refine ⟨hn, (I'.ok.exf b hb).1, I'.ok.exfs b hb, .inl hb, fun y c e => (I'.ok.exf b hb).2 y c e, fun p hp z => ?_⟩
    have e : p = (a, og) := by simpa using hp
    subst e
    exact hia z
  have out : ∀ {σ' : L2.St} {H' : Hp} {s' : Shared}, Inv (gnX X A s4 H4 cenv it [(a, og)]) [] σ' H' s' → Out X H4 s4 it a g s' H' := fun {σ' H' s'} I' =>
    ⟨I'.os, I'.bare, I'.base, I'.hok, hgen _ (I'.pin (a, og) (List.mem_append_left _ List.mem_cons_self)).1, I'.nolimit⟩
  intro k
  induction k with
  | zero =>
    intro i s₀ s H hk hi I st hn w
    have hin : i = xs.length := by omega
    subst hin
    show Seg _ A0 _ _ _ s₀ _ ((compTurn (.GeneratorExp elt [⟨.Name x px, iter, [], 0⟩] scope pos) 0 (.ref it) .none cenv).onRaise (leaving cenv)) [] s
    rw [compTurn_gen, Sem.onRaise_eq_wrap]
    refine seg_bind_wrap (wpAny_standAt ?_)
    have td := (turn_list (P := X.prog) (w := X.w) (K := X.K) (tg := .Name x px) l it).done (gnX X A s4 H4 cenv it [(a, og)]) rfl rfl rfl rfl xs.length [] s _ H (fun _ _ => False) I (stat I hn) st ⟨xs, wl _ _ (Nat.le_refl _) w, Nat.le_refl _⟩
    refine seg_bind_wrap ?_
    rw [hov]
    refine thnF td fun r s6 ⟨hr, I6⟩ => ?_
    subst hr
    exact seg_end (.ok .next) ⟨rfl, H, out I6, we H w⟩
  | succ k ih =>
    intro i s₀ s H hk hi I st hn w
    have hlt : i < xs.length := by omega
    have gx : xs[i]? = some xs[i] := List.getElem?_eq_getElem hlt
    show Seg _ A0 _ _ _ s₀ _ ((compTurn (.GeneratorExp elt [⟨.Name x px, iter, [], 0⟩] scope pos) 0 (.ref it) .none cenv).onRaise (leaving cenv)) [] s
    rw [compTurn_gen, Sem.onRaise_eq_wrap]
    refine seg_bind_wrap (wpAny_standAt ?_)
    have T := turn_list (P := X.prog) (w := X.w) (K := X.K) (tg := .Name x px) l it
    have ti := T.item (gnX X A s4 H4 cenv it [(a, og)]) rfl rfl rfl rfl i [] s _ H (fun _ _ => False) I (stat I hn) st ⟨xs, xs[i], wl _ _ hi w, gx⟩
    refine seg_bind_wrap ?_
    rw [hov]
    refine thnF ti fun r s6 ⟨u, hr, h6⟩ => ?_
    subst hr
    refine seg_bind_wrap ?_
    rw [hov]
    refine thnF h6 fun _ s7 ⟨y, H7, I7, r7, y7, st7, n7⟩ => ?_
    obtain ⟨eH, ey⟩ := y7
    subst eH
    have ey2 : xs[i]? = some y := ey xs (wl _ _ hi w)
    have I7' := I7.pinned (stat I7 (n7 it (List.mem_singleton.mpr rfl))) (T.obj _ _ st7)
    refine seg_bind_wrap ?_
    rw [hov]
    have pg : PG (gnX X A s4 H4 cenv it [(a, og)]) (.Name x px) (gName j) := pg_name hN hj (.inl (by show cenv.scope.names.lookup x = some .local; rw [hsc]; exact hx)) (.inr (by show cenv.scope.names.lookup x = some .local; rw [hsc]; exact hx))
    refine thnF (pg.run _ s7 _ H7 y u (fun σ' H' => σ' = (wipe σ [j]).set j (some y) ∧ H' = H7) I7' r7 ⟨rfl, rfl⟩) fun _ s8 ⟨σ8, H8, I8, e8, e9⟩ => ?_
    subst e8 e9
    refine seg_bind_wrap (wpAny_tests_nil ?_)
    simp only [if_true]
    have hy : ∀ v, yieldOut cenv v = yieldValue v := fun v => by simp only [yieldOut, hsc, hco, Bool.false_eq_true, if_false]
    simp only [hy]
    rw [Sem.bind_eq_wrap', Sem.bind_eq_wrap', Sem.wrap_wrap, Sem.wrap_wrap]
    refine seg_wrap ?_
    rw [hov]
    refine thnF (hel.run _ s8 _ _ _ I8 (wt i y _ ey2 w)) fun z s10 ⟨yv, H10, I10, r10, b, eb, q10⟩ => ?_
    subst eb
    have ez : z = Value.bool b := r10
    subst ez
    have I11 : Inv (gnX X A s4 H4 cenv it [(a, og)]) [] (wipe σ [j]) H10 s10 := (I10.unpinned (pins := [])).weak (by simp) (fun k v e => by
      have q : wipe ((wipe σ [j]).set j (some y)) [j] = wipe σ [j] := DL.wipe_one
      rw [← q] at e
      exact (wipe_some e).1)
    have pin' : ∀ o, s7.heap.get? it = some o → s10.heap.get? it = some o ∧ H10 it = none := fun o e =>
      let z := I10.pin (it, o) (List.mem_append_right _ (List.mem_append_right _ (mem_pinsAt (List.mem_singleton.mpr rfl) e)))
      ⟨z.1, z.2.1⟩
    obtain ⟨oi, eoi, _⟩ := T.obj _ _ st7 it (List.mem_singleton.mpr rfl)
    have n10 := (pin' oi eoi).2
    have st10 : s10.heap.IsListIter it l (i + 1) := T.keep _ _ _ st7 fun c hc o e => by
      rw [List.mem_singleton.mp hc] at e ⊢
      exact (pin' o e).1
    refine seg_at (seg_yield rfl rfl rfl ⟨b, H10, rfl, out I11, fun hb => ?_, fun hb s'' h1 h2 h3 => ?_⟩)
    · rw [hb] at q10
      simpa using q10
    · rw [hb] at q10
      have w10 : W (i + 1) H10 := by simpa using q10
      refine seg_again rfl (ih (i + 1) s'' s'' H10 (by omega) hlt (inv_heap I11 h1 h2 h3) ?_ n10 w10)
      rw [h1]
      exact st10
theorem seg_allStart {A0 A : Around} {scope : Scope} {own : List (Str × Nat)} {x : Str} {j : Nat} {px pos : Pos} {elt iter : Expr} {it a l : Addr} {g : Nat} {og : Obj} {cenv : Env} {te : TE} {xs : List V} {Q : VK} {W : Nat → Hp → Prop}
    (hN : X.N.Nodup) (hj : X.N[j]? = some x) (hov : A0.over (.compLoop (.GeneratorExp elt [⟨.Name x px, iter, [], 0⟩] scope pos) 0 (.ref it) .none cenv) [] = A) (hsc : cenv.scope = scope) (hco : scope.isCoroutine = false)
    (hx : scope.names.lookup x = some .local) (hov2 : own = [(x, j)])
    (hgen : ∀ h : Heap, h.get? a = some og → h.IsGen a g) (hia : a ≠ it)
    (hel : PE (gnX X A s4 H4 cenv it [(a, og)]) elt te)
    (wl : ∀ i H, i ≤ xs.length → W i H → SqL X.K H l xs)
    (wt : ∀ i v H, xs[i]? = some v → W i H → te ((wipe σ (own.map (·.2))).set j (some v)) H fun y H' => ∃ b, y = .bl b ∧ if b = true then W (i + 1) H' else Q (.bl false) H')
    (we : ∀ H, W xs.length H → Q (.bl true) H) (s₀ s : Shared) (H : Hp)
    (I : Inv (gnX X A s4 H4 cenv it [(a, og)]) [] (wipe σ (own.map (·.2))) H s) (st : s.heap.IsListIter it l 0) (hn : H it = none) (w : W 0 H) :
      Seg (model X.prog X.w) A0 (fun n s₀ r s₁ => r = .ok .next ∧ RA X H4 s4 it a g Q n s₀ s₁) (YA X H4 s4 it a g Q) xs.length s₀
        (.compStart (.GeneratorExp elt [⟨.Name x px, iter, [], 0⟩] scope pos) 0 (.ref it) .none cenv)
        ((model X.prog X.w).den (.compStart (.GeneratorExp elt [⟨.Name x px, iter, [], 0⟩] scope pos) 0 (.ref it) .none cenv)) [] s := by
  have loop := seg_all (iter := iter) (px := px) (pos := pos) (A0 := A0) hN hj hov hsc hco hx hov2 hgen hia hel wl wt we xs.length 0 s₀ s H (Nat.sub_zero _) (Nat.zero_le _) I st hn w
  show Seg _ A0 _ _ _ s₀ _ ((compStart (.GeneratorExp elt [⟨.Name x px, iter, [], 0⟩] scope pos) 0 (.ref it) .none cenv).onRaise (leaving cenv)) [] s
  unfold compStart
  rw [Sem.onRaise_eq_wrap]
  show Seg _ A0 _ _ _ s₀ _ ((ask >>= _).wrap _ _ _ _) [] s
  refine seg_bind_wrap (wpAny_askSetting ?_)
  split
  · exact seg_again rfl loop
  · first
      | exact seg_bind_wrap (wpAny_rule (seg_bind_wrap (wpAny_standAt (seg_bind_wrap (wpAny_pyIter_listiter st (seg_again rfl loop))))))
      | (refine seg_bind_wrap (wpAny_rule ?_); show Seg _ A0 _ _ _ s₀ _ ((standAt iter.pos >>= _).wrap _ _ _ _) [] s; exact seg_bind_wrap (wpAny_standAt (seg_bind_wrap (wpAny_pyIter_listiter st (seg_again rfl loop)))))
end

section
variable {X : Cx}
/-- all(elt for x in xs): te the list, telt the element; W: a word of the turn and the heap; P: the table of the def's code, which may grow -/
def tAllG (K : PySem.W.Frag) (P : Addr) (j : Nat) (vs : List Nat) (tl telt : TE) : TE := fun σ H Q => tl σ H fun v H1 => ∃ l xs, v = .ref l ∧ SqL K H1 l xs ∧ TabG H1 P ∧ ∃ W : Nat → Hp → Prop, (∀ H2, Tabbed P H1 H2 → W 0 H2) ∧
  (∀ i H, i ≤ xs.length → W i H → SqL K H l xs) ∧
  (∀ i v H, xs[i]? = some v → W i H → telt ((wipe σ vs).set j (some v)) H fun y H' => ∃ b, y = .bl b ∧ if b = true then W (i + 1) H' else Q (.bl false) H') ∧ ∀ H, W xs.length H → Q (.bl true) H
theorem boot_all' : bootBuiltins "all" = some (.builtin "all") := by decide +kernel
theorem pe_allG {c P : Addr} {elt iter : Expr} {x : Str} {j : Nat} {px p pos gpos : Pos} {scope : Scope} {tl telt : TE} {k : Nat}
    (hr : Room (k + 1) X.A) (hN : X.N.Nodup) (hj : X.N[j]? = some x) (hg : Gl X "all") (hm : X.mg "all" = none) (TB : TabB X.base X.mg c P) (hcode : X.env.code = .ref c) (S : GBlk X.N X.env.scope scope [(x, j)] x) (hi : PE X iter tl)
    (hel : ∀ (A : Around) (s : Shared) (H : Hp) (C : Addr) (cl : List (Str × Addr)) (code : Value) (it : Addr) (pn : List (Addr × Obj)), Room k A → PE (gnX X A s H (genEnv scope cl C code builtinsNs X.env) it pn) elt telt)
    (hs : ∀ v, genFold iter X.env v = pure v := by intro _; rfl)
    (he : starEach [.GeneratorExp elt [⟨.Name x px, iter, [], 0⟩] scope gpos] X.env = (false, eval (.GeneratorExp elt [⟨.Name x px, iter, [], 0⟩] scope gpos) X.env) :: starEach [] X.env := by rfl) :
    PE X (.Call (.Name "all" p) [.GeneratorExp elt [⟨.Name x px, iter, [], 0⟩] scope gpos] [] pos) (tAllG X.K P j [j] tl telt) := by
  refine ⟨fun pins s σ H Q I h => ?_⟩
  refine wpAny_Call_Name_kw (ld_blt I hg hm boot_all' ?_)
  refine PyProof.Rows.callWith_builtin1 ?_ he (by rfl)
  rw [he]
  show wpAny _ _ (spliced ((false, eval (.GeneratorExp elt [⟨.Name x px, iter, [], 0⟩] scope gpos) X.env) :: backTo pos (starEach [] X.env))) _ _ s
  refine Calls.spliced_cons ?_
  refine wpAny_GeneratorExp_make S.co (closure_ok fun y hy e => (S.blk.free y hy e).elim (fun k => I.ok.has _ (.inl k)) fun k => I.ok.has _ (.inr k)) S.nocell S.dot S.blk.kind hr.depth ?_ hs
  refine thn (hi.run pins s σ H _ I h) fun xv s1 ⟨v, H1, I1, r1, q1⟩ => ?_
  obtain ⟨l, xs, rfl, hl, ⟨ps, hP, ht⟩, W, w0, wl, wt, we⟩ := q1
  obtain rfl : xv = Value.ref l := r1
  obtain ⟨its, rv, pl, hz⟩ := I1.list hl
  refine wpAny_pyIter_list pl.isList ?_
  have hf1 := I1.hok.fresh (Nat.le_refl s1.heap.objs.size)
  generalize hoi : ({ cls := .type "list_iterator", data := .fields #[.ref l, .int 0 0] } : Obj) = oi
  have hoi' := hoi
  have hPs : s1.heap.get? P = some { cls := .none, data := .fields ps } := I1.hok P _ hP
  have hP2 : (s1.heap.push oi).get? P = some { cls := .none, data := .fields ps } := Heap.get?_push_of_some _ hPs
  have cd : PySem.W.CodeHd (s1.heap.push oi) c P := TB.code.keeps fun b u e => Heap.get?_push_of_some _ (I1.bk b u e)
  have hPlt : P < s1.heap.objs.size := Heap.lt_size hPs
  have lim2 : (s1.heap.push oi).NoLimit := I1.nolimit.push oi
  have sz2 : (s1.heap.push oi).objs.size = s1.heap.objs.size + 1 := Heap.size_push ..
  have eit : (s1.heap.push oi).get? s1.heap.objs.size = some oi := by
    rw [← hoi]
    exact Heap.get?_push_size _ rfl
  have cont : ∀ (code : Value) (h3 : Heap) (tk : Nat) (ps' : Array Value), Heap.ExtBut P (s1.heap.push oi) h3 → (s1.heap.push oi).objs.size ≤ h3.objs.size → h3.get? P = some { cls := .none, data := .fields ps' } → (∃ more, ps' = ps ++ more) → TriplesOk ps'.toList →
      wpAny (model X.prog X.w) X.A (builtinsFor X.env.globals X.env.builtins) (fun bi s₄ =>
        ∀ h', h'.Ns s₄.heap.objs.size (fun y => if y = ".0" then some (.ref s1.heap.objs.size) else none) → Heap.SameBut s₄.heap.objs.size (s₄.heap.push { cls := .type "frame", data := .dict #[] }) h' →
          wpAny (model X.prog X.w) X.A (spliced (backTo pos (starEach [] X.env))) (fun vs s₂ => wpAny (model X.prog X.w) X.A (call (.builtin "all") (.ref h'.objs.size :: vs)) (EP X pins σ Q) X.xe s₂) X.xe { s₄ with
            gens := s₄.gens.push (.fresh (.compStart (.GeneratorExp elt [⟨.Name x px, iter, [], 0⟩] scope gpos) 0 (.ref s1.heap.objs.size) .none (genEnv scope (cloFrom X.env.cells scope.names []) s₄.heap.objs.size code bi X.env))),
            toks := s₄.toks + 1 + 1 + 1,
            heap := h'.push { cls := .type "generator", data := .fields #[.int s₄.gens.size 0, .str "<genexpr>" (s₄.toks + 1), .str (X.env.qual ++ "<genexpr>") (s₄.toks + 1 + 1)] } }) X.xe { s1 with heap := h3, toks := tk } := by
    intro code h3 tk ps' hx hsz hP3 hmore ht3
    obtain ⟨bm, ob, e1, e2, e3, e4, e5, e6, e7, e8⟩ := TB.bm
    have keep3 : ∀ b u, b ≠ P → s1.heap.get? b = some u → h3.get? b = some u := fun b u hb e => hx b u hb (Heap.get?_push_of_some _ e)
    refine wpAny_builtinsFor (m := X.mg) (by rw [I1.ok.glob]; exact ((I1.mod.glob.keeps I1.bk).push oi).extBut hx TB.gP) e1 e2 (keep3 _ _ e4 (I1.bk _ _ e5)) e6 e7 e8 ?_
    intro h' hns hsb
    refine Calls.spliced_nil ?_
    obtain ⟨more, em⟩ := hmore
    have I4 : Inv X pins σ (upd H1 P (.tbl ps')) { s1 with heap := h3, toks := tk } := by
      rw [em]
      exact inv_tab (more := more) (g' := s1.gens) (d' := s1.drawn) I1 hP keep3 (by rw [← em]; exact hP3) I1.bare
    have szh : h'.objs.size = h3.objs.size + 1 := by rw [hsb.1, Heap.size_push]
    have itP : s1.heap.objs.size ≠ P := Nat.ne_of_gt hPlt
    have ith3 : s1.heap.objs.size < h3.objs.size := by omega
    generalize hog : ({ cls := .type "generator", data := .fields #[.int s1.gens.size 0, .str "<genexpr>" (tk + 1), .str (X.env.qual ++ "<genexpr>") (tk + 1 + 1)] } : Obj) = og
    have keep' : ∀ b o, h3.get? b = some o → h'.get? b = some o := fun b o e => hsb.extBut b o (Nat.ne_of_lt (Heap.lt_size e)) (Heap.get?_push_of_some _ e)
    have keep5 : ∀ b o, h3.get? b = some o → (h'.push og).get? b = some o := fun b o e => Heap.get?_push_of_some _ (keep' b o e)
    have eog : (h'.push og).get? h'.objs.size = some og := by
      rw [← hog]
      exact Heap.get?_push_size _ rfl
    have hgen : ∀ h : Heap, h.get? h'.objs.size = some og → h.IsGen h'.objs.size s1.gens.size := fun h e => ⟨og, _, _, e, by rw [← hog], by rw [← hog], by rw [← hog]⟩
    generalize hcode' : (Code.compLoop (.GeneratorExp elt [⟨.Name x px, iter, [], 0⟩] scope gpos) 0 (.ref s1.heap.objs.size) .none (genEnv scope (cloFrom X.env.cells scope.names []) h3.objs.size code builtinsNs X.env)) = cd0
    have hA : (X.A.in1.in1.over cd0 []).handled = none := hr.hd
    have hfr : (X.A.in1.in1.over cd0 []).frames = some (genEnv scope (cloFrom X.env.cells scope.names []) h3.objs.size code builtinsNs X.env :: X.stack) := by
      rw [← hcode']
      unfold Around.over
      show pushEnvs [genEnv scope (cloFrom X.env.cells scope.names []) h3.objs.size code builtinsNs X.env] X.A.frames = _
      rw [I1.ok.frames]
      rfl
    have hroom : Room k (X.A.in1.in1.over cd0 []) := by
      rw [← hcode']
      refine ⟨hr.hd, ?_, ?_⟩
      · have := hr.dp
        show X.A.depth + 0 + 1 + 3 * k + 5 < _
        omega
      · have := hr.un
        show X.A.units + 1 + 1 + 0 + 3 + 16 * k + 200 < _
        omega
    have fit : FpOk X pins (upd H1 P (.tbl ps')) s1.heap.objs.size := I1.fpOk (Nat.le_refl _) (by rw [upd_ne itP]; exact hf1)
    have gb : AllBare (s1.gens.push (GenState.fresh (.compStart (.GeneratorExp elt [⟨.Name x px, iter, [], 0⟩] scope gpos) 0 (.ref s1.heap.objs.size) .none (genEnv scope (cloFrom X.env.cells scope.names []) h3.objs.size code builtinsNs X.env)))) := I1.bare.push rfl
    have IG := gen_start (tk := tk + 1 + 1 + 1) (A := X.A.in1.in1.over cd0 []) (code := code) (own := [(x, j)]) (og := og) (a := h'.objs.size) (h5 := h'.push og) I4 S hN hA hfr fit ith3 gb keep5 (hns.push _) eog (by show h3.objs.size < h'.objs.size; omega) (fun v z => by rw [← hog] at z; cases z)
    have st5 : (h'.push og).IsListIter s1.heap.objs.size l 0 := by
      refine ⟨oi, keep5 _ _ (hx _ _ itP eit), ?_, ?_⟩
      · rw [← hoi]
      · rw [← hoi]
        rfl
    have hia : h'.objs.size ≠ s1.heap.objs.size := by
      have q : s1.heap.objs.size < h'.objs.size := by omega
      exact Nat.ne_of_gt q
    have wz : W 0 (upd H1 P (.tbl ps')) := w0 _ ⟨⟨ps', upd_same, ht3⟩, fun b hb => upd_ne hb⟩
    refine call_function_tree F.kind_all F.plain_all F.entry_all (F.args_all1 _) ?_
    unfold Builtin.«all»
    refine wpAny_bind (m := oneArg "all" _) (wpAny_pure ?_)
    refine wpAny_bind (wpAny_pyIter_gen (hgen _ eog) ?_)
    refine wpAny_pure ⟨plainId_quiet F.plain_all_loop _, drain_all (X := X) (H4 := upd H1 P (.tbl ps')) (s4 := { s1 with heap := h3, toks := tk }) (it := s1.heap.objs.size) (Q := Q) hr.hd hr.depth (fun b s' H o1 o2 o3 o4 o5 => ?_) xs.length _ (hgen _ eog) (IG.nolimit) ⟨_, Array.getElem?_push_size .., rfl, ?_⟩⟩
    · refine ⟨.bl b, H, I4.call' (ch := [s1.heap.objs.size]) o1 o3 o4 o2 (fun b hb => ?_), rfl, o5⟩
      rw [List.mem_singleton.mp hb]
      exact ⟨fit.2.2.2.1, fit.2.1, fit.2.2.2.2.1, fit.2.2.2.2.2⟩
    · refine seg_allStart (own := [(x, j)]) (j := j) (A := X.A.in1.in1.over cd0 []) (l := l) (xs := xs) (W := W) (te := telt) hN hj (by rw [← hcode']; rfl) rfl S.co S.loc rfl hgen hia (hel _ _ _ _ _ _ _ _ hroom) wl wt we _ _ (upd H1 P (.tbl ps')) (inv_heap IG rfl rfl (allBare_setGen gb rfl)) st5 fit.1 wz
  refine ⟨lim2, ?_⟩
  cases hf : codeAmong gpos ps.toList with
  | none =>
    refine wpAny_genexprCodeX hcode (cd.code hP2 ht) (cd.tab hP2) hf fun c' h' tk hx hge hlt hco' _ htab' _ => ?_
    obtain ⟨o1, vs, f1, tf, fl, tg, inF, tx, tt, op, _, _, _, _, _, _, _, _, _, htr, _⟩ := hco'
    exact cont _ h' tk _ hx (Nat.le_trans hge (Nat.le_of_lt hlt)) htab'.2 ⟨_, rfl⟩ htr
  | some cv =>
    refine wpAny_genexprCode_hit hcode (cd.code hP2 ht) hf ?_
    exact cont cv (s1.heap.push oi) s1.toks ps (Heap.ExtBut.refl _ _) (Nat.le_refl _) hP2 ⟨#[], by simp⟩ ht
end
end AG
set_option Elab.async false
set_option linter.all false
set_option maxRecDepth 100000
set_option maxHeartbeats 2000000
/-! all(..) by data; defs whose code object is known; the law's own call. -/
namespace DL
open PySem PySem.Spec PyProof.Rows L2
open Evl (Ex)
section
variable {K : PySem.W.Frag} {T : List Addr} {env : List Sl} {tl te : TE} {j : Nat}
theorem Wk.tabbed {F H H2 : Hp} {P : Addr} (w : Wk T F H) (hP : P ∈ T) (t : GxR.Tabbed P H H2) : Wk T F H2 ∧ Nx T F H F H2 := by
  have nP := (w.tab P hP).2
  refine ⟨⟨fun a o e => ?_, fun R hR => ?_⟩, Ex.refl F, fun a o e n => ?_, fun _ _ _ n => n⟩
  · have ha : a ≠ P := fun z => by rw [z, nP] at e; cases e
    rw [t.2 a ha]
    exact w.sub a o e
  · by_cases h : R = P
    · subst h
      exact ⟨t.1, nP⟩
    · obtain ⟨⟨ps, e, tr⟩, n⟩ := w.tab R hR
      exact ⟨⟨ps, (t.2 R h).trans e, tr⟩, n⟩
  · have ha : a ≠ P := fun z => n (z ▸ hP)
    rw [t.2 a ha]
    exact e
theorem all_take_succ {p : D → Bool} {ds : List D} {k : Nat} {d : D} (h : ds[k]? = some d) (ht : (ds.take k).all p = true) (hp : p d = true) : (ds.take (k + 1)).all p = true := by
  rw [List.take_add_one, h, List.all_append, ht]
  simp [hp]
theorem d_all {ds : List D} {P : Addr} (p : D → Bool) (hP : P ∈ T) (h : EvD K T tl env (.list ds))
    (hs : ∀ (k : Nat) d, ds[k]? = some d → (ds.take k).all p = true → EvD K T te ((env.set j .no).set j (.dat d)) (.bool (p d))) : EvD K T (AG.tAllG K P j [j] tl te) env (.bool (ds.all p)) := fun F0 H0 F H σ o Q q =>
  h F0 H0 F H σ o _ fun v F1 H1 w1 n1 d1 => by
    cases d1 with
    | @lst a xs _ hsq hdd =>
      refine ⟨a, xs, rfl, Evl.ex_l w1.sub hsq, (w1.tab P hP).1, fun i H' => ∃ F', Wk T F' H' ∧ Nx T F1 H1 F' H' ∧ (ds.take i).all p = true, fun H2 ht => ?_, fun i H' _ ⟨F', w', n', _⟩ => Evl.ex_l (n'.exF.trans w'.sub) hsq, fun i x H' hi ⟨F', w', n', ha⟩ => ?_, fun H' ⟨F', w', n', ha⟩ => ?_⟩
      · obtain ⟨a1, a2⟩ := w1.tabbed hP ht
        exact ⟨F1, a1, a2, rfl⟩
      · obtain ⟨d, hd1, hx⟩ := dps_getV hdd hi
        have o1 : Ok K T F0 H0 F' H' ((wipe σ [j]).set j (some x)) ((env.set j .no).set j (.dat d)) := (((o.step w1 n1).step w' n').wipe (i := j) none).set (dp_mono n'.exF _ _ hx)
        refine hs i d hd1 ha F0 H0 F' H' _ o1 _ fun y F2 H2 w2 n2 d2 => ?_
        cases d2
        refine ⟨p d, rfl, ?_⟩
        have n12 := n'.trans w' n2
        cases hp : p d with
        | true => exact iteT ⟨F2, w2, n12, all_take_succ hd1 ha hp⟩
        | false =>
          refine iteF (q _ F2 H2 w2 (n1.trans w1 n12) ?_)
          have e : ds.all p = false := by
            cases z : ds.all p with
            | false => rfl
            | true =>
              rw [List.all_eq_true] at z
              rw [z d (List.mem_of_getElem? hd1)] at hp
              cases hp
          rw [e]
          exact .bl false
      · rw [dps_len hdd, List.take_length] at ha
        rw [ha] at q
        exact q _ F' H' w' (n1.trans w1 n') (.bl true)
end
/-- a def, its code object known -/
structure FunC (K : PySem.W.Frag) (x qual : Str) (st : Stmt) (f : Addr) (fd : FuncData) (c : Addr) : Prop where
  ex : ∃ (oc : Value) (od : Option Addr) (kV doc pm : Value) (an : Option Addr) (ct : Value) (osl : Array (Option Value)),
    fd = PySem.W.fnOf x qual (defArgs st) (defBody st) (defScope st) .none kV doc pm an (.ref c) ct ∧ K.lookup f = some ⟨oc, od, .func fd, osl⟩ ∧ PySem.W.codeIn K (.ref c) qual = true
theorem func_mk {K : PySem.W.Frag} {x qual : Str} {st : Stmt} {f : Addr} {oc : Value} {od an : Option Addr} {osl : Array (Option Value)} {kV doc pm ct : Value} {c : Addr} (l : K.lookup f = some ⟨oc, od, .func (PySem.W.fnOf x qual (defArgs st) (defBody st) (defScope st) .none kV doc pm an (.ref c) ct), osl⟩)
    (h : PySem.W.codeIn K (.ref c) qual = true) : FunC K x qual st f (PySem.W.fnOf x qual (defArgs st) (defBody st) (defScope st) .none kV doc pm an (.ref c) ct) c := ⟨⟨oc, od, kV, doc, pm, an, ct, osl, rfl, l, h⟩⟩
section
variable {P : Program} {w : World} {K : PySem.W.Frag} {mg : Str → Option Value} {base : Heap} {T : List Addr}
theorem fn_gfC {x qual : Str} {st : Stmt} {f c : Addr} {fd : FuncData} {N ps : List Str} {k : Nat} {α : Type} {arg : α → List D} {pre : α → Prop} {out : α → D} (F : FunC K x qual st f fd c) (S : FnScope N ps (defScope st)) (len : ∀ x, (arg x).length = ps.length)
    (hbody : ∀ (A : Around) (outer : List Env) (s : Shared) (H : Hp) (E : XK), Room k (A.deeper (envOfC qual (defScope st) s.heap.objs.size f (.ref c))) →
      ∃ t, PSs (cxOf CX0 P w K mg base N qual (defScope st) f (.ref c) A outer s H E).nox (defBody st) t ∧ ∀ F0 H0 x, pre x → StD K T F0 H0 t (envOf N (arg x)) { nx := fun _ => out x = .none, rt := fun d' => d' = out x }) :
    FnOk P w K mg base CX0 (k + 1) f fd ps (PrD K T (GF arg pre out)) := by
  obtain ⟨oc, od, kV, doc, pm, an, ct, osl, rfl, lk, hcd⟩ := F.ex
  refine fn_of lk hcd S (fun vs H Q E ⟨F, ds, d, _, hd, ⟨x, e, _, _⟩, _⟩ => by rw [dps_len hd, e]; exact len x) fun A outer s H vs Q E hr h => ?_
  obtain ⟨F0, ds, d, wk, hd, ⟨x, e, hp, o⟩, q⟩ := h
  subst e o
  obtain ⟨t, ht, hst⟩ := hbody A outer s H E hr
  refine ⟨t, ht.nox, hst F0 H x hp F0 H _ (ok_start wk hd) _ ⟨fun e F' H' σ' p o _ => ?_, fun d' v F' H' p w' n' hv => ?_, fun _ _ _ _ p _ _ => False.elim p, fun _ _ _ _ p _ _ => False.elim p, fun _ _ _ _ _ _ p _ _ => False.elim p⟩⟩
  · have p' : out x = .none := p
    have hv : Dp K F' .non (out x) := by rw [p']; exact .non
    exact q .non F' H' o.wk o.nx hv
  · have p' : d' = out x := p
    subst p'
    exact q v F' H' w' n' hv
end

/-! ### lists that the def has made itself: + -/
section
variable (K : PySem.W.Frag) (T : List Addr)
def EvL (te : TE) (env : List Sl) (xs : List D) : Prop := ∀ F0 H0 F H σ, Ok K T F0 H0 F H σ env → ∀ Q : VK, (∀ a vs F' H', Wk T F' H' → Nx T F H F' H' → F' a = some (.lst vs) → DpAll K F' vs xs → Q (.ref a) H') → te σ H Q
end
section
variable {K : PySem.W.Frag} {T : List Addr} {env : List Sl} {ta tb te : TE} {F0 H0 : Hp} {t : TS} {P : Po}
theorem l_lst {ta : TA} {xs : List D} (h : EvA K T ta env xs) (hl : xs.length ≤ sizeLine) : EvL K T (tLst ta) env xs := fun F0 H0 F H σ o Q q =>
  h F0 H0 F H σ o _ fun vs F1 H1 w1 n1 d1 => ⟨by rw [dps_len d1]; exact hl, fun p hp => q p vs (upd F1 p (.lst vs)) _ (w1.new hp) (n1.trans w1 (Nx.new w1 hp)) upd_same (dps_mono (Nx.new w1 hp).exF _ _ d1)⟩
theorem l_sl {tl th : TO} {ds : List D} {lo hi : Option Int} (h : EvD K T te env (.list ds)) (h1 : EvO K T tl env lo) (h2 : EvO K T th env hi) : EvL K T (tSl (rSlL K) te tl th) env ((ds.drop (HT.sIx ds.length 0 lo)).take (HT.sIx ds.length ds.length hi - HT.sIx ds.length 0 lo)) := fun F0 H0 F H σ o Q q =>
  h F0 H0 F H σ o _ fun v F1 H1 w1 n1 d1 => h1 F0 H0 F1 H1 σ (o.step w1 n1) _ fun F2 H2 w2 n2 => h2 F0 H0 F2 H2 σ (o.step w2 (n1.trans w1 n2)) _ fun F3 H3 w3 n3 => by
    have d3 := dp_mono (n2.exF.trans n3.exF) _ _ d1
    cases d3 with
    | @lst a xs _ hs hd =>
      refine ⟨a, xs, rfl, Evl.ex_l w3.sub hs, fun p hp => q p _ (upd F3 p (.lst (cutV xs lo hi))) _ (w3.new hp) ((n1.trans w1 (n2.trans w2 n3)).trans w3 (Nx.new w3 hp)) upd_same ?_⟩
      unfold cutV
      rw [dps_len hd]
      exact dps_mono (Nx.new w3 hp).exF _ _ (dps_take _ (dps_drop _ hd))
theorem l_cat {xs ys : List D} (ha : EvL K T ta env xs) (hb : EvL K T tb env ys) (hl : xs.length + ys.length ≤ sizeLine) : EvL K T (tOp rCat ta tb) env (xs ++ ys) := fun F0 H0 F H σ o Q q =>
  ha F0 H0 F H σ o _ fun a vs F1 H1 w1 n1 e1 d1 => hb F0 H0 F1 H1 σ (o.step w1 n1) _ fun b ws F2 H2 w2 n2 e2 d2 =>
    ⟨a, b, vs, ws, rfl, rfl, w2.sub _ _ (n2.exF _ _ e1), w2.sub _ _ e2, by rw [dps_len d1, dps_len d2]; exact hl, fun p hp => q p (vs ++ ws) (upd F2 p (.lst (vs ++ ws))) _ (w2.new hp) ((n1.trans w1 n2).trans w2 (Nx.new w2 hp)) upd_same (dps_mono (Nx.new w2 hp).exF _ _ (dps_app (dps_mono n2.exF _ _ d1) d2))⟩
theorem l_d {xs : List D} (h : EvL K T te env xs) : EvD K T te env (.list xs) := fun F0 H0 F H σ o Q q =>
  h F0 H0 F H σ o _ fun a vs F1 H1 w1 n1 e1 d1 => q _ F1 H1 w1 n1 (.lst (.inl (.inl e1)) d1)
theorem s_mid (I : List Sl → Prop) (h : StD K T F0 H0 t env { P with nx := I }) (k : ∀ e, I e → P.nx e) : StD K T F0 H0 t env P := fun F H σ o De E =>
  h F H σ o De ⟨fun e F' H' σ' p o' x => E.nx e F' H' σ' (k e p) o' x, E.rt, E.bk, E.ct, E.rtE⟩
end

/-! ### shapes that may be compared -/
theorem lay_ints : ∀ ns : List Int, PyData.canLayAll0 (ns.map PyData.int) = true
  | [] => by simp [PyData.canLayAll0]
  | n :: ns => by simp [PyData.canLayAll0, PyData.canLay0, lay_ints ns]
theorem lay_bools : ∀ ns : List Bool, PyData.canLayAll0 (ns.map PyData.bool) = true
  | [] => by simp [PyData.canLayAll0]
  | n :: ns => by simp [PyData.canLayAll0, PyData.canLay0, lay_bools ns]
theorem dep_ints : ∀ ns : List Int, PyData.depthAll (ns.map PyData.int) = 0
  | [] => by simp [PyData.depthAll]
  | n :: ns => by simp [PyData.depthAll, PyData.depth, dep_ints ns]
theorem dep_bools : ∀ ns : List Bool, PyData.depthAll (ns.map PyData.bool) = 0
  | [] => by simp [PyData.depthAll]
  | n :: ns => by simp [PyData.depthAll, PyData.depth, dep_bools ns]
theorem shaped_ints (ns : List Int) : SeqAt.shaped (dInts ns) = true := by
  simp [SeqAt.shaped, PyData.canLay0, PyData.depth, lay_ints, dep_ints]
theorem shaped_bools (ns : List Bool) : SeqAt.shaped (dBools ns) = true := by
  simp [SeqAt.shaped, PyData.canLay0, PyData.depth, lay_bools, dep_bools]
theorem eqv_self {d : D} (h : SeqAt.shaped d = true) : PyData.eqv d d = true := SeqAt.eqv_refl d (SeqAt.canLay_of_shaped h)

/-! ### the law's own call -/
section
variable {K : PySem.W.Frag} {T : List Addr} {H : Hp} {a : Addr} {ns : List Int} {α : Type}
theorem law_sp {cs : List (Addr × Addr)} {pre : List Int → Prop} (hp : pre ns) (ht : ∀ p ∈ cs, H p.2 = some (.tbl #[])) (hs : SqL K H a (ns.map V.int)) :
    PrD K (cs.map (·.2)) (GF (fun ns : List Int => [dInts ns]) pre fun _ => .bool true) [.ref a] H (fun v _ => v = .bl true) (fun _ _ _ => False) := by
  have tab : ∀ P ∈ cs.map (·.2), H P = some (.tbl #[]) := fun P h => by
    obtain ⟨p, hp, e⟩ := List.mem_map.mp h
    rw [← e]
    exact ht p hp
  have ex : ∀ b u, H b = some u → b ∉ cs.map (·.2) → (if b ∈ cs.map (·.2) then none else H b) = some u := fun b u e n => by rw [if_neg n]; exact e
  refine ⟨fun b => if b ∈ cs.map (·.2) then none else H b, [dInts ns], .bool true, ⟨fun b u e => ?_, fun P h => ⟨⟨#[], tab P h, by simp [TriplesOk]⟩, if_pos h⟩⟩, .cons (.lst ?_ (ints_dps ns)) .nil, ⟨ns, rfl, hp, rfl⟩, fun v F' H' w n h => ?_⟩
  · by_cases hb : b ∈ cs.map (·.2)
    · rw [if_pos hb] at e
      cases e
    · rw [if_neg hb] at e
      exact e
  · rcases hs with (h | ⟨o, h⟩) | h
    · refine .inl (.inl (ex _ _ h fun z => ?_))
      rw [tab a z] at h
      cases h
    · refine .inl (.inr ⟨o, ex _ _ h fun z => ?_⟩)
      rw [tab a z] at h
      cases h
    · exact .inr h
  · cases h
    rfl
end
end DL
namespace DL
open PySem PySem.Spec PyProof.Rows L2
theorem sl_to {α : Type} (l : List α) (k : Nat) : (l.drop (HT.sIx l.length 0 none)).take (HT.sIx l.length l.length (some (k : Int)) - HT.sIx l.length 0 none) = l.take k := by
  rw [HT.sIx_none, HT.sIx_nat]
  show l.take (min k l.length - 0) = l.take k
  rw [Nat.sub_zero]
  by_cases h : k ≤ l.length
  · rw [Nat.min_eq_left h]
  · rw [Nat.min_eq_right (by omega), List.take_length, List.take_of_length_le (by omega)]
theorem sl_from {α : Type} (l : List α) (k : Nat) : (l.drop (HT.sIx l.length 0 (some (k : Int)))).take (HT.sIx l.length l.length none - HT.sIx l.length 0 (some (k : Int))) = l.drop k := by
  rw [HT.sIx_none, HT.sIx_nat]
  by_cases h : k ≤ l.length
  · rw [Nat.min_eq_left h, List.take_of_length_le (by rw [List.length_drop]; omega)]
  · rw [Nat.min_eq_right (by omega), List.drop_length, List.drop_of_length_le (by omega), List.take_nil]
theorem pick4 (i a b c d : Int) : ∃ z, atI ([.int a, .int b, .int c, .int d] : List D) (i % 4) = some (.int z) ∧ (z = a ∨ z = b ∨ z = c ∨ z = d) := by
  have h : i % 4 = 0 ∨ i % 4 = 1 ∨ i % 4 = 2 ∨ i % 4 = 3 := by omega
  rcases h with h | h | h | h <;> rw [h]
  · exact ⟨a, rfl, .inl rfl⟩
  · exact ⟨b, rfl, .inr (.inl rfl)⟩
  · exact ⟨c, rfl, .inr (.inr (.inl rfl))⟩
  · exact ⟨d, rfl, .inr (.inr (.inr rfl))⟩
theorem rest_nat (i : Int) (n : Nat) (h : 0 < n) : ∃ k : Nat, i % (n : Int) = (k : Int) ∧ k < n :=
  ⟨(i % (n : Int)).toNat, by have := Int.emod_nonneg i (show (n : Int) ≠ 0 by omega); omega, by have h1 := Int.emod_lt_of_pos i (show 0 < (n : Int) by omega); have := Int.emod_nonneg i (show (n : Int) ≠ 0 by omega); omega⟩
end DL
set_option Elab.async false
set_option linter.all false
set_option maxRecDepth 100000
set_option maxHeartbeats 2000000
/-! The end of a law's row: the tables of the defs' code objects come from what the top has left. -/
namespace DL
open PySem PySem.Spec PyProof.Rows L2
theorem walk_dl {l : PySem.W.OpenLaw} {n k : Nat} {q : Program} {loose : List Str} {XP : (Str → Option Value) → Heap → Prop} {YP : World → Heap → Prop} {d : DefRec} {K : Params → PySem.W.Frag} {CX : World → CXT} {x : Str}
    (hn : l.most = some n) (hn2 : n ≤ sizeLine) (hdf : d.params.defaults = []) (hr : Room k callerA) (hY : ∀ (w : World) (h : Heap), YP w h → (K w.params).In h)
    (F : ∀ (w : World) (mg : Str → Option Value) (fa : Addr) (h : Heap), (K w.params).In h → h.Ns mainGlobals mg → mg d.name = some (.ref fa) →
      (∀ (y : Str) (e : DefRec) (c P : Addr), (recsOf q).find? (fun e => e.name == y) = some e → PySem.W.tabIn (K w.params) y = some (c, P) → PySem.W.CodeHd h c P ∧ h.get? P = some (PySem.W.tabObj #[])) → LamX.LawAtS l w (K w.params) (CX w) k n x mg fa h)
    (hCX : ∀ (w : World) (H : Hp) (s : Shared) (e : Value) (s' : Shared), CX w [] H s (fun _ _ _ => False) e s' → False) :
    PySem.W.WalkO q loose XP YP l.row.toRowW d [] (fun f vs => PySem.call f vs) := by
  refine Att.attach_callB hn hdf fun w s₀ s₁ mg mb fa o pm cd doc a vs ns G Y ho hd hcd hmg hobj hints hlen hbits hg => ?_
  have KX := hY w _ Y
  obtain ⟨fd, cs, sp, hT, nT, C, hb, hsp, hF⟩ := F w mg fa _ KX G.T.g hmg fun y e c P h1 h2 => PySem.W.tab_of G.T KX h1 h2
  exact LamX.law_callTs KX G.T.g G.T.b G.T.builtins G.T.nolimit hg hT nT C G.T.bmain hobj hints (Nat.le_trans hlen hn2) hr hF hb (fun H hH hS => hsp H a ns hlen hbits hH hS) fun H e s' => hCX w H s₁ e s'
theorem tabIn_of {K : PySem.W.Frag} {x : Str} {f c P : Addr} {oc oc' : Value} {od od' : Option Addr} {fd : FuncData} {sl sl' : Array (Option Value)} {vs : Array Value}
    (h1 : PySem.W.nsIn K mainGlobals x = some (some (.ref f))) (h2 : K.lookup f = some ⟨oc, od, .func fd, sl⟩) (h3 : fd.code = .ref c) (h4 : K.lookup c = some ⟨oc', od', .fields vs, sl'⟩) (h5 : vs[11]? = some (.ref P)) : PySem.W.tabIn K x = some (c, P) := by
  unfold PySem.W.tabIn
  rw [h1]
  dsimp only
  rw [h2]
  dsimp only
  rw [h3]
  dsimp only
  rw [h4]
  dsimp only
  rw [h5]
theorem noTab {K : PySem.W.Frag} {h : Heap} {P : Addr} (X : K.In h) (nt : PySem.W.noTabs K = true) (e : h.get? P = some (PySem.W.tabObj #[])) : K.lookup P = none := by
  cases q : K.lookup P with
  | none => rfl
  | some o =>
    have e2 := X P o q
    rw [e] at e2
    have e3 : PySem.W.tabObj #[] = o := Option.some.inj e2
    have h2 := List.all_eq_true.mp nt (P, o) (PySem.W.mem_of_lookupK q)
    subst e3
    exact absurd (show false = true from h2) Bool.false_ne_true
theorem tab_glob {base : Heap} {mg : Str → Option Value} {c P : Addr} (t : LamX.TabB base mg c P) : GxR.TabB base mg c P := ⟨t.code, t.bm, t.gP⟩
end DL
set_option Elab.async false
set_option linter.all false
set_option maxRecDepth 100000
set_option maxHeartbeats 2000000
/-! for x in reversed(text): a text has no __reversed__, so its items are asked for from the last place down. -/
namespace RS
open PySem PySem.Spec PyProof.Rows L2

theorem text_norev : typeLookup (.type "str") "__reversed__" = pure none := by rw [typeLookup_type, builtinLookup_eq_fast]; kernel_rfl
/-- the walker over the text z, the next place i -/
def Wkr (h : Heap) (a : Addr) (z : Str) (t : Tok) (i : Int) : Prop := ∃ o, h.get? a = some o ∧ o.cls = .type "reversed" ∧ o.data = .fields #[.str z t, rawInt i]
section
variable {pr : Program} {wo : World} {Ar : Around} {Er : Value → Shared → Prop} {sh : Shared} {z : Str} {t : Tok}
theorem Wkr.ty {a : Addr} {i : Int} (x : Wkr sh.heap a z t i) : sh.TypeIs (.ref a) "reversed" := let ⟨o, h1, h2, _⟩ := x; ⟨o, h1, h2⟩
theorem code_rs {R : Value → Shared → Prop} (hz : z.length ≤ sizeLine)
    (k : R (.ref sh.heap.objs.size) { sh with heap := sh.heap.push { cls := .type "reversed", data := .fields #[.str z t, rawInt ((z.length : Int) - 1)] }, toks := sh.toks + 1 + 1 }) :
    codeAny (model pr wo) Ar (.call (.builtin "reversed.__new__") ⟨[.type "reversed", .str z t], []⟩) (wants R Er) sh := by
  have ht : sh.TypeIs (.str z t) "str" := typeIs_str sh z t
  have hb := line63
  refine codeAny_of_tree ?_
  show wpAny _ Ar.in1 (do checkBuiltinCall "reversed.__new__" ⟨[.type "reversed", .str z t], []⟩; again (.builtin "reversed.__new__" ⟨[.type "reversed", .str z t], []⟩)) _ _ sh
  refine wpAny_bind (wpAny_of_eq (PySem.F.newCall_reversed_1 _) (wpAny_pure ⟨plainId_quiet PySem.F.plain_reversed_new _, codeAny_builtin PySem.F.entry_reversed_new ?_⟩)); rw [Around.under_plainId PySem.F.plain_reversed_new _]
  unfold Builtin.«reversed.__new__»; refine wpAny_bind (wpAny_of_eq (newClass_reversed _) ?_)
  try dsimp only
  refine wpAny_bind (wpAny_of_eq (a := ()) (by first | rfl | kernel_rfl) ?_); try dsimp only
  refine wpAny_bind (wpAny_of_eq (a := ()) (by first | rfl | kernel_rfl) ?_); try dsimp only
  refine wpAny_bind (wpAny_specialOf ht text_norev ?_); try dsimp only
  refine wpAny_bind ?_
  wp_delta
  refine wpAny_bind (wpAny_isInstance (T := "str") (U := "dict") (b := false) ht PySem.F.sub_str_dict ?_); try dsimp only
  try rw [if_neg Bool.false_ne_true]
  try dsimp only
  refine wpAny_bind (wpAny_specialOf ht PySem.F.slot_str_getitem.lookup ?_); try dsimp only
  try rw [if_pos (by decide +kernel)]
  refine wpAny_pure ?_; try dsimp only
  try rw [if_neg (by decide)]
  try dsimp only
  refine wpAny_bind (P.len_str (by omega) ?_)
  refine wpAny_bind (wpAny_of_eq (a := some ((z.length : Nat) : Int)) rfl ?_); try dsimp only
  refine wpAny_bind ?_
  show wpAny _ _ (newObj (.type "reversed") (.fields #[.str z t, rawInt ((z.length : Int) - 1)])) _ _ _
  exact wpAny_newObj_type (wpAny_pure k)
theorem call_rs {R : Value → Shared → Prop} (hz : z.length ≤ sizeLine)
    (k : R (.ref sh.heap.objs.size) { sh with heap := sh.heap.push { cls := .type "reversed", data := .fields #[.str z t, rawInt ((z.length : Int) - 1)] }, toks := sh.toks + 1 + 1 }) :
    wpAny (model pr wo) Ar (call (.type "reversed") [.str z t]) R Er sh := by
  refine callType_codes (Q₁ := fun ob s1 => s1.TypeIs ob "reversed" ∧ R ob s1) RT.called_rt (PySem.F.typeCall_reversed_1 _) PySem.F.entry_object_init (code_rs (Ar := Ar.in1) hz ⟨⟨_, Heap.get?_push_size _ rfl, rfl⟩, k⟩) fun ob s1 h1 => ?_
  exact ⟨h1.1, PySem.F.args_object_init_2 ob _, object_init_meets RT.called_rt.init.lookup RT.called_rt.made (by decide) pr wo Ar.in1 _ s1 ⟨h1.1, rfl, h1.2⟩⟩
theorem next_rs {it : Addr} {i c : Nat} {R : Option Value → Shared → Prop} (hi : Wkr sh.heap it z t (i : Int)) (hc : z.cps[i]? = some c) (hz : z.length ≤ sizeLine)
    (k : ∀ h' tk u, Wkr h' it z t ((i : Int) - 1) → Heap.SameBut it sh.heap h' → R (some (.str ⟨#[c]⟩ u)) { sh with heap := h', toks := tk }) : wpAny (model pr wo) Ar (pyNext (.ref it)) R Er sh := by
  obtain ⟨o, h1, h2, h3⟩ := id hi
  have hlt : i < z.cps.size := (Array.getElem?_eq_some_iff.mp hc).1
  have ht : sh.TypeIs (.str z t) "str" := typeIs_str sh z t
  have hb := line63
  have hl : z.length = z.cps.size := rfl
  unfold pyNext
  refine wpAny_bind (wpAny_attempt (wpAny_callSpecial?_slot (name := Str.ofString "__next__") hi.ty RT.slot_rt_next (wpAny_call_entry RT.slot_rt_next hi.ty RT.entry_rt_next ?_ (RT.args_rt_next _))))
  unfold Builtin.«reversed.__next__»; refine wpAny_bind (wpAny_of_eq (a := (Value.ref it, [])) rfl ?_)
  try dsimp only
  refine wpAny_bind (wpAny_field h1 h3 (x := .str z t) rfl ?_); try dsimp only
  refine wpAny_bind (wpAny_field h1 h3 (x := rawInt (i : Int)) rfl ?_)
  show wpAny _ _ (if (i : Int) < 0 then _ else _) _ _ sh
  rw [if_neg (by omega)]
  try dsimp only
  refine wpAny_bind (wpAny_specialOf ht PySem.F.slot_str_getitem.lookup ?_); try dsimp only
  try rw [if_neg (by decide)]
  try dsimp only
  refine wpAny_bind (wpAny_mkInt (wpAny_bind (wpAny_attempt ?_)))
  have fin : seqIndex? (i : Int) z.length = some i := seqIndex_of (by omega) (by omega)
  refine P.getItem_str (c := c) (by simp only [Bool.or_eq_false_iff, decide_eq_false_iff_not]; omega) (by rw [fin]; exact hc) ?_
  try dsimp only
  refine wpAny_bind (wpAny_field (s := { sh with toks := sh.toks + 1 + 1 }) h1 h3 (x := rawInt (i : Int)) rfl ?_); try dsimp only
  refine wpAny_bind (wpAny_setField (s := { sh with toks := sh.toks + 1 + 1 }) h1 h3 (by simp) ?_)
  first
  | refine wpAny_pure ⟨_, rfl, wpAny_pure (k _ _ _ ?_ (Heap.SameBut.update ..))⟩
  | refine wpAny_bind (wpAny_pure (wpAny_pure ⟨_, rfl, wpAny_pure (k _ _ _ ?_ (Heap.SameBut.update ..))⟩))
  exact ⟨_, Heap.get?_update_self _ h1 (Obj.isFreed_of_fields (Obj.data_mapFields h3 _)), (Obj.cls_mapFields ..).trans h2, by rw [Obj.data_mapFields h3]; simp⟩
theorem end_rs {it : Addr} {R : Option Value → Shared → Prop} (hh : Ar.handled = none) (hi : Wkr sh.heap it z t (-1)) (k : ∀ h', Heap.ExtBut it sh.heap h' → R none { sh with heap := h' }) : wpAny (model pr wo) Ar (pyNext (.ref it)) R Er sh := by
  obtain ⟨o, h1, h2, h3⟩ := id hi
  unfold pyNext
  refine wpAny_bind (wpAny_attempt (wpAny_callSpecial?_slot (name := Str.ofString "__next__") hi.ty RT.slot_rt_next (wpAny_call_entry RT.slot_rt_next hi.ty RT.entry_rt_next ?_ (RT.args_rt_next _))))
  unfold Builtin.«reversed.__next__»; refine wpAny_bind (wpAny_of_eq (a := (Value.ref it, [])) rfl ?_)
  try dsimp only
  refine wpAny_bind (wpAny_field h1 h3 (x := .str z t) rfl ?_); try dsimp only
  refine wpAny_bind (wpAny_field h1 h3 (x := rawInt (-1)) rfl ?_)
  show wpAny _ _ (if (-1 : Int) < 0 then _ else _) _ _ sh
  rw [if_pos (by decide)]
  try dsimp only
  refine wpAny_bind (wpAny_rule (wpAny_bind ?_))
  wp_delta
  refine wpAny_bind (wpAny_setField h1 h3 (by simp) ?_)
  have h4 := Heap.get?_update_self (Obj.mapFields (·.setIfInBounds 1 (rawInt (-1)))) h1 (Obj.isFreed_of_fields (Obj.data_mapFields h3 _))
  refine wpAny_setField (s := { sh with heap := sh.heap.update it (Obj.mapFields (·.setIfInBounds 1 (rawInt (-1)))) }) h4 (Obj.data_mapFields h3 _) (by simp) ?_
  try dsimp only
  first
  | show wpAny _ _ (newExc (.type "StopIteration") [] >>= _) _ _ _
  | (refine wpAny_bind ?_; show wpAny _ _ (newExc (.type "StopIteration") [] >>= _) _ _ _)
  | (refine wpAny_bind ?_; wp_delta; show wpAny _ _ (newExc (.type "StopIteration") [] >>= _) _ _ _)
  refine wpAny_bind ?_; simp only [newExc, newTuple]
  refine wpAny_bind (wpAny_newObj_type ?_ (by size_fits)); refine wpAny_bind (m := firstArgMember _ _) (wpAny_of_eq (a := Value.none) (by first | rfl | (simp only [firstArgMember]; rfl)) ?_)
  refine wpAny_newObj_type ?_ (by size_fits)
  simp only [raiseNew]; refine wpAny_bind (wpAny_handled ?_)
  first | rw [show Ar.in1.handled = none from hh] | rw [hh]
  refine wpAny_bind (wpAny_pure (wpAny_throw ?_))
  refine wpAny_bind (wpAny_isInstance (T := "StopIteration") (b := true) ⟨_, Heap.get?_push_size _ rfl, rfl⟩ isSubtype_stop ?_); refine wpAny_pure (k _ ?_)
  refine ((?_ : Heap.ExtBut it sh.heap _).push _).push _
  exact fun b ob hb e => (Heap.get?_update_other _ _ (Ne.symm hb)).trans ((Heap.get?_update_other _ _ (Ne.symm hb)).trans e)
theorem iter_rs {it : Addr} {i : Int} {R : Value → Shared → Prop} (hi : Wkr sh.heap it z t i) (k : R (.ref it) sh) : wpAny (model pr wo) Ar (pyIter (.ref it)) R Er sh := by
  refine wpAny_pyIter_slot hi.ty RT.slot_rt_iter (wpAny_call_entry RT.slot_rt_iter hi.ty RT.entry_rt_iter (show wpAny _ _ (ret (.ref it)) _ _ sh from ?_) (RT.args_rt_iter _))
  exact wpAny_pure ⟨_, rfl, "reversed", _, hi.ty, RT.slot_rt_next.lookup, k⟩
end
/-- a text from its end: turn k gives the sign at n - 1 - k -/
def Iz (z : Str) : It := ⟨fun k _ => k < z.cps.size, fun k H v H' => H' = H ∧ ∃ c, z.cps[z.cps.size - 1 - k]? = some c ∧ v = .str ⟨#[c]⟩, fun k _ => z.cps.size ≤ k⟩
theorem turn_rs {pr : Program} {wo : World} {K : PySem.W.Frag} {tg : Expr} (it : Addr) (z : Str) (t : Tok) (hz : z.length ≤ sizeLine) : Turn pr wo K tg (Iz z) [it] it (fun k h => k ≤ z.cps.size ∧ Wkr h it z t ((z.cps.size : Int) - 1 - (k : Nat))) where
  mem := List.mem_singleton.mpr rfl
  obj := fun k h st b hb => by obtain rfl : b = it := by simpa using hb
                               obtain ⟨_, o, e1, e2, e3⟩ := st
                               exact ⟨o, e1, fun v y => by rw [e3] at y; cases y⟩
  keep := fun k h h' ⟨a1, o, e1, e2⟩ kk => ⟨a1, o, kk it (List.mem_singleton.mpr rfl) o e1, e2⟩
  item := by
    intro X hP hw hK hc k pins s σ H Ex I hf ⟨ha, hit⟩ hg
    subst hP hw hK
    obtain ⟨f0, f1, _, f3, f4, f5⟩ := hf it (List.mem_singleton.mpr rfl)
    have hg : k < z.cps.size := hg
    have e1 : (z.cps.size : Int) - 1 - (k : Nat) = ((z.cps.size - 1 - k : Nat) : Int) := by omega
    rw [e1] at hit
    have hj : z.cps.size - 1 - k < z.cps.size := by omega
    refine next_rs hit (Array.getElem?_eq_getElem hj) hz fun h' tk u st' sb => ?_
    have e2 : ((z.cps.size - 1 - k : Nat) : Int) - 1 = (z.cps.size : Int) - 1 - ((k + 1 : Nat) : Int) := by omega
    rw [e2] at st'
    have J : Inv X pins σ H { s with heap := h', toks := tk } := I.turned (t' := tk) (fun b o hb e => (sb.2 b hb).trans e) f0 f1 f3 f4 f5
    obtain ⟨o, q1, q2, q3⟩ := id st'
    exact ⟨_, rfl, go_of (s := { s with heap := h', toks := tk }) q1 q2 q3 (by decide) ⟨.str ⟨#[z.cps[z.cps.size - 1 - k]]⟩, H, J, ⟨u, rfl⟩, ⟨rfl, _, Array.getElem?_eq_getElem hj, rfl⟩, ⟨hg, st'⟩, fun b hb => (hf b hb).1⟩⟩
  done := by
    intro X hP hw hK hc k pins s σ H Ex I hf ⟨ha, hit⟩ hg
    subst hP hw hK
    obtain ⟨f0, f1, _, f3, f4, f5⟩ := hf it (List.mem_singleton.mpr rfl)
    have hg : z.cps.size ≤ k := hg
    have e1 : (z.cps.size : Int) - 1 - (k : Nat) = -1 := by omega
    rw [e1] at hit
    exact end_rs (I.ok.hd hc) hit fun h' eb => ⟨rfl, I.turned (t' := s.toks) (fun b o hb e => eb b o hb e) f0 f1 f3 f4 f5⟩
  self := fun A k s Q E ⟨_, hit⟩ q => iter_rs hit q
def iRevS (te : TE) : TI := fun σ H R => te σ H fun v H1 => ∃ z, v = .str z ∧ z.length ≤ sizeLine ∧ R (Iz z) H1
theorem pi_revS {X : Cx} {tg e : Expr} {te : TE} {p pos : Pos} (hg : Gl X "reversed") (hm : X.mg "reversed" = none) (he : PE X e te) (hs : starEach [e] X.env = (false, eval e X.env) :: starEach [] X.env := by rfl) : PI X tg (.Call (.Name "reversed" p) [e] [] pos) (iRevS te) := by
  refine ⟨fun pins s σ H R I h => Call_ (ld_blt I hg hm PyProof.Rows.boot_reversed (PyProof.Rows.callWith_type1 (args_cons (thn (he.run pins s σ H _ I h) fun u s1 ⟨v, H1, I1, r1, q1⟩ => args_nil ?_) hs) hs rfl))⟩
  obtain ⟨z, ev, hz, q⟩ := q1
  subst ev
  obtain ⟨t, rfl⟩ := r1
  have e1 : ((z.length : Nat) : Int) - 1 = (z.cps.size : Int) - 1 - ((0 : Nat) : Int) := by show ((z.cps.size : Nat) : Int) - 1 = _; omega
  refine call_rs hz (iter_rs (z := z) (t := t) (i := ((z.length : Nat) : Int) - 1) ⟨_, Heap.get?_push_size _ rfl, rfl, rfl⟩ ?_)
  refine pi_one (tk := s1.toks + 1 + 1) I1 _ (turn_rs _ z t hz) ⟨Nat.zero_le _, ?_⟩ q
  rw [← e1]; exact ⟨_, Heap.get?_push_size _ rfl, rfl, rfl⟩
theorem walk_rs {z : Str} : Walk (Iz z) z.cps.size (fun _ => True) (fun k H v H' => H' = H ∧ ∃ c, z.cps[z.cps.size - 1 - k]? = some c ∧ v = .str ⟨#[c]⟩) :=
  ⟨fun _ _ hi _ => hi, fun _ _ => Nat.le_refl _, fun _ _ _ _ _ _ y => y⟩
end RS
namespace DL
open PySem PySem.Spec PyProof.Rows L2
open Evl (Ex)
section
variable {K : PySem.W.Frag} {T : List Addr} {F0 H0 F F' : Hp} {env : List Sl} {P : Po} {j : Nat} {tl : TE} {tb : TS}
theorem s_forRS {z : Str} (h : EvD K T tl env (.str z)) (hz : z.length ≤ sizeLine) (I : Nat → List Sl → Prop) (h0 : I 0 env)
    (hs : ∀ (k c : Nat) e, k < z.cps.size → z.cps[z.cps.size - 1 - k]? = some c → I k e → StD K T F0 H0 tb (e.set j (.dat (.str ⟨#[c]⟩))) (P.turn (I (k + 1)))) (hd : ∀ e, I z.cps.size e → P.nx e) : StD K T F0 H0 (tFor (RS.iRevS tl) (gName j) tb) env P := fun F H σ o De E =>
  h F0 H0 F H σ o _ fun v F1 H1 w1 n1 d1 => by
    cases d1
    refine ⟨z, rfl, hz, for_it RS.walk_rs (fun k σ' H' => ∃ e F', I k e ∧ Ok K T F0 H0 F' H' σ' e ∧ Ex F1 F') ⟨env, F1, h0, o.step w1 n1, Ex.refl F1⟩ (fun _ _ _ _ _ => trivial) (fun k v σ' H' H'' hk ⟨e, F', p, o', x⟩ hy => ?_) (fun σ' H' ⟨e, F', p, o', x⟩ => E.nx e F' H' σ' (hd e p) o' (n1.exF.trans x))⟩
    obtain ⟨rfl, c, hc, rfl⟩ := hy
    exact hs k c e hk hc p F' _ _ (o'.set (.str _)) _ ⟨fun e2 F2 H2 σ2 p2 o2 x2 => ⟨e2, F2, p2, o2, x.trans x2⟩, E.rt, fun e2 F2 H2 σ2 p2 o2 x2 => E.nx e2 F2 H2 σ2 p2 o2 ((n1.exF.trans x).trans x2), fun e2 F2 H2 σ2 p2 o2 x2 => ⟨e2, F2, p2, o2, x.trans x2⟩, E.rtE⟩
end
end DL
set_option Elab.async false
set_option linter.all false
set_option maxRecDepth 100000
set_option maxHeartbeats 2000000
/-! The mathematics that several laws' own words share. -/
namespace DL
open PySem PySem.Spec PyProof.Rows L2
open Evl (Ex)
def cellAt (ns : List Int) (k : Nat) : Int := ns.getD k 0
def shr (c : Int) : Nat → Int
  | 0 => c
  | k + 1 => shr c k / 2
theorem shr_succ (c : Int) (k : Nat) : shr c (k + 1) = shr c k / 2 := rfl
/-- the first k binary figures, from the lowest on -/
def bitsOf (c : Int) (k : Nat) : List Bool := (List.range k).map fun i => decide (shr c i % 2 = 1)
theorem bitsOf_len (c : Int) (k : Nat) : (bitsOf c k).length = k := by simp [bitsOf]
theorem bitsOf_succ (c : Int) (k : Nat) : bitsOf c (k + 1) = bitsOf c k ++ [decide (shr c k % 2 = 1)] := by simp [bitsOf, List.range_succ]
/-- setters: f of an even figure, o of an odd one -/
def signOf (c : Int) : Nat := if c % 2 = 0 then 102 else 111
def signs (c : Int) (k : Nat) : List Nat := (List.range k).map fun i => signOf (shr c i)
theorem signs_len (c : Int) (k : Nat) : (signs c k).length = k := by simp [signs]
theorem signs_succ (c : Int) (k : Nat) : signs c (k + 1) = signs c k ++ [signOf (shr c k)] := by simp [signs, List.range_succ]
def Fo (l : List Nat) : Prop := ∀ c ∈ l, c = 102 ∨ c = 111
theorem signs_fo (c : Int) (k : Nat) : Fo (signs c k) := fun x hx => by
  obtain ⟨i, _, rfl⟩ := List.mem_map.mp hx
  unfold signOf
  split
  · exact .inl rfl
  · exact .inr rfl
/-- a text of these signs -/
def txt (l : List Nat) : Str := ⟨l.toArray⟩
theorem txt_len (l : List Nat) : (txt l).length = l.length := rfl
theorem txt_app (l m : List Nat) : txt l ++ txt m = txt (l ++ m) := by
  show (⟨(⟨l⟩ : Array Nat) ++ (⟨m⟩ : Array Nat)⟩ : Str) = _
  simp [txt]
theorem txt_one (c : Nat) : (⟨#[c]⟩ : Str) = txt [c] := rfl
theorem txt_inj {l m : List Nat} (h : txt l = txt m) : l = m := by
  have e : (txt l).cps = (txt m).cps := congrArg Str.cps h
  exact Array.mk.inj e
theorem txt_eq (l m : List Nat) : decide (txt l = txt m) = decide (l = m) := decide_eq_decide.mpr ⟨txt_inj, fun e => e ▸ rfl⟩
theorem txt_size (l : List Nat) : (txt l).cps.size = l.length := rfl
theorem txt_at (l : List Nat) (i : Nat) : (txt l).cps[i]? = l[i]? := by simp [txt]
theorem cut_from (l : List Nat) (k : Nat) : cutS (txt l) (some (k : Int)) none = txt (l.drop k) := by
  have h := sl_from l k
  show (⟨_⟩ : Str) = ⟨_⟩
  rw [← h]
  rfl
theorem str_f : Str.ofString "f" = txt [102] := by decide +kernel
theorem str_o : Str.ofString "o" = txt [111] := by decide +kernel
theorem str_fo : Str.ofString "fo" = txt [102, 111] := by decide +kernel
/-! shapes of tuples that nest -/
theorem shaped_iff {d : D} : SeqAt.shaped d = true ↔ (PyData.canLay0 d = true ∧ PyData.depth d ≤ 64) := by unfold SeqAt.shaped; simp
end DL
set_option Elab.async false
set_option linter.all false
set_option maxRecDepth 100000
set_option maxHeartbeats 2000000
/-! Objects that stay (dicts), lists the def has made, comprehensions over a range, in over a list. -/
namespace DL
open PySem PySem.Spec PyProof.Rows L2
open Evl (Ex)
section
variable (K : PySem.W.Frag) (T : List Addr)
def EvX (te : TE) (env : List Sl) (u : HO) : Prop := ∀ F0 H0 F H σ, Ok K T F0 H0 F H σ env → ∀ Q : VK, (∀ a F' H', Wk T F' H' → Nx T F H F' H' → F' a = some u → Q (.ref a) H') → te σ H Q
end
section
variable {K : PySem.W.Frag} {T : List Addr} {F0 H0 : Hp} {env : List Sl} {P : Po} {te ta tb tl : TE} {tt : TT} {t : TS} {i j : Nat} {u : HO} {xs : List D}
theorem s_asgX (h : EvX K T te env u) (k : P.nx (env.set i (.obj u))) : StD K T F0 H0 (tAsg te (gName i)) env P := fun F H σ o De E =>
  h F0 H0 F H σ o _ fun a F1 H1 w1 n1 d1 => E.nx _ F1 H1 _ k ((o.step w1 n1).put rfl ⟨a, rfl, d1⟩) n1.exF
theorem s_asgL (h : EvL K T te env xs) (k : P.nx (env.set i (.lst xs))) : StD K T F0 H0 (tAsg te (gName i)) env P := fun F H σ o De E =>
  h F0 H0 F H σ o _ fun a vs F1 H1 w1 n1 e1 d1 => E.nx _ F1 H1 _ k ((o.step w1 n1).put rfl ⟨a, vs, rfl, e1, d1⟩) n1.exF
theorem l_var (h : env[i]? = some (.lst xs)) : EvL K T (tVar i) env xs := fun F0 H0 F H σ o Q q => by
  obtain ⟨a, vs, e, ha, hd⟩ := o.sl i _ h
  exact ⟨_, e, q a vs F H o.wk (Nx.refl T F H) ha hd⟩
theorem t_yes : EvT K T tYes env true := fun F0 H0 F H σ o Q q => q F H o.wk (Nx.refl T F H)
/-! rules whose word names the frame itself, for blocks within a def -/
def rLenK (K : PySem.W.Frag) : List V → Hp → VK → Prop := fun xs H Q => ∃ p ys, xs = [V.ref p] ∧ (SqL K H p ys ∨ SqT K H p ys) ∧ Q (.int ys.length) H
theorem call_lenK {X : Cx} {K : PySem.W.Frag} (h : X.K = K) : CallR X (.builtin "len") (rLenK K) := by
  subst h
  exact call_len_seq
def rListK (K : PySem.W.Frag) : List V → Hp → VK → Prop := fun xs H Q => ∃ p ys, xs = [V.ref p] ∧ (SqL K H p ys ∨ SqT K H p ys) ∧ ∀ l, H l = none → Q (.ref l) (upd H l (.lst ys))
theorem call_listK {X : Cx} {K : PySem.W.Frag} (h : X.K = K) : CallR X (.type "list") (rListK K) := by
  subst h
  exact call_list_of
theorem ix_listK {X : Cx} {K : PySem.W.Frag} (h : X.K = K) : IxR X (rIxL K) := by
  subst h
  exact ix_list
theorem ix_tupK {X : Cx} {K : PySem.W.Frag} (h : X.K = K) : IxR X (rIxT K) := by
  subst h
  exact ix_tup
/-! comprehensions -/
/-- every item gives one -/
theorem d_map {ds : List D} (f : D → D) (h : EvD K T tl env (.list ds)) (hl : ds.length < sizeLine) (hs : ∀ (k : Nat) d, ds[k]? = some d → EvD K T te ((env.set j .no).set j (.dat d)) (f d)) :
    EvD K T (tLc (iList K tl) (gName j) tYes te [j]) env (.list (ds.map f)) := by
  have q := d_lc (tt := tYes) (fun d => some (f d)) h hl fun k d hk => ⟨true, t_yes, nofun, fun _ => ⟨_, rfl, hs k d hk⟩⟩
  rw [show (fun d => some (f d)) = some ∘ f from rfl, List.filterMap_eq_map] at q
  exact q
/-- over a range -/
theorem d_mapR {ta : TA} {n : Nat} (f : Nat → D) (h : EvA K T ta env [.int (n : Int)]) (hn : n ≤ 100000) (hs : ∀ k, k < n → EvD K T te ((env.set j .no).set j (.dat (.int (k : Int)))) (f k)) :
    EvD K T (tLc (iRng1 ta) (gName j) tYes te [j]) env (.list ((List.range n).map f)) := fun F0 H0 F H σ o Q q =>
  h F0 H0 F H σ o _ fun vs F1 H1 w1 n1 d1 => by
    cases d1 with
    | cons h1 t =>
      cases t; cases h1
      refine ⟨(n : Int), rfl, by omega, by omega, fun Dl hD => ?_⟩
      rw [Int.toNat_natCast]
      refine lc_it walk_range (fun k H' => ∃ F' vs, Wk T F' H' ∧ Nx T F1 H1 F' H' ∧ F' Dl = none ∧ H' Dl = some (.lst vs) ∧ DpAll K F' vs ((List.range k).map f) ∧ vs.length = k) ⟨F1, [], w1.mine hD, ⟨Ex.refl F1, fun b u e t => by rw [upd_ne (ne_of_none e hD)]; exact e, fun _ _ _ n => n⟩, w1.noF hD, upd_same, .nil, rfl⟩ (fun _ _ _ _ => trivial)
        (fun k x H' H'' hk ⟨F', vs, w', n', f', e', hv, hz⟩ hy => ?_) (fun H' ⟨F', vs, w', n', f', e', hv, hz⟩ => ?_)
      · obtain ⟨rfl, rfl⟩ := hy
        refine ⟨wipe_one, ?_⟩
        have hT := w1.notT hD
        have e0 : (0 : Int) + (k : Int) = (k : Int) := Int.zero_add _
        have hs1 := hs k hk
        rw [← e0] at hs1
        have o1 := (((o.step w1 n1).step w' n').wipe (i := j) none).set (i := j) (Dp.int (K := K) (H := F') ((0 : Int) + (k : Int)))
        refine t_yes F0 H0 F' _ _ o1 _ fun F2 H2 w2 n2 => iteT (hs1 F0 H0 F2 _ _ (o1.step w2 n2) _ fun y F3 H3 w3 n3' d3 => ?_)
        have n3 := n2.trans w2 n3'
        have e3 := n3.exH Dl _ e' hT
        have f3 := n3.own Dl _ e' f'
        have n13 := n'.trans w' n3
        refine ⟨vs, e3, line_lt (by omega), F3, vs ++ [y], w3.write f3 hT, ⟨n13.exF, fun b u e t => ?_, fun b u e n => n13.own b u e n⟩, f3, upd_same, ?_, by rw [List.length_append, hz]; rfl⟩
        · rw [upd_ne (ne_of_none e hD)]
          exact n13.exH b u e t
        · rw [List.range_succ, List.map_append]
          exact dps_app (dps_mono n3.exF _ _ hv) (.cons d3 .nil)
      · have hT := w1.notT hD
        have ex : Ex F' (upd F' Dl (.lst vs)) := Ex.new f'
        have nn := n1.trans w1 n'
        refine q (.ref Dl) (upd F' Dl (.lst vs)) H' (w'.freeze hT e') ⟨nn.exF.trans ex, nn.exH, fun c u e n => ?_⟩ (.lst (.inl (.inl upd_same)) (dps_mono ex _ _ hv))
        have hc : c ≠ Dl := fun z => by
          rw [z] at e
          rw [n1.exH Dl u e hT] at hD
          cases hD
        rw [upd_ne hc]
        exact nn.own c u e n
/-- the dict of ints that a comprehension makes -/
def dcOf (kf vf : D → Int) (ds : List D) : List (Key × V) := ds.foldl (fun acc d => putK acc (.inl (kf d)) (.int (vf d))) []
theorem dcOf_succ {kf vf : D → Int} {ds : List D} {k : Nat} {d : D} (h : ds[k]? = some d) : dcOf kf vf (ds.take (k + 1)) = putK (dcOf kf vf (ds.take k)) (.inl (kf d)) (.int (vf d)) := by
  unfold dcOf
  rw [List.take_add_one, h, List.foldl_append]
  rfl
theorem x_dc {ds : List D} {tk tv : TE} (kf vf : D → Int) (h : EvD K T tl env (.list ds)) (hl : ds.length < sizeLine)
    (hk : ∀ (k : Nat) d, ds[k]? = some d → EvD K T tk ((env.set j .no).set j (.dat d)) (.int (kf d))) (hv : ∀ (k : Nat) d, ds[k]? = some d → EvD K T tv ((env.set j .no).set j (.dat d)) (.int (vf d))) :
    EvX K T (tDc (iList K tl) (gName j) tYes tk tv [j]) env (.dK (dcOf kf vf ds)) := fun F0 H0 F H σ o Q q =>
  h F0 H0 F H σ o _ fun v F1 H1 w1 n1 d1 => by
    cases d1 with
    | @lst a xs _ hsq hdd =>
      have hxl := dps_len hdd
      refine ⟨a, rfl, ⟨xs, Evl.ex_l w1.sub hsq⟩, fun Dl hD => ?_⟩
      have hT := w1.notT hD
      have W := walk_list (K := K) (a := a) (xs := xs)
      let Pv : Nat → Hp → Prop := fun k H' => ∃ F', Wk T F' H' ∧ Nx T F1 H1 F' H' ∧ F' Dl = none ∧ H' Dl = some (.dK (dcOf kf vf (ds.take k))) ∧ (dcOf kf vf (ds.take k)).length ≤ k
      refine ⟨fun k m H' => m = xs.length - k ∧ k ≤ xs.length ∧ Pv k H', ⟨xs.length, by simp, Nat.zero_le _, F1, w1.mine hD, ⟨Ex.refl F1, fun b u e t => by rw [upd_ne (ne_of_none e hD)]; exact e, fun _ _ _ n => n⟩, w1.noF hD, upd_same, Nat.zero_le _⟩, ?_⟩
      rintro k m H' ⟨rfl, hkl, F', w', n', f', e', hz⟩
      have qs : SqL K H' a xs := Evl.ex_l (n'.exF.trans w'.sub) hsq
      by_cases hlt : k < xs.length
      · refine .inr ⟨W.goes k H' hlt qs, Pv (k + 1), fun H2 p2 => ⟨xs.length - (k + 1), by omega, rfl, hlt, p2⟩, fun x H2 y2 => ?_⟩
        obtain ⟨rfl, hx⟩ := W.yields k H' x H2 hlt qs y2
        refine ⟨wipe_one, ?_⟩
        obtain ⟨d, hd1, hx⟩ := dps_getV hdd hx
        have o1 := (((o.step w1 n1).step w' n').wipe (i := j) none).set (i := j) (dp_mono n'.exF _ _ hx)
        refine t_yes F0 H0 F' _ _ o1 _ fun F1' H1' w1' n1' => iteT (hk k d hd1 F0 H0 F1' _ _ (o1.step w1' n1') _ fun y F2 H2 w2 n2' d2 => ?_)
        cases d2
        have n2 := n1'.trans w1' n2'
        refine hv k d hd1 F0 H0 F2 H2 _ (o1.step w2 n2) _ fun z F3 H3 w3 n3 d3 => ?_
        cases d3
        have n23 := n2.trans w2 n3
        have e3 := n23.exH Dl _ e' hT
        have f3 := n23.own Dl _ e' f'
        have n13 := n'.trans w' n23
        refine ⟨_, .inl (kf d), rfl, e3, Nat.lt_of_le_of_lt hz (by omega), F3, w3.write f3 hT, ⟨n13.exF, fun b u e t => ?_, fun b u e n => n13.own b u e n⟩, f3, ?_, ?_⟩
        · rw [upd_ne (ne_of_none e hD)]
          exact n13.exH b u e t
        · rw [upd_same, dcOf_succ hd1]
        · rw [dcOf_succ hd1]
          have := length_putK (dcOf kf vf (ds.take k)) (.inl (kf d) : Key) (.int (vf d))
          omega
      · have e : k = xs.length := by omega
        subst e
        rw [hxl, List.take_length] at e'
        refine .inl ⟨W.stops H' qs, ?_⟩
        have ex : Ex F' (upd F' Dl (.dK (dcOf kf vf ds))) := Ex.new f'
        have nn := n1.trans w1 n'
        refine q Dl (upd F' Dl (.dK (dcOf kf vf ds))) H' (w'.freeze hT e') ⟨nn.exF.trans ex, nn.exH, fun c u e n => ?_⟩ upd_same
        have hc : c ≠ Dl := fun z => by
          rw [z] at e
          rw [n1.exH Dl u e hT] at hD
          cases hD
        rw [upd_ne hc]
        exact nn.own c u e n
/-- sorted(d), d a dict of ints -/
theorem d_sortedV {kvs : List (Key × V)} {ks ys : List Int} (h : env[i]? = some (.obj (.dK kvs))) (hk : kvs.map (·.1) = ks.map Sum.inl) (h64 : ks.length < 64) (hy : ∀ zs : List Int, zs.Perm ks → zs.Pairwise (· ≤ ·) → zs = ys) :
    EvD K T (tCB (fun xs H Q => ∃ (a : Addr) (kvs : List (Key × V)) (ks : List Int), xs = [.ref a] ∧ Rd H a (.dK kvs) ∧ kvs.map (·.1) = ks.map Sum.inl ∧ ks.length < 64 ∧ ∀ (ys : List Int) (p : Addr), ys.Perm ks → ys.Pairwise (· ≤ ·) → H p = none → Q (.ref p) (upd H p (.lst (ys.map V.int)))) (tCons (tVar i) tNil)) env (dInts ys) := fun F0 H0 F H σ o Q q => by
  obtain ⟨a, e, ha⟩ := o.sl i _ h
  refine ⟨_, e, a, kvs, ks, rfl, .inl (o.wk.sub _ _ ha), hk, h64, fun zs p h1 h2 hp => ?_⟩
  obtain rfl := hy zs h1 h2
  exact q _ (upd F p (.lst (zs.map V.int))) _ (o.wk.new hp) (Nx.new o.wk hp) (.lst (.inl (.inl upd_same)) (ints_dps zs))
/-- d[k], there -/
theorem d_dget {kvs : List (Key × V)} {k v : Int} (h : env[i]? = some (.obj (.dK kvs))) (hk : EvD K T te env (.int k)) (hv : valV kvs (.inl k) = some (.int v)) : EvD K T (tDGet (tVar i) te) env (.int v) := fun F0 H0 F H σ o Q q => by
  obtain ⟨a, e, ha⟩ := o.sl i _ h
  refine ⟨_, e, hk F0 H0 F H σ o _ fun y F1 H1 w1 n1 d1 => ?_⟩
  cases d1
  refine ⟨a, .int v, rfl, ?_, q _ F1 H1 w1 n1 (.int v)⟩
  rw [← hv]
  exact DGet.k (k := .inl k) (w1.sub _ _ (n1.exF _ _ ha))
/-- i in a list of ints -/
theorem r_inI {n : Int} {ns : List Int} : ROp K T (rIn K false) (.int n) (dInts ns) (.bool (decide (n ∈ ns))) := fun F H a b w ha hb Q q => by
  cases ha
  cases hb with
  | @lst p xs _ hs hd =>
    have e := dps_ints hd
    subst e
    have e1 : inV (.int n) (ns.map V.int) = decide (n ∈ ns) := by
      unfold inV
      rw [List.any_map, Bool.eq_iff_iff, List.any_eq_true, decide_eq_true_iff]
      constructor
      · rintro ⟨m, hm, e⟩
        have e : m = n := by simpa [eqV] using e
        exact e ▸ hm
      · intro hn
        exact ⟨n, hn, by simp [eqV]⟩
    refine ⟨p, _, rfl, .inl (Evl.ex_l w.sub hs), rfl, ?_, ?_⟩
    · rw [List.all_map, List.all_eq_true]
      intro m _
      rfl
    · rw [if_neg Bool.false_ne_true, e1]
      exact q _ F H w (Nx.refl T F H) (.bl _)
end
end DL
set_option Elab.async false
set_option linter.all false
set_option maxRecDepth 100000
set_option maxHeartbeats 4000000
namespace K02
open PySem PySem.Spec PyProof.Rows L2 DL
/-! an expression's value, step by step; what it cannot say is left -/
local macro_rules | `(tactic| walk_at "dl") => `(tactic| repeat' (first
  | exact d_var rfl
  | exact d_int
  | exact d_bl
  | exact d_non
  | exact d_str
  | exact a_nil
  | refine a_cons ?_ ?_
  | refine d_un ?_ r_neg
  | refine d_cb (a_cons ?_ a_nil) r_abs
  | refine d_cb (a_cons ?_ a_nil) r_lenL
  | refine d_cb (a_cons ?_ a_nil) r_list
  | refine d_cb (a_cons ?_ (a_cons ?_ a_nil)) r_max2
  | refine d_op ?_ ?_ r_int
  | refine d_op ?_ ?_ r_bool
  | refine d_op ?_ ?_ r_eqI
  | refine d_op ?_ ?_ r_neI
  | refine d_op ?_ ?_ r_eqB
  | refine d_op ?_ ?_ r_neB
  | refine d_op ?_ ?_ r_eqS
  | refine d_op ?_ ?_ r_neS
  | refine d_op ?_ d_non r_isN
  | refine d_op ?_ d_non r_notN
  | refine d_op ?_ ?_ (r_intC ?_)
  | refine d_op ?_ ?_ (r_ixL ?_)
  | refine d_op ?_ ?_ (r_ixT ?_)
  | refine t_test ?_
  | refine t_B ?_
  | refine t_not ?_))
/-! ### the text -/
def topS (i : Nat) : Stmt := PySem.Challenge.pw_everywish_k02_what_is_ended.main.body.getD i (.Pass ⟨0, 0, 0, 0⟩)
abbrev s_is_set : Stmt := topS 1
abbrev s_is_so : Stmt := topS 2
abbrev s_first_so : Stmt := topS 3
abbrev s_met : Stmt := topS 4
abbrev s_lost : Stmt := topS 5
abbrev s_by_lamp : Stmt := topS 6
abbrev s_ended : Stmt := topS 7
abbrev s_L_cell_at : Stmt := topS 9
abbrev s_L_values : Stmt := topS 10
abbrev s_L_wish : Stmt := topS 11
abbrev s_L_wishes : Stmt := topS 12
abbrev s_L_so : Stmt := topS 13
abbrev s_L_rising : Stmt := topS 14
abbrev s_L_due : Stmt := topS 15
abbrev s_L_alike : Stmt := topS 16
abbrev s_law : Stmt := topS 17
theorem sc_is_set : FnScope ["number", "setting"] ["number", "setting"] (defScope s_is_set) := ⟨rfl, rfl, rfl, by decide +kernel, rfl, by decide +kernel, by decide +kernel⟩
theorem sc_is_so : FnScope ["number", "setting"] ["number", "setting"] (defScope s_is_so) := ⟨rfl, rfl, rfl, by decide +kernel, rfl, by decide +kernel, by decide +kernel⟩
theorem sc_first_so : FnScope ["wish", "setting", "number"] ["wish", "setting"] (defScope s_first_so) := ⟨rfl, rfl, rfl, by decide +kernel, rfl, by decide +kernel, by decide +kernel⟩
theorem sc_met : FnScope ["wish", "setting"] ["wish", "setting"] (defScope s_met) := ⟨rfl, rfl, rfl, by decide +kernel, rfl, by decide +kernel, by decide +kernel⟩
theorem sc_lost : FnScope ["wish", "setting", "number"] ["wish", "setting"] (defScope s_lost) := ⟨rfl, rfl, rfl, by decide +kernel, rfl, by decide +kernel, by decide +kernel⟩
theorem sc_by_lamp : FnScope ["numbers", "of_lamp", "number", "lamp"] ["numbers"] (defScope s_by_lamp) := ⟨rfl, rfl, rfl, by decide +kernel, rfl, by decide +kernel, by decide +kernel⟩
theorem sc_ended : FnScope ["wishes", "setting", "wish", "number"] ["wishes", "setting"] (defScope s_ended) := ⟨rfl, rfl, rfl, by decide +kernel, rfl, by decide +kernel, by decide +kernel⟩
theorem sc_L_cell_at : FnScope ["_law_script", "_law_k"] ["_law_script", "_law_k"] (defScope s_L_cell_at) := ⟨rfl, rfl, rfl, by decide +kernel, rfl, by decide +kernel, by decide +kernel⟩
theorem sc_L_values : FnScope ["_law_cell", "_law_many", "_law_values_here", "_law_k"] ["_law_cell", "_law_many"] (defScope s_L_values) := ⟨rfl, rfl, rfl, by decide +kernel, rfl, by decide +kernel, by decide +kernel⟩
theorem sc_L_wish : FnScope ["_law_cell", "_law_many", "_law_size", "_law_wish_here", "_law_k", "_law_number"] ["_law_cell", "_law_many"] (defScope s_L_wish) := ⟨rfl, rfl, rfl, by decide +kernel, rfl, by decide +kernel, by decide +kernel⟩
theorem sc_L_wishes : FnScope ["_law_script", "_law_many", "_law_count", "_law_k"] ["_law_script", "_law_many"] (defScope s_L_wishes) := ⟨rfl, rfl, rfl, by decide +kernel, rfl, by decide +kernel, by decide +kernel⟩
theorem sc_L_so : FnScope ["_law_number", "_law_setting", "_law_lamp"] ["_law_number", "_law_setting"] (defScope s_L_so) := ⟨rfl, rfl, rfl, by decide +kernel, rfl, by decide +kernel, by decide +kernel⟩
theorem sc_L_rising : FnScope ["_law_numbers", "_law_found", "_law_lamp", "_law_sign"] ["_law_numbers"] (defScope s_L_rising) := ⟨rfl, rfl, rfl, by decide +kernel, rfl, by decide +kernel, by decide +kernel⟩
theorem sc_L_due : FnScope ["_law_wishes_here", "_law_setting", "_law_hung", "_law_open_ones", "_law_wish_here", "_law_so_here", "_law_far", "_law_number"] ["_law_wishes_here", "_law_setting"] (defScope s_L_due) := ⟨rfl, rfl, rfl, by decide +kernel, rfl, by decide +kernel, by decide +kernel⟩
theorem sc_L_alike : FnScope ["_law_found", "_law_due_here", "_law_number"] ["_law_found", "_law_due_here"] (defScope s_L_alike) := ⟨rfl, rfl, rfl, by decide +kernel, rfl, by decide +kernel, by decide +kernel⟩
theorem sc_law : FnScope ["_law_script", "_law_many", "_law_wishes_here", "_law_setting", "_law_one", "_law_other", "_law_found", "_law_wish_here"] ["_law_script"] (defScope s_law) := ⟨rfl, rfl, rfl, by decide +kernel, rfl, by decide +kernel, by decide +kernel⟩
/-! ### the mathematics -/
/-- a number's lamp -/
def lampI (n : Int) : Int := if n < 0 then -n else n
def lampN (n : Int) : Nat := n.natAbs
theorem lampI_eq (n : Int) : lampI n = (lampN n : Int) := by unfold lampI lampN; split <;> omega
def isSet (n : Int) (s : List Bool) : Bool := decide (0 < lampN n) && decide (lampN n ≤ s.length)
def isSo (n : Int) (s : List Bool) : Bool := isSet n s && decide (s[lampN n - 1]? = some (decide (0 < n)))
def firstSo (w : List Int) (s : List Bool) : Option Int := w.find? fun n => isSo n s
def optI : Option Int → PySem.PyData
  | some n => .int n
  | none => .none
def metB (w : List Int) (s : List Bool) : Bool := w.any fun n => isSo n s
def lostB (w : List Int) (s : List Bool) : Bool := (w.all fun n => isSet n s) && !metB w s
theorem isSet_iff {n : Int} {s : List Bool} : isSet n s = true ↔ 0 < lampN n ∧ lampN n ≤ s.length := by simp [isSet]
theorem metB_find (w : List Int) (s : List Bool) : metB w s = (firstSo w s).isSome := by
  unfold metB firstSo
  rw [Bool.eq_iff_iff, List.find?_isSome, List.any_eq_true]
theorem find_here {p : Int → Bool} : ∀ {l : List Int} {k : Nat} {n : Int}, l[k]? = some n → (l.take k).find? p = none → p n = true → l.find? p = some n
  | [], k, n, h, _, _ => by simp at h
  | a :: l, 0, n, h, _, hp => by
    have e : a = n := Option.some.inj h
    subst e
    exact List.find?_cons_of_pos hp
  | a :: l, k + 1, n, h, hn, hp => by
    have hn : (a :: l.take k).find? p = none := hn
    have ha : p a = false := by
      cases q : p a with
      | false => rfl
      | true => rw [List.find?_cons_of_pos q] at hn; cases hn
    rw [List.find?_cons_of_neg (by simp [ha])] at hn ⊢
    exact find_here (l := l) (k := k) h hn hp
theorem find_more {p : Int → Bool} {l : List Int} {k : Nat} {n : Int} (h : l[k]? = some n) (hn : (l.take k).find? p = none) (hp : p n = false) : (l.take (k + 1)).find? p = none := by
  rw [List.take_add_one, h, List.find?_append, hn]
  simp [hp]
/-- a test of an int, of data -/
def numP (p : Int → Bool) : PySem.PyData → Bool
  | .int n => p n
  | _ => false
theorem all_numP (p : Int → Bool) (v : List Int) : (v.map PySem.PyData.int).all (numP p) = v.all p := by
  rw [List.all_map]
  rfl
/-! numbers, lamp by lamp -/
def riseAt (v : List Int) (l : Int) : List Int := [-1 * l, 1 * l].filter fun n => decide (n ∈ v)
def riseTo (v : List Int) (k : Nat) : List Int := (List.range k).flatMap fun i : Nat => riseAt v (1 + (i : Int))
def rising (v : List Int) : List Int := riseTo v 10
theorem riseTo_succ (v : List Int) (k : Nat) : riseTo v (k + 1) = riseTo v k ++ riseAt v (1 + (k : Int)) := by simp [riseTo, List.range_succ, List.flatMap_append]
theorem riseAt_len (v : List Int) (l : Int) : (riseAt v l).length ≤ 2 := List.length_filter_le _ _
theorem riseTo_len (v : List Int) : ∀ k, (riseTo v k).length ≤ 2 * k
  | 0 => Nat.zero_le _
  | k + 1 => by
    have := riseTo_len v k
    have := riseAt_len v (1 + (k : Int))
    rw [riseTo_succ, List.length_append]
    omega
/-- no lamp twice -/
structure Good (v : List Int) : Prop where
  len : v.length ≤ 50
  in10 : ∀ n ∈ v, n ≠ 0 ∧ lampN n ≤ 10
  one : ∀ n ∈ v, ∀ m ∈ v, lampI n = lampI m → n = m
def kvsOf (v : List Int) : List (Key × V) := v.foldl (fun acc n => putK acc (.inl (lampI n)) (.int n)) []
def lampD : D → Int
  | .int n => lampI n
  | _ => 0
def numD : D → Int
  | .int n => n
  | _ => 0
theorem dc_kvs (v : List Int) : dcOf lampD numD (v.map PyData.int) = kvsOf v := by
  unfold dcOf kvsOf
  rw [List.foldl_map]
  rfl
structure Kept (acc : List (Key × V)) (s : List Int) (ks : List Int) : Prop where
  keys : acc.map (·.1) = ks.map Sum.inl
  nd : ks.Nodup
  mem : ∀ l, l ∈ ks ↔ ∃ n ∈ s, lampI n = l
  len : ks.length ≤ s.length
  val : ∀ n ∈ s, valV acc (.inl (lampI n)) = some (.int n)
theorem put_new {acc : List (Key × V)} {ks : List Int} {l : Int} {y : V} (h : acc.map (·.1) = ks.map Sum.inl) (hl : l ∉ ks) : (putK acc (.inl l) y).map (·.1) = (ks ++ [l]).map Sum.inl := by
  unfold putK
  have e : (acc.any fun kv => decide (kv.1 = (.inl l : Key))) = false := by
    rw [Bool.eq_false_iff]
    intro z
    obtain ⟨p, hp, e⟩ := List.any_eq_true.mp z
    have e : p.1 = .inl l := of_decide_eq_true e
    have : (.inl l : Key) ∈ acc.map (·.1) := e ▸ List.mem_map_of_mem hp
    rw [h] at this
    obtain ⟨m, hm, e⟩ := List.mem_map.mp this
    cases e
    exact hl hm
  rw [if_neg (by rw [e]; decide), List.map_append, h, List.map_append]
  rfl
theorem put_old {acc : List (Key × V)} {ks : List Int} {l : Int} {y : V} (h : acc.map (·.1) = ks.map Sum.inl) (hl : l ∈ ks) : (putK acc (.inl l) y).map (·.1) = ks.map Sum.inl := by
  unfold putK
  have e : (acc.any fun kv => decide (kv.1 = (.inl l : Key))) = true := by
    have : (.inl l : Key) ∈ acc.map (·.1) := by rw [h]; exact List.mem_map_of_mem hl
    obtain ⟨p, hp, e⟩ := List.mem_map.mp this
    exact List.any_eq_true.mpr ⟨p, hp, decide_eq_true e⟩
  rw [if_pos e, List.map_map, ← h]
  refine List.map_congr_left fun p _ => ?_
  show (if p.1 = .inl l then (p.1, y) else p).1 = p.1
  split <;> rfl
theorem Kept.put {acc : List (Key × V)} {s ks : List Int} {n : Int} (K : Kept acc s ks) (h : ∀ m ∈ s, lampI m = lampI n → m = n) : ∃ ks', Kept (putK acc (.inl (lampI n)) (.int n)) (s ++ [n]) ks' := by
  have val : ∀ m ∈ s ++ [n], valV (putK acc (.inl (lampI n)) (.int n)) (.inl (lampI m)) = some (.int m) := fun m hm => by
    rw [valV_put]
    by_cases e : lampI m = lampI n
    · have hmn : m = n := by
        rcases List.mem_append.mp hm with hm | hm
        · exact h m hm e
        · exact List.mem_singleton.mp hm
      rw [if_pos (by rw [e]), hmn]
    · rw [if_neg fun z => e (Sum.inl.inj z)]
      rcases List.mem_append.mp hm with hm | hm
      · exact K.val m hm
      · exact absurd (by rw [List.mem_singleton.mp hm]) e
  by_cases hl : lampI n ∈ ks
  · refine ⟨ks, put_old K.keys hl, K.nd, fun l => ?_, by rw [List.length_append]; exact Nat.le_succ_of_le K.len, val⟩
    rw [K.mem]
    constructor
    · rintro ⟨m, hm, e⟩
      exact ⟨m, List.mem_append_left _ hm, e⟩
    · rintro ⟨m, hm, e⟩
      rcases List.mem_append.mp hm with hm | hm
      · exact ⟨m, hm, e⟩
      · rw [List.mem_singleton.mp hm] at e
        exact (K.mem l).mp (e ▸ hl)
  · refine ⟨ks ++ [lampI n], put_new K.keys hl, ?_, fun l => ?_, by rw [List.length_append, List.length_append]; exact Nat.succ_le_succ K.len, val⟩
    · rw [List.nodup_append]
      refine ⟨K.nd, by simp, fun a ha b hb e => hl ?_⟩
      rw [List.mem_singleton.mp hb] at e
      exact e ▸ ha
    · rw [List.mem_append, List.mem_singleton, K.mem]
      constructor
      · rintro (⟨m, hm, e⟩ | e)
        · exact ⟨m, List.mem_append_left _ hm, e⟩
        · exact ⟨n, by simp, e.symm⟩
      · rintro ⟨m, hm, e⟩
        rcases List.mem_append.mp hm with hm | hm
        · exact .inl ⟨m, hm, e⟩
        · rw [List.mem_singleton.mp hm] at e
          exact .inr e.symm
theorem kept_fold : ∀ (r : List Int) {acc : List (Key × V)} {s ks : List Int}, Kept acc s ks → (∀ n ∈ s ++ r, ∀ m ∈ s ++ r, lampI n = lampI m → n = m) → ∃ ks', Kept (r.foldl (fun acc n => putK acc (.inl (lampI n)) (.int n)) acc) (s ++ r) ks'
  | [], acc, s, ks, K, _ => ⟨ks, by rw [List.append_nil]; exact K⟩
  | n :: r, acc, s, ks, K, h => by
    obtain ⟨ks1, K1⟩ := K.put (n := n) fun m hm e => h m (List.mem_append_left _ hm) n (by simp) e
    have := kept_fold r K1 (by rw [List.append_assoc]; exact h)
    rw [List.append_assoc] at this
    exact this
theorem kept_of {v : List Int} (h : Good v) : ∃ ks, Kept (kvsOf v) v ks := kept_fold v (acc := []) (s := []) (ks := []) ⟨rfl, .nil, fun l => by simp, Nat.le_refl _, fun _ hn => nomatch hn⟩ h.one
/-- the lamps of numbers, rising -/
def lampsOf (v : List Int) : List Int := ((List.range 10).map fun i : Nat => 1 + (i : Int)).filter fun l => decide (l ∈ v ∨ -l ∈ v)
theorem ten_up : ((List.range 10).map fun i : Nat => 1 + (i : Int)).Pairwise (· < ·) := by decide
theorem lampsOf_up (v : List Int) : (lampsOf v).Pairwise (· < ·) := ten_up.filter _
theorem mem_ten {l : Int} : l ∈ ((List.range 10).map fun i : Nat => 1 + (i : Int)) ↔ 1 ≤ l ∧ l ≤ 10 := by
  rw [List.mem_map]
  constructor
  · rintro ⟨i, hi, rfl⟩
    have := List.mem_range.mp hi
    omega
  · rintro ⟨h1, h2⟩
    exact ⟨(l - 1).toNat, List.mem_range.mpr (by omega), by omega⟩
theorem mem_lamps {v : List Int} (h : Good v) {l : Int} : l ∈ lampsOf v ↔ ∃ n ∈ v, lampI n = l := by
  unfold lampsOf
  rw [List.mem_filter, mem_ten, decide_eq_true_iff]
  constructor
  · rintro ⟨⟨h1, h2⟩, hl | hl⟩
    · exact ⟨l, hl, by unfold lampI; split <;> omega⟩
    · exact ⟨-l, hl, by unfold lampI; split <;> omega⟩
  · rintro ⟨n, hn, rfl⟩
    have g := h.in10 n hn
    have e := lampI_eq n
    unfold lampN at e g
    refine ⟨by omega, ?_⟩
    by_cases hs : n < 0
    · right
      have : -lampI n = n := by unfold lampI; rw [if_pos hs]; omega
      rw [this]; exact hn
    · left
      have : lampI n = n := by unfold lampI; rw [if_neg hs]
      rw [this]; exact hn
theorem sorted_same : ∀ {l m : List Int}, l.Pairwise (· < ·) → m.Pairwise (· < ·) → (∀ x, x ∈ l ↔ x ∈ m) → l = m
  | [], [], _, _, _ => rfl
  | [], b :: m, _, _, h => absurd ((h b).mpr (by simp)) (by simp)
  | a :: l, [], _, _, h => absurd ((h a).mp (by simp)) (by simp)
  | a :: l, b :: m, h1, h2, h => by
    rw [List.pairwise_cons] at h1 h2
    have e : a = b := by
      have ha := (h a).mp (by simp)
      have hb := (h b).mpr (by simp)
      rcases List.mem_cons.mp ha with e | ha
      · exact e
      · rcases List.mem_cons.mp hb with e | hb
        · exact e.symm
        · have := h1.1 b hb
          have := h2.1 a ha
          omega
    subst e
    congr 1
    refine sorted_same h1.2 h2.2 fun x => ?_
    constructor
    · intro hx
      rcases List.mem_cons.mp ((h x).mp (List.mem_cons_of_mem _ hx)) with e | z
      · have := h1.1 x hx; omega
      · exact z
    · intro hx
      rcases List.mem_cons.mp ((h x).mpr (List.mem_cons_of_mem _ hx)) with e | z
      · have := h2.1 x hx; omega
      · exact z
theorem sorted_keys {v ks zs : List Int} {acc : List (Key × V)} (h : Good v) (K : Kept acc v ks) (h1 : zs.Perm ks) (h2 : zs.Pairwise (· ≤ ·)) : zs = lampsOf v := by
  have nd : zs.Nodup := h1.nodup_iff.mpr K.nd
  refine sorted_same ?_ (lampsOf_up v) fun x => ?_
  · exact h2.imp₂ (fun a b hab hne => by omega) nd
  · rw [h1.mem_iff, K.mem, mem_lamps h]
/-- the number of a lamp -/
def numOf (v : List Int) (l : Int) : Int := if -l ∈ v then -l else l
theorem numOf_val {v ks : List Int} {acc : List (Key × V)} (h : Good v) (K : Kept acc v ks) {l : Int} (hl : l ∈ lampsOf v) : valV acc (.inl l) = some (.int (numOf v l)) := by
  obtain ⟨n, hn, rfl⟩ := (mem_lamps h).mp hl
  rw [K.val n hn]
  congr 2
  unfold numOf
  split
  · rename_i z
    refine h.one n hn _ z ?_
    unfold lampI
    split <;> split <;> omega
  · rename_i z
    by_cases hs : n < 0
    · exact absurd (by unfold lampI; rw [if_pos hs]; simpa using hn) z
    · unfold lampI
      rw [if_neg hs]
theorem filter_flat {p : Int → Bool} {f : Int → Int} {g : Int → List Int} : ∀ {L : List Int}, (∀ l ∈ L, g l = if p l then [f l] else []) → (L.filter p).map f = L.flatMap g
  | [], _ => rfl
  | l :: L, h => by
    have ih := filter_flat (L := L) fun x hx => h x (List.mem_cons_of_mem _ hx)
    rw [List.flatMap_cons, h l (by simp), ← ih, List.filter_cons]
    split <;> rfl
theorem rising_eq {v : List Int} (h : Good v) : (lampsOf v).map (numOf v) = rising v := by
  unfold lampsOf rising riseTo
  rw [← List.flatMap_map (f := fun i : Nat => 1 + (i : Int)) (g := riseAt v)]
  refine filter_flat fun l hl => ?_
  have hl := mem_ten.mp hl
  unfold riseAt numOf
  have e1 : (-1 : Int) * l = -l := by omega
  have e2 : (1 : Int) * l = l := by omega
  rw [e1, e2]
  by_cases h1 : -l ∈ v
  · have h2 : l ∉ v := fun z => by
      have := h.one l z (-l) h1 (by unfold lampI; split <;> split <;> omega)
      omega
    simp [List.filter_cons, h1, h2]
  · by_cases h2 : l ∈ v
    · simp [List.filter_cons, h1, h2]
    · simp [List.filter_cons, h1, h2]
/-! what is ended -/
def Wish (w : List Int) : Prop := w.length ≤ 10 ∧ ∀ n ∈ w, n ≠ 0 ∧ lampN n ≤ 10
def Wishes (ws : List (List Int)) : Prop := ws.length ≤ 20 ∧ ∀ w ∈ ws, Wish w
def turned (w : List Int) : List Int := w.map fun n => -n
def firsts (ws : List (List Int)) (st : List Bool) : List Int := ws.filterMap fun w => firstSo w st
def ans (ws : List (List Int)) (st : List Bool) : Option (Bool × List Int) :=
  match ws.find? fun w => lostB w st with
  | some w => some (false, rising (turned w))
  | none => if ws.all fun w => metB w st then some (true, rising (firsts ws st)) else none
def ansD : Option (Bool × List Int) → D
  | none => .none
  | some (b, l) => .tuple [.bool b, dInts l]
abbrev wishesD (ws : List (List Int)) : D := .list (ws.map dInts)
theorem so_apart {st : List Bool} {n m : Int} (hn : isSo n st = true) (hm : isSo m st = true) (e : lampI n = lampI m) : n = m := by
  unfold isSo at hn hm
  rw [Bool.and_eq_true, decide_eq_true_iff] at hn hm
  have e' : lampN n = lampN m := by
    have h1 := lampI_eq n
    have h2 := lampI_eq m
    omega
  have h2 := hm.2
  rw [← e', hn.2] at h2
  have h : decide (0 < n) = decide (0 < m) := Option.some.inj h2
  rw [decide_eq_decide] at h
  unfold lampN at e'
  omega
theorem notSo_apart {st : List Bool} {n m : Int} (s : isSet n st = true) (s2 : isSet m st = true) (hn : isSo n st = false) (hm : isSo m st = false) (e : lampI n = lampI m) : n = m := by
  have e' : lampN n = lampN m := by
    have h1 := lampI_eq n
    have h2 := lampI_eq m
    omega
  unfold isSo at hn hm
  rw [s, Bool.true_and, decide_eq_false_iff_not] at hn
  rw [s2, Bool.true_and, decide_eq_false_iff_not, ← e'] at hm
  obtain ⟨h1, h2⟩ := isSet_iff.mp s
  have g : st[lampN n - 1]? = some st[lampN n - 1] := List.getElem?_eq_getElem (by omega)
  rw [g] at hn hm
  have hn : st[lampN n - 1] ≠ decide (0 < n) := fun z => hn (congrArg some z)
  have hm : st[lampN n - 1] ≠ decide (0 < m) := fun z => hm (congrArg some z)
  have h : decide (0 < n) = decide (0 < m) := by
    cases h1 : decide (0 < n) <;> cases h2 : decide (0 < m) <;> simp_all
  rw [decide_eq_decide] at h
  unfold lampN at e'
  omega
theorem lost_iff {w : List Int} {st : List Bool} : lostB w st = true ↔ (∀ n ∈ w, isSet n st = true) ∧ ∀ n ∈ w, isSo n st = false := by
  unfold lostB metB
  rw [Bool.and_eq_true, List.all_eq_true, Bool.not_eq_true', List.any_eq_false]
  simp
theorem good_turned {w : List Int} {st : List Bool} (hw : Wish w) (h : lostB w st = true) : Good (turned w) := by
  obtain ⟨h1, h2⟩ := lost_iff.mp h
  refine ⟨by unfold turned; rw [List.length_map]; have := hw.1; omega, fun n hn => ?_, fun n hn m hm e => ?_⟩
  · obtain ⟨k, hk, rfl⟩ := List.mem_map.mp hn
    have := hw.2 k hk
    unfold lampN at this ⊢
    omega
  · obtain ⟨k, hk, rfl⟩ := List.mem_map.mp hn
    obtain ⟨i, hi, rfl⟩ := List.mem_map.mp hm
    have neg : ∀ x : Int, lampI (-x) = lampI x := fun x => by unfold lampI; split <;> split <;> omega
    rw [neg, neg] at e
    rw [notSo_apart (h1 k hk) (h1 i hi) (h2 k hk) (h2 i hi) e]
theorem firsts_so {ws : List (List Int)} {st : List Bool} {n : Int} (h : n ∈ firsts ws st) : isSo n st = true ∧ ∃ w ∈ ws, n ∈ w := by
  obtain ⟨w, hw, e⟩ := List.mem_filterMap.mp h
  exact ⟨List.find?_some (p := fun n => isSo n st) e, w, hw, List.mem_of_find?_eq_some e⟩
theorem good_firsts {ws : List (List Int)} {st : List Bool} (hw : Wishes ws) : Good (firsts ws st) := by
  refine ⟨Nat.le_trans (List.length_filterMap_le _ _) (by have := hw.1; omega), fun n hn => ?_, fun n hn m hm e => so_apart (firsts_so hn).1 (firsts_so hm).1 e⟩
  obtain ⟨_, w, hw1, hn⟩ := firsts_so hn
  exact (hw.2 w hw1).2 n hn
theorem all_met_firsts {ws : List (List Int)} {st : List Bool} : (ws.all fun w => metB w st) = true → (ws.map fun w => optI (firstSo w st)) = (firsts ws st).map PySem.PyData.int := by
  induction ws with
  | nil => intro _; rfl
  | cons w ws ih =>
    intro h
    rw [List.all_cons, Bool.and_eq_true, metB_find] at h
    obtain ⟨n, hn⟩ := Option.isSome_iff_exists.mp h.1
    show optI (firstSo w st) :: ws.map _ = ((w :: ws).filterMap fun w => firstSo w st).map _
    rw [List.filterMap_cons_some (f := fun w => firstSo w st) hn, hn, ih h.2]
    rfl
/-! the law's own words -/
def soL (w : List Int) (st : List Bool) : List Int := w.filter fun n => isSo n st
def farL (w : List Int) (st : List Bool) : List Int := w.filter fun n => decide (st.length < lampN n)
theorem lost_lists {w : List Int} {st : List Bool} (hw : Wish w) : lostB w st = ((soL w st).isEmpty && (farL w st).isEmpty) := by
  rw [Bool.eq_iff_iff, lost_iff, Bool.and_eq_true, List.isEmpty_iff, List.isEmpty_iff]
  unfold soL farL
  rw [List.filter_eq_nil_iff, List.filter_eq_nil_iff]
  constructor
  · rintro ⟨h1, h2⟩
    refine ⟨fun n hn => by simp [h2 n hn], fun n hn => ?_⟩
    have := (isSet_iff.mp (h1 n hn)).2
    simp only [decide_eq_true_iff]
    omega
  · rintro ⟨h1, h2⟩
    refine ⟨fun n hn => isSet_iff.mpr ?_, fun n hn => by simpa using h1 n hn⟩
    have a := (hw.2 n hn).1
    have b := h2 n hn
    simp only [decide_eq_true_iff] at b
    unfold lampN at b ⊢
    omega
theorem met_list (w : List Int) (st : List Bool) : metB w st = !(soL w st).isEmpty := by
  rw [Bool.eq_iff_iff, Bool.not_eq_true', ← Bool.not_eq_true, List.isEmpty_iff]
  unfold metB soL
  rw [List.filter_eq_nil_iff, List.any_eq_true]
  simp
theorem first_list (w : List Int) (st : List Bool) : (soL w st).take 1 = (firstSo w st).toList := by
  unfold soL firstSo
  rw [← List.head?_filter]
  cases List.filter (fun n => isSo n st) w <;> rfl
def openN (ws : List (List Int)) (st : List Bool) : Nat := (ws.filter fun w => !metB w st).length
theorem firsts_succ {ws : List (List Int)} {st : List Bool} {k : Nat} {w : List Int} (h : ws[k]? = some w) : firsts (ws.take (k + 1)) st = firsts (ws.take k) st ++ (soL w st).take 1 := by
  unfold firsts
  rw [filterMap_take_succ h, first_list]
theorem openN_succ {ws : List (List Int)} {st : List Bool} {k : Nat} {w : List Int} (h : ws[k]? = some w) : openN (ws.take (k + 1)) st = openN (ws.take k) st + if metB w st then 0 else 1 := by
  unfold openN
  rw [List.take_add_one, h, List.filter_append, List.length_append]
  show _ + (List.filter _ [w]).length = _
  cases e : metB w st <;> simp [e]
theorem openN_zero {ws : List (List Int)} {st : List Bool} : openN ws st = 0 ↔ (ws.all fun w => metB w st) = true := by
  unfold openN
  rw [List.length_eq_zero_iff, List.filter_eq_nil_iff, List.all_eq_true]
  simp
theorem none_take_succ {ws : List (List Int)} {st : List Bool} {k : Nat} {w : List Int} (h : ws[k]? = some w) (hn : (ws.take k).find? (fun w => lostB w st) = none) (hp : lostB w st = false) : (ws.take (k + 1)).find? (fun w => lostB w st) = none := by
  rw [List.take_add_one, h, List.find?_append, hn]
  simp [hp]
theorem some_here {ws : List (List Int)} {st : List Bool} {k : Nat} {w : List Int} (h : ws[k]? = some w) (hn : (ws.take k).find? (fun w => lostB w st) = none) (hp : lostB w st = true) : ws.find? (fun w => lostB w st) = some w := by
  have hk : k < ws.length := (List.getElem?_eq_some_iff.mp h).1
  rw [← List.take_append_drop k ws, List.find?_append, hn, Option.none_or, List.drop_eq_getElem_cons hk]
  have e : ws[k] = w := (List.getElem?_eq_some_iff.mp h).2
  rw [e, List.find?_cons_of_pos (p := fun w => lostB w st) hp]
/-! the wishes that a script tells -/
theorem pick_at (l : List Int) (n : Nat) (hn : l.length = n) (h0 : 0 < n) (i : Int) : atI (l.map PySem.PyData.int) (i % (n : Int)) = some (.int (l.getD (i % (n : Int)).toNat 0)) := by
  obtain ⟨k, hk, hkn⟩ := rest_nat i n h0
  rw [hk, Int.toNat_natCast, List.getD_eq_getElem?_getD, List.getElem?_eq_getElem (by omega)]
  exact ints_get (List.getElem?_eq_getElem (by omega))
def mixed (c : Int) : Int := c * 271828182845905 % 1000000000000037
def sizes (c : Int) : List Int := [1, 2, 2, 3, 4 + c / 8 % 6, 3, 0, 10]
def sizeOf' (c : Int) : Int := (sizes c).getD (c % 8).toNat 0
theorem size_ok (c : Int) : ∃ k : Nat, sizeOf' c = (k : Int) ∧ k ≤ 10 := by
  have h6 : 0 ≤ c / 8 % 6 ∧ c / 8 % 6 < 6 := by omega
  have h : 0 ≤ sizeOf' c ∧ sizeOf' c ≤ 10 := by
    unfold sizeOf' sizes
    have h : c % 8 = 0 ∨ c % 8 = 1 ∨ c % 8 = 2 ∨ c % 8 = 3 ∨ c % 8 = 4 ∨ c % 8 = 5 ∨ c % 8 = 6 ∨ c % 8 = 7 := by omega
    rcases h with h | h | h | h | h | h | h | h <;> rw [h]
    · show (0 : Int) ≤ 1 ∧ (1 : Int) ≤ 10; omega
    · show (0 : Int) ≤ 2 ∧ (2 : Int) ≤ 10; omega
    · show (0 : Int) ≤ 2 ∧ (2 : Int) ≤ 10; omega
    · show (0 : Int) ≤ 3 ∧ (3 : Int) ≤ 10; omega
    · show (0 : Int) ≤ 4 + c / 8 % 6 ∧ 4 + c / 8 % 6 ≤ (10 : Int); omega
    · show (0 : Int) ≤ 3 ∧ (3 : Int) ≤ 10; omega
    · show (0 : Int) ≤ 0 ∧ (0 : Int) ≤ 10; omega
    · show (0 : Int) ≤ 10 ∧ (10 : Int) ≤ 10; omega
  exact ⟨(sizeOf' c).toNat, by omega, by omega⟩
def down (c q : Int) : Nat → Int
  | 0 => c
  | k + 1 => down c q k / q
def num (c m : Int) : Int := if c / m % 2 = 1 then -(1 + c % m) else 1 + c % m
def nums (c : Int) (m k : Nat) : List Int := (List.range k).map fun i => num (down c (2 * (m : Int)) i) (m : Int)
theorem nums_len (c : Int) (m k : Nat) : (nums c m k).length = k := by simp [nums]
theorem nums_succ (c : Int) (m k : Nat) : nums c m (k + 1) = nums c m k ++ [num (down c (2 * (m : Int)) k) (m : Int)] := by simp [nums, List.range_succ]
def wishOf (c : Int) (m : Nat) : List Int := if 0 < m then nums (mixed c / 48) m (sizeOf' (mixed c)).toNat else []
theorem wishOf_ok {c : Int} {m : Nat} (hm : m ≤ 10) : Wish (wishOf c m) := by
  unfold wishOf
  split
  · rename_i h0
    obtain ⟨k, hk, hk10⟩ := size_ok (mixed c)
    refine ⟨by rw [nums_len, hk, Int.toNat_natCast]; exact hk10, fun n hn => ?_⟩
    obtain ⟨i, _, rfl⟩ := List.mem_map.mp hn
    have h1 : 0 ≤ down (mixed c / 48) (2 * (m : Int)) i % (m : Int) := Int.emod_nonneg _ (by omega)
    have h2 : down (mixed c / 48) (2 * (m : Int)) i % (m : Int) < (m : Int) := Int.emod_lt_of_pos _ (by omega)
    unfold num lampN
    split <;> omega
  · exact ⟨Nat.zero_le _, fun n hn => nomatch hn⟩
def countOf (ns : List Int) : Int := if cellAt ns 0 / 99 % 8 = 1 then 9 + cellAt ns 0 / 792 % 12 else cellAt ns 0 / 11 % 9
theorem count_ok (ns : List Int) : ∃ k : Nat, countOf ns = (k : Int) ∧ k ≤ 20 := by
  have h : 0 ≤ countOf ns ∧ countOf ns ≤ 20 := by unfold countOf; split <;> omega
  exact ⟨(countOf ns).toNat, by omega, by omega⟩
def wishesOf (ns : List Int) (m : Nat) : List (List Int) := (List.range (countOf ns).toNat).map fun k => wishOf (cellAt ns (3 + k) + 7919 * (k : Int)) m
theorem wishesOf_ok {ns : List Int} {m : Nat} (hm : m ≤ 10) : Wishes (wishesOf ns m) := by
  obtain ⟨k, hk, hk20⟩ := count_ok ns
  refine ⟨by unfold wishesOf; rw [List.length_map, List.length_range, hk, Int.toNat_natCast]; exact hk20, fun w hw => ?_⟩
  obtain ⟨i, _, rfl⟩ := List.mem_map.mp hw
  exact wishOf_ok hm
/-! shapes -/
theorem lay_wishes : ∀ ws : List (List Int), PySem.PyData.canLayAll0 (ws.map dInts) = true
  | [] => by simp [PySem.PyData.canLayAll0]
  | w :: ws => by simp [PySem.PyData.canLayAll0, PySem.PyData.canLay0, lay_ints, lay_wishes ws]
theorem dep_wishes : ∀ ws : List (List Int), PySem.PyData.depthAll (ws.map dInts) ≤ 1
  | [] => by simp [PySem.PyData.depthAll]
  | w :: ws => by
    have := dep_wishes ws
    simp only [List.map_cons, PySem.PyData.depthAll, PySem.PyData.depth, dep_ints]
    omega
theorem shaped_wishes (ws : List (List Int)) : SeqAt.shaped (wishesD ws) = true := by
  refine shaped_iff.mpr ⟨by simp [PySem.PyData.canLay0, lay_wishes], ?_⟩
  have := dep_wishes ws
  simp only [PySem.PyData.depth]
  omega
theorem shaped_ans (a : Option (Bool × List Int)) : SeqAt.shaped (ansD a) = true := by
  refine shaped_iff.mpr ?_
  rcases a with _ | ⟨b, l⟩
  · simp [ansD, PySem.PyData.canLay0, PySem.PyData.depth]
  · simp [ansD, PySem.PyData.canLay0, PySem.PyData.canLayAll0, PySem.PyData.depth, PySem.PyData.depthAll, lay_ints, dep_ints]
theorem eqv_nil (l : List Int) : PySem.PyData.eqv (dInts l) (dInts []) = l.isEmpty := by cases l <;> simp [PySem.PyData.eqv, PySem.PyData.eqvAll]
/-! data for the comprehensions -/
def negD : D → D
  | .int n => .int (-n)
  | d => d
def numsD : D → List Int
  | .list l => l.map numD
  | _ => []
theorem numsD_ints (w : List Int) : numsD (dInts w) = w := by
  show (w.map PySem.PyData.int).map numD = w
  rw [List.map_map]
  exact List.map_id w
theorem map_neg (w : List Int) : (w.map PySem.PyData.int).map negD = (turned w).map PySem.PyData.int := by
  unfold turned
  rw [List.map_map, List.map_map]
  rfl
theorem all_metD (ws : List (List Int)) (st : List Bool) : ((ws.map dInts).all fun d => metB (numsD d) st) = ws.all fun w => metB w st := by
  rw [List.all_map]
  congr 1
  funext w
  show metB (numsD (dInts w)) st = _
  rw [numsD_ints]
theorem map_firsts (ws : List (List Int)) (st : List Bool) : (ws.map dInts).map (fun d => optI (firstSo (numsD d) st)) = ws.map fun w => optI (firstSo w st) := by
  rw [List.map_map]
  refine List.map_congr_left fun w _ => ?_
  show optI (firstSo (numsD (dInts w)) st) = _
  rw [numsD_ints]
theorem lc_filter (w : List Int) (p : Int → Bool) : (w.map PySem.PyData.int).filterMap (fun d => if p (numD d) then some d else none) = (w.filter p).map PySem.PyData.int := by
  rw [List.filterMap_map, ← List.filterMap_eq_filter, List.map_filterMap]
  refine congrArg (fun f => List.filterMap f w) (funext fun n => ?_)
  show (if p n then some (PySem.PyData.int n) else none) = Option.map PySem.PyData.int (Option.guard p n)
  unfold Option.guard
  cases p n <;> rfl
theorem lc_filter' (w : List Int) (p : Int → Prop) [DecidablePred p] : (w.map PySem.PyData.int).filterMap (fun d => if p (numD d) then some d else none) = (w.filter fun n => decide (p n)).map PySem.PyData.int := by
  have e : (fun d => if p (numD d) then some d else none) = (fun d => if (decide (p (numD d))) = true then some d else none) := by
    funext d
    by_cases h : p (numD d) <;> simp [h]
  rw [e]
  exact lc_filter w fun n => decide (p n)
/-! ### what the top has written -/
structure Txt (K : PySem.W.Frag) (mg : Str → Option Value) (a : Nat → Addr) (fd : Nat → FuncData) (c : Nat → Addr) : Prop where
  F_is_set : Fun K "is_set" "is_set" s_is_set (a 0) (fd 0)
  g_is_set : mg "is_set" = some (.ref (a 0))
  b_is_set : Binds K (fd 0) ["number", "setting"] []
  F_is_so : Fun K "is_so" "is_so" s_is_so (a 1) (fd 1)
  g_is_so : mg "is_so" = some (.ref (a 1))
  b_is_so : Binds K (fd 1) ["number", "setting"] []
  F_first_so : Fun K "first_so" "first_so" s_first_so (a 2) (fd 2)
  g_first_so : mg "first_so" = some (.ref (a 2))
  b_first_so : Binds K (fd 2) ["wish", "setting"] []
  F_met : Fun K "met" "met" s_met (a 3) (fd 3)
  g_met : mg "met" = some (.ref (a 3))
  b_met : Binds K (fd 3) ["wish", "setting"] []
  F_lost : Fun K "lost" "lost" s_lost (a 4) (fd 4)
  g_lost : mg "lost" = some (.ref (a 4))
  b_lost : Binds K (fd 4) ["wish", "setting"] []
  F_by_lamp : Fun K "by_lamp" "by_lamp" s_by_lamp (a 5) (fd 5)
  g_by_lamp : mg "by_lamp" = some (.ref (a 5))
  b_by_lamp : Binds K (fd 5) ["numbers"] []
  F_ended : Fun K "ended" "ended" s_ended (a 6) (fd 6)
  g_ended : mg "ended" = some (.ref (a 6))
  b_ended : Binds K (fd 6) ["wishes", "setting"] []
  F_L_cell_at : Fun K "_law_cell_at" "_law_cell_at" s_L_cell_at (a 7) (fd 7)
  g_L_cell_at : mg "_law_cell_at" = some (.ref (a 7))
  b_L_cell_at : Binds K (fd 7) ["_law_script", "_law_k"] []
  F_L_values : Fun K "_law_values" "_law_values" s_L_values (a 8) (fd 8)
  g_L_values : mg "_law_values" = some (.ref (a 8))
  b_L_values : Binds K (fd 8) ["_law_cell", "_law_many"] []
  F_L_wish : Fun K "_law_wish" "_law_wish" s_L_wish (a 9) (fd 9)
  g_L_wish : mg "_law_wish" = some (.ref (a 9))
  b_L_wish : Binds K (fd 9) ["_law_cell", "_law_many"] []
  F_L_wishes : Fun K "_law_wishes" "_law_wishes" s_L_wishes (a 10) (fd 10)
  g_L_wishes : mg "_law_wishes" = some (.ref (a 10))
  b_L_wishes : Binds K (fd 10) ["_law_script", "_law_many"] []
  F_L_so : Fun K "_law_so" "_law_so" s_L_so (a 11) (fd 11)
  g_L_so : mg "_law_so" = some (.ref (a 11))
  b_L_so : Binds K (fd 11) ["_law_number", "_law_setting"] []
  F_L_rising : Fun K "_law_rising" "_law_rising" s_L_rising (a 12) (fd 12)
  g_L_rising : mg "_law_rising" = some (.ref (a 12))
  b_L_rising : Binds K (fd 12) ["_law_numbers"] []
  F_L_due : Fun K "_law_due" "_law_due" s_L_due (a 13) (fd 13)
  g_L_due : mg "_law_due" = some (.ref (a 13))
  b_L_due : Binds K (fd 13) ["_law_wishes_here", "_law_setting"] []
  F_L_alike : Fun K "_law_alike" "_law_alike" s_L_alike (a 14) (fd 14)
  g_L_alike : mg "_law_alike" = some (.ref (a 14))
  b_L_alike : Binds K (fd 14) ["_law_found", "_law_due_here"] []
  F_law : Fun K "law" "law" s_law (a 15) (fd 15)
  g_law : mg "law" = some (.ref (a 15))
  b_law : Binds K (fd 15) ["_law_script"] []
  C_lost : FunC K "lost" "lost" s_lost (a 4) (fd 4) (c 0)
  C_ended : FunC K "ended" "ended" s_ended (a 6) (fd 6) (c 1)
  m_abs : mg "abs" = none
  m_len : mg "len" = none
  m_range : mg "range" = none
  m_max : mg "max" = none
  m_list : mg "list" = none
  m_isinstance : mg "isinstance" = none
  m_bool : mg "bool" = none
  m_all : mg "all" = none
  m_sorted : mg "sorted" = none
  m_tuple : mg "tuple" = none
  m_int : mg "int" = none

section
variable {P : Program} {w : World} {K : PySem.W.Frag} {mg : Str → Option Value} {base : Heap} {Tb : List Addr} {a : Nat → Addr} {fd : Nat → FuncData} {c p : Nat → Addr}
/-! is_set -/
abbrev g_is_set : List D → D → Prop := GF (fun x : Int × List Bool => [.int x.1, dBools x.2]) (fun _ => True) fun x => .bool (isSet x.1 x.2)
theorem ok_is_set (T : Txt K mg a fd c) (TB : ∀ i, i < 2 → GxR.TabB base mg (c i) (p i)) (hT : ∀ i, i < 2 → p i ∈ Tb) : FnOk P w K mg base CX0 1 (a 0) (fd 0) ["number", "setting"] (PrD K Tb g_is_set) := by
  refine fn_gf T.F_is_set sc_is_set (fun _ => rfl) (fun cdv A outer s H E hr => ⟨_, (pss_one (ps_ret (pe_chain op_lt op_le pe_int (pe_callB call_abs (by rfl) T.m_abs (by decide +kernel) (pa_cons (pv 0) pa_nil)) (pe_callB call_len_seq (by rfl) T.m_len (by decide +kernel) (pa_cons (pv 1) pa_nil))))), fun F0 H0 x hp => ?_⟩)
  obtain ⟨n, s⟩ := x
  refine s_env (env' := [.dat (.int n), .dat (dBools s)]) rfl ?_
  refine s_ret (d_chain d_int (d_cb (a_cons (d_var rfl) a_nil) r_abs) r_bool (fun _ => d_cb (a_cons (d_var rfl) a_nil) r_lenL) (fun _ => r_bool)) ?_
  show PyData.bool _ = PyData.bool _
  have e := lampI_eq n
  unfold lampI at e
  rw [e, List.length_map]
  simp [isSet]
/-! is_so -/
abbrev g_is_so : List D → D → Prop := GF (fun x : Int × List Bool => [.int x.1, dBools x.2]) (fun _ => True) fun x => .bool (isSo x.1 x.2)
theorem ok_is_so (T : Txt K mg a fd c) (TB : ∀ i, i < 2 → GxR.TabB base mg (c i) (p i)) (hT : ∀ i, i < 2 → p i ∈ Tb) : FnOk P w K mg base CX0 2 (a 1) (fd 1) ["number", "setting"] (PrD K Tb g_is_so) := by
  have G_is_set : FnOk P w K mg base CX0 _ _ _ _ (PrD K Tb g_is_set) := ok_is_set T TB hT
  refine fn_gf T.F_is_so sc_is_so (fun _ => rfl) (fun cdv A outer s H E hr => ⟨_, (pss_one (ps_ret (pe_and (pe_call G_is_set hr (by rfl) T.g_is_set T.F_is_set.kp T.b_is_set .nil pass0 (pa_cons (pv 0) (pa_cons (pv 1) pa_nil))) (pe_one (pe_cmpR op_eq (pe_ix ix_list (pv 1) (pe_op op_sub (pe_callB call_abs (by rfl) T.m_abs (by decide +kernel) (pa_cons (pv 0) pa_nil)) pe_int) (fun _ _ => rfl)) (pe_cmpR op_gt (pv 0) pe_int (nomark _)) (nomark _)))))), fun F0 H0 x hp => ?_⟩)
  obtain ⟨n, s⟩ := x
  refine s_env (env' := [.dat (.int n), .dat (dBools s)]) rfl ?_
  refine s_ret (d_andV (a := isSet n s) (b := decide (s[lampN n - 1]? = some (decide (0 < n)))) (d_call (a_cons (d_var rfl) (a_cons (d_var rfl) a_nil)) ⟨(n, s), rfl, trivial, rfl⟩) fun h => ?_) rfl
  obtain ⟨h1, h2⟩ := isSet_iff.mp h
  have e := lampI_eq n
  have hk : lampN n - 1 < s.length := by omega
  have g : s[lampN n - 1]? = some s[lampN n - 1] := List.getElem?_eq_getElem hk
  refine d_is (d_op (d_op (d_var rfl) (d_op (d_cb (a_cons (d_var rfl) a_nil) r_abs) d_int r_int) (r_ixL (d := .bool s[lampN n - 1]) ?_)) (d_op (d_var rfl) d_int r_bool) r_eqB) ?_
  · have e2 : (if n < 0 then -n else n) - 1 = ((lampN n - 1 : Nat) : Int) := by
      unfold lampI at e
      omega
    rw [e2]
    exact bools_get g
  · rw [g]
    simp
/-! first_so -/
abbrev g_first_so : List D → D → Prop := GF (fun x : List Int × List Bool => [dInts x.1, dBools x.2]) (fun _ => True) fun x => optI (firstSo x.1 x.2)
theorem ok_first_so (T : Txt K mg a fd c) (TB : ∀ i, i < 2 → GxR.TabB base mg (c i) (p i)) (hT : ∀ i, i < 2 → p i ∈ Tb) : FnOk P w K mg base CX0 3 (a 2) (fd 2) ["wish", "setting"] (PrD K Tb g_first_so) := by
  have G_is_so : FnOk P w K mg base CX0 _ _ _ _ (PrD K Tb g_is_so) := ok_is_so T TB hT
  refine fn_gf T.F_first_so sc_first_so (fun _ => rfl) (fun cdv A outer s H E hr => ⟨_, (pss_cons (ps_for PassesOwn.never rfl (pi_list (pv 0)) (pg_name (i := 2) sc_first_so.nd rfl (.inl rfl))
        (pss_one (ps_if (pt_val (pe_call G_is_so hr (by rfl) T.g_is_so T.F_is_so.kp T.b_is_so .nil pass0 (pa_cons (pv 2) (pa_cons (pv 1) pa_nil))))
        (pss_one (ps_ret (pv 2)))
        pss_nil)))
      (pss_one (ps_ret pe_non))), fun F0 H0 x hp => ?_⟩)
  obtain ⟨v, s⟩ := x
  refine s_env (env' := [.dat (dInts v), .dat (dBools s), .no]) rfl ?_
  refine s_seq (s_forL (d_var rfl) (fun k e => ∃ y, e = [.dat (dInts v), .dat (dBools s), y] ∧ (v.take k).find? (fun n => isSo n s) = none) ⟨.no, rfl, rfl⟩ ?_ ?_)
  · rintro k d _ hk ⟨y, rfl, hn⟩
    obtain ⟨n, hn1, rfl⟩ := map_at hk
    refine s_if (t_B (d_call (a_cons (d_var rfl) (a_cons (d_var rfl) a_nil)) ⟨(n, s), rfl, trivial, rfl⟩)) (fun h => s_ret (d_var rfl) ?_) fun h => s_next ⟨.dat (.int n), rfl, ?_⟩
    · show PyData.int n = optI (firstSo v s)
      rw [firstSo, find_here hn1 hn h]
      rfl
    · exact find_more hn1 hn h
  · rintro _ ⟨y, rfl, hn⟩
    rw [List.length_map, List.take_length] at hn
    refine s_ret d_non ?_
    show PyData.none = optI (firstSo v s)
    rw [firstSo, hn]
    rfl
/-! met -/
abbrev g_met : List D → D → Prop := GF (fun x : List Int × List Bool => [dInts x.1, dBools x.2]) (fun _ => True) fun x => .bool (metB x.1 x.2)
theorem ok_met (T : Txt K mg a fd c) (TB : ∀ i, i < 2 → GxR.TabB base mg (c i) (p i)) (hT : ∀ i, i < 2 → p i ∈ Tb) : FnOk P w K mg base CX0 4 (a 3) (fd 3) ["wish", "setting"] (PrD K Tb g_met) := by
  have G_first_so : FnOk P w K mg base CX0 _ _ _ _ (PrD K Tb g_first_so) := ok_first_so T TB hT
  refine fn_gf T.F_met sc_met (fun _ => rfl) (fun cdv A outer s H E hr => ⟨_, (pss_one (ps_ret (pe_cmpR op_notN (pe_call G_first_so hr (by rfl) T.g_first_so T.F_first_so.kp T.b_first_so .nil pass0 (pa_cons (pv 0) (pa_cons (pv 1) pa_nil))) pe_non (nomark _)))), fun F0 H0 x hp => ?_⟩)
  obtain ⟨v, s⟩ := x
  refine s_env (env' := [.dat (dInts v), .dat (dBools s)]) rfl ?_
  refine s_ret (d_op (d_call (a_cons (d_var rfl) (a_cons (d_var rfl) a_nil)) ⟨(v, s), rfl, trivial, rfl⟩) d_non r_notN) ?_
  show PyData.bool (!isNone (optI (firstSo v s))) = PyData.bool (metB v s)
  rw [metB_find]
  cases firstSo v s <;> rfl
/-! lost -/
abbrev g_lost : List D → D → Prop := GF (fun x : List Int × List Bool => [dInts x.1, dBools x.2]) (fun _ => True) fun x => .bool (lostB x.1 x.2)
theorem ok_lost (T : Txt K mg a fd c) (TB : ∀ i, i < 2 → GxR.TabB base mg (c i) (p i)) (hT : ∀ i, i < 2 → p i ∈ Tb) : FnOk P w K mg base CX0 5 (a 4) (fd 4) ["wish", "setting"] (PrD K Tb g_lost) := by
  have G_is_set : FnOk P w K mg base CX0 _ _ _ _ (PrD K Tb g_is_set) := ok_is_set T TB hT
  have G_met : FnOk P w K mg base CX0 _ _ _ _ (PrD K Tb g_met) := ok_met T TB hT
  refine fn_gfC T.C_lost sc_lost (fun _ => rfl) (fun A outer s H E hr => ⟨_, (pss_one (ps_ret (pe_and (AG.pe_allG (j := 2) (k := 1) (hr.mono (by decide)) sc_lost.nd rfl (by rfl) T.m_all (TB 0 (by decide)) rfl ⟨(blkOk_by (N := ["wish", "setting", "number"]) (sc := defScope s_lost) (by decide +kernel)), rfl, by decide +kernel, by decide +kernel, by decide +kernel⟩ (pv 0) (fun _ _ _ _ _ _ _ _ hg => (pe_call G_is_set (hg.mono (by decide)) (by rfl) T.g_is_set T.F_is_set.kp T.b_is_set .nil pass0 (pa_cons (pv 2) (pa_cons (pv 1) pa_nil))))) (pe_one (pe_not (pe_call G_met hr (by rfl) T.g_met T.F_met.kp T.b_met .nil pass0 (pa_cons (pv 0) (pa_cons (pv 1) pa_nil)))))))), fun F0 H0 x hp => ?_⟩)
  obtain ⟨v, s⟩ := x
  refine s_env (env' := [.dat (dInts v), .dat (dBools s), .no]) rfl ?_
  refine s_ret (d_andV (a := (v.map PyData.int).all (numP fun n => isSet n s)) (b := !metB v s) (d_all (numP fun n => isSet n s) (hT 0 (by decide)) (d_var rfl) fun k d hk _ => ?_) fun _ => d_notV (d_call (a_cons (d_var rfl) (a_cons (d_var rfl) a_nil)) ⟨(v, s), rfl, trivial, rfl⟩)) ?_
  · obtain ⟨n, hn, rfl⟩ := map_at hk
    exact d_call (a_cons (d_var rfl) (a_cons (d_var rfl) a_nil)) ⟨(n, s), rfl, trivial, rfl⟩
  · show PyData.bool _ = PyData.bool (lostB v s)
    rw [all_numP]
    rfl
/-! by_lamp -/
abbrev g_by_lamp : List D → D → Prop := GF (fun v : List Int => [dInts v]) Good fun v => dInts (rising v)
theorem ok_by_lamp (T : Txt K mg a fd c) (TB : ∀ i, i < 2 → GxR.TabB base mg (c i) (p i)) (hT : ∀ i, i < 2 → p i ∈ Tb) : FnOk P w K mg base CX0 1 (a 5) (fd 5) ["numbers"] (PrD K Tb g_by_lamp) := by
  refine fn_gf T.F_by_lamp sc_by_lamp (fun _ => rfl) (fun cdv A outer s H E hr => ⟨_, (pss_cons (ps_set (i := 1) sc_by_lamp.nd rfl (.inr rfl) (pe_dc (own := [("number", 2)]) (g := gName 2) (tt := tYes) rfl sc_by_lamp.nd (pi_list (pv 0)) (blkOk_by (N := ["numbers", "of_lamp", "number", "lamp"]) (sc := defScope s_by_lamp) (by decide +kernel)) (fun _ _ _ _ _ => pg_name (i := 2) sc_by_lamp.nd rfl (.inl rfl)) (fun _ _ _ _ _ => pts_nil) (fun _ _ _ _ _ => (pe_callB call_abs (by rfl) T.m_abs (by decide +kernel) (pa_cons (pv 2) pa_nil))) (fun _ _ _ _ _ => (pv 2))))
      (pss_one (ps_ret (pe_lc (own := [("lamp", 3)]) (g := gName 3) (tt := tYes) rfl sc_by_lamp.nd (pi_list (pe_callB (call_sortedDI rfl) (by rfl) T.m_sorted (by decide +kernel) (pa_cons (pv 1) pa_nil))) (blkOk_by (N := ["numbers", "of_lamp", "number", "lamp"]) (sc := defScope s_by_lamp) (by decide +kernel)) (fun _ _ _ _ _ => pg_name (i := 3) sc_by_lamp.nd rfl (.inl rfl)) (fun _ _ _ _ _ => pts_nil) (fun _ _ _ _ _ => (pe_dget (Nat.lt_of_le_of_lt (Nat.add_le_add_left (by decide : 1 ≤ 64) _) hr.units) (pv 1) (pv 3) (fun _ _ => rfl))))))), fun F0 H0 x hp => ?_⟩)
  have g : Good x := hp
  obtain ⟨ks, kk⟩ := kept_of g
  refine s_env (env' := [.dat (dInts x), .no, .no, .no]) rfl ?_
  have hl : (x.map PyData.int).length < sizeLine := by rw [List.length_map]; have := g.len; exact line_lt (by omega)
  refine s_seq (s_asgX (x_dc lampD numD (d_var rfl) hl (fun k d hk => ?_) fun k d hk => ?_) ?_)
  · obtain ⟨n, _, rfl⟩ := map_at hk
    exact d_cb (a_cons (d_var rfl) a_nil) r_abs
  · obtain ⟨n, _, rfl⟩ := map_at hk
    exact d_var rfl
  rw [dc_kvs]
  refine s_ret (d_is (d_map (fun d => .int (numOf x (numD d))) (d_sortedV rfl kk.keys (by have := kk.len; have := g.len; omega) fun zs h1 h2 => sorted_keys g kk h1 h2) ?_ fun k d hk => ?_) ?_) rfl
  · rw [List.length_map]
    exact line_lt (Nat.lt_of_le_of_lt (List.length_filter_le _ _) (by decide))
  · obtain ⟨l, hl, rfl⟩ := map_at hk
    exact d_dget rfl (d_var rfl) (numOf_val g kk (List.mem_of_getElem? hl))
  · show PyData.list _ = PyData.list _
    rw [List.map_map, ← rising_eq g, List.map_map]
    rfl
/-! ended -/
abbrev g_ended : List D → D → Prop := GF (fun x : List (List Int) × List Bool => [wishesD x.1, dBools x.2]) (fun x => Wishes x.1) fun x => ansD (ans x.1 x.2)
theorem ok_ended (T : Txt K mg a fd c) (TB : ∀ i, i < 2 → GxR.TabB base mg (c i) (p i)) (hT : ∀ i, i < 2 → p i ∈ Tb) : FnOk P w K mg base CX0 6 (a 6) (fd 6) ["wishes", "setting"] (PrD K Tb g_ended) := by
  have G_by_lamp : FnOk P w K mg base CX0 _ _ _ _ (PrD K Tb g_by_lamp) := ok_by_lamp T TB hT
  have G_first_so : FnOk P w K mg base CX0 _ _ _ _ (PrD K Tb g_first_so) := ok_first_so T TB hT
  have G_lost : FnOk P w K mg base CX0 _ _ _ _ (PrD K Tb g_lost) := ok_lost T TB hT
  have G_met : FnOk P w K mg base CX0 _ _ _ _ (PrD K Tb g_met) := ok_met T TB hT
  refine fn_gfC T.C_ended sc_ended (fun _ => rfl) (fun A outer s H E hr => ⟨_, (pss_cons (ps_for PassesOwn.never rfl (pi_list (pv 0)) (pg_name (i := 2) sc_ended.nd rfl (.inl rfl))
        (pss_one (ps_if (pt_val (pe_call G_lost hr (by rfl) T.g_lost T.F_lost.kp T.b_lost .nil pass0 (pa_cons (pv 2) (pa_cons (pv 1) pa_nil))))
        (pss_one (ps_ret (pe_tup (pa_cons pe_bl (pa_cons (pe_call G_by_lamp (hr.mono (by decide)) (by rfl) T.g_by_lamp T.F_by_lamp.kp T.b_by_lamp .nil pass0 (pa_cons (pe_lc (own := [("number", 3)]) (g := gName 3) (tt := tYes) rfl sc_ended.nd (pi_list (pv 2)) (blkOk_by (N := ["wishes", "setting", "wish", "number"]) (sc := defScope s_ended) (by decide +kernel)) (fun _ _ _ _ _ => pg_name (i := 3) sc_ended.nd rfl (.inl rfl)) (fun _ _ _ _ _ => pts_nil) (fun _ _ _ _ _ => (pe_un un_neg (pv 3)))) pa_nil)) pa_nil)))))
        pss_nil)))
      (pss_cons (ps_if (pt_val (AG.pe_allG (j := 2) (k := 4) (hr.mono (by decide)) sc_ended.nd rfl (by rfl) T.m_all (TB 1 (by decide)) rfl ⟨(blkOk_by (N := ["wishes", "setting", "wish", "number"]) (sc := defScope s_ended) (by decide +kernel)), rfl, by decide +kernel, by decide +kernel, by decide +kernel⟩ (pv 0) (fun _ _ _ _ _ _ _ _ hg => (pe_call G_met (hg.mono (by decide)) (by rfl) T.g_met T.F_met.kp T.b_met .nil pass0 (pa_cons (pv 2) (pa_cons (pv 1) pa_nil))))))
        (pss_one (ps_ret (pe_tup (pa_cons pe_bl (pa_cons (pe_call G_by_lamp (hr.mono (by decide)) (by rfl) T.g_by_lamp T.F_by_lamp.kp T.b_by_lamp .nil pass0 (pa_cons (pe_lc (own := [("wish", 2)]) (g := gName 2) (tt := tYes) rfl sc_ended.nd (pi_list (pv 0)) (blkOk_by (N := ["wishes", "setting", "wish", "number"]) (sc := defScope s_ended) (by decide +kernel)) (fun _ _ _ _ _ => pg_name (i := 2) sc_ended.nd rfl (.inl rfl)) (fun _ _ _ _ _ => pts_nil) (fun _ _ _ _ _ => (pe_call G_first_so (hr.mono (by decide)) (by rfl) T.g_first_so T.F_first_so.kp T.b_first_so .nil pass0 (pa_cons (pv 2) (pa_cons (pv 1) pa_nil))))) pa_nil)) pa_nil)))))
        pss_nil)
      (pss_one (ps_ret pe_non)))), fun F0 H0 x hp => ?_⟩)
  obtain ⟨ws, st⟩ := x
  have hw : Wishes ws := hp
  refine s_env (env' := [.dat (wishesD ws), .dat (dBools st), .no, .no]) rfl ?_
  refine s_seq (s_forL (d_var rfl) (fun k e => ∃ y z, e = [.dat (wishesD ws), .dat (dBools st), y, z] ∧ (ws.take k).find? (fun w => lostB w st) = none) ⟨.no, .no, rfl, rfl⟩ ?_ ?_)
  · rintro k d _ hk ⟨y, z, rfl, hn⟩
    obtain ⟨w, hw1, rfl⟩ := map_at hk
    have hwi := hw.2 w (List.mem_of_getElem? hw1)
    refine s_if (t_B (d_call (a_cons (d_var rfl) (a_cons (d_var rfl) a_nil)) ⟨(w, st), rfl, trivial, rfl⟩)) (fun h => ?_) fun h => s_next ⟨.dat (dInts w), z, rfl, none_take_succ hw1 hn h⟩
    refine s_ret (d_tup (a_cons d_bl (a_cons (d_call (a_cons (d_is (d_map negD (d_var rfl) ?_ fun i d hi => ?_) (congrArg PyData.list (map_neg w))) a_nil) ⟨turned w, rfl, good_turned hwi h, rfl⟩) a_nil)) (line_big (by show 2 ≤ 100000; decide))) ?_
    · rw [List.length_map]; have := hwi.1; exact line_lt (by omega)
    · obtain ⟨n, _, rfl⟩ := map_at hi
      exact d_un (d_var rfl) r_neg
    · show _ = ansD (ans ws st)
      rw [ans, some_here hw1 hn h]
      rfl
  · rintro _ ⟨y, z, rfl, hn⟩
    rw [List.length_map, List.take_length] at hn
    refine s_seq (s_if (t_B (d_all (fun d => metB (numsD d) st) (hT 1 (by decide)) (d_var rfl) fun k d hk _ => ?_)) (fun h => ?_) fun h => s_next ?_)
    · obtain ⟨w, _, rfl⟩ := map_at hk
      show EvD _ _ _ _ (.bool (metB (numsD (dInts w)) st))
      rw [numsD_ints]
      exact d_call (a_cons (d_var rfl) (a_cons (d_var rfl) a_nil)) ⟨(w, st), rfl, trivial, rfl⟩
    · rw [all_metD] at h
      refine s_ret (d_tup (a_cons d_bl (a_cons (d_call (a_cons (d_is (d_map (fun d => optI (firstSo (numsD d) st)) (d_var rfl) ?_ fun i d hi => ?_) (congrArg PyData.list ((map_firsts ws st).trans (all_met_firsts h)))) a_nil) ⟨firsts ws st, rfl, good_firsts hw, rfl⟩) a_nil)) (line_big (by show 2 ≤ 100000; decide))) ?_
      · rw [List.length_map]; have := hw.1; exact line_lt (by omega)
      · obtain ⟨w, _, rfl⟩ := map_at hi
        show EvD _ _ _ _ (optI (firstSo (numsD (dInts w)) st))
        rw [numsD_ints]
        exact d_call (a_cons (d_var rfl) (a_cons (d_var rfl) a_nil)) ⟨(w, st), rfl, trivial, rfl⟩
      · show _ = ansD (ans ws st)
        rw [ans, hn, if_pos h]
        rfl
    · rw [all_metD] at h
      refine s_ret d_non ?_
      show _ = ansD (ans ws st)
      rw [ans, hn, if_neg (by rw [h]; decide)]
      rfl
/-! _law_cell_at -/
abbrev g_L_cell_at : List D → D → Prop := GF (fun x : List Int × Nat => [dInts x.1, .int (x.2 : Int)]) (fun _ => True) fun x => .int (cellAt x.1 x.2)
theorem ok_L_cell_at (T : Txt K mg a fd c) (TB : ∀ i, i < 2 → GxR.TabB base mg (c i) (p i)) (hT : ∀ i, i < 2 → p i ∈ Tb) : FnOk P w K mg base CX0 1 (a 7) (fd 7) ["_law_script", "_law_k"] (PrD K Tb g_L_cell_at) := by
  refine fn_gf T.F_L_cell_at sc_L_cell_at (fun _ => rfl) (fun cdv A outer s H E hr => ⟨_, (pss_cons (ps_if (pt_cmpR op_lt (pv 1) (pe_callB call_len_seq (by rfl) T.m_len (by decide +kernel) (pa_cons (pv 0) pa_nil)) (nomark _))
        (pss_one (ps_ret (pe_ix ix_list (pv 0) (pv 1) (fun _ _ => rfl))))
        pss_nil)
      (pss_one (ps_ret pe_int))), fun F0 H0 x hp => ?_⟩)
  obtain ⟨ns, k⟩ := x
  refine s_env (env' := [.dat (dInts ns), .dat (.int (k : Int))]) rfl ?_
  refine s_seq (s_if (b := decide (k < ns.length)) (t_is (t_test (d_op (d_var rfl) (d_cb (a_cons (d_var rfl) a_nil) r_lenL) r_bool)) ?_) (fun h => ?_) fun h => s_next ?_)
  · rw [List.length_map]
    simp
  · have h : k < ns.length := of_decide_eq_true h
    refine s_ret (d_op (d_var rfl) (d_var rfl) (r_ixL (ints_get (List.getElem?_eq_getElem h)))) ?_
    show PyData.int _ = PyData.int _
    rw [cellAt, List.getD_eq_getElem?_getD, List.getElem?_eq_getElem h]
    rfl
  · have h : ¬ k < ns.length := of_decide_eq_false h
    refine s_ret d_int ?_
    show PyData.int _ = PyData.int _
    rw [cellAt, List.getD_eq_getElem?_getD, List.getElem?_eq_none (show ns.length ≤ k by omega)]
    rfl
/-! _law_values -/
abbrev g_L_values : List D → D → Prop := GF (fun x : Int × Nat => [.int x.1, .int (x.2 : Int)]) (fun x => x.2 ≤ 1000) fun x => dBools (bitsOf x.1 x.2)
theorem ok_L_values (T : Txt K mg a fd c) (TB : ∀ i, i < 2 → GxR.TabB base mg (c i) (p i)) (hT : ∀ i, i < 2 → p i ∈ Tb) : FnOk P w K mg base CX0 1 (a 8) (fd 8) ["_law_cell", "_law_many"] (PrD K Tb g_L_values) := by
  refine fn_gf T.F_L_values sc_L_values (fun _ => rfl) (fun cdv A outer s H E hr => ⟨_, (pss_cons (ps_set (i := 2) sc_L_values.nd rfl (.inl rfl) (pe_lst pa_nil))
      (pss_cons (ps_for PassesOwn.never rfl (pi_range1 (by rfl) T.m_range (pa_cons (pv 1) pa_nil)) (pg_name (i := 3) sc_L_values.nd rfl (.inl rfl))
        (pss_cons (ps_expr (pe_bm PySem.F.plainAttrs_list PySem.F.slot_list_append PySem.F.type_list_append mt_append (pv 2) (pa_cons (pe_cmpR op_eq (pe_op op_mod (pv 0) pe_int) pe_int (nomark _)) pa_nil)))
      (pss_one (ps_set (i := 0) sc_L_values.nd rfl (.inl rfl) (pe_op op_fdiv (pv 0) pe_int)))))
      (pss_one (ps_ret (pv 2))))), fun F0 H0 x hp => ?_⟩)
  obtain ⟨c, m⟩ := x
  have hp : m ≤ 1000 := hp
  refine s_env (env' := [.dat (.int c), .dat (.int (m : Int)), .no, .no]) rfl ?_
  refine s_seq (s_new (s_seq (s_forR (a_cons (d_var rfl) a_nil) (by omega) (fun k e => ∃ y, e = [.dat (.int (shr c k)), .dat (.int (m : Int)), .own ((bitsOf c k).map PyData.bool), y]) ⟨.no, rfl⟩ ?_ ?_)))
  · rintro k _ hk ⟨y, rfl⟩
    refine s_seq (s_app rfl (d_op (d_op (d_var rfl) d_int (r_intC (by show (0 : Int) < 2; decide))) d_int r_eqI) (by rw [List.length_map, bitsOf_len]; exact line_lt (by omega)) ?_)
    refine s_asg (d_op (d_var rfl) d_int (r_intC ⟨by decide, by decide⟩)) ⟨.dat (.int (k : Int)), ?_⟩
    rw [shr_succ, bitsOf_succ, List.map_append]
    rfl
  · rintro _ ⟨y, rfl⟩
    exact s_frz (i := 2) rfl (s_ret (d_var rfl) rfl)
/-! _law_wish -/
abbrev g_L_wish : List D → D → Prop := GF (fun x : Int × Nat => [.int x.1, .int (x.2 : Int)]) (fun x => x.2 ≤ 10) fun x => dInts (wishOf x.1 x.2)
theorem ok_L_wish (T : Txt K mg a fd c) (TB : ∀ i, i < 2 → GxR.TabB base mg (c i) (p i)) (hT : ∀ i, i < 2 → p i ∈ Tb) : FnOk P w K mg base CX0 1 (a 9) (fd 9) ["_law_cell", "_law_many"] (PrD K Tb g_L_wish) := by
  refine fn_gf T.F_L_wish sc_L_wish (fun _ => rfl) (fun cdv A outer s H E hr => ⟨_, (pss_cons (ps_set (i := 0) sc_L_wish.nd rfl (.inl rfl) (pe_op op_mod (pe_op op_mul (pv 0) pe_int) pe_int))
      (pss_cons (ps_set (i := 2) sc_L_wish.nd rfl (.inl rfl) (pe_ix ix_list (pe_lst (pa_cons pe_int (pa_cons pe_int (pa_cons pe_int (pa_cons pe_int (pa_cons (pe_op op_add pe_int (pe_op op_mod (pe_op op_fdiv (pv 0) pe_int) pe_int)) (pa_cons pe_int (pa_cons pe_int (pa_cons pe_int pa_nil))))))))) (pe_op op_mod (pv 0) pe_int) (fun _ _ => rfl)))
      (pss_cons (ps_set (i := 0) sc_L_wish.nd rfl (.inl rfl) (pe_op op_fdiv (pv 0) pe_int))
      (pss_cons (ps_set (i := 3) sc_L_wish.nd rfl (.inl rfl) (pe_lst pa_nil))
      (pss_cons (ps_for PassesOwn.never rfl (pi_range1 (by rfl) T.m_range (pa_cons (pv 2) pa_nil)) (pg_name (i := 4) sc_L_wish.nd rfl (.inl rfl))
        (pss_one (ps_if (pt_cmpR op_gt (pv 1) pe_int (nomark _))
        (pss_cons (ps_set (i := 5) sc_L_wish.nd rfl (.inl rfl) (pe_op op_add pe_int (pe_op op_mod (pv 0) (pv 1))))
      (pss_cons (ps_if (pt_cmpR op_eq (pe_op op_mod (pe_op op_fdiv (pv 0) (pv 1)) pe_int) pe_int (nomark _))
        (pss_one (ps_set (i := 5) sc_L_wish.nd rfl (.inl rfl) (pe_un un_neg (pv 5))))
        pss_nil)
      (pss_cons (ps_expr (pe_bm PySem.F.plainAttrs_list PySem.F.slot_list_append PySem.F.type_list_append mt_append (pv 3) (pa_cons (pv 5) pa_nil)))
      (pss_one (ps_set (i := 0) sc_L_wish.nd rfl (.inl rfl) (pe_op op_fdiv (pv 0) (pe_op op_mul pe_int (pv 1))))))))
        pss_nil)))
      (pss_one (ps_ret (pv 3)))))))), fun F0 H0 x hp => ?_⟩)
  obtain ⟨c, m⟩ := x
  have hm : m ≤ 10 := hp
  refine s_env (env' := [.dat (.int c), .dat (.int (m : Int)), .no, .no, .no, .no]) rfl ?_
  refine s_seq (s_asg (d_op (d_op (d_var rfl) d_int (r_intC (.inr ⟨by decide, by decide⟩))) d_int (r_intC (by show (0 : Int) < 1000000000000037; decide))) ?_)
  show StD K Tb F0 H0 _ [.dat (.int (mixed c)), .dat (.int (m : Int)), .no, .no, .no, .no] _
  obtain ⟨c1, hc1⟩ : ∃ c1, mixed c = c1 := ⟨_, rfl⟩
  rw [hc1]
  obtain ⟨sz, hsz, hsz10⟩ := size_ok c1
  refine s_seq (s_asg (d := .int (sz : Int)) (d_op (d_lst (xs := (sizes c1).map PyData.int) (a_cons d_int (a_cons d_int (a_cons d_int (a_cons d_int (a_cons (d_op d_int (d_op (d_op (d_var rfl) d_int (r_intC ⟨by decide, by decide⟩)) d_int (r_intC (by show (0 : Int) < 6; decide))) r_int) (a_cons d_int (a_cons d_int (a_cons d_int a_nil)))))))) (line_big (by show 8 ≤ 100000; decide)))
    (d_op (d_var rfl) d_int (r_intC (by show (0 : Int) < 8; decide))) (r_ixL ?_)) ?_)
  · rw [← hsz]
    exact pick_at (sizes c1) 8 rfl (by decide) c1
  refine s_seq (s_asg (d_op (d_var rfl) d_int (r_intC ⟨by decide, by decide⟩)) ?_)
  refine s_seq (s_new (s_seq (s_forR (a_cons (d_var rfl) a_nil) (by omega) (fun k e => ∃ q y4 y5, e = [.dat (.int q), .dat (.int (m : Int)), .dat (.int (sz : Int)), .own ((if 0 < m then nums (c1 / 48) m k else []).map PyData.int), y4, y5] ∧ (0 < m → q = down (c1 / 48) (2 * (m : Int)) k)) ⟨_, .no, .no, ?_, fun _ => rfl⟩ ?_ ?_)))
  · have : (if 0 < m then nums (c1 / 48) m 0 else []) = [] := by split <;> rfl
    rw [this]
    rfl
  · rintro k _ hk ⟨q, y4, y5, rfl, hq⟩
    refine s_if (t_test (d_op (d_var rfl) d_int r_bool)) (fun h => ?_) fun h => s_next ?_
    · have h : (m : Int) > 0 := of_decide_eq_true h
      have h0 : 0 < m := by omega
      have hq := hq h0
      subst hq
      rw [if_pos h0]
      refine s_seq (s_asg (d_op d_int (d_op (d_var rfl) (d_var rfl) (r_intC (by show (0 : Int) < (m : Int); omega))) r_int) ?_)
      refine s_seq ?_
      have fin : ∀ z, z = num (down (c1 / 48) (2 * (m : Int)) k) (m : Int) → StD K Tb F0 H0 (tSeq (tDrop (tBM K "list" rAppend (tVar 3) (tCons (tVar 5) tNil))) (tAsg (tOp (rI CDiv fun i j => .int (i / j)) (tVar 0) (tOp (rI CMul fun i j => .int (i * j)) (tC (.int 2)) (tVar 1))) (gName 0)))
          [.dat (.int (down (c1 / 48) (2 * (m : Int)) k)), .dat (.int (m : Int)), .dat (.int (sz : Int)), .own ((nums (c1 / 48) m k).map PyData.int), .dat (.int (k : Int)), .dat (.int z)]
          (Po.turn { nx := fun e => StD K Tb F0 H0 (tRet (tVar 3)) e { nx := fun _ => dInts (wishOf c m) = .none, rt := fun d' => d' = dInts (wishOf c m) }, rt := fun d' => d' = dInts (wishOf c m) }
            fun e => ∃ q y4 y5, e = [.dat (.int q), .dat (.int (m : Int)), .dat (.int (sz : Int)), .own ((if 0 < m then nums (c1 / 48) m (k + 1) else []).map PyData.int), y4, y5] ∧ (0 < m → q = down (c1 / 48) (2 * (m : Int)) (k + 1))) := by
        rintro z rfl
        refine s_seq (s_app rfl (d_var rfl) (by rw [List.length_map, nums_len]; exact line_lt (by omega)) ?_)
        refine s_asg (d_op (d_var rfl) (d_op d_int (d_var rfl) (r_intC (.inl ⟨by decide, by decide⟩))) (r_intC ⟨by show (0 : Int) < 2 * (m : Int); omega, by show 2 * (m : Int) < 1073741824; omega⟩)) ⟨_, .dat (.int (k : Int)), .dat (.int (num (down (c1 / 48) (2 * (m : Int)) k) (m : Int))), ?_, fun _ => rfl⟩
        rw [if_pos h0, nums_succ, List.map_append]
        rfl
      refine s_if (t_test (d_op (d_op (d_op (d_var rfl) (d_var rfl) (r_intC ⟨by show (0 : Int) < (m : Int); omega, by show (m : Int) < 1073741824; omega⟩)) d_int (r_intC (by show (0 : Int) < 2; decide))) d_int r_eqI)) (fun h => ?_) fun h => s_next ?_
      · refine s_asg (d_un (d_var rfl) r_neg) ?_
        exact fin _ (by rw [num, if_pos (of_decide_eq_true h)])
      · exact fin _ (by rw [num, if_neg (of_decide_eq_false h)])
    · have h : ¬ (m : Int) > 0 := of_decide_eq_false h
      refine ⟨q, .dat (.int (k : Int)), y5, ?_, fun z => absurd z (by omega)⟩
      rw [if_neg (by omega), if_neg (by omega)]
      rfl
  · rintro _ ⟨q, y4, y5, rfl, _⟩
    refine s_frz (i := 3) rfl (s_ret (d_var rfl) ?_)
    show PyData.list _ = PyData.list _
    rw [wishOf, hc1, hsz, Int.toNat_natCast]
/-! _law_wishes -/
abbrev g_L_wishes : List D → D → Prop := GF (fun x : List Int × Nat => [dInts x.1, .int (x.2 : Int)]) (fun x => x.2 ≤ 10) fun x => wishesD (wishesOf x.1 x.2)
theorem ok_L_wishes (T : Txt K mg a fd c) (TB : ∀ i, i < 2 → GxR.TabB base mg (c i) (p i)) (hT : ∀ i, i < 2 → p i ∈ Tb) : FnOk P w K mg base CX0 2 (a 10) (fd 10) ["_law_script", "_law_many"] (PrD K Tb g_L_wishes) := by
  have G_L_cell_at : FnOk P w K mg base CX0 _ _ _ _ (PrD K Tb g_L_cell_at) := ok_L_cell_at T TB hT
  have G_L_wish : FnOk P w K mg base CX0 _ _ _ _ (PrD K Tb g_L_wish) := ok_L_wish T TB hT
  refine fn_gf T.F_L_wishes sc_L_wishes (fun _ => rfl) (fun cdv A outer s H E hr => ⟨_, (pss_cons (ps_set (i := 2) sc_L_wishes.nd rfl (.inl rfl) (pe_op op_mod (pe_op op_fdiv (pe_call G_L_cell_at hr (by rfl) T.g_L_cell_at T.F_L_cell_at.kp T.b_L_cell_at .nil pass0 (pa_cons (pv 0) (pa_cons pe_int pa_nil))) pe_int) pe_int))
      (pss_cons (ps_if (pt_cmpR op_eq (pe_op op_mod (pe_op op_fdiv (pe_call G_L_cell_at hr (by rfl) T.g_L_cell_at T.F_L_cell_at.kp T.b_L_cell_at .nil pass0 (pa_cons (pv 0) (pa_cons pe_int pa_nil))) pe_int) pe_int) pe_int (nomark _))
        (pss_one (ps_set (i := 2) sc_L_wishes.nd rfl (.inl rfl) (pe_op op_add pe_int (pe_op op_mod (pe_op op_fdiv (pe_call G_L_cell_at hr (by rfl) T.g_L_cell_at T.F_L_cell_at.kp T.b_L_cell_at .nil pass0 (pa_cons (pv 0) (pa_cons pe_int pa_nil))) pe_int) pe_int))))
        pss_nil)
      (pss_one (ps_ret (pe_lc (own := [("_law_k", 3)]) (g := gName 3) (tt := tYes) rfl sc_L_wishes.nd (pi_range1 (by rfl) T.m_range (pa_cons (pv 2) pa_nil)) (blkOk_by (N := ["_law_script", "_law_many", "_law_count", "_law_k"]) (sc := defScope s_L_wishes) (by decide +kernel)) (fun _ _ _ _ _ => pg_name (i := 3) sc_L_wishes.nd rfl (.inl rfl)) (fun _ _ _ _ _ => pts_nil) (fun _ _ _ _ _ => (pe_call G_L_wish hr (by rfl) T.g_L_wish T.F_L_wish.kp T.b_L_wish .nil pass0 (pa_cons (pe_op op_add (pe_call G_L_cell_at hr (by rfl) T.g_L_cell_at T.F_L_cell_at.kp T.b_L_cell_at .nil pass0 (pa_cons (pv 0) (pa_cons (pe_op op_add pe_int (pv 3)) pa_nil))) (pe_op op_mul pe_int (pv 3))) (pa_cons (pv 1) pa_nil))))))))), fun F0 H0 x hp => ?_⟩)
  obtain ⟨ns, m⟩ := x
  have hm : m ≤ 10 := hp
  refine s_env (env' := [.dat (dInts ns), .dat (.int (m : Int)), .no, .no]) rfl ?_
  have cell : ∀ (env : List Sl) (k : Nat), env[0]? = some (.dat (dInts ns)) → EvD K Tb (tCall (PrD K Tb g_L_cell_at) [] E0 (tCons (tVar 0) (tCons (tC (.int (k : Int))) tNil))) env (.int (cellAt ns k)) := fun env k h =>
    d_call (a_cons (d_var h) (a_cons d_int a_nil)) ⟨(ns, k), rfl, trivial, rfl⟩
  obtain ⟨ct, hct, hct20⟩ := count_ok ns
  refine s_seq (s_asg (d_op (d_op (cell _ 0 rfl) d_int (r_intC ⟨by decide, by decide⟩)) d_int (r_intC (by show (0 : Int) < 9; decide))) ?_)
  refine s_seq (s_mid (fun e => e = [.dat (dInts ns), .dat (.int (m : Int)), .dat (.int (ct : Int)), .no]) (s_if (t_test (d_op (d_op (d_op (cell _ 0 rfl) d_int (r_intC ⟨by decide, by decide⟩)) d_int (r_intC (by show (0 : Int) < 8; decide))) d_int r_eqI)) (fun h => ?_) fun h => s_next ?_) ?_)
  · refine s_asg (d_op d_int (d_op (d_op (cell _ 0 rfl) d_int (r_intC ⟨by decide, by decide⟩)) d_int (r_intC (by show (0 : Int) < 12; decide))) r_int) ?_
    rw [← hct, countOf, if_pos (of_decide_eq_true h)]
    rfl
  · rw [← hct, countOf, if_neg (of_decide_eq_false h)]
    rfl
  rintro _ rfl
  refine s_ret (d_mapR (fun k => dInts (wishOf (cellAt ns (3 + k) + 7919 * (k : Int)) m)) (a_cons (d_var rfl) a_nil) (by omega) fun k hk => ?_) ?_
  · exact d_call (a_cons (d_op (d_call (a_cons (d_var rfl) (a_cons (d_op d_int (d_var rfl) r_int) a_nil)) ⟨(ns, 3 + k), by simp, trivial, rfl⟩) (d_op d_int (d_var rfl) (r_intC (.inl ⟨by decide, by decide⟩))) r_int) (a_cons (d_var rfl) a_nil)) ⟨(cellAt ns (3 + k) + 7919 * (k : Int), m), rfl, hm, rfl⟩
  · show PyData.list _ = PyData.list _
    rw [wishesOf, hct, Int.toNat_natCast, List.map_map]
    rfl
/-! _law_so -/
abbrev g_L_so : List D → D → Prop := GF (fun x : Int × List Bool => [.int x.1, dBools x.2]) (fun x => x.1 ≠ 0) fun x => .bool (isSo x.1 x.2)
theorem ok_L_so (T : Txt K mg a fd c) (TB : ∀ i, i < 2 → GxR.TabB base mg (c i) (p i)) (hT : ∀ i, i < 2 → p i ∈ Tb) : FnOk P w K mg base CX0 1 (a 11) (fd 11) ["_law_number", "_law_setting"] (PrD K Tb g_L_so) := by
  refine fn_gf T.F_L_so sc_L_so (fun _ => rfl) (fun cdv A outer s H E hr => ⟨_, (pss_cons (ps_set (i := 2) sc_L_so.nd rfl (.inl rfl) (pe_callB (call_max2 rfl) (by rfl) T.m_max (by decide +kernel) (pa_cons (pv 0) (pa_cons (pe_un un_neg (pv 0)) pa_nil))))
      (pss_one (ps_ret (pe_and (pe_cmpR op_le (pv 2) (pe_callB call_len_seq (by rfl) T.m_len (by decide +kernel) (pa_cons (pv 1) pa_nil)) (nomark _)) (pe_one (pe_cmpR op_eq (pe_ix ix_list (pv 1) (pe_op op_sub (pv 2) pe_int) (fun _ _ => rfl)) (pe_cmpR op_gt (pv 0) pe_int (nomark _)) (nomark _))))))), fun F0 H0 x hp => ?_⟩)
  obtain ⟨n, s⟩ := x
  have h0 : n ≠ 0 := hp
  refine s_env (env' := [.dat (.int n), .dat (dBools s), .no]) rfl ?_
  have mx : (if -n > n then -n else n) = (lampN n : Int) := by unfold lampN; split <;> omega
  refine s_seq (s_asg (d_is (d_cb (a_cons (d_var rfl) (a_cons (d_un (d_var rfl) r_neg) a_nil)) r_max2) (congrArg PyData.int mx)) ?_)
  have h1 : 0 < lampN n := by unfold lampN; omega
  refine s_ret (d_is (d_andV (a := decide (lampN n ≤ s.length)) (b := decide (s[lampN n - 1]? = some (decide (0 < n)))) (d_is (d_op (d_var rfl) (d_cb (a_cons (d_var rfl) a_nil) r_lenL) r_bool) ?_) fun h => ?_) ?_) rfl
  · rw [List.length_map]
    simp
  · have h : lampN n ≤ s.length := of_decide_eq_true h
    have g : s[lampN n - 1]? = some s[lampN n - 1] := List.getElem?_eq_getElem (by omega)
    have e3 : (lampN n : Int) - 1 = ((lampN n - 1 : Nat) : Int) := by omega
    refine d_is (d_op (d_op (d_var rfl) (d_op (d_var rfl) d_int r_int) (r_ixL (d := .bool s[lampN n - 1]) (by rw [e3]; exact bools_get g))) (d_op (d_var rfl) d_int r_bool) r_eqB) ?_
    rw [g]
    simp
  · unfold isSo isSet
    rw [decide_eq_true h1, Bool.true_and]
/-! _law_rising -/
abbrev g_L_rising : List D → D → Prop := GF (fun v : List Int => [dInts v]) (fun _ => True) fun v => dInts (rising v)
theorem ok_L_rising (T : Txt K mg a fd c) (TB : ∀ i, i < 2 → GxR.TabB base mg (c i) (p i)) (hT : ∀ i, i < 2 → p i ∈ Tb) : FnOk P w K mg base CX0 1 (a 12) (fd 12) ["_law_numbers"] (PrD K Tb g_L_rising) := by
  refine fn_gf T.F_L_rising sc_L_rising (fun _ => rfl) (fun cdv A outer s H E hr => ⟨_, (pss_cons (ps_set (i := 1) sc_L_rising.nd rfl (.inl rfl) (pe_lst pa_nil))
      (pss_cons (ps_for PassesOwn.never rfl (pi_range2 (by rfl) T.m_range (pa_cons pe_int (pa_cons pe_int pa_nil))) (pg_name (i := 2) sc_L_rising.nd rfl (.inl rfl))
        (pss_one (ps_for PassesOwn.never rfl (pi_tup (pe_tup (pa_cons (pe_un un_neg pe_int) (pa_cons pe_int pa_nil)))) (pg_name (i := 3) sc_L_rising.nd rfl (.inl rfl))
        (pss_one (ps_if (pt_cmpR op_in_seq (pe_op op_mul (pv 3) (pv 2)) (pv 0) (by rfl))
        (pss_one (ps_expr (pe_bm PySem.F.plainAttrs_list PySem.F.slot_list_append PySem.F.type_list_append mt_append (pv 1) (pa_cons (pe_op op_mul (pv 3) (pv 2)) pa_nil))))
        pss_nil)))))
      (pss_one (ps_ret (pv 1))))), fun F0 H0 x hp => ?_⟩)
  refine s_env (env' := [.dat (dInts x), .no, .no, .no]) rfl ?_
  refine s_seq (s_new (s_seq (s_forR2 (a_cons d_int (a_cons d_int a_nil)) (by decide) (fun k e => ∃ y2 y3, e = [.dat (dInts x), .own ((riseTo x k).map PyData.int), y2, y3]) ⟨.no, .no, rfl⟩ ?_ ?_)))
  · rintro k _ hk ⟨y2, y3, rfl⟩
    have hk : k < 10 := hk
    have hlen := riseTo_len x k
    refine s_forT (d_tup (a_cons (d_un d_int r_neg) (a_cons d_int a_nil)) (line_big (by show 2 ≤ 100000; decide))) (fun i e => ∃ y3, e = [.dat (dInts x), .own ((riseTo x k ++ (([-1 * (1 + (k : Int)), 1 * (1 + (k : Int))].take i).filter fun n => decide (n ∈ x))).map PyData.int), .dat (.int (1 + (k : Int))), y3]) ⟨y3, ?_⟩ ?_ ?_
    · show _ = [.dat (dInts x), .own ((riseTo x k ++ []).map PyData.int), .dat (.int (1 + (k : Int))), y3]
      rw [List.append_nil]
      rfl
    · rintro i d _ hi ⟨y3, rfl⟩
      have turn : ∀ (s : Int), d = .int s → [-1 * (1 + (k : Int)), 1 * (1 + (k : Int))][i]? = some (s * (1 + (k : Int))) → -5 ≤ s → s ≤ 5 → StD K Tb F0 H0 (tIfS (tTest (tOp (rIn K false) (tOp (rI CMul fun i j => .int (i * j)) (tVar 3) (tVar 2)) (tVar 0))) (tDrop (tBM K "list" rAppend (tVar 1) (tCons (tOp (rI CMul fun i j => .int (i * j)) (tVar 3) (tVar 2)) tNil))) tNext)
          [.dat (dInts x), .own ((riseTo x k ++ (([-1 * (1 + (k : Int)), 1 * (1 + (k : Int))].take i).filter fun n => decide (n ∈ x))).map PyData.int), .dat (.int (1 + (k : Int))), .dat (.int s)]
          (Po.turn { nx := fun e => ∃ y2 y3, e = [.dat (dInts x), .own ((riseTo x (k + 1)).map PyData.int), y2, y3], rt := fun d' => d' = dInts (rising x), bk := fun e => StD K Tb F0 H0 (tRet (tVar 1)) e { nx := fun _ => dInts (rising x) = .none, rt := fun d' => d' = dInts (rising x) }, ct := fun e => ∃ y2 y3, e = [.dat (dInts x), .own ((riseTo x (k + 1)).map PyData.int), y2, y3] }
            fun e => ∃ y3, e = [.dat (dInts x), .own ((riseTo x k ++ (([-1 * (1 + (k : Int)), 1 * (1 + (k : Int))].take (i + 1)).filter fun n => decide (n ∈ x))).map PyData.int), .dat (.int (1 + (k : Int))), y3]) := by
        intro s hd he h1 h2
        have et : ([-1 * (1 + (k : Int)), 1 * (1 + (k : Int))].take (i + 1)).filter (fun n => decide (n ∈ x)) = (([-1 * (1 + (k : Int)), 1 * (1 + (k : Int))].take i).filter fun n => decide (n ∈ x)) ++ [s * (1 + (k : Int))].filter fun n => decide (n ∈ x) := by
          rw [List.take_add_one, he, List.filter_append]
          rfl
        refine s_if (t_test (d_op (d_op (d_var rfl) (d_var rfl) (r_intC (.inl ⟨by omega, by omega⟩))) (d_var rfl) r_inI)) (fun h => ?_) fun h => s_next ⟨.dat (.int s), ?_⟩
        · refine s_app rfl (d_op (d_var rfl) (d_var rfl) (r_intC (.inl ⟨by omega, by omega⟩))) ?_ ⟨.dat (.int s), ?_⟩
          · rw [List.length_map, List.length_append]
            have := List.length_filter_le (fun n => decide (n ∈ x)) ([-1 * (1 + (k : Int)), 1 * (1 + (k : Int))].take i)
            have : ([-1 * (1 + (k : Int)), 1 * (1 + (k : Int))].take i).length ≤ 2 := by rw [List.length_take]; exact Nat.min_le_right _ _
            exact line_lt (by omega)
          · rw [et, List.filter_cons_of_pos (p := fun n => decide (n ∈ x)) h, List.filter_nil]
            simp only [List.map_append, List.append_assoc]
            rfl
        · rw [et, List.filter_cons_of_neg (p := fun n => decide (n ∈ x)) (by rw [h]; decide), List.filter_nil, List.append_nil]
      match i, hi with
      | 0, hi =>
        have hi : PyData.int (-1) = d := Option.some.inj hi
        subst hi
        exact turn (-1) rfl rfl (by decide) (by decide)
      | 1, hi =>
        have hi : PyData.int 1 = d := Option.some.inj hi
        subst hi
        exact turn 1 rfl rfl (by decide) (by decide)
    · rintro _ ⟨y3, rfl⟩
      refine ⟨.dat (.int (1 + (k : Int))), y3, ?_⟩
      rw [riseTo_succ]
      rfl
  · rintro _ ⟨y2, y3, rfl⟩
    exact s_frz (i := 1) rfl (s_ret (d_var rfl) rfl)
/-! _law_due -/
abbrev g_L_due : List D → D → Prop := GF (fun x : List (List Int) × List Bool => [wishesD x.1, dBools x.2]) (fun x => Wishes x.1) fun x => ansD (ans x.1 x.2)
theorem ok_L_due (T : Txt K mg a fd c) (TB : ∀ i, i < 2 → GxR.TabB base mg (c i) (p i)) (hT : ∀ i, i < 2 → p i ∈ Tb) : FnOk P w K mg base CX0 2 (a 13) (fd 13) ["_law_wishes_here", "_law_setting"] (PrD K Tb g_L_due) := by
  have G_L_rising : FnOk P w K mg base CX0 _ _ _ _ (PrD K Tb g_L_rising) := ok_L_rising T TB hT
  have G_L_so : FnOk P w K mg base CX0 _ _ _ _ (PrD K Tb g_L_so) := ok_L_so T TB hT
  refine fn_gf T.F_L_due sc_L_due (fun _ => rfl) (fun cdv A outer s H E hr => ⟨_, (pss_cons (ps_set (i := 2) sc_L_due.nd rfl (.inl rfl) (pe_lst pa_nil))
      (pss_cons (ps_set (i := 3) sc_L_due.nd rfl (.inl rfl) pe_int)
      (pss_cons (ps_for PassesOwn.never rfl (pi_list (pv 0)) (pg_name (i := 4) sc_L_due.nd rfl (.inl rfl))
        (pss_cons (ps_setLc (i := 5) (own := [("_law_number", 7)]) (g := gName 7) rfl sc_L_due.nd rfl rfl (sw_true rfl rfl rfl (by decide +kernel)) (pi_list (pv 4)) (blkOk_by (N := ["_law_wishes_here", "_law_setting", "_law_hung", "_law_open_ones", "_law_wish_here", "_law_so_here", "_law_far", "_law_number"]) (sc := defScope s_L_due) (by decide +kernel)) (fun _ _ _ _ _ => pg_name (i := 7) sc_L_due.nd rfl (.inl rfl)) (fun _ _ _ _ _ => pts_one (pt_val (pe_call G_L_so hr (by rfl) T.g_L_so T.F_L_so.kp T.b_L_so .nil pass0 (pa_cons (pv 7) (pa_cons (pv 1) pa_nil))))) (fun _ _ _ _ _ => (pv 7)))
      (pss_cons (ps_setLc (i := 6) (own := [("_law_number", 7)]) (g := gName 7) rfl sc_L_due.nd rfl rfl (sw_true rfl rfl rfl (by decide +kernel)) (pi_list (pv 4)) (blkOk_by (N := ["_law_wishes_here", "_law_setting", "_law_hung", "_law_open_ones", "_law_wish_here", "_law_so_here", "_law_far", "_law_number"]) (sc := defScope s_L_due) (by decide +kernel)) (fun _ _ _ _ _ => pg_name (i := 7) sc_L_due.nd rfl (.inl rfl)) (fun _ _ _ _ _ => pts_one (pt_cmpR op_gt (pe_callB (call_max2 rfl) (by rfl) T.m_max (by decide +kernel) (pa_cons (pv 7) (pa_cons (pe_un un_neg (pv 7)) pa_nil))) (pe_callB (call_lenK (K := K) rfl) (by rfl) T.m_len (by decide +kernel) (pa_cons (pv 1) pa_nil)) (nomark _))) (fun _ _ _ _ _ => (pv 7)))
      (pss_cons (ps_if (PW.pt (pw_and (pt_cmpR (op_eqD hr.units) (pv 5) (pe_lst pa_nil) (nomark _)) (pw_and1 (pt_cmpR (op_eqD hr.units) (pv 6) (pe_lst pa_nil) (nomark _)))))
        (pss_one (ps_ret (pe_tup (pa_cons pe_bl (pa_cons (pe_call G_L_rising hr (by rfl) T.g_L_rising T.F_L_rising.kp T.b_L_rising .nil pass0 (pa_cons (pe_lc (own := [("_law_number", 7)]) (g := gName 7) (tt := tYes) rfl sc_L_due.nd (pi_list (pv 4)) (blkOk_by (N := ["_law_wishes_here", "_law_setting", "_law_hung", "_law_open_ones", "_law_wish_here", "_law_so_here", "_law_far", "_law_number"]) (sc := defScope s_L_due) (by decide +kernel)) (fun _ _ _ _ _ => pg_name (i := 7) sc_L_due.nd rfl (.inl rfl)) (fun _ _ _ _ _ => pts_nil) (fun _ _ _ _ _ => (pe_un un_neg (pv 7)))) pa_nil)) pa_nil)))))
        pss_nil)
      (pss_cons (ps_if (pt_cmpR (op_eqD hr.units) (pv 5) (pe_lst pa_nil) (nomark _))
        (pss_one (ps_set (i := 3) sc_L_due.nd rfl (.inl rfl) (pe_op op_add (pv 3) pe_int)))
        pss_nil)
      (pss_one (ps_set (i := 2) sc_L_due.nd rfl (.inl rfl) (pe_op op_cat (pv 2) (pe_slice sl_list (pv 5) po_none (po_some pe_int))))))))))
      (pss_cons (ps_if (pt_cmpR op_gt (pv 3) pe_int (nomark _))
        (pss_one (ps_ret pe_non))
        pss_nil)
      (pss_one (ps_ret (pe_tup (pa_cons pe_bl (pa_cons (pe_call G_L_rising hr (by rfl) T.g_L_rising T.F_L_rising.kp T.b_L_rising .nil pass0 (pa_cons (pv 2) pa_nil)) pa_nil))))))))), fun F0 H0 x hp => ?_⟩)
  obtain ⟨ws, st⟩ := x
  have hw : Wishes ws := hp
  refine s_env (env' := [.dat (wishesD ws), .dat (dBools st), .no, .no, .no, .no, .no, .no]) rfl ?_
  refine s_seq (s_asgL (l_lst a_nil (Nat.zero_le _)) (s_seq (s_asg d_int ?_)))
  refine s_seq (s_forL (d_var rfl) (fun k e => ∃ y4 y5 y6 y7, e = [.dat (wishesD ws), .dat (dBools st), .lst ((firsts (ws.take k) st).map PyData.int), .dat (.int (openN (ws.take k) st : Nat)), y4, y5, y6, y7] ∧ (ws.take k).find? (fun w => lostB w st) = none) ⟨.no, .no, .no, .no, rfl, rfl⟩ ?_ ?_)
  · rintro k d _ hk ⟨y4, y5, y6, y7, rfl, hn⟩
    obtain ⟨w, hw1, rfl⟩ := map_at hk
    have hwi := hw.2 w (List.mem_of_getElem? hw1)
    have lw : (w.map PyData.int).length < sizeLine := by rw [List.length_map]; have := hwi.1; exact line_lt (by omega)
    refine s_seq (s_asg (d := dInts (soL w st)) (d_is (d_lc (fun d => if isSo (numD d) st then some d else none) (d_var rfl) lw fun i d hi => ?_) (congrArg PyData.list (lc_filter w fun n => isSo n st))) ?_)
    · obtain ⟨n, hn1, rfl⟩ := map_at hi
      refine ⟨isSo n st, t_B (d_call (a_cons (d_var rfl) (a_cons (d_var rfl) a_nil)) ⟨(n, st), rfl, (hwi.2 n (List.mem_of_getElem? hn1)).1, rfl⟩), fun h => ?_, fun h => ⟨.int n, ?_, d_var rfl⟩⟩
      · show (if isSo n st then _ else _) = _
        rw [h]; rfl
      · show (if isSo n st then _ else _) = _
        rw [h]; rfl
    refine s_seq (s_asg (d := dInts (farL w st)) (d_is (d_lc (fun d => if st.length < lampN (numD d) then some d else none) (d_var rfl) lw fun i d hi => ?_) (congrArg PyData.list (lc_filter' w fun n => st.length < lampN n))) ?_)
    · obtain ⟨n, hn1, rfl⟩ := map_at hi
      have mx : (if -n > n then -n else n) = (lampN n : Int) := by unfold lampN; split <;> omega
      refine ⟨decide (st.length < lampN n), t_is (t_test (d_op (d_is (d_cb (a_cons (d_var rfl) (a_cons (d_un (d_var rfl) r_neg) a_nil)) r_max2) (congrArg PyData.int mx)) (d_cb (a_cons (d_var rfl) a_nil) r_lenL) r_bool)) ?_, fun h => ?_, fun h => ⟨.int n, ?_, d_var rfl⟩⟩
      · rw [List.length_map]
        simp
      · exact if_neg (of_decide_eq_false h)
      · exact if_pos (of_decide_eq_true h)
    have em : PyData.eqv (dInts (soL w st)) (dInts []) = (soL w st).isEmpty := eqv_nil _
    refine s_seq (s_if (b := lostB w st) (t_is (t_and (t_test (d_op (d_var rfl) (d_lst a_nil (Nat.zero_le _)) (r_eqD (shaped_ints _) (shaped_ints [])))) fun _ => t_test (d_op (d_var rfl) (d_lst a_nil (Nat.zero_le _)) (r_eqD (shaped_ints _) (shaped_ints [])))) ?_) (fun h => ?_) fun h => s_next ?_)
    · rw [lost_lists hwi, ← eqv_nil, ← eqv_nil]
      rfl
    · refine s_ret (d_tup (a_cons d_bl (a_cons (d_call (a_cons (d_is (d_map negD (d_var rfl) lw fun i d hi => ?_) (congrArg PyData.list (map_neg w))) a_nil) ⟨turned w, rfl, trivial, rfl⟩) a_nil)) (line_big (by show 2 ≤ 100000; decide))) ?_
      · obtain ⟨n, _, rfl⟩ := map_at hi
        exact d_un (d_var rfl) r_neg
      · show _ = ansD (ans ws st)
        rw [ans, some_here hw1 hn h]
        rfl
    have last : ∀ (o : Int), o = (openN (ws.take (k + 1)) st : Nat) → StD K Tb F0 H0 (tAsg (tOp rCat (tVar 2) (tSl (rSlL K) (tVar 5) tNoPart (tPart (tC (.int 1))))) (gName 2))
        [.dat (wishesD ws), .dat (dBools st), .lst ((firsts (ws.take k) st).map PyData.int), .dat (.int o), .dat (dInts w), .dat (dInts (soL w st)), .dat (dInts (farL w st)), y7]
        (Po.turn { nx := fun e => StD K Tb F0 H0 (tSeq (tIfS (tTest (tOp (rI0 fun i j => .bl (decide (i > j))) (tVar 3) (tC (.int 0)))) (tRet (tC .non)) tNext) (tRet (tTup (tCons (tC (.bl true)) (tCons (tCall (PrD K Tb g_L_rising) [] E0 (tCons (tVar 2) tNil)) tNil))))) e { nx := fun _ => ansD (ans ws st) = .none, rt := fun d' => d' = ansD (ans ws st) }, rt := fun d' => d' = ansD (ans ws st) }
          fun e => ∃ y4 y5 y6 y7, e = [.dat (wishesD ws), .dat (dBools st), .lst ((firsts (ws.take (k + 1)) st).map PyData.int), .dat (.int (openN (ws.take (k + 1)) st : Nat)), y4, y5, y6, y7] ∧ (ws.take (k + 1)).find? (fun w => lostB w st) = none) := by
      rintro o rfl
      refine s_asgL (l_cat (l_var rfl) (l_sl (d_var rfl) o_none (o_some d_int)) ?_) ⟨.dat (dInts w), .dat (dInts (soL w st)), .dat (dInts (farL w st)), y7, ?_, none_take_succ hw1 hn h⟩
      · have h1 : (firsts (ws.take k) st).length ≤ 20 := Nat.le_trans (List.length_filterMap_le _ _) (by rw [List.length_take]; have := hw.1; omega)
        have h2 : (soL w st).length ≤ 10 := Nat.le_trans (List.length_filter_le _ _) hwi.1
        rw [List.length_map, List.length_take, List.length_drop, List.length_map]
        exact line_big (by omega)
      · have q := sl_to ((soL w st).map PyData.int) 1
        rw [show ((1 : Nat) : Int) = 1 from rfl] at q
        rw [q, firsts_succ hw1, List.map_append, List.map_take]
        rfl
    refine s_seq (s_if (b := (soL w st).isEmpty) (t_is (t_test (d_op (d_var rfl) (d_lst a_nil (Nat.zero_le _)) (r_eqD (shaped_ints _) (shaped_ints [])))) em) (fun hs => ?_) fun hs => s_next ?_)
    · refine s_asg (d_op (d_var rfl) d_int r_int) (last _ ?_)
      rw [openN_succ hw1, met_list, hs]
      rfl
    · refine last _ ?_
      rw [openN_succ hw1, met_list, hs]
      rfl
  · rintro _ ⟨y4, y5, y6, y7, rfl, hn⟩
    rw [List.length_map, List.take_length] at hn ⊢
    refine s_seq (s_if (t_test (d_op (d_var rfl) d_int r_bool)) (fun h => s_ret d_non ?_) fun h => s_next ?_)
    · have h : ((openN ws st : Nat) : Int) > 0 := of_decide_eq_true h
      show _ = ansD (ans ws st)
      rw [ans, hn, if_neg fun z => by rw [openN_zero.mpr z] at h; exact absurd h (by decide)]
      rfl
    · have h : ¬ ((openN ws st : Nat) : Int) > 0 := of_decide_eq_false h
      refine s_ret (d_tup (a_cons d_bl (a_cons (d_call (a_cons (l_d (l_var rfl)) a_nil) ⟨firsts ws st, rfl, trivial, rfl⟩) a_nil)) (line_big (by show 2 ≤ 100000; decide))) ?_
      show _ = ansD (ans ws st)
      rw [ans, hn, if_pos (openN_zero.mp (by omega))]
      rfl
/-! _law_alike -/
abbrev g_L_alike : List D → D → Prop := GF (fun x : Option (Bool × List Int) => [ansD x, ansD x]) (fun _ => True) fun _ => .bool true
theorem ok_L_alike (T : Txt K mg a fd c) (TB : ∀ i, i < 2 → GxR.TabB base mg (c i) (p i)) (hT : ∀ i, i < 2 → p i ∈ Tb) : FnOk P w K mg base CX0 1 (a 14) (fd 14) ["_law_found", "_law_due_here"] (PrD K Tb g_L_alike) := by
  refine fn_gf T.F_L_alike sc_L_alike (fun _ => rfl) (fun cdv A outer s H E hr => ⟨_, (pss_cons (ps_if (pt_cmpR op_isN (pv 1) pe_non (nomark _))
        (pss_one (ps_ret (pe_cmpR op_isN (pv 0) pe_non (nomark _))))
        pss_nil)
      (pss_cons (ps_if (PW.pt (pw_or (pt_not (pt_val (pe_callB call_isi (by rfl) T.m_isinstance (by decide +kernel) (pa_cons (pv 0) (pa_cons (pe_bltn (v := .ty "tuple") (by rfl) T.m_tuple (by decide +kernel) rfl) pa_nil))))) (pw_or (pt_cmpR op_ne (pe_callB call_len_seq (by rfl) T.m_len (by decide +kernel) (pa_cons (pv 0) pa_nil)) pe_int (nomark _)) (pw_or1 (pt_not (pt_val (pe_callB call_isi (by rfl) T.m_isinstance (by decide +kernel) (pa_cons (pe_ix ix_tup (pv 0) pe_int (fun _ _ => rfl)) (pa_cons (pe_bltn (v := .ty "bool") (by rfl) T.m_bool (by decide +kernel) rfl) pa_nil)))))))))
        (pss_one (ps_ret pe_bl))
        pss_nil)
      (pss_cons (ps_if (pt_not (pt_val (pe_callB call_isi (by rfl) T.m_isinstance (by decide +kernel) (pa_cons (pe_ix ix_tup (pv 0) pe_int (fun _ _ => rfl)) (pa_cons (pe_bltn (v := .ty "list") (by rfl) T.m_list (by decide +kernel) rfl) pa_nil)))))
        (pss_one (ps_ret pe_bl))
        pss_nil)
      (pss_cons (ps_for PassesOwn.never rfl (pi_list (pe_ix ix_tup (pv 0) pe_int (fun _ _ => rfl))) (pg_name (i := 2) sc_L_alike.nd rfl (.inl rfl))
        (pss_one (ps_if (PW.pt (pw_or (pt_not (pt_val (pe_callB call_isi (by rfl) T.m_isinstance (by decide +kernel) (pa_cons (pv 2) (pa_cons (pe_bltn (v := .ty "int") (by rfl) T.m_int (by decide +kernel) rfl) pa_nil))))) (pw_or1 (pt_val (pe_callB call_isi (by rfl) T.m_isinstance (by decide +kernel) (pa_cons (pv 2) (pa_cons (pe_bltn (v := .ty "bool") (by rfl) T.m_bool (by decide +kernel) rfl) pa_nil)))))))
        (pss_one (ps_ret pe_bl))
        pss_nil)))
      (pss_one (ps_ret (pe_cmpR (op_eqD hr.units) (pv 0) (pv 1) (nomark _)))))))), fun F0 H0 x hp => ?_⟩)
  rcases x with _ | ⟨b, l⟩
  · refine s_env (env' := [.dat .none, .dat .none, .no]) rfl ?_
    exact s_seq (s_if (t_test (d_op (d_var rfl) d_non r_isN)) (fun _ => s_ret (d_op (d_var rfl) d_non r_isN) rfl) fun z => nomatch z)
  · refine s_env (env' := [.dat (.tuple [.bool b, dInts l]), .dat (.tuple [.bool b, dInts l]), .no]) rfl ?_
    refine s_seq (s_if (t_test (d_op (d_var rfl) d_non r_isN)) (fun z => nomatch z) fun _ => s_next ?_)
    refine s_seq (s_if (b := false) (t_is (t_or (t_not (t_test (d_isi (b := true) (d_var rfl) (kit_ty (a := "tuple") (by decide +kernel))))) fun _ => t_or (t_test (d_op (d_cb (a_cons (d_var rfl) a_nil) r_lenT) d_int r_neI)) fun _ =>
      t_not (t_test (d_isi (b := true) (d_op (d_var rfl) d_int (r_ixT (d := .bool b) rfl)) (kit_ty (a := "bool") (by decide +kernel))))) rfl) (fun z => nomatch z) fun _ => s_next ?_)
    refine s_seq (s_if (b := false) (t_is (t_not (t_test (d_isi (b := true) (d_op (d_var rfl) d_int (r_ixT (d := dInts l) rfl)) (kit_ty (a := "list") (by decide +kernel))))) rfl) (fun z => nomatch z) fun _ => s_next ?_)
    refine s_seq (s_forL (d_op (d_var rfl) d_int (r_ixT (d := dInts l) rfl)) (fun _ e => ∃ y, e = [.dat (.tuple [.bool b, dInts l]), .dat (.tuple [.bool b, dInts l]), y]) ⟨.no, rfl⟩ ?_ ?_)
    · rintro k d _ hk ⟨y, rfl⟩
      obtain ⟨n, _, rfl⟩ := map_at hk
      exact s_if (b := false) (t_is (t_or (t_not (t_test (d_isi (b := true) (d_var rfl) (kit_ty (a := "int") (by decide +kernel))))) fun _ => t_test (d_isi (b := false) (d_var rfl) (kit_ty (a := "int") (by decide +kernel)))) rfl) (fun z => nomatch z) fun _ => s_next ⟨.dat (.int n), rfl⟩
    · rintro _ ⟨y, rfl⟩
      refine s_ret (d_op (d_var rfl) (d_var rfl) (r_eqD (shaped_ans (some (b, l))) (shaped_ans (some (b, l))))) ?_
      show PyData.bool (PyData.eqv (ansD (some (b, l))) (ansD (some (b, l)))) = PyData.bool true
      rw [eqv_self (shaped_ans (some (b, l)))]
/-! law -/
abbrev g_law : List D → D → Prop := GF (fun ns : List Int => [dInts ns]) (fun ns => ns.length ≤ 63) fun _ => .bool true
theorem ok_law (T : Txt K mg a fd c) (TB : ∀ i, i < 2 → GxR.TabB base mg (c i) (p i)) (hT : ∀ i, i < 2 → p i ∈ Tb) : FnOk P w K mg base CX0 7 (a 15) (fd 15) ["_law_script"] (PrD K Tb g_law) := by
  have G_L_alike : FnOk P w K mg base CX0 _ _ _ _ (PrD K Tb g_L_alike) := ok_L_alike T TB hT
  have G_L_cell_at : FnOk P w K mg base CX0 _ _ _ _ (PrD K Tb g_L_cell_at) := ok_L_cell_at T TB hT
  have G_L_due : FnOk P w K mg base CX0 _ _ _ _ (PrD K Tb g_L_due) := ok_L_due T TB hT
  have G_L_values : FnOk P w K mg base CX0 _ _ _ _ (PrD K Tb g_L_values) := ok_L_values T TB hT
  have G_L_wishes : FnOk P w K mg base CX0 _ _ _ _ (PrD K Tb g_L_wishes) := ok_L_wishes T TB hT
  have G_ended : FnOk P w K mg base CX0 _ _ _ _ (PrD K Tb g_ended) := ok_ended T TB hT
  refine fn_gf T.F_law sc_law (fun _ => rfl) (fun cdv A outer s H E hr => ⟨_, (pss_cons (ps_set (i := 1) sc_law.nd rfl (.inl rfl) (pe_op op_mod (pe_call G_L_cell_at (hr.mono (by decide)) (by rfl) T.g_L_cell_at T.F_L_cell_at.kp T.b_L_cell_at .nil pass0 (pa_cons (pv 0) (pa_cons pe_int pa_nil))) pe_int))
      (pss_cons (ps_set (i := 2) sc_law.nd rfl (.inl rfl) (pe_call G_L_wishes (hr.mono (by decide)) (by rfl) T.g_L_wishes T.F_L_wishes.kp T.b_L_wishes .nil pass0 (pa_cons (pv 0) (pa_cons (pv 1) pa_nil))))
      (pss_cons (ps_set (i := 3) sc_law.nd rfl (.inl rfl) (pe_call G_L_values (hr.mono (by decide)) (by rfl) T.g_L_values T.F_L_values.kp T.b_L_values .nil pass0 (pa_cons (pe_call G_L_cell_at (hr.mono (by decide)) (by rfl) T.g_L_cell_at T.F_L_cell_at.kp T.b_L_cell_at .nil pass0 (pa_cons (pv 0) (pa_cons pe_int pa_nil))) (pa_cons (pe_op op_mod (pe_call G_L_cell_at (hr.mono (by decide)) (by rfl) T.g_L_cell_at T.F_L_cell_at.kp T.b_L_cell_at .nil pass0 (pa_cons (pv 0) (pa_cons pe_int pa_nil))) (pe_op op_add (pv 1) pe_int)) pa_nil))))
      (pss_cons (ps_setLc (i := 4) (own := [("_law_wish_here", 7)]) (g := gName 7) (tt := tYes) rfl sc_law.nd rfl rfl (sw_true rfl rfl rfl (by decide +kernel)) (pi_list (pv 2)) (blkOk_by (N := ["_law_script", "_law_many", "_law_wishes_here", "_law_setting", "_law_one", "_law_other", "_law_found", "_law_wish_here"]) (sc := defScope s_law) (by decide +kernel)) (fun _ _ _ _ _ => pg_name (i := 7) sc_law.nd rfl (.inl rfl)) (fun _ _ _ _ _ => pts_nil) (fun _ _ _ _ _ => (pe_callTy (call_listK (K := K) rfl) (by rfl) T.m_list (by decide +kernel) (pa_cons (pv 7) pa_nil))))
      (pss_cons (ps_set (i := 5) sc_law.nd rfl (.inl rfl) (pe_callTy call_list_of (by rfl) T.m_list (by decide +kernel) (pa_cons (pv 3) pa_nil)))
      (pss_cons (ps_set (i := 6) sc_law.nd rfl (.inl rfl) (pe_call G_ended hr (by rfl) T.g_ended T.F_ended.kp T.b_ended .nil pass0 (pa_cons (pv 4) (pa_cons (pv 5) pa_nil))))
      (pss_one (ps_ret (pe_and (pe_call G_L_alike (hr.mono (by decide)) (by rfl) T.g_L_alike T.F_L_alike.kp T.b_L_alike .nil pass0 (pa_cons (pv 6) (pa_cons (pe_call G_L_due (hr.mono (by decide)) (by rfl) T.g_L_due T.F_L_due.kp T.b_L_due .nil pass0 (pa_cons (pv 2) (pa_cons (pv 3) pa_nil))) pa_nil))) (pe_and (pe_cmpR (op_eqD hr.units) (pv 4) (pv 2) (nomark _)) (pe_one (pe_cmpR (op_eqD hr.units) (pv 5) (pv 3) (nomark _))))))))))))), fun F0 H0 x hp => ?_⟩)
  refine s_env (env' := [.dat (dInts x), .no, .no, .no, .no, .no, .no, .no]) rfl ?_
  have cell : ∀ (env : List Sl) (k : Nat), env[0]? = some (.dat (dInts x)) → EvD K Tb (tCall (PrD K Tb g_L_cell_at) [] E0 (tCons (tVar 0) (tCons (tC (.int (k : Int))) tNil))) env (.int (cellAt x k)) := fun env k h =>
    d_call (a_cons (d_var h) (a_cons d_int a_nil)) ⟨(x, k), rfl, trivial, rfl⟩
  obtain ⟨m, hm, hm11⟩ := rest_nat (cellAt x 0) 11 (by decide)
  refine s_seq (s_asg (d_is (d_op (cell _ 0 rfl) d_int (r_intC (by show (0 : Int) < 11; decide))) (congrArg PyData.int hm)) ?_)
  have hm10 : m ≤ 10 := by omega
  refine s_seq (s_asg (d_call (a_cons (d_var rfl) (a_cons (d_var rfl) a_nil)) ⟨(x, m), rfl, hm10, rfl⟩) ?_)
  obtain ⟨z, hz, hz2⟩ := rest_nat (cellAt x 2) (m + 1) (by omega)
  have hz : cellAt x 2 % ((m : Int) + 1) = (z : Int) := by rw [← hz]; rfl
  refine s_seq (s_asg (d_call (a_cons (cell _ 1 rfl) (a_cons (d_is (d_op (cell _ 2 rfl) (d_op (d_var rfl) d_int r_int) (r_intC (by show (0 : Int) < (m : Int) + 1; omega))) (congrArg PyData.int hz)) a_nil)) ⟨(cellAt x 1, z), rfl, (by show z ≤ 1000; omega), rfl⟩) ?_)
  have hw : Wishes (wishesOf x m) := wishesOf_ok hm10
  obtain ⟨ws, hws⟩ : ∃ ws, wishesOf x m = ws := ⟨_, rfl⟩
  obtain ⟨st, hst⟩ : ∃ st, bitsOf (cellAt x 1) z = st := ⟨_, rfl⟩
  show StD K Tb F0 H0 _ [.dat (dInts x), .dat (.int (m : Int)), .dat (wishesD (wishesOf x m)), .dat (dBools (bitsOf (cellAt x 1) z)), .no, .no, .no, .no] _
  rw [hws] at hw ⊢
  rw [hst]
  refine s_seq (s_asg (d := wishesD ws) (d_is (d_map (fun d => d) (d_var rfl) ?_ fun k d hk => ?_) ?_) ?_)
  · rw [List.length_map]; have := hw.1; exact line_lt (by omega)
  · obtain ⟨w, _, rfl⟩ := map_at hk
    exact d_cb (a_cons (d_var rfl) a_nil) r_list
  · show PyData.list _ = PyData.list _
    rw [List.map_id']
  refine s_seq (s_asg (d_cb (a_cons (d_var rfl) a_nil) r_list) ?_)
  refine s_seq (s_asg (d_call (a_cons (d_var rfl) (a_cons (d_var rfl) a_nil)) ⟨(ws, st), rfl, hw, rfl⟩) ?_)
  refine s_ret (d_andV (a := true) (d_call (a_cons (d_var rfl) (a_cons (d_call (a_cons (d_var rfl) (a_cons (d_var rfl) a_nil)) ⟨(ws, st), rfl, hw, rfl⟩) a_nil)) ⟨ans ws st, rfl, trivial, rfl⟩) fun _ =>
    d_andV (d_op (d_var rfl) (d_var rfl) (r_eqD (shaped_wishes ws) (shaped_wishes ws))) fun _ => d_op (d_var rfl) (d_var rfl) (r_eqD (shaped_bools st) (shaped_bools st))) ?_
  show PyData.bool _ = PyData.bool true
  rw [eqv_self (shaped_wishes ws), eqv_self (shaped_bools st)]
  rfl
end
theorem all_mk {l : PySem.W.OpenLaw} {q : Program} {w : World} {K : PySem.W.Frag} {h : Heap} {mg : Str → Option Value} {fa : Addr} (X : K.In h) (G : h.Ns mainGlobals mg) (hfa : mg "law" = some (.ref fa))
    (tabs : ∀ (y : Str) (e : DefRec) (c P : Addr), (recsOf q).find? (fun e => e.name == y) = some e → PySem.W.tabIn K y = some (c, P) → PySem.W.CodeHd h c P ∧ h.get? P = some (PySem.W.tabObj #[]))
    {f0 f1 f2 f3 f4 f5 f6 f7 f8 f9 f10 f11 f12 f13 f14 f15 : Addr} {oc0 kV0 dc0 pm0 ct0 cd0 oc1 kV1 dc1 pm1 ct1 cd1 oc2 kV2 dc2 pm2 ct2 cd2 oc3 kV3 dc3 pm3 ct3 cd3 oc4 kV4 dc4 pm4 ct4 oc5 kV5 dc5 pm5 ct5 cd5 oc6 kV6 dc6 pm6 ct6 oc7 kV7 dc7 pm7 ct7 cd7 oc8 kV8 dc8 pm8 ct8 cd8 oc9 kV9 dc9 pm9 ct9 cd9 oc10 kV10 dc10 pm10 ct10 cd10 oc11 kV11 dc11 pm11 ct11 cd11 oc12 kV12 dc12 pm12 ct12 cd12 oc13 kV13 dc13 pm13 ct13 cd13 oc14 kV14 dc14 pm14 ct14 cd14 oc15 kV15 dc15 pm15 ct15 cd15 : Value} {od0 an0 od1 an1 od2 an2 od3 an3 od4 an4 od5 an5 od6 an6 od7 an7 od8 an8 od9 an9 od10 an10 od11 an11 od12 an12 od13 an13 od14 an14 od15 an15 : Option Addr} {sl0 sl1 sl2 sl3 sl4 sl5 sl6 sl7 sl8 sl9 sl10 sl11 sl12 sl13 sl14 sl15 : Array (Option Value)}
    {c4 P4 : Addr} {occ4 : Value} {odc4 : Option Addr} {vs4 : Array Value} {slc4 : Array (Option Value)} {rec4 : DefRec}
    {c6 P6 : Addr} {occ6 : Value} {odc6 : Option Addr} {vs6 : Array Value} {slc6 : Array (Option Value)} {rec6 : DefRec}
    (a0 : PySem.W.nsIn K mainGlobals "is_set" = some (some (.ref f0)))
    (l0 : K.lookup f0 = some ⟨oc0, od0, .func (PySem.W.fnOf "is_set" "is_set" (defArgs s_is_set) (defBody s_is_set) (defScope s_is_set) .none kV0 dc0 pm0 an0 cd0 ct0), sl0⟩)
    (c0_ : PySem.W.codeIn K cd0 "is_set" = true)
    (k0 : PySem.W.keepIn K (.ref f0) = true)
    (a1 : PySem.W.nsIn K mainGlobals "is_so" = some (some (.ref f1)))
    (l1 : K.lookup f1 = some ⟨oc1, od1, .func (PySem.W.fnOf "is_so" "is_so" (defArgs s_is_so) (defBody s_is_so) (defScope s_is_so) .none kV1 dc1 pm1 an1 cd1 ct1), sl1⟩)
    (c1_ : PySem.W.codeIn K cd1 "is_so" = true)
    (k1 : PySem.W.keepIn K (.ref f1) = true)
    (a2 : PySem.W.nsIn K mainGlobals "first_so" = some (some (.ref f2)))
    (l2 : K.lookup f2 = some ⟨oc2, od2, .func (PySem.W.fnOf "first_so" "first_so" (defArgs s_first_so) (defBody s_first_so) (defScope s_first_so) .none kV2 dc2 pm2 an2 cd2 ct2), sl2⟩)
    (c2_ : PySem.W.codeIn K cd2 "first_so" = true)
    (k2 : PySem.W.keepIn K (.ref f2) = true)
    (a3 : PySem.W.nsIn K mainGlobals "met" = some (some (.ref f3)))
    (l3 : K.lookup f3 = some ⟨oc3, od3, .func (PySem.W.fnOf "met" "met" (defArgs s_met) (defBody s_met) (defScope s_met) .none kV3 dc3 pm3 an3 cd3 ct3), sl3⟩)
    (c3_ : PySem.W.codeIn K cd3 "met" = true)
    (k3 : PySem.W.keepIn K (.ref f3) = true)
    (a4 : PySem.W.nsIn K mainGlobals "lost" = some (some (.ref f4)))
    (l4 : K.lookup f4 = some ⟨oc4, od4, .func (PySem.W.fnOf "lost" "lost" (defArgs s_lost) (defBody s_lost) (defScope s_lost) .none kV4 dc4 pm4 an4 (.ref c4) ct4), sl4⟩)
    (c4_ : PySem.W.codeIn K (.ref c4) "lost" = true)
    (k4 : PySem.W.keepIn K (.ref f4) = true)
    (lc4 : K.lookup c4 = some ⟨occ4, odc4, .fields vs4, slc4⟩)
    (hv4 : vs4[11]? = some (.ref P4))
    (rc4 : (recsOf q).find? (fun e => e.name == ("lost" : Str)) = some rec4)
    (a5 : PySem.W.nsIn K mainGlobals "by_lamp" = some (some (.ref f5)))
    (l5 : K.lookup f5 = some ⟨oc5, od5, .func (PySem.W.fnOf "by_lamp" "by_lamp" (defArgs s_by_lamp) (defBody s_by_lamp) (defScope s_by_lamp) .none kV5 dc5 pm5 an5 cd5 ct5), sl5⟩)
    (c5_ : PySem.W.codeIn K cd5 "by_lamp" = true)
    (k5 : PySem.W.keepIn K (.ref f5) = true)
    (a6 : PySem.W.nsIn K mainGlobals "ended" = some (some (.ref f6)))
    (l6 : K.lookup f6 = some ⟨oc6, od6, .func (PySem.W.fnOf "ended" "ended" (defArgs s_ended) (defBody s_ended) (defScope s_ended) .none kV6 dc6 pm6 an6 (.ref c6) ct6), sl6⟩)
    (c6_ : PySem.W.codeIn K (.ref c6) "ended" = true)
    (k6 : PySem.W.keepIn K (.ref f6) = true)
    (lc6 : K.lookup c6 = some ⟨occ6, odc6, .fields vs6, slc6⟩)
    (hv6 : vs6[11]? = some (.ref P6))
    (rc6 : (recsOf q).find? (fun e => e.name == ("ended" : Str)) = some rec6)
    (a7 : PySem.W.nsIn K mainGlobals "_law_cell_at" = some (some (.ref f7)))
    (l7 : K.lookup f7 = some ⟨oc7, od7, .func (PySem.W.fnOf "_law_cell_at" "_law_cell_at" (defArgs s_L_cell_at) (defBody s_L_cell_at) (defScope s_L_cell_at) .none kV7 dc7 pm7 an7 cd7 ct7), sl7⟩)
    (c7_ : PySem.W.codeIn K cd7 "_law_cell_at" = true)
    (k7 : PySem.W.keepIn K (.ref f7) = true)
    (a8 : PySem.W.nsIn K mainGlobals "_law_values" = some (some (.ref f8)))
    (l8 : K.lookup f8 = some ⟨oc8, od8, .func (PySem.W.fnOf "_law_values" "_law_values" (defArgs s_L_values) (defBody s_L_values) (defScope s_L_values) .none kV8 dc8 pm8 an8 cd8 ct8), sl8⟩)
    (c8_ : PySem.W.codeIn K cd8 "_law_values" = true)
    (k8 : PySem.W.keepIn K (.ref f8) = true)
    (a9 : PySem.W.nsIn K mainGlobals "_law_wish" = some (some (.ref f9)))
    (l9 : K.lookup f9 = some ⟨oc9, od9, .func (PySem.W.fnOf "_law_wish" "_law_wish" (defArgs s_L_wish) (defBody s_L_wish) (defScope s_L_wish) .none kV9 dc9 pm9 an9 cd9 ct9), sl9⟩)
    (c9_ : PySem.W.codeIn K cd9 "_law_wish" = true)
    (k9 : PySem.W.keepIn K (.ref f9) = true)
    (a10 : PySem.W.nsIn K mainGlobals "_law_wishes" = some (some (.ref f10)))
    (l10 : K.lookup f10 = some ⟨oc10, od10, .func (PySem.W.fnOf "_law_wishes" "_law_wishes" (defArgs s_L_wishes) (defBody s_L_wishes) (defScope s_L_wishes) .none kV10 dc10 pm10 an10 cd10 ct10), sl10⟩)
    (c10_ : PySem.W.codeIn K cd10 "_law_wishes" = true)
    (k10 : PySem.W.keepIn K (.ref f10) = true)
    (a11 : PySem.W.nsIn K mainGlobals "_law_so" = some (some (.ref f11)))
    (l11 : K.lookup f11 = some ⟨oc11, od11, .func (PySem.W.fnOf "_law_so" "_law_so" (defArgs s_L_so) (defBody s_L_so) (defScope s_L_so) .none kV11 dc11 pm11 an11 cd11 ct11), sl11⟩)
    (c11_ : PySem.W.codeIn K cd11 "_law_so" = true)
    (k11 : PySem.W.keepIn K (.ref f11) = true)
    (a12 : PySem.W.nsIn K mainGlobals "_law_rising" = some (some (.ref f12)))
    (l12 : K.lookup f12 = some ⟨oc12, od12, .func (PySem.W.fnOf "_law_rising" "_law_rising" (defArgs s_L_rising) (defBody s_L_rising) (defScope s_L_rising) .none kV12 dc12 pm12 an12 cd12 ct12), sl12⟩)
    (c12_ : PySem.W.codeIn K cd12 "_law_rising" = true)
    (k12 : PySem.W.keepIn K (.ref f12) = true)
    (a13 : PySem.W.nsIn K mainGlobals "_law_due" = some (some (.ref f13)))
    (l13 : K.lookup f13 = some ⟨oc13, od13, .func (PySem.W.fnOf "_law_due" "_law_due" (defArgs s_L_due) (defBody s_L_due) (defScope s_L_due) .none kV13 dc13 pm13 an13 cd13 ct13), sl13⟩)
    (c13_ : PySem.W.codeIn K cd13 "_law_due" = true)
    (k13 : PySem.W.keepIn K (.ref f13) = true)
    (a14 : PySem.W.nsIn K mainGlobals "_law_alike" = some (some (.ref f14)))
    (l14 : K.lookup f14 = some ⟨oc14, od14, .func (PySem.W.fnOf "_law_alike" "_law_alike" (defArgs s_L_alike) (defBody s_L_alike) (defScope s_L_alike) .none kV14 dc14 pm14 an14 cd14 ct14), sl14⟩)
    (c14_ : PySem.W.codeIn K cd14 "_law_alike" = true)
    (k14 : PySem.W.keepIn K (.ref f14) = true)
    (a15 : PySem.W.nsIn K mainGlobals "law" = some (some (.ref f15)))
    (l15 : K.lookup f15 = some ⟨oc15, od15, .func (PySem.W.fnOf "law" "law" (defArgs s_law) (defBody s_law) (defScope s_law) .none kV15 dc15 pm15 an15 cd15 ct15), sl15⟩)
    (c15_ : PySem.W.codeIn K cd15 "law" = true)
    (k15 : PySem.W.keepIn K (.ref f15) = true)
    (z_abs : PySem.W.nsIn K mainGlobals "abs" = some none)
    (z_len : PySem.W.nsIn K mainGlobals "len" = some none)
    (z_range : PySem.W.nsIn K mainGlobals "range" = some none)
    (z_max : PySem.W.nsIn K mainGlobals "max" = some none)
    (z_list : PySem.W.nsIn K mainGlobals "list" = some none)
    (z_isinstance : PySem.W.nsIn K mainGlobals "isinstance" = some none)
    (z_bool : PySem.W.nsIn K mainGlobals "bool" = some none)
    (z_all : PySem.W.nsIn K mainGlobals "all" = some none)
    (z_sorted : PySem.W.nsIn K mainGlobals "sorted" = some none)
    (z_tuple : PySem.W.nsIn K mainGlobals "tuple" = some none)
    (z_int : PySem.W.nsIn K mainGlobals "int" = some none)
    (nt : PySem.W.noTabs K = true)
    : LamX.LawAtS l w K CX0 7 63 "_law_script" mg fa h := by
  obtain rfl : f15 = fa := by
    have e := (PySem.W.mg_of X G a15).symm.trans hfa
    injection e with e
    injection e
  have F0 := fun_mk (st := s_is_set) l0 c0_ k0
  have b0 := F0.binds (ps := ["number", "setting"]) fun _ _ _ _ _ _ us hl => match us, hl with | [_, _], _ => rfl
  have F1 := fun_mk (st := s_is_so) l1 c1_ k1
  have b1 := F1.binds (ps := ["number", "setting"]) fun _ _ _ _ _ _ us hl => match us, hl with | [_, _], _ => rfl
  have F2 := fun_mk (st := s_first_so) l2 c2_ k2
  have b2 := F2.binds (ps := ["wish", "setting"]) fun _ _ _ _ _ _ us hl => match us, hl with | [_, _], _ => rfl
  have F3 := fun_mk (st := s_met) l3 c3_ k3
  have b3 := F3.binds (ps := ["wish", "setting"]) fun _ _ _ _ _ _ us hl => match us, hl with | [_, _], _ => rfl
  have F4 := fun_mk (st := s_lost) l4 c4_ k4
  have b4 := F4.binds (ps := ["wish", "setting"]) fun _ _ _ _ _ _ us hl => match us, hl with | [_, _], _ => rfl
  have F5 := fun_mk (st := s_by_lamp) l5 c5_ k5
  have b5 := F5.binds (ps := ["numbers"]) fun _ _ _ _ _ _ us hl => match us, hl with | [_], _ => rfl
  have F6 := fun_mk (st := s_ended) l6 c6_ k6
  have b6 := F6.binds (ps := ["wishes", "setting"]) fun _ _ _ _ _ _ us hl => match us, hl with | [_, _], _ => rfl
  have F7 := fun_mk (st := s_L_cell_at) l7 c7_ k7
  have b7 := F7.binds (ps := ["_law_script", "_law_k"]) fun _ _ _ _ _ _ us hl => match us, hl with | [_, _], _ => rfl
  have F8 := fun_mk (st := s_L_values) l8 c8_ k8
  have b8 := F8.binds (ps := ["_law_cell", "_law_many"]) fun _ _ _ _ _ _ us hl => match us, hl with | [_, _], _ => rfl
  have F9 := fun_mk (st := s_L_wish) l9 c9_ k9
  have b9 := F9.binds (ps := ["_law_cell", "_law_many"]) fun _ _ _ _ _ _ us hl => match us, hl with | [_, _], _ => rfl
  have F10 := fun_mk (st := s_L_wishes) l10 c10_ k10
  have b10 := F10.binds (ps := ["_law_script", "_law_many"]) fun _ _ _ _ _ _ us hl => match us, hl with | [_, _], _ => rfl
  have F11 := fun_mk (st := s_L_so) l11 c11_ k11
  have b11 := F11.binds (ps := ["_law_number", "_law_setting"]) fun _ _ _ _ _ _ us hl => match us, hl with | [_, _], _ => rfl
  have F12 := fun_mk (st := s_L_rising) l12 c12_ k12
  have b12 := F12.binds (ps := ["_law_numbers"]) fun _ _ _ _ _ _ us hl => match us, hl with | [_], _ => rfl
  have F13 := fun_mk (st := s_L_due) l13 c13_ k13
  have b13 := F13.binds (ps := ["_law_wishes_here", "_law_setting"]) fun _ _ _ _ _ _ us hl => match us, hl with | [_, _], _ => rfl
  have F14 := fun_mk (st := s_L_alike) l14 c14_ k14
  have b14 := F14.binds (ps := ["_law_found", "_law_due_here"]) fun _ _ _ _ _ _ us hl => match us, hl with | [_, _], _ => rfl
  have F15 := fun_mk (st := s_law) l15 c15_ k15
  have b15 := F15.binds (ps := ["_law_script"]) fun _ _ _ _ _ _ us hl => match us, hl with | [_], _ => rfl
  obtain ⟨C4, T4⟩ := tabs _ _ _ _ rc4 (tabIn_of a4 l4 rfl lc4 hv4)
  obtain ⟨C6, T6⟩ := tabs _ _ _ _ rc6 (tabIn_of a6 l6 rfl lc6 hv6)
  have T : Txt K mg (fun i => [f0, f1, f2, f3, f4, f5, f6, f7, f8, f9, f10, f11, f12, f13, f14, f15].getD i 0) (fun i => [PySem.W.fnOf "is_set" "is_set" (defArgs s_is_set) (defBody s_is_set) (defScope s_is_set) .none kV0 dc0 pm0 an0 cd0 ct0, PySem.W.fnOf "is_so" "is_so" (defArgs s_is_so) (defBody s_is_so) (defScope s_is_so) .none kV1 dc1 pm1 an1 cd1 ct1, PySem.W.fnOf "first_so" "first_so" (defArgs s_first_so) (defBody s_first_so) (defScope s_first_so) .none kV2 dc2 pm2 an2 cd2 ct2, PySem.W.fnOf "met" "met" (defArgs s_met) (defBody s_met) (defScope s_met) .none kV3 dc3 pm3 an3 cd3 ct3, PySem.W.fnOf "lost" "lost" (defArgs s_lost) (defBody s_lost) (defScope s_lost) .none kV4 dc4 pm4 an4 (.ref c4) ct4, PySem.W.fnOf "by_lamp" "by_lamp" (defArgs s_by_lamp) (defBody s_by_lamp) (defScope s_by_lamp) .none kV5 dc5 pm5 an5 cd5 ct5, PySem.W.fnOf "ended" "ended" (defArgs s_ended) (defBody s_ended) (defScope s_ended) .none kV6 dc6 pm6 an6 (.ref c6) ct6, PySem.W.fnOf "_law_cell_at" "_law_cell_at" (defArgs s_L_cell_at) (defBody s_L_cell_at) (defScope s_L_cell_at) .none kV7 dc7 pm7 an7 cd7 ct7, PySem.W.fnOf "_law_values" "_law_values" (defArgs s_L_values) (defBody s_L_values) (defScope s_L_values) .none kV8 dc8 pm8 an8 cd8 ct8, PySem.W.fnOf "_law_wish" "_law_wish" (defArgs s_L_wish) (defBody s_L_wish) (defScope s_L_wish) .none kV9 dc9 pm9 an9 cd9 ct9, PySem.W.fnOf "_law_wishes" "_law_wishes" (defArgs s_L_wishes) (defBody s_L_wishes) (defScope s_L_wishes) .none kV10 dc10 pm10 an10 cd10 ct10, PySem.W.fnOf "_law_so" "_law_so" (defArgs s_L_so) (defBody s_L_so) (defScope s_L_so) .none kV11 dc11 pm11 an11 cd11 ct11, PySem.W.fnOf "_law_rising" "_law_rising" (defArgs s_L_rising) (defBody s_L_rising) (defScope s_L_rising) .none kV12 dc12 pm12 an12 cd12 ct12, PySem.W.fnOf "_law_due" "_law_due" (defArgs s_L_due) (defBody s_L_due) (defScope s_L_due) .none kV13 dc13 pm13 an13 cd13 ct13, PySem.W.fnOf "_law_alike" "_law_alike" (defArgs s_L_alike) (defBody s_L_alike) (defScope s_L_alike) .none kV14 dc14 pm14 an14 cd14 ct14, PySem.W.fnOf "law" "law" (defArgs s_law) (defBody s_law) (defScope s_law) .none kV15 dc15 pm15 an15 cd15 ct15].getD i (PySem.W.fnOf "is_set" "is_set" (defArgs s_is_set) (defBody s_is_set) (defScope s_is_set) .none kV0 dc0 pm0 an0 cd0 ct0)) (fun i => [c4, c6].getD i 0) := {
    F_is_set := F0, g_is_set := PySem.W.mg_of X G a0, b_is_set := b0,
    F_is_so := F1, g_is_so := PySem.W.mg_of X G a1, b_is_so := b1,
    F_first_so := F2, g_first_so := PySem.W.mg_of X G a2, b_first_so := b2,
    F_met := F3, g_met := PySem.W.mg_of X G a3, b_met := b3,
    F_lost := F4, g_lost := PySem.W.mg_of X G a4, b_lost := b4,
    F_by_lamp := F5, g_by_lamp := PySem.W.mg_of X G a5, b_by_lamp := b5,
    F_ended := F6, g_ended := PySem.W.mg_of X G a6, b_ended := b6,
    F_L_cell_at := F7, g_L_cell_at := PySem.W.mg_of X G a7, b_L_cell_at := b7,
    F_L_values := F8, g_L_values := PySem.W.mg_of X G a8, b_L_values := b8,
    F_L_wish := F9, g_L_wish := PySem.W.mg_of X G a9, b_L_wish := b9,
    F_L_wishes := F10, g_L_wishes := PySem.W.mg_of X G a10, b_L_wishes := b10,
    F_L_so := F11, g_L_so := PySem.W.mg_of X G a11, b_L_so := b11,
    F_L_rising := F12, g_L_rising := PySem.W.mg_of X G a12, b_L_rising := b12,
    F_L_due := F13, g_L_due := PySem.W.mg_of X G a13, b_L_due := b13,
    F_L_alike := F14, g_L_alike := PySem.W.mg_of X G a14, b_L_alike := b14,
    F_law := F15, g_law := PySem.W.mg_of X G a15, b_law := b15,
    C_lost := func_mk l4 c4_,
    C_ended := func_mk l6 c6_,
    m_abs := PySem.W.mg_none_of X G z_abs, m_len := PySem.W.mg_none_of X G z_len, m_range := PySem.W.mg_none_of X G z_range, m_max := PySem.W.mg_none_of X G z_max, m_list := PySem.W.mg_none_of X G z_list, m_isinstance := PySem.W.mg_none_of X G z_isinstance, m_bool := PySem.W.mg_none_of X G z_bool, m_all := PySem.W.mg_none_of X G z_all, m_sorted := PySem.W.mg_none_of X G z_sorted, m_tuple := PySem.W.mg_none_of X G z_tuple, m_int := PySem.W.mg_none_of X G z_int }
  refine ⟨PySem.W.fnOf "law" "law" (defArgs s_law) (defBody s_law) (defScope s_law) .none kV15 dc15 pm15 an15 cd15 ct15, [(c4, P4), (c6, P6)], PrD K ([(c4, P4), (c6, P6)].map (·.2)) g_law, fun p hp => ?_, fun p hp => ?_, fun p hp => ?_, fun s v => .of_eq rfl, fun H a ns hl _ ht hs => law_sp hl ht hs, fun base _ _ tb => ?_⟩
  · simp only [List.mem_cons, List.not_mem_nil, or_false] at hp
    rcases hp with rfl | rfl
    · exact T4
    · exact T6
  · simp only [List.mem_cons, List.not_mem_nil, or_false] at hp
    rcases hp with rfl | rfl
    · exact noTab X nt T4
    · exact noTab X nt T6
  · simp only [List.mem_cons, List.not_mem_nil, or_false] at hp
    rcases hp with rfl | rfl
    · exact C4
    · exact C6
  · exact ok_law (P := l.prog) (p := fun i => [P4, P6].getD i 0) T (fun i hi => match i, hi with | 0, _ => tab_glob (tb (c4, P4) (by simp)) | 1, _ => tab_glob (tb (c6, P6) (by simp))) (fun i hi => match i, hi with | 0, _ => by simp | 1, _ => by simp)
end K02
open PySem PySem.W PyProof.Rows
set_option maxRecDepth 100000 in
set_option maxHeartbeats 0 in
theorem PySem.Challenge.cw_everywish_k02_what_is_ended_holds : PySem.Challenge.rw_everywish_k02_what_is_ended.Holds := by
  w_on; o_law; k_head; (case hw => w_witness2)
  k_fill
  refine DL.walk_dl (l := PySem.Challenge.rw_everywish_k02_what_is_ended) (n := 63) (k := 7) (x := "_law_script") (CX := fun _ => L2.CX0) rfl (by decide) rfl ⟨rfl, by decide, by decide⟩ (fun w h Y => PySem.W.kIn_of Y) ?F (fun _ _ _ _ _ h => h)
  case F =>
    intro w mg fa h KX G hmg tabs
    refine' K02.all_mk KX G hmg tabs  ?a0 ?l0 ?c0_ ?k0 ?a1 ?l1 ?c1_ ?k1 ?a2 ?l2 ?c2_ ?k2 ?a3 ?l3 ?c3_ ?k3 ?a4 ?l4 ?c4_ ?k4 ?lc4 ?hv4 ?rc4 ?a5 ?l5 ?c5_ ?k5 ?a6 ?l6 ?c6_ ?k6 ?lc6 ?hv6 ?rc6 ?a7 ?l7 ?c7_ ?k7 ?a8 ?l8 ?c8_ ?k8 ?a9 ?l9 ?c9_ ?k9 ?a10 ?l10 ?c10_ ?k10 ?a11 ?l11 ?c11_ ?k11 ?a12 ?l12 ?c12_ ?k12 ?a13 ?l13 ?c13_ ?k13 ?a14 ?l14 ?c14_ ?k14 ?a15 ?l15 ?c15_ ?k15 ?z_abs ?z_len ?z_range ?z_max ?z_list ?z_isinstance ?z_bool ?z_all ?z_sorted ?z_tuple ?z_int ?nt
    (case a0 => k_is); (case l0 => k_is); (case c0_ => k_is); (case k0 => k_is); (case a1 => k_is); (case l1 => k_is); (case c1_ => k_is); (case k1 => k_is); (case a2 => k_is); (case l2 => k_is); (case c2_ => k_is); (case k2 => k_is); (case a3 => k_is); (case l3 => k_is); (case c3_ => k_is); (case k3 => k_is); (case a4 => k_is); (case l4 => k_is); (case c4_ => k_is); (case k4 => k_is); (case lc4 => k_is); (case hv4 => rfl); (case rc4 => rfl); (case a5 => k_is); (case l5 => k_is); (case c5_ => k_is); (case k5 => k_is); (case a6 => k_is); (case l6 => k_is); (case c6_ => k_is); (case k6 => k_is); (case lc6 => k_is); (case hv6 => rfl); (case rc6 => rfl); (case a7 => k_is); (case l7 => k_is); (case c7_ => k_is); (case k7 => k_is); (case a8 => k_is); (case l8 => k_is); (case c8_ => k_is); (case k8 => k_is); (case a9 => k_is); (case l9 => k_is); (case c9_ => k_is); (case k9 => k_is); (case a10 => k_is); (case l10 => k_is); (case c10_ => k_is); (case k10 => k_is); (case a11 => k_is); (case l11 => k_is); (case c11_ => k_is); (case k11 => k_is); (case a12 => k_is); (case l12 => k_is); (case c12_ => k_is); (case k12 => k_is); (case a13 => k_is); (case l13 => k_is); (case c13_ => k_is); (case k13 => k_is); (case a14 => k_is); (case l14 => k_is); (case c14_ => k_is); (case k14 => k_is); (case a15 => k_is); (case l15 => k_is); (case c15_ => k_is); (case k15 => k_is); (case z_abs => k_is); (case z_len => k_is); (case z_range => k_is); (case z_max => k_is); (case z_list => k_is); (case z_isinstance => k_is); (case z_bool => k_is); (case z_all => k_is); (case z_sorted => k_is); (case z_tuple => k_is); (case z_int => k_is); (case nt => kernel_rfl)
