import PyProof.Rows.All
import Wide.All
import OpenK.AllK
import Wide.FinOn
import HandS.Base
import HandS.Call
import HandS.List
import HandS.Comp
import HandS.Ends
import HandS.Evl
import HandS.Iter
import HandS.Text
import HandS.AnyAll
import HandS.Words
import HandS.WordsList
import HandS.Walk
import HandS.IsInst
import HandS.Rev
import HandS.GenList
import HandS.EndTab
import HandS.HeadWalk
import KE.KNest
import HandS.RevTup
import HandS.DictComp
import HandS.More
import HandS.Exc
import HandS.ExcOwn
import HandS.WordsExc
import HandS.ExcIs
import HandS.RaiseMore
import HandS.FStr
import HandS.Zip
import PySem.Challenge.RW_everywish_k04_a_rule_played
set_option Elab.async false
set_option linter.all false
set_option maxRecDepth 100000
set_option maxHeartbeats 2000000
/-! Data in place of heaps: what a def does, told of plain data. -/
namespace DL
open PySem PySem.Spec L2
open Evl (Ex)
abbrev D := PyData

/-! ### data stands in a heap -/
theorem ex_rd {H H' : Hp} {a : Addr} {u : HO} (e : Ex H H') (h : Rd H a u) : Rd H' a u := Evl.ex_rd e h
mutual
theorem dp_mono {K : PySem.W.Frag} {H H' : Hp} (e : Ex H H') : ∀ (d : D) (v : V), Dp K H v d → Dp K H' v d
  | .none, _, h => by cases h; exact .non
  | .bool b, _, h => by cases h; exact .bl b
  | .int i, _, h => by cases h; exact .int i
  | .str x, _, h => by cases h; exact .str x
  | .list ds, _, h => by
    cases h with
    | lst hs ha => exact .lst (Evl.ex_l e hs) (dps_mono e ds _ ha)
  | .tuple ds, _, h => by
    cases h with
    | tup hs ha => exact .tup (Evl.ex_t e hs) (dps_mono e ds _ ha)
  | .dict _, _, h => by cases h
theorem dps_mono {K : PySem.W.Frag} {H H' : Hp} (e : Ex H H') : ∀ (ds : List D) (vs : List V), DpAll K H vs ds → DpAll K H' vs ds
  | [], _, h => by cases h; exact .nil
  | d :: ds, _, h => by
    cases h with
    | cons h1 h2 => exact .cons (dp_mono e d _ h1) (dps_mono e ds _ h2)
end
section
variable {K : PySem.W.Frag} {H H' F F' : Hp} {v x y : V} {vs ws : List V} {d : D} {ds es : List D}
theorem dps_len : ∀ {vs : List V} {ds : List D}, DpAll K H vs ds → vs.length = ds.length
  | _, _, .nil => rfl
  | _, _, .cons _ t => by rw [List.length_cons, List.length_cons, dps_len t]
theorem dps_get : ∀ {vs : List V} {ds : List D} {i : Nat} {d : D}, DpAll K H vs ds → ds[i]? = some d → ∃ v, vs[i]? = some v ∧ Dp K H v d
  | _, _, _, _, .nil, e => by simp at e
  | _, _, 0, _, .cons h _, e => by simp at e; subst e; exact ⟨_, rfl, h⟩
  | _, _, i + 1, _, .cons _ t, e => by
    obtain ⟨v, h1, h2⟩ := dps_get (i := i) t (by simpa using e)
    exact ⟨v, by simpa using h1, h2⟩
theorem dps_getV : ∀ {vs : List V} {ds : List D} {i : Nat} {v : V}, DpAll K H vs ds → vs[i]? = some v → ∃ d, ds[i]? = some d ∧ Dp K H v d
  | _, _, _, _, .nil, e => by simp at e
  | _, _, 0, _, .cons h _, e => by simp at e; subst e; exact ⟨_, rfl, h⟩
  | _, _, i + 1, _, .cons _ t, e => by
    obtain ⟨d, h1, h2⟩ := dps_getV (i := i) t (by simpa using e)
    exact ⟨d, by simpa using h1, h2⟩
theorem dps_app : ∀ {vs ws : List V} {ds es : List D}, DpAll K H vs ds → DpAll K H ws es → DpAll K H (vs ++ ws) (ds ++ es)
  | _, _, _, _, .nil, s => s
  | _, _, _, _, .cons r t, s => .cons r (dps_app t s)
theorem dps_take : ∀ {vs : List V} {ds : List D} (n : Nat), DpAll K H vs ds → DpAll K H (vs.take n) (ds.take n)
  | _, _, 0, _ => .nil
  | _, _, _ + 1, .nil => .nil
  | _, _, n + 1, .cons r t => .cons r (dps_take n t)
theorem dps_drop : ∀ {vs : List V} {ds : List D} (n : Nat), DpAll K H vs ds → DpAll K H (vs.drop n) (ds.drop n)
  | _, _, 0, r => r
  | _, _, _ + 1, .nil => .nil
  | _, _, n + 1, .cons _ t => dps_drop n t
theorem dps_ints : ∀ {vs : List V} {ns : List Int}, DpAll K H vs (ns.map PyData.int) → vs = ns.map V.int
  | _, [], h => by cases h; rfl
  | _, n :: ns, h => by
    cases h with
    | cons h1 h2 => cases h1; rw [dps_ints h2]; rfl
theorem ints_dps : ∀ (ns : List Int), DpAll K H (ns.map V.int) (ns.map PyData.int)
  | [] => .nil
  | n :: ns => .cons (.int n) (ints_dps ns)
theorem dps_bools : ∀ {vs : List V} {ns : List Bool}, DpAll K H vs (ns.map PyData.bool) → vs = ns.map V.bl
  | _, [], h => by cases h; rfl
  | _, n :: ns, h => by
    cases h with
    | cons h1 h2 => cases h1; rw [dps_bools h2]; rfl
end

/-! ### the frozen part F of a heap H; T: the tables of code objects, which grow -/
structure Wk (T : List Addr) (F H : Hp) : Prop where
  sub : Ex F H
  tab : ∀ P ∈ T, GxR.TabG H P ∧ F P = none
structure Nx (T : List Addr) (F H F' H' : Hp) : Prop where
  exF : Ex F F'
  exH : ∀ a o, H a = some o → a ∉ T → H' a = some o
  own : ∀ a o, H a = some o → F a = none → F' a = none
section
variable {T : List Addr} {F H F' H' F2 H2 : Hp} {p : Addr} {o : HO}
theorem Nx.refl (T : List Addr) (F H : Hp) : Nx T F H F H := ⟨Ex.refl F, fun _ _ h _ => h, fun _ _ _ n => n⟩
theorem Wk.has (w : Wk T F H) {P : Addr} (h : P ∈ T) : ∃ ps, H P = some (.tbl ps) := let ⟨ps, e, _⟩ := (w.tab P h).1; ⟨ps, e⟩
theorem Nx.trans (w : Wk T F' H') (a : Nx T F H F' H') (b : Nx T F' H' F2 H2) : Nx T F H F2 H2 :=
  ⟨a.exF.trans b.exF, fun c u e n => b.exH c u (a.exH c u e n) n, fun c u e n => by
    have n1 := a.own c u e n
    by_cases hc : c ∈ T
    · obtain ⟨ps, e1⟩ := w.has hc
      exact b.own c _ e1 n1
    · exact b.own c u (a.exH c u e hc) n1⟩
theorem Wk.notT (w : Wk T F H) (hp : H p = none) : p ∉ T := fun h => by
  obtain ⟨ps, e⟩ := w.has h
  rw [hp] at e
  cases e
theorem Wk.noF (w : Wk T F H) (hp : H p = none) : F p = none := Evl.fresh_back w.sub hp
theorem Wk.new (w : Wk T F H) (hp : H p = none) : Wk T (upd F p o) (upd H p o) where
  sub := fun a u e => by
    by_cases ha : a = p
    · subst ha
      rw [upd_same] at e ⊢
      exact e
    · rw [upd_ne ha] at e ⊢
      exact w.sub a u e
  tab := fun P h => by
    have hP : P ≠ p := fun z => w.notT hp (z ▸ h)
    obtain ⟨⟨ps, e, t⟩, n⟩ := w.tab P h
    exact ⟨⟨ps, (upd_ne hP).trans e, t⟩, (upd_ne hP).trans n⟩
theorem Nx.new (w : Wk T F H) (hp : H p = none) : Nx T F H (upd F p o) (upd H p o) where
  exF := Ex.new (w.noF hp)
  exH := fun a u e _ => Ex.new hp a u e
  own := fun a u e n => by rw [upd_ne (ne_of_none e hp)]; exact n
/-- a new object that stays ours -/
theorem Wk.mine (w : Wk T F H) (hp : H p = none) : Wk T F (upd H p o) where
  sub := fun a u e => by rw [upd_ne (ne_of_none (w.sub a u e) hp)]; exact w.sub a u e
  tab := fun P h => by
    have hP : P ≠ p := fun z => w.notT hp (z ▸ h)
    obtain ⟨⟨ps, e, t⟩, n⟩ := w.tab P h
    exact ⟨⟨ps, (upd_ne hP).trans e, t⟩, n⟩
theorem Wk.write (w : Wk T F H) (hF : F p = none) (hT : p ∉ T) : Wk T F (upd H p o) where
  sub := fun a u e => by rw [upd_ne (ne_of_none e hF)]; exact w.sub a u e
  tab := fun P h => by
    have hP : P ≠ p := fun z => hT (z ▸ h)
    obtain ⟨⟨ps, e, t⟩, n⟩ := w.tab P h
    exact ⟨⟨ps, (upd_ne hP).trans e, t⟩, n⟩
theorem Wk.freeze (w : Wk T F H) (hT : p ∉ T) (e : H p = some o) : Wk T (upd F p o) H where
  sub := fun a u h => by
    by_cases ha : a = p
    · subst ha
      rw [upd_same] at h
      exact e.trans h
    · rw [upd_ne ha] at h
      exact w.sub a u h
  tab := fun P h => by
    have hP : P ≠ p := fun z => hT (z ▸ h)
    obtain ⟨t, n⟩ := w.tab P h
    exact ⟨t, (upd_ne hP).trans n⟩
end

/-! ### slots -/
inductive Sl where
  | no
  | dat (d : D)
  /-- a list of the def's own that it goes on filling -/
  | own (xs : List D)
  /-- the same, its address told: a list that callers and callees fill too -/
  | held (a : Addr) (xs : List D)
  /-- a list that the def has made and no one changes any more -/
  | lst (xs : List D)
  /-- an object that no one changes any more -/
  | obj (o : HO)
  /-- just this value -/
  | val (v : V)
def Sl.owned : Sl → Bool
  | .own _ => true
  | .held _ _ => true
  | _ => false
def MutOk (K : PySem.W.Frag) (T : List Addr) (H0 F H : Hp) (x : Option (Option V)) (a : Addr) (xs : List D) : Prop := ∃ vs, x = some (some (.ref a)) ∧ F a = none ∧ H0 a = none ∧ a ∉ T ∧ H a = some (.lst vs) ∧ DpAll K F vs xs
def SlOk (K : PySem.W.Frag) (T : List Addr) (H0 F H : Hp) (x : Option (Option V)) : Sl → Prop
  | .no => True
  | .dat d => ∃ v, x = some (some v) ∧ Dp K F v d
  | .own xs => ∃ a, MutOk K T H0 F H x a xs
  | .held a xs => MutOk K T H0 F H x a xs
  | .lst xs => ∃ a vs, x = some (some (.ref a)) ∧ F a = some (.lst vs) ∧ DpAll K F vs xs
  | .obj o => ∃ a, x = some (some (.ref a)) ∧ F a = some o
  | .val v => x = some (some v)
def IsOwn (env : List Sl) (i : Nat) : Prop := ∃ s, env[i]? = some s ∧ s.owned = true
structure Ok (K : PySem.W.Frag) (T : List Addr) (F0 H0 F H : Hp) (σ : L2.St) (env : List Sl) : Prop where
  wk : Wk T F H
  nx : Nx T F0 H0 F H
  len : σ.length = env.length
  sl : ∀ (i : Nat) (s : Sl), env[i]? = some s → SlOk K T H0 F H σ[i]? s
  apart : ∀ (i j : Nat) (a : Addr), i ≠ j → IsOwn env i → IsOwn env j → σ[i]? = some (some (.ref a)) → σ[j]? = some (some (.ref a)) → False
section
variable {K : PySem.W.Frag} {T : List Addr} {F0 H0 F H F' H' : Hp} {σ : L2.St} {env : List Sl} {i : Nat} {d : D} {v : V}
theorem MutOk.step {x : Option (Option V)} {a : Addr} {xs : List D} (w : Wk T F H) (n : Nx T F H F' H') (h : MutOk K T H0 F H x a xs) : MutOk K T H0 F' H' x a xs := by
  obtain ⟨vs, e, f, h0, t, ha, hd⟩ := h
  exact ⟨vs, e, n.own a _ ha f, h0, t, n.exH a _ ha t, dps_mono n.exF _ _ hd⟩
theorem SlOk.mutOk {x : Option (Option V)} {s : Sl} (h : SlOk K T H0 F H x s) (ho : s.owned = true) : ∃ a xs, MutOk K T H0 F H x a xs := by
  cases s with
  | own xs => exact let ⟨a, q⟩ := h; ⟨a, xs, q⟩
  | held a xs => exact ⟨a, xs, h⟩
  | _ => cases ho
theorem SlOk.step {x : Option (Option V)} {s : Sl} (w : Wk T F H) (n : Nx T F H F' H') (h : SlOk K T H0 F H x s) : SlOk K T H0 F' H' x s := by
  cases s with
  | no => trivial
  | dat d =>
    obtain ⟨v, e, h⟩ := h
    exact ⟨v, e, dp_mono n.exF _ _ h⟩
  | own xs =>
    obtain ⟨a, h⟩ := h
    exact ⟨a, h.step w n⟩
  | held a xs => exact MutOk.step w n h
  | lst xs =>
    obtain ⟨a, vs, e, ha, hd⟩ := h
    exact ⟨a, vs, e, n.exF a _ ha, dps_mono n.exF _ _ hd⟩
  | obj u =>
    obtain ⟨a, e, ha⟩ := h
    exact ⟨a, e, n.exF a _ ha⟩
  | val v => exact h
theorem Ok.step (o : Ok K T F0 H0 F H σ env) (w : Wk T F' H') (n : Nx T F H F' H') : Ok K T F0 H0 F' H' σ env :=
  ⟨w, o.nx.trans o.wk n, o.len, fun i s e => (o.sl i s e).step o.wk n, o.apart⟩
theorem get_set {α : Type} {l : List α} {i j : Nat} {x y : α} (h : (l.set i x)[j]? = some y) : (i = j ∧ i < l.length ∧ x = y) ∨ (i ≠ j ∧ l[j]? = some y) := by
  by_cases e : i = j
  · subst e
    by_cases hl : i < l.length
    · rw [List.getElem?_set_self hl] at h
      exact .inl ⟨rfl, hl, Option.some.inj h⟩
    · rw [List.getElem?_eq_none (by simpa using hl)] at h
      cases h
  · rw [List.getElem?_set_ne e] at h
    exact .inr ⟨e, h⟩
/-- a slot is set to what is not ours to fill -/
theorem Ok.put' {x : Sl} {y : Option V} (o : Ok K T F0 H0 F H σ env) (hx : x.owned = false) (h : SlOk K T H0 F H (some y) x) : Ok K T F0 H0 F H (σ.set i y) (env.set i x) := by
  refine ⟨o.wk, o.nx, by simp [o.len], fun j s e => ?_, fun j k a hjk hj hk e1 e2 => ?_⟩
  · rcases get_set e with ⟨rfl, hl, rfl⟩ | ⟨hne, e⟩
    · rw [List.getElem?_set_self (by rw [o.len]; exact hl)]
      exact h
    · rw [List.getElem?_set_ne hne]
      exact o.sl j s e
  · obtain ⟨s1, hj, q1⟩ := hj
    obtain ⟨s2, hk, q2⟩ := hk
    rcases get_set hj with ⟨_, _, z⟩ | ⟨n1, hj⟩
    · rw [← z, hx] at q1; cases q1
    rcases get_set hk with ⟨_, _, z⟩ | ⟨n2, hk⟩
    · rw [← z, hx] at q2; cases q2
    rw [List.getElem?_set_ne n1] at e1
    rw [List.getElem?_set_ne n2] at e2
    exact o.apart j k a hjk ⟨s1, hj, q1⟩ ⟨s2, hk, q2⟩ e1 e2
theorem Ok.put {x : Sl} (o : Ok K T F0 H0 F H σ env) (hx : x.owned = false) (h : SlOk K T H0 F H (some (some v)) x) : Ok K T F0 H0 F H (σ.set i (some v)) (env.set i x) := o.put' hx h
/-- a slot is set to data -/
theorem Ok.set (o : Ok K T F0 H0 F H σ env) (h : Dp K F v d) : Ok K T F0 H0 F H (σ.set i (some v)) (env.set i (.dat d)) := o.put rfl ⟨v, rfl, h⟩
/-- a slot is forgotten -/
theorem Ok.wipe (o : Ok K T F0 H0 F H σ env) (y : Option V) : Ok K T F0 H0 F H (σ.set i y) (env.set i .no) := o.put' rfl trivial
/-- a new list that stays ours comes into a slot -/
theorem Ok.mine {p : Addr} (o : Ok K T F0 H0 F H σ env) (hp : H p = none) : Ok K T F0 H0 F (upd H p (.lst [])) (σ.set i (some (.ref p))) (env.set i (.own [])) := by
  have h0 : H0 p = none := by
    cases q : H0 p with
    | none => rfl
    | some u =>
      rw [o.nx.exH p u q (o.wk.notT hp)] at hp
      cases hp
  have alt : ∀ (j : Nat), IsOwn env j → σ[j]? ≠ some (some (V.ref p)) := fun j ⟨s, e, q⟩ z => by
    obtain ⟨a, xs, vs, e1, _, _, _, ha, _⟩ := (o.sl j _ e).mutOk q
    rw [z] at e1
    cases e1
    rw [hp] at ha
    cases ha
  have keep : ∀ {x : Option (Option V)} {a : Addr} {xs : List D}, MutOk K T H0 F H x a xs → MutOk K T H0 F (upd H p (.lst [])) x a xs := fun ⟨vs, e1, f, h1, t, ha, hd⟩ => ⟨vs, e1, f, h1, t, by rw [upd_ne (ne_of_none ha hp)]; exact ha, hd⟩
  refine ⟨o.wk.mine hp, ⟨o.nx.exF, fun a u e n => ?_, o.nx.own⟩, by simp [o.len], fun j s e => ?_, fun j k a hjk hj hk e1 e2 => ?_⟩
  · have q := o.nx.exH a u e n
    rw [upd_ne (ne_of_none q hp)]
    exact q
  · rcases get_set e with ⟨rfl, hl, rfl⟩ | ⟨hne, e⟩
    · exact ⟨p, [], by rw [List.getElem?_set_self (by rw [o.len]; exact hl)], o.wk.noF hp, h0, o.wk.notT hp, upd_same, .nil⟩
    · rw [List.getElem?_set_ne hne]
      have q := o.sl j s e
      cases s with
      | no => trivial
      | dat d => exact q
      | lst ys => exact q
      | obj u => exact q
      | val v => exact q
      | own xs => exact let ⟨a, q⟩ := q; ⟨a, keep q⟩
      | held a xs => exact keep q
  · obtain ⟨s1, hj, q1⟩ := hj
    obtain ⟨s2, hk, q2⟩ := hk
    rcases get_set hj with ⟨rfl, hl, _⟩ | ⟨n1, hj⟩
    · rcases get_set hk with ⟨rfl, _, _⟩ | ⟨n2, hk⟩
      · exact hjk rfl
      · rw [List.getElem?_set_self (by rw [o.len]; exact hl)] at e1
        cases e1
        rw [List.getElem?_set_ne n2] at e2
        exact alt k ⟨s2, hk, q2⟩ e2
    · rw [List.getElem?_set_ne n1] at e1
      rcases get_set hk with ⟨rfl, hl, _⟩ | ⟨n2, hk⟩
      · rw [List.getElem?_set_self (by rw [o.len]; exact hl)] at e2
        cases e2
        exact alt j ⟨s1, hj, q1⟩ e1
      · rw [List.getElem?_set_ne n2] at e2
        exact o.apart j k a hjk ⟨s1, hj, q1⟩ ⟨s2, hk, q2⟩ e1 e2
/-- the lists of ours in other slots stand elsewhere -/
theorem Ok.other {j : Nat} {a b : Addr} {s s' : Sl} {xs : List D} (o : Ok K T F0 H0 F H σ env) (hij : i ≠ j) (hi : env[i]? = some s) (hs : s.owned = true) (hj : env[j]? = some s') (hs' : s'.owned = true) (ha : σ[i]? = some (some (.ref a))) (h : MutOk K T H0 F H σ[j]? b xs) : b ≠ a := fun z => by
  obtain ⟨vs, e, _⟩ := h
  exact o.apart i j a hij ⟨s, hi, hs⟩ ⟨s', hj, hs'⟩ ha (by rw [e, z])
/-- our list in a slot is changed; s' tells it anew -/
theorem Ok.write' {a : Addr} {s s' : Sl} {ws : List V} (o : Ok K T F0 H0 F H σ env) (hi : env[i]? = some s) (hso : s.owned = true) (hs : σ[i]? = some (some (.ref a))) (ho' : s'.owned = true) (h : SlOk K T H0 F (upd H a (.lst ws)) (some (some (.ref a))) s') : Ok K T F0 H0 F (upd H a (.lst ws)) σ (env.set i s') := by
  obtain ⟨b, xs, vs, e1, f, h0, t, ha, hd⟩ := (o.sl i _ hi).mutOk hso
  rw [hs] at e1
  cases e1
  have keep : ∀ {j : Nat} {s2 : Sl} {c : Addr} {ys : List D}, i ≠ j → env[j]? = some s2 → s2.owned = true → MutOk K T H0 F H σ[j]? c ys → MutOk K T H0 F (upd H a (.lst ws)) σ[j]? c ys := fun hne e q m => by
    have ne := o.other hne hi hso e q hs m
    obtain ⟨us, e1, f1, h1, t1, hc, hd1⟩ := m
    exact ⟨us, e1, f1, h1, t1, by rw [upd_ne ne]; exact hc, hd1⟩
  refine ⟨o.wk.write f t, ⟨o.nx.exF, fun c u e n => ?_, o.nx.own⟩, by simp [o.len], fun j s2 e => ?_, fun j k c hjk hj hk e1 e2 => ?_⟩
  · rw [upd_ne (ne_of_none e h0)]
    exact o.nx.exH c u e n
  · rcases get_set e with ⟨rfl, hl, rfl⟩ | ⟨hne, e⟩
    · rw [hs]
      exact h
    · have q := o.sl j s2 e
      cases s2 with
      | no => trivial
      | dat d => exact q
      | lst ys => exact q
      | obj u => exact q
      | val v => exact q
      | own zs => exact let ⟨c, q⟩ := q; ⟨c, keep hne e rfl q⟩
      | held c zs => exact keep hne e rfl q
  · have own : ∀ j, IsOwn (env.set i s') j → IsOwn env j := fun j ⟨s3, hz, q3⟩ => by
      rcases get_set hz with ⟨rfl, _, _⟩ | ⟨_, hz⟩
      · exact ⟨s, hi, hso⟩
      · exact ⟨s3, hz, q3⟩
    exact o.apart j k c hjk (own j hj) (own k hk) e1 e2
theorem Ok.write {a : Addr} {xs ys : List D} {ws : List V} (o : Ok K T F0 H0 F H σ env) (hi : env[i]? = some (.own xs)) (hs : σ[i]? = some (some (.ref a))) (h : DpAll K F ws ys) : Ok K T F0 H0 F (upd H a (.lst ws)) σ (env.set i (.own ys)) := by
  obtain ⟨b, vs, e1, f, h0, t, ha, hd⟩ := o.sl i _ hi
  rw [hs] at e1
  cases e1
  exact o.write' hi rfl hs rfl ⟨a, ws, rfl, f, h0, t, upd_same, h⟩
/-- a slot's list is told otherwise -/
theorem Ok.retell {s s' : Sl} (o : Ok K T F0 H0 F H σ env) (hi : env[i]? = some s) (hs : s.owned = true) (h : SlOk K T H0 F H σ[i]? s') : Ok K T F0 H0 F H σ (env.set i s') := by
  refine ⟨o.wk, o.nx, by simp [o.len], fun j s2 e => ?_, fun j k c hjk hj hk e1 e2 => ?_⟩
  · rcases get_set e with ⟨rfl, hl, rfl⟩ | ⟨hne, e⟩
    · exact h
    · exact o.sl j s2 e
  · have own : ∀ j, IsOwn (env.set i s') j → IsOwn env j := fun j ⟨s3, hz, q3⟩ => by
      rcases get_set hz with ⟨rfl, _, _⟩ | ⟨_, hz⟩
      · exact ⟨s, hi, hs⟩
      · exact ⟨s3, hz, q3⟩
    exact o.apart j k c hjk (own j hj) (own k hk) e1 e2
/-- our list becomes plain data -/
theorem Ok.freeze {xs : List D} (o : Ok K T F0 H0 F H σ env) (hi : env[i]? = some (.own xs)) : ∃ F', Ex F F' ∧ Ok K T F0 H0 F' H σ (env.set i (.dat (.list xs))) := by
  obtain ⟨a, vs, e1, f, h0, t, ha, hd⟩ := o.sl i _ hi
  have ex : Ex F (upd F a (.lst vs)) := Ex.new f
  have keep : ∀ {j : Nat} {s2 : Sl} {c : Addr} {ys : List D}, i ≠ j → env[j]? = some s2 → s2.owned = true → MutOk K T H0 F H σ[j]? c ys → MutOk K T H0 (upd F a (.lst vs)) H σ[j]? c ys := fun hne e q m => by
    have ne := o.other hne hi rfl e q e1 m
    obtain ⟨us, e2, f1, h1, t1, hc, hd1⟩ := m
    exact ⟨us, e2, (upd_ne ne).trans f1, h1, t1, hc, dps_mono ex _ _ hd1⟩
  refine ⟨upd F a (.lst vs), ex, o.wk.freeze t ha, ⟨o.nx.exF.trans ex, o.nx.exH, fun c u e n => ?_⟩, by simp [o.len], fun j s e => ?_, fun j k c hjk hj hk e1 e2 => ?_⟩
  · rw [upd_ne (ne_of_none e h0)]
    exact o.nx.own c u e n
  · rcases get_set e with ⟨rfl, hl, rfl⟩ | ⟨hne, e⟩
    · exact ⟨.ref a, e1, .lst (.inl (.inl upd_same)) (dps_mono ex _ _ hd)⟩
    · have q := o.sl j s e
      cases s with
      | no => trivial
      | dat d =>
        obtain ⟨v, e2, h⟩ := q
        exact ⟨v, e2, dp_mono ex _ _ h⟩
      | lst ys =>
        obtain ⟨c, us, e2, h2, h3⟩ := q
        exact ⟨c, us, e2, ex c _ h2, dps_mono ex _ _ h3⟩
      | obj u =>
        obtain ⟨c, e2, h2⟩ := q
        exact ⟨c, e2, ex c _ h2⟩
      | val v => exact q
      | own zs => exact let ⟨c, q⟩ := q; ⟨c, keep hne e rfl q⟩
      | held c zs => exact keep hne e rfl q
  · have own : ∀ j, IsOwn (env.set i (.dat (.list xs))) j → IsOwn env j := fun j ⟨s3, hz, q3⟩ => by
      rcases get_set hz with ⟨_, _, z⟩ | ⟨_, hz⟩
      · rw [← z] at q3; cases q3
      · exact ⟨s3, hz, q3⟩
    exact o.apart j k c hjk (own j hj) (own k hk) e1 e2
end

/-! ### what an expression gives -/
section
variable (K : PySem.W.Frag) (T : List Addr)
def EvD (te : TE) (env : List Sl) (d : D) : Prop := ∀ F0 H0 F H σ, Ok K T F0 H0 F H σ env → ∀ Q : VK, (∀ v F' H', Wk T F' H' → Nx T F H F' H' → Dp K F' v d → Q v H') → te σ H Q
def EvT (tt : TT) (env : List Sl) (b : Bool) : Prop := ∀ F0 H0 F H σ, Ok K T F0 H0 F H σ env → ∀ Q : Bool → Hp → Prop, (∀ F' H', Wk T F' H' → Nx T F H F' H' → Q b H') → tt σ H Q
def EvA (ta : TA) (env : List Sl) (ds : List D) : Prop := ∀ F0 H0 F H σ, Ok K T F0 H0 F H σ env → ∀ Q : List V → Hp → Prop, (∀ vs F' H', Wk T F' H' → Nx T F H F' H' → DpAll K F' vs ds → Q vs H') → ta σ H Q
def EvO (to : TO) (env : List Sl) (o : Option Int) : Prop := ∀ F0 H0 F H σ, Ok K T F0 H0 F H σ env → ∀ Q : Option Int → Hp → Prop, (∀ F' H', Wk T F' H' → Nx T F H F' H' → Q o H') → to σ H Q
def ROp (r : R2) (x y z : D) : Prop := ∀ F H a b, Wk T F H → Dp K F a x → Dp K F b y → ∀ Q : VK, (∀ v F' H', Wk T F' H' → Nx T F H F' H' → Dp K F' v z → Q v H') → r a b H Q
def RUn (r : V → Hp → VK → Prop) (x z : D) : Prop := ∀ F H a, Wk T F H → Dp K F a x → ∀ Q : VK, (∀ v F' H', Wk T F' H' → Nx T F H F' H' → Dp K F' v z → Q v H') → r a H Q
def RCa (r : List V → Hp → VK → Prop) (xs : List D) (z : D) : Prop := ∀ F H vs, Wk T F H → DpAll K F vs xs → ∀ Q : VK, (∀ v F' H', Wk T F' H' → Nx T F H F' H' → Dp K F' v z → Q v H') → r vs H Q
/-- a def's promise -/
def PrD (G : List D → D → Prop) : Sp := fun vs H Q _ => ∃ F ds d, Wk T F H ∧ DpAll K F vs ds ∧ G ds d ∧ ∀ v F' H', Wk T F' H' → Nx T F H F' H' → Dp K F' v d → Q v H'
end
section
variable {K : PySem.W.Frag} {T : List Addr} {env : List Sl} {ta tb tc te : TE} {t u : TT} {x y z d : D} {r r' : R2} {i : Nat}
theorem d_var (h : env[i]? = some (.dat d)) : EvD K T (tVar i) env d := fun F0 H0 F H σ o Q q => by
  obtain ⟨v, e, hd⟩ := o.sl i _ h
  exact ⟨v, e, q v F H o.wk (Nx.refl T F H) hd⟩
theorem d_int {n : Int} : EvD K T (tC (.int n)) env (.int n) := fun F0 H0 F H σ o Q q => q _ F H o.wk (Nx.refl T F H) (.int n)
theorem d_bl {b : Bool} : EvD K T (tC (.bl b)) env (.bool b) := fun F0 H0 F H σ o Q q => q _ F H o.wk (Nx.refl T F H) (.bl b)
theorem d_non : EvD K T (tC .non) env .none := fun F0 H0 F H σ o Q q => q _ F H o.wk (Nx.refl T F H) .non
theorem d_str {s : Str} : EvD K T (tC (.str s)) env (.str s) := fun F0 H0 F H σ o Q q => q _ F H o.wk (Nx.refl T F H) (.str s)
theorem d_op (ha : EvD K T ta env x) (hb : EvD K T tb env y) (hr : ROp K T r x y z) : EvD K T (tOp r ta tb) env z := fun F0 H0 F H σ o Q q =>
  ha F0 H0 F H σ o _ fun v F1 H1 w1 n1 d1 => hb F0 H0 F1 H1 σ (o.step w1 n1) _ fun v2 F2 H2 w2 n2 d2 =>
    hr F2 H2 v v2 w2 (dp_mono n2.exF _ _ d1) d2 Q fun v3 F3 H3 w3 n3 d3 => q v3 F3 H3 w3 (n1.trans w1 (n2.trans w2 n3)) d3
theorem d_un {r : V → Hp → VK → Prop} (ha : EvD K T ta env x) (hr : RUn K T r x z) : EvD K T (tUn r ta) env z := fun F0 H0 F H σ o Q q =>
  ha F0 H0 F H σ o _ fun v F1 H1 w1 n1 d1 => hr F1 H1 v w1 d1 Q fun v3 F3 H3 w3 n3 d3 => q v3 F3 H3 w3 (n1.trans w1 n3) d3
theorem d_cb {r : List V → Hp → VK → Prop} {ta : TA} {xs : List D} (ha : EvA K T ta env xs) (hr : RCa K T r xs z) : EvD K T (tCB r ta) env z := fun F0 H0 F H σ o Q q =>
  ha F0 H0 F H σ o _ fun v F1 H1 w1 n1 d1 => hr F1 H1 v w1 d1 Q fun v3 F3 H3 w3 n3 d3 => q v3 F3 H3 w3 (n1.trans w1 n3) d3
theorem d_call {G : List D → D → Prop} {E : XK} {ta : TA} {xs : List D} (ha : EvA K T ta env xs) (hG : G xs z) : EvD K T (tCall (PrD K T G) [] E ta) env z := fun F0 H0 F H σ o Q q =>
  ha F0 H0 F H σ o _ fun v F1 H1 w1 n1 d1 => by
    show PrD K T G (v ++ []) H1 Q E
    rw [List.append_nil]
    exact ⟨F1, xs, z, w1, d1, hG, fun v3 F3 H3 w3 n3 d3 => q v3 F3 H3 w3 (n1.trans w1 n3) d3⟩
theorem a_nil : EvA K T tNil env [] := fun F0 H0 F H σ o Q q => q _ F H o.wk (Nx.refl T F H) .nil
theorem a_cons {tr : TA} {xs : List D} (h : EvD K T te env x) (hr : EvA K T tr env xs) : EvA K T (tCons te tr) env (x :: xs) := fun F0 H0 F H σ o Q q =>
  h F0 H0 F H σ o _ fun v F1 H1 w1 n1 d1 => hr F0 H0 F1 H1 σ (o.step w1 n1) _ fun vs F2 H2 w2 n2 d2 => q _ F2 H2 w2 (n1.trans w1 n2) (.cons (dp_mono n2.exF _ _ d1) d2)
theorem o_none : EvO K T tNoPart env none := fun F0 H0 F H σ o Q q => q F H o.wk (Nx.refl T F H)
theorem o_some {n : Int} (h : EvD K T te env (.int n)) : EvO K T (tPart te) env (some n) := fun F0 H0 F H σ o Q q =>
  h F0 H0 F H σ o _ fun v F1 H1 w1 n1 d1 => by cases d1; exact ⟨n, rfl, q F1 H1 w1 n1⟩
theorem d_is {z' : D} (h : EvD K T te env z) (e : z = z') : EvD K T te env z' := e ▸ h
theorem t_is {b b' : Bool} (h : EvT K T t env b) (e : b = b') : EvT K T t env b' := e ▸ h
/-! tests -/
theorem t_test {b : Bool} (h : EvD K T te env (.bool b)) : EvT K T (tTest te) env b := fun F0 H0 F H σ o Q q =>
  h F0 H0 F H σ o _ fun v F1 H1 w1 n1 d1 => by cases d1; exact ⟨b, rfl, q F1 H1 w1 n1⟩
theorem t_B {b : Bool} (h : EvD K T te env (.bool b)) : EvT K T (tB te) env b := fun F0 H0 F H σ o Q q =>
  h F0 H0 F H σ o _ fun v F1 H1 w1 n1 d1 => by cases d1; exact ⟨b, rfl, q F1 H1 w1 n1⟩
theorem t_not {b : Bool} (h : EvT K T t env b) : EvT K T (tNot t) env (!b) := fun F0 H0 F H σ o Q q => h F0 H0 F H σ o _ fun F1 H1 w1 n1 => q F1 H1 w1 n1
theorem t_and {a b : Bool} (h1 : EvT K T t env a) (h2 : a = true → EvT K T u env b) : EvT K T (tAnd t u) env (a && b) := fun F0 H0 F H σ o Q q =>
  h1 F0 H0 F H σ o _ fun F1 H1 w1 n1 => by
    cases a with
    | true => exact iteT (h2 rfl F0 H0 F1 H1 σ (o.step w1 n1) Q fun F2 H2 w2 n2 => q F2 H2 w2 (n1.trans w1 n2))
    | false => exact iteF (q F1 H1 w1 n1)
theorem t_or {a b : Bool} (h1 : EvT K T t env a) (h2 : a = false → EvT K T u env b) : EvT K T (tOr t u) env (a || b) := fun F0 H0 F H σ o Q q =>
  h1 F0 H0 F H σ o _ fun F1 H1 w1 n1 => by
    cases a with
    | true => exact iteT (q F1 H1 w1 n1)
    | false => exact iteF (h2 rfl F0 H0 F1 H1 σ (o.step w1 n1) Q fun F2 H2 w2 n2 => q F2 H2 w2 (n1.trans w1 n2))
theorem d_andV {a b : Bool} (h1 : EvD K T ta env (.bool a)) (h2 : a = true → EvD K T tb env (.bool b)) : EvD K T (tAndV ta tb) env (.bool (a && b)) := fun F0 H0 F H σ o Q q =>
  h1 F0 H0 F H σ o _ fun v F1 H1 w1 n1 d1 => by
    cases d1
    refine ⟨a, rfl, ?_⟩
    cases a with
    | true => exact iteT (h2 rfl F0 H0 F1 H1 σ (o.step w1 n1) Q fun v F2 H2 w2 n2 d2 => q v F2 H2 w2 (n1.trans w1 n2) d2)
    | false => exact iteF (q _ F1 H1 w1 n1 (.bl false))
theorem d_orV {a b : Bool} (h1 : EvD K T ta env (.bool a)) (h2 : a = false → EvD K T tb env (.bool b)) : EvD K T (tOrV ta tb) env (.bool (a || b)) := fun F0 H0 F H σ o Q q =>
  h1 F0 H0 F H σ o _ fun v F1 H1 w1 n1 d1 => by
    cases d1
    refine ⟨a, rfl, ?_⟩
    cases a with
    | true => exact iteT (q _ F1 H1 w1 n1 (.bl true))
    | false => exact iteF (h2 rfl F0 H0 F1 H1 σ (o.step w1 n1) Q fun v F2 H2 w2 n2 d2 => q v F2 H2 w2 (n1.trans w1 n2) d2)
theorem d_notV {a : Bool} (h1 : EvD K T ta env (.bool a)) : EvD K T (tNotV ta) env (.bool (!a)) := fun F0 H0 F H σ o Q q =>
  h1 F0 H0 F H σ o _ fun v F1 H1 w1 n1 d1 => by cases d1; exact ⟨a, rfl, q _ F1 H1 w1 n1 (.bl _)⟩
theorem d_if {b : Bool} (h : EvT K T t env b) (h1 : b = true → EvD K T ta env d) (h2 : b = false → EvD K T tb env d) : EvD K T (tIf t ta tb) env d := fun F0 H0 F H σ o Q q =>
  h F0 H0 F H σ o _ fun F1 H1 w1 n1 => by
    cases b with
    | true => exact iteT (h1 rfl F0 H0 F1 H1 σ (o.step w1 n1) Q fun v F2 H2 w2 n2 d2 => q v F2 H2 w2 (n1.trans w1 n2) d2)
    | false => exact iteF (h2 rfl F0 H0 F1 H1 σ (o.step w1 n1) Q fun v F2 H2 w2 n2 d2 => q v F2 H2 w2 (n1.trans w1 n2) d2)
theorem d_chain {a b : Bool} (ha : EvD K T ta env x) (hb : EvD K T tb env y) (hr : ROp K T r x y (.bool a)) (hc : a = true → EvD K T tc env z) (hr' : a = true → ROp K T r' y z (.bool b)) : EvD K T (tChain r r' ta tb tc) env (.bool (a && b)) := fun F0 H0 F H σ o Q q =>
  ha F0 H0 F H σ o _ fun v F1 H1 w1 n1 d1 => hb F0 H0 F1 H1 σ (o.step w1 n1) _ fun v2 F2 H2 w2 n2 d2 =>
    hr F2 H2 v v2 w2 (dp_mono n2.exF _ _ d1) d2 _ fun v3 F3 H3 w3 n3 d3 => by
      cases d3
      refine ⟨a, rfl, ?_⟩
      have n12 := n1.trans w1 (n2.trans w2 n3)
      cases a with
      | true =>
        exact iteT (hc rfl F0 H0 F3 H3 σ (o.step w3 n12) _ fun v4 F4 H4 w4 n4 d4 =>
          hr' rfl F4 H4 v2 v4 w4 (dp_mono (n3.exF.trans n4.exF) _ _ d2) d4 Q fun v5 F5 H5 w5 n5 d5 => q v5 F5 H5 w5 (n12.trans w3 (n4.trans w4 n5)) d5)
      | false => exact iteF (q _ F3 H3 w3 n12 (.bl false))
/-! displays -/
theorem d_tup {ta : TA} {xs : List D} (h : EvA K T ta env xs) (hl : xs.length ≤ sizeLine) : EvD K T (tTup ta) env (.tuple xs) := fun F0 H0 F H σ o Q q =>
  h F0 H0 F H σ o _ fun vs F1 H1 w1 n1 d1 => ⟨by rw [dps_len d1]; exact hl, fun p hp => q _ (upd F1 p (.tup vs)) _ (w1.new hp) (n1.trans w1 (Nx.new w1 hp)) (.tup (.inl (.inl upd_same)) (dps_mono (Nx.new w1 hp).exF _ _ d1))⟩
theorem d_lst {ta : TA} {xs : List D} (h : EvA K T ta env xs) (hl : xs.length ≤ sizeLine) : EvD K T (tLst ta) env (.list xs) := fun F0 H0 F H σ o Q q =>
  h F0 H0 F H σ o _ fun vs F1 H1 w1 n1 d1 => ⟨by rw [dps_len d1]; exact hl, fun p hp => q _ (upd F1 p (.lst vs)) _ (w1.new hp) (n1.trans w1 (Nx.new w1 hp)) (.lst (.inl (.inl upd_same)) (dps_mono (Nx.new w1 hp).exF _ _ d1))⟩
end
end DL
set_option Elab.async false
set_option linter.all false
set_option maxRecDepth 100000
set_option maxHeartbeats 2000000
/-! Operations by data, statements, loops, comprehensions, defs. -/
namespace DL
open PySem PySem.Spec PyProof.Rows L2
open Evl (Ex)
section
variable {K : PySem.W.Frag} {T : List Addr} {i j : Int}
/-! ### operations -/
theorem r_int {g : Int → Int → Int} : ROp K T (rI0 fun i j => .int (g i j)) (.int i) (.int j) (.int (g i j)) := fun F H a b w ha hb Q q => by
  cases ha; cases hb
  exact ⟨i, j, rfl, rfl, q _ F H w (Nx.refl T F H) (.int _)⟩
theorem r_bool {g : Int → Int → Bool} : ROp K T (rI0 fun i j => .bl (g i j)) (.int i) (.int j) (.bool (g i j)) := fun F H a b w ha hb Q q => by
  cases ha; cases hb
  exact ⟨i, j, rfl, rfl, q _ F H w (Nx.refl T F H) (.bl _)⟩
theorem r_intC {C : Int → Int → Prop} {g : Int → Int → Int} (h : C i j) : ROp K T (rI C fun i j => .int (g i j)) (.int i) (.int j) (.int (g i j)) := fun F H a b w ha hb Q q => by
  cases ha; cases hb
  exact ⟨i, j, rfl, rfl, h, q _ F H w (Nx.refl T F H) (.int _)⟩
theorem r_neg {g : Int → Int} : RUn K T (rU fun i => .int (g i)) (.int i) (.int (g i)) := fun F H a w ha Q q => by
  cases ha
  exact ⟨i, rfl, q _ F H w (Nx.refl T F H) (.int _)⟩
theorem dec_V {α : Type} [DecidableEq α] {f : α → V} (hf : ∀ a b, f a = f b → a = b) (a b : α) : decide (f a = f b) = decide (a = b) := by
  by_cases h : a = b
  · subst h; simp
  · rw [decide_eq_false h, decide_eq_false fun z => h (hf a b z)]
theorem r_eqI : ROp K T rEq (.int i) (.int j) (.bool (decide (i = j))) := fun F H a b w ha hb Q q => by
  cases ha; cases hb
  refine ⟨rfl, ?_⟩
  rw [dec_V (f := V.int) (fun _ _ z => V.int.inj z)]
  exact q _ F H w (Nx.refl T F H) (.bl _)
theorem r_neI : ROp K T rNe (.int i) (.int j) (.bool (!decide (i = j))) := fun F H a b w ha hb Q q => by
  cases ha; cases hb
  refine ⟨rfl, ?_⟩
  rw [dec_V (f := V.int) (fun _ _ z => V.int.inj z)]
  exact q _ F H w (Nx.refl T F H) (.bl _)
theorem r_eqB {a b : Bool} : ROp K T rEq (.bool a) (.bool b) (.bool (decide (a = b))) := fun F H x y w ha hb Q q => by
  cases ha; cases hb
  refine ⟨rfl, ?_⟩
  rw [dec_V (f := V.bl) (fun _ _ z => V.bl.inj z)]
  exact q _ F H w (Nx.refl T F H) (.bl _)
theorem r_neB {a b : Bool} : ROp K T rNe (.bool a) (.bool b) (.bool (!decide (a = b))) := fun F H x y w ha hb Q q => by
  cases ha; cases hb
  refine ⟨rfl, ?_⟩
  rw [dec_V (f := V.bl) (fun _ _ z => V.bl.inj z)]
  exact q _ F H w (Nx.refl T F H) (.bl _)
theorem r_eqS {a b : Str} : ROp K T rEq (.str a) (.str b) (.bool (decide (a = b))) := fun F H x y w ha hb Q q => by
  cases ha; cases hb
  refine ⟨rfl, ?_⟩
  rw [dec_V (f := V.str) (fun _ _ z => V.str.inj z)]
  exact q _ F H w (Nx.refl T F H) (.bl _)
theorem r_neS {a b : Str} : ROp K T rNe (.str a) (.str b) (.bool (!decide (a = b))) := fun F H x y w ha hb Q q => by
  cases ha; cases hb
  refine ⟨rfl, ?_⟩
  rw [dec_V (f := V.str) (fun _ _ z => V.str.inj z)]
  exact q _ F H w (Nx.refl T F H) (.bl _)
theorem r_eqD {d e : D} (h1 : SeqAt.shaped d = true) (h2 : SeqAt.shaped e = true) : ROp K T (rEqD K) d e (.bool (PyData.eqv d e)) := fun F H x y w ha hb Q q =>
  ⟨d, e, dp_mono w.sub _ _ ha, dp_mono w.sub _ _ hb, h1, h2, q _ F H w (Nx.refl T F H) (.bl _)⟩
theorem r_neD {d e : D} (h1 : SeqAt.shaped d = true) (h2 : SeqAt.shaped e = true) : ROp K T (rNeD K) d e (.bool (!PyData.eqv d e)) := fun F H x y w ha hb Q q =>
  ⟨d, e, dp_mono w.sub _ _ ha, dp_mono w.sub _ _ hb, h1, h2, q _ F H w (Nx.refl T F H) (.bl _)⟩
def isNone : D → Bool
  | .none => true
  | _ => false
theorem none_V {F : Hp} {v : V} {d : D} (h : Dp K F v d) : decide (v = .non) = isNone d := by
  cases h <;> simp [isNone]
theorem r_isN {d : D} : ROp K T (fun x y H Q => y = .non ∧ Q (.bl (decide (x = .non))) H) d .none (.bool (isNone d)) := fun F H x y w ha hb Q q => by
  cases hb
  refine ⟨rfl, ?_⟩
  rw [none_V ha]
  exact q _ F H w (Nx.refl T F H) (.bl _)
theorem r_notN {d : D} : ROp K T (fun x y H Q => y = .non ∧ Q (.bl (!decide (x = .non))) H) d .none (.bool (!isNone d)) := fun F H x y w ha hb Q q => by
  cases hb
  refine ⟨rfl, ?_⟩
  rw [none_V ha]
  exact q _ F H w (Nx.refl T F H) (.bl _)
theorem r_addS {a b : Str} (h : a.length + b.length ≤ sizeLine) : ROp K T (fun x y H Q => ∃ i j, x = V.str i ∧ y = V.str j ∧ i.length + j.length ≤ sizeLine ∧ Q (.str (i ++ j)) H) (.str a) (.str b) (.str (a ++ b)) := fun F H x y w ha hb Q q => by
  cases ha; cases hb
  exact ⟨a, b, rfl, rfl, h, q _ F H w (Nx.refl T F H) (.str _)⟩
/-! items -/
theorem ixN_nat {n k : Nat} (h : k < n) : ixN n (k : Int) = some k := Evl.ixN_nat h
theorem atI_k {α : Type} {xs : List α} {k : Nat} {x : α} (h : xs[k]? = some x) : atI xs (k : Int) = some x := atI_nat h
theorem r_ixL {ds : List D} {d : D} (h : atI ds i = some d) : ROp K T (rIxL K) (.list ds) (.int i) d := fun F H x y w ha hb Q q => by
  cases hb
  cases ha with
  | @lst a xs _ hs hd =>
    unfold atI at h
    cases e : ixN ds.length i with
    | none => rw [e] at h; cases h
    | some k =>
      rw [e] at h
      obtain ⟨v, hv, hvd⟩ := dps_get (K := K) (H := F) hd (show ds[k]? = some d from h)
      refine ⟨a, xs, i, v, rfl, rfl, Evl.ex_l w.sub hs, ?_, q v F H w (Nx.refl T F H) hvd⟩
      unfold atI
      rw [dps_len hd, e]
      exact hv
theorem r_ixT {ds : List D} {d : D} (h : atI ds i = some d) : ROp K T (rIxT K) (.tuple ds) (.int i) d := fun F H x y w ha hb Q q => by
  cases hb
  cases ha with
  | @tup a xs _ hs hd =>
    unfold atI at h
    cases e : ixN ds.length i with
    | none => rw [e] at h; cases h
    | some k =>
      rw [e] at h
      obtain ⟨v, hv, hvd⟩ := dps_get (K := K) (H := F) hd (show ds[k]? = some d from h)
      refine ⟨a, xs, i, v, rfl, rfl, Evl.ex_t w.sub hs, ?_, q v F H w (Nx.refl T F H) hvd⟩
      unfold atI
      rw [dps_len hd, e]
      exact hv
theorem r_ixS {z : Str} {c : Nat} (hz : z.length ≤ sizeLine) (h : atI z.cps.toList i = some c) : ROp K T rIxS (.str z) (.int i) (.str ⟨#[c]⟩) := fun F H x y w ha hb Q q => by
  cases ha; cases hb
  exact ⟨z, i, c, rfl, rfl, hz, h, q _ F H w (Nx.refl T F H) (.str _)⟩
/-! calls of built-ins -/
theorem r_abs : RCa K T (fun xs H Q => ∃ i, xs = [V.int i] ∧ Q (.int (if i < 0 then -i else i)) H) [.int i] (.int (if i < 0 then -i else i)) := fun F H vs w ha Q q => by
  cases ha with
  | cons h t => cases h; cases t; exact ⟨i, rfl, q _ F H w (Nx.refl T F H) (.int _)⟩
theorem r_max2 : RCa K T (fun xs H Q => ∃ i j, xs = [V.int i, V.int j] ∧ Q (.int (if j > i then j else i)) H) [.int i, .int j] (.int (if j > i then j else i)) := fun F H vs w ha Q q => by
  cases ha with
  | cons h t => cases h; cases t with
    | cons h t => cases h; cases t; exact ⟨i, j, rfl, q _ F H w (Nx.refl T F H) (.int _)⟩
theorem r_intB {b : Bool} : RCa K T (fun xs H Q => (∃ i, xs = [V.int i] ∧ Q (.int i) H) ∨ ∃ k, xs = [V.bl k] ∧ Q (.int (if k then 1 else 0)) H) [.bool b] (.int (if b then 1 else 0)) := fun F H vs w ha Q q => by
  cases ha with
  | cons h t => cases h; cases t; exact .inr ⟨b, rfl, q _ F H w (Nx.refl T F H) (.int _)⟩
theorem r_lenL {ds : List D} : RCa K T (fun xs H Q => ∃ p ys, xs = [V.ref p] ∧ (SqL K H p ys ∨ SqT K H p ys) ∧ Q (.int ys.length) H) [.list ds] (.int (ds.length : Int)) := fun F H vs w ha Q q => by
  cases ha with
  | cons h t =>
    cases t
    cases h with
    | @lst a xs _ hs hd =>
      refine ⟨a, xs, rfl, .inl (Evl.ex_l w.sub hs), ?_⟩
      rw [dps_len hd]
      exact q _ F H w (Nx.refl T F H) (.int _)
theorem r_lenT {ds : List D} : RCa K T (fun xs H Q => ∃ p ys, xs = [V.ref p] ∧ (SqL K H p ys ∨ SqT K H p ys) ∧ Q (.int ys.length) H) [.tuple ds] (.int (ds.length : Int)) := fun F H vs w ha Q q => by
  cases ha with
  | cons h t =>
    cases t
    cases h with
    | @tup a xs _ hs hd =>
      refine ⟨a, xs, rfl, .inr (Evl.ex_t w.sub hs), ?_⟩
      rw [dps_len hd]
      exact q _ F H w (Nx.refl T F H) (.int _)
theorem r_lenS {z : Str} (hz : z.length ≤ sizeLine) : RCa K T (fun xs H Q => ∃ z, xs = [V.str z] ∧ z.length ≤ sizeLine ∧ Q (.int z.length) H) [.str z] (.int (z.length : Int)) := fun F H vs w ha Q q => by
  cases ha with
  | cons h t => cases h; cases t; exact ⟨z, rfl, hz, q _ F H w (Nx.refl T F H) (.int _)⟩
theorem r_list {ds : List D} : RCa K T (fun xs H Q => ∃ p ys, xs = [V.ref p] ∧ (SqL K H p ys ∨ SqT K H p ys) ∧ ∀ l, H l = none → Q (.ref l) (upd H l (.lst ys))) [.list ds] (.list ds) := fun F H vs w ha Q q => by
  cases ha with
  | cons h t =>
    cases t
    cases h with
    | @lst a xs _ hs hd =>
      exact ⟨a, xs, rfl, .inl (Evl.ex_l w.sub hs), fun l hl => q _ (upd F l (.lst xs)) _ (w.new hl) (Nx.new w hl) (.lst (.inl (.inl upd_same)) (dps_mono (Nx.new w hl).exF _ _ hd))⟩
/-! isinstance -/
theorem tyx_of {F H : Hp} {v : V} {d : D} (w : Wk T F H) (h : Dp K F v d) : ∃ t, (match d with | .none => t = Value.type "NoneType" | .bool _ => t = Value.type "bool" | .int _ => t = Value.type "int" | .str _ => t = Value.type "str" | .list _ => t = Value.type "list" | .tuple _ => t = Value.type "tuple" | .dict _ => False) ∧ TyX K H v t := by
  cases h with
  | non => exact ⟨_, rfl, .base .non⟩
  | bl b => exact ⟨_, rfl, .base (.bl b)⟩
  | int n => exact ⟨_, rfl, .base (.int n)⟩
  | str n => exact ⟨_, rfl, .base (.str n)⟩
  | @lst a xs ds hs hd =>
    rcases hs with (h | ⟨o, h⟩) | ⟨o, its, n, h1, h2, _⟩
    · exact ⟨_, rfl, .base (.lst (w.sub _ _ h))⟩
    · exact ⟨_, rfl, .base (.frz (w.sub _ _ h))⟩
    · exact ⟨_, rfl, .kList h1 h2⟩
  | @tup a xs ds hs hd =>
    rcases hs with (h | ⟨o, h⟩) | ⟨o, its, n, h1, h2, _⟩
    · exact ⟨_, rfl, .base (.tup (w.sub _ _ h))⟩
    · exact ⟨_, rfl, .fTuple (w.sub _ _ h)⟩
    · exact ⟨_, rfl, .kTuple h1 h2⟩
def tyName : D → String
  | .none => "NoneType"
  | .bool _ => "bool"
  | .int _ => "int"
  | .str _ => "str"
  | .list _ => "list"
  | .tuple _ => "tuple"
  | .dict _ => "dict"
/-- isinstance(x, n), n a built-in class: h by decide +kernel, d's constructor given -/
theorem d_isi {env : List Sl} {te : TE} {d : D} {n : String} {b : Bool} (ha : EvD K T te env d) (h : PySem.W.kitOne K (.type (tyName d)) (.type n) = some b) : EvD K T (tCB (rIsi K) (tCons te (tCons (tC (.ty n)) tNil))) env (.bool b) := fun F0 H0 F H σ o Q q =>
  ha F0 H0 F H σ o _ fun v F1 H1 w1 n1 d1 => by
    obtain ⟨t, e, ty⟩ := tyx_of w1 d1
    have e' : t = .type (tyName d) := by cases d <;> first | exact e | exact e.elim
    subst e'
    exact ⟨v, .ty n, _, _, b, rfl, .ty n, ty, h, q _ F1 H1 w1 n1 (.bl b)⟩
/-! slices, texts -/
theorem d_slL {env : List Sl} {te : TE} {tl th : TO} {ds : List D} {lo hi : Option Int} (h : EvD K T te env (.list ds)) (h1 : EvO K T tl env lo) (h2 : EvO K T th env hi) : EvD K T (tSl (rSlL K) te tl th) env (.list ((ds.drop (HT.sIx ds.length 0 lo)).take (HT.sIx ds.length ds.length hi - HT.sIx ds.length 0 lo))) := fun F0 H0 F H σ o Q q =>
  h F0 H0 F H σ o _ fun v F1 H1 w1 n1 d1 => h1 F0 H0 F1 H1 σ (o.step w1 n1) _ fun F2 H2 w2 n2 => h2 F0 H0 F2 H2 σ (o.step w2 (n1.trans w1 n2)) _ fun F3 H3 w3 n3 => by
    have d3 := dp_mono (n2.exF.trans n3.exF) _ _ d1
    cases d3 with
    | @lst a xs _ hs hd =>
      refine ⟨a, xs, rfl, Evl.ex_l w3.sub hs, fun p hp => q _ (upd F3 p (.lst (cutV xs lo hi))) _ (w3.new hp) ((n1.trans w1 (n2.trans w2 n3)).trans w3 (Nx.new w3 hp)) (.lst (.inl (.inl upd_same)) ?_)⟩
      unfold cutV
      rw [dps_len hd]
      exact dps_mono (Nx.new w3 hp).exF _ _ (dps_take _ (dps_drop _ hd))
theorem d_slS {env : List Sl} {te : TE} {tl th : TO} {z : Str} {lo hi : Option Int} (h : EvD K T te env (.str z)) (h1 : EvO K T tl env lo) (h2 : EvO K T th env hi) (hz : z.length ≤ sizeLine) : EvD K T (tSl rSlS te tl th) env (.str (cutS z lo hi)) := fun F0 H0 F H σ o Q q =>
  h F0 H0 F H σ o _ fun v F1 H1 w1 n1 d1 => h1 F0 H0 F1 H1 σ (o.step w1 n1) _ fun F2 H2 w2 n2 => h2 F0 H0 F2 H2 σ (o.step w2 (n1.trans w1 n2)) _ fun F3 H3 w3 n3 => by
    cases d1
    exact ⟨z, rfl, hz, q _ F3 H3 w3 (n1.trans w1 (n2.trans w2 n3)) (.str _)⟩
/-- xs + ys, lists -/
theorem d_cat {env : List Sl} {ta tb : TE} {xs ys : List D} (ha : EvD K T ta env (.list xs)) (hb : EvD K T tb env (.list ys)) (hl : xs.length + ys.length ≤ sizeLine)
    (fa : ∀ F v, Dp K F v (.list xs) → ∃ a vs, v = .ref a ∧ F a = some (.lst vs) ∧ DpAll K F vs xs) (fb : ∀ F v, Dp K F v (.list ys) → ∃ a vs, v = .ref a ∧ F a = some (.lst vs) ∧ DpAll K F vs ys) : EvD K T (tOp rCat ta tb) env (.list (xs ++ ys)) := fun F0 H0 F H σ o Q q =>
  ha F0 H0 F H σ o _ fun v F1 H1 w1 n1 d1 => hb F0 H0 F1 H1 σ (o.step w1 n1) _ fun v2 F2 H2 w2 n2 d2 => by
    obtain ⟨a, vs, rfl, h1, h2⟩ := fa F2 v (dp_mono n2.exF _ _ d1)
    obtain ⟨b, ws, rfl, h3, h4⟩ := fb F2 v2 d2
    exact ⟨a, b, vs, ws, rfl, rfl, w2.sub _ _ h1, w2.sub _ _ h3, by rw [dps_len h2, dps_len h4]; exact hl, fun p hp => q _ (upd F2 p (.lst (vs ++ ws))) _ (w2.new hp) ((n1.trans w1 n2).trans w2 (Nx.new w2 hp)) (.lst (.inl (.inl upd_same)) (dps_mono (Nx.new w2 hp).exF _ _ (dps_app h2 h4)))⟩
end

/-! ### statements -/
structure Po where
  nx : List Sl → Prop
  rt : D → Prop
  bk : List Sl → Prop := fun _ => False
  ct : List Sl → Prop := fun _ => False
  /-- what is returned, told together with the slots as they then are -/
  rtE : List Sl → D → Prop := fun _ _ => False
section
variable (K : PySem.W.Frag) (T : List Addr) (F0 H0 : Hp)
/-- what the ends say, from F on -/
structure EndsOk (F : Hp) (P : Po) (De : Ends) : Prop where
  nx : ∀ e F' H' (σ' : L2.St), P.nx e → Ok K T F0 H0 F' H' σ' e → Ex F F' → De.nx σ' H'
  rt : ∀ d v F' H', P.rt d → Wk T F' H' → Nx T F0 H0 F' H' → Dp K F' v d → De.rt v H'
  bk : ∀ e F' H' (σ' : L2.St), P.bk e → Ok K T F0 H0 F' H' σ' e → Ex F F' → De.bk σ' H'
  ct : ∀ e F' H' (σ' : L2.St), P.ct e → Ok K T F0 H0 F' H' σ' e → Ex F F' → De.ct σ' H'
  rtE : ∀ e d v F' H' (σ' : L2.St), P.rtE e d → Ok K T F0 H0 F' H' σ' e → Dp K F' v d → De.rt v H'
def StD (t : TS) (env : List Sl) (P : Po) : Prop := ∀ F H σ, Ok K T F0 H0 F H σ env → ∀ De : Ends, EndsOk K T F0 H0 F P De → t De σ H
end
section
variable {K : PySem.W.Frag} {T : List Addr} {F0 H0 F F' : Hp} {env : List Sl} {P : Po} {De : Ends} {te ta : TE} {tt : TT} {t u : TS} {d : D} {i j : Nat} {x : Sl}
theorem EndsOk.mono (h : EndsOk K T F0 H0 F P De) (e : Ex F F') : EndsOk K T F0 H0 F' P De :=
  ⟨fun a F' H' σ' p o x => h.nx a F' H' σ' p o (e.trans x), h.rt, fun a F' H' σ' p o x => h.bk a F' H' σ' p o (e.trans x), fun a F' H' σ' p o x => h.ct a F' H' σ' p o (e.trans x), h.rtE⟩
theorem s_seq (h : StD K T F0 H0 t env { P with nx := fun e => StD K T F0 H0 u e P }) : StD K T F0 H0 (tSeq t u) env P := fun F H σ o De E =>
  h F H σ o { De with nx := u De } ⟨fun e F' H' σ' p o' x => p F' H' σ' o' De (E.mono x), E.rt, E.bk, E.ct, E.rtE⟩
theorem s_next (h : P.nx env) : StD K T F0 H0 tNext env P := fun F H σ o De E => E.nx env F H σ h o (Ex.refl F)
theorem s_brk (h : P.bk env) : StD K T F0 H0 tBreak env P := fun F H σ o De E => E.bk env F H σ h o (Ex.refl F)
theorem s_cont (h : P.ct env) : StD K T F0 H0 tCont env P := fun F H σ o De E => E.ct env F H σ h o (Ex.refl F)
theorem s_asg (h : EvD K T te env d) (k : P.nx (env.set i (.dat d))) : StD K T F0 H0 (tAsg te (gName i)) env P := fun F H σ o De E =>
  h F0 H0 F H σ o _ fun v F1 H1 w1 n1 d1 => E.nx _ F1 H1 _ k ((o.step w1 n1).set d1) n1.exF
/-- x = [], a list that is filled -/
theorem s_new (k : P.nx (env.set i (.own []))) : StD K T F0 H0 (tAsg (tLst tNil) (gName i)) env P := fun F H σ o De E =>
  ⟨Nat.zero_le _, fun p hp => E.nx _ F _ _ k (o.mine hp) (Ex.refl F)⟩
theorem s_app {xs : List D} (hi : env[i]? = some (.own xs)) (h : EvD K T te env d) (hz : xs.length < sizeLine) (k : P.nx (env.set i (.own (xs ++ [d])))) :
    StD K T F0 H0 (tDrop (tBM K "list" rAppend (tVar i) (tCons te tNil))) env P := fun F H σ o De E => by
  obtain ⟨a, vs, e1, f, h0, t1, ha, hd⟩ := o.sl i _ hi
  refine ⟨.ref a, e1, .inl ⟨rfl, vs, .inl (.inl ha)⟩, h F0 H0 F H σ o _ fun v F1 H1 w1 n1 d1 => ?_⟩
  have o1 := o.step w1 n1
  refine ⟨a, vs, v, rfl, rfl, n1.exH a _ ha t1, by rw [dps_len hd]; exact hz, E.nx _ F1 _ _ k (o1.write hi e1 (dps_app (dps_mono n1.exF _ _ hd) (.cons d1 .nil))) n1.exF⟩
theorem s_ret (h : EvD K T te env d) (k : P.rt d) : StD K T F0 H0 (tRet te) env P := fun F H σ o De E =>
  h F0 H0 F H σ o _ fun v F1 H1 w1 n1 d1 => E.rt d v F1 H1 k w1 (o.nx.trans o.wk n1) d1
theorem s_retN (k : P.rt .none) : StD K T F0 H0 tRetN env P := fun F H σ o De E => E.rt .none .non F H k o.wk o.nx .non
/-- from here on our list is plain data -/
theorem s_frz {xs : List D} (hi : env[i]? = some (.own xs)) (h : StD K T F0 H0 t (env.set i (.dat (.list xs))) P) : StD K T F0 H0 t env P := fun F H σ o De E => by
  obtain ⟨F', e, o'⟩ := o.freeze hi
  exact h F' H σ o' De (E.mono e)
theorem s_if {b : Bool} (h : EvT K T tt env b) (h1 : b = true → StD K T F0 H0 t env P) (h2 : b = false → StD K T F0 H0 u env P) : StD K T F0 H0 (tIfS tt t u) env P := fun F H σ o De E =>
  h F0 H0 F H σ o _ fun F1 H1 w1 n1 => by
    cases b with
    | true => exact iteT (h1 rfl F1 H1 σ (o.step w1 n1) De (E.mono n1.exF))
    | false => exact iteF (h2 rfl F1 H1 σ (o.step w1 n1) De (E.mono n1.exF))
theorem s_drop (h : EvD K T te env d) (k : P.nx env) : StD K T F0 H0 (tDrop te) env P := fun F H σ o De E =>
  h F0 H0 F H σ o _ fun v F1 H1 w1 n1 d1 => E.nx _ F1 H1 _ k (o.step w1 n1) n1.exF
theorem s_aug {f : Int → Int → Int} {a b : Int} (hx : env[i]? = some (.dat (.int a))) (h : EvD K T te env (.int b)) (k : P.nx (env.set i (.dat (.int (f a b))))) : StD K T F0 H0 (tAug i te (ipI f)) env P := fun F H σ o De E => by
  obtain ⟨v, e, hv⟩ := o.sl i _ hx
  cases hv
  exact ⟨_, e, h F0 H0 F H σ o _ fun v F1 H1 w1 n1 d1 => by cases d1; exact ⟨a, b, rfl, rfl, E.nx _ F1 H1 _ k ((o.step w1 n1).set (.int _)) n1.exF⟩⟩
/-- a, b = e, f -/
theorem s_par {ta : TA} {d e : D} (h : EvA K T ta env [d, e]) (k : P.nx ((env.set i (.dat d)).set j (.dat e))) : StD K T F0 H0 (tPar i j ta) env P := fun F H σ o De E =>
  h F0 H0 F H σ o _ fun vs F1 H1 w1 n1 d1 => by
    cases d1 with
    | cons h1 t =>
      cases t with
      | cons h2 t =>
        cases t
        exact ⟨_, _, rfl, E.nx _ F1 H1 _ k (((o.step w1 n1).set h1).set h2) n1.exF⟩
/-! loops -/
variable {tl : TE} {tb : TS}
/-- what a turn's end must reach -/
abbrev Po.turn (P : Po) (I : List Sl → Prop) : Po := { nx := I, rt := P.rt, bk := P.nx, ct := I, rtE := P.rtE }
theorem s_forL {ds : List D} (h : EvD K T tl env (.list ds)) (I : Nat → List Sl → Prop) (h0 : I 0 env)
    (hs : ∀ (k : Nat) d e, ds[k]? = some d → I k e → StD K T F0 H0 tb (e.set j (.dat d)) (P.turn (I (k + 1)))) (hd : ∀ e, I ds.length e → P.nx e) : StD K T F0 H0 (tFor (iList K tl) (gName j) tb) env P := fun F H σ o De E =>
  h F0 H0 F H σ o _ fun v F1 H1 w1 n1 d1 => by
    cases d1 with
    | @lst a xs _ hsq hdd =>
      refine ⟨a, rfl, ⟨xs, Evl.ex_l w1.sub hsq⟩, for_list (fun k σ' H' => ∃ e F', I k e ∧ Ok K T F0 H0 F' H' σ' e ∧ Ex F1 F') ⟨env, F1, h0, o.step w1 n1, Ex.refl F1⟩ (fun k σ' H' _ ⟨e, F', _, o', x⟩ => Evl.ex_l (x.trans o'.wk.sub) hsq) (fun k v σ' H' hk ⟨e, F', p, o', x⟩ => ?_) (fun σ' H' ⟨e, F', p, o', x⟩ => ?_)⟩
      · obtain ⟨d, hd1, hv⟩ := dps_getV hdd hk
        exact hs k d e hd1 p F' H' _ (o'.set (dp_mono x _ _ hv)) _ ⟨fun e2 F2 H2 σ2 p2 o2 x2 => ⟨e2, F2, p2, o2, x.trans x2⟩, E.rt, fun e2 F2 H2 σ2 p2 o2 x2 => E.nx e2 F2 H2 σ2 p2 o2 ((n1.exF.trans x).trans x2), fun e2 F2 H2 σ2 p2 o2 x2 => ⟨e2, F2, p2, o2, x.trans x2⟩, E.rtE⟩
      · rw [dps_len hdd] at p
        exact E.nx e F' H' σ' (hd e p) o' (n1.exF.trans x)
theorem s_forT {ds : List D} (h : EvD K T tl env (.tuple ds)) (I : Nat → List Sl → Prop) (h0 : I 0 env)
    (hs : ∀ (k : Nat) d e, ds[k]? = some d → I k e → StD K T F0 H0 tb (e.set j (.dat d)) (P.turn (I (k + 1)))) (hd : ∀ e, I ds.length e → P.nx e) : StD K T F0 H0 (tFor (iTup K tl) (gName j) tb) env P := fun F H σ o De E =>
  h F0 H0 F H σ o _ fun v F1 H1 w1 n1 d1 => by
    cases d1 with
    | @tup a xs _ hsq hdd =>
      refine ⟨a, rfl, ⟨xs, Evl.ex_t w1.sub hsq⟩, for_tup (fun k σ' H' => ∃ e F', I k e ∧ Ok K T F0 H0 F' H' σ' e ∧ Ex F1 F') ⟨env, F1, h0, o.step w1 n1, Ex.refl F1⟩ (fun k σ' H' _ ⟨e, F', _, o', x⟩ => Evl.ex_t (x.trans o'.wk.sub) hsq) (fun k v σ' H' hk ⟨e, F', p, o', x⟩ => ?_) (fun σ' H' ⟨e, F', p, o', x⟩ => ?_)⟩
      · obtain ⟨d, hd1, hv⟩ := dps_getV hdd hk
        exact hs k d e hd1 p F' H' _ (o'.set (dp_mono x _ _ hv)) _ ⟨fun e2 F2 H2 σ2 p2 o2 x2 => ⟨e2, F2, p2, o2, x.trans x2⟩, E.rt, fun e2 F2 H2 σ2 p2 o2 x2 => E.nx e2 F2 H2 σ2 p2 o2 ((n1.exF.trans x).trans x2), fun e2 F2 H2 σ2 p2 o2 x2 => ⟨e2, F2, p2, o2, x.trans x2⟩, E.rtE⟩
      · rw [dps_len hdd] at p
        exact E.nx e F' H' σ' (hd e p) o' (n1.exF.trans x)
theorem s_forR {ta : TA} {n : Nat} (h : EvA K T ta env [.int (n : Int)]) (hn : n ≤ 100000) (I : Nat → List Sl → Prop) (h0 : I 0 env)
    (hs : ∀ (k : Nat) e, k < n → I k e → StD K T F0 H0 tb (e.set j (.dat (.int (k : Int)))) (P.turn (I (k + 1)))) (hd : ∀ e, I n e → P.nx e) : StD K T F0 H0 (tFor (iRng1 ta) (gName j) tb) env P := fun F H σ o De E =>
  h F0 H0 F H σ o _ fun vs F1 H1 w1 n1 d1 => by
    cases d1 with
    | cons h1 t =>
      cases t; cases h1
      refine ⟨(n : Int), rfl, by omega, by omega, for_range (lo := 0) (n := (n : Int).toNat) (fun k σ' H' => ∃ e F', I k e ∧ Ok K T F0 H0 F' H' σ' e ∧ Ex F1 F') ⟨env, F1, h0, o.step w1 n1, Ex.refl F1⟩ (fun k σ' H' hk ⟨e, F', p, o', x⟩ => ?_) (fun σ' H' ⟨e, F', p, o', x⟩ => ?_)⟩
      · have e0 : (0 : Int) + (k : Int) = (k : Int) := Int.zero_add _
        show tb _ (σ'.set j (some (.int ((0 : Int) + (k : Int))))) H'
        rw [e0]
        exact hs k e (by omega) p F' H' _ (o'.set (.int _)) _ ⟨fun e2 F2 H2 σ2 p2 o2 x2 => ⟨e2, F2, p2, o2, x.trans x2⟩, E.rt, fun e2 F2 H2 σ2 p2 o2 x2 => E.nx e2 F2 H2 σ2 p2 o2 ((n1.exF.trans x).trans x2), fun e2 F2 H2 σ2 p2 o2 x2 => ⟨e2, F2, p2, o2, x.trans x2⟩, E.rtE⟩
      · rw [Int.toNat_natCast] at p
        exact E.nx e F' H' σ' (hd e p) o' (n1.exF.trans x)
theorem s_forR2 {ta : TA} {lo n : Int} (h : EvA K T ta env [.int lo, .int n]) (hn : -100000 ≤ lo ∧ lo ≤ 100000 ∧ -100000 ≤ n ∧ n ≤ 100000) (I : Nat → List Sl → Prop) (h0 : I 0 env)
    (hs : ∀ (k : Nat) e, k < (n - lo).toNat → I k e → StD K T F0 H0 tb (e.set j (.dat (.int (lo + (k : Int))))) (P.turn (I (k + 1)))) (hd : ∀ e, I (n - lo).toNat e → P.nx e) : StD K T F0 H0 (tFor (iRng2 ta) (gName j) tb) env P := fun F H σ o De E =>
  h F0 H0 F H σ o _ fun vs F1 H1 w1 n1 d1 => by
    cases d1 with
    | cons h1 t =>
      cases t with
      | cons h2 t =>
        cases t; cases h1; cases h2
        refine ⟨lo, n, rfl, ⟨by omega, by omega, by omega, by omega⟩, for_range (lo := lo) (n := (n - lo).toNat) (fun k σ' H' => ∃ e F', I k e ∧ Ok K T F0 H0 F' H' σ' e ∧ Ex F1 F') ⟨env, F1, h0, o.step w1 n1, Ex.refl F1⟩ (fun k σ' H' hk ⟨e, F', p, o', x⟩ => ?_) (fun σ' H' ⟨e, F', p, o', x⟩ => ?_)⟩
        · exact hs k e hk p F' H' _ (o'.set (.int _)) _ ⟨fun e2 F2 H2 σ2 p2 o2 x2 => ⟨e2, F2, p2, o2, x.trans x2⟩, E.rt, fun e2 F2 H2 σ2 p2 o2 x2 => E.nx e2 F2 H2 σ2 p2 o2 ((n1.exF.trans x).trans x2), fun e2 F2 H2 σ2 p2 o2 x2 => ⟨e2, F2, p2, o2, x.trans x2⟩, E.rtE⟩
        · exact E.nx e F' H' σ' (hd e p) o' (n1.exF.trans x)
theorem s_forS {z : Str} (h : EvD K T tl env (.str z)) (I : Nat → List Sl → Prop) (h0 : I 0 env)
    (hs : ∀ (k c : Nat) e, z.cps[k]? = some c → I k e → StD K T F0 H0 tb (e.set j (.dat (.str ⟨#[c]⟩))) (P.turn (I (k + 1)))) (hd : ∀ e, I z.cps.size e → P.nx e) : StD K T F0 H0 (tFor (iStr tl) (gName j) tb) env P := fun F H σ o De E =>
  h F0 H0 F H σ o _ fun v F1 H1 w1 n1 d1 => by
    cases d1
    refine ⟨z, rfl, for_it walk_str (fun k σ' H' => ∃ e F', I k e ∧ Ok K T F0 H0 F' H' σ' e ∧ Ex F1 F') ⟨env, F1, h0, o.step w1 n1, Ex.refl F1⟩ (fun _ _ _ _ _ => trivial) (fun k v σ' H' H'' hk ⟨e, F', p, o', x⟩ hy => ?_) (fun σ' H' ⟨e, F', p, o', x⟩ => ?_)⟩
    · obtain ⟨rfl, c, hc, rfl⟩ := hy
      exact hs k c e hc p F' _ _ (o'.set (.str _)) _ ⟨fun e2 F2 H2 σ2 p2 o2 x2 => ⟨e2, F2, p2, o2, x.trans x2⟩, E.rt, fun e2 F2 H2 σ2 p2 o2 x2 => E.nx e2 F2 H2 σ2 p2 o2 ((n1.exF.trans x).trans x2), fun e2 F2 H2 σ2 p2 o2 x2 => ⟨e2, F2, p2, o2, x.trans x2⟩, E.rtE⟩
    · exact E.nx e F' H' σ' (hd e p) o' (n1.exF.trans x)
theorem s_while (I : Nat → List Sl → Prop) (m0 : Nat) (h0 : I m0 env)
    (hs : ∀ m e, I m e → ∃ b, EvT K T tt e b ∧ (b = true → StD K T F0 H0 tb e (P.turn fun e' => ∃ m', m' < m ∧ I m' e')) ∧ (b = false → P.nx e)) : StD K T F0 H0 (tWhile tt tb) env P := fun F H σ o De E => by
  refine ⟨fun m σ' H' => ∃ e F', I m e ∧ Ok K T F0 H0 F' H' σ' e ∧ Ex F F', ⟨m0, env, F, h0, o, Ex.refl F⟩, ?_⟩
  rintro m σ' H' ⟨e, F', p, o', x⟩
  obtain ⟨b, ht, h1, h2⟩ := hs m e p
  refine ht F0 H0 F' H' σ' o' _ fun F1 H1 w1 n1 => ?_
  cases b with
  | true =>
    refine iteT ⟨fun σ2 H2 => ∃ m', m' < m ∧ ∃ e2 F2, I m' e2 ∧ Ok K T F0 H0 F2 H2 σ2 e2 ∧ Ex F F2, fun σ2 H2 ⟨m', hm, q⟩ => ⟨m', hm, q⟩, ?_⟩
    exact h1 rfl F1 H1 σ' (o'.step w1 n1) _ ⟨fun e2 F2 H2 σ2 ⟨m', hm, p2⟩ o2 x2 => ⟨m', hm, e2, F2, p2, o2, (x.trans n1.exF).trans x2⟩, E.rt, fun e2 F2 H2 σ2 p2 o2 x2 => E.nx e2 F2 H2 σ2 p2 o2 ((x.trans n1.exF).trans x2), fun e2 F2 H2 σ2 ⟨m', hm, p2⟩ o2 x2 => ⟨m', hm, e2, F2, p2, o2, (x.trans n1.exF).trans x2⟩, E.rtE⟩
  | false => exact iteF (E.nx e F1 H1 σ' (h2 rfl) (o'.step w1 n1) (x.trans n1.exF))
end

/-! ### a comprehension over a list, over a range: one clause, its variable in slot j -/
section
variable {K : PySem.W.Frag} {T : List Addr} {env : List Sl} {te : TE} {tt : TT} {tl : TE} {j : Nat}
theorem wipe_one {σ : L2.St} {x : Option V} : wipe ((wipe σ [j]).set j x) [j] = wipe σ [j] := by
  show (((σ.set j none).set j x).set j none) = σ.set j none
  rw [List.set_set, List.set_set]
theorem filterMap_take_succ {α β : Type} {f : α → Option β} : ∀ {l : List α} {k : Nat} {x : α}, l[k]? = some x → (l.take (k + 1)).filterMap f = (l.take k).filterMap f ++ (f x).toList
  | [], k, x, h => by simp at h
  | a :: l, 0, x, h => by
    have e : a = x := Option.some.inj h
    subst e
    show [a].filterMap f = _
    cases q : f a <;> simp [q]
  | a :: l, k + 1, x, h => by
    have ih := filterMap_take_succ (f := f) (l := l) (k := k) (x := x) h
    show (a :: l.take (k + 1)).filterMap f = (a :: l.take k).filterMap f ++ _
    cases q : f a with
    | none => rw [List.filterMap_cons_none q, List.filterMap_cons_none q]; exact ih
    | some b => rw [List.filterMap_cons_some q, List.filterMap_cons_some q, ih]; rfl
/-- G: which items give, and what -/
theorem d_lc {ds : List D} (G : D → Option D) (h : EvD K T tl env (.list ds)) (hl : ds.length < sizeLine)
    (hs : ∀ (k : Nat) d, ds[k]? = some d → ∃ b, EvT K T tt ((env.set j .no).set j (.dat d)) b ∧ (b = false → G d = none) ∧ (b = true → ∃ z, G d = some z ∧ EvD K T te ((env.set j .no).set j (.dat d)) z)) :
    EvD K T (tLc (iList K tl) (gName j) tt te [j]) env (.list (ds.filterMap G)) := fun F0 H0 F H σ o Q q =>
  h F0 H0 F H σ o _ fun v F1 H1 w1 n1 d1 => by
    cases d1 with
    | @lst a xs _ hsq hdd =>
      refine ⟨a, rfl, ⟨xs, Evl.ex_l w1.sub hsq⟩, fun Dl hD => lc_list (K := K) (a := a) (xs := xs) (fun k H' => ∃ F' vs, Wk T F' H' ∧ Nx T F1 H1 F' H' ∧ F' Dl = none ∧ H' Dl = some (.lst vs) ∧ DpAll K F' vs ((ds.take k).filterMap G) ∧ vs.length ≤ k) ?_ (fun k H' _ ⟨F', vs, w', n', _⟩ => Evl.ex_l (n'.exF.trans w'.sub) hsq) (fun k x H' hk ⟨F', vs, w', n', f', e', hv, hz⟩ => ?_) (fun H' ⟨F', vs, w', n', f', e', hv, hz⟩ => ?_)⟩
      · exact ⟨F1, [], w1.mine hD, ⟨Ex.refl F1, fun b u e t => by rw [upd_ne (ne_of_none e hD)]; exact e, fun _ _ _ n => n⟩, w1.noF hD, upd_same, .nil, Nat.zero_le _⟩
      · refine ⟨wipe_one, ?_⟩
        obtain ⟨d, hd1, hx⟩ := dps_getV hdd hk
        have hkl : k < ds.length := (List.getElem?_eq_some_iff.mp hd1).1
        have hT := w1.notT hD
        have o1 : Ok K T F0 H0 F' H' ((wipe σ [j]).set j (some x)) ((env.set j .no).set j (.dat d)) := (((o.step w1 n1).step w' n').wipe (i := j) none).set (dp_mono n'.exF _ _ hx)
        obtain ⟨b, ht, hb0, hb1⟩ := hs k d hd1
        refine ht F0 H0 F' H' _ o1 _ fun F2 H2 w2 n2 => ?_
        have e2 := n2.exH Dl _ e' hT
        have f2 := n2.own Dl _ e' f'
        have n12 := n'.trans w' n2
        cases b with
        | false =>
          refine iteF ⟨F2, vs, w2, n12, f2, e2, ?_, Nat.le_succ_of_le hz⟩
          rw [filterMap_take_succ hd1, hb0 rfl, Option.toList, List.append_nil]
          exact dps_mono n2.exF _ _ hv
        | true =>
          obtain ⟨z, hz1, he⟩ := hb1 rfl
          refine iteT (he F0 H0 F2 H2 _ (o1.step w2 n2) _ fun y F3 H3 w3 n3 d3 => ?_)
          have e3 := n3.exH Dl _ e2 hT
          have f3 := n3.own Dl _ e2 f2
          have n13 := n12.trans w2 n3
          refine ⟨vs, e3, Nat.lt_of_le_of_lt hz (Nat.lt_trans hkl hl), F3, vs ++ [y], w3.write f3 hT, ⟨n13.exF, fun b u e t => ?_, fun b u e n => n13.own b u e n⟩, f3, upd_same, ?_, by rw [List.length_append]; exact Nat.succ_le_succ hz⟩
          · rw [upd_ne (ne_of_none e hD)]
            exact n13.exH b u e t
          · rw [filterMap_take_succ hd1, hz1]
            exact dps_app (dps_mono (n2.exF.trans n3.exF) _ _ hv) (.cons d3 .nil)
      · rw [dps_len hdd, List.take_length] at hv
        have hT := w1.notT hD
        have ex : Ex F' (upd F' Dl (.lst vs)) := Ex.new f'
        have nn := n1.trans w1 n'
        refine q (.ref Dl) (upd F' Dl (.lst vs)) H' (w'.freeze hT e') ⟨nn.exF.trans ex, nn.exH, fun c u e n => ?_⟩ (.lst (.inl (.inl upd_same)) (dps_mono ex _ _ hv))
        have hc : c ≠ Dl := fun z => by
          rw [z] at e
          rw [n1.exH Dl u e hT] at hD
          cases hD
        rw [upd_ne hc]
        exact nn.own c u e n
end
/-! ### defs -/
section
variable {P : Program} {w : World} {K : PySem.W.Frag} {mg : Str → Option Value} {base : Heap} {T : List Addr}
def envOf (N : List Str) (ds : List D) : List Sl := ds.map Sl.dat ++ List.replicate (N.length - ds.length) Sl.no
theorem ok_start {F H : Hp} {N : List Str} {vs : List V} {ds : List D} (wk : Wk T F H) (h : DpAll K F vs ds) : Ok K T F H F H (L2.start N vs) (envOf N ds) := by
  have hl := dps_len h
  refine ⟨wk, Nx.refl T F H, by unfold L2.start envOf; simp [hl], fun i s e => ?_, fun i j a hij hi hj => ?_⟩
  · unfold envOf at e
    unfold L2.start
    by_cases hi : i < ds.length
    · rw [List.getElem?_append_left (by simpa using hi), List.getElem?_map] at e
      cases q : ds[i]? with
      | none => rw [q] at e; cases e
      | some d =>
        rw [q] at e
        cases e
        obtain ⟨v, hv, hd⟩ := dps_get h q
        exact ⟨v, by rw [List.getElem?_append_left (by simpa [hl] using hi), List.getElem?_map, hv]; rfl, hd⟩
    · rw [List.getElem?_append_right (by simpa using hi), List.getElem?_replicate] at e
      split at e
      · cases e; trivial
      · cases e
  · obtain ⟨xs, hi, hq⟩ := hi
    unfold envOf at hi
    by_cases h1 : i < ds.length
    · rw [List.getElem?_append_left (by simpa using h1), List.getElem?_map] at hi
      cases q : ds[i]? with
      | none => rw [q] at hi; cases hi
      | some d => rw [q] at hi; cases hi; cases hq
    · rw [List.getElem?_append_right (by simpa using h1), List.getElem?_replicate] at hi
      split at hi
      · cases hi; cases hq
      · cases hi
/-- a def by its body over data -/
theorem fn_dl {x qual : Str} {st : Stmt} {f : Addr} {fd : FuncData} {N ps : List Str} {k : Nat} {G : List D → D → Prop} (F : Fun K x qual st f fd) (S : FnScope N ps (defScope st)) (len : ∀ ds d, G ds d → ds.length = ps.length)
    (hbody : ∀ (cdv : Value) (A : Around) (outer : List Env) (s : Shared) (H : Hp) (E : XK), Room k (A.deeper (envOfC qual (defScope st) s.heap.objs.size f cdv)) →
      ∃ t, PSs (cxOf CX0 P w K mg base N qual (defScope st) f cdv A outer s H E).nox (defBody st) t ∧ ∀ F0 H0 ds d, G ds d → StD K T F0 H0 t (envOf N ds) { nx := fun _ => d = .none, rt := fun d' => d' = d }) :
    FnOk P w K mg base CX0 (k + 1) f fd ps (PrD K T G) := by
  refine F.ok S (fun vs H Q E ⟨F, ds, d, _, hd, hg, _⟩ => by rw [dps_len hd]; exact len ds d hg) (fun cdv A outer s H vs Q E hr h => ?_)
  obtain ⟨F0, ds, d, wk, hd, hg, q⟩ := h
  obtain ⟨t, ht, hst⟩ := hbody cdv A outer s H E hr
  refine ⟨t, ht, hst F0 H ds d hg F0 H _ (ok_start wk hd) _ ⟨fun e F' H' σ' p o _ => ?_, fun d' v F' H' p w' n' hv => ?_, fun _ _ _ _ p _ _ => False.elim p, fun _ _ _ _ p _ _ => False.elim p, fun _ _ _ _ _ _ p _ _ => False.elim p⟩⟩
  · have p' : d = .none := p
    subst p'
    exact q .non F' H' o.wk o.nx .non
  · have p' : d' = d := p
    subst p'
    exact q v F' H' w' n' hv
end
end DL
set_option Elab.async false
set_option linter.all false
set_option maxRecDepth 100000
set_option maxHeartbeats 2000000
/-! Promises as functions; the shapes of data that are used. -/
namespace DL
open PySem PySem.Spec PyProof.Rows L2
open Evl (Ex)
abbrev dInts (ns : List Int) : D := .list (ns.map PyData.int)
abbrev dBools (bs : List Bool) : D := .list (bs.map PyData.bool)
def GF {α : Type} (arg : α → List D) (pre : α → Prop) (out : α → D) : List D → D → Prop := fun ds d => ∃ x, ds = arg x ∧ pre x ∧ d = out x
section
variable {P : Program} {w : World} {K : PySem.W.Frag} {mg : Str → Option Value} {base : Heap} {T : List Addr}
theorem fn_gf {x qual : Str} {st : Stmt} {f : Addr} {fd : FuncData} {N ps : List Str} {k : Nat} {α : Type} {arg : α → List D} {pre : α → Prop} {out : α → D} (F : Fun K x qual st f fd) (S : FnScope N ps (defScope st)) (len : ∀ x, (arg x).length = ps.length)
    (hbody : ∀ (cdv : Value) (A : Around) (outer : List Env) (s : Shared) (H : Hp) (E : XK), Room k (A.deeper (envOfC qual (defScope st) s.heap.objs.size f cdv)) →
      ∃ t, PSs (cxOf CX0 P w K mg base N qual (defScope st) f cdv A outer s H E).nox (defBody st) t ∧ ∀ F0 H0 x, pre x → StD K T F0 H0 t (envOf N (arg x)) { nx := fun _ => out x = .none, rt := fun d' => d' = out x }) :
    FnOk P w K mg base CX0 (k + 1) f fd ps (PrD K T (GF arg pre out)) :=
  fn_dl F S (fun ds d ⟨x, e, _, _⟩ => by rw [e]; exact len x) fun cdv A outer s H E hr => by
    obtain ⟨t, ht, h⟩ := hbody cdv A outer s H E hr
    refine ⟨t, ht, fun F0 H0 ds d ⟨x, e, p, o⟩ => ?_⟩
    subst e o
    exact h F0 H0 x p
end
theorem s_env {K : PySem.W.Frag} {T : List Addr} {F0 H0 : Hp} {t : TS} {env env' : List Sl} {P : Po} (e : env = env') (h : StD K T F0 H0 t env' P) : StD K T F0 H0 t env P := e ▸ h
theorem bools_get {bs : List Bool} {k : Nat} {b : Bool} (h : bs[k]? = some b) : atI (bs.map PyData.bool) (k : Int) = some (.bool b) := atI_k (by rw [List.getElem?_map, h]; rfl)
theorem ints_get {bs : List Int} {k : Nat} {b : Int} (h : bs[k]? = some b) : atI (bs.map PyData.int) (k : Int) = some (.int b) := atI_k (by rw [List.getElem?_map, h]; rfl)
theorem map_at {α β : Type} {f : α → β} {l : List α} {k : Nat} {d : β} (h : (l.map f)[k]? = some d) : ∃ x, l[k]? = some x ∧ d = f x := by
  rw [List.getElem?_map] at h
  cases e : l[k]? with
  | none => rw [e] at h; cases h
  | some x => rw [e] at h; exact ⟨x, rfl, (Option.some.inj h).symm⟩
theorem line_big {n : Nat} (h : n ≤ 100000) : n ≤ sizeLine := Nat.le_trans h (by decide)
theorem line_lt {n : Nat} (h : n < 100000) : n < sizeLine := Nat.lt_of_lt_of_le h (by decide)
end DL
set_option Elab.async false
set_option linter.all false
set_option maxRecDepth 100000
set_option maxHeartbeats 2000000
/-! all(elt for x in xs): xs a list, the element any expression (calls too) that gives True or False. -/
namespace AG
open PySem PySem.Spec PyProof.Rows L2 GxR GenW
open Sem (wp)

/-- the names of a generator expression's block -/
structure GBlk (N : List Str) (sc scope : Scope) (own : List (Str × Nat)) (x : Str) : Prop where
  blk : BlkOk N sc scope own
  co : scope.isCoroutine = false
  nocell : ∀ y ∈ scope.names, y.2 ≠ .cell
  dot : scope.names.lookup (".0" : Str) = some NameKind.local
  loc : scope.names.lookup x = some .local
/-- the context of the generator's frame -/
abbrev gnX (X : Cx) (A : Around) (s : Shared) (H : Hp) (env : Env) (it : Addr) (pn : List (Addr × Obj)) : Cx :=
  { X with A := A, s_0 := s, H_0 := H, env := env, outer := X.stack, stack := env :: X.stack, ex := [it], fn := fun _ => false, calm := true, pn := pn, xe := fun _ _ => False }
theorem inv_heap {X : Cx} {pins : List (Addr × Obj)} {σ : L2.St} {H : Hp} {s s' : Shared} (I : Inv X pins σ H s) (h : s'.heap = s.heap) (o : s'.os = s.os) (b : AllBare s'.gens) : Inv X pins σ H s' :=
  ⟨I.ok, o.trans I.os, b, by rw [h]; exact I.base, by rw [h]; exact I.loc, by rw [h]; exact I.cell, I.free, I.freeC, by rw [h]; exact I.pin, by rw [h]; exact I.hok, I.len⟩

section
variable {X : Cx} {pins : List (Addr × Obj)} {σ : L2.St} {H : Hp} {s : Shared}
theorem gen_start {scope : Scope} {own : List (Str × Nat)} {x : Str} {it a : Addr} {og : Obj} {A : Around} {code : Value} {h5 : Heap} {G : Array GenState} {tk : Nat} {m : Str → Option Value}
    (I : Inv X pins σ H s) (ok : GBlk X.N X.env.scope scope own x) (hN : X.N.Nodup) (hA : A.handled = none)
    (hfr : A.frames = some (genEnv scope (cloFrom X.env.cells scope.names []) s.heap.objs.size code builtinsNs X.env :: X.stack))
    (hit : FpOk X pins H it) (hlt : it < s.heap.objs.size) (hG : AllBare G) (kp : ∀ b o, s.heap.get? b = some o → h5.get? b = some o) (hns : h5.Ns s.heap.objs.size m)
    (ha : h5.get? a = some og) (hna : s.heap.objs.size < a) (hd : ∀ v, og.data ≠ .cell v) :
    Inv (gnX X A s H (genEnv scope (cloFrom X.env.cells scope.names []) s.heap.objs.size code builtinsNs X.env) it [(a, og)]) [] (wipe σ (own.map (·.2))) H { s with gens := G, toks := tk, heap := h5 } := by
  have hfree : ∀ y ∈ scope.names, y.2 = .free → ∃ c, X.env.cells.lookup y.1 = some c := fun y hy e => by
    rcases ok.blk.free y hy e with k | k
    · exact I.ok.has _ (.inl k)
    · exact I.ok.has _ (.inr k)
  have cm : ∀ {y c}, (cloFrom X.env.cells scope.names []).lookup y = some c → X.env.cells.lookup y = some c := fun {y c} hm => by
    rcases cloFrom_mem (PySem.mem_of_lookup hm) with hm | ⟨h1, rfl⟩
    · cases hm
    · obtain ⟨c, hc⟩ := hfree _ h1 rfl
      rw [hc]
      rfl
  have look : ∀ {y}, scope.names.lookup y = some .free → ∃ c, (cloFrom X.env.cells scope.names []).lookup y = some c ∧ X.env.cells.lookup y = some c := fun {y} hl => by
    obtain ⟨c', e'⟩ := mem_lookup (cloFrom_has (cells := X.env.cells) (acc := []) (PySem.mem_of_lookup hl))
    exact ⟨c', e', cm e'⟩
  have nocell : ∀ y, scope.names.lookup y ≠ some .cell := fun y hy => ok.nocell _ (PySem.mem_of_lookup hy) rfl
  have itfs : it ∉ frs X.stack := fun z => by
    rcases List.mem_cons.mp (I.stkSub it z) with z | z
    · exact hit.2.1 z
    · exact hit.2.2.1 z
  refine ⟨⟨I.ok.mod, ok.blk.kind, I.ok.glob, rfl, Nat.le_refl _, fun y z c e1 e2 => I.ok.inj y z c (cm e1) (cm e2), fun y hy => ?_, fun y c z _ => absurd (show false = true from z) Bool.false_ne_true, fun _ => hA, hfr, .inr ⟨rfl, rfl⟩, fun b hb => ⟨?_, fun y c e => ?_⟩, I.bs, Nat.le_trans I.ok.bsz I.sz, fun b o e hb => ?_, fun b hb => ?_, I.stack, I.stkFree⟩,
    rfl, hG, Un.kept kp, ⟨m, hns, fun i y av e1 e2 e3 => ?_⟩, fun y c e => ?_, I.hok.fresh (Nat.le_refl _), fun y c e => I.freeC y c (cm e), fun p hp => ?_, I.hok.kept kp, by rw [wipe_length]; exact I.len⟩
  · rcases hy with hy | hy
    · exact absurd hy (nocell y)
    · obtain ⟨c, e, _⟩ := look hy
      exact ⟨c, e⟩
  · rw [List.mem_singleton.mp hb]
    exact Nat.ne_of_lt hlt
  · rw [List.mem_singleton.mp hb]
    exact hit.2.2.2.2.1 y c (cm e)
  · rw [List.mem_singleton.mp hb] at e
    rcases hit.2.2.2.1 with z | z
    · exact I.ok.noex it o e z
    · exact absurd (Nat.lt_of_lt_of_le (Heap.lt_size e) (Nat.le_trans I.ok.bsz z)) (Nat.lt_irrefl _)
  · rw [List.mem_singleton.mp hb]
    exact itfs
  · obtain ⟨e2, hne⟩ := wipe_some e2
    have hfr' : scope.names.lookup y = some .free := by
      have e3 : Vis scope y := e3
      rcases e3 with e3 | e3 | e3
      · exfalso
        rcases ok.blk.own _ (PySem.mem_of_lookup e3) (.inl rfl) with e' | e'
        · obtain ⟨p, hp, hpy⟩ := List.mem_map.mp e'
          have e4 := ok.blk.ix p hp
          have : p.1 = y := hpy
          rw [this] at e4
          exact hne (List.mem_map.mpr ⟨p, hp, nodup_ix hN e4 e1⟩)
        · exact e' (List.mem_of_getElem? e1)
      · exact absurd e3 (nocell y)
      · exact e3
    obtain ⟨m', hn, hl⟩ := I.loc
    have hvis : Vis X.env.scope y := (ok.blk.free _ (PySem.mem_of_lookup hfr') rfl).elim (fun k => .inr (.inl k)) (fun k => .inr (.inr k))
    obtain ⟨w, r, q⟩ := hl i y av e1 e2 hvis
    obtain ⟨c, h1, h2⟩ := look hfr'
    refine ⟨w, r, .inr ⟨.inr hfr', ?_⟩⟩
    rcases q with ⟨k, _⟩ | ⟨_, c', e', z⟩
    · have k : X.env.scope.names.lookup y = some .local := k
      rcases ok.blk.free _ (PySem.mem_of_lookup hfr') rfl with k' | k' <;> rw [show X.env.scope.names.lookup y = _ from k'] at k <;> cases k
    · rw [h2] at e'
      cases e'
      exact ⟨c, h1, z.keeps kp⟩
  · obtain ⟨w, z⟩ := I.cell y c (cm e)
    exact ⟨w, z.keeps kp⟩
  · have e : p = (a, og) := by simpa using hp
    subst e
    have hge : s.heap.objs.size ≤ a := Nat.le_of_lt hna
    refine ⟨ha, I.hok.fresh hge, Nat.ne_of_gt hna, fun z => ?_, hd⟩
    rcases List.mem_cons.mp (I.stkSub a z) with z | z
    · have := I.lt
      rw [← z] at this
      exact absurd (Nat.lt_of_lt_of_le this hge) (Nat.lt_irrefl _)
    · exact I.nofs hge z
end

section
variable {X : Cx} {pins : List (Addr × Obj)} {σ : L2.St} {H4 : Hp} {s4 : Shared}
/-- what stands behind a turn of the generator -/
def Out (X : Cx) (H4 : Hp) (s4 : Shared) (it a : Addr) (g : Nat) (s : Shared) (H : Hp) : Prop :=
  s.os = s4.os ∧ AllBare s.gens ∧ Un (frs X.stack) [it] H4 H s4.heap s.heap ∧ HOk X.prog X.w H s.heap ∧ s.heap.IsGen a g ∧ s.heap.NoLimit
def YA (X : Cx) (H4 : Hp) (s4 : Shared) (it a : Addr) (g : Nat) (Q : VK) : Protocol := fun _ _ v s kap =>
  ∃ b H, v = .bool b ∧ Out X H4 s4 it a g s H ∧ (b = false → Q (.bl false) H) ∧ (b = true → ∀ s' : Shared, s'.heap = s.heap → s'.os = s.os → AllBare s'.gens → kap (.send .none) s')
def RA (X : Cx) (H4 : Hp) (s4 : Shared) (it a : Addr) (g : Nat) (Q : VK) : Nat → Shared → Shared → Prop := fun _ _ s => ∃ H, Out X H4 s4 it a g s H ∧ Q (.bl true) H

/-- all's own loop over such a generator -/
theorem drain_all {A : Around} {it a : Addr} {g : Nat} {Q : VK} {R : Result → Shared → Prop} (hh : A.handled = none) (hd : A.depth < recursionLimit)
    (hend : ∀ b s' H, s'.os = s4.os → AllBare s'.gens → Un (frs X.stack) [it] H4 H s4.heap s'.heap → HOk X.prog X.w H s'.heap → Q (.bl b) H → R (.ok (.ret (.bool b))) s') :
    ∀ (k : Nat) (s : Shared), s.heap.IsGen a g → s.heap.NoLimit → (∃ gs, s.gens[g]? = some gs ∧ gs.Goes (model X.prog X.w) A.in1.in1 (fun n s₀ r s₁ => r = .ok .next ∧ RA X H4 s4 it a g Q n s₀ s₁) (YA X H4 s4 it a g Q) k (.send .none) (s.setGen g .running)) →
      codeAny (model X.prog X.w) A (.builtin "all.loop" ⟨[.ref a], []⟩) R s := by
  intro k
  induction k with
  | zero =>
    intro s hg hl ⟨gs, hgs, hgo⟩
    refine codeAny_builtin F.entry_all_loop ?_
    rw [Around.under_plainId F.plain_all_loop _]
    show wpAny _ A.in1 (pyNext (.ref a) >>= _) _ _ s
    refine wpAny_bind (wpAny_pyNext_genexpQ (A := A.in1) (P := RA X H4 s4 it a g Q) hh hl hd hg hgs hgo (fun v s₁ gs' hbare hv => ?_) (fun s₁ hp h' hk => ?_))
    · obtain ⟨b, H, rfl, ⟨o1, o2, o3, o4, o5, o6⟩, h0, h1⟩ := hv
      refine wpAny_bind (wpAny_holding (wpAny_truthy_bool ?_))
      refine wpAny_bind (wpAny_letGo ?_)
      cases b with
      | true => exact False.elim (h1 rfl s₁ rfl rfl o2)
      | false =>
        simp only [Bool.false_eq_true, if_false]
        refine wpAny_bind (wpAny_rule (wpAny_pure ?_))
        exact hend false _ H o1 (allBare_setGen o2 hbare) o3 o4 (h0 rfl)
    · obtain ⟨H, ⟨o1, o2, o3, o4, o5, o6⟩, hq⟩ := hp
      refine wpAny_bind (wpAny_rule (wpAny_pure ?_))
      exact hend true _ H o1 (allBare_setGen o2 rfl) (o3.trans (Un.kept hk)) (o4.kept hk) hq
  | succ k ih =>
    intro s hg hl ⟨gs, hgs, hgo⟩
    have hgl : g < s.gens.size := (Array.getElem?_eq_some_iff.mp hgs).1
    refine codeAny_builtin F.entry_all_loop ?_
    rw [Around.under_plainId F.plain_all_loop _]
    show wpAny _ A.in1 (pyNext (.ref a) >>= _) _ _ s
    refine wpAny_bind (wpAny_gsz (n := g + 1) hgl (wpAny_pyNext_genexpQ (A := A.in1) (P := RA X H4 s4 it a g Q) hh hl hd hg hgs hgo (fun v s₁ gs' hbare hv => ?_) (fun s₁ hp h' hk => ?_)))
    · intro hsz
      obtain ⟨b, H, rfl, ⟨o1, o2, o3, o4, o5, o6⟩, h0, h1⟩ := hv
      refine wpAny_bind (wpAny_holding (wpAny_truthy_bool ?_))
      refine wpAny_bind (wpAny_letGo ?_)
      cases b with
      | true =>
        simp only [if_true]
        have hsz1 : g < s₁.gens.size := by
          have q : (s₁.setGen g gs').gens.size = s₁.gens.size := setGen_size _ _ _
          omega
        refine wpAny_pure ⟨plainId_quiet F.plain_all_loop _, ih _ o5 o6 ⟨gs', setGen_at hsz1, ?_⟩⟩
        exact h1 rfl _ rfl rfl (allBare_setGen (s := s₁.setGen g gs') (allBare_setGen o2 hbare) rfl)
      | false =>
        simp only [Bool.false_eq_true, if_false]
        refine wpAny_bind (wpAny_rule (wpAny_pure ?_))
        exact hend false _ H o1 (allBare_setGen o2 hbare) o3 o4 (h0 rfl)
    · intro hsz
      obtain ⟨H, ⟨o1, o2, o3, o4, o5, o6⟩, hq⟩ := hp
      refine wpAny_bind (wpAny_rule (wpAny_pure ?_))
      exact hend true _ H o1 (allBare_setGen o2 rfl) (o3.trans (Un.kept hk)) (o4.kept hk) hq
end

section
variable {X : Cx} {pins : List (Addr × Obj)} {σ : L2.St} {H4 : Hp} {s4 : Shared}
/-- the generator's own loop from its i-th item on -/
theorem seg_all {A0 A : Around} {scope : Scope} {own : List (Str × Nat)} {x : Str} {j : Nat} {px pos : Pos} {elt iter : Expr} {it a l : Addr} {g : Nat} {og : Obj} {cenv : Env} {te : TE} {xs : List V} {Q : VK} {W : Nat → Hp → Prop}
    (hN : X.N.Nodup) (hj : X.N[j]? = some x) (hov : A0.over (.compLoop (.GeneratorExp elt [⟨.Name x px, iter, [], 0⟩] scope pos) 0 (.ref it) .none cenv) [] = A) (hsc : cenv.scope = scope) (hco : scope.isCoroutine = false)
    (hx : scope.names.lookup x = some .local) (hov2 : own = [(x, j)])
    (hgen : ∀ h : Heap, h.get? a = some og → h.IsGen a g) (hia : a ≠ it)
    (hel : PE (gnX X A s4 H4 cenv it [(a, og)]) elt te)
    (wl : ∀ i H, i ≤ xs.length → W i H → SqL X.K H l xs)
    (wt : ∀ i v H, xs[i]? = some v → W i H → te ((wipe σ (own.map (·.2))).set j (some v)) H fun y H' => ∃ b, y = .bl b ∧ if b = true then W (i + 1) H' else Q (.bl false) H')
    (we : ∀ H, W xs.length H → Q (.bl true) H) :
    ∀ (k i : Nat) (s₀ s : Shared) (H : Hp), xs.length - i = k → i ≤ xs.length → Inv (gnX X A s4 H4 cenv it [(a, og)]) [] (wipe σ (own.map (·.2))) H s → s.heap.IsListIter it l i → H it = none → W i H →
      Seg (model X.prog X.w) A0 (fun n s₀ r s₁ => r = .ok .next ∧ RA X H4 s4 it a g Q n s₀ s₁) (YA X H4 s4 it a g Q) k s₀
        (.compLoop (.GeneratorExp elt [⟨.Name x px, iter, [], 0⟩] scope pos) 0 (.ref it) .none cenv)
        ((model X.prog X.w).den (.compLoop (.GeneratorExp elt [⟨.Name x px, iter, [], 0⟩] scope pos) 0 (.ref it) .none cenv)) [] s := by
  subst hov2
  have stat : ∀ {σ' : L2.St} {H' : Hp} {s' : Shared}, Inv (gnX X A s4 H4 cenv it [(a, og)]) [] σ' H' s' → H' it = none → ∀ b ∈ [it], FpOk (gnX X A s4 H4 cenv it [(a, og)]) [] H' b := fun {σ' H' s'} I' hn b hb => by
    have e := List.mem_singleton.mp hb
    subst e
    refine ⟨hn, (I'.ok.exf b hb).1, I'.ok.exfs b hb, .inl hb, fun y c e => (I'.ok.exf b hb).2 y c e, fun p hp z => ?_⟩
    have e : p = (a, og) := by simpa using hp
    subst e
    exact hia z
  have out : ∀ {σ' : L2.St} {H' : Hp} {s' : Shared}, Inv (gnX X A s4 H4 cenv it [(a, og)]) [] σ' H' s' → Out X H4 s4 it a g s' H' := fun {σ' H' s'} I' =>
    ⟨I'.os, I'.bare, I'.base, I'.hok, hgen _ (I'.pin (a, og) (List.mem_append_left _ List.mem_cons_self)).1, I'.nolimit⟩
  intro k
  induction k with
  | zero =>
    intro i s₀ s H hk hi I st hn w
    have hin : i = xs.length := by omega
    subst hin
    show Seg _ A0 _ _ _ s₀ _ ((compTurn (.GeneratorExp elt [⟨.Name x px, iter, [], 0⟩] scope pos) 0 (.ref it) .none cenv).onRaise (leaving cenv)) [] s
    rw [compTurn_gen, Sem.onRaise_eq_wrap]
    refine seg_bind_wrap (wpAny_standAt ?_)
    have td := (turn_list (P := X.prog) (w := X.w) (K := X.K) (tg := .Name x px) l it).done (gnX X A s4 H4 cenv it [(a, og)]) rfl rfl rfl rfl xs.length [] s _ H (fun _ _ => False) I (stat I hn) st ⟨xs, wl _ _ (Nat.le_refl _) w, Nat.le_refl _⟩
    refine seg_bind_wrap ?_
    rw [hov]
    refine thnF td fun r s6 ⟨hr, I6⟩ => ?_
    subst hr
    exact seg_end (.ok .next) ⟨rfl, H, out I6, we H w⟩
  | succ k ih =>
    intro i s₀ s H hk hi I st hn w
    have hlt : i < xs.length := by omega
    have gx : xs[i]? = some xs[i] := List.getElem?_eq_getElem hlt
    show Seg _ A0 _ _ _ s₀ _ ((compTurn (.GeneratorExp elt [⟨.Name x px, iter, [], 0⟩] scope pos) 0 (.ref it) .none cenv).onRaise (leaving cenv)) [] s
    rw [compTurn_gen, Sem.onRaise_eq_wrap]
    refine seg_bind_wrap (wpAny_standAt ?_)
    have T := turn_list (P := X.prog) (w := X.w) (K := X.K) (tg := .Name x px) l it
    have ti := T.item (gnX X A s4 H4 cenv it [(a, og)]) rfl rfl rfl rfl i [] s _ H (fun _ _ => False) I (stat I hn) st ⟨xs, xs[i], wl _ _ hi w, gx⟩
    refine seg_bind_wrap ?_
    rw [hov]
    refine thnF ti fun r s6 ⟨u, hr, h6⟩ => ?_
    subst hr
    refine seg_bind_wrap ?_
    rw [hov]
    refine thnF h6 fun _ s7 ⟨y, H7, I7, r7, y7, st7, n7⟩ => ?_
    obtain ⟨eH, ey⟩ := y7
    subst eH
    have ey2 : xs[i]? = some y := ey xs (wl _ _ hi w)
    have I7' := I7.pinned (stat I7 (n7 it (List.mem_singleton.mpr rfl))) (T.obj _ _ st7)
    refine seg_bind_wrap ?_
    rw [hov]
    have pg : PG (gnX X A s4 H4 cenv it [(a, og)]) (.Name x px) (gName j) := pg_name hN hj (.inl (by show cenv.scope.names.lookup x = some .local; rw [hsc]; exact hx)) (.inr (by show cenv.scope.names.lookup x = some .local; rw [hsc]; exact hx))
    refine thnF (pg.run _ s7 _ H7 y u (fun σ' H' => σ' = (wipe σ [j]).set j (some y) ∧ H' = H7) I7' r7 ⟨rfl, rfl⟩) fun _ s8 ⟨σ8, H8, I8, e8, e9⟩ => ?_
    subst e8 e9
    refine seg_bind_wrap (wpAny_tests_nil ?_)
    simp only [if_true]
    have hy : ∀ v, yieldOut cenv v = yieldValue v := fun v => by simp only [yieldOut, hsc, hco, Bool.false_eq_true, if_false]
    simp only [hy]
    rw [Sem.bind_eq_wrap', Sem.bind_eq_wrap', Sem.wrap_wrap, Sem.wrap_wrap]
    refine seg_wrap ?_
    rw [hov]
    refine thnF (hel.run _ s8 _ _ _ I8 (wt i y _ ey2 w)) fun z s10 ⟨yv, H10, I10, r10, b, eb, q10⟩ => ?_
    subst eb
    have ez : z = Value.bool b := r10
    subst ez
    have I11 : Inv (gnX X A s4 H4 cenv it [(a, og)]) [] (wipe σ [j]) H10 s10 := (I10.unpinned (pins := [])).weak (by simp) (fun k v e => by
      have q : wipe ((wipe σ [j]).set j (some y)) [j] = wipe σ [j] := DL.wipe_one
      rw [← q] at e
      exact (wipe_some e).1)
    have pin' : ∀ o, s7.heap.get? it = some o → s10.heap.get? it = some o ∧ H10 it = none := fun o e =>
      let z := I10.pin (it, o) (List.mem_append_right _ (List.mem_append_right _ (mem_pinsAt (List.mem_singleton.mpr rfl) e)))
      ⟨z.1, z.2.1⟩
    obtain ⟨oi, eoi, _⟩ := T.obj _ _ st7 it (List.mem_singleton.mpr rfl)
    have n10 := (pin' oi eoi).2
    have st10 : s10.heap.IsListIter it l (i + 1) := T.keep _ _ _ st7 fun c hc o e => by
      rw [List.mem_singleton.mp hc] at e ⊢
      exact (pin' o e).1
    refine seg_at (seg_yield rfl rfl rfl ⟨b, H10, rfl, out I11, fun hb => ?_, fun hb s'' h1 h2 h3 => ?_⟩)
    · rw [hb] at q10
      simpa using q10
    · rw [hb] at q10
      have w10 : W (i + 1) H10 := by simpa using q10
      refine seg_again rfl (ih (i + 1) s'' s'' H10 (by omega) hlt (inv_heap I11 h1 h2 h3) ?_ n10 w10)
      rw [h1]
      exact st10
theorem seg_allStart {A0 A : Around} {scope : Scope} {own : List (Str × Nat)} {x : Str} {j : Nat} {px pos : Pos} {elt iter : Expr} {it a l : Addr} {g : Nat} {og : Obj} {cenv : Env} {te : TE} {xs : List V} {Q : VK} {W : Nat → Hp → Prop}
    (hN : X.N.Nodup) (hj : X.N[j]? = some x) (hov : A0.over (.compLoop (.GeneratorExp elt [⟨.Name x px, iter, [], 0⟩] scope pos) 0 (.ref it) .none cenv) [] = A) (hsc : cenv.scope = scope) (hco : scope.isCoroutine = false)
    (hx : scope.names.lookup x = some .local) (hov2 : own = [(x, j)])
    (hgen : ∀ h : Heap, h.get? a = some og → h.IsGen a g) (hia : a ≠ it)
    (hel : PE (gnX X A s4 H4 cenv it [(a, og)]) elt te)
    (wl : ∀ i H, i ≤ xs.length → W i H → SqL X.K H l xs)
    (wt : ∀ i v H, xs[i]? = some v → W i H → te ((wipe σ (own.map (·.2))).set j (some v)) H fun y H' => ∃ b, y = .bl b ∧ if b = true then W (i + 1) H' else Q (.bl false) H')
    (we : ∀ H, W xs.length H → Q (.bl true) H) (s₀ s : Shared) (H : Hp)
    (I : Inv (gnX X A s4 H4 cenv it [(a, og)]) [] (wipe σ (own.map (·.2))) H s) (st : s.heap.IsListIter it l 0) (hn : H it = none) (w : W 0 H) :
      Seg (model X.prog X.w) A0 (fun n s₀ r s₁ => r = .ok .next ∧ RA X H4 s4 it a g Q n s₀ s₁) (YA X H4 s4 it a g Q) xs.length s₀
        (.compStart (.GeneratorExp elt [⟨.Name x px, iter, [], 0⟩] scope pos) 0 (.ref it) .none cenv)
        ((model X.prog X.w).den (.compStart (.GeneratorExp elt [⟨.Name x px, iter, [], 0⟩] scope pos) 0 (.ref it) .none cenv)) [] s := by
  have loop := seg_all (iter := iter) (px := px) (pos := pos) (A0 := A0) hN hj hov hsc hco hx hov2 hgen hia hel wl wt we xs.length 0 s₀ s H (Nat.sub_zero _) (Nat.zero_le _) I st hn w
  show Seg _ A0 _ _ _ s₀ _ ((compStart (.GeneratorExp elt [⟨.Name x px, iter, [], 0⟩] scope pos) 0 (.ref it) .none cenv).onRaise (leaving cenv)) [] s
  unfold compStart
  rw [Sem.onRaise_eq_wrap]
  show Seg _ A0 _ _ _ s₀ _ ((ask >>= _).wrap _ _ _ _) [] s
  refine seg_bind_wrap (wpAny_askSetting ?_)
  split
  · exact seg_again rfl loop
  · first
      | exact seg_bind_wrap (wpAny_rule (seg_bind_wrap (wpAny_standAt (seg_bind_wrap (wpAny_pyIter_listiter st (seg_again rfl loop))))))
      | (refine seg_bind_wrap (wpAny_rule ?_); show Seg _ A0 _ _ _ s₀ _ ((standAt iter.pos >>= _).wrap _ _ _ _) [] s; exact seg_bind_wrap (wpAny_standAt (seg_bind_wrap (wpAny_pyIter_listiter st (seg_again rfl loop)))))
end

section
variable {X : Cx}
/-- all(elt for x in xs): te the list, telt the element; W: a word of the turn and the heap; P: the table of the def's code, which may grow -/
def tAllG (K : PySem.W.Frag) (P : Addr) (j : Nat) (vs : List Nat) (tl telt : TE) : TE := fun σ H Q => tl σ H fun v H1 => ∃ l xs, v = .ref l ∧ SqL K H1 l xs ∧ TabG H1 P ∧ ∃ W : Nat → Hp → Prop, (∀ H2, Tabbed P H1 H2 → W 0 H2) ∧
  (∀ i H, i ≤ xs.length → W i H → SqL K H l xs) ∧
  (∀ i v H, xs[i]? = some v → W i H → telt ((wipe σ vs).set j (some v)) H fun y H' => ∃ b, y = .bl b ∧ if b = true then W (i + 1) H' else Q (.bl false) H') ∧ ∀ H, W xs.length H → Q (.bl true) H
theorem boot_all' : bootBuiltins "all" = some (.builtin "all") := by decide +kernel
theorem pe_allG {c P : Addr} {elt iter : Expr} {x : Str} {j : Nat} {px p pos gpos : Pos} {scope : Scope} {tl telt : TE} {k : Nat}
    (hr : Room (k + 1) X.A) (hN : X.N.Nodup) (hj : X.N[j]? = some x) (hg : Gl X "all") (hm : X.mg "all" = none) (TB : TabB X.base X.mg c P) (hcode : X.env.code = .ref c) (S : GBlk X.N X.env.scope scope [(x, j)] x) (hi : PE X iter tl)
    (hel : ∀ (A : Around) (s : Shared) (H : Hp) (C : Addr) (cl : List (Str × Addr)) (code : Value) (it : Addr) (pn : List (Addr × Obj)), Room k A → PE (gnX X A s H (genEnv scope cl C code builtinsNs X.env) it pn) elt telt)
    (hs : ∀ v, genFold iter X.env v = pure v := by intro _; rfl)
    (he : starEach [.GeneratorExp elt [⟨.Name x px, iter, [], 0⟩] scope gpos] X.env = (false, eval (.GeneratorExp elt [⟨.Name x px, iter, [], 0⟩] scope gpos) X.env) :: starEach [] X.env := by rfl) :
    PE X (.Call (.Name "all" p) [.GeneratorExp elt [⟨.Name x px, iter, [], 0⟩] scope gpos] [] pos) (tAllG X.K P j [j] tl telt) := by
  refine ⟨fun pins s σ H Q I h => ?_⟩
  refine wpAny_Call_Name_kw (ld_blt I hg hm boot_all' ?_)
  refine PyProof.Rows.callWith_builtin1 ?_ he (by rfl)
  rw [he]
  show wpAny _ _ (spliced ((false, eval (.GeneratorExp elt [⟨.Name x px, iter, [], 0⟩] scope gpos) X.env) :: backTo pos (starEach [] X.env))) _ _ s
  refine Calls.spliced_cons ?_
  refine wpAny_GeneratorExp_make S.co (closure_ok fun y hy e => (S.blk.free y hy e).elim (fun k => I.ok.has _ (.inl k)) fun k => I.ok.has _ (.inr k)) S.nocell S.dot S.blk.kind hr.depth ?_ hs
  refine thn (hi.run pins s σ H _ I h) fun xv s1 ⟨v, H1, I1, r1, q1⟩ => ?_
  obtain ⟨l, xs, rfl, hl, ⟨ps, hP, ht⟩, W, w0, wl, wt, we⟩ := q1
  obtain rfl : xv = Value.ref l := r1
  obtain ⟨its, rv, pl, hz⟩ := I1.list hl
  refine wpAny_pyIter_list pl.isList ?_
  have hf1 := I1.hok.fresh (Nat.le_refl s1.heap.objs.size)
  generalize hoi : ({ cls := .type "list_iterator", data := .fields #[.ref l, .int 0 0] } : Obj) = oi
  have hoi' := hoi
  have hPs : s1.heap.get? P = some { cls := .none, data := .fields ps } := I1.hok P _ hP
  have hP2 : (s1.heap.push oi).get? P = some { cls := .none, data := .fields ps } := Heap.get?_push_of_some _ hPs
  have cd : PySem.W.CodeHd (s1.heap.push oi) c P := TB.code.keeps fun b u e => Heap.get?_push_of_some _ (I1.bk b u e)
  have hPlt : P < s1.heap.objs.size := Heap.lt_size hPs
  have lim2 : (s1.heap.push oi).NoLimit := I1.nolimit.push oi
  have sz2 : (s1.heap.push oi).objs.size = s1.heap.objs.size + 1 := Heap.size_push ..
  have eit : (s1.heap.push oi).get? s1.heap.objs.size = some oi := by
    rw [← hoi]
    exact Heap.get?_push_size _ rfl
  have cont : ∀ (code : Value) (h3 : Heap) (tk : Nat) (ps' : Array Value), Heap.ExtBut P (s1.heap.push oi) h3 → (s1.heap.push oi).objs.size ≤ h3.objs.size → h3.get? P = some { cls := .none, data := .fields ps' } → (∃ more, ps' = ps ++ more) → TriplesOk ps'.toList →
      wpAny (model X.prog X.w) X.A (builtinsFor X.env.globals X.env.builtins) (fun bi s₄ =>
        ∀ h', h'.Ns s₄.heap.objs.size (fun y => if y = ".0" then some (.ref s1.heap.objs.size) else none) → Heap.SameBut s₄.heap.objs.size (s₄.heap.push { cls := .type "frame", data := .dict #[] }) h' →
          wpAny (model X.prog X.w) X.A (spliced (backTo pos (starEach [] X.env))) (fun vs s₂ => wpAny (model X.prog X.w) X.A (call (.builtin "all") (.ref h'.objs.size :: vs)) (EP X pins σ Q) X.xe s₂) X.xe { s₄ with
            gens := s₄.gens.push (.fresh (.compStart (.GeneratorExp elt [⟨.Name x px, iter, [], 0⟩] scope gpos) 0 (.ref s1.heap.objs.size) .none (genEnv scope (cloFrom X.env.cells scope.names []) s₄.heap.objs.size code bi X.env))),
            toks := s₄.toks + 1 + 1 + 1,
            heap := h'.push { cls := .type "generator", data := .fields #[.int s₄.gens.size 0, .str "<genexpr>" (s₄.toks + 1), .str (X.env.qual ++ "<genexpr>") (s₄.toks + 1 + 1)] } }) X.xe { s1 with heap := h3, toks := tk } := by
    intro code h3 tk ps' hx hsz hP3 hmore ht3
    obtain ⟨bm, ob, e1, e2, e3, e4, e5, e6, e7, e8⟩ := TB.bm
    have keep3 : ∀ b u, b ≠ P → s1.heap.get? b = some u → h3.get? b = some u := fun b u hb e => hx b u hb (Heap.get?_push_of_some _ e)
    refine wpAny_builtinsFor (m := X.mg) (by rw [I1.ok.glob]; exact ((I1.mod.glob.keeps I1.bk).push oi).extBut hx TB.gP) e1 e2 (keep3 _ _ e4 (I1.bk _ _ e5)) e6 e7 e8 ?_
    intro h' hns hsb
    refine Calls.spliced_nil ?_
    obtain ⟨more, em⟩ := hmore
    have I4 : Inv X pins σ (upd H1 P (.tbl ps')) { s1 with heap := h3, toks := tk } := by
      rw [em]
      exact inv_tab (more := more) (g' := s1.gens) (d' := s1.drawn) I1 hP keep3 (by rw [← em]; exact hP3) I1.bare
    have szh : h'.objs.size = h3.objs.size + 1 := by rw [hsb.1, Heap.size_push]
    have itP : s1.heap.objs.size ≠ P := Nat.ne_of_gt hPlt
    have ith3 : s1.heap.objs.size < h3.objs.size := by omega
    generalize hog : ({ cls := .type "generator", data := .fields #[.int s1.gens.size 0, .str "<genexpr>" (tk + 1), .str (X.env.qual ++ "<genexpr>") (tk + 1 + 1)] } : Obj) = og
    have keep' : ∀ b o, h3.get? b = some o → h'.get? b = some o := fun b o e => hsb.extBut b o (Nat.ne_of_lt (Heap.lt_size e)) (Heap.get?_push_of_some _ e)
    have keep5 : ∀ b o, h3.get? b = some o → (h'.push og).get? b = some o := fun b o e => Heap.get?_push_of_some _ (keep' b o e)
    have eog : (h'.push og).get? h'.objs.size = some og := by
      rw [← hog]
      exact Heap.get?_push_size _ rfl
    have hgen : ∀ h : Heap, h.get? h'.objs.size = some og → h.IsGen h'.objs.size s1.gens.size := fun h e => ⟨og, _, _, e, by rw [← hog], by rw [← hog], by rw [← hog]⟩
    generalize hcode' : (Code.compLoop (.GeneratorExp elt [⟨.Name x px, iter, [], 0⟩] scope gpos) 0 (.ref s1.heap.objs.size) .none (genEnv scope (cloFrom X.env.cells scope.names []) h3.objs.size code builtinsNs X.env)) = cd0
    have hA : (X.A.in1.in1.over cd0 []).handled = none := hr.hd
    have hfr : (X.A.in1.in1.over cd0 []).frames = some (genEnv scope (cloFrom X.env.cells scope.names []) h3.objs.size code builtinsNs X.env :: X.stack) := by
      rw [← hcode']
      unfold Around.over
      show pushEnvs [genEnv scope (cloFrom X.env.cells scope.names []) h3.objs.size code builtinsNs X.env] X.A.frames = _
      rw [I1.ok.frames]
      rfl
    have hroom : Room k (X.A.in1.in1.over cd0 []) := by
      rw [← hcode']
      refine ⟨hr.hd, ?_, ?_⟩
      · have := hr.dp
        show X.A.depth + 0 + 1 + 3 * k + 5 < _
        omega
      · have := hr.un
        show X.A.units + 1 + 1 + 0 + 3 + 16 * k + 200 < _
        omega
    have fit : FpOk X pins (upd H1 P (.tbl ps')) s1.heap.objs.size := I1.fpOk (Nat.le_refl _) (by rw [upd_ne itP]; exact hf1)
    have gb : AllBare (s1.gens.push (GenState.fresh (.compStart (.GeneratorExp elt [⟨.Name x px, iter, [], 0⟩] scope gpos) 0 (.ref s1.heap.objs.size) .none (genEnv scope (cloFrom X.env.cells scope.names []) h3.objs.size code builtinsNs X.env)))) := I1.bare.push rfl
    have IG := gen_start (tk := tk + 1 + 1 + 1) (A := X.A.in1.in1.over cd0 []) (code := code) (own := [(x, j)]) (og := og) (a := h'.objs.size) (h5 := h'.push og) I4 S hN hA hfr fit ith3 gb keep5 (hns.push _) eog (by show h3.objs.size < h'.objs.size; omega) (fun v z => by rw [← hog] at z; cases z)
    have st5 : (h'.push og).IsListIter s1.heap.objs.size l 0 := by
      refine ⟨oi, keep5 _ _ (hx _ _ itP eit), ?_, ?_⟩
      · rw [← hoi]
      · rw [← hoi]
        rfl
    have hia : h'.objs.size ≠ s1.heap.objs.size := by
      have q : s1.heap.objs.size < h'.objs.size := by omega
      exact Nat.ne_of_gt q
    have wz : W 0 (upd H1 P (.tbl ps')) := w0 _ ⟨⟨ps', upd_same, ht3⟩, fun b hb => upd_ne hb⟩
    refine call_function_tree F.kind_all F.plain_all F.entry_all (F.args_all1 _) ?_
    unfold Builtin.«all»
    refine wpAny_bind (m := oneArg "all" _) (wpAny_pure ?_)
    refine wpAny_bind (wpAny_pyIter_gen (hgen _ eog) ?_)
    refine wpAny_pure ⟨plainId_quiet F.plain_all_loop _, drain_all (X := X) (H4 := upd H1 P (.tbl ps')) (s4 := { s1 with heap := h3, toks := tk }) (it := s1.heap.objs.size) (Q := Q) hr.hd hr.depth (fun b s' H o1 o2 o3 o4 o5 => ?_) xs.length _ (hgen _ eog) (IG.nolimit) ⟨_, Array.getElem?_push_size .., rfl, ?_⟩⟩
    · refine ⟨.bl b, H, I4.call' (ch := [s1.heap.objs.size]) o1 o3 o4 o2 (fun b hb => ?_), rfl, o5⟩
      rw [List.mem_singleton.mp hb]
      exact ⟨fit.2.2.2.1, fit.2.1, fit.2.2.2.2.1, fit.2.2.2.2.2⟩
    · refine seg_allStart (own := [(x, j)]) (j := j) (A := X.A.in1.in1.over cd0 []) (l := l) (xs := xs) (W := W) (te := telt) hN hj (by rw [← hcode']; rfl) rfl S.co S.loc rfl hgen hia (hel _ _ _ _ _ _ _ _ hroom) wl wt we _ _ (upd H1 P (.tbl ps')) (inv_heap IG rfl rfl (allBare_setGen gb rfl)) st5 fit.1 wz
  refine ⟨lim2, ?_⟩
  cases hf : codeAmong gpos ps.toList with
  | none =>
    refine wpAny_genexprCodeX hcode (cd.code hP2 ht) (cd.tab hP2) hf fun c' h' tk hx hge hlt hco' _ htab' _ => ?_
    obtain ⟨o1, vs, f1, tf, fl, tg, inF, tx, tt, op, _, _, _, _, _, _, _, _, _, htr, _⟩ := hco'
    exact cont _ h' tk _ hx (Nat.le_trans hge (Nat.le_of_lt hlt)) htab'.2 ⟨_, rfl⟩ htr
  | some cv =>
    refine wpAny_genexprCode_hit hcode (cd.code hP2 ht) hf ?_
    exact cont cv (s1.heap.push oi) s1.toks ps (Heap.ExtBut.refl _ _) (Nat.le_refl _) hP2 ⟨#[], by simp⟩ ht
end
end AG
set_option Elab.async false
set_option linter.all false
set_option maxRecDepth 100000
set_option maxHeartbeats 2000000
/-! all(..) by data; defs whose code object is known; the law's own call. -/
namespace DL
open PySem PySem.Spec PyProof.Rows L2
open Evl (Ex)
section
variable {K : PySem.W.Frag} {T : List Addr} {env : List Sl} {tl te : TE} {j : Nat}
theorem Wk.tabbed {F H H2 : Hp} {P : Addr} (w : Wk T F H) (hP : P ∈ T) (t : GxR.Tabbed P H H2) : Wk T F H2 ∧ Nx T F H F H2 := by
  have nP := (w.tab P hP).2
  refine ⟨⟨fun a o e => ?_, fun R hR => ?_⟩, Ex.refl F, fun a o e n => ?_, fun _ _ _ n => n⟩
  · have ha : a ≠ P := fun z => by rw [z, nP] at e; cases e
    rw [t.2 a ha]
    exact w.sub a o e
  · by_cases h : R = P
    · subst h
      exact ⟨t.1, nP⟩
    · obtain ⟨⟨ps, e, tr⟩, n⟩ := w.tab R hR
      exact ⟨⟨ps, (t.2 R h).trans e, tr⟩, n⟩
  · have ha : a ≠ P := fun z => n (z ▸ hP)
    rw [t.2 a ha]
    exact e
theorem all_take_succ {p : D → Bool} {ds : List D} {k : Nat} {d : D} (h : ds[k]? = some d) (ht : (ds.take k).all p = true) (hp : p d = true) : (ds.take (k + 1)).all p = true := by
  rw [List.take_add_one, h, List.all_append, ht]
  simp [hp]
theorem d_all {ds : List D} {P : Addr} (p : D → Bool) (hP : P ∈ T) (h : EvD K T tl env (.list ds))
    (hs : ∀ (k : Nat) d, ds[k]? = some d → (ds.take k).all p = true → EvD K T te ((env.set j .no).set j (.dat d)) (.bool (p d))) : EvD K T (AG.tAllG K P j [j] tl te) env (.bool (ds.all p)) := fun F0 H0 F H σ o Q q =>
  h F0 H0 F H σ o _ fun v F1 H1 w1 n1 d1 => by
    cases d1 with
    | @lst a xs _ hsq hdd =>
      refine ⟨a, xs, rfl, Evl.ex_l w1.sub hsq, (w1.tab P hP).1, fun i H' => ∃ F', Wk T F' H' ∧ Nx T F1 H1 F' H' ∧ (ds.take i).all p = true, fun H2 ht => ?_, fun i H' _ ⟨F', w', n', _⟩ => Evl.ex_l (n'.exF.trans w'.sub) hsq, fun i x H' hi ⟨F', w', n', ha⟩ => ?_, fun H' ⟨F', w', n', ha⟩ => ?_⟩
      · obtain ⟨a1, a2⟩ := w1.tabbed hP ht
        exact ⟨F1, a1, a2, rfl⟩
      · obtain ⟨d, hd1, hx⟩ := dps_getV hdd hi
        have o1 : Ok K T F0 H0 F' H' ((wipe σ [j]).set j (some x)) ((env.set j .no).set j (.dat d)) := (((o.step w1 n1).step w' n').wipe (i := j) none).set (dp_mono n'.exF _ _ hx)
        refine hs i d hd1 ha F0 H0 F' H' _ o1 _ fun y F2 H2 w2 n2 d2 => ?_
        cases d2
        refine ⟨p d, rfl, ?_⟩
        have n12 := n'.trans w' n2
        cases hp : p d with
        | true => exact iteT ⟨F2, w2, n12, all_take_succ hd1 ha hp⟩
        | false =>
          refine iteF (q _ F2 H2 w2 (n1.trans w1 n12) ?_)
          have e : ds.all p = false := by
            cases z : ds.all p with
            | false => rfl
            | true =>
              rw [List.all_eq_true] at z
              rw [z d (List.mem_of_getElem? hd1)] at hp
              cases hp
          rw [e]
          exact .bl false
      · rw [dps_len hdd, List.take_length] at ha
        rw [ha] at q
        exact q _ F' H' w' (n1.trans w1 n') (.bl true)
end
/-- a def, its code object known -/
structure FunC (K : PySem.W.Frag) (x qual : Str) (st : Stmt) (f : Addr) (fd : FuncData) (c : Addr) : Prop where
  ex : ∃ (oc : Value) (od : Option Addr) (kV doc pm : Value) (an : Option Addr) (ct : Value) (osl : Array (Option Value)),
    fd = PySem.W.fnOf x qual (defArgs st) (defBody st) (defScope st) .none kV doc pm an (.ref c) ct ∧ K.lookup f = some ⟨oc, od, .func fd, osl⟩ ∧ PySem.W.codeIn K (.ref c) qual = true
theorem func_mk {K : PySem.W.Frag} {x qual : Str} {st : Stmt} {f : Addr} {oc : Value} {od an : Option Addr} {osl : Array (Option Value)} {kV doc pm ct : Value} {c : Addr} (l : K.lookup f = some ⟨oc, od, .func (PySem.W.fnOf x qual (defArgs st) (defBody st) (defScope st) .none kV doc pm an (.ref c) ct), osl⟩)
    (h : PySem.W.codeIn K (.ref c) qual = true) : FunC K x qual st f (PySem.W.fnOf x qual (defArgs st) (defBody st) (defScope st) .none kV doc pm an (.ref c) ct) c := ⟨⟨oc, od, kV, doc, pm, an, ct, osl, rfl, l, h⟩⟩
section
variable {P : Program} {w : World} {K : PySem.W.Frag} {mg : Str → Option Value} {base : Heap} {T : List Addr}
theorem fn_gfC {x qual : Str} {st : Stmt} {f c : Addr} {fd : FuncData} {N ps : List Str} {k : Nat} {α : Type} {arg : α → List D} {pre : α → Prop} {out : α → D} (F : FunC K x qual st f fd c) (S : FnScope N ps (defScope st)) (len : ∀ x, (arg x).length = ps.length)
    (hbody : ∀ (A : Around) (outer : List Env) (s : Shared) (H : Hp) (E : XK), Room k (A.deeper (envOfC qual (defScope st) s.heap.objs.size f (.ref c))) →
      ∃ t, PSs (cxOf CX0 P w K mg base N qual (defScope st) f (.ref c) A outer s H E).nox (defBody st) t ∧ ∀ F0 H0 x, pre x → StD K T F0 H0 t (envOf N (arg x)) { nx := fun _ => out x = .none, rt := fun d' => d' = out x }) :
    FnOk P w K mg base CX0 (k + 1) f fd ps (PrD K T (GF arg pre out)) := by
  obtain ⟨oc, od, kV, doc, pm, an, ct, osl, rfl, lk, hcd⟩ := F.ex
  refine fn_of lk hcd S (fun vs H Q E ⟨F, ds, d, _, hd, ⟨x, e, _, _⟩, _⟩ => by rw [dps_len hd, e]; exact len x) fun A outer s H vs Q E hr h => ?_
  obtain ⟨F0, ds, d, wk, hd, ⟨x, e, hp, o⟩, q⟩ := h
  subst e o
  obtain ⟨t, ht, hst⟩ := hbody A outer s H E hr
  refine ⟨t, ht.nox, hst F0 H x hp F0 H _ (ok_start wk hd) _ ⟨fun e F' H' σ' p o _ => ?_, fun d' v F' H' p w' n' hv => ?_, fun _ _ _ _ p _ _ => False.elim p, fun _ _ _ _ p _ _ => False.elim p, fun _ _ _ _ _ _ p _ _ => False.elim p⟩⟩
  · have p' : out x = .none := p
    have hv : Dp K F' .non (out x) := by rw [p']; exact .non
    exact q .non F' H' o.wk o.nx hv
  · have p' : d' = out x := p
    subst p'
    exact q v F' H' w' n' hv
end

/-! ### lists that the def has made itself: + -/
section
variable (K : PySem.W.Frag) (T : List Addr)
def EvL (te : TE) (env : List Sl) (xs : List D) : Prop := ∀ F0 H0 F H σ, Ok K T F0 H0 F H σ env → ∀ Q : VK, (∀ a vs F' H', Wk T F' H' → Nx T F H F' H' → F' a = some (.lst vs) → DpAll K F' vs xs → Q (.ref a) H') → te σ H Q
end
section
variable {K : PySem.W.Frag} {T : List Addr} {env : List Sl} {ta tb te : TE} {F0 H0 : Hp} {t : TS} {P : Po}
theorem l_lst {ta : TA} {xs : List D} (h : EvA K T ta env xs) (hl : xs.length ≤ sizeLine) : EvL K T (tLst ta) env xs := fun F0 H0 F H σ o Q q =>
  h F0 H0 F H σ o _ fun vs F1 H1 w1 n1 d1 => ⟨by rw [dps_len d1]; exact hl, fun p hp => q p vs (upd F1 p (.lst vs)) _ (w1.new hp) (n1.trans w1 (Nx.new w1 hp)) upd_same (dps_mono (Nx.new w1 hp).exF _ _ d1)⟩
theorem l_sl {tl th : TO} {ds : List D} {lo hi : Option Int} (h : EvD K T te env (.list ds)) (h1 : EvO K T tl env lo) (h2 : EvO K T th env hi) : EvL K T (tSl (rSlL K) te tl th) env ((ds.drop (HT.sIx ds.length 0 lo)).take (HT.sIx ds.length ds.length hi - HT.sIx ds.length 0 lo)) := fun F0 H0 F H σ o Q q =>
  h F0 H0 F H σ o _ fun v F1 H1 w1 n1 d1 => h1 F0 H0 F1 H1 σ (o.step w1 n1) _ fun F2 H2 w2 n2 => h2 F0 H0 F2 H2 σ (o.step w2 (n1.trans w1 n2)) _ fun F3 H3 w3 n3 => by
    have d3 := dp_mono (n2.exF.trans n3.exF) _ _ d1
    cases d3 with
    | @lst a xs _ hs hd =>
      refine ⟨a, xs, rfl, Evl.ex_l w3.sub hs, fun p hp => q p _ (upd F3 p (.lst (cutV xs lo hi))) _ (w3.new hp) ((n1.trans w1 (n2.trans w2 n3)).trans w3 (Nx.new w3 hp)) upd_same ?_⟩
      unfold cutV
      rw [dps_len hd]
      exact dps_mono (Nx.new w3 hp).exF _ _ (dps_take _ (dps_drop _ hd))
theorem l_cat {xs ys : List D} (ha : EvL K T ta env xs) (hb : EvL K T tb env ys) (hl : xs.length + ys.length ≤ sizeLine) : EvL K T (tOp rCat ta tb) env (xs ++ ys) := fun F0 H0 F H σ o Q q =>
  ha F0 H0 F H σ o _ fun a vs F1 H1 w1 n1 e1 d1 => hb F0 H0 F1 H1 σ (o.step w1 n1) _ fun b ws F2 H2 w2 n2 e2 d2 =>
    ⟨a, b, vs, ws, rfl, rfl, w2.sub _ _ (n2.exF _ _ e1), w2.sub _ _ e2, by rw [dps_len d1, dps_len d2]; exact hl, fun p hp => q p (vs ++ ws) (upd F2 p (.lst (vs ++ ws))) _ (w2.new hp) ((n1.trans w1 n2).trans w2 (Nx.new w2 hp)) upd_same (dps_mono (Nx.new w2 hp).exF _ _ (dps_app (dps_mono n2.exF _ _ d1) d2))⟩
theorem l_d {xs : List D} (h : EvL K T te env xs) : EvD K T te env (.list xs) := fun F0 H0 F H σ o Q q =>
  h F0 H0 F H σ o _ fun a vs F1 H1 w1 n1 e1 d1 => q _ F1 H1 w1 n1 (.lst (.inl (.inl e1)) d1)
theorem s_mid (I : List Sl → Prop) (h : StD K T F0 H0 t env { P with nx := I }) (k : ∀ e, I e → P.nx e) : StD K T F0 H0 t env P := fun F H σ o De E =>
  h F H σ o De ⟨fun e F' H' σ' p o' x => E.nx e F' H' σ' (k e p) o' x, E.rt, E.bk, E.ct, E.rtE⟩
end

/-! ### shapes that may be compared -/
theorem lay_ints : ∀ ns : List Int, PyData.canLayAll0 (ns.map PyData.int) = true
  | [] => by simp [PyData.canLayAll0]
  | n :: ns => by simp [PyData.canLayAll0, PyData.canLay0, lay_ints ns]
theorem lay_bools : ∀ ns : List Bool, PyData.canLayAll0 (ns.map PyData.bool) = true
  | [] => by simp [PyData.canLayAll0]
  | n :: ns => by simp [PyData.canLayAll0, PyData.canLay0, lay_bools ns]
theorem dep_ints : ∀ ns : List Int, PyData.depthAll (ns.map PyData.int) = 0
  | [] => by simp [PyData.depthAll]
  | n :: ns => by simp [PyData.depthAll, PyData.depth, dep_ints ns]
theorem dep_bools : ∀ ns : List Bool, PyData.depthAll (ns.map PyData.bool) = 0
  | [] => by simp [PyData.depthAll]
  | n :: ns => by simp [PyData.depthAll, PyData.depth, dep_bools ns]
theorem shaped_ints (ns : List Int) : SeqAt.shaped (dInts ns) = true := by
  simp [SeqAt.shaped, PyData.canLay0, PyData.depth, lay_ints, dep_ints]
theorem shaped_bools (ns : List Bool) : SeqAt.shaped (dBools ns) = true := by
  simp [SeqAt.shaped, PyData.canLay0, PyData.depth, lay_bools, dep_bools]
theorem eqv_self {d : D} (h : SeqAt.shaped d = true) : PyData.eqv d d = true := SeqAt.eqv_refl d (SeqAt.canLay_of_shaped h)

/-! ### the law's own call -/
section
variable {K : PySem.W.Frag} {T : List Addr} {H : Hp} {a : Addr} {ns : List Int} {α : Type}
theorem law_sp {cs : List (Addr × Addr)} {pre : List Int → Prop} (hp : pre ns) (ht : ∀ p ∈ cs, H p.2 = some (.tbl #[])) (hs : SqL K H a (ns.map V.int)) :
    PrD K (cs.map (·.2)) (GF (fun ns : List Int => [dInts ns]) pre fun _ => .bool true) [.ref a] H (fun v _ => v = .bl true) (fun _ _ _ => False) := by
  have tab : ∀ P ∈ cs.map (·.2), H P = some (.tbl #[]) := fun P h => by
    obtain ⟨p, hp, e⟩ := List.mem_map.mp h
    rw [← e]
    exact ht p hp
  have ex : ∀ b u, H b = some u → b ∉ cs.map (·.2) → (if b ∈ cs.map (·.2) then none else H b) = some u := fun b u e n => by rw [if_neg n]; exact e
  refine ⟨fun b => if b ∈ cs.map (·.2) then none else H b, [dInts ns], .bool true, ⟨fun b u e => ?_, fun P h => ⟨⟨#[], tab P h, by simp [TriplesOk]⟩, if_pos h⟩⟩, .cons (.lst ?_ (ints_dps ns)) .nil, ⟨ns, rfl, hp, rfl⟩, fun v F' H' w n h => ?_⟩
  · by_cases hb : b ∈ cs.map (·.2)
    · rw [if_pos hb] at e
      cases e
    · rw [if_neg hb] at e
      exact e
  · rcases hs with (h | ⟨o, h⟩) | h
    · refine .inl (.inl (ex _ _ h fun z => ?_))
      rw [tab a z] at h
      cases h
    · refine .inl (.inr ⟨o, ex _ _ h fun z => ?_⟩)
      rw [tab a z] at h
      cases h
    · exact .inr h
  · cases h
    rfl
end
end DL
namespace DL
open PySem PySem.Spec PyProof.Rows L2
theorem sl_to {α : Type} (l : List α) (k : Nat) : (l.drop (HT.sIx l.length 0 none)).take (HT.sIx l.length l.length (some (k : Int)) - HT.sIx l.length 0 none) = l.take k := by
  rw [HT.sIx_none, HT.sIx_nat]
  show l.take (min k l.length - 0) = l.take k
  rw [Nat.sub_zero]
  by_cases h : k ≤ l.length
  · rw [Nat.min_eq_left h]
  · rw [Nat.min_eq_right (by omega), List.take_length, List.take_of_length_le (by omega)]
theorem sl_from {α : Type} (l : List α) (k : Nat) : (l.drop (HT.sIx l.length 0 (some (k : Int)))).take (HT.sIx l.length l.length none - HT.sIx l.length 0 (some (k : Int))) = l.drop k := by
  rw [HT.sIx_none, HT.sIx_nat]
  by_cases h : k ≤ l.length
  · rw [Nat.min_eq_left h, List.take_of_length_le (by rw [List.length_drop]; omega)]
  · rw [Nat.min_eq_right (by omega), List.drop_length, List.drop_of_length_le (by omega), List.take_nil]
theorem pick4 (i a b c d : Int) : ∃ z, atI ([.int a, .int b, .int c, .int d] : List D) (i % 4) = some (.int z) ∧ (z = a ∨ z = b ∨ z = c ∨ z = d) := by
  have h : i % 4 = 0 ∨ i % 4 = 1 ∨ i % 4 = 2 ∨ i % 4 = 3 := by omega
  rcases h with h | h | h | h <;> rw [h]
  · exact ⟨a, rfl, .inl rfl⟩
  · exact ⟨b, rfl, .inr (.inl rfl)⟩
  · exact ⟨c, rfl, .inr (.inr (.inl rfl))⟩
  · exact ⟨d, rfl, .inr (.inr (.inr rfl))⟩
theorem rest_nat (i : Int) (n : Nat) (h : 0 < n) : ∃ k : Nat, i % (n : Int) = (k : Int) ∧ k < n :=
  ⟨(i % (n : Int)).toNat, by have := Int.emod_nonneg i (show (n : Int) ≠ 0 by omega); omega, by have h1 := Int.emod_lt_of_pos i (show 0 < (n : Int) by omega); have := Int.emod_nonneg i (show (n : Int) ≠ 0 by omega); omega⟩
end DL
set_option Elab.async false
set_option linter.all false
set_option maxRecDepth 100000
set_option maxHeartbeats 2000000
/-! The end of a law's row: the tables of the defs' code objects come from what the top has left. -/
namespace DL
open PySem PySem.Spec PyProof.Rows L2
theorem walk_dl {l : PySem.W.OpenLaw} {n k : Nat} {q : Program} {loose : List Str} {XP : (Str → Option Value) → Heap → Prop} {YP : World → Heap → Prop} {d : DefRec} {K : Params → PySem.W.Frag} {CX : World → CXT} {x : Str}
    (hn : l.most = some n) (hn2 : n ≤ sizeLine) (hdf : d.params.defaults = []) (hr : Room k callerA) (hY : ∀ (w : World) (h : Heap), YP w h → (K w.params).In h)
    (F : ∀ (w : World) (mg : Str → Option Value) (fa : Addr) (h : Heap), (K w.params).In h → h.Ns mainGlobals mg → mg d.name = some (.ref fa) →
      (∀ (y : Str) (e : DefRec) (c P : Addr), (recsOf q).find? (fun e => e.name == y) = some e → PySem.W.tabIn (K w.params) y = some (c, P) → PySem.W.CodeHd h c P ∧ h.get? P = some (PySem.W.tabObj #[])) → LamX.LawAtS l w (K w.params) (CX w) k n x mg fa h)
    (hCX : ∀ (w : World) (H : Hp) (s : Shared) (e : Value) (s' : Shared), CX w [] H s (fun _ _ _ => False) e s' → False) :
    PySem.W.WalkO q loose XP YP l.row.toRowW d [] (fun f vs => PySem.call f vs) := by
  refine Att.attach_callB hn hdf fun w s₀ s₁ mg mb fa o pm cd doc a vs ns G Y ho hd hcd hmg hobj hints hlen hbits hg => ?_
  have KX := hY w _ Y
  obtain ⟨fd, cs, sp, hT, nT, C, hb, hsp, hF⟩ := F w mg fa _ KX G.T.g hmg fun y e c P h1 h2 => PySem.W.tab_of G.T KX h1 h2
  exact LamX.law_callTs KX G.T.g G.T.b G.T.builtins G.T.nolimit hg hT nT C G.T.bmain hobj hints (Nat.le_trans hlen hn2) hr hF hb (fun H hH hS => hsp H a ns hlen hbits hH hS) fun H e s' => hCX w H s₁ e s'
theorem tabIn_of {K : PySem.W.Frag} {x : Str} {f c P : Addr} {oc oc' : Value} {od od' : Option Addr} {fd : FuncData} {sl sl' : Array (Option Value)} {vs : Array Value}
    (h1 : PySem.W.nsIn K mainGlobals x = some (some (.ref f))) (h2 : K.lookup f = some ⟨oc, od, .func fd, sl⟩) (h3 : fd.code = .ref c) (h4 : K.lookup c = some ⟨oc', od', .fields vs, sl'⟩) (h5 : vs[11]? = some (.ref P)) : PySem.W.tabIn K x = some (c, P) := by
  unfold PySem.W.tabIn
  rw [h1]
  dsimp only
  rw [h2]
  dsimp only
  rw [h3]
  dsimp only
  rw [h4]
  dsimp only
  rw [h5]
theorem noTab {K : PySem.W.Frag} {h : Heap} {P : Addr} (X : K.In h) (nt : PySem.W.noTabs K = true) (e : h.get? P = some (PySem.W.tabObj #[])) : K.lookup P = none := by
  cases q : K.lookup P with
  | none => rfl
  | some o =>
    have e2 := X P o q
    rw [e] at e2
    have e3 : PySem.W.tabObj #[] = o := Option.some.inj e2
    have h2 := List.all_eq_true.mp nt (P, o) (PySem.W.mem_of_lookupK q)
    subst e3
    exact absurd (show false = true from h2) Bool.false_ne_true
theorem tab_glob {base : Heap} {mg : Str → Option Value} {c P : Addr} (t : LamX.TabB base mg c P) : GxR.TabB base mg c P := ⟨t.code, t.bm, t.gP⟩
end DL
set_option Elab.async false
set_option linter.all false
set_option maxRecDepth 100000
set_option maxHeartbeats 2000000
/-! for x in reversed(text): a text has no __reversed__, so its items are asked for from the last place down. -/
namespace RS
open PySem PySem.Spec PyProof.Rows L2

theorem text_norev : typeLookup (.type "str") "__reversed__" = pure none := by rw [typeLookup_type, builtinLookup_eq_fast]; kernel_rfl
/-- the walker over the text z, the next place i -/
def Wkr (h : Heap) (a : Addr) (z : Str) (t : Tok) (i : Int) : Prop := ∃ o, h.get? a = some o ∧ o.cls = .type "reversed" ∧ o.data = .fields #[.str z t, rawInt i]
section
variable {pr : Program} {wo : World} {Ar : Around} {Er : Value → Shared → Prop} {sh : Shared} {z : Str} {t : Tok}
theorem Wkr.ty {a : Addr} {i : Int} (x : Wkr sh.heap a z t i) : sh.TypeIs (.ref a) "reversed" := let ⟨o, h1, h2, _⟩ := x; ⟨o, h1, h2⟩
theorem code_rs {R : Value → Shared → Prop} (hz : z.length ≤ sizeLine)
    (k : R (.ref sh.heap.objs.size) { sh with heap := sh.heap.push { cls := .type "reversed", data := .fields #[.str z t, rawInt ((z.length : Int) - 1)] }, toks := sh.toks + 1 + 1 }) :
    codeAny (model pr wo) Ar (.call (.builtin "reversed.__new__") ⟨[.type "reversed", .str z t], []⟩) (wants R Er) sh := by
  have ht : sh.TypeIs (.str z t) "str" := typeIs_str sh z t
  have hb := line63
  refine codeAny_of_tree ?_
  show wpAny _ Ar.in1 (do checkBuiltinCall "reversed.__new__" ⟨[.type "reversed", .str z t], []⟩; again (.builtin "reversed.__new__" ⟨[.type "reversed", .str z t], []⟩)) _ _ sh
  refine wpAny_bind (wpAny_of_eq (PySem.F.newCall_reversed_1 _) (wpAny_pure ⟨plainId_quiet PySem.F.plain_reversed_new _, codeAny_builtin PySem.F.entry_reversed_new ?_⟩)); rw [Around.under_plainId PySem.F.plain_reversed_new _]
  unfold Builtin.«reversed.__new__»; refine wpAny_bind (wpAny_of_eq (newClass_reversed _) ?_)
  try dsimp only
  refine wpAny_bind (wpAny_of_eq (a := ()) (by first | rfl | kernel_rfl) ?_); try dsimp only
  refine wpAny_bind (wpAny_of_eq (a := ()) (by first | rfl | kernel_rfl) ?_); try dsimp only
  refine wpAny_bind (wpAny_specialOf ht text_norev ?_); try dsimp only
  refine wpAny_bind ?_
  wp_delta
  refine wpAny_bind (wpAny_isInstance (T := "str") (U := "dict") (b := false) ht PySem.F.sub_str_dict ?_); try dsimp only
  try rw [if_neg Bool.false_ne_true]
  try dsimp only
  refine wpAny_bind (wpAny_specialOf ht PySem.F.slot_str_getitem.lookup ?_); try dsimp only
  try rw [if_pos (by decide +kernel)]
  refine wpAny_pure ?_; try dsimp only
  try rw [if_neg (by decide)]
  try dsimp only
  refine wpAny_bind (P.len_str (by omega) ?_)
  refine wpAny_bind (wpAny_of_eq (a := some ((z.length : Nat) : Int)) rfl ?_); try dsimp only
  refine wpAny_bind ?_
  show wpAny _ _ (newObj (.type "reversed") (.fields #[.str z t, rawInt ((z.length : Int) - 1)])) _ _ _
  exact wpAny_newObj_type (wpAny_pure k)
theorem call_rs {R : Value → Shared → Prop} (hz : z.length ≤ sizeLine)
    (k : R (.ref sh.heap.objs.size) { sh with heap := sh.heap.push { cls := .type "reversed", data := .fields #[.str z t, rawInt ((z.length : Int) - 1)] }, toks := sh.toks + 1 + 1 }) :
    wpAny (model pr wo) Ar (call (.type "reversed") [.str z t]) R Er sh := by
  refine callType_codes (Q₁ := fun ob s1 => s1.TypeIs ob "reversed" ∧ R ob s1) RT.called_rt (PySem.F.typeCall_reversed_1 _) PySem.F.entry_object_init (code_rs (Ar := Ar.in1) hz ⟨⟨_, Heap.get?_push_size _ rfl, rfl⟩, k⟩) fun ob s1 h1 => ?_
  exact ⟨h1.1, PySem.F.args_object_init_2 ob _, object_init_meets RT.called_rt.init.lookup RT.called_rt.made (by decide) pr wo Ar.in1 _ s1 ⟨h1.1, rfl, h1.2⟩⟩
theorem next_rs {it : Addr} {i c : Nat} {R : Option Value → Shared → Prop} (hi : Wkr sh.heap it z t (i : Int)) (hc : z.cps[i]? = some c) (hz : z.length ≤ sizeLine)
    (k : ∀ h' tk u, Wkr h' it z t ((i : Int) - 1) → Heap.SameBut it sh.heap h' → R (some (.str ⟨#[c]⟩ u)) { sh with heap := h', toks := tk }) : wpAny (model pr wo) Ar (pyNext (.ref it)) R Er sh := by
  obtain ⟨o, h1, h2, h3⟩ := id hi
  have hlt : i < z.cps.size := (Array.getElem?_eq_some_iff.mp hc).1
  have ht : sh.TypeIs (.str z t) "str" := typeIs_str sh z t
  have hb := line63
  have hl : z.length = z.cps.size := rfl
  unfold pyNext
  refine wpAny_bind (wpAny_attempt (wpAny_callSpecial?_slot (name := Str.ofString "__next__") hi.ty RT.slot_rt_next (wpAny_call_entry RT.slot_rt_next hi.ty RT.entry_rt_next ?_ (RT.args_rt_next _))))
  unfold Builtin.«reversed.__next__»; refine wpAny_bind (wpAny_of_eq (a := (Value.ref it, [])) rfl ?_)
  try dsimp only
  refine wpAny_bind (wpAny_field h1 h3 (x := .str z t) rfl ?_); try dsimp only
  refine wpAny_bind (wpAny_field h1 h3 (x := rawInt (i : Int)) rfl ?_)
  show wpAny _ _ (if (i : Int) < 0 then _ else _) _ _ sh
  rw [if_neg (by omega)]
  try dsimp only
  refine wpAny_bind (wpAny_specialOf ht PySem.F.slot_str_getitem.lookup ?_); try dsimp only
  try rw [if_neg (by decide)]
  try dsimp only
  refine wpAny_bind (wpAny_mkInt (wpAny_bind (wpAny_attempt ?_)))
  have fin : seqIndex? (i : Int) z.length = some i := seqIndex_of (by omega) (by omega)
  refine P.getItem_str (c := c) (by simp only [Bool.or_eq_false_iff, decide_eq_false_iff_not]; omega) (by rw [fin]; exact hc) ?_
  try dsimp only
  refine wpAny_bind (wpAny_field (s := { sh with toks := sh.toks + 1 + 1 }) h1 h3 (x := rawInt (i : Int)) rfl ?_); try dsimp only
  refine wpAny_bind (wpAny_setField (s := { sh with toks := sh.toks + 1 + 1 }) h1 h3 (by simp) ?_)
  first
  | refine wpAny_pure ⟨_, rfl, wpAny_pure (k _ _ _ ?_ (Heap.SameBut.update ..))⟩
  | refine wpAny_bind (wpAny_pure (wpAny_pure ⟨_, rfl, wpAny_pure (k _ _ _ ?_ (Heap.SameBut.update ..))⟩))
  exact ⟨_, Heap.get?_update_self _ h1 (Obj.isFreed_of_fields (Obj.data_mapFields h3 _)), (Obj.cls_mapFields ..).trans h2, by rw [Obj.data_mapFields h3]; simp⟩
theorem end_rs {it : Addr} {R : Option Value → Shared → Prop} (hh : Ar.handled = none) (hi : Wkr sh.heap it z t (-1)) (k : ∀ h', Heap.ExtBut it sh.heap h' → R none { sh with heap := h' }) : wpAny (model pr wo) Ar (pyNext (.ref it)) R Er sh := by
  obtain ⟨o, h1, h2, h3⟩ := id hi
  unfold pyNext
  refine wpAny_bind (wpAny_attempt (wpAny_callSpecial?_slot (name := Str.ofString "__next__") hi.ty RT.slot_rt_next (wpAny_call_entry RT.slot_rt_next hi.ty RT.entry_rt_next ?_ (RT.args_rt_next _))))
  unfold Builtin.«reversed.__next__»; refine wpAny_bind (wpAny_of_eq (a := (Value.ref it, [])) rfl ?_)
  try dsimp only
  refine wpAny_bind (wpAny_field h1 h3 (x := .str z t) rfl ?_); try dsimp only
  refine wpAny_bind (wpAny_field h1 h3 (x := rawInt (-1)) rfl ?_)
  show wpAny _ _ (if (-1 : Int) < 0 then _ else _) _ _ sh
  rw [if_pos (by decide)]
  try dsimp only
  refine wpAny_bind (wpAny_rule (wpAny_bind ?_))
  wp_delta
  refine wpAny_bind (wpAny_setField h1 h3 (by simp) ?_)
  have h4 := Heap.get?_update_self (Obj.mapFields (·.setIfInBounds 1 (rawInt (-1)))) h1 (Obj.isFreed_of_fields (Obj.data_mapFields h3 _))
  refine wpAny_setField (s := { sh with heap := sh.heap.update it (Obj.mapFields (·.setIfInBounds 1 (rawInt (-1)))) }) h4 (Obj.data_mapFields h3 _) (by simp) ?_
  try dsimp only
  first
  | show wpAny _ _ (newExc (.type "StopIteration") [] >>= _) _ _ _
  | (refine wpAny_bind ?_; show wpAny _ _ (newExc (.type "StopIteration") [] >>= _) _ _ _)
  | (refine wpAny_bind ?_; wp_delta; show wpAny _ _ (newExc (.type "StopIteration") [] >>= _) _ _ _)
  refine wpAny_bind ?_; simp only [newExc, newTuple]
  refine wpAny_bind (wpAny_newObj_type ?_ (by size_fits)); refine wpAny_bind (m := firstArgMember _ _) (wpAny_of_eq (a := Value.none) (by first | rfl | (simp only [firstArgMember]; rfl)) ?_)
  refine wpAny_newObj_type ?_ (by size_fits)
  simp only [raiseNew]; refine wpAny_bind (wpAny_handled ?_)
  first | rw [show Ar.in1.handled = none from hh] | rw [hh]
  refine wpAny_bind (wpAny_pure (wpAny_throw ?_))
  refine wpAny_bind (wpAny_isInstance (T := "StopIteration") (b := true) ⟨_, Heap.get?_push_size _ rfl, rfl⟩ isSubtype_stop ?_); refine wpAny_pure (k _ ?_)
  refine ((?_ : Heap.ExtBut it sh.heap _).push _).push _
  exact fun b ob hb e => (Heap.get?_update_other _ _ (Ne.symm hb)).trans ((Heap.get?_update_other _ _ (Ne.symm hb)).trans e)
theorem iter_rs {it : Addr} {i : Int} {R : Value → Shared → Prop} (hi : Wkr sh.heap it z t i) (k : R (.ref it) sh) : wpAny (model pr wo) Ar (pyIter (.ref it)) R Er sh := by
  refine wpAny_pyIter_slot hi.ty RT.slot_rt_iter (wpAny_call_entry RT.slot_rt_iter hi.ty RT.entry_rt_iter (show wpAny _ _ (ret (.ref it)) _ _ sh from ?_) (RT.args_rt_iter _))
  exact wpAny_pure ⟨_, rfl, "reversed", _, hi.ty, RT.slot_rt_next.lookup, k⟩
end
/-- a text from its end: turn k gives the sign at n - 1 - k -/
def Iz (z : Str) : It := ⟨fun k _ => k < z.cps.size, fun k H v H' => H' = H ∧ ∃ c, z.cps[z.cps.size - 1 - k]? = some c ∧ v = .str ⟨#[c]⟩, fun k _ => z.cps.size ≤ k⟩
theorem turn_rs {pr : Program} {wo : World} {K : PySem.W.Frag} {tg : Expr} (it : Addr) (z : Str) (t : Tok) (hz : z.length ≤ sizeLine) : Turn pr wo K tg (Iz z) [it] it (fun k h => k ≤ z.cps.size ∧ Wkr h it z t ((z.cps.size : Int) - 1 - (k : Nat))) where
  mem := List.mem_singleton.mpr rfl
  obj := fun k h st b hb => by obtain rfl : b = it := by simpa using hb
                               obtain ⟨_, o, e1, e2, e3⟩ := st
                               exact ⟨o, e1, fun v y => by rw [e3] at y; cases y⟩
  keep := fun k h h' ⟨a1, o, e1, e2⟩ kk => ⟨a1, o, kk it (List.mem_singleton.mpr rfl) o e1, e2⟩
  item := by
    intro X hP hw hK hc k pins s σ H Ex I hf ⟨ha, hit⟩ hg
    subst hP hw hK
    obtain ⟨f0, f1, _, f3, f4, f5⟩ := hf it (List.mem_singleton.mpr rfl)
    have hg : k < z.cps.size := hg
    have e1 : (z.cps.size : Int) - 1 - (k : Nat) = ((z.cps.size - 1 - k : Nat) : Int) := by omega
    rw [e1] at hit
    have hj : z.cps.size - 1 - k < z.cps.size := by omega
    refine next_rs hit (Array.getElem?_eq_getElem hj) hz fun h' tk u st' sb => ?_
    have e2 : ((z.cps.size - 1 - k : Nat) : Int) - 1 = (z.cps.size : Int) - 1 - ((k + 1 : Nat) : Int) := by omega
    rw [e2] at st'
    have J : Inv X pins σ H { s with heap := h', toks := tk } := I.turned (t' := tk) (fun b o hb e => (sb.2 b hb).trans e) f0 f1 f3 f4 f5
    obtain ⟨o, q1, q2, q3⟩ := id st'
    exact ⟨_, rfl, go_of (s := { s with heap := h', toks := tk }) q1 q2 q3 (by decide) ⟨.str ⟨#[z.cps[z.cps.size - 1 - k]]⟩, H, J, ⟨u, rfl⟩, ⟨rfl, _, Array.getElem?_eq_getElem hj, rfl⟩, ⟨hg, st'⟩, fun b hb => (hf b hb).1⟩⟩
  done := by
    intro X hP hw hK hc k pins s σ H Ex I hf ⟨ha, hit⟩ hg
    subst hP hw hK
    obtain ⟨f0, f1, _, f3, f4, f5⟩ := hf it (List.mem_singleton.mpr rfl)
    have hg : z.cps.size ≤ k := hg
    have e1 : (z.cps.size : Int) - 1 - (k : Nat) = -1 := by omega
    rw [e1] at hit
    exact end_rs (I.ok.hd hc) hit fun h' eb => ⟨rfl, I.turned (t' := s.toks) (fun b o hb e => eb b o hb e) f0 f1 f3 f4 f5⟩
  self := fun A k s Q E ⟨_, hit⟩ q => iter_rs hit q
def iRevS (te : TE) : TI := fun σ H R => te σ H fun v H1 => ∃ z, v = .str z ∧ z.length ≤ sizeLine ∧ R (Iz z) H1
theorem pi_revS {X : Cx} {tg e : Expr} {te : TE} {p pos : Pos} (hg : Gl X "reversed") (hm : X.mg "reversed" = none) (he : PE X e te) (hs : starEach [e] X.env = (false, eval e X.env) :: starEach [] X.env := by rfl) : PI X tg (.Call (.Name "reversed" p) [e] [] pos) (iRevS te) := by
  refine ⟨fun pins s σ H R I h => Call_ (ld_blt I hg hm PyProof.Rows.boot_reversed (PyProof.Rows.callWith_type1 (args_cons (thn (he.run pins s σ H _ I h) fun u s1 ⟨v, H1, I1, r1, q1⟩ => args_nil ?_) hs) hs rfl))⟩
  obtain ⟨z, ev, hz, q⟩ := q1
  subst ev
  obtain ⟨t, rfl⟩ := r1
  have e1 : ((z.length : Nat) : Int) - 1 = (z.cps.size : Int) - 1 - ((0 : Nat) : Int) := by show ((z.cps.size : Nat) : Int) - 1 = _; omega
  refine call_rs hz (iter_rs (z := z) (t := t) (i := ((z.length : Nat) : Int) - 1) ⟨_, Heap.get?_push_size _ rfl, rfl, rfl⟩ ?_)
  refine pi_one (tk := s1.toks + 1 + 1) I1 _ (turn_rs _ z t hz) ⟨Nat.zero_le _, ?_⟩ q
  rw [← e1]; exact ⟨_, Heap.get?_push_size _ rfl, rfl, rfl⟩
theorem walk_rs {z : Str} : Walk (Iz z) z.cps.size (fun _ => True) (fun k H v H' => H' = H ∧ ∃ c, z.cps[z.cps.size - 1 - k]? = some c ∧ v = .str ⟨#[c]⟩) :=
  ⟨fun _ _ hi _ => hi, fun _ _ => Nat.le_refl _, fun _ _ _ _ _ _ y => y⟩
end RS
namespace DL
open PySem PySem.Spec PyProof.Rows L2
open Evl (Ex)
section
variable {K : PySem.W.Frag} {T : List Addr} {F0 H0 F F' : Hp} {env : List Sl} {P : Po} {j : Nat} {tl : TE} {tb : TS}
theorem s_forRS {z : Str} (h : EvD K T tl env (.str z)) (hz : z.length ≤ sizeLine) (I : Nat → List Sl → Prop) (h0 : I 0 env)
    (hs : ∀ (k c : Nat) e, k < z.cps.size → z.cps[z.cps.size - 1 - k]? = some c → I k e → StD K T F0 H0 tb (e.set j (.dat (.str ⟨#[c]⟩))) (P.turn (I (k + 1)))) (hd : ∀ e, I z.cps.size e → P.nx e) : StD K T F0 H0 (tFor (RS.iRevS tl) (gName j) tb) env P := fun F H σ o De E =>
  h F0 H0 F H σ o _ fun v F1 H1 w1 n1 d1 => by
    cases d1
    refine ⟨z, rfl, hz, for_it RS.walk_rs (fun k σ' H' => ∃ e F', I k e ∧ Ok K T F0 H0 F' H' σ' e ∧ Ex F1 F') ⟨env, F1, h0, o.step w1 n1, Ex.refl F1⟩ (fun _ _ _ _ _ => trivial) (fun k v σ' H' H'' hk ⟨e, F', p, o', x⟩ hy => ?_) (fun σ' H' ⟨e, F', p, o', x⟩ => E.nx e F' H' σ' (hd e p) o' (n1.exF.trans x))⟩
    obtain ⟨rfl, c, hc, rfl⟩ := hy
    exact hs k c e hk hc p F' _ _ (o'.set (.str _)) _ ⟨fun e2 F2 H2 σ2 p2 o2 x2 => ⟨e2, F2, p2, o2, x.trans x2⟩, E.rt, fun e2 F2 H2 σ2 p2 o2 x2 => E.nx e2 F2 H2 σ2 p2 o2 ((n1.exF.trans x).trans x2), fun e2 F2 H2 σ2 p2 o2 x2 => ⟨e2, F2, p2, o2, x.trans x2⟩, E.rtE⟩
end
end DL
set_option Elab.async false
set_option linter.all false
set_option maxRecDepth 100000
set_option maxHeartbeats 2000000
/-! The mathematics that several laws' own words share. -/
namespace DL
open PySem PySem.Spec PyProof.Rows L2
open Evl (Ex)
def cellAt (ns : List Int) (k : Nat) : Int := ns.getD k 0
def shr (c : Int) : Nat → Int
  | 0 => c
  | k + 1 => shr c k / 2
theorem shr_succ (c : Int) (k : Nat) : shr c (k + 1) = shr c k / 2 := rfl
/-- the first k binary figures, from the lowest on -/
def bitsOf (c : Int) (k : Nat) : List Bool := (List.range k).map fun i => decide (shr c i % 2 = 1)
theorem bitsOf_len (c : Int) (k : Nat) : (bitsOf c k).length = k := by simp [bitsOf]
theorem bitsOf_succ (c : Int) (k : Nat) : bitsOf c (k + 1) = bitsOf c k ++ [decide (shr c k % 2 = 1)] := by simp [bitsOf, List.range_succ]
/-- setters: f of an even figure, o of an odd one -/
def signOf (c : Int) : Nat := if c % 2 = 0 then 102 else 111
def signs (c : Int) (k : Nat) : List Nat := (List.range k).map fun i => signOf (shr c i)
theorem signs_len (c : Int) (k : Nat) : (signs c k).length = k := by simp [signs]
theorem signs_succ (c : Int) (k : Nat) : signs c (k + 1) = signs c k ++ [signOf (shr c k)] := by simp [signs, List.range_succ]
def Fo (l : List Nat) : Prop := ∀ c ∈ l, c = 102 ∨ c = 111
theorem signs_fo (c : Int) (k : Nat) : Fo (signs c k) := fun x hx => by
  obtain ⟨i, _, rfl⟩ := List.mem_map.mp hx
  unfold signOf
  split
  · exact .inl rfl
  · exact .inr rfl
/-- a text of these signs -/
def txt (l : List Nat) : Str := ⟨l.toArray⟩
theorem txt_len (l : List Nat) : (txt l).length = l.length := rfl
theorem txt_app (l m : List Nat) : txt l ++ txt m = txt (l ++ m) := by
  show (⟨(⟨l⟩ : Array Nat) ++ (⟨m⟩ : Array Nat)⟩ : Str) = _
  simp [txt]
theorem txt_one (c : Nat) : (⟨#[c]⟩ : Str) = txt [c] := rfl
theorem txt_inj {l m : List Nat} (h : txt l = txt m) : l = m := by
  have e : (txt l).cps = (txt m).cps := congrArg Str.cps h
  exact Array.mk.inj e
theorem txt_eq (l m : List Nat) : decide (txt l = txt m) = decide (l = m) := decide_eq_decide.mpr ⟨txt_inj, fun e => e ▸ rfl⟩
theorem txt_size (l : List Nat) : (txt l).cps.size = l.length := rfl
theorem txt_at (l : List Nat) (i : Nat) : (txt l).cps[i]? = l[i]? := by simp [txt]
theorem cut_from (l : List Nat) (k : Nat) : cutS (txt l) (some (k : Int)) none = txt (l.drop k) := by
  have h := sl_from l k
  show (⟨_⟩ : Str) = ⟨_⟩
  rw [← h]
  rfl
theorem str_f : Str.ofString "f" = txt [102] := by decide +kernel
theorem str_o : Str.ofString "o" = txt [111] := by decide +kernel
theorem str_fo : Str.ofString "fo" = txt [102, 111] := by decide +kernel
/-! shapes of tuples that nest -/
theorem shaped_iff {d : D} : SeqAt.shaped d = true ↔ (PyData.canLay0 d = true ∧ PyData.depth d ≤ 64) := by unfold SeqAt.shaped; simp
end DL
set_option Elab.async false
set_option linter.all false
set_option maxRecDepth 100000
set_option maxHeartbeats 2000000
/-! Objects that stay (dicts), lists the def has made, comprehensions over a range, in over a list. -/
namespace DL
open PySem PySem.Spec PyProof.Rows L2
open Evl (Ex)
section
variable (K : PySem.W.Frag) (T : List Addr)
def EvX (te : TE) (env : List Sl) (u : HO) : Prop := ∀ F0 H0 F H σ, Ok K T F0 H0 F H σ env → ∀ Q : VK, (∀ a F' H', Wk T F' H' → Nx T F H F' H' → F' a = some u → Q (.ref a) H') → te σ H Q
end
section
variable {K : PySem.W.Frag} {T : List Addr} {F0 H0 : Hp} {env : List Sl} {P : Po} {te ta tb tl : TE} {tt : TT} {t : TS} {i j : Nat} {u : HO} {xs : List D}
theorem s_asgX (h : EvX K T te env u) (k : P.nx (env.set i (.obj u))) : StD K T F0 H0 (tAsg te (gName i)) env P := fun F H σ o De E =>
  h F0 H0 F H σ o _ fun a F1 H1 w1 n1 d1 => E.nx _ F1 H1 _ k ((o.step w1 n1).put rfl ⟨a, rfl, d1⟩) n1.exF
theorem s_asgL (h : EvL K T te env xs) (k : P.nx (env.set i (.lst xs))) : StD K T F0 H0 (tAsg te (gName i)) env P := fun F H σ o De E =>
  h F0 H0 F H σ o _ fun a vs F1 H1 w1 n1 e1 d1 => E.nx _ F1 H1 _ k ((o.step w1 n1).put rfl ⟨a, vs, rfl, e1, d1⟩) n1.exF
theorem l_var (h : env[i]? = some (.lst xs)) : EvL K T (tVar i) env xs := fun F0 H0 F H σ o Q q => by
  obtain ⟨a, vs, e, ha, hd⟩ := o.sl i _ h
  exact ⟨_, e, q a vs F H o.wk (Nx.refl T F H) ha hd⟩
theorem t_yes : EvT K T tYes env true := fun F0 H0 F H σ o Q q => q F H o.wk (Nx.refl T F H)
/-! rules whose word names the frame itself, for blocks within a def -/
def rLenK (K : PySem.W.Frag) : List V → Hp → VK → Prop := fun xs H Q => ∃ p ys, xs = [V.ref p] ∧ (SqL K H p ys ∨ SqT K H p ys) ∧ Q (.int ys.length) H
theorem call_lenK {X : Cx} {K : PySem.W.Frag} (h : X.K = K) : CallR X (.builtin "len") (rLenK K) := by
  subst h
  exact call_len_seq
def rListK (K : PySem.W.Frag) : List V → Hp → VK → Prop := fun xs H Q => ∃ p ys, xs = [V.ref p] ∧ (SqL K H p ys ∨ SqT K H p ys) ∧ ∀ l, H l = none → Q (.ref l) (upd H l (.lst ys))
theorem call_listK {X : Cx} {K : PySem.W.Frag} (h : X.K = K) : CallR X (.type "list") (rListK K) := by
  subst h
  exact call_list_of
theorem ix_listK {X : Cx} {K : PySem.W.Frag} (h : X.K = K) : IxR X (rIxL K) := by
  subst h
  exact ix_list
theorem ix_tupK {X : Cx} {K : PySem.W.Frag} (h : X.K = K) : IxR X (rIxT K) := by
  subst h
  exact ix_tup
/-! comprehensions -/
/-- every item gives one -/
theorem d_map {ds : List D} (f : D → D) (h : EvD K T tl env (.list ds)) (hl : ds.length < sizeLine) (hs : ∀ (k : Nat) d, ds[k]? = some d → EvD K T te ((env.set j .no).set j (.dat d)) (f d)) :
    EvD K T (tLc (iList K tl) (gName j) tYes te [j]) env (.list (ds.map f)) := by
  have q := d_lc (tt := tYes) (fun d => some (f d)) h hl fun k d hk => ⟨true, t_yes, nofun, fun _ => ⟨_, rfl, hs k d hk⟩⟩
  rw [show (fun d => some (f d)) = some ∘ f from rfl, List.filterMap_eq_map] at q
  exact q
/-- over a range -/
theorem d_mapR {ta : TA} {n : Nat} (f : Nat → D) (h : EvA K T ta env [.int (n : Int)]) (hn : n ≤ 100000) (hs : ∀ k, k < n → EvD K T te ((env.set j .no).set j (.dat (.int (k : Int)))) (f k)) :
    EvD K T (tLc (iRng1 ta) (gName j) tYes te [j]) env (.list ((List.range n).map f)) := fun F0 H0 F H σ o Q q =>
  h F0 H0 F H σ o _ fun vs F1 H1 w1 n1 d1 => by
    cases d1 with
    | cons h1 t =>
      cases t; cases h1
      refine ⟨(n : Int), rfl, by omega, by omega, fun Dl hD => ?_⟩
      rw [Int.toNat_natCast]
      refine lc_it walk_range (fun k H' => ∃ F' vs, Wk T F' H' ∧ Nx T F1 H1 F' H' ∧ F' Dl = none ∧ H' Dl = some (.lst vs) ∧ DpAll K F' vs ((List.range k).map f) ∧ vs.length = k) ⟨F1, [], w1.mine hD, ⟨Ex.refl F1, fun b u e t => by rw [upd_ne (ne_of_none e hD)]; exact e, fun _ _ _ n => n⟩, w1.noF hD, upd_same, .nil, rfl⟩ (fun _ _ _ _ => trivial)
        (fun k x H' H'' hk ⟨F', vs, w', n', f', e', hv, hz⟩ hy => ?_) (fun H' ⟨F', vs, w', n', f', e', hv, hz⟩ => ?_)
      · obtain ⟨rfl, rfl⟩ := hy
        refine ⟨wipe_one, ?_⟩
        have hT := w1.notT hD
        have e0 : (0 : Int) + (k : Int) = (k : Int) := Int.zero_add _
        have hs1 := hs k hk
        rw [← e0] at hs1
        have o1 := (((o.step w1 n1).step w' n').wipe (i := j) none).set (i := j) (Dp.int (K := K) (H := F') ((0 : Int) + (k : Int)))
        refine t_yes F0 H0 F' _ _ o1 _ fun F2 H2 w2 n2 => iteT (hs1 F0 H0 F2 _ _ (o1.step w2 n2) _ fun y F3 H3 w3 n3' d3 => ?_)
        have n3 := n2.trans w2 n3'
        have e3 := n3.exH Dl _ e' hT
        have f3 := n3.own Dl _ e' f'
        have n13 := n'.trans w' n3
        refine ⟨vs, e3, line_lt (by omega), F3, vs ++ [y], w3.write f3 hT, ⟨n13.exF, fun b u e t => ?_, fun b u e n => n13.own b u e n⟩, f3, upd_same, ?_, by rw [List.length_append, hz]; rfl⟩
        · rw [upd_ne (ne_of_none e hD)]
          exact n13.exH b u e t
        · rw [List.range_succ, List.map_append]
          exact dps_app (dps_mono n3.exF _ _ hv) (.cons d3 .nil)
      · have hT := w1.notT hD
        have ex : Ex F' (upd F' Dl (.lst vs)) := Ex.new f'
        have nn := n1.trans w1 n'
        refine q (.ref Dl) (upd F' Dl (.lst vs)) H' (w'.freeze hT e') ⟨nn.exF.trans ex, nn.exH, fun c u e n => ?_⟩ (.lst (.inl (.inl upd_same)) (dps_mono ex _ _ hv))
        have hc : c ≠ Dl := fun z => by
          rw [z] at e
          rw [n1.exH Dl u e hT] at hD
          cases hD
        rw [upd_ne hc]
        exact nn.own c u e n
/-- the dict of ints that a comprehension makes -/
def dcOf (kf vf : D → Int) (ds : List D) : List (Key × V) := ds.foldl (fun acc d => putK acc (.inl (kf d)) (.int (vf d))) []
theorem dcOf_succ {kf vf : D → Int} {ds : List D} {k : Nat} {d : D} (h : ds[k]? = some d) : dcOf kf vf (ds.take (k + 1)) = putK (dcOf kf vf (ds.take k)) (.inl (kf d)) (.int (vf d)) := by
  unfold dcOf
  rw [List.take_add_one, h, List.foldl_append]
  rfl
theorem x_dc {ds : List D} {tk tv : TE} (kf vf : D → Int) (h : EvD K T tl env (.list ds)) (hl : ds.length < sizeLine)
    (hk : ∀ (k : Nat) d, ds[k]? = some d → EvD K T tk ((env.set j .no).set j (.dat d)) (.int (kf d))) (hv : ∀ (k : Nat) d, ds[k]? = some d → EvD K T tv ((env.set j .no).set j (.dat d)) (.int (vf d))) :
    EvX K T (tDc (iList K tl) (gName j) tYes tk tv [j]) env (.dK (dcOf kf vf ds)) := fun F0 H0 F H σ o Q q =>
  h F0 H0 F H σ o _ fun v F1 H1 w1 n1 d1 => by
    cases d1 with
    | @lst a xs _ hsq hdd =>
      have hxl := dps_len hdd
      refine ⟨a, rfl, ⟨xs, Evl.ex_l w1.sub hsq⟩, fun Dl hD => ?_⟩
      have hT := w1.notT hD
      have W := walk_list (K := K) (a := a) (xs := xs)
      let Pv : Nat → Hp → Prop := fun k H' => ∃ F', Wk T F' H' ∧ Nx T F1 H1 F' H' ∧ F' Dl = none ∧ H' Dl = some (.dK (dcOf kf vf (ds.take k))) ∧ (dcOf kf vf (ds.take k)).length ≤ k
      refine ⟨fun k m H' => m = xs.length - k ∧ k ≤ xs.length ∧ Pv k H', ⟨xs.length, by simp, Nat.zero_le _, F1, w1.mine hD, ⟨Ex.refl F1, fun b u e t => by rw [upd_ne (ne_of_none e hD)]; exact e, fun _ _ _ n => n⟩, w1.noF hD, upd_same, Nat.zero_le _⟩, ?_⟩
      rintro k m H' ⟨rfl, hkl, F', w', n', f', e', hz⟩
      have qs : SqL K H' a xs := Evl.ex_l (n'.exF.trans w'.sub) hsq
      by_cases hlt : k < xs.length
      · refine .inr ⟨W.goes k H' hlt qs, Pv (k + 1), fun H2 p2 => ⟨xs.length - (k + 1), by omega, rfl, hlt, p2⟩, fun x H2 y2 => ?_⟩
        obtain ⟨rfl, hx⟩ := W.yields k H' x H2 hlt qs y2
        refine ⟨wipe_one, ?_⟩
        obtain ⟨d, hd1, hx⟩ := dps_getV hdd hx
        have o1 := (((o.step w1 n1).step w' n').wipe (i := j) none).set (i := j) (dp_mono n'.exF _ _ hx)
        refine t_yes F0 H0 F' _ _ o1 _ fun F1' H1' w1' n1' => iteT (hk k d hd1 F0 H0 F1' _ _ (o1.step w1' n1') _ fun y F2 H2 w2 n2' d2 => ?_)
        cases d2
        have n2 := n1'.trans w1' n2'
        refine hv k d hd1 F0 H0 F2 H2 _ (o1.step w2 n2) _ fun z F3 H3 w3 n3 d3 => ?_
        cases d3
        have n23 := n2.trans w2 n3
        have e3 := n23.exH Dl _ e' hT
        have f3 := n23.own Dl _ e' f'
        have n13 := n'.trans w' n23
        refine ⟨_, .inl (kf d), rfl, e3, Nat.lt_of_le_of_lt hz (by omega), F3, w3.write f3 hT, ⟨n13.exF, fun b u e t => ?_, fun b u e n => n13.own b u e n⟩, f3, ?_, ?_⟩
        · rw [upd_ne (ne_of_none e hD)]
          exact n13.exH b u e t
        · rw [upd_same, dcOf_succ hd1]
        · rw [dcOf_succ hd1]
          have := length_putK (dcOf kf vf (ds.take k)) (.inl (kf d) : Key) (.int (vf d))
          omega
      · have e : k = xs.length := by omega
        subst e
        rw [hxl, List.take_length] at e'
        refine .inl ⟨W.stops H' qs, ?_⟩
        have ex : Ex F' (upd F' Dl (.dK (dcOf kf vf ds))) := Ex.new f'
        have nn := n1.trans w1 n'
        refine q Dl (upd F' Dl (.dK (dcOf kf vf ds))) H' (w'.freeze hT e') ⟨nn.exF.trans ex, nn.exH, fun c u e n => ?_⟩ upd_same
        have hc : c ≠ Dl := fun z => by
          rw [z] at e
          rw [n1.exH Dl u e hT] at hD
          cases hD
        rw [upd_ne hc]
        exact nn.own c u e n
/-- sorted(d), d a dict of ints -/
theorem d_sortedV {kvs : List (Key × V)} {ks ys : List Int} (h : env[i]? = some (.obj (.dK kvs))) (hk : kvs.map (·.1) = ks.map Sum.inl) (h64 : ks.length < 64) (hy : ∀ zs : List Int, zs.Perm ks → zs.Pairwise (· ≤ ·) → zs = ys) :
    EvD K T (tCB (fun xs H Q => ∃ (a : Addr) (kvs : List (Key × V)) (ks : List Int), xs = [.ref a] ∧ Rd H a (.dK kvs) ∧ kvs.map (·.1) = ks.map Sum.inl ∧ ks.length < 64 ∧ ∀ (ys : List Int) (p : Addr), ys.Perm ks → ys.Pairwise (· ≤ ·) → H p = none → Q (.ref p) (upd H p (.lst (ys.map V.int)))) (tCons (tVar i) tNil)) env (dInts ys) := fun F0 H0 F H σ o Q q => by
  obtain ⟨a, e, ha⟩ := o.sl i _ h
  refine ⟨_, e, a, kvs, ks, rfl, .inl (o.wk.sub _ _ ha), hk, h64, fun zs p h1 h2 hp => ?_⟩
  obtain rfl := hy zs h1 h2
  exact q _ (upd F p (.lst (zs.map V.int))) _ (o.wk.new hp) (Nx.new o.wk hp) (.lst (.inl (.inl upd_same)) (ints_dps zs))
/-- d[k], there -/
theorem d_dget {kvs : List (Key × V)} {k v : Int} (h : env[i]? = some (.obj (.dK kvs))) (hk : EvD K T te env (.int k)) (hv : valV kvs (.inl k) = some (.int v)) : EvD K T (tDGet (tVar i) te) env (.int v) := fun F0 H0 F H σ o Q q => by
  obtain ⟨a, e, ha⟩ := o.sl i _ h
  refine ⟨_, e, hk F0 H0 F H σ o _ fun y F1 H1 w1 n1 d1 => ?_⟩
  cases d1
  refine ⟨a, .int v, rfl, ?_, q _ F1 H1 w1 n1 (.int v)⟩
  rw [← hv]
  exact DGet.k (k := .inl k) (w1.sub _ _ (n1.exF _ _ ha))
/-- i in a list of ints -/
theorem r_inI {n : Int} {ns : List Int} : ROp K T (rIn K false) (.int n) (dInts ns) (.bool (decide (n ∈ ns))) := fun F H a b w ha hb Q q => by
  cases ha
  cases hb with
  | @lst p xs _ hs hd =>
    have e := dps_ints hd
    subst e
    have e1 : inV (.int n) (ns.map V.int) = decide (n ∈ ns) := by
      unfold inV
      rw [List.any_map, Bool.eq_iff_iff, List.any_eq_true, decide_eq_true_iff]
      constructor
      · rintro ⟨m, hm, e⟩
        have e : m = n := by simpa [eqV] using e
        exact e ▸ hm
      · intro hn
        exact ⟨n, hn, by simp [eqV]⟩
    refine ⟨p, _, rfl, .inl (Evl.ex_l w.sub hs), rfl, ?_, ?_⟩
    · rw [List.all_map, List.all_eq_true]
      intro m _
      rfl
    · rw [if_neg Bool.false_ne_true, e1]
      exact q _ F H w (Nx.refl T F H) (.bl _)
end
end DL
set_option Elab.async false
set_option linter.all false
set_option maxRecDepth 100000
set_option maxHeartbeats 2000000
/-! Defs that raise, over data; try .. except .. as; f-strings; zip. -/
namespace DL
open PySem PySem.Spec PyProof.Rows L2
open Evl (Ex)
/-- what a call comes to: data, or an error of the class at c -/
inductive Res where
  | ok (d : D)
  | bad (c : Addr)
def PrX (K : PySem.W.Frag) (T : List Addr) (G : List D → Res → Prop) : Sp := fun vs H Q E => ∃ F ds r, Wk T F H ∧ DpAll K F vs ds ∧ G ds r ∧ (∀ d, r = .ok d → ∀ v F' H', Wk T F' H' → Nx T F H F' H' → Dp K F' v d → Q v H') ∧
  ∀ c, r = .bad c → ∀ F' H', Wk T F' H' → Nx T F H F' H' → E (.ref c) none H'
def GX {α : Type} (arg : α → List D) (pre : α → Prop) (out : α → Res) : List D → Res → Prop := fun ds r => ∃ x, ds = arg x ∧ pre x ∧ r = out x
section
variable {P : Program} {w : World} {K : PySem.W.Frag} {mg : Str → Option Value} {base : Heap} {T : List Addr}
theorem fn_gfX {x qual : Str} {st : Stmt} {f : Addr} {fd : FuncData} {N ps : List Str} {k : Nat} {α : Type} {arg : α → List D} {pre : α → Prop} {out : α → Res} (F : Fun K x qual st f fd) (S : FnScope N ps (defScope st)) (len : ∀ x, (arg x).length = ps.length)
    (hbody : ∀ (cdv : Value) (A : Around) (outer : List Env) (s : Shared) (H : Hp) (E : XK), Room k (A.deeper (envOfC qual (defScope st) s.heap.objs.size f cdv)) →
      ∃ t, PSs (cxOf (L2.CX P w) P w K mg base N qual (defScope st) f cdv A outer s H E) (defBody st) t ∧ ∀ F0 x, pre x → (∀ c, out x = .bad c → ∀ F' H', Wk T F' H' → Nx T F0 H F' H' → E (.ref c) none H') →
        StD K T F0 H t (envOf N (arg x)) { nx := fun _ => out x = .ok .none, rt := fun d' => out x = .ok d' }) :
    FnOk P w K mg base (L2.CX P w) (k + 1) f fd ps (PrX K T (GX arg pre out)) := by
  refine F.okX S (fun vs H Q E ⟨F, ds, r, _, hd, ⟨x, e, _, _⟩, _⟩ => by rw [dps_len hd, e]; exact len x) (fun cdv A outer s H vs Q E hr h => ?_)
  obtain ⟨F0, ds, r, wk, hd, ⟨x, rfl, hp, rfl⟩, q, qx⟩ := h
  obtain ⟨t, ht, hst⟩ := hbody cdv A outer s H E hr
  refine ⟨t, ht, hst F0 x hp (fun c hc F' H' w' n' => qx c hc F' H' w' n') F0 H _ (ok_start wk hd) _ ⟨fun e F' H' σ' p o _ => ?_, fun d' v F' H' p w' n' hv => q d' p v F' H' w' n' hv, fun _ _ _ _ p _ _ => False.elim p, fun _ _ _ _ p _ _ => False.elim p, fun _ _ _ _ _ _ p _ _ => False.elim p⟩⟩
  exact q .none p .non F' H' o.wk o.nx .non
end
section
variable {K : PySem.W.Frag} {T : List Addr} {F0 H0 : Hp} {env : List Sl} {P : Po} {te tx : TE} {ta : TA} {i j : Nat} {d : D} {G : List D → Res → Prop} {xs ys : List D}
/-- a call that raises nothing -/
theorem d_callX {E : XK} {z : D} (ha : EvA K T ta env xs) (hG : G xs (.ok z)) : EvD K T (tCall (PrX K T G) [] E ta) env z := fun F0 H0 F H σ o Q q =>
  ha F0 H0 F H σ o _ fun v F1 H1 w1 n1 d1 => by
    show PrX K T G (v ++ []) H1 Q E
    rw [List.append_nil]
    exact ⟨F1, xs, _, w1, d1, hG, fun d e v3 F3 H3 w3 n3 d3 => by cases e; exact q v3 F3 H3 w3 (n1.trans w1 n3) d3, nofun⟩
/-- an expression whose value is not asked for -/
def EvN (K : PySem.W.Frag) (T : List Addr) (te : TE) (env : List Sl) : Prop := ∀ F0 H0 F H σ, Ok K T F0 H0 F H σ env → ∀ Q : VK, (∀ v F' H', Wk T F' H' → Nx T F H F' H' → Q v H') → te σ H Q
theorem n_d (h : EvD K T te env d) : EvN K T te env := fun F0 H0 F H σ o Q q => h F0 H0 F H σ o Q fun v F' H' w n _ => q v F' H' w n
theorem s_raise {E : XK} {C : Addr} (h : EvN K T te env) (hE : ∀ F' H', Wk T F' H' → Nx T F0 H0 F' H' → E (.ref C) none H') : StD K T F0 H0 (fun _ σ H => te σ H fun _ H1 => E (.ref C) none H1) env P := fun F H σ o De _ =>
  h F0 H0 F H σ o _ fun v F1 H1 w1 n1 => hE F1 H1 w1 (o.nx.trans o.wk n1)
/-- except X as n: the body one call -/
theorem s_try {r : Res} {c : Value} {ts : Addr → Value → Option Addr → TS} {Wout : WX} (ha : EvA K T ta env xs) (hG : G xs r) (h1 : ∀ d, r = .ok d → P.nx env)
    (h2 : ∀ cl, r = .bad cl → PySem.W.exmOne K (.ref cl) c = some true ∧ ∀ a, StD K T F0 H0 (ts a (.ref cl) none) (env.set i (.val (.ref a))) { nx := fun e => P.nx (e.set i .no), rt := P.rt, bk := fun e => P.bk (e.set i .no), ct := fun e => P.ct (e.set i .no), rtE := P.rtE }) :
    StD K T F0 H0 (fun De σ H => tDrop (tCallS (PrX K T G) (WE (wAs K c i ts Wout De)) ta) De σ H) env P := fun F H σ o De En =>
  ha F0 H0 F H σ o _ fun v F1 H1 w1 n1 d1 => by
    refine ⟨F1, xs, r, w1, d1, hG, fun d e v3 F3 H3 w3 n3 d3 => En.nx env F3 H3 σ (h1 d e) (o.step w3 (n1.trans w1 n3)) (n1.trans w1 n3).exF, fun cl e F3 H3 w3 n3 => ?_⟩
    obtain ⟨hx, hs⟩ := h2 cl e
    have n13 := n1.trans w1 n3
    refine ⟨true, hx, fun _ a _ => ?_, nofun⟩
    have o3 := (o.step w3 n13).put (i := i) (v := .ref a) (x := .val (.ref a)) rfl rfl
    exact hs a F3 H3 _ o3 _ ⟨fun e F' H' σ' p o' x => En.nx _ F' H' _ p (o'.wipe none) (n13.exF.trans x), En.rt, fun e F' H' σ' p o' x => En.bk _ F' H' _ p (o'.wipe none) (n13.exF.trans x), fun e F' H' σ' p o' x => En.ct _ F' H' _ p (o'.wipe none) (n13.exF.trans x), En.rtE⟩
/-- isinstance of the error that the suite holds -/
theorem d_isE {D a : Addr} {c : V} {cv : Value} {b : Bool} (hi : env[i]? = some (.val (.ref a))) (hk : PySem.W.kitOne K (.ref D) cv = some b) (hc : ∀ u, RelV c u → u = cv) : EvD K T (tCB (rIsE K D a) (tCons (tVar i) (tCons (tC c) tNil))) env (.bool b) := fun F0 H0 F H σ o Q q =>
  ⟨_, o.sl i _ hi, c, cv, b, rfl, hc, hk, q _ F H o.wk (Nx.refl T F H) (.bl b)⟩
theorem exm_own {t : Value} {S : Addr} {b : Bool} (h1 : PySem.W.subIn K (.ref S) (.type "BaseException") = some true) (h2 : PySem.W.isClsIn K S = true) (h3 : PySem.W.typeIn K (.ref S) = some (.type "type")) (h4 : PySem.W.subIn K t (.ref S) = some b) : PySem.W.exmOne K t (.ref S) = some b := by
  have e2 : ((PySem.W.clsIn K S).isSome && PySem.W.typeIn K (.ref S) == some (.type "type")) = true := by
    rw [show (PySem.W.clsIn K S).isSome = true from h2, h3]; rfl
  unfold PySem.W.exmOne
  rw [h1, if_pos (by rfl)]
  unfold PySem.W.kitCls
  show (if _ then _ else none) = _
  rw [if_pos e2]
  exact h4
theorem kit_own {Dr S : Addr} {b : Bool} (h2 : PySem.W.isClsIn K S = true) (h3 : PySem.W.typeIn K (.ref S) = some (.type "type")) (h4 : PySem.W.subIn K (.ref Dr) (.ref S) = some b) (h5 : PySem.W.subIn K (.ref Dr) (.ref Dr) = some true) : PySem.W.kitOne K (.ref Dr) (.ref S) = some b := by
  have e2 : ((PySem.W.clsIn K S).isSome && PySem.W.typeIn K (.ref S) == some (.type "type")) = true := by
    rw [show (PySem.W.clsIn K S).isSome = true from h2, h3]; rfl
  unfold PySem.W.kitOne
  by_cases e : ((Value.ref Dr) == (Value.ref S)) = true
  · rw [if_pos e]
    have e1 : Value.ref Dr = Value.ref S := by simpa using e
    rw [← e1, h5] at h4
    exact h4
  · rw [if_neg e]
    unfold PySem.W.kitCls
    show (if _ then _ else none) = _
    rw [if_pos e2]
    exact h4
theorem kit_type {Dr : Addr} {X : String} {b : Bool} (hm : PySem.W.kitMeta X = true) (h4 : PySem.W.subIn K (.ref Dr) (.type X) = some b) : PySem.W.kitOne K (.ref Dr) (.type X) = some b := by
  unfold PySem.W.kitOne
  rw [if_neg (by simp)]
  unfold PySem.W.kitCls
  show (if _ then _ else none) = _
  rw [if_pos hm]
  exact h4
/-! f'..' -/
def JsD (K : PySem.W.Frag) (T : List Addr) (env : List Sl) : List TE → Str → Prop
  | [], _ => True
  | t :: ts, acc => ∃ y : Str, EvD K T t env (.str y) ∧ (acc ++ y).length ≤ sizeLine ∧ JsD K T env ts (acc ++ y)
theorem js_run : ∀ (ts : List TE) (acc : Str), JsD K T env ts acc → ∀ F0 H0 F H σ, Ok K T F0 H0 F H σ env → ∀ Q : Str → Hp → Prop, (∀ z F' H', Wk T F' H' → Nx T F H F' H' → Q z H') → tJs ts acc σ H Q
  | [], acc, _, F0, H0, F, H, σ, o, Q, q => q acc F H o.wk (Nx.refl T F H)
  | t :: ts, acc, ⟨y, h, hl, r⟩, F0, H0, F, H, σ, o, Q, q => h F0 H0 F H σ o _ fun v F1 H1 w1 n1 d1 => by
    cases d1
    exact ⟨y, rfl, hl, js_run ts (acc ++ y) r F0 H0 F1 H1 σ (o.step w1 n1) Q fun z F2 H2 w2 n2 => q z F2 H2 w2 (n1.trans w1 n2)⟩
theorem n_join {ts : List TE} (h : JsD K T env ts Str.empty) : EvN K T (fun σ H Q => tJs ts Str.empty σ H fun out H1 => Q (.str out) H1) env := fun F0 H0 F H σ o Q q =>
  js_run ts Str.empty h F0 H0 F H σ o _ fun z F' H' w n => q _ F' H' w n
theorem d_fmtI {n : Int} (h : EvD K T te env (.int n)) (hn : n.natAbs.log2 < 1920) : EvD K T (tFmt te) env (.str (toString n)) := fun F0 H0 F H σ o Q q =>
  h F0 H0 F H σ o _ fun v F1 H1 w1 n1 d1 => by
    cases d1
    exact .inr ⟨n, rfl, hn, q _ F1 H1 w1 n1 (.str _)⟩
/-! zip of two lists -/
theorem s_forZ {tb : TS} (h : EvA K T ta env [.list xs, .list ys]) (I : Nat → List Sl → Prop) (h0 : I 0 env)
    (hs : ∀ (k : Nat) d d2 e, xs[k]? = some d → ys[k]? = some d2 → I k e → StD K T F0 H0 tb ((e.set i (.dat d)).set j (.dat d2)) (P.turn (I (k + 1)))) (hd : ∀ e, I (min xs.length ys.length) e → P.nx e) :
    StD K T F0 H0 (tFor (RZ.iZipA K ta) (gTup K 2 (gCons (gName i) (gCons (gName j) gNil))) tb) env P := fun F H σ o De E =>
  h F0 H0 F H σ o _ fun vs F1 H1 w1 n1 d1 => by
    cases d1 with
    | cons h1 t =>
      cases t with
      | cons h2 t =>
        cases t
        cases h1 with
        | @lst a us _ ha hda =>
          cases h2 with
          | @lst b vs _ hb hdb =>
            refine ⟨a, b, us, vs, rfl, .inl ⟨Evl.ex_l w1.sub ha, Evl.ex_l w1.sub hb, ?_⟩⟩
            refine for_it (walk_zip (xs := us) (ys := vs) rfl) (fun k σ' H' => ∃ e F', I k e ∧ Ok K T F0 H0 F' H' σ' e ∧ Ex F1 F') ⟨env, F1, h0, o.step w1 n1, Ex.refl F1⟩ (fun k σ' H' _ ⟨e, F', _, o', x⟩ => ⟨Evl.ex_l (x.trans o'.wk.sub) ha, Evl.ex_l (x.trans o'.wk.sub) hb⟩) (fun k v σ' H' H'' hk ⟨e, F', p, o', x⟩ hy => ?_) (fun σ' H' ⟨e, F', p, o', x⟩ => ?_)
            · obtain ⟨Tt, y1, y2, rfl, hT, rfl, e1, e2⟩ := hy
              obtain ⟨d, hd1, hv1⟩ := dps_getV hda e1
              obtain ⟨d2, hd2, hv2⟩ := dps_getV hdb e2
              have w2 := o'.wk.new (o := .tup [y1, y2]) hT
              have n2 := Nx.new (o := .tup [y1, y2]) o'.wk hT
              have x2 := x.trans n2.exF
              refine ⟨Tt, [y1, y2], rfl, .inl (.inl upd_same), rfl, y1, [y2], rfl, y2, [], rfl, rfl, ?_⟩
              exact hs k d d2 e hd1 hd2 p _ _ _ (((o'.step w2 n2).set (dp_mono x2 _ _ hv1)).set (dp_mono x2 _ _ hv2)) _ ⟨fun e2 F2 H2 σ2 p2 o2 x3 => ⟨e2, F2, p2, o2, x2.trans x3⟩, E.rt, fun e2 F2 H2 σ2 p2 o2 x3 => E.nx e2 F2 H2 σ2 p2 o2 ((n1.exF.trans x2).trans x3), fun e2 F2 H2 σ2 p2 o2 x3 => ⟨e2, F2, p2, o2, x2.trans x3⟩, E.rtE⟩
            · rw [dps_len hda, dps_len hdb] at p
              exact E.nx e F' H' σ' (hd e p) o' (n1.exF.trans x)
end
end DL
namespace DL
open PySem PySem.Spec PyProof.Rows L2
/-- as call_isE, the class and the dict told by the way in -/
def rIsG (K : PySem.W.Frag) (D a : Addr) (cls : Value) (d : Option Addr) : List V → Hp → VK → Prop := fun xs H Q => cls = .ref D ∧ d = none ∧ rIsE K D a xs H Q
theorem call_isG {X : Cx} {a D : Addr} {oe : Obj} {cls : Value} {d : Option Addr} {pn : List (Addr × Obj)} (C : ExcC X.K D) (hz : Zc cls d oe) (hf : ∃ vs, oe.data = .fields vs) : CallR (X.suite a ((a, oe) :: pn)) (.builtin "isinstance") (rIsG X.K D a cls d) := by
  intro pins s σ H xs us Q I r h
  obtain ⟨rfl, rfl, h⟩ := h
  exact call_isE C hz hf pins s σ H xs us Q I r h
section
variable {K : PySem.W.Frag} {T : List Addr} {env : List Sl} {i : Nat}
theorem d_isG {D a : Addr} {c : V} {cv : Value} {b : Bool} (hi : env[i]? = some (.val (.ref a))) (hk : PySem.W.kitOne K (.ref D) cv = some b) (hc : ∀ u, RelV c u → u = cv) : EvD K T (tCB (rIsG K D a (.ref D) none) (tCons (tVar i) (tCons (tC c) tNil))) env (.bool b) := fun F0 H0 F H σ o Q q =>
  ⟨_, o.sl i _ hi, rfl, rfl, c, cv, b, rfl, hc, hk, q _ F H o.wk (Nx.refl T F H) (.bl b)⟩
end
end DL
set_option Elab.async false
set_option linter.all false
set_option maxRecDepth 100000
set_option maxHeartbeats 4000000
namespace K04
open PySem PySem.Spec PyProof.Rows L2 DL
/-! an expression's value, step by step; what it cannot say is left -/
local macro_rules | `(tactic| walk_at "dl") => `(tactic| repeat' (first
  | exact d_var rfl
  | exact d_int
  | exact d_bl
  | exact d_non
  | exact d_str
  | exact a_nil
  | refine a_cons ?_ ?_
  | refine d_un ?_ r_neg
  | refine d_cb (a_cons ?_ a_nil) r_abs
  | refine d_cb (a_cons ?_ a_nil) r_lenL
  | refine d_cb (a_cons ?_ a_nil) r_list
  | refine d_cb (a_cons ?_ (a_cons ?_ a_nil)) r_max2
  | refine d_op ?_ ?_ r_int
  | refine d_op ?_ ?_ r_bool
  | refine d_op ?_ ?_ r_eqI
  | refine d_op ?_ ?_ r_neI
  | refine d_op ?_ ?_ r_eqB
  | refine d_op ?_ ?_ r_neB
  | refine d_op ?_ ?_ r_eqS
  | refine d_op ?_ ?_ r_neS
  | refine d_op ?_ d_non r_isN
  | refine d_op ?_ d_non r_notN
  | refine d_op ?_ ?_ (r_intC ?_)
  | refine d_op ?_ ?_ (r_ixL ?_)
  | refine d_op ?_ ?_ (r_ixT ?_)
  | refine t_test ?_
  | refine t_B ?_
  | refine t_not ?_))
/-! ### the text -/
def topS (i : Nat) : Stmt := PySem.Challenge.pw_everywish_k04_a_rule_played.main.body.getD i (.Pass ⟨0, 0, 0, 0⟩)
abbrev s_played : Stmt := topS 6
abbrev s_L_cell_at : Stmt := topS 8
abbrev s_L_rules : Stmt := topS 9
abbrev s_L_seen : Stmt := topS 10
abbrev s_L_row : Stmt := topS 11
abbrev s_L_due : Stmt := topS 12
abbrev s_L_alike : Stmt := topS 13
abbrev s_L_refused : Stmt := topS 14
abbrev s_L_refused_by_any : Stmt := topS 15
abbrev s_law : Stmt := topS 16
theorem sc_played : FnScope ["rule", "row", "values", "seen", "value", "rest"] ["rule", "row"] (defScope s_played) := ⟨rfl, rfl, rfl, by decide +kernel, rfl, by decide +kernel, by decide +kernel⟩
theorem sc_L_cell_at : FnScope ["_law_script", "_law_k"] ["_law_script", "_law_k"] (defScope s_L_cell_at) := ⟨rfl, rfl, rfl, by decide +kernel, rfl, by decide +kernel, by decide +kernel⟩
theorem sc_L_rules : FnScope ["_law_script", "_law_many", "_law_one", "_law_other", "_law_k", "_law_cell", "_law_kept"] ["_law_script", "_law_many"] (defScope s_L_rules) := ⟨rfl, rfl, rfl, by decide +kernel, rfl, by decide +kernel, by decide +kernel⟩
theorem sc_L_seen : FnScope ["_law_rule", "_law_count"] ["_law_rule"] (defScope s_L_seen) := ⟨rfl, rfl, rfl, by decide +kernel, rfl, by decide +kernel, by decide +kernel⟩
theorem sc_L_row : FnScope ["_law_cell", "_law_size", "_law_row_here", "_law_k"] ["_law_cell", "_law_size"] (defScope s_L_row) := ⟨rfl, rfl, rfl, by decide +kernel, rfl, by decide +kernel, by decide +kernel⟩
theorem sc_L_due : FnScope ["_law_rule", "_law_row_here", "_law_values", "_law_left"] ["_law_rule", "_law_row_here"] (defScope s_L_due) := ⟨rfl, rfl, rfl, by decide +kernel, rfl, by decide +kernel, by decide +kernel⟩
theorem sc_L_alike : FnScope ["_law_found", "_law_due_here", "_law_value", "_law_other"] ["_law_found", "_law_due_here"] (defScope s_L_alike) := ⟨rfl, rfl, rfl, by decide +kernel, rfl, by decide +kernel, by decide +kernel⟩
theorem sc_L_refused : FnScope ["_law_rule", "_law_row_here", "e"] ["_law_rule", "_law_row_here"] (defScope s_L_refused) := ⟨rfl, rfl, rfl, by decide +kernel, rfl, by decide +kernel, by decide +kernel⟩
theorem sc_L_refused_by_any : FnScope ["_law_rule", "_law_row_here", "e"] ["_law_rule", "_law_row_here"] (defScope s_L_refused_by_any) := ⟨rfl, rfl, rfl, by decide +kernel, rfl, by decide +kernel, by decide +kernel⟩
theorem sc_law : FnScope ["_law_script", "_law_rule", "_law_seen_here", "_law_size", "_law_row_here", "_law_handed"] ["_law_script"] (defScope s_law) := ⟨rfl, rfl, rfl, by decide +kernel, rfl, by decide +kernel, by decide +kernel⟩
/-! ### the mathematics -/
inductive Ru where
  | fin
  | set (v : Bool) (r : Ru)
  | see (a b : Ru)
def ruD : Ru → D
  | .fin => .tuple [.str "end"]
  | .set v r => .tuple [.str "set", .bool v, ruD r]
  | .see a b => .tuple [.str "see", ruD a, ruD b]
def dep : Ru → Nat
  | .fin => 0
  | .set _ r => dep r + 1
  | .see a b => max (dep a) (dep b) + 1
def pre (v : Bool) (p : List Bool × List Bool) : List Bool × List Bool := (v :: p.1, p.2)
/-- the values, and what is left of the row -/
def run : Ru → List Bool → Option (List Bool × List Bool)
  | .fin, row => some ([], row)
  | .set v r, row => (run r row).map (pre v)
  | .see _ _, [] => none
  | .see a b, x :: row => (run (if x then b else a) row).map (pre x)
termination_by r => dep r
decreasing_by
  · simp [dep]
  · cases x <;> simp [dep] <;> omega
theorem run_fin (row : List Bool) : run .fin row = some ([], row) := by rw [run]
theorem run_set (v : Bool) (r : Ru) (row : List Bool) : run (.set v r) row = (run r row).map (pre v) := by rw [run]
theorem run_none (a b : Ru) : run (.see a b) [] = none := by rw [run]
theorem run_see (a b : Ru) (x : Bool) (row : List Bool) : run (.see a b) (x :: row) = (run (if x then b else a) row).map (pre x) := by rw [run]
def whole : Option (List Bool × List Bool) → Option (List Bool)
  | some (vs, []) => some vs
  | _ => none
def playR (C : Addr) (r : Ru) (row : List Bool) : Res :=
  match whole (run r row) with
  | some vs => .ok (dBools vs)
  | none => .bad C
def more (done : List Bool) (p : List Bool × List Bool) : List Bool × List Bool := (done ++ p.1, p.2)
theorem more_pre (done : List Bool) (v : Bool) (o : Option (List Bool × List Bool)) : (o.map (pre v)).map (more done) = o.map (more (done ++ [v])) := by
  rw [Option.map_map]
  refine congrArg (fun f => Option.map f o) (funext fun p => ?_)
  show (done ++ v :: p.1, p.2) = (done ++ [v] ++ p.1, p.2)
  rw [List.append_assoc]
  rfl
def sees : Ru → Nat
  | .fin => 0
  | .set _ r => sees r
  | .see a _ => sees a + 1
def Uni : Ru → Prop
  | .fin => True
  | .set _ r => Uni r
  | .see a b => Uni a ∧ Uni b ∧ sees a = sees b
theorem dep_pick (a b : Ru) (x : Bool) : dep (if x then b else a) < dep (.see a b) := by cases x <;> simp [dep] <;> omega
theorem uni_pick {a b : Ru} (h : Uni (.see a b)) (x : Bool) : Uni (if x then b else a) ∧ sees (if x then b else a) = sees a := by
  obtain ⟨h1, h2, h3⟩ := h
  cases x
  · exact ⟨h1, rfl⟩
  · exact ⟨h2, h3.symm⟩
/-- as the law tells it -/
def due : Ru → List Bool → List Bool
  | .fin, _ => []
  | .set v r, row => v :: due r row
  | .see _ _, [] => []
  | .see a b, x :: row => x :: due (if x then b else a) row
termination_by r => dep r
decreasing_by
  · simp [dep]
  · cases x <;> simp [dep] <;> omega
theorem due_fin (row : List Bool) : due .fin row = [] := by rw [due]
theorem due_set (v : Bool) (r : Ru) (row : List Bool) : due (.set v r) row = v :: due r row := by rw [due]
theorem due_see (a b : Ru) (x : Bool) (row : List Bool) : due (.see a b) (x :: row) = x :: due (if x then b else a) row := by rw [due]
theorem run_is : ∀ (n : Nat) (r : Ru) (row : List Bool), dep r ≤ n → Uni r → run r row = if row.length < sees r then none else some (due r row, row.drop (sees r))
  | n, .fin, row, _, _ => by rw [run_fin, due_fin, if_neg (by simp [sees])]; rfl
  | 0, .set v r, row, h, _ => by simp [dep] at h
  | 0, .see a b, row, h, _ => by simp [dep] at h
  | n + 1, .set v r, row, h, hu => by
    rw [run_set, run_is n r row (by simp [dep] at h; omega) hu, due_set]
    show _ = if row.length < sees r then none else some (v :: due r row, row.drop (sees r))
    split <;> rfl
  | n + 1, .see a b, [], _, _ => by
    rw [run_none, if_pos (by simp [sees])]
  | n + 1, .see a b, x :: row, h, hu => by
    have d := dep_pick a b x
    obtain ⟨u, s⟩ := uni_pick hu x
    rw [run_see, run_is n _ row (by omega) u, due_see, s]
    show _ = if row.length + 1 < sees a + 1 then none else some (x :: due (if x then b else a) row, row.drop (sees a))
    by_cases c : row.length < sees a
    · rw [if_pos c, if_pos (show row.length + 1 < sees a + 1 by omega)]; rfl
    · rw [if_neg c, if_neg (show ¬ row.length + 1 < sees a + 1 by omega)]; rfl
theorem play_ok {C : Addr} {r : Ru} {row : List Bool} (h : Uni r) (e : row.length = sees r) : playR C r row = .ok (dBools (due r row)) := by
  unfold playR
  rw [run_is _ r row (Nat.le_refl _) h, if_neg (by omega), ← e, List.drop_length]
  rfl
theorem play_bad {C : Addr} {r : Ru} {row : List Bool} (h : Uni r) (e : row.length ≠ sees r) : playR C r row = .bad C := by
  unfold playR
  rw [run_is _ r row (Nat.le_refl _) h]
  by_cases c : row.length < sees r
  · rw [if_pos c]; rfl
  · rw [if_neg c]
    have e2 : row.drop (sees r) ≠ [] := fun z => by
      have := congrArg List.length z
      rw [List.length_drop] at this
      simp at this
      omega
    cases q : row.drop (sees r) with
    | nil => exact absurd q e2
    | cons b l => rfl
/-- the rules that a script tells -/
def rules (ns : List Int) : Nat → Ru × Ru
  | 0 => (.fin, .fin)
  | k + 1 =>
    if (cellAt ns (3 + k) + 3 * (k : Int)) % 2 = 1 then (.set (decide ((cellAt ns (3 + k) + 3 * (k : Int)) / 2 % 2 = 1)) (rules ns k).1, .set (decide ((cellAt ns (3 + k) + 3 * (k : Int)) / 4 % 2 = 1)) (rules ns k).2)
    else if (cellAt ns (3 + k) + 3 * (k : Int)) / 2 % 2 = 1 then (.see (rules ns k).2 (rules ns k).1, .see (rules ns k).1 (rules ns k).2)
    else (.see (rules ns k).1 (rules ns k).2, .see (rules ns k).2 (rules ns k).1)
theorem rules_ok (ns : List Int) : ∀ k, Uni (rules ns k).1 ∧ Uni (rules ns k).2 ∧ sees (rules ns k).1 = sees (rules ns k).2 ∧ dep (rules ns k).1 = k ∧ dep (rules ns k).2 = k
  | 0 => ⟨trivial, trivial, rfl, rfl, rfl⟩
  | k + 1 => by
    obtain ⟨h1, h2, h3, h4, h5⟩ := rules_ok ns k
    rw [rules]
    split
    · exact ⟨h1, h2, h3, by simp [dep, h4], by simp [dep, h5]⟩
    · split
      · exact ⟨⟨h2, h1, h3.symm⟩, ⟨h1, h2, h3⟩, by simp [sees, h3], by simp [dep, h4, h5], by simp [dep, h4, h5]⟩
      · exact ⟨⟨h1, h2, h3⟩, ⟨h2, h1, h3.symm⟩, by simp [sees, h3], by simp [dep, h4, h5], by simp [dep, h4, h5]⟩
theorem sees_dep : ∀ r : Ru, sees r ≤ dep r
  | .fin => Nat.le_refl _
  | .set _ r => Nat.le_succ_of_le (sees_dep r)
  | .see a b => by
    have := sees_dep a
    simp only [sees, dep]
    omega
theorem num_len : ∀ n : Nat, n < 40 → (Str.ofString (toString (n : Int))).length ≤ 4 := by decide +kernel
theorem app_len (a b : Str) : (a ++ b).length = a.length + b.length := by
  show (a.cps ++ b.cps).size = _
  simp [Str.length]
theorem log_small : ∀ n : Nat, n < 40 → ((n : Int)).natAbs.log2 < 1920 := by decide +kernel
theorem pick_at (l : List Int) (n : Nat) (hn : l.length = n) (h0 : 0 < n) (i : Int) : atI (l.map PyData.int) (i % (n : Int)) = some (.int (l.getD (i % (n : Int)).toNat 0)) := by
  obtain ⟨k, hk, hkn⟩ := rest_nat i n h0
  rw [hk, Int.toNat_natCast, List.getD_eq_getElem?_getD, List.getElem?_eq_getElem (by omega)]
  exact ints_get (List.getElem?_eq_getElem (by omega))
def deltas : List Int := [0, 0, 0, 0, 1, -1, 4, -3]
theorem delta_ok (i : Int) : -3 ≤ deltas.getD (i % 8).toNat 0 ∧ deltas.getD (i % 8).toNat 0 ≤ 4 := by
  have h : i % 8 = 0 ∨ i % 8 = 1 ∨ i % 8 = 2 ∨ i % 8 = 3 ∨ i % 8 = 4 ∨ i % 8 = 5 ∨ i % 8 = 6 ∨ i % 8 = 7 := by omega
  rcases h with h | h | h | h | h | h | h | h <;> rw [h] <;> decide
theorem map_one (done : List Bool) (v : Bool) : (done ++ [v]).map PyData.bool = done.map PyData.bool ++ [.bool v] := by rw [List.map_append]; rfl
/-! ### what the top has written -/
structure Txt (K : PySem.W.Frag) (mg : Str → Option Value) (a : Nat → Addr) (fd : Nat → FuncData) (ec : Nat → Addr) : Prop where
  gc_WishError : mg "WishError" = some (.ref (ec 0))
  bc_WishError : PySem.W.subIn K (.ref (ec 0)) (.type "BaseException") = some true
  tc_WishError : PySem.W.typeIn K (.ref (ec 0)) = some (.type "type")
  ic_WishError : PySem.W.isClsIn K (ec 0) = true
  gc_BadGame : mg "BadGame" = some (.ref (ec 1))
  bc_BadGame : PySem.W.subIn K (.ref (ec 1)) (.type "BaseException") = some true
  tc_BadGame : PySem.W.typeIn K (.ref (ec 1)) = some (.type "type")
  ic_BadGame : PySem.W.isClsIn K (ec 1) = true
  gc_BadRow : mg "BadRow" = some (.ref (ec 2))
  bc_BadRow : PySem.W.subIn K (.ref (ec 2)) (.type "BaseException") = some true
  tc_BadRow : PySem.W.typeIn K (.ref (ec 2)) = some (.type "type")
  ic_BadRow : PySem.W.isClsIn K (ec 2) = true
  gc_BadText : mg "BadText" = some (.ref (ec 3))
  bc_BadText : PySem.W.subIn K (.ref (ec 3)) (.type "BaseException") = some true
  tc_BadText : PySem.W.typeIn K (.ref (ec 3)) = some (.type "type")
  ic_BadText : PySem.W.isClsIn K (ec 3) = true
  xc_BadRow : PySem.W.excIn K (ec 2) [.type "ValueError", .type "Exception", .type "BaseException", .type "object"] "ValueError.__new__" = true
  kc_BadRow : PySem.W.keepIn K (.ref (ec 2)) = true
  su_BadRow_WishError : PySem.W.subIn K (.ref (ec 2)) (.ref (ec 0)) = some true
  su_BadRow_BadGame : PySem.W.subIn K (.ref (ec 2)) (.ref (ec 1)) = some false
  su_BadRow_BadRow : PySem.W.subIn K (.ref (ec 2)) (.ref (ec 2)) = some true
  su_BadRow_BadText : PySem.W.subIn K (.ref (ec 2)) (.ref (ec 3)) = some false
  sv_BadRow : PySem.W.subIn K (.ref (ec 2)) (.type "ValueError") = some true
  ec_BadRow : ExcC K (ec 2)
  F_played : Fun K "played" "played" s_played (a 0) (fd 0)
  g_played : mg "played" = some (.ref (a 0))
  b_played : Binds K (fd 0) ["rule", "row"] []
  F_L_cell_at : Fun K "_law_cell_at" "_law_cell_at" s_L_cell_at (a 1) (fd 1)
  g_L_cell_at : mg "_law_cell_at" = some (.ref (a 1))
  b_L_cell_at : Binds K (fd 1) ["_law_script", "_law_k"] []
  F_L_rules : Fun K "_law_rules" "_law_rules" s_L_rules (a 2) (fd 2)
  g_L_rules : mg "_law_rules" = some (.ref (a 2))
  b_L_rules : Binds K (fd 2) ["_law_script", "_law_many"] []
  F_L_seen : Fun K "_law_seen" "_law_seen" s_L_seen (a 3) (fd 3)
  g_L_seen : mg "_law_seen" = some (.ref (a 3))
  b_L_seen : Binds K (fd 3) ["_law_rule"] []
  F_L_row : Fun K "_law_row" "_law_row" s_L_row (a 4) (fd 4)
  g_L_row : mg "_law_row" = some (.ref (a 4))
  b_L_row : Binds K (fd 4) ["_law_cell", "_law_size"] []
  F_L_due : Fun K "_law_due" "_law_due" s_L_due (a 5) (fd 5)
  g_L_due : mg "_law_due" = some (.ref (a 5))
  b_L_due : Binds K (fd 5) ["_law_rule", "_law_row_here"] []
  F_L_alike : Fun K "_law_alike" "_law_alike" s_L_alike (a 6) (fd 6)
  g_L_alike : mg "_law_alike" = some (.ref (a 6))
  b_L_alike : Binds K (fd 6) ["_law_found", "_law_due_here"] []
  F_L_refused : Fun K "_law_refused" "_law_refused" s_L_refused (a 7) (fd 7)
  g_L_refused : mg "_law_refused" = some (.ref (a 7))
  b_L_refused : Binds K (fd 7) ["_law_rule", "_law_row_here"] []
  F_L_refused_by_any : Fun K "_law_refused_by_any" "_law_refused_by_any" s_L_refused_by_any (a 8) (fd 8)
  g_L_refused_by_any : mg "_law_refused_by_any" = some (.ref (a 8))
  b_L_refused_by_any : Binds K (fd 8) ["_law_rule", "_law_row_here"] []
  F_law : Fun K "law" "law" s_law (a 9) (fd 9)
  g_law : mg "law" = some (.ref (a 9))
  b_law : Binds K (fd 9) ["_law_script"] []
  m_len : mg "len" = none
  m_range : mg "range" = none
  m_max : mg "max" = none
  m_list : mg "list" = none
  m_isinstance : mg "isinstance" = none
  m_bool : mg "bool" = none
  m_zip : mg "zip" = none
  m_int : mg "int" = none
  m_ValueError : mg "ValueError" = none

section
variable {P : Program} {w : World} {K : PySem.W.Frag} {mg : Str → Option Value} {base : Heap} {Tb : List Addr} {a : Nat → Addr} {fd : Nat → FuncData} {ec : Nat → Addr}
/-! played -/
abbrev g_played : List D → Res → Prop := GX (fun x : Ru × List Bool => [ruD x.1, dBools x.2]) (fun x => dep x.1 ≤ 20 ∧ x.2.length ≤ 30) fun x => playR (ec 2) x.1 x.2
theorem ok_played (T : Txt K mg a fd ec) : FnOk P w K mg base (L2.CX P w) 1 (a 0) (fd 0) ["rule", "row"] (PrX K Tb (g_played (ec := ec))) := by
  refine fn_gfX T.F_played sc_played (fun _ => rfl) (fun cdv A outer s H E hr => ⟨_, (pss_cons (ps_set (i := 2) sc_played.nd rfl (.inl rfl) (pe_lst pa_nil))
      (pss_cons (ps_set (i := 3) sc_played.nd rfl (.inl rfl) pe_int)
      (pss_cons (ps_while (passes_of rfl) (pt_cmpR op_ne (pe_ix ix_tup (pv 0) pe_int (fun _ _ => rfl)) pe_str (nomark _))
        (pss_cons (ps_if (pt_cmpR op_eq (pe_ix ix_tup (pv 0) pe_int (fun _ _ => rfl)) pe_str (nomark _))
        (pss_one (ps_par (i := 4) (j := 5) (by rfl) sc_played.nd rfl rfl (by decide) rfl rfl (pa_cons (pe_ix ix_tup (pv 0) pe_int (fun _ _ => rfl)) (pa_cons (pe_ix ix_tup (pv 0) pe_int (fun _ _ => rfl)) pa_nil)) (by rfl)))
        (pss_cons (ps_if (pt_cmpR op_eq (pv 3) (pe_callB call_len_seq (by rfl) T.m_len (by decide +kernel) (pa_cons (pv 1) pa_nil)) (nomark _))
        (pss_one (ps_raise rfl (takes_of rfl rfl rfl rfl) (SkE.pmk_own1 PySem.F.excBase_ValueError T.xc_BadRow T.gc_BadRow T.kc_BadRow (raises_own T.bc_BadRow T.tc_BadRow) (by rfl) (pe_joined (.cons pe_str (.cons (pe_fmt (pe_callB call_len_seq (by rfl) T.m_len (by decide +kernel) (pa_cons (pv 1) pa_nil))) (.cons pe_str .nil)))))))
        pss_nil)
      (pss_cons (ps_set (i := 4) sc_played.nd rfl (.inl rfl) (pe_ix ix_list (pv 1) (pv 3) (fun _ _ => rfl)))
      (pss_cons (ps_set (i := 5) sc_played.nd rfl (.inl rfl) (pe_ifExp (pt_val (pv 4)) (pe_ix ix_tup (pv 0) pe_int (fun _ _ => rfl)) (pe_ix ix_tup (pv 0) pe_int (fun _ _ => rfl))))
      (pss_one (ps_aug (i := 3) sc_played.nd rfl (.inl rfl) pe_int ip_add))))))
      (pss_cons (ps_expr (pe_bm PySem.F.plainAttrs_list PySem.F.slot_list_append PySem.F.type_list_append mt_append (pv 2) (pa_cons (pv 4) pa_nil)))
      (pss_one (ps_set (i := 0) sc_played.nd rfl (.inl rfl) (pv 5))))))
      (pss_cons (ps_if (pt_cmpR op_lt (pv 3) (pe_callB call_len_seq (by rfl) T.m_len (by decide +kernel) (pa_cons (pv 1) pa_nil)) (nomark _))
        (pss_one (ps_raise rfl (takes_of rfl rfl rfl rfl) (SkE.pmk_own1 PySem.F.excBase_ValueError T.xc_BadRow T.gc_BadRow T.kc_BadRow (raises_own T.bc_BadRow T.tc_BadRow) (by rfl) (pe_joined (.cons pe_str (.cons (pe_fmt (pe_callB call_len_seq (by rfl) T.m_len (by decide +kernel) (pa_cons (pv 1) pa_nil))) (.cons pe_str (.cons (pe_fmt (pv 3)) .nil))))))))
        pss_nil)
      (pss_one (ps_ret (pv 2))))))), fun F0 x hp hE => ?_⟩)
  obtain ⟨r, row⟩ := x
  obtain ⟨hd, hrow⟩ : dep r ≤ 20 ∧ row.length ≤ 30 := hp
  refine s_env (env' := [.dat (ruD r), .dat (dBools row), .no, .no, .no, .no]) rfl ?_
  have bad : ∀ (t : Str), t.length ≤ 100 → whole (run r row) = none → ∀ F' H', Wk Tb F' H' → Nx Tb F0 H F' H' → E (.ref (ec 2)) none H' := fun _ _ hn F' H' w' n' => hE (ec 2) (by show playR (ec 2) r row = _; unfold playR; rw [hn]) F' H' w' n'
  have bad : whole (run r row) = none → ∀ F' H', Wk Tb F' H' → Nx Tb F0 H F' H' → E (.ref (ec 2)) none H' := bad "" (by decide)
  refine s_seq (s_new (s_seq (s_asg d_int (s_seq (s_while (fun m e => ∃ cur done k y4 y5, dep cur = m ∧ k ≤ row.length ∧ done.length + dep cur ≤ dep r ∧ run r row = (run cur (row.drop k)).map (more done) ∧ e = [.dat (ruD cur), .dat (dBools row), .own (done.map PyData.bool), .dat (.int (k : Nat)), y4, y5]) (dep r) ⟨r, [], 0, .no, .no, rfl, Nat.zero_le _, by simp, ?_, rfl⟩ ?_)))))
  · rw [List.drop_zero]
    show _ = Option.map _ _
    cases run r row with
    | none => rfl
    | some p => rfl
  rintro m _ ⟨cur, done, k, y4, y5, rfl, hk, hdone, hrun, rfl⟩
  have len40 : ((dBools row : D) = .list (row.map PyData.bool)) := rfl
  have lenE : ∀ env : List Sl, env[1]? = some (.dat (dBools row)) → EvD K Tb (tCB (fun xs H Q => ∃ p ys, xs = [V.ref p] ∧ (SqL K H p ys ∨ SqT K H p ys) ∧ Q (.int ys.length) H) (tCons (tVar 1) tNil)) env (.int (row.length : Nat)) := fun env h => d_is (d_cb (a_cons (d_var h) a_nil) r_lenL) (by rw [List.length_map])
  have n1 := num_len row.length (by omega)
  have nk := num_len k (by omega)
  cases cur with
  | fin =>
    refine ⟨false, t_is (t_test (d_op (d_op (d_var rfl) d_int (r_ixT (d := .str "end") rfl)) d_str r_neS)) (by decide +kernel), nofun, fun _ => ?_⟩
    rw [run_fin] at hrun
    have hrun : run r row = some (done ++ [], row.drop k) := hrun
    rw [List.append_nil] at hrun
    refine s_seq (s_if (b := decide (k < row.length)) (t_is (t_test (d_op (d_var rfl) (lenE _ rfl) r_bool)) (by simp)) (fun h => ?_) fun h => s_next ?_)
    · have h : k < row.length := of_decide_eq_true h
      refine s_raise (te := fun σ H Q => tJs _ Str.empty σ H fun out H1 => Q (.str out) H1) (n_join ?_) (bad ?_)
      refine ⟨_, d_str, ?_, _, d_fmtI (lenE _ rfl) (log_small _ (by omega)), ?_, _, d_str, ?_, _, d_fmtI (d_var rfl) (log_small _ (by omega)), ?_, trivial⟩
      · refine line_big ?_; rw [app_len]; decide +kernel
      · refine line_big ?_; rw [app_len, app_len]
        have : (Str.empty.length + ("the row has " : Str).length) ≤ 100 := by decide +kernel
        omega
      · refine line_big ?_; rw [app_len, app_len, app_len]
        have : (Str.empty.length + ("the row has " : Str).length) ≤ 100 := by decide +kernel
        have : (" values, but the rule comes to see " : Str).length ≤ 100 := by decide +kernel
        omega
      · refine line_big ?_; rw [app_len, app_len, app_len, app_len]
        have : (Str.empty.length + ("the row has " : Str).length) ≤ 100 := by decide +kernel
        have : (" values, but the rule comes to see " : Str).length ≤ 100 := by decide +kernel
        omega
      · rw [hrun, List.drop_eq_getElem_cons h]
        rfl
    · have h : ¬ k < row.length := of_decide_eq_false h
      refine s_frz (i := 2) rfl (s_ret (d_var rfl) ?_)
      show playR (ec 2) r row = _
      unfold playR
      rw [hrun, List.drop_of_length_le (by omega)]
      rfl
  | set v c =>
    refine ⟨true, t_is (t_test (d_op (d_op (d_var rfl) d_int (r_ixT (d := .str "set") rfl)) d_str r_neS)) (by decide +kernel), fun _ => ?_, nofun⟩
    refine s_seq (s_if (b := true) (t_is (t_test (d_op (d_op (d_var rfl) d_int (r_ixT (d := .str "set") rfl)) d_str r_eqS)) (by decide +kernel)) (fun _ => ?_) nofun)
    refine s_par (a_cons (d_op (d_var rfl) d_int (r_ixT (d := .bool v) rfl)) (a_cons (d_op (d_var rfl) d_int (r_ixT (d := ruD c) rfl)) a_nil)) ?_
    have hdone : done.length + (dep c + 1) ≤ dep r := hdone
    refine s_seq (s_app rfl (d_var rfl) (by rw [List.length_map]; exact line_lt (by omega)) ?_)
    refine s_asg (d_var rfl) ⟨dep c, Nat.lt_succ_self _, c, done ++ [v], k, .dat (.bool v), .dat (ruD c), rfl, hk, by rw [List.length_append]; show done.length + 1 + dep c ≤ dep r; omega, ?_, ?_⟩
    · rw [hrun, run_set, more_pre]
    · rw [map_one]
      rfl
  | see a b =>
    refine ⟨true, t_is (t_test (d_op (d_op (d_var rfl) d_int (r_ixT (d := .str "see") rfl)) d_str r_neS)) (by decide +kernel), fun _ => ?_, nofun⟩
    refine s_seq (s_if (b := false) (t_is (t_test (d_op (d_op (d_var rfl) d_int (r_ixT (d := .str "see") rfl)) d_str r_eqS)) (by decide +kernel)) nofun fun _ => ?_)
    refine s_seq (s_if (b := decide (k = row.length)) (t_is (t_test (d_op (d_var rfl) (lenE _ rfl) r_eqI)) (decide_eq_decide.mpr (by omega))) (fun h => ?_) fun h => s_next ?_)
    · have h : k = row.length := of_decide_eq_true h
      refine s_raise (te := fun σ H Q => tJs _ Str.empty σ H fun out H1 => Q (.str out) H1) (n_join ?_) (bad ?_)
      refine ⟨_, d_str, ?_, _, d_fmtI (lenE _ rfl) (log_small _ (by omega)), ?_, _, d_str, ?_, trivial⟩
      · refine line_big ?_; rw [app_len]; decide +kernel
      · refine line_big ?_; rw [app_len, app_len]
        have : (Str.empty.length + ("the row has " : Str).length) ≤ 100 := by decide +kernel
        omega
      · refine line_big ?_; rw [app_len, app_len, app_len]
        have : (Str.empty.length + ("the row has " : Str).length) ≤ 100 := by decide +kernel
        have : (" values, but the rule comes to see more" : Str).length ≤ 100 := by decide +kernel
        omega
      · rw [hrun, h, List.drop_length, run_none]
        rfl
    · have h : k ≠ row.length := of_decide_eq_false h
      have hk2 : k < row.length := by omega
      refine s_seq (s_asg (d_op (d_var rfl) (d_var rfl) (r_ixL (bools_get (List.getElem?_eq_getElem hk2)))) ?_)
      obtain ⟨x, hx⟩ : ∃ x, row[k] = x := ⟨_, rfl⟩
      rw [hx]
      refine s_seq (s_asg (d := ruD (if x then b else a)) (d_if (t_test (d_var rfl)) (fun z => ?_) fun z => ?_) ?_)
      · subst z
        exact d_op (d_var rfl) d_int (r_ixT (d := ruD b) rfl)
      · subst z
        exact d_op (d_var rfl) d_int (r_ixT (d := ruD a) rfl)
      refine s_aug rfl d_int ?_
      have dp := dep_pick a b x
      refine s_seq (s_app rfl (d_var rfl) (by rw [List.length_map]; exact line_lt (by omega)) ?_)
      refine s_asg (d_var rfl) ⟨dep (if x then b else a), dp, (if x then b else a), done ++ [x], k + 1, .dat (.bool x), .dat (ruD (if x then b else a)), rfl, hk2, by rw [List.length_append]; show done.length + 1 + _ ≤ dep r; omega, ?_, ?_⟩
      · rw [hrun, List.drop_eq_getElem_cons hk2, hx, run_see, more_pre]
      · rw [map_one]
        rfl
/-! _law_cell_at -/
abbrev g_L_cell_at : List D → D → Prop := GF (fun x : List Int × Nat => [dInts x.1, .int (x.2 : Int)]) (fun _ => True) fun x => .int (cellAt x.1 x.2)
theorem ok_L_cell_at (T : Txt K mg a fd ec) : FnOk P w K mg base CX0 1 (a 1) (fd 1) ["_law_script", "_law_k"] (PrD K Tb g_L_cell_at) := by
  refine fn_gf T.F_L_cell_at sc_L_cell_at (fun _ => rfl) (fun cdv A outer s H E hr => ⟨_, (pss_cons (ps_if (pt_cmpR op_lt (pv 1) (pe_callB call_len_seq (by rfl) T.m_len (by decide +kernel) (pa_cons (pv 0) pa_nil)) (nomark _))
        (pss_one (ps_ret (pe_ix ix_list (pv 0) (pv 1) (fun _ _ => rfl))))
        pss_nil)
      (pss_one (ps_ret pe_int))), fun F0 H0 x hp => ?_⟩)
  obtain ⟨ns, k⟩ := x
  refine s_env (env' := [.dat (dInts ns), .dat (.int (k : Int))]) rfl ?_
  refine s_seq (s_if (b := decide (k < ns.length)) (t_is (t_test (d_op (d_var rfl) (d_cb (a_cons (d_var rfl) a_nil) r_lenL) r_bool)) ?_) (fun h => ?_) fun h => s_next ?_)
  · rw [List.length_map]
    simp
  · have h : k < ns.length := of_decide_eq_true h
    refine s_ret (d_op (d_var rfl) (d_var rfl) (r_ixL (ints_get (List.getElem?_eq_getElem h)))) ?_
    show PyData.int _ = PyData.int _
    rw [cellAt, List.getD_eq_getElem?_getD, List.getElem?_eq_getElem h]
    rfl
  · have h : ¬ k < ns.length := of_decide_eq_false h
    refine s_ret d_int ?_
    show PyData.int _ = PyData.int _
    rw [cellAt, List.getD_eq_getElem?_getD, List.getElem?_eq_none (show ns.length ≤ k by omega)]
    rfl
/-! _law_rules -/
abbrev g_L_rules : List D → D → Prop := GF (fun x : List Int × Nat => [dInts x.1, .int (x.2 : Int)]) (fun x => x.2 ≤ 20) fun x => ruD (rules x.1 x.2).1
theorem ok_L_rules (T : Txt K mg a fd ec) : FnOk P w K mg base CX0 2 (a 2) (fd 2) ["_law_script", "_law_many"] (PrD K Tb g_L_rules) := by
  have G_L_cell_at : FnOk P w K mg base CX0 _ _ _ _ (PrD K Tb g_L_cell_at) := ok_L_cell_at T
  refine fn_gf T.F_L_rules sc_L_rules (fun _ => rfl) (fun cdv A outer s H E hr => ⟨_, (pss_cons (ps_set (i := 2) sc_L_rules.nd rfl (.inl rfl) (pe_tup (pa_cons pe_str pa_nil)))
      (pss_cons (ps_set (i := 3) sc_L_rules.nd rfl (.inl rfl) (pe_tup (pa_cons pe_str pa_nil)))
      (pss_cons (ps_for PassesOwn.never rfl (pi_range1 (by rfl) T.m_range (pa_cons (pv 1) pa_nil)) (pg_name (i := 4) sc_L_rules.nd rfl (.inl rfl))
        (pss_cons (ps_set (i := 5) sc_L_rules.nd rfl (.inl rfl) (pe_op op_add (pe_call G_L_cell_at hr (by rfl) T.g_L_cell_at T.F_L_cell_at.kp T.b_L_cell_at .nil pass0 (pa_cons (pv 0) (pa_cons (pe_op op_add pe_int (pv 4)) pa_nil))) (pe_op op_mul pe_int (pv 4))))
      (pss_one (ps_if (pt_cmpR op_eq (pe_op op_mod (pv 5) pe_int) pe_int (nomark _))
        (pss_cons (ps_set (i := 2) sc_L_rules.nd rfl (.inl rfl) (pe_tup (pa_cons pe_str (pa_cons (pe_cmpR op_eq (pe_op op_mod (pe_op op_fdiv (pv 5) pe_int) pe_int) pe_int (nomark _)) (pa_cons (pv 2) pa_nil)))))
      (pss_one (ps_set (i := 3) sc_L_rules.nd rfl (.inl rfl) (pe_tup (pa_cons pe_str (pa_cons (pe_cmpR op_eq (pe_op op_mod (pe_op op_fdiv (pv 5) pe_int) pe_int) pe_int (nomark _)) (pa_cons (pv 3) pa_nil)))))))
        (pss_one (ps_if (pt_cmpR op_eq (pe_op op_mod (pe_op op_fdiv (pv 5) pe_int) pe_int) pe_int (nomark _))
        (pss_cons (ps_set (i := 6) sc_L_rules.nd rfl (.inl rfl) (pv 2))
      (pss_cons (ps_set (i := 2) sc_L_rules.nd rfl (.inl rfl) (pe_tup (pa_cons pe_str (pa_cons (pv 3) (pa_cons (pv 2) pa_nil)))))
      (pss_one (ps_set (i := 3) sc_L_rules.nd rfl (.inl rfl) (pe_tup (pa_cons pe_str (pa_cons (pv 6) (pa_cons (pv 3) pa_nil))))))))
        (pss_cons (ps_set (i := 6) sc_L_rules.nd rfl (.inl rfl) (pv 2))
      (pss_cons (ps_set (i := 2) sc_L_rules.nd rfl (.inl rfl) (pe_tup (pa_cons pe_str (pa_cons (pv 2) (pa_cons (pv 3) pa_nil)))))
      (pss_one (ps_set (i := 3) sc_L_rules.nd rfl (.inl rfl) (pe_tup (pa_cons pe_str (pa_cons (pv 3) (pa_cons (pv 6) pa_nil))))))))))))))
      (pss_one (ps_ret (pv 2)))))), fun F0 H0 x hp => ?_⟩)
  obtain ⟨ns, m⟩ := x
  have hm : m ≤ 20 := hp
  refine s_env (env' := [.dat (dInts ns), .dat (.int (m : Int)), .no, .no, .no, .no, .no]) rfl ?_
  refine s_seq (s_asg (d_tup (a_cons d_str a_nil) (line_big (by show 1 ≤ 100000; decide))) (s_seq (s_asg (d_tup (a_cons d_str a_nil) (line_big (by show 1 ≤ 100000; decide))) ?_)))
  have sz : (3 : Nat) ≤ sizeLine := line_big (by decide)
  refine s_seq (s_forR (a_cons (d_var rfl) a_nil) (by omega) (fun k e => ∃ y4 y5 y6, e = [.dat (dInts ns), .dat (.int (m : Int)), .dat (ruD (rules ns k).1), .dat (ruD (rules ns k).2), y4, y5, y6]) ⟨.no, .no, .no, rfl⟩ ?_ ?_)
  · rintro k _ hk ⟨y4, y5, y6, rfl⟩
    refine s_seq (s_asg (d := .int (cellAt ns (3 + k) + 3 * (k : Int))) (d_op (d_call (a_cons (d_var rfl) (a_cons (d_op d_int (d_var rfl) r_int) a_nil)) ⟨(ns, 3 + k), by simp, trivial, rfl⟩) (d_op d_int (d_var rfl) (r_intC (.inl ⟨by decide, by decide⟩))) r_int) ?_)
    obtain ⟨c, hc⟩ : ∃ c, cellAt ns (3 + k) + 3 * (k : Int) = c := ⟨_, rfl⟩
    rw [hc]
    have odd : ∀ env : List Sl, env[5]? = some (.dat (.int c)) → ∀ q : Int, 0 < q ∧ q < 1073741824 → EvD K Tb (tOp rEq (tOp (rI (fun _ j => 0 < j) fun i j => .int (i % j)) (tOp (rI CDiv fun i j => .int (i / j)) (tVar 5) (tC (.int q))) (tC (.int 2))) (tC (.int 1))) env (.bool (decide (c / q % 2 = 1))) := fun env h q hq =>
      d_op (d_op (d_op (d_var h) d_int (r_intC hq)) d_int (r_intC (by show (0 : Int) < 2; decide))) d_int r_eqI
    refine s_if (t_test (d_op (d_op (d_var rfl) d_int (r_intC (by show (0 : Int) < 2; decide))) d_int r_eqI)) (fun h => ?_) fun h => ?_
    · have h : c % 2 = 1 := of_decide_eq_true h
      refine s_seq (s_asg (d_tup (a_cons d_str (a_cons (odd _ rfl 2 ⟨by decide, by decide⟩) (a_cons (d_var rfl) a_nil))) sz) (s_asg (d_tup (a_cons d_str (a_cons (odd _ rfl 4 ⟨by decide, by decide⟩) (a_cons (d_var rfl) a_nil))) sz) ⟨.dat (.int (k : Int)), .dat (.int c), y6, ?_⟩))
      rw [rules, hc, if_pos h]
      rfl
    · have h : ¬ c % 2 = 1 := of_decide_eq_false h
      refine s_if (t_test (odd _ rfl 2 ⟨by decide, by decide⟩)) (fun h2 => ?_) fun h2 => ?_
      · have h2 : c / 2 % 2 = 1 := of_decide_eq_true h2
        refine s_seq (s_asg (d_var rfl) (s_seq (s_asg (d_tup (a_cons d_str (a_cons (d_var rfl) (a_cons (d_var rfl) a_nil))) sz) (s_asg (d_tup (a_cons d_str (a_cons (d_var rfl) (a_cons (d_var rfl) a_nil))) sz) ⟨.dat (.int (k : Int)), .dat (.int c), .dat (ruD (rules ns k).1), ?_⟩))))
        rw [rules, hc, if_neg h, if_pos h2]
        rfl
      · have h2 : ¬ c / 2 % 2 = 1 := of_decide_eq_false h2
        refine s_seq (s_asg (d_var rfl) (s_seq (s_asg (d_tup (a_cons d_str (a_cons (d_var rfl) (a_cons (d_var rfl) a_nil))) sz) (s_asg (d_tup (a_cons d_str (a_cons (d_var rfl) (a_cons (d_var rfl) a_nil))) sz) ⟨.dat (.int (k : Int)), .dat (.int c), .dat (ruD (rules ns k).1), ?_⟩))))
        rw [rules, hc, if_neg h, if_neg h2]
        rfl
  · rintro _ ⟨y4, y5, y6, rfl⟩
    exact s_ret (d_var rfl) rfl
/-! _law_seen -/
abbrev g_L_seen : List D → D → Prop := GF (fun r : Ru => [ruD r]) (fun _ => True) fun r => .int (sees r : Nat)
theorem ok_L_seen (T : Txt K mg a fd ec) : FnOk P w K mg base CX0 1 (a 3) (fd 3) ["_law_rule"] (PrD K Tb g_L_seen) := by
  refine fn_gf T.F_L_seen sc_L_seen (fun _ => rfl) (fun cdv A outer s H E hr => ⟨_, (pss_cons (ps_set (i := 1) sc_L_seen.nd rfl (.inl rfl) pe_int)
      (pss_cons (ps_while PassesOwn.never (pt_cmpR op_ne (pe_ix ix_tup (pv 0) pe_int (fun _ _ => rfl)) pe_str (nomark _))
        (pss_one (ps_if (pt_cmpR op_eq (pe_ix ix_tup (pv 0) pe_int (fun _ _ => rfl)) pe_str (nomark _))
        (pss_cons (ps_set (i := 1) sc_L_seen.nd rfl (.inl rfl) (pe_op op_add (pv 1) pe_int))
      (pss_one (ps_set (i := 0) sc_L_seen.nd rfl (.inl rfl) (pe_ix ix_tup (pv 0) pe_int (fun _ _ => rfl)))))
        (pss_one (ps_set (i := 0) sc_L_seen.nd rfl (.inl rfl) (pe_ix ix_tup (pv 0) pe_int (fun _ _ => rfl)))))))
      (pss_one (ps_ret (pv 1))))), fun F0 H0 x hp => ?_⟩)
  refine s_env (env' := [.dat (ruD x), .no]) rfl ?_
  refine s_seq (s_asg d_int (s_seq (s_while (fun m e => ∃ cur k, dep cur = m ∧ sees x = k + sees cur ∧ e = [.dat (ruD cur), .dat (.int (k : Nat))]) (dep x) ⟨x, 0, rfl, by simp, rfl⟩ ?_)))
  rintro m _ ⟨cur, k, rfl, hk, rfl⟩
  cases cur with
  | fin =>
    refine ⟨false, t_is (t_test (d_op (d_op (d_var rfl) d_int (r_ixT (d := .str "end") rfl)) d_str r_neS)) (by decide +kernel), nofun, fun _ => s_ret (d_var rfl) ?_⟩
    rw [hk]
    rfl
  | set v c =>
    refine ⟨true, t_is (t_test (d_op (d_op (d_var rfl) d_int (r_ixT (d := .str "set") rfl)) d_str r_neS)) (by decide +kernel), fun _ => ?_, nofun⟩
    refine s_if (b := false) (t_is (t_test (d_op (d_op (d_var rfl) d_int (r_ixT (d := .str "set") rfl)) d_str r_eqS)) (by decide +kernel)) nofun fun _ => ?_
    exact s_asg (d_op (d_var rfl) d_int (r_ixT (d := ruD c) rfl)) ⟨dep c, Nat.lt_succ_self _, c, k, rfl, hk, rfl⟩
  | see a b =>
    refine ⟨true, t_is (t_test (d_op (d_op (d_var rfl) d_int (r_ixT (d := .str "see") rfl)) d_str r_neS)) (by decide +kernel), fun _ => ?_, nofun⟩
    refine s_if (b := true) (t_is (t_test (d_op (d_op (d_var rfl) d_int (r_ixT (d := .str "see") rfl)) d_str r_eqS)) (by decide +kernel)) (fun _ => ?_) nofun
    refine s_seq (s_asg (d_op (d_var rfl) d_int r_int) (s_asg (d_op (d_var rfl) d_int (r_ixT (d := ruD a) rfl)) ⟨dep a, by simp [dep]; omega, a, k + 1, rfl, ?_, rfl⟩))
    rw [hk]
    simp only [sees]
    omega
/-! _law_row -/
abbrev g_L_row : List D → D → Prop := GF (fun x : Int × Nat => [.int x.1, .int (x.2 : Int)]) (fun x => x.2 ≤ 1000) fun x => dBools (bitsOf x.1 x.2)
theorem ok_L_row (T : Txt K mg a fd ec) : FnOk P w K mg base CX0 1 (a 4) (fd 4) ["_law_cell", "_law_size"] (PrD K Tb g_L_row) := by
  refine fn_gf T.F_L_row sc_L_row (fun _ => rfl) (fun cdv A outer s H E hr => ⟨_, (pss_cons (ps_set (i := 2) sc_L_row.nd rfl (.inl rfl) (pe_lst pa_nil))
      (pss_cons (ps_for PassesOwn.never rfl (pi_range1 (by rfl) T.m_range (pa_cons (pv 1) pa_nil)) (pg_name (i := 3) sc_L_row.nd rfl (.inl rfl))
        (pss_cons (ps_expr (pe_bm PySem.F.plainAttrs_list PySem.F.slot_list_append PySem.F.type_list_append mt_append (pv 2) (pa_cons (pe_cmpR op_eq (pe_op op_mod (pv 0) pe_int) pe_int (nomark _)) pa_nil)))
      (pss_one (ps_set (i := 0) sc_L_row.nd rfl (.inl rfl) (pe_op op_fdiv (pv 0) pe_int)))))
      (pss_one (ps_ret (pv 2))))), fun F0 H0 x hp => ?_⟩)
  obtain ⟨c, m⟩ := x
  have hp : m ≤ 1000 := hp
  refine s_env (env' := [.dat (.int c), .dat (.int (m : Int)), .no, .no]) rfl ?_
  refine s_seq (s_new (s_seq (s_forR (a_cons (d_var rfl) a_nil) (by omega) (fun k e => ∃ y, e = [.dat (.int (shr c k)), .dat (.int (m : Int)), .own ((bitsOf c k).map PyData.bool), y]) ⟨.no, rfl⟩ ?_ ?_)))
  · rintro k _ hk ⟨y, rfl⟩
    refine s_seq (s_app rfl (d_op (d_op (d_var rfl) d_int (r_intC (by show (0 : Int) < 2; decide))) d_int r_eqI) (by rw [List.length_map, bitsOf_len]; exact line_lt (by omega)) ?_)
    refine s_asg (d_op (d_var rfl) d_int (r_intC ⟨by decide, by decide⟩)) ⟨.dat (.int (k : Int)), ?_⟩
    rw [shr_succ, bitsOf_succ, List.map_append]
    rfl
  · rintro _ ⟨y, rfl⟩
    exact s_frz (i := 2) rfl (s_ret (d_var rfl) rfl)
/-! _law_due -/
abbrev g_L_due : List D → D → Prop := GF (fun x : Ru × List Bool => [ruD x.1, dBools x.2]) (fun x => dep x.1 ≤ 20 ∧ Uni x.1 ∧ x.2.length = sees x.1) fun x => dBools (due x.1 x.2)
theorem ok_L_due (T : Txt K mg a fd ec) : FnOk P w K mg base CX0 1 (a 5) (fd 5) ["_law_rule", "_law_row_here"] (PrD K Tb g_L_due) := by
  refine fn_gf T.F_L_due sc_L_due (fun _ => rfl) (fun cdv A outer s H E hr => ⟨_, (pss_cons (ps_set (i := 2) sc_L_due.nd rfl (.inl rfl) (pe_lst pa_nil))
      (pss_cons (ps_set (i := 3) sc_L_due.nd rfl (.inl rfl) (pe_callTy call_list_of (by rfl) T.m_list (by decide +kernel) (pa_cons (pv 1) pa_nil)))
      (pss_cons (ps_while PassesOwn.never (pt_cmpR op_ne (pe_ix ix_tup (pv 0) pe_int (fun _ _ => rfl)) pe_str (nomark _))
        (pss_one (ps_if (pt_cmpR op_eq (pe_ix ix_tup (pv 0) pe_int (fun _ _ => rfl)) pe_str (nomark _))
        (pss_cons (ps_expr (pe_bm PySem.F.plainAttrs_list PySem.F.slot_list_append PySem.F.type_list_append mt_append (pv 2) (pa_cons (pe_ix ix_tup (pv 0) pe_int (fun _ _ => rfl)) pa_nil)))
      (pss_one (ps_set (i := 0) sc_L_due.nd rfl (.inl rfl) (pe_ix ix_tup (pv 0) pe_int (fun _ _ => rfl)))))
        (pss_cons (ps_expr (pe_bm PySem.F.plainAttrs_list PySem.F.slot_list_append PySem.F.type_list_append mt_append (pv 2) (pa_cons (pe_ix ix_list (pv 3) pe_int (fun _ _ => rfl)) pa_nil)))
      (pss_cons (ps_set (i := 0) sc_L_due.nd rfl (.inl rfl) (pe_ix ix_tup (pv 0) (pe_op op_add pe_int (pe_callTy call_int1 (by rfl) T.m_int (by decide +kernel) (pa_cons (pe_ix ix_list (pv 3) pe_int (fun _ _ => rfl)) pa_nil))) (fun _ _ => rfl)))
      (pss_one (ps_set (i := 3) sc_L_due.nd rfl (.inl rfl) (pe_slice sl_list (pv 3) (po_some pe_int) po_none))))))))
      (pss_one (ps_ret (pv 2)))))), fun F0 H0 x hp => ?_⟩)
  obtain ⟨r, row⟩ := x
  obtain ⟨hd, hu, hl⟩ : dep r ≤ 20 ∧ Uni r ∧ row.length = sees r := hp
  refine s_env (env' := [.dat (ruD r), .dat (dBools row), .no, .no]) rfl ?_
  refine s_seq (s_new (s_seq (s_asg (d_cb (a_cons (d_var rfl) a_nil) r_list) (s_seq (s_while (fun m e => ∃ cur left done, dep cur = m ∧ Uni cur ∧ left.length = sees cur ∧ done.length + dep cur ≤ dep r ∧ due r row = done ++ due cur left ∧ e = [.dat (ruD cur), .dat (dBools row), .own (done.map PyData.bool), .dat (dBools left)]) (dep r) ⟨r, row, [], rfl, hu, hl, by simp, rfl, rfl⟩ ?_)))))
  rintro m _ ⟨cur, left, done, rfl, hu, hl, hdone, hdue, rfl⟩
  cases cur with
  | fin =>
    refine ⟨false, t_is (t_test (d_op (d_op (d_var rfl) d_int (r_ixT (d := .str "end") rfl)) d_str r_neS)) (by decide +kernel), nofun, fun _ => s_frz (i := 2) rfl (s_ret (d_var rfl) ?_)⟩
    rw [hdue, due_fin, List.append_nil]
  | set v c =>
    have hdone : done.length + (dep c + 1) ≤ dep r := hdone
    refine ⟨true, t_is (t_test (d_op (d_op (d_var rfl) d_int (r_ixT (d := .str "set") rfl)) d_str r_neS)) (by decide +kernel), fun _ => ?_, nofun⟩
    refine s_if (b := true) (t_is (t_test (d_op (d_op (d_var rfl) d_int (r_ixT (d := .str "set") rfl)) d_str r_eqS)) (by decide +kernel)) (fun _ => ?_) nofun
    refine s_seq (s_app rfl (d_op (d_var rfl) d_int (r_ixT (d := .bool v) rfl)) (by rw [List.length_map]; exact line_lt (by omega)) ?_)
    refine s_asg (d_op (d_var rfl) d_int (r_ixT (d := ruD c) rfl)) ⟨dep c, Nat.lt_succ_self _, c, left, done ++ [v], rfl, hu, hl, by rw [List.length_append]; show done.length + 1 + dep c ≤ dep r; omega, ?_, ?_⟩
    · rw [hdue, due_set, List.append_assoc]
      rfl
    · rw [map_one]
      rfl
  | see a b =>
    refine ⟨true, t_is (t_test (d_op (d_op (d_var rfl) d_int (r_ixT (d := .str "see") rfl)) d_str r_neS)) (by decide +kernel), fun _ => ?_, nofun⟩
    refine s_if (b := false) (t_is (t_test (d_op (d_op (d_var rfl) d_int (r_ixT (d := .str "see") rfl)) d_str r_eqS)) (by decide +kernel)) nofun fun _ => ?_
    cases left with
    | nil => exact absurd hl (by simp [sees])
    | cons x left =>
      have dp := dep_pick a b x
      obtain ⟨u1, u2⟩ := uni_pick hu x
      refine s_seq (s_app rfl (d_op (d_var rfl) d_int (r_ixL (d := .bool x) (bools_get (bs := x :: left) (k := 0) rfl))) (by rw [List.length_map]; exact line_lt (by omega)) ?_)
      refine s_seq (s_asg (d := ruD (if x then b else a)) (d_op (d_var rfl) (d_op d_int (d_cb (a_cons (d_op (d_var rfl) d_int (r_ixL (d := .bool x) (bools_get (bs := x :: left) (k := 0) rfl))) a_nil) r_intB) r_int) (r_ixT ?_)) ?_)
      · cases x <;> rfl
      refine s_asg (d := dBools left) (d_is (d_slL (d_var rfl) (o_some d_int) o_none) (congrArg PyData.list (sl_from ((x :: left).map PyData.bool) 1))) ⟨dep (if x then b else a), dp, (if x then b else a), left, done ++ [x], rfl, u1, ?_, by rw [List.length_append]; show done.length + 1 + _ ≤ dep r; omega, ?_, ?_⟩
      · rw [u2]
        simp only [sees, List.length_cons] at hl
        omega
      · rw [hdue, due_see, List.append_assoc]
        rfl
      · rw [map_one]
        rfl
/-! _law_alike -/
abbrev g_L_alike : List D → D → Prop := GF (fun v : List Bool => [dBools v, dBools v]) (fun _ => True) fun _ => .bool true
theorem ok_L_alike (T : Txt K mg a fd ec) : FnOk P w K mg base CX0 1 (a 6) (fd 6) ["_law_found", "_law_due_here"] (PrD K Tb g_L_alike) := by
  refine fn_gf T.F_L_alike sc_L_alike (fun _ => rfl) (fun cdv A outer s H E hr => ⟨_, (pss_cons (ps_if (PW.pt (pw_or (pt_not (pt_val (pe_callB call_isi (by rfl) T.m_isinstance (by decide +kernel) (pa_cons (pv 0) (pa_cons (pe_bltn (v := .ty "list") (by rfl) T.m_list (by decide +kernel) rfl) pa_nil))))) (pw_or1 (pt_cmpR op_ne (pe_callB call_len_seq (by rfl) T.m_len (by decide +kernel) (pa_cons (pv 0) pa_nil)) (pe_callB call_len_seq (by rfl) T.m_len (by decide +kernel) (pa_cons (pv 1) pa_nil)) (nomark _)))))
        (pss_one (ps_ret pe_bl))
        pss_nil)
      (pss_cons (ps_for PassesOwn.never rfl (RZ.pi_zipA (by rfl) T.m_zip (pa_cons (pv 0) (pa_cons (pv 1) pa_nil))) (pg_tup rfl (pgs_cons (pg_name (i := 2) sc_L_alike.nd rfl (.inl rfl)) (pgs_cons (pg_name (i := 3) sc_L_alike.nd rfl (.inl rfl)) pgs_nil)))
        (pss_one (ps_if (PW.pt (pw_or (pt_not (pt_val (pe_callB call_isi (by rfl) T.m_isinstance (by decide +kernel) (pa_cons (pv 2) (pa_cons (pe_bltn (v := .ty "bool") (by rfl) T.m_bool (by decide +kernel) rfl) pa_nil))))) (pw_or1 (pt_cmpR op_ne (pv 2) (pv 3) (nomark _)))))
        (pss_one (ps_ret pe_bl))
        pss_nil)))
      (pss_one (ps_ret pe_bl)))), fun F0 H0 x hp => ?_⟩)
  refine s_env (env' := [.dat (dBools x), .dat (dBools x), .no, .no]) rfl ?_
  refine s_seq (s_if (b := false) (t_is (t_or (t_not (t_test (d_isi (b := true) (d_var rfl) (kit_ty (a := "list") (by decide +kernel))))) fun _ => t_test (d_op (d_cb (a_cons (d_var rfl) a_nil) r_lenL) (d_cb (a_cons (d_var rfl) a_nil) r_lenL) r_neI)) (by simp)) (fun z => nomatch z) fun _ => s_next ?_)
  refine s_seq (s_forZ (a_cons (d_var rfl) (a_cons (d_var rfl) a_nil)) (fun _ e => ∃ y2 y3, e = [.dat (dBools x), .dat (dBools x), y2, y3]) ⟨.no, .no, rfl⟩ ?_ ?_)
  · rintro k d d2 _ hk hk2 ⟨y2, y3, rfl⟩
    obtain ⟨b, hb, rfl⟩ := map_at hk
    rw [hk] at hk2
    obtain rfl : PyData.bool b = d2 := Option.some.inj hk2
    exact s_if (b := false) (t_is (t_or (t_not (t_test (d_isi (b := true) (d_var rfl) (kit_ty (a := "bool") (by decide +kernel))))) fun _ => t_test (d_op (d_var rfl) (d_var rfl) r_neB)) (by simp)) (fun z => nomatch z) fun _ => s_next ⟨.dat (.bool b), .dat (.bool b), rfl⟩
  · rintro _ ⟨y2, y3, rfl⟩
    exact s_ret d_bl rfl
/-! _law_refused -/
abbrev g_L_refused : List D → D → Prop := GF (fun x : Ru × List Bool => [ruD x.1, dBools x.2]) (fun x => dep x.1 ≤ 20 ∧ x.2.length ≤ 30 ∧ Uni x.1 ∧ x.2.length ≠ sees x.1) fun _ => .bool true
theorem ok_L_refused (T : Txt K mg a fd ec) : FnOk P w K mg base CX0 2 (a 7) (fd 7) ["_law_rule", "_law_row_here"] (PrD K Tb g_L_refused) := by
  have G_played : FnOk P w K mg base (L2.CX P w) _ _ _ _ (PrX K Tb (g_played (ec := ec))) := ok_played T
  refine fn_gf T.F_L_refused sc_L_refused (fun _ => rfl) (fun cdv A outer s H E hr => ⟨_, (pss_cons (ps_try_as (i := 2) (tb := fun W => tDrop (tCallS (PrX K Tb (g_played (ec := ec))) (WE W) (tCons (tVar 0) (tCons (tVar 1) tNil)))) (Wout := fun _ _ _ _ => False) rfl rfl sc_L_refused.nd rfl rfl ⟨rfl, by decide, .inl T.gc_BadRow⟩ takes0
        (fun W pn xe tk _ => pss_one (ps_expr (pe_callS G_played hr (by rfl) T.g_played T.F_played.kp T.b_played (fun σ => passAt tk σ) (pa_cons (pv 0) (pa_cons (pv 1) pa_nil)))))
        (fun a oe cls d pn hz hf => (pss_one (ps_ret (pe_and (pe_callB (call_isG T.ec_BadRow hz hf) (by rfl) T.m_isinstance (by decide +kernel) (pa_cons (pv 2) (pa_cons (pe_glob (v := .ref (ec 0)) rfl T.gc_WishError rfl) pa_nil))) (pe_and (pe_not (pe_callB (call_isG T.ec_BadRow hz hf) (by rfl) T.m_isinstance (by decide +kernel) (pa_cons (pv 2) (pa_cons (pe_glob (v := .ref (ec 1)) rfl T.gc_BadGame rfl) pa_nil)))) (pe_one (pe_not (pe_callB (call_isG T.ec_BadRow hz hf) (by rfl) T.m_isinstance (by decide +kernel) (pa_cons (pv 2) (pa_cons (pe_glob (v := .ref (ec 3)) rfl T.gc_BadText rfl) pa_nil)))))))))))
      (pss_one (ps_ret pe_bl))), fun F0 H0 x hp => ?_⟩)
  obtain ⟨r, row⟩ := x
  obtain ⟨h1, h2, h3, h4⟩ : dep r ≤ 20 ∧ row.length ≤ 30 ∧ Uni r ∧ row.length ≠ sees r := hp
  refine s_env (env' := [.dat (ruD r), .dat (dBools row), .no]) rfl ?_
  have eb : playR (ec 2) r row = .bad (ec 2) := play_bad h3 h4
  refine s_seq (s_try (a_cons (d_var rfl) (a_cons (d_var rfl) a_nil)) ⟨(r, row), rfl, ⟨h1, h2⟩, rfl⟩ (fun d e => ?_) fun cl e => ?_)
  · have e : playR (ec 2) r row = _ := e
    rw [eb] at e
    cases e
  · have e : playR (ec 2) r row = _ := e
    rw [eb] at e
    cases e
    refine ⟨exm_own T.bc_BadRow T.ic_BadRow T.tc_BadRow T.su_BadRow_BadRow, fun a' => ?_⟩
    refine s_ret (d_andV (a := true) (d_isG rfl (kit_own T.ic_WishError T.tc_WishError T.su_BadRow_WishError T.su_BadRow_BadRow) fun _ z => z) fun _ =>
      d_andV (d_notV (d_isG (b := false) rfl (kit_own T.ic_BadGame T.tc_BadGame T.su_BadRow_BadGame T.su_BadRow_BadRow) fun _ z => z)) fun _ => d_notV (d_isG (b := false) rfl (kit_own T.ic_BadText T.tc_BadText T.su_BadRow_BadText T.su_BadRow_BadRow) fun _ z => z)) rfl
/-! _law_refused_by_any -/
abbrev g_L_refused_by_any : List D → D → Prop := GF (fun x : Ru × List Bool => [ruD x.1, dBools x.2]) (fun x => dep x.1 ≤ 20 ∧ x.2.length ≤ 30 ∧ Uni x.1 ∧ x.2.length ≠ sees x.1) fun _ => .bool true
theorem ok_L_refused_by_any (T : Txt K mg a fd ec) : FnOk P w K mg base CX0 2 (a 8) (fd 8) ["_law_rule", "_law_row_here"] (PrD K Tb g_L_refused_by_any) := by
  have G_played : FnOk P w K mg base (L2.CX P w) _ _ _ _ (PrX K Tb (g_played (ec := ec))) := ok_played T
  refine fn_gf T.F_L_refused_by_any sc_L_refused_by_any (fun _ => rfl) (fun cdv A outer s H E hr => ⟨_, (pss_cons (ps_try_as (i := 2) (tb := fun W => tDrop (tCallS (PrX K Tb (g_played (ec := ec))) (WE W) (tCons (tVar 0) (tCons (tVar 1) tNil)))) (Wout := fun _ _ _ _ => False) rfl rfl sc_L_refused_by_any.nd rfl rfl ⟨rfl, by decide, .inl T.gc_WishError⟩ takes0
        (fun W pn xe tk _ => pss_one (ps_expr (pe_callS G_played hr (by rfl) T.g_played T.F_played.kp T.b_played (fun σ => passAt tk σ) (pa_cons (pv 0) (pa_cons (pv 1) pa_nil)))))
        (fun a oe cls d pn hz hf => (pss_one (ps_ret (pe_callB (call_isG T.ec_BadRow hz hf) (by rfl) T.m_isinstance (by decide +kernel) (pa_cons (pv 2) (pa_cons (pe_bltn (v := .ty "ValueError") (by rfl) T.m_ValueError (by decide +kernel) rfl) pa_nil)))))))
      (pss_one (ps_ret pe_bl))), fun F0 H0 x hp => ?_⟩)
  obtain ⟨r, row⟩ := x
  obtain ⟨h1, h2, h3, h4⟩ : dep r ≤ 20 ∧ row.length ≤ 30 ∧ Uni r ∧ row.length ≠ sees r := hp
  refine s_env (env' := [.dat (ruD r), .dat (dBools row), .no]) rfl ?_
  have eb : playR (ec 2) r row = .bad (ec 2) := play_bad h3 h4
  refine s_seq (s_try (a_cons (d_var rfl) (a_cons (d_var rfl) a_nil)) ⟨(r, row), rfl, ⟨h1, h2⟩, rfl⟩ (fun d e => ?_) fun cl e => ?_)
  · have e : playR (ec 2) r row = _ := e
    rw [eb] at e
    cases e
  · have e : playR (ec 2) r row = _ := e
    rw [eb] at e
    cases e
    refine ⟨exm_own T.bc_WishError T.ic_WishError T.tc_WishError T.su_BadRow_WishError, fun a' => ?_⟩
    exact s_ret (d_isG (b := true) rfl (kit_type (by decide +kernel) T.sv_BadRow) fun _ z => z) rfl
/-! law -/
abbrev g_law : List D → D → Prop := GF (fun ns : List Int => [dInts ns]) (fun ns => ns.length ≤ 63) fun _ => .bool true
theorem ok_law (T : Txt K mg a fd ec) : FnOk P w K mg base CX0 3 (a 9) (fd 9) ["_law_script"] (PrD K Tb g_law) := by
  have G_L_alike : FnOk P w K mg base CX0 _ _ _ _ (PrD K Tb g_L_alike) := ok_L_alike T
  have G_L_cell_at : FnOk P w K mg base CX0 _ _ _ _ (PrD K Tb g_L_cell_at) := ok_L_cell_at T
  have G_L_due : FnOk P w K mg base CX0 _ _ _ _ (PrD K Tb g_L_due) := ok_L_due T
  have G_L_refused : FnOk P w K mg base CX0 _ _ _ _ (PrD K Tb g_L_refused) := ok_L_refused T
  have G_L_refused_by_any : FnOk P w K mg base CX0 _ _ _ _ (PrD K Tb g_L_refused_by_any) := ok_L_refused_by_any T
  have G_L_row : FnOk P w K mg base CX0 _ _ _ _ (PrD K Tb g_L_row) := ok_L_row T
  have G_L_rules : FnOk P w K mg base CX0 _ _ _ _ (PrD K Tb g_L_rules) := ok_L_rules T
  have G_L_seen : FnOk P w K mg base CX0 _ _ _ _ (PrD K Tb g_L_seen) := ok_L_seen T
  have G_played : FnOk P w K mg base (L2.CX P w) _ _ _ _ (PrX K Tb (g_played (ec := ec))) := ok_played T
  refine fn_gf T.F_law sc_law (fun _ => rfl) (fun cdv A outer s H E hr => ⟨_, (pss_cons (ps_set (i := 1) sc_law.nd rfl (.inl rfl) (pe_call G_L_rules hr (by rfl) T.g_L_rules T.F_L_rules.kp T.b_L_rules .nil pass0 (pa_cons (pv 0) (pa_cons (pe_op op_mod (pe_call G_L_cell_at (hr.mono (by decide)) (by rfl) T.g_L_cell_at T.F_L_cell_at.kp T.b_L_cell_at .nil pass0 (pa_cons (pv 0) (pa_cons pe_int pa_nil))) pe_int) pa_nil))))
      (pss_cons (ps_set (i := 2) sc_law.nd rfl (.inl rfl) (pe_call G_L_seen (hr.mono (by decide)) (by rfl) T.g_L_seen T.F_L_seen.kp T.b_L_seen .nil pass0 (pa_cons (pv 1) pa_nil)))
      (pss_cons (ps_set (i := 3) sc_law.nd rfl (.inl rfl) (pe_callB (call_max2 rfl) (by rfl) T.m_max (by decide +kernel) (pa_cons pe_int (pa_cons (pe_op op_add (pv 2) (pe_ix ix_list (pe_lst (pa_cons pe_int (pa_cons pe_int (pa_cons pe_int (pa_cons pe_int (pa_cons pe_int (pa_cons (pe_un un_neg pe_int) (pa_cons pe_int (pa_cons (pe_un un_neg pe_int) pa_nil))))))))) (pe_op op_mod (pe_call G_L_cell_at (hr.mono (by decide)) (by rfl) T.g_L_cell_at T.F_L_cell_at.kp T.b_L_cell_at .nil pass0 (pa_cons (pv 0) (pa_cons pe_int pa_nil))) pe_int) (fun _ _ => rfl))) pa_nil))))
      (pss_cons (ps_set (i := 4) sc_law.nd rfl (.inl rfl) (pe_call G_L_row (hr.mono (by decide)) (by rfl) T.g_L_row T.F_L_row.kp T.b_L_row .nil pass0 (pa_cons (pe_call G_L_cell_at (hr.mono (by decide)) (by rfl) T.g_L_cell_at T.F_L_cell_at.kp T.b_L_cell_at .nil pass0 (pa_cons (pv 0) (pa_cons pe_int pa_nil))) (pa_cons (pv 3) pa_nil))))
      (pss_cons (ps_set (i := 5) sc_law.nd rfl (.inl rfl) (pe_callTy call_list_of (by rfl) T.m_list (by decide +kernel) (pa_cons (pv 4) pa_nil)))
      (pss_cons (ps_if (pt_cmpR op_ne (pv 3) (pv 2) (nomark _))
        (pss_one (ps_ret (pe_and (pe_call G_L_refused hr (by rfl) T.g_L_refused T.F_L_refused.kp T.b_L_refused .nil pass0 (pa_cons (pv 1) (pa_cons (pv 5) pa_nil))) (pe_and (pe_call G_L_refused_by_any hr (by rfl) T.g_L_refused_by_any T.F_L_refused_by_any.kp T.b_L_refused_by_any .nil pass0 (pa_cons (pv 1) (pa_cons (pv 5) pa_nil))) (pe_one (pe_cmpR (op_eqD hr.units) (pv 5) (pv 4) (nomark _)))))))
        pss_nil)
      (pss_one (ps_ret (pe_and (pe_call G_L_alike (hr.mono (by decide)) (by rfl) T.g_L_alike T.F_L_alike.kp T.b_L_alike .nil pass0 (pa_cons (pe_call G_played (hr.mono (by decide)) (by rfl) T.g_played T.F_played.kp T.b_played .nil passL (pa_cons (pv 1) (pa_cons (pv 5) pa_nil))) (pa_cons (pe_call G_L_due (hr.mono (by decide)) (by rfl) T.g_L_due T.F_L_due.kp T.b_L_due .nil pass0 (pa_cons (pv 1) (pa_cons (pv 4) pa_nil))) pa_nil))) (pe_one (pe_cmpR (op_eqD hr.units) (pv 5) (pv 4) (nomark _)))))))))))), fun F0 H0 x hp => ?_⟩)
  refine s_env (env' := [.dat (dInts x), .no, .no, .no, .no, .no]) rfl ?_
  have cell : ∀ (env : List Sl) (k : Nat), env[0]? = some (.dat (dInts x)) → EvD K Tb (tCall (PrD K Tb g_L_cell_at) [] E0 (tCons (tVar 0) (tCons (tC (.int (k : Int))) tNil))) env (.int (cellAt x k)) := fun env k h =>
    d_call (a_cons (d_var h) (a_cons d_int a_nil)) ⟨(x, k), rfl, trivial, rfl⟩
  obtain ⟨m, hm, hm11⟩ := rest_nat (cellAt x 0) 11 (by decide)
  refine s_seq (s_asg (d_call (a_cons (d_var rfl) (a_cons (d_is (d_op (cell _ 0 rfl) d_int (r_intC (by show (0 : Int) < 11; decide))) (congrArg PyData.int hm)) a_nil)) ⟨(x, m), rfl, (by show m ≤ 20; omega), rfl⟩) ?_)
  obtain ⟨u, _, _, hdep, _⟩ := rules_ok x m
  obtain ⟨r, hr'⟩ : ∃ r, (rules x m).1 = r := ⟨_, rfl⟩
  show StD K Tb F0 H0 _ [.dat (dInts x), .dat (ruD (rules x m).1), .no, .no, .no, .no] _
  rw [hr'] at u hdep ⊢
  have sd := sees_dep r
  refine s_seq (s_asg (d_call (a_cons (d_var rfl) a_nil) ⟨r, rfl, trivial, rfl⟩) ?_)
  have dl := delta_ok (cellAt x 1)
  obtain ⟨z, hz, hz20⟩ : ∃ z : Nat, (if (sees r : Int) + deltas.getD (cellAt x 1 % 8).toNat 0 > 0 then (sees r : Int) + deltas.getD (cellAt x 1 % 8).toNat 0 else 0) = (z : Int) ∧ z ≤ 20 := by
    split
    · exact ⟨((sees r : Int) + deltas.getD (cellAt x 1 % 8).toNat 0).toNat, by omega, by omega⟩
    · exact ⟨0, rfl, by omega⟩
  refine s_seq (s_asg (d_is (d_cb (a_cons d_int (a_cons (d_op (d_var rfl) (d_op (d_lst (xs := deltas.map PyData.int) (a_cons d_int (a_cons d_int (a_cons d_int (a_cons d_int (a_cons d_int (a_cons (d_un d_int r_neg) (a_cons d_int (a_cons (d_un d_int r_neg) a_nil)))))))) (line_big (by show 8 ≤ 100000; decide)))
    (d_op (cell _ 1 rfl) d_int (r_intC (by show (0 : Int) < 8; decide))) (r_ixL (pick_at deltas 8 rfl (by decide) (cellAt x 1)))) r_int) a_nil)) r_max2) (congrArg PyData.int hz)) ?_)
  refine s_seq (s_asg (d_call (a_cons (cell _ 2 rfl) (a_cons (d_var rfl) a_nil)) ⟨(cellAt x 2, z), rfl, (by show z ≤ 1000; omega), rfl⟩) ?_)
  obtain ⟨row, hrow⟩ : ∃ row, bitsOf (cellAt x 2) z = row := ⟨_, rfl⟩
  have rl : row.length = z := by rw [← hrow, bitsOf_len]
  show StD K Tb F0 H0 _ [.dat (dInts x), .dat (ruD r), .dat (.int (sees r : Nat)), .dat (.int (z : Nat)), .dat (dBools (bitsOf (cellAt x 2) z)), .no] _
  rw [hrow]
  refine s_seq (s_asg (d_cb (a_cons (d_var rfl) a_nil) r_list) ?_)
  refine s_seq (s_if (b := !decide (z = sees r)) (t_is (t_test (d_op (d_var rfl) (d_var rfl) r_neI)) (congrArg _ (decide_eq_decide.mpr (by omega)))) (fun h => ?_) fun h => s_next ?_)
  · have h : z ≠ sees r := by simpa using h
    refine s_ret (d_andV (a := true) (d_call (a_cons (d_var rfl) (a_cons (d_var rfl) a_nil)) ⟨(r, row), rfl, ⟨by show dep r ≤ 20; omega, by show row.length ≤ 30; omega, u, by show row.length ≠ sees r; omega⟩, rfl⟩) fun _ =>
      d_andV (a := true) (d_call (a_cons (d_var rfl) (a_cons (d_var rfl) a_nil)) ⟨(r, row), rfl, ⟨by show dep r ≤ 20; omega, by show row.length ≤ 30; omega, u, by show row.length ≠ sees r; omega⟩, rfl⟩) fun _ => d_op (d_var rfl) (d_var rfl) (r_eqD (shaped_bools row) (shaped_bools row))) ?_
    show PyData.bool _ = PyData.bool true
    rw [eqv_self (shaped_bools row)]
    rfl
  · have h : z = sees r := by simpa using h
    refine s_ret (d_andV (a := true) (d_call (a_cons (d_callX (z := dBools (due r row)) (a_cons (d_var rfl) (a_cons (d_var rfl) a_nil)) ⟨(r, row), rfl, ⟨by show dep r ≤ 20; omega, by show row.length ≤ 30; omega⟩, (play_ok u (by omega)).symm⟩) (a_cons (d_call (a_cons (d_var rfl) (a_cons (d_var rfl) a_nil)) ⟨(r, row), rfl, ⟨by show dep r ≤ 20; omega, u, by show row.length = sees r; omega⟩, rfl⟩) a_nil)) ⟨due r row, rfl, trivial, rfl⟩) fun _ =>
      d_op (d_var rfl) (d_var rfl) (r_eqD (shaped_bools row) (shaped_bools row))) ?_
    show PyData.bool _ = PyData.bool true
    rw [eqv_self (shaped_bools row)]
    rfl
end
theorem all_mk {l : PySem.W.OpenLaw} {w : World} {K : PySem.W.Frag} {h : Heap} {mg : Str → Option Value} {fa : Addr} (X : K.In h) (G : h.Ns mainGlobals mg) (hfa : mg "law" = some (.ref fa))
    {f0 f1 f2 f3 f4 f5 f6 f7 f8 f9 : Addr} {oc0 kV0 dc0 pm0 ct0 cd0 oc1 kV1 dc1 pm1 ct1 cd1 oc2 kV2 dc2 pm2 ct2 cd2 oc3 kV3 dc3 pm3 ct3 cd3 oc4 kV4 dc4 pm4 ct4 cd4 oc5 kV5 dc5 pm5 ct5 cd5 oc6 kV6 dc6 pm6 ct6 cd6 oc7 kV7 dc7 pm7 ct7 cd7 oc8 kV8 dc8 pm8 ct8 cd8 oc9 kV9 dc9 pm9 ct9 cd9 : Value} {od0 an0 od1 an1 od2 an2 od3 an3 od4 an4 od5 an5 od6 an6 od7 an7 od8 an8 od9 an9 : Option Addr} {sl0 sl1 sl2 sl3 sl4 sl5 sl6 sl7 sl8 sl9 : Array (Option Value)}
    {e0 e1 e2 e3 : Addr}
    (a0 : PySem.W.nsIn K mainGlobals "played" = some (some (.ref f0)))
    (l0 : K.lookup f0 = some ⟨oc0, od0, .func (PySem.W.fnOf "played" "played" (defArgs s_played) (defBody s_played) (defScope s_played) .none kV0 dc0 pm0 an0 cd0 ct0), sl0⟩)
    (c0_ : PySem.W.codeIn K cd0 "played" = true)
    (k0 : PySem.W.keepIn K (.ref f0) = true)
    (a1 : PySem.W.nsIn K mainGlobals "_law_cell_at" = some (some (.ref f1)))
    (l1 : K.lookup f1 = some ⟨oc1, od1, .func (PySem.W.fnOf "_law_cell_at" "_law_cell_at" (defArgs s_L_cell_at) (defBody s_L_cell_at) (defScope s_L_cell_at) .none kV1 dc1 pm1 an1 cd1 ct1), sl1⟩)
    (c1_ : PySem.W.codeIn K cd1 "_law_cell_at" = true)
    (k1 : PySem.W.keepIn K (.ref f1) = true)
    (a2 : PySem.W.nsIn K mainGlobals "_law_rules" = some (some (.ref f2)))
    (l2 : K.lookup f2 = some ⟨oc2, od2, .func (PySem.W.fnOf "_law_rules" "_law_rules" (defArgs s_L_rules) (defBody s_L_rules) (defScope s_L_rules) .none kV2 dc2 pm2 an2 cd2 ct2), sl2⟩)
    (c2_ : PySem.W.codeIn K cd2 "_law_rules" = true)
    (k2 : PySem.W.keepIn K (.ref f2) = true)
    (a3 : PySem.W.nsIn K mainGlobals "_law_seen" = some (some (.ref f3)))
    (l3 : K.lookup f3 = some ⟨oc3, od3, .func (PySem.W.fnOf "_law_seen" "_law_seen" (defArgs s_L_seen) (defBody s_L_seen) (defScope s_L_seen) .none kV3 dc3 pm3 an3 cd3 ct3), sl3⟩)
    (c3_ : PySem.W.codeIn K cd3 "_law_seen" = true)
    (k3 : PySem.W.keepIn K (.ref f3) = true)
    (a4 : PySem.W.nsIn K mainGlobals "_law_row" = some (some (.ref f4)))
    (l4 : K.lookup f4 = some ⟨oc4, od4, .func (PySem.W.fnOf "_law_row" "_law_row" (defArgs s_L_row) (defBody s_L_row) (defScope s_L_row) .none kV4 dc4 pm4 an4 cd4 ct4), sl4⟩)
    (c4_ : PySem.W.codeIn K cd4 "_law_row" = true)
    (k4 : PySem.W.keepIn K (.ref f4) = true)
    (a5 : PySem.W.nsIn K mainGlobals "_law_due" = some (some (.ref f5)))
    (l5 : K.lookup f5 = some ⟨oc5, od5, .func (PySem.W.fnOf "_law_due" "_law_due" (defArgs s_L_due) (defBody s_L_due) (defScope s_L_due) .none kV5 dc5 pm5 an5 cd5 ct5), sl5⟩)
    (c5_ : PySem.W.codeIn K cd5 "_law_due" = true)
    (k5 : PySem.W.keepIn K (.ref f5) = true)
    (a6 : PySem.W.nsIn K mainGlobals "_law_alike" = some (some (.ref f6)))
    (l6 : K.lookup f6 = some ⟨oc6, od6, .func (PySem.W.fnOf "_law_alike" "_law_alike" (defArgs s_L_alike) (defBody s_L_alike) (defScope s_L_alike) .none kV6 dc6 pm6 an6 cd6 ct6), sl6⟩)
    (c6_ : PySem.W.codeIn K cd6 "_law_alike" = true)
    (k6 : PySem.W.keepIn K (.ref f6) = true)
    (a7 : PySem.W.nsIn K mainGlobals "_law_refused" = some (some (.ref f7)))
    (l7 : K.lookup f7 = some ⟨oc7, od7, .func (PySem.W.fnOf "_law_refused" "_law_refused" (defArgs s_L_refused) (defBody s_L_refused) (defScope s_L_refused) .none kV7 dc7 pm7 an7 cd7 ct7), sl7⟩)
    (c7_ : PySem.W.codeIn K cd7 "_law_refused" = true)
    (k7 : PySem.W.keepIn K (.ref f7) = true)
    (a8 : PySem.W.nsIn K mainGlobals "_law_refused_by_any" = some (some (.ref f8)))
    (l8 : K.lookup f8 = some ⟨oc8, od8, .func (PySem.W.fnOf "_law_refused_by_any" "_law_refused_by_any" (defArgs s_L_refused_by_any) (defBody s_L_refused_by_any) (defScope s_L_refused_by_any) .none kV8 dc8 pm8 an8 cd8 ct8), sl8⟩)
    (c8_ : PySem.W.codeIn K cd8 "_law_refused_by_any" = true)
    (k8 : PySem.W.keepIn K (.ref f8) = true)
    (a9 : PySem.W.nsIn K mainGlobals "law" = some (some (.ref f9)))
    (l9 : K.lookup f9 = some ⟨oc9, od9, .func (PySem.W.fnOf "law" "law" (defArgs s_law) (defBody s_law) (defScope s_law) .none kV9 dc9 pm9 an9 cd9 ct9), sl9⟩)
    (c9_ : PySem.W.codeIn K cd9 "law" = true)
    (k9 : PySem.W.keepIn K (.ref f9) = true)
    (z_len : PySem.W.nsIn K mainGlobals "len" = some none)
    (z_range : PySem.W.nsIn K mainGlobals "range" = some none)
    (z_max : PySem.W.nsIn K mainGlobals "max" = some none)
    (z_list : PySem.W.nsIn K mainGlobals "list" = some none)
    (z_isinstance : PySem.W.nsIn K mainGlobals "isinstance" = some none)
    (z_bool : PySem.W.nsIn K mainGlobals "bool" = some none)
    (z_zip : PySem.W.nsIn K mainGlobals "zip" = some none)
    (z_int : PySem.W.nsIn K mainGlobals "int" = some none)
    (z_ValueError : PySem.W.nsIn K mainGlobals "ValueError" = some none)
    (gc_WishError : PySem.W.nsIn K mainGlobals "WishError" = some (some (.ref e0)))
    (bc_WishError : PySem.W.subIn K (.ref e0) (.type "BaseException") = some true)
    (tc_WishError : PySem.W.typeIn K (.ref e0) = some (.type "type"))
    (ic_WishError : PySem.W.isClsIn K e0 = true)
    (gc_BadGame : PySem.W.nsIn K mainGlobals "BadGame" = some (some (.ref e1)))
    (bc_BadGame : PySem.W.subIn K (.ref e1) (.type "BaseException") = some true)
    (tc_BadGame : PySem.W.typeIn K (.ref e1) = some (.type "type"))
    (ic_BadGame : PySem.W.isClsIn K e1 = true)
    (gc_BadRow : PySem.W.nsIn K mainGlobals "BadRow" = some (some (.ref e2)))
    (bc_BadRow : PySem.W.subIn K (.ref e2) (.type "BaseException") = some true)
    (tc_BadRow : PySem.W.typeIn K (.ref e2) = some (.type "type"))
    (ic_BadRow : PySem.W.isClsIn K e2 = true)
    (gc_BadText : PySem.W.nsIn K mainGlobals "BadText" = some (some (.ref e3)))
    (bc_BadText : PySem.W.subIn K (.ref e3) (.type "BaseException") = some true)
    (tc_BadText : PySem.W.typeIn K (.ref e3) = some (.type "type"))
    (ic_BadText : PySem.W.isClsIn K e3 = true)
    (xc_BadRow : PySem.W.excIn K e2 [.type "ValueError", .type "Exception", .type "BaseException", .type "object"] "ValueError.__new__" = true)
    (kc_BadRow : PySem.W.keepIn K (.ref e2) = true)
    (su_BadRow_WishError : PySem.W.subIn K (.ref e2) (.ref e0) = some true)
    (su_BadRow_BadGame : PySem.W.subIn K (.ref e2) (.ref e1) = some false)
    (su_BadRow_BadRow : PySem.W.subIn K (.ref e2) (.ref e2) = some true)
    (su_BadRow_BadText : PySem.W.subIn K (.ref e2) (.ref e3) = some false)
    (sv_BadRow : PySem.W.subIn K (.ref e2) (.type "ValueError") = some true)
    (ehg_BadRow : PySem.W.findIn K (.ref e2) "__getattribute__" = some (some (.builtin "BaseException.__getattribute__")))
    (ehk_BadRow : PySem.W.findIn K (.ref e2) "__getattr__" = some none)
    (ehs_BadRow : PySem.W.subIn K (.ref e2) (.type "BaseException") = some true)
    (ehd_BadRow : PySem.W.hasDictIn K e2 = true)
    (eha_BadRow : PySem.W.findIn K (.ref e2) "__class__" = some (some (.builtin "object.__class__")))
    (ehn_BadRow : PySem.W.specialIn K (.builtin "object.__class__") "__get__" = some (some (.builtin "getset_descriptor.__get__")))
    (eht_BadRow : PySem.W.takesIn K (.builtin "object.__class__") = some true)
    (ehm_BadRow : PySem.W.mroIn K e2 (.type "object") = some true)
    : LamX.LawAtS l w K CX0 3 63 "_law_script" mg fa h := by
  obtain rfl : f9 = fa := by
    have e := (PySem.W.mg_of X G a9).symm.trans hfa
    injection e with e
    injection e
  have F0 := fun_mk (st := s_played) l0 c0_ k0
  have b0 := F0.binds (ps := ["rule", "row"]) fun _ _ _ _ _ _ us hl => match us, hl with | [_, _], _ => rfl
  have F1 := fun_mk (st := s_L_cell_at) l1 c1_ k1
  have b1 := F1.binds (ps := ["_law_script", "_law_k"]) fun _ _ _ _ _ _ us hl => match us, hl with | [_, _], _ => rfl
  have F2 := fun_mk (st := s_L_rules) l2 c2_ k2
  have b2 := F2.binds (ps := ["_law_script", "_law_many"]) fun _ _ _ _ _ _ us hl => match us, hl with | [_, _], _ => rfl
  have F3 := fun_mk (st := s_L_seen) l3 c3_ k3
  have b3 := F3.binds (ps := ["_law_rule"]) fun _ _ _ _ _ _ us hl => match us, hl with | [_], _ => rfl
  have F4 := fun_mk (st := s_L_row) l4 c4_ k4
  have b4 := F4.binds (ps := ["_law_cell", "_law_size"]) fun _ _ _ _ _ _ us hl => match us, hl with | [_, _], _ => rfl
  have F5 := fun_mk (st := s_L_due) l5 c5_ k5
  have b5 := F5.binds (ps := ["_law_rule", "_law_row_here"]) fun _ _ _ _ _ _ us hl => match us, hl with | [_, _], _ => rfl
  have F6 := fun_mk (st := s_L_alike) l6 c6_ k6
  have b6 := F6.binds (ps := ["_law_found", "_law_due_here"]) fun _ _ _ _ _ _ us hl => match us, hl with | [_, _], _ => rfl
  have F7 := fun_mk (st := s_L_refused) l7 c7_ k7
  have b7 := F7.binds (ps := ["_law_rule", "_law_row_here"]) fun _ _ _ _ _ _ us hl => match us, hl with | [_, _], _ => rfl
  have F8 := fun_mk (st := s_L_refused_by_any) l8 c8_ k8
  have b8 := F8.binds (ps := ["_law_rule", "_law_row_here"]) fun _ _ _ _ _ _ us hl => match us, hl with | [_, _], _ => rfl
  have F9 := fun_mk (st := s_law) l9 c9_ k9
  have b9 := F9.binds (ps := ["_law_script"]) fun _ _ _ _ _ _ us hl => match us, hl with | [_], _ => rfl
  have T : Txt K mg (fun i => [f0, f1, f2, f3, f4, f5, f6, f7, f8, f9].getD i 0) (fun i => [PySem.W.fnOf "played" "played" (defArgs s_played) (defBody s_played) (defScope s_played) .none kV0 dc0 pm0 an0 cd0 ct0, PySem.W.fnOf "_law_cell_at" "_law_cell_at" (defArgs s_L_cell_at) (defBody s_L_cell_at) (defScope s_L_cell_at) .none kV1 dc1 pm1 an1 cd1 ct1, PySem.W.fnOf "_law_rules" "_law_rules" (defArgs s_L_rules) (defBody s_L_rules) (defScope s_L_rules) .none kV2 dc2 pm2 an2 cd2 ct2, PySem.W.fnOf "_law_seen" "_law_seen" (defArgs s_L_seen) (defBody s_L_seen) (defScope s_L_seen) .none kV3 dc3 pm3 an3 cd3 ct3, PySem.W.fnOf "_law_row" "_law_row" (defArgs s_L_row) (defBody s_L_row) (defScope s_L_row) .none kV4 dc4 pm4 an4 cd4 ct4, PySem.W.fnOf "_law_due" "_law_due" (defArgs s_L_due) (defBody s_L_due) (defScope s_L_due) .none kV5 dc5 pm5 an5 cd5 ct5, PySem.W.fnOf "_law_alike" "_law_alike" (defArgs s_L_alike) (defBody s_L_alike) (defScope s_L_alike) .none kV6 dc6 pm6 an6 cd6 ct6, PySem.W.fnOf "_law_refused" "_law_refused" (defArgs s_L_refused) (defBody s_L_refused) (defScope s_L_refused) .none kV7 dc7 pm7 an7 cd7 ct7, PySem.W.fnOf "_law_refused_by_any" "_law_refused_by_any" (defArgs s_L_refused_by_any) (defBody s_L_refused_by_any) (defScope s_L_refused_by_any) .none kV8 dc8 pm8 an8 cd8 ct8, PySem.W.fnOf "law" "law" (defArgs s_law) (defBody s_law) (defScope s_law) .none kV9 dc9 pm9 an9 cd9 ct9].getD i (PySem.W.fnOf "played" "played" (defArgs s_played) (defBody s_played) (defScope s_played) .none kV0 dc0 pm0 an0 cd0 ct0)) (fun i => [e0, e1, e2, e3].getD i 0) := {
    F_played := F0, g_played := PySem.W.mg_of X G a0, b_played := b0,
    F_L_cell_at := F1, g_L_cell_at := PySem.W.mg_of X G a1, b_L_cell_at := b1,
    F_L_rules := F2, g_L_rules := PySem.W.mg_of X G a2, b_L_rules := b2,
    F_L_seen := F3, g_L_seen := PySem.W.mg_of X G a3, b_L_seen := b3,
    F_L_row := F4, g_L_row := PySem.W.mg_of X G a4, b_L_row := b4,
    F_L_due := F5, g_L_due := PySem.W.mg_of X G a5, b_L_due := b5,
    F_L_alike := F6, g_L_alike := PySem.W.mg_of X G a6, b_L_alike := b6,
    F_L_refused := F7, g_L_refused := PySem.W.mg_of X G a7, b_L_refused := b7,
    F_L_refused_by_any := F8, g_L_refused_by_any := PySem.W.mg_of X G a8, b_L_refused_by_any := b8,
    F_law := F9, g_law := PySem.W.mg_of X G a9, b_law := b9,
    gc_WishError := PySem.W.mg_of X G gc_WishError,
    bc_WishError := bc_WishError,
    tc_WishError := tc_WishError,
    ic_WishError := ic_WishError,
    gc_BadGame := PySem.W.mg_of X G gc_BadGame,
    bc_BadGame := bc_BadGame,
    tc_BadGame := tc_BadGame,
    ic_BadGame := ic_BadGame,
    gc_BadRow := PySem.W.mg_of X G gc_BadRow,
    bc_BadRow := bc_BadRow,
    tc_BadRow := tc_BadRow,
    ic_BadRow := ic_BadRow,
    gc_BadText := PySem.W.mg_of X G gc_BadText,
    bc_BadText := bc_BadText,
    tc_BadText := tc_BadText,
    ic_BadText := ic_BadText,
    xc_BadRow := xc_BadRow,
    kc_BadRow := kc_BadRow,
    su_BadRow_WishError := su_BadRow_WishError,
    su_BadRow_BadGame := su_BadRow_BadGame,
    su_BadRow_BadRow := su_BadRow_BadRow,
    su_BadRow_BadText := su_BadRow_BadText,
    sv_BadRow := sv_BadRow,
    ec_BadRow := ⟨ehg_BadRow, ehk_BadRow, ehs_BadRow, ehd_BadRow, eha_BadRow, ehn_BadRow, eht_BadRow, ehm_BadRow⟩,
    m_len := PySem.W.mg_none_of X G z_len, m_range := PySem.W.mg_none_of X G z_range, m_max := PySem.W.mg_none_of X G z_max, m_list := PySem.W.mg_none_of X G z_list, m_isinstance := PySem.W.mg_none_of X G z_isinstance, m_bool := PySem.W.mg_none_of X G z_bool, m_zip := PySem.W.mg_none_of X G z_zip, m_int := PySem.W.mg_none_of X G z_int, m_ValueError := PySem.W.mg_none_of X G z_ValueError }
  exact ⟨PySem.W.fnOf "law" "law" (defArgs s_law) (defBody s_law) (defScope s_law) .none kV9 dc9 pm9 an9 cd9 ct9, ([] : List (Addr × Addr)), PrD K (([] : List (Addr × Addr)).map (·.2)) g_law, fun p hp => (nomatch hp), fun p hp => (nomatch hp), fun p hp => (nomatch hp), fun s v => .of_eq rfl, fun H a ns hl _ ht hs => law_sp hl ht hs, fun base _ _ tb => ok_law (P := l.prog) T⟩
end K04
open PySem PySem.W PyProof.Rows
set_option maxRecDepth 100000 in
set_option maxHeartbeats 0 in
theorem PySem.Challenge.cw_everywish_k04_a_rule_played_holds : PySem.Challenge.rw_everywish_k04_a_rule_played.Holds := by
  w_on; o_law; k_head; (case hw => w_witness2)
  k_fill
  refine DL.walk_dl (l := PySem.Challenge.rw_everywish_k04_a_rule_played) (n := 63) (k := 3) (x := "_law_script") (CX := fun _ => L2.CX0) rfl (by decide) rfl ⟨rfl, by decide, by decide⟩ (fun w h Y => PySem.W.kIn_of Y) ?F (fun _ _ _ _ _ h => h)
  case F =>
    intro w mg fa h KX G hmg tabs
    refine' K04.all_mk KX G hmg  ?a0 ?l0 ?c0_ ?k0 ?a1 ?l1 ?c1_ ?k1 ?a2 ?l2 ?c2_ ?k2 ?a3 ?l3 ?c3_ ?k3 ?a4 ?l4 ?c4_ ?k4 ?a5 ?l5 ?c5_ ?k5 ?a6 ?l6 ?c6_ ?k6 ?a7 ?l7 ?c7_ ?k7 ?a8 ?l8 ?c8_ ?k8 ?a9 ?l9 ?c9_ ?k9 ?z_len ?z_range ?z_max ?z_list ?z_isinstance ?z_bool ?z_zip ?z_int ?z_ValueError ?gc_WishError ?bc_WishError ?tc_WishError ?ic_WishError ?gc_BadGame ?bc_BadGame ?tc_BadGame ?ic_BadGame ?gc_BadRow ?bc_BadRow ?tc_BadRow ?ic_BadRow ?gc_BadText ?bc_BadText ?tc_BadText ?ic_BadText ?xc_BadRow ?kc_BadRow ?su_BadRow_WishError ?su_BadRow_BadGame ?su_BadRow_BadRow ?su_BadRow_BadText ?sv_BadRow ?ehg_BadRow ?ehk_BadRow ?ehs_BadRow ?ehd_BadRow ?eha_BadRow ?ehn_BadRow ?eht_BadRow ?ehm_BadRow
    (case a0 => k_is); (case l0 => k_is); (case c0_ => k_is); (case k0 => k_is); (case a1 => k_is); (case l1 => k_is); (case c1_ => k_is); (case k1 => k_is); (case a2 => k_is); (case l2 => k_is); (case c2_ => k_is); (case k2 => k_is); (case a3 => k_is); (case l3 => k_is); (case c3_ => k_is); (case k3 => k_is); (case a4 => k_is); (case l4 => k_is); (case c4_ => k_is); (case k4 => k_is); (case a5 => k_is); (case l5 => k_is); (case c5_ => k_is); (case k5 => k_is); (case a6 => k_is); (case l6 => k_is); (case c6_ => k_is); (case k6 => k_is); (case a7 => k_is); (case l7 => k_is); (case c7_ => k_is); (case k7 => k_is); (case a8 => k_is); (case l8 => k_is); (case c8_ => k_is); (case k8 => k_is); (case a9 => k_is); (case l9 => k_is); (case c9_ => k_is); (case k9 => k_is); (case z_len => k_is); (case z_range => k_is); (case z_max => k_is); (case z_list => k_is); (case z_isinstance => k_is); (case z_bool => k_is); (case z_zip => k_is); (case z_int => k_is); (case z_ValueError => k_is); (case gc_WishError => k_is); (case bc_WishError => k_is); (case tc_WishError => k_is); (case ic_WishError => k_is); (case gc_BadGame => k_is); (case bc_BadGame => k_is); (case tc_BadGame => k_is); (case ic_BadGame => k_is); (case gc_BadRow => k_is); (case bc_BadRow => k_is); (case tc_BadRow => k_is); (case ic_BadRow => k_is); (case gc_BadText => k_is); (case bc_BadText => k_is); (case tc_BadText => k_is); (case ic_BadText => k_is); (case xc_BadRow => k_exc); (case kc_BadRow => k_is); (case su_BadRow_WishError => k_is); (case su_BadRow_BadGame => k_is); (case su_BadRow_BadRow => k_is); (case su_BadRow_BadText => k_is); (case sv_BadRow => k_is); (case ehg_BadRow => k_is); (case ehk_BadRow => k_is); (case ehs_BadRow => k_is); (case ehd_BadRow => k_is); (case eha_BadRow => k_is); (case ehn_BadRow => k_is); (case eht_BadRow => k_is); (case ehm_BadRow => k_is)
