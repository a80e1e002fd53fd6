import PyProof.Rows.All
import Wide.All
import OpenK.AllK
import Wide.FinOn
import HandS.Base
import HandS.Call
import HandS.List
import HandS.Comp
import HandS.Ends
import HandS.Evl
import HandS.Iter
import HandS.Text
import HandS.AnyAll
import HandS.Words
import HandS.WordsList
import HandS.Walk
import HandS.IsInst
import HandS.Rev
import HandS.GenList
import HandS.EndTab
import HandS.HeadWalk
import KE.KNest
import HandS.RevTup
import HandS.DictComp
import HandS.More
import HandS.Exc
import HandS.ExcOwn
import HandS.WordsExc
import HandS.ExcIs
import HandS.RaiseMore
import HandS.FStr
import HandS.Zip
import PyProof.Rows.SeqMore
import HandS.Deep
import HandS.Conv
import HandS.TryOnly
import PyProof.Draws
import PyProof.EnumMake
import PyProof.Rows.StrMul
import KE.IntTextLaws
import PyProof.StrLawsTight
import PyProof.StrLawsChain
import PyProof.StrLawsAffix
import PyProof.Rows.StrSplitCount
import HandS.StrMore
import PySem.Challenge.RW_everywish_k07_texts_refused
set_option Elab.async false
set_option linter.all false
set_option maxRecDepth 100000
set_option maxHeartbeats 2000000
/-! Data in place of heaps: what a def does, told of plain data. -/
namespace DL
open PySem PySem.Spec L2
open Evl (Ex)
abbrev D := PyData

/-! ### data stands in a heap -/
theorem ex_rd {H H' : Hp} {a : Addr} {u : HO} (e : Ex H H') (h : Rd H a u) : Rd H' a u := Evl.ex_rd e h
mutual
theorem dp_mono {K : PySem.W.Frag} {H H' : Hp} (e : Ex H H') : ∀ (d : D) (v : V), Dp K H v d → Dp K H' v d
  | .none, _, h => by cases h; exact .non
  | .bool b, _, h => by cases h; exact .bl b
  | .int i, _, h => by cases h; exact .int i
  | .str x, _, h => by cases h; exact .str x
  | .list ds, _, h => by
    cases h with
    | lst hs ha => exact .lst (Evl.ex_l e hs) (dps_mono e ds _ ha)
  | .tuple ds, _, h => by
    cases h with
    | tup hs ha => exact .tup (Evl.ex_t e hs) (dps_mono e ds _ ha)
  | .dict _, _, h => by cases h
theorem dps_mono {K : PySem.W.Frag} {H H' : Hp} (e : Ex H H') : ∀ (ds : List D) (vs : List V), DpAll K H vs ds → DpAll K H' vs ds
  | [], _, h => by cases h; exact .nil
  | d :: ds, _, h => by
    cases h with
    | cons h1 h2 => exact .cons (dp_mono e d _ h1) (dps_mono e ds _ h2)
end
section
variable {K : PySem.W.Frag} {H H' F F' : Hp} {v x y : V} {vs ws : List V} {d : D} {ds es : List D}
theorem dps_len : ∀ {vs : List V} {ds : List D}, DpAll K H vs ds → vs.length = ds.length
  | _, _, .nil => rfl
  | _, _, .cons _ t => by rw [List.length_cons, List.length_cons, dps_len t]
theorem dps_get : ∀ {vs : List V} {ds : List D} {i : Nat} {d : D}, DpAll K H vs ds → ds[i]? = some d → ∃ v, vs[i]? = some v ∧ Dp K H v d
  | _, _, _, _, .nil, e => by simp at e
  | _, _, 0, _, .cons h _, e => by simp at e; subst e; exact ⟨_, rfl, h⟩
  | _, _, i + 1, _, .cons _ t, e => by
    obtain ⟨v, h1, h2⟩ := dps_get (i := i) t (by simpa using e)
    exact ⟨v, by simpa using h1, h2⟩
theorem dps_getV : ∀ {vs : List V} {ds : List D} {i : Nat} {v : V}, DpAll K H vs ds → vs[i]? = some v → ∃ d, ds[i]? = some d ∧ Dp K H v d
  | _, _, _, _, .nil, e => by simp at e
  | _, _, 0, _, .cons h _, e => by simp at e; subst e; exact ⟨_, rfl, h⟩
  | _, _, i + 1, _, .cons _ t, e => by
    obtain ⟨d, h1, h2⟩ := dps_getV (i := i) t (by simpa using e)
    exact ⟨d, by simpa using h1, h2⟩
theorem dps_app : ∀ {vs ws : List V} {ds es : List D}, DpAll K H vs ds → DpAll K H ws es → DpAll K H (vs ++ ws) (ds ++ es)
  | _, _, _, _, .nil, s => s
  | _, _, _, _, .cons r t, s => .cons r (dps_app t s)
theorem dps_take : ∀ {vs : List V} {ds : List D} (n : Nat), DpAll K H vs ds → DpAll K H (vs.take n) (ds.take n)
  | _, _, 0, _ => .nil
  | _, _, _ + 1, .nil => .nil
  | _, _, n + 1, .cons r t => .cons r (dps_take n t)
theorem dps_drop : ∀ {vs : List V} {ds : List D} (n : Nat), DpAll K H vs ds → DpAll K H (vs.drop n) (ds.drop n)
  | _, _, 0, r => r
  | _, _, _ + 1, .nil => .nil
  | _, _, n + 1, .cons _ t => dps_drop n t
theorem dps_ints : ∀ {vs : List V} {ns : List Int}, DpAll K H vs (ns.map PyData.int) → vs = ns.map V.int
  | _, [], h => by cases h; rfl
  | _, n :: ns, h => by
    cases h with
    | cons h1 h2 => cases h1; rw [dps_ints h2]; rfl
theorem ints_dps : ∀ (ns : List Int), DpAll K H (ns.map V.int) (ns.map PyData.int)
  | [] => .nil
  | n :: ns => .cons (.int n) (ints_dps ns)
theorem dps_bools : ∀ {vs : List V} {ns : List Bool}, DpAll K H vs (ns.map PyData.bool) → vs = ns.map V.bl
  | _, [], h => by cases h; rfl
  | _, n :: ns, h => by
    cases h with
    | cons h1 h2 => cases h1; rw [dps_bools h2]; rfl
end

/-! ### the frozen part F of a heap H; T: the tables of code objects, which grow -/
structure Wk (T : List Addr) (F H : Hp) : Prop where
  sub : Ex F H
  tab : ∀ P ∈ T, GxR.TabG H P ∧ F P = none
structure Nx (T : List Addr) (F H F' H' : Hp) : Prop where
  exF : Ex F F'
  exH : ∀ a o, H a = some o → a ∉ T → H' a = some o
  own : ∀ a o, H a = some o → F a = none → F' a = none
section
variable {T : List Addr} {F H F' H' F2 H2 : Hp} {p : Addr} {o : HO}
theorem Nx.refl (T : List Addr) (F H : Hp) : Nx T F H F H := ⟨Ex.refl F, fun _ _ h _ => h, fun _ _ _ n => n⟩
theorem Wk.has (w : Wk T F H) {P : Addr} (h : P ∈ T) : ∃ ps, H P = some (.tbl ps) := let ⟨ps, e, _⟩ := (w.tab P h).1; ⟨ps, e⟩
theorem Nx.trans (w : Wk T F' H') (a : Nx T F H F' H') (b : Nx T F' H' F2 H2) : Nx T F H F2 H2 :=
  ⟨a.exF.trans b.exF, fun c u e n => b.exH c u (a.exH c u e n) n, fun c u e n => by
    have n1 := a.own c u e n
    by_cases hc : c ∈ T
    · obtain ⟨ps, e1⟩ := w.has hc
      exact b.own c _ e1 n1
    · exact b.own c u (a.exH c u e hc) n1⟩
theorem Wk.notT (w : Wk T F H) (hp : H p = none) : p ∉ T := fun h => by
  obtain ⟨ps, e⟩ := w.has h
  rw [hp] at e
  cases e
theorem Wk.noF (w : Wk T F H) (hp : H p = none) : F p = none := Evl.fresh_back w.sub hp
theorem Wk.new (w : Wk T F H) (hp : H p = none) : Wk T (upd F p o) (upd H p o) where
  sub := fun a u e => by
    by_cases ha : a = p
    · subst ha
      rw [upd_same] at e ⊢
      exact e
    · rw [upd_ne ha] at e ⊢
      exact w.sub a u e
  tab := fun P h => by
    have hP : P ≠ p := fun z => w.notT hp (z ▸ h)
    obtain ⟨⟨ps, e, t⟩, n⟩ := w.tab P h
    exact ⟨⟨ps, (upd_ne hP).trans e, t⟩, (upd_ne hP).trans n⟩
theorem Nx.new (w : Wk T F H) (hp : H p = none) : Nx T F H (upd F p o) (upd H p o) where
  exF := Ex.new (w.noF hp)
  exH := fun a u e _ => Ex.new hp a u e
  own := fun a u e n => by rw [upd_ne (ne_of_none e hp)]; exact n
/-- a new object that stays ours -/
theorem Wk.mine (w : Wk T F H) (hp : H p = none) : Wk T F (upd H p o) where
  sub := fun a u e => by rw [upd_ne (ne_of_none (w.sub a u e) hp)]; exact w.sub a u e
  tab := fun P h => by
    have hP : P ≠ p := fun z => w.notT hp (z ▸ h)
    obtain ⟨⟨ps, e, t⟩, n⟩ := w.tab P h
    exact ⟨⟨ps, (upd_ne hP).trans e, t⟩, n⟩
theorem Wk.write (w : Wk T F H) (hF : F p = none) (hT : p ∉ T) : Wk T F (upd H p o) where
  sub := fun a u e => by rw [upd_ne (ne_of_none e hF)]; exact w.sub a u e
  tab := fun P h => by
    have hP : P ≠ p := fun z => hT (z ▸ h)
    obtain ⟨⟨ps, e, t⟩, n⟩ := w.tab P h
    exact ⟨⟨ps, (upd_ne hP).trans e, t⟩, n⟩
theorem Wk.freeze (w : Wk T F H) (hT : p ∉ T) (e : H p = some o) : Wk T (upd F p o) H where
  sub := fun a u h => by
    by_cases ha : a = p
    · subst ha
      rw [upd_same] at h
      exact e.trans h
    · rw [upd_ne ha] at h
      exact w.sub a u h
  tab := fun P h => by
    have hP : P ≠ p := fun z => hT (z ▸ h)
    obtain ⟨t, n⟩ := w.tab P h
    exact ⟨t, (upd_ne hP).trans n⟩
end

/-! ### slots -/
inductive Sl where
  | no
  | dat (d : D)
  /-- a list of the def's own that it goes on filling -/
  | own (xs : List D)
  /-- the same, its address told: a list that callers and callees fill too -/
  | held (a : Addr) (xs : List D)
  /-- a list that the def has made and no one changes any more -/
  | lst (xs : List D)
  /-- an object that no one changes any more -/
  | obj (o : HO)
  /-- just this value -/
  | val (v : V)
def Sl.owned : Sl → Bool
  | .own _ => true
  | .held _ _ => true
  | _ => false
def MutOk (K : PySem.W.Frag) (T : List Addr) (H0 F H : Hp) (x : Option (Option V)) (a : Addr) (xs : List D) : Prop := ∃ vs, x = some (some (.ref a)) ∧ F a = none ∧ H0 a = none ∧ a ∉ T ∧ H a = some (.lst vs) ∧ DpAll K F vs xs
def SlOk (K : PySem.W.Frag) (T : List Addr) (H0 F H : Hp) (x : Option (Option V)) : Sl → Prop
  | .no => True
  | .dat d => ∃ v, x = some (some v) ∧ Dp K F v d
  | .own xs => ∃ a, MutOk K T H0 F H x a xs
  | .held a xs => MutOk K T H0 F H x a xs
  | .lst xs => ∃ a vs, x = some (some (.ref a)) ∧ F a = some (.lst vs) ∧ DpAll K F vs xs
  | .obj o => ∃ a, x = some (some (.ref a)) ∧ F a = some o
  | .val v => x = some (some v)
def IsOwn (env : List Sl) (i : Nat) : Prop := ∃ s, env[i]? = some s ∧ s.owned = true
structure Ok (K : PySem.W.Frag) (T : List Addr) (F0 H0 F H : Hp) (σ : L2.St) (env : List Sl) : Prop where
  wk : Wk T F H
  nx : Nx T F0 H0 F H
  len : σ.length = env.length
  sl : ∀ (i : Nat) (s : Sl), env[i]? = some s → SlOk K T H0 F H σ[i]? s
  apart : ∀ (i j : Nat) (a : Addr), i ≠ j → IsOwn env i → IsOwn env j → σ[i]? = some (some (.ref a)) → σ[j]? = some (some (.ref a)) → False
section
variable {K : PySem.W.Frag} {T : List Addr} {F0 H0 F H F' H' : Hp} {σ : L2.St} {env : List Sl} {i : Nat} {d : D} {v : V}
theorem MutOk.step {x : Option (Option V)} {a : Addr} {xs : List D} (w : Wk T F H) (n : Nx T F H F' H') (h : MutOk K T H0 F H x a xs) : MutOk K T H0 F' H' x a xs := by
  obtain ⟨vs, e, f, h0, t, ha, hd⟩ := h
  exact ⟨vs, e, n.own a _ ha f, h0, t, n.exH a _ ha t, dps_mono n.exF _ _ hd⟩
theorem SlOk.mutOk {x : Option (Option V)} {s : Sl} (h : SlOk K T H0 F H x s) (ho : s.owned = true) : ∃ a xs, MutOk K T H0 F H x a xs := by
  cases s with
  | own xs => exact let ⟨a, q⟩ := h; ⟨a, xs, q⟩
  | held a xs => exact ⟨a, xs, h⟩
  | _ => cases ho
theorem SlOk.step {x : Option (Option V)} {s : Sl} (w : Wk T F H) (n : Nx T F H F' H') (h : SlOk K T H0 F H x s) : SlOk K T H0 F' H' x s := by
  cases s with
  | no => trivial
  | dat d =>
    obtain ⟨v, e, h⟩ := h
    exact ⟨v, e, dp_mono n.exF _ _ h⟩
  | own xs =>
    obtain ⟨a, h⟩ := h
    exact ⟨a, h.step w n⟩
  | held a xs => exact MutOk.step w n h
  | lst xs =>
    obtain ⟨a, vs, e, ha, hd⟩ := h
    exact ⟨a, vs, e, n.exF a _ ha, dps_mono n.exF _ _ hd⟩
  | obj u =>
    obtain ⟨a, e, ha⟩ := h
    exact ⟨a, e, n.exF a _ ha⟩
  | val v => exact h
theorem Ok.step (o : Ok K T F0 H0 F H σ env) (w : Wk T F' H') (n : Nx T F H F' H') : Ok K T F0 H0 F' H' σ env :=
  ⟨w, o.nx.trans o.wk n, o.len, fun i s e => (o.sl i s e).step o.wk n, o.apart⟩
theorem get_set {α : Type} {l : List α} {i j : Nat} {x y : α} (h : (l.set i x)[j]? = some y) : (i = j ∧ i < l.length ∧ x = y) ∨ (i ≠ j ∧ l[j]? = some y) := by
  by_cases e : i = j
  · subst e
    by_cases hl : i < l.length
    · rw [List.getElem?_set_self hl] at h
      exact .inl ⟨rfl, hl, Option.some.inj h⟩
    · rw [List.getElem?_eq_none (by simpa using hl)] at h
      cases h
  · rw [List.getElem?_set_ne e] at h
    exact .inr ⟨e, h⟩
/-- a slot is set to what is not ours to fill -/
theorem Ok.put' {x : Sl} {y : Option V} (o : Ok K T F0 H0 F H σ env) (hx : x.owned = false) (h : SlOk K T H0 F H (some y) x) : Ok K T F0 H0 F H (σ.set i y) (env.set i x) := by
  refine ⟨o.wk, o.nx, by simp [o.len], fun j s e => ?_, fun j k a hjk hj hk e1 e2 => ?_⟩
  · rcases get_set e with ⟨rfl, hl, rfl⟩ | ⟨hne, e⟩
    · rw [List.getElem?_set_self (by rw [o.len]; exact hl)]
      exact h
    · rw [List.getElem?_set_ne hne]
      exact o.sl j s e
  · obtain ⟨s1, hj, q1⟩ := hj
    obtain ⟨s2, hk, q2⟩ := hk
    rcases get_set hj with ⟨_, _, z⟩ | ⟨n1, hj⟩
    · rw [← z, hx] at q1; cases q1
    rcases get_set hk with ⟨_, _, z⟩ | ⟨n2, hk⟩
    · rw [← z, hx] at q2; cases q2
    rw [List.getElem?_set_ne n1] at e1
    rw [List.getElem?_set_ne n2] at e2
    exact o.apart j k a hjk ⟨s1, hj, q1⟩ ⟨s2, hk, q2⟩ e1 e2
theorem Ok.put {x : Sl} (o : Ok K T F0 H0 F H σ env) (hx : x.owned = false) (h : SlOk K T H0 F H (some (some v)) x) : Ok K T F0 H0 F H (σ.set i (some v)) (env.set i x) := o.put' hx h
/-- a slot is set to data -/
theorem Ok.set (o : Ok K T F0 H0 F H σ env) (h : Dp K F v d) : Ok K T F0 H0 F H (σ.set i (some v)) (env.set i (.dat d)) := o.put rfl ⟨v, rfl, h⟩
/-- a slot is forgotten -/
theorem Ok.wipe (o : Ok K T F0 H0 F H σ env) (y : Option V) : Ok K T F0 H0 F H (σ.set i y) (env.set i .no) := o.put' rfl trivial
/-- a new list that stays ours comes into a slot -/
theorem Ok.mine {p : Addr} (o : Ok K T F0 H0 F H σ env) (hp : H p = none) : Ok K T F0 H0 F (upd H p (.lst [])) (σ.set i (some (.ref p))) (env.set i (.own [])) := by
  have h0 : H0 p = none := by
    cases q : H0 p with
    | none => rfl
    | some u =>
      rw [o.nx.exH p u q (o.wk.notT hp)] at hp
      cases hp
  have alt : ∀ (j : Nat), IsOwn env j → σ[j]? ≠ some (some (V.ref p)) := fun j ⟨s, e, q⟩ z => by
    obtain ⟨a, xs, vs, e1, _, _, _, ha, _⟩ := (o.sl j _ e).mutOk q
    rw [z] at e1
    cases e1
    rw [hp] at ha
    cases ha
  have keep : ∀ {x : Option (Option V)} {a : Addr} {xs : List D}, MutOk K T H0 F H x a xs → MutOk K T H0 F (upd H p (.lst [])) x a xs := fun ⟨vs, e1, f, h1, t, ha, hd⟩ => ⟨vs, e1, f, h1, t, by rw [upd_ne (ne_of_none ha hp)]; exact ha, hd⟩
  refine ⟨o.wk.mine hp, ⟨o.nx.exF, fun a u e n => ?_, o.nx.own⟩, by simp [o.len], fun j s e => ?_, fun j k a hjk hj hk e1 e2 => ?_⟩
  · have q := o.nx.exH a u e n
    rw [upd_ne (ne_of_none q hp)]
    exact q
  · rcases get_set e with ⟨rfl, hl, rfl⟩ | ⟨hne, e⟩
    · exact ⟨p, [], by rw [List.getElem?_set_self (by rw [o.len]; exact hl)], o.wk.noF hp, h0, o.wk.notT hp, upd_same, .nil⟩
    · rw [List.getElem?_set_ne hne]
      have q := o.sl j s e
      cases s with
      | no => trivial
      | dat d => exact q
      | lst ys => exact q
      | obj u => exact q
      | val v => exact q
      | own xs => exact let ⟨a, q⟩ := q; ⟨a, keep q⟩
      | held a xs => exact keep q
  · obtain ⟨s1, hj, q1⟩ := hj
    obtain ⟨s2, hk, q2⟩ := hk
    rcases get_set hj with ⟨rfl, hl, _⟩ | ⟨n1, hj⟩
    · rcases get_set hk with ⟨rfl, _, _⟩ | ⟨n2, hk⟩
      · exact hjk rfl
      · rw [List.getElem?_set_self (by rw [o.len]; exact hl)] at e1
        cases e1
        rw [List.getElem?_set_ne n2] at e2
        exact alt k ⟨s2, hk, q2⟩ e2
    · rw [List.getElem?_set_ne n1] at e1
      rcases get_set hk with ⟨rfl, hl, _⟩ | ⟨n2, hk⟩
      · rw [List.getElem?_set_self (by rw [o.len]; exact hl)] at e2
        cases e2
        exact alt j ⟨s1, hj, q1⟩ e1
      · rw [List.getElem?_set_ne n2] at e2
        exact o.apart j k a hjk ⟨s1, hj, q1⟩ ⟨s2, hk, q2⟩ e1 e2
/-- the lists of ours in other slots stand elsewhere -/
theorem Ok.other {j : Nat} {a b : Addr} {s s' : Sl} {xs : List D} (o : Ok K T F0 H0 F H σ env) (hij : i ≠ j) (hi : env[i]? = some s) (hs : s.owned = true) (hj : env[j]? = some s') (hs' : s'.owned = true) (ha : σ[i]? = some (some (.ref a))) (h : MutOk K T H0 F H σ[j]? b xs) : b ≠ a := fun z => by
  obtain ⟨vs, e, _⟩ := h
  exact o.apart i j a hij ⟨s, hi, hs⟩ ⟨s', hj, hs'⟩ ha (by rw [e, z])
/-- our list in a slot is changed; s' tells it anew -/
theorem Ok.write' {a : Addr} {s s' : Sl} {ws : List V} (o : Ok K T F0 H0 F H σ env) (hi : env[i]? = some s) (hso : s.owned = true) (hs : σ[i]? = some (some (.ref a))) (ho' : s'.owned = true) (h : SlOk K T H0 F (upd H a (.lst ws)) (some (some (.ref a))) s') : Ok K T F0 H0 F (upd H a (.lst ws)) σ (env.set i s') := by
  obtain ⟨b, xs, vs, e1, f, h0, t, ha, hd⟩ := (o.sl i _ hi).mutOk hso
  rw [hs] at e1
  cases e1
  have keep : ∀ {j : Nat} {s2 : Sl} {c : Addr} {ys : List D}, i ≠ j → env[j]? = some s2 → s2.owned = true → MutOk K T H0 F H σ[j]? c ys → MutOk K T H0 F (upd H a (.lst ws)) σ[j]? c ys := fun hne e q m => by
    have ne := o.other hne hi hso e q hs m
    obtain ⟨us, e1, f1, h1, t1, hc, hd1⟩ := m
    exact ⟨us, e1, f1, h1, t1, by rw [upd_ne ne]; exact hc, hd1⟩
  refine ⟨o.wk.write f t, ⟨o.nx.exF, fun c u e n => ?_, o.nx.own⟩, by simp [o.len], fun j s2 e => ?_, fun j k c hjk hj hk e1 e2 => ?_⟩
  · rw [upd_ne (ne_of_none e h0)]
    exact o.nx.exH c u e n
  · rcases get_set e with ⟨rfl, hl, rfl⟩ | ⟨hne, e⟩
    · rw [hs]
      exact h
    · have q := o.sl j s2 e
      cases s2 with
      | no => trivial
      | dat d => exact q
      | lst ys => exact q
      | obj u => exact q
      | val v => exact q
      | own zs => exact let ⟨c, q⟩ := q; ⟨c, keep hne e rfl q⟩
      | held c zs => exact keep hne e rfl q
  · have own : ∀ j, IsOwn (env.set i s') j → IsOwn env j := fun j ⟨s3, hz, q3⟩ => by
      rcases get_set hz with ⟨rfl, _, _⟩ | ⟨_, hz⟩
      · exact ⟨s, hi, hso⟩
      · exact ⟨s3, hz, q3⟩
    exact o.apart j k c hjk (own j hj) (own k hk) e1 e2
theorem Ok.write {a : Addr} {xs ys : List D} {ws : List V} (o : Ok K T F0 H0 F H σ env) (hi : env[i]? = some (.own xs)) (hs : σ[i]? = some (some (.ref a))) (h : DpAll K F ws ys) : Ok K T F0 H0 F (upd H a (.lst ws)) σ (env.set i (.own ys)) := by
  obtain ⟨b, vs, e1, f, h0, t, ha, hd⟩ := o.sl i _ hi
  rw [hs] at e1
  cases e1
  exact o.write' hi rfl hs rfl ⟨a, ws, rfl, f, h0, t, upd_same, h⟩
/-- a slot's list is told otherwise -/
theorem Ok.retell {s s' : Sl} (o : Ok K T F0 H0 F H σ env) (hi : env[i]? = some s) (hs : s.owned = true) (h : SlOk K T H0 F H σ[i]? s') : Ok K T F0 H0 F H σ (env.set i s') := by
  refine ⟨o.wk, o.nx, by simp [o.len], fun j s2 e => ?_, fun j k c hjk hj hk e1 e2 => ?_⟩
  · rcases get_set e with ⟨rfl, hl, rfl⟩ | ⟨hne, e⟩
    · exact h
    · exact o.sl j s2 e
  · have own : ∀ j, IsOwn (env.set i s') j → IsOwn env j := fun j ⟨s3, hz, q3⟩ => by
      rcases get_set hz with ⟨rfl, _, _⟩ | ⟨_, hz⟩
      · exact ⟨s, hi, hs⟩
      · exact ⟨s3, hz, q3⟩
    exact o.apart j k c hjk (own j hj) (own k hk) e1 e2
/-- our list becomes plain data -/
theorem Ok.freeze {xs : List D} (o : Ok K T F0 H0 F H σ env) (hi : env[i]? = some (.own xs)) : ∃ F', Ex F F' ∧ Ok K T F0 H0 F' H σ (env.set i (.dat (.list xs))) := by
  obtain ⟨a, vs, e1, f, h0, t, ha, hd⟩ := o.sl i _ hi
  have ex : Ex F (upd F a (.lst vs)) := Ex.new f
  have keep : ∀ {j : Nat} {s2 : Sl} {c : Addr} {ys : List D}, i ≠ j → env[j]? = some s2 → s2.owned = true → MutOk K T H0 F H σ[j]? c ys → MutOk K T H0 (upd F a (.lst vs)) H σ[j]? c ys := fun hne e q m => by
    have ne := o.other hne hi rfl e q e1 m
    obtain ⟨us, e2, f1, h1, t1, hc, hd1⟩ := m
    exact ⟨us, e2, (upd_ne ne).trans f1, h1, t1, hc, dps_mono ex _ _ hd1⟩
  refine ⟨upd F a (.lst vs), ex, o.wk.freeze t ha, ⟨o.nx.exF.trans ex, o.nx.exH, fun c u e n => ?_⟩, by simp [o.len], fun j s e => ?_, fun j k c hjk hj hk e1 e2 => ?_⟩
  · rw [upd_ne (ne_of_none e h0)]
    exact o.nx.own c u e n
  · rcases get_set e with ⟨rfl, hl, rfl⟩ | ⟨hne, e⟩
    · exact ⟨.ref a, e1, .lst (.inl (.inl upd_same)) (dps_mono ex _ _ hd)⟩
    · have q := o.sl j s e
      cases s with
      | no => trivial
      | dat d =>
        obtain ⟨v, e2, h⟩ := q
        exact ⟨v, e2, dp_mono ex _ _ h⟩
      | lst ys =>
        obtain ⟨c, us, e2, h2, h3⟩ := q
        exact ⟨c, us, e2, ex c _ h2, dps_mono ex _ _ h3⟩
      | obj u =>
        obtain ⟨c, e2, h2⟩ := q
        exact ⟨c, e2, ex c _ h2⟩
      | val v => exact q
      | own zs => exact let ⟨c, q⟩ := q; ⟨c, keep hne e rfl q⟩
      | held c zs => exact keep hne e rfl q
  · have own : ∀ j, IsOwn (env.set i (.dat (.list xs))) j → IsOwn env j := fun j ⟨s3, hz, q3⟩ => by
      rcases get_set hz with ⟨_, _, z⟩ | ⟨_, hz⟩
      · rw [← z] at q3; cases q3
      · exact ⟨s3, hz, q3⟩
    exact o.apart j k c hjk (own j hj) (own k hk) e1 e2
end

/-! ### what an expression gives -/
section
variable (K : PySem.W.Frag) (T : List Addr)
def EvD (te : TE) (env : List Sl) (d : D) : Prop := ∀ F0 H0 F H σ, Ok K T F0 H0 F H σ env → ∀ Q : VK, (∀ v F' H', Wk T F' H' → Nx T F H F' H' → Dp K F' v d → Q v H') → te σ H Q
def EvT (tt : TT) (env : List Sl) (b : Bool) : Prop := ∀ F0 H0 F H σ, Ok K T F0 H0 F H σ env → ∀ Q : Bool → Hp → Prop, (∀ F' H', Wk T F' H' → Nx T F H F' H' → Q b H') → tt σ H Q
def EvA (ta : TA) (env : List Sl) (ds : List D) : Prop := ∀ F0 H0 F H σ, Ok K T F0 H0 F H σ env → ∀ Q : List V → Hp → Prop, (∀ vs F' H', Wk T F' H' → Nx T F H F' H' → DpAll K F' vs ds → Q vs H') → ta σ H Q
def EvO (to : TO) (env : List Sl) (o : Option Int) : Prop := ∀ F0 H0 F H σ, Ok K T F0 H0 F H σ env → ∀ Q : Option Int → Hp → Prop, (∀ F' H', Wk T F' H' → Nx T F H F' H' → Q o H') → to σ H Q
def ROp (r : R2) (x y z : D) : Prop := ∀ F H a b, Wk T F H → Dp K F a x → Dp K F b y → ∀ Q : VK, (∀ v F' H', Wk T F' H' → Nx T F H F' H' → Dp K F' v z → Q v H') → r a b H Q
def RUn (r : V → Hp → VK → Prop) (x z : D) : Prop := ∀ F H a, Wk T F H → Dp K F a x → ∀ Q : VK, (∀ v F' H', Wk T F' H' → Nx T F H F' H' → Dp K F' v z → Q v H') → r a H Q
def RCa (r : List V → Hp → VK → Prop) (xs : List D) (z : D) : Prop := ∀ F H vs, Wk T F H → DpAll K F vs xs → ∀ Q : VK, (∀ v F' H', Wk T F' H' → Nx T F H F' H' → Dp K F' v z → Q v H') → r vs H Q
/-- a def's promise -/
def PrD (G : List D → D → Prop) : Sp := fun vs H Q _ => ∃ F ds d, Wk T F H ∧ DpAll K F vs ds ∧ G ds d ∧ ∀ v F' H', Wk T F' H' → Nx T F H F' H' → Dp K F' v d → Q v H'
end
section
variable {K : PySem.W.Frag} {T : List Addr} {env : List Sl} {ta tb tc te : TE} {t u : TT} {x y z d : D} {r r' : R2} {i : Nat}
theorem d_var (h : env[i]? = some (.dat d)) : EvD K T (tVar i) env d := fun F0 H0 F H σ o Q q => by
  obtain ⟨v, e, hd⟩ := o.sl i _ h
  exact ⟨v, e, q v F H o.wk (Nx.refl T F H) hd⟩
theorem d_int {n : Int} : EvD K T (tC (.int n)) env (.int n) := fun F0 H0 F H σ o Q q => q _ F H o.wk (Nx.refl T F H) (.int n)
theorem d_bl {b : Bool} : EvD K T (tC (.bl b)) env (.bool b) := fun F0 H0 F H σ o Q q => q _ F H o.wk (Nx.refl T F H) (.bl b)
theorem d_non : EvD K T (tC .non) env .none := fun F0 H0 F H σ o Q q => q _ F H o.wk (Nx.refl T F H) .non
theorem d_str {s : Str} : EvD K T (tC (.str s)) env (.str s) := fun F0 H0 F H σ o Q q => q _ F H o.wk (Nx.refl T F H) (.str s)
theorem d_op (ha : EvD K T ta env x) (hb : EvD K T tb env y) (hr : ROp K T r x y z) : EvD K T (tOp r ta tb) env z := fun F0 H0 F H σ o Q q =>
  ha F0 H0 F H σ o _ fun v F1 H1 w1 n1 d1 => hb F0 H0 F1 H1 σ (o.step w1 n1) _ fun v2 F2 H2 w2 n2 d2 =>
    hr F2 H2 v v2 w2 (dp_mono n2.exF _ _ d1) d2 Q fun v3 F3 H3 w3 n3 d3 => q v3 F3 H3 w3 (n1.trans w1 (n2.trans w2 n3)) d3
theorem d_un {r : V → Hp → VK → Prop} (ha : EvD K T ta env x) (hr : RUn K T r x z) : EvD K T (tUn r ta) env z := fun F0 H0 F H σ o Q q =>
  ha F0 H0 F H σ o _ fun v F1 H1 w1 n1 d1 => hr F1 H1 v w1 d1 Q fun v3 F3 H3 w3 n3 d3 => q v3 F3 H3 w3 (n1.trans w1 n3) d3
theorem d_cb {r : List V → Hp → VK → Prop} {ta : TA} {xs : List D} (ha : EvA K T ta env xs) (hr : RCa K T r xs z) : EvD K T (tCB r ta) env z := fun F0 H0 F H σ o Q q =>
  ha F0 H0 F H σ o _ fun v F1 H1 w1 n1 d1 => hr F1 H1 v w1 d1 Q fun v3 F3 H3 w3 n3 d3 => q v3 F3 H3 w3 (n1.trans w1 n3) d3
theorem d_call {G : List D → D → Prop} {E : XK} {ta : TA} {xs : List D} (ha : EvA K T ta env xs) (hG : G xs z) : EvD K T (tCall (PrD K T G) [] E ta) env z := fun F0 H0 F H σ o Q q =>
  ha F0 H0 F H σ o _ fun v F1 H1 w1 n1 d1 => by
    show PrD K T G (v ++ []) H1 Q E
    rw [List.append_nil]
    exact ⟨F1, xs, z, w1, d1, hG, fun v3 F3 H3 w3 n3 d3 => q v3 F3 H3 w3 (n1.trans w1 n3) d3⟩
theorem a_nil : EvA K T tNil env [] := fun F0 H0 F H σ o Q q => q _ F H o.wk (Nx.refl T F H) .nil
theorem a_cons {tr : TA} {xs : List D} (h : EvD K T te env x) (hr : EvA K T tr env xs) : EvA K T (tCons te tr) env (x :: xs) := fun F0 H0 F H σ o Q q =>
  h F0 H0 F H σ o _ fun v F1 H1 w1 n1 d1 => hr F0 H0 F1 H1 σ (o.step w1 n1) _ fun vs F2 H2 w2 n2 d2 => q _ F2 H2 w2 (n1.trans w1 n2) (.cons (dp_mono n2.exF _ _ d1) d2)
theorem o_none : EvO K T tNoPart env none := fun F0 H0 F H σ o Q q => q F H o.wk (Nx.refl T F H)
theorem o_some {n : Int} (h : EvD K T te env (.int n)) : EvO K T (tPart te) env (some n) := fun F0 H0 F H σ o Q q =>
  h F0 H0 F H σ o _ fun v F1 H1 w1 n1 d1 => by cases d1; exact ⟨n, rfl, q F1 H1 w1 n1⟩
theorem d_is {z' : D} (h : EvD K T te env z) (e : z = z') : EvD K T te env z' := e ▸ h
theorem t_is {b b' : Bool} (h : EvT K T t env b) (e : b = b') : EvT K T t env b' := e ▸ h
/-! tests -/
theorem t_test {b : Bool} (h : EvD K T te env (.bool b)) : EvT K T (tTest te) env b := fun F0 H0 F H σ o Q q =>
  h F0 H0 F H σ o _ fun v F1 H1 w1 n1 d1 => by cases d1; exact ⟨b, rfl, q F1 H1 w1 n1⟩
theorem t_B {b : Bool} (h : EvD K T te env (.bool b)) : EvT K T (tB te) env b := fun F0 H0 F H σ o Q q =>
  h F0 H0 F H σ o _ fun v F1 H1 w1 n1 d1 => by cases d1; exact ⟨b, rfl, q F1 H1 w1 n1⟩
theorem t_not {b : Bool} (h : EvT K T t env b) : EvT K T (tNot t) env (!b) := fun F0 H0 F H σ o Q q => h F0 H0 F H σ o _ fun F1 H1 w1 n1 => q F1 H1 w1 n1
theorem t_and {a b : Bool} (h1 : EvT K T t env a) (h2 : a = true → EvT K T u env b) : EvT K T (tAnd t u) env (a && b) := fun F0 H0 F H σ o Q q =>
  h1 F0 H0 F H σ o _ fun F1 H1 w1 n1 => by
    cases a with
    | true => exact iteT (h2 rfl F0 H0 F1 H1 σ (o.step w1 n1) Q fun F2 H2 w2 n2 => q F2 H2 w2 (n1.trans w1 n2))
    | false => exact iteF (q F1 H1 w1 n1)
theorem t_or {a b : Bool} (h1 : EvT K T t env a) (h2 : a = false → EvT K T u env b) : EvT K T (tOr t u) env (a || b) := fun F0 H0 F H σ o Q q =>
  h1 F0 H0 F H σ o _ fun F1 H1 w1 n1 => by
    cases a with
    | true => exact iteT (q F1 H1 w1 n1)
    | false => exact iteF (h2 rfl F0 H0 F1 H1 σ (o.step w1 n1) Q fun F2 H2 w2 n2 => q F2 H2 w2 (n1.trans w1 n2))
theorem d_andV {a b : Bool} (h1 : EvD K T ta env (.bool a)) (h2 : a = true → EvD K T tb env (.bool b)) : EvD K T (tAndV ta tb) env (.bool (a && b)) := fun F0 H0 F H σ o Q q =>
  h1 F0 H0 F H σ o _ fun v F1 H1 w1 n1 d1 => by
    cases d1
    refine ⟨a, rfl, ?_⟩
    cases a with
    | true => exact iteT (h2 rfl F0 H0 F1 H1 σ (o.step w1 n1) Q fun v F2 H2 w2 n2 d2 => q v F2 H2 w2 (n1.trans w1 n2) d2)
    | false => exact iteF (q _ F1 H1 w1 n1 (.bl false))
theorem d_orV {a b : Bool} (h1 : EvD K T ta env (.bool a)) (h2 : a = false → EvD K T tb env (.bool b)) : EvD K T (tOrV ta tb) env (.bool (a || b)) := fun F0 H0 F H σ o Q q =>
  h1 F0 H0 F H σ o _ fun v F1 H1 w1 n1 d1 => by
    cases d1
    refine ⟨a, rfl, ?_⟩
    cases a with
    | true => exact iteT (q _ F1 H1 w1 n1 (.bl true))
    | false => exact iteF (h2 rfl F0 H0 F1 H1 σ (o.step w1 n1) Q fun v F2 H2 w2 n2 d2 => q v F2 H2 w2 (n1.trans w1 n2) d2)
theorem d_notV {a : Bool} (h1 : EvD K T ta env (.bool a)) : EvD K T (tNotV ta) env (.bool (!a)) := fun F0 H0 F H σ o Q q =>
  h1 F0 H0 F H σ o _ fun v F1 H1 w1 n1 d1 => by cases d1; exact ⟨a, rfl, q _ F1 H1 w1 n1 (.bl _)⟩
theorem d_if {b : Bool} (h : EvT K T t env b) (h1 : b = true → EvD K T ta env d) (h2 : b = false → EvD K T tb env d) : EvD K T (tIf t ta tb) env d := fun F0 H0 F H σ o Q q =>
  h F0 H0 F H σ o _ fun F1 H1 w1 n1 => by
    cases b with
    | true => exact iteT (h1 rfl F0 H0 F1 H1 σ (o.step w1 n1) Q fun v F2 H2 w2 n2 d2 => q v F2 H2 w2 (n1.trans w1 n2) d2)
    | false => exact iteF (h2 rfl F0 H0 F1 H1 σ (o.step w1 n1) Q fun v F2 H2 w2 n2 d2 => q v F2 H2 w2 (n1.trans w1 n2) d2)
theorem d_chain {a b : Bool} (ha : EvD K T ta env x) (hb : EvD K T tb env y) (hr : ROp K T r x y (.bool a)) (hc : a = true → EvD K T tc env z) (hr' : a = true → ROp K T r' y z (.bool b)) : EvD K T (tChain r r' ta tb tc) env (.bool (a && b)) := fun F0 H0 F H σ o Q q =>
  ha F0 H0 F H σ o _ fun v F1 H1 w1 n1 d1 => hb F0 H0 F1 H1 σ (o.step w1 n1) _ fun v2 F2 H2 w2 n2 d2 =>
    hr F2 H2 v v2 w2 (dp_mono n2.exF _ _ d1) d2 _ fun v3 F3 H3 w3 n3 d3 => by
      cases d3
      refine ⟨a, rfl, ?_⟩
      have n12 := n1.trans w1 (n2.trans w2 n3)
      cases a with
      | true =>
        exact iteT (hc rfl F0 H0 F3 H3 σ (o.step w3 n12) _ fun v4 F4 H4 w4 n4 d4 =>
          hr' rfl F4 H4 v2 v4 w4 (dp_mono (n3.exF.trans n4.exF) _ _ d2) d4 Q fun v5 F5 H5 w5 n5 d5 => q v5 F5 H5 w5 (n12.trans w3 (n4.trans w4 n5)) d5)
      | false => exact iteF (q _ F3 H3 w3 n12 (.bl false))
/-! displays -/
theorem d_tup {ta : TA} {xs : List D} (h : EvA K T ta env xs) (hl : xs.length ≤ sizeLine) : EvD K T (tTup ta) env (.tuple xs) := fun F0 H0 F H σ o Q q =>
  h F0 H0 F H σ o _ fun vs F1 H1 w1 n1 d1 => ⟨by rw [dps_len d1]; exact hl, fun p hp => q _ (upd F1 p (.tup vs)) _ (w1.new hp) (n1.trans w1 (Nx.new w1 hp)) (.tup (.inl (.inl upd_same)) (dps_mono (Nx.new w1 hp).exF _ _ d1))⟩
theorem d_lst {ta : TA} {xs : List D} (h : EvA K T ta env xs) (hl : xs.length ≤ sizeLine) : EvD K T (tLst ta) env (.list xs) := fun F0 H0 F H σ o Q q =>
  h F0 H0 F H σ o _ fun vs F1 H1 w1 n1 d1 => ⟨by rw [dps_len d1]; exact hl, fun p hp => q _ (upd F1 p (.lst vs)) _ (w1.new hp) (n1.trans w1 (Nx.new w1 hp)) (.lst (.inl (.inl upd_same)) (dps_mono (Nx.new w1 hp).exF _ _ d1))⟩
end
end DL
set_option Elab.async false
set_option linter.all false
set_option maxRecDepth 100000
set_option maxHeartbeats 2000000
/-! Operations by data, statements, loops, comprehensions, defs. -/
namespace DL
open PySem PySem.Spec PyProof.Rows L2
open Evl (Ex)
section
variable {K : PySem.W.Frag} {T : List Addr} {i j : Int}
/-! ### operations -/
theorem r_int {g : Int → Int → Int} : ROp K T (rI0 fun i j => .int (g i j)) (.int i) (.int j) (.int (g i j)) := fun F H a b w ha hb Q q => by
  cases ha; cases hb
  exact ⟨i, j, rfl, rfl, q _ F H w (Nx.refl T F H) (.int _)⟩
theorem r_bool {g : Int → Int → Bool} : ROp K T (rI0 fun i j => .bl (g i j)) (.int i) (.int j) (.bool (g i j)) := fun F H a b w ha hb Q q => by
  cases ha; cases hb
  exact ⟨i, j, rfl, rfl, q _ F H w (Nx.refl T F H) (.bl _)⟩
theorem r_intC {C : Int → Int → Prop} {g : Int → Int → Int} (h : C i j) : ROp K T (rI C fun i j => .int (g i j)) (.int i) (.int j) (.int (g i j)) := fun F H a b w ha hb Q q => by
  cases ha; cases hb
  exact ⟨i, j, rfl, rfl, h, q _ F H w (Nx.refl T F H) (.int _)⟩
theorem r_neg {g : Int → Int} : RUn K T (rU fun i => .int (g i)) (.int i) (.int (g i)) := fun F H a w ha Q q => by
  cases ha
  exact ⟨i, rfl, q _ F H w (Nx.refl T F H) (.int _)⟩
theorem dec_V {α : Type} [DecidableEq α] {f : α → V} (hf : ∀ a b, f a = f b → a = b) (a b : α) : decide (f a = f b) = decide (a = b) := by
  by_cases h : a = b
  · subst h; simp
  · rw [decide_eq_false h, decide_eq_false fun z => h (hf a b z)]
theorem r_eqI : ROp K T rEq (.int i) (.int j) (.bool (decide (i = j))) := fun F H a b w ha hb Q q => by
  cases ha; cases hb
  refine ⟨rfl, ?_⟩
  rw [dec_V (f := V.int) (fun _ _ z => V.int.inj z)]
  exact q _ F H w (Nx.refl T F H) (.bl _)
theorem r_neI : ROp K T rNe (.int i) (.int j) (.bool (!decide (i = j))) := fun F H a b w ha hb Q q => by
  cases ha; cases hb
  refine ⟨rfl, ?_⟩
  rw [dec_V (f := V.int) (fun _ _ z => V.int.inj z)]
  exact q _ F H w (Nx.refl T F H) (.bl _)
theorem r_eqB {a b : Bool} : ROp K T rEq (.bool a) (.bool b) (.bool (decide (a = b))) := fun F H x y w ha hb Q q => by
  cases ha; cases hb
  refine ⟨rfl, ?_⟩
  rw [dec_V (f := V.bl) (fun _ _ z => V.bl.inj z)]
  exact q _ F H w (Nx.refl T F H) (.bl _)
theorem r_neB {a b : Bool} : ROp K T rNe (.bool a) (.bool b) (.bool (!decide (a = b))) := fun F H x y w ha hb Q q => by
  cases ha; cases hb
  refine ⟨rfl, ?_⟩
  rw [dec_V (f := V.bl) (fun _ _ z => V.bl.inj z)]
  exact q _ F H w (Nx.refl T F H) (.bl _)
theorem r_eqS {a b : Str} : ROp K T rEq (.str a) (.str b) (.bool (decide (a = b))) := fun F H x y w ha hb Q q => by
  cases ha; cases hb
  refine ⟨rfl, ?_⟩
  rw [dec_V (f := V.str) (fun _ _ z => V.str.inj z)]
  exact q _ F H w (Nx.refl T F H) (.bl _)
theorem r_neS {a b : Str} : ROp K T rNe (.str a) (.str b) (.bool (!decide (a = b))) := fun F H x y w ha hb Q q => by
  cases ha; cases hb
  refine ⟨rfl, ?_⟩
  rw [dec_V (f := V.str) (fun _ _ z => V.str.inj z)]
  exact q _ F H w (Nx.refl T F H) (.bl _)
theorem r_eqD {d e : D} (h1 : SeqAt.shaped d = true) (h2 : SeqAt.shaped e = true) : ROp K T (rEqD K) d e (.bool (PyData.eqv d e)) := fun F H x y w ha hb Q q =>
  ⟨d, e, dp_mono w.sub _ _ ha, dp_mono w.sub _ _ hb, h1, h2, q _ F H w (Nx.refl T F H) (.bl _)⟩
theorem r_neD {d e : D} (h1 : SeqAt.shaped d = true) (h2 : SeqAt.shaped e = true) : ROp K T (rNeD K) d e (.bool (!PyData.eqv d e)) := fun F H x y w ha hb Q q =>
  ⟨d, e, dp_mono w.sub _ _ ha, dp_mono w.sub _ _ hb, h1, h2, q _ F H w (Nx.refl T F H) (.bl _)⟩
def isNone : D → Bool
  | .none => true
  | _ => false
theorem none_V {F : Hp} {v : V} {d : D} (h : Dp K F v d) : decide (v = .non) = isNone d := by
  cases h <;> simp [isNone]
theorem r_isN {d : D} : ROp K T (fun x y H Q => y = .non ∧ Q (.bl (decide (x = .non))) H) d .none (.bool (isNone d)) := fun F H x y w ha hb Q q => by
  cases hb
  refine ⟨rfl, ?_⟩
  rw [none_V ha]
  exact q _ F H w (Nx.refl T F H) (.bl _)
theorem r_notN {d : D} : ROp K T (fun x y H Q => y = .non ∧ Q (.bl (!decide (x = .non))) H) d .none (.bool (!isNone d)) := fun F H x y w ha hb Q q => by
  cases hb
  refine ⟨rfl, ?_⟩
  rw [none_V ha]
  exact q _ F H w (Nx.refl T F H) (.bl _)
theorem r_addS {a b : Str} (h : a.length + b.length ≤ sizeLine) : ROp K T (fun x y H Q => ∃ i j, x = V.str i ∧ y = V.str j ∧ i.length + j.length ≤ sizeLine ∧ Q (.str (i ++ j)) H) (.str a) (.str b) (.str (a ++ b)) := fun F H x y w ha hb Q q => by
  cases ha; cases hb
  exact ⟨a, b, rfl, rfl, h, q _ F H w (Nx.refl T F H) (.str _)⟩
/-! items -/
theorem ixN_nat {n k : Nat} (h : k < n) : ixN n (k : Int) = some k := Evl.ixN_nat h
theorem atI_k {α : Type} {xs : List α} {k : Nat} {x : α} (h : xs[k]? = some x) : atI xs (k : Int) = some x := atI_nat h
theorem r_ixL {ds : List D} {d : D} (h : atI ds i = some d) : ROp K T (rIxL K) (.list ds) (.int i) d := fun F H x y w ha hb Q q => by
  cases hb
  cases ha with
  | @lst a xs _ hs hd =>
    unfold atI at h
    cases e : ixN ds.length i with
    | none => rw [e] at h; cases h
    | some k =>
      rw [e] at h
      obtain ⟨v, hv, hvd⟩ := dps_get (K := K) (H := F) hd (show ds[k]? = some d from h)
      refine ⟨a, xs, i, v, rfl, rfl, Evl.ex_l w.sub hs, ?_, q v F H w (Nx.refl T F H) hvd⟩
      unfold atI
      rw [dps_len hd, e]
      exact hv
theorem r_ixT {ds : List D} {d : D} (h : atI ds i = some d) : ROp K T (rIxT K) (.tuple ds) (.int i) d := fun F H x y w ha hb Q q => by
  cases hb
  cases ha with
  | @tup a xs _ hs hd =>
    unfold atI at h
    cases e : ixN ds.length i with
    | none => rw [e] at h; cases h
    | some k =>
      rw [e] at h
      obtain ⟨v, hv, hvd⟩ := dps_get (K := K) (H := F) hd (show ds[k]? = some d from h)
      refine ⟨a, xs, i, v, rfl, rfl, Evl.ex_t w.sub hs, ?_, q v F H w (Nx.refl T F H) hvd⟩
      unfold atI
      rw [dps_len hd, e]
      exact hv
theorem r_ixS {z : Str} {c : Nat} (hz : z.length ≤ sizeLine) (h : atI z.cps.toList i = some c) : ROp K T rIxS (.str z) (.int i) (.str ⟨#[c]⟩) := fun F H x y w ha hb Q q => by
  cases ha; cases hb
  exact ⟨z, i, c, rfl, rfl, hz, h, q _ F H w (Nx.refl T F H) (.str _)⟩
/-! calls of built-ins -/
theorem r_abs : RCa K T (fun xs H Q => ∃ i, xs = [V.int i] ∧ Q (.int (if i < 0 then -i else i)) H) [.int i] (.int (if i < 0 then -i else i)) := fun F H vs w ha Q q => by
  cases ha with
  | cons h t => cases h; cases t; exact ⟨i, rfl, q _ F H w (Nx.refl T F H) (.int _)⟩
theorem r_max2 : RCa K T (fun xs H Q => ∃ i j, xs = [V.int i, V.int j] ∧ Q (.int (if j > i then j else i)) H) [.int i, .int j] (.int (if j > i then j else i)) := fun F H vs w ha Q q => by
  cases ha with
  | cons h t => cases h; cases t with
    | cons h t => cases h; cases t; exact ⟨i, j, rfl, q _ F H w (Nx.refl T F H) (.int _)⟩
theorem r_intB {b : Bool} : RCa K T (fun xs H Q => (∃ i, xs = [V.int i] ∧ Q (.int i) H) ∨ ∃ k, xs = [V.bl k] ∧ Q (.int (if k then 1 else 0)) H) [.bool b] (.int (if b then 1 else 0)) := fun F H vs w ha Q q => by
  cases ha with
  | cons h t => cases h; cases t; exact .inr ⟨b, rfl, q _ F H w (Nx.refl T F H) (.int _)⟩
theorem r_lenL {ds : List D} : RCa K T (fun xs H Q => ∃ p ys, xs = [V.ref p] ∧ (SqL K H p ys ∨ SqT K H p ys) ∧ Q (.int ys.length) H) [.list ds] (.int (ds.length : Int)) := fun F H vs w ha Q q => by
  cases ha with
  | cons h t =>
    cases t
    cases h with
    | @lst a xs _ hs hd =>
      refine ⟨a, xs, rfl, .inl (Evl.ex_l w.sub hs), ?_⟩
      rw [dps_len hd]
      exact q _ F H w (Nx.refl T F H) (.int _)
theorem r_lenT {ds : List D} : RCa K T (fun xs H Q => ∃ p ys, xs = [V.ref p] ∧ (SqL K H p ys ∨ SqT K H p ys) ∧ Q (.int ys.length) H) [.tuple ds] (.int (ds.length : Int)) := fun F H vs w ha Q q => by
  cases ha with
  | cons h t =>
    cases t
    cases h with
    | @tup a xs _ hs hd =>
      refine ⟨a, xs, rfl, .inr (Evl.ex_t w.sub hs), ?_⟩
      rw [dps_len hd]
      exact q _ F H w (Nx.refl T F H) (.int _)
theorem r_lenS {z : Str} (hz : z.length ≤ sizeLine) : RCa K T (fun xs H Q => ∃ z, xs = [V.str z] ∧ z.length ≤ sizeLine ∧ Q (.int z.length) H) [.str z] (.int (z.length : Int)) := fun F H vs w ha Q q => by
  cases ha with
  | cons h t => cases h; cases t; exact ⟨z, rfl, hz, q _ F H w (Nx.refl T F H) (.int _)⟩
theorem r_list {ds : List D} : RCa K T (fun xs H Q => ∃ p ys, xs = [V.ref p] ∧ (SqL K H p ys ∨ SqT K H p ys) ∧ ∀ l, H l = none → Q (.ref l) (upd H l (.lst ys))) [.list ds] (.list ds) := fun F H vs w ha Q q => by
  cases ha with
  | cons h t =>
    cases t
    cases h with
    | @lst a xs _ hs hd =>
      exact ⟨a, xs, rfl, .inl (Evl.ex_l w.sub hs), fun l hl => q _ (upd F l (.lst xs)) _ (w.new hl) (Nx.new w hl) (.lst (.inl (.inl upd_same)) (dps_mono (Nx.new w hl).exF _ _ hd))⟩
/-! isinstance -/
theorem tyx_of {F H : Hp} {v : V} {d : D} (w : Wk T F H) (h : Dp K F v d) : ∃ t, (match d with | .none => t = Value.type "NoneType" | .bool _ => t = Value.type "bool" | .int _ => t = Value.type "int" | .str _ => t = Value.type "str" | .list _ => t = Value.type "list" | .tuple _ => t = Value.type "tuple" | .dict _ => False) ∧ TyX K H v t := by
  cases h with
  | non => exact ⟨_, rfl, .base .non⟩
  | bl b => exact ⟨_, rfl, .base (.bl b)⟩
  | int n => exact ⟨_, rfl, .base (.int n)⟩
  | str n => exact ⟨_, rfl, .base (.str n)⟩
  | @lst a xs ds hs hd =>
    rcases hs with (h | ⟨o, h⟩) | ⟨o, its, n, h1, h2, _⟩
    · exact ⟨_, rfl, .base (.lst (w.sub _ _ h))⟩
    · exact ⟨_, rfl, .base (.frz (w.sub _ _ h))⟩
    · exact ⟨_, rfl, .kList h1 h2⟩
  | @tup a xs ds hs hd =>
    rcases hs with (h | ⟨o, h⟩) | ⟨o, its, n, h1, h2, _⟩
    · exact ⟨_, rfl, .base (.tup (w.sub _ _ h))⟩
    · exact ⟨_, rfl, .fTuple (w.sub _ _ h)⟩
    · exact ⟨_, rfl, .kTuple h1 h2⟩
def tyName : D → String
  | .none => "NoneType"
  | .bool _ => "bool"
  | .int _ => "int"
  | .str _ => "str"
  | .list _ => "list"
  | .tuple _ => "tuple"
  | .dict _ => "dict"
/-- isinstance(x, n), n a built-in class: h by decide +kernel, d's constructor given -/
theorem d_isi {env : List Sl} {te : TE} {d : D} {n : String} {b : Bool} (ha : EvD K T te env d) (h : PySem.W.kitOne K (.type (tyName d)) (.type n) = some b) : EvD K T (tCB (rIsi K) (tCons te (tCons (tC (.ty n)) tNil))) env (.bool b) := fun F0 H0 F H σ o Q q =>
  ha F0 H0 F H σ o _ fun v F1 H1 w1 n1 d1 => by
    obtain ⟨t, e, ty⟩ := tyx_of w1 d1
    have e' : t = .type (tyName d) := by cases d <;> first | exact e | exact e.elim
    subst e'
    exact ⟨v, .ty n, _, _, b, rfl, .ty n, ty, h, q _ F1 H1 w1 n1 (.bl b)⟩
/-! slices, texts -/
theorem d_slL {env : List Sl} {te : TE} {tl th : TO} {ds : List D} {lo hi : Option Int} (h : EvD K T te env (.list ds)) (h1 : EvO K T tl env lo) (h2 : EvO K T th env hi) : EvD K T (tSl (rSlL K) te tl th) env (.list ((ds.drop (HT.sIx ds.length 0 lo)).take (HT.sIx ds.length ds.length hi - HT.sIx ds.length 0 lo))) := fun F0 H0 F H σ o Q q =>
  h F0 H0 F H σ o _ fun v F1 H1 w1 n1 d1 => h1 F0 H0 F1 H1 σ (o.step w1 n1) _ fun F2 H2 w2 n2 => h2 F0 H0 F2 H2 σ (o.step w2 (n1.trans w1 n2)) _ fun F3 H3 w3 n3 => by
    have d3 := dp_mono (n2.exF.trans n3.exF) _ _ d1
    cases d3 with
    | @lst a xs _ hs hd =>
      refine ⟨a, xs, rfl, Evl.ex_l w3.sub hs, fun p hp => q _ (upd F3 p (.lst (cutV xs lo hi))) _ (w3.new hp) ((n1.trans w1 (n2.trans w2 n3)).trans w3 (Nx.new w3 hp)) (.lst (.inl (.inl upd_same)) ?_)⟩
      unfold cutV
      rw [dps_len hd]
      exact dps_mono (Nx.new w3 hp).exF _ _ (dps_take _ (dps_drop _ hd))
theorem d_slS {env : List Sl} {te : TE} {tl th : TO} {z : Str} {lo hi : Option Int} (h : EvD K T te env (.str z)) (h1 : EvO K T tl env lo) (h2 : EvO K T th env hi) (hz : z.length ≤ sizeLine) : EvD K T (tSl rSlS te tl th) env (.str (cutS z lo hi)) := fun F0 H0 F H σ o Q q =>
  h F0 H0 F H σ o _ fun v F1 H1 w1 n1 d1 => h1 F0 H0 F1 H1 σ (o.step w1 n1) _ fun F2 H2 w2 n2 => h2 F0 H0 F2 H2 σ (o.step w2 (n1.trans w1 n2)) _ fun F3 H3 w3 n3 => by
    cases d1
    exact ⟨z, rfl, hz, q _ F3 H3 w3 (n1.trans w1 (n2.trans w2 n3)) (.str _)⟩
/-- xs + ys, lists -/
theorem d_cat {env : List Sl} {ta tb : TE} {xs ys : List D} (ha : EvD K T ta env (.list xs)) (hb : EvD K T tb env (.list ys)) (hl : xs.length + ys.length ≤ sizeLine)
    (fa : ∀ F v, Dp K F v (.list xs) → ∃ a vs, v = .ref a ∧ F a = some (.lst vs) ∧ DpAll K F vs xs) (fb : ∀ F v, Dp K F v (.list ys) → ∃ a vs, v = .ref a ∧ F a = some (.lst vs) ∧ DpAll K F vs ys) : EvD K T (tOp rCat ta tb) env (.list (xs ++ ys)) := fun F0 H0 F H σ o Q q =>
  ha F0 H0 F H σ o _ fun v F1 H1 w1 n1 d1 => hb F0 H0 F1 H1 σ (o.step w1 n1) _ fun v2 F2 H2 w2 n2 d2 => by
    obtain ⟨a, vs, rfl, h1, h2⟩ := fa F2 v (dp_mono n2.exF _ _ d1)
    obtain ⟨b, ws, rfl, h3, h4⟩ := fb F2 v2 d2
    exact ⟨a, b, vs, ws, rfl, rfl, w2.sub _ _ h1, w2.sub _ _ h3, by rw [dps_len h2, dps_len h4]; exact hl, fun p hp => q _ (upd F2 p (.lst (vs ++ ws))) _ (w2.new hp) ((n1.trans w1 n2).trans w2 (Nx.new w2 hp)) (.lst (.inl (.inl upd_same)) (dps_mono (Nx.new w2 hp).exF _ _ (dps_app h2 h4)))⟩
end

/-! ### statements -/
structure Po where
  nx : List Sl → Prop
  rt : D → Prop
  bk : List Sl → Prop := fun _ => False
  ct : List Sl → Prop := fun _ => False
  /-- what is returned, told together with the slots as they then are -/
  rtE : List Sl → D → Prop := fun _ _ => False
section
variable (K : PySem.W.Frag) (T : List Addr) (F0 H0 : Hp)
/-- what the ends say, from F on -/
structure EndsOk (F : Hp) (P : Po) (De : Ends) : Prop where
  nx : ∀ e F' H' (σ' : L2.St), P.nx e → Ok K T F0 H0 F' H' σ' e → Ex F F' → De.nx σ' H'
  rt : ∀ d v F' H', P.rt d → Wk T F' H' → Nx T F0 H0 F' H' → Dp K F' v d → De.rt v H'
  bk : ∀ e F' H' (σ' : L2.St), P.bk e → Ok K T F0 H0 F' H' σ' e → Ex F F' → De.bk σ' H'
  ct : ∀ e F' H' (σ' : L2.St), P.ct e → Ok K T F0 H0 F' H' σ' e → Ex F F' → De.ct σ' H'
  rtE : ∀ e d v F' H' (σ' : L2.St), P.rtE e d → Ok K T F0 H0 F' H' σ' e → Dp K F' v d → De.rt v H'
def StD (t : TS) (env : List Sl) (P : Po) : Prop := ∀ F H σ, Ok K T F0 H0 F H σ env → ∀ De : Ends, EndsOk K T F0 H0 F P De → t De σ H
end
section
variable {K : PySem.W.Frag} {T : List Addr} {F0 H0 F F' : Hp} {env : List Sl} {P : Po} {De : Ends} {te ta : TE} {tt : TT} {t u : TS} {d : D} {i j : Nat} {x : Sl}
theorem EndsOk.mono (h : EndsOk K T F0 H0 F P De) (e : Ex F F') : EndsOk K T F0 H0 F' P De :=
  ⟨fun a F' H' σ' p o x => h.nx a F' H' σ' p o (e.trans x), h.rt, fun a F' H' σ' p o x => h.bk a F' H' σ' p o (e.trans x), fun a F' H' σ' p o x => h.ct a F' H' σ' p o (e.trans x), h.rtE⟩
theorem s_seq (h : StD K T F0 H0 t env { P with nx := fun e => StD K T F0 H0 u e P }) : StD K T F0 H0 (tSeq t u) env P := fun F H σ o De E =>
  h F H σ o { De with nx := u De } ⟨fun e F' H' σ' p o' x => p F' H' σ' o' De (E.mono x), E.rt, E.bk, E.ct, E.rtE⟩
theorem s_next (h : P.nx env) : StD K T F0 H0 tNext env P := fun F H σ o De E => E.nx env F H σ h o (Ex.refl F)
theorem s_brk (h : P.bk env) : StD K T F0 H0 tBreak env P := fun F H σ o De E => E.bk env F H σ h o (Ex.refl F)
theorem s_cont (h : P.ct env) : StD K T F0 H0 tCont env P := fun F H σ o De E => E.ct env F H σ h o (Ex.refl F)
theorem s_asg (h : EvD K T te env d) (k : P.nx (env.set i (.dat d))) : StD K T F0 H0 (tAsg te (gName i)) env P := fun F H σ o De E =>
  h F0 H0 F H σ o _ fun v F1 H1 w1 n1 d1 => E.nx _ F1 H1 _ k ((o.step w1 n1).set d1) n1.exF
/-- x = [], a list that is filled -/
theorem s_new (k : P.nx (env.set i (.own []))) : StD K T F0 H0 (tAsg (tLst tNil) (gName i)) env P := fun F H σ o De E =>
  ⟨Nat.zero_le _, fun p hp => E.nx _ F _ _ k (o.mine hp) (Ex.refl F)⟩
theorem s_app {xs : List D} (hi : env[i]? = some (.own xs)) (h : EvD K T te env d) (hz : xs.length < sizeLine) (k : P.nx (env.set i (.own (xs ++ [d])))) :
    StD K T F0 H0 (tDrop (tBM K "list" rAppend (tVar i) (tCons te tNil))) env P := fun F H σ o De E => by
  obtain ⟨a, vs, e1, f, h0, t1, ha, hd⟩ := o.sl i _ hi
  refine ⟨.ref a, e1, .inl ⟨rfl, vs, .inl (.inl ha)⟩, h F0 H0 F H σ o _ fun v F1 H1 w1 n1 d1 => ?_⟩
  have o1 := o.step w1 n1
  refine ⟨a, vs, v, rfl, rfl, n1.exH a _ ha t1, by rw [dps_len hd]; exact hz, E.nx _ F1 _ _ k (o1.write hi e1 (dps_app (dps_mono n1.exF _ _ hd) (.cons d1 .nil))) n1.exF⟩
theorem s_ret (h : EvD K T te env d) (k : P.rt d) : StD K T F0 H0 (tRet te) env P := fun F H σ o De E =>
  h F0 H0 F H σ o _ fun v F1 H1 w1 n1 d1 => E.rt d v F1 H1 k w1 (o.nx.trans o.wk n1) d1
theorem s_retN (k : P.rt .none) : StD K T F0 H0 tRetN env P := fun F H σ o De E => E.rt .none .non F H k o.wk o.nx .non
/-- from here on our list is plain data -/
theorem s_frz {xs : List D} (hi : env[i]? = some (.own xs)) (h : StD K T F0 H0 t (env.set i (.dat (.list xs))) P) : StD K T F0 H0 t env P := fun F H σ o De E => by
  obtain ⟨F', e, o'⟩ := o.freeze hi
  exact h F' H σ o' De (E.mono e)
theorem s_if {b : Bool} (h : EvT K T tt env b) (h1 : b = true → StD K T F0 H0 t env P) (h2 : b = false → StD K T F0 H0 u env P) : StD K T F0 H0 (tIfS tt t u) env P := fun F H σ o De E =>
  h F0 H0 F H σ o _ fun F1 H1 w1 n1 => by
    cases b with
    | true => exact iteT (h1 rfl F1 H1 σ (o.step w1 n1) De (E.mono n1.exF))
    | false => exact iteF (h2 rfl F1 H1 σ (o.step w1 n1) De (E.mono n1.exF))
theorem s_drop (h : EvD K T te env d) (k : P.nx env) : StD K T F0 H0 (tDrop te) env P := fun F H σ o De E =>
  h F0 H0 F H σ o _ fun v F1 H1 w1 n1 d1 => E.nx _ F1 H1 _ k (o.step w1 n1) n1.exF
theorem s_aug {f : Int → Int → Int} {a b : Int} (hx : env[i]? = some (.dat (.int a))) (h : EvD K T te env (.int b)) (k : P.nx (env.set i (.dat (.int (f a b))))) : StD K T F0 H0 (tAug i te (ipI f)) env P := fun F H σ o De E => by
  obtain ⟨v, e, hv⟩ := o.sl i _ hx
  cases hv
  exact ⟨_, e, h F0 H0 F H σ o _ fun v F1 H1 w1 n1 d1 => by cases d1; exact ⟨a, b, rfl, rfl, E.nx _ F1 H1 _ k ((o.step w1 n1).set (.int _)) n1.exF⟩⟩
/-- a, b = e, f -/
theorem s_par {ta : TA} {d e : D} (h : EvA K T ta env [d, e]) (k : P.nx ((env.set i (.dat d)).set j (.dat e))) : StD K T F0 H0 (tPar i j ta) env P := fun F H σ o De E =>
  h F0 H0 F H σ o _ fun vs F1 H1 w1 n1 d1 => by
    cases d1 with
    | cons h1 t =>
      cases t with
      | cons h2 t =>
        cases t
        exact ⟨_, _, rfl, E.nx _ F1 H1 _ k (((o.step w1 n1).set h1).set h2) n1.exF⟩
/-! loops -/
variable {tl : TE} {tb : TS}
/-- what a turn's end must reach -/
abbrev Po.turn (P : Po) (I : List Sl → Prop) : Po := { nx := I, rt := P.rt, bk := P.nx, ct := I, rtE := P.rtE }
theorem s_forL {ds : List D} (h : EvD K T tl env (.list ds)) (I : Nat → List Sl → Prop) (h0 : I 0 env)
    (hs : ∀ (k : Nat) d e, ds[k]? = some d → I k e → StD K T F0 H0 tb (e.set j (.dat d)) (P.turn (I (k + 1)))) (hd : ∀ e, I ds.length e → P.nx e) : StD K T F0 H0 (tFor (iList K tl) (gName j) tb) env P := fun F H σ o De E =>
  h F0 H0 F H σ o _ fun v F1 H1 w1 n1 d1 => by
    cases d1 with
    | @lst a xs _ hsq hdd =>
      refine ⟨a, rfl, ⟨xs, Evl.ex_l w1.sub hsq⟩, for_list (fun k σ' H' => ∃ e F', I k e ∧ Ok K T F0 H0 F' H' σ' e ∧ Ex F1 F') ⟨env, F1, h0, o.step w1 n1, Ex.refl F1⟩ (fun k σ' H' _ ⟨e, F', _, o', x⟩ => Evl.ex_l (x.trans o'.wk.sub) hsq) (fun k v σ' H' hk ⟨e, F', p, o', x⟩ => ?_) (fun σ' H' ⟨e, F', p, o', x⟩ => ?_)⟩
      · obtain ⟨d, hd1, hv⟩ := dps_getV hdd hk
        exact hs k d e hd1 p F' H' _ (o'.set (dp_mono x _ _ hv)) _ ⟨fun e2 F2 H2 σ2 p2 o2 x2 => ⟨e2, F2, p2, o2, x.trans x2⟩, E.rt, fun e2 F2 H2 σ2 p2 o2 x2 => E.nx e2 F2 H2 σ2 p2 o2 ((n1.exF.trans x).trans x2), fun e2 F2 H2 σ2 p2 o2 x2 => ⟨e2, F2, p2, o2, x.trans x2⟩, E.rtE⟩
      · rw [dps_len hdd] at p
        exact E.nx e F' H' σ' (hd e p) o' (n1.exF.trans x)
theorem s_forT {ds : List D} (h : EvD K T tl env (.tuple ds)) (I : Nat → List Sl → Prop) (h0 : I 0 env)
    (hs : ∀ (k : Nat) d e, ds[k]? = some d → I k e → StD K T F0 H0 tb (e.set j (.dat d)) (P.turn (I (k + 1)))) (hd : ∀ e, I ds.length e → P.nx e) : StD K T F0 H0 (tFor (iTup K tl) (gName j) tb) env P := fun F H σ o De E =>
  h F0 H0 F H σ o _ fun v F1 H1 w1 n1 d1 => by
    cases d1 with
    | @tup a xs _ hsq hdd =>
      refine ⟨a, rfl, ⟨xs, Evl.ex_t w1.sub hsq⟩, for_tup (fun k σ' H' => ∃ e F', I k e ∧ Ok K T F0 H0 F' H' σ' e ∧ Ex F1 F') ⟨env, F1, h0, o.step w1 n1, Ex.refl F1⟩ (fun k σ' H' _ ⟨e, F', _, o', x⟩ => Evl.ex_t (x.trans o'.wk.sub) hsq) (fun k v σ' H' hk ⟨e, F', p, o', x⟩ => ?_) (fun σ' H' ⟨e, F', p, o', x⟩ => ?_)⟩
      · obtain ⟨d, hd1, hv⟩ := dps_getV hdd hk
        exact hs k d e hd1 p F' H' _ (o'.set (dp_mono x _ _ hv)) _ ⟨fun e2 F2 H2 σ2 p2 o2 x2 => ⟨e2, F2, p2, o2, x.trans x2⟩, E.rt, fun e2 F2 H2 σ2 p2 o2 x2 => E.nx e2 F2 H2 σ2 p2 o2 ((n1.exF.trans x).trans x2), fun e2 F2 H2 σ2 p2 o2 x2 => ⟨e2, F2, p2, o2, x.trans x2⟩, E.rtE⟩
      · rw [dps_len hdd] at p
        exact E.nx e F' H' σ' (hd e p) o' (n1.exF.trans x)
theorem s_forR {ta : TA} {n : Nat} (h : EvA K T ta env [.int (n : Int)]) (hn : n ≤ 100000) (I : Nat → List Sl → Prop) (h0 : I 0 env)
    (hs : ∀ (k : Nat) e, k < n → I k e → StD K T F0 H0 tb (e.set j (.dat (.int (k : Int)))) (P.turn (I (k + 1)))) (hd : ∀ e, I n e → P.nx e) : StD K T F0 H0 (tFor (iRng1 ta) (gName j) tb) env P := fun F H σ o De E =>
  h F0 H0 F H σ o _ fun vs F1 H1 w1 n1 d1 => by
    cases d1 with
    | cons h1 t =>
      cases t; cases h1
      refine ⟨(n : Int), rfl, by omega, by omega, for_range (lo := 0) (n := (n : Int).toNat) (fun k σ' H' => ∃ e F', I k e ∧ Ok K T F0 H0 F' H' σ' e ∧ Ex F1 F') ⟨env, F1, h0, o.step w1 n1, Ex.refl F1⟩ (fun k σ' H' hk ⟨e, F', p, o', x⟩ => ?_) (fun σ' H' ⟨e, F', p, o', x⟩ => ?_)⟩
      · have e0 : (0 : Int) + (k : Int) = (k : Int) := Int.zero_add _
        show tb _ (σ'.set j (some (.int ((0 : Int) + (k : Int))))) H'
        rw [e0]
        exact hs k e (by omega) p F' H' _ (o'.set (.int _)) _ ⟨fun e2 F2 H2 σ2 p2 o2 x2 => ⟨e2, F2, p2, o2, x.trans x2⟩, E.rt, fun e2 F2 H2 σ2 p2 o2 x2 => E.nx e2 F2 H2 σ2 p2 o2 ((n1.exF.trans x).trans x2), fun e2 F2 H2 σ2 p2 o2 x2 => ⟨e2, F2, p2, o2, x.trans x2⟩, E.rtE⟩
      · rw [Int.toNat_natCast] at p
        exact E.nx e F' H' σ' (hd e p) o' (n1.exF.trans x)
theorem s_forR2 {ta : TA} {lo n : Int} (h : EvA K T ta env [.int lo, .int n]) (hn : -100000 ≤ lo ∧ lo ≤ 100000 ∧ -100000 ≤ n ∧ n ≤ 100000) (I : Nat → List Sl → Prop) (h0 : I 0 env)
    (hs : ∀ (k : Nat) e, k < (n - lo).toNat → I k e → StD K T F0 H0 tb (e.set j (.dat (.int (lo + (k : Int))))) (P.turn (I (k + 1)))) (hd : ∀ e, I (n - lo).toNat e → P.nx e) : StD K T F0 H0 (tFor (iRng2 ta) (gName j) tb) env P := fun F H σ o De E =>
  h F0 H0 F H σ o _ fun vs F1 H1 w1 n1 d1 => by
    cases d1 with
    | cons h1 t =>
      cases t with
      | cons h2 t =>
        cases t; cases h1; cases h2
        refine ⟨lo, n, rfl, ⟨by omega, by omega, by omega, by omega⟩, for_range (lo := lo) (n := (n - lo).toNat) (fun k σ' H' => ∃ e F', I k e ∧ Ok K T F0 H0 F' H' σ' e ∧ Ex F1 F') ⟨env, F1, h0, o.step w1 n1, Ex.refl F1⟩ (fun k σ' H' hk ⟨e, F', p, o', x⟩ => ?_) (fun σ' H' ⟨e, F', p, o', x⟩ => ?_)⟩
        · exact hs k e hk p F' H' _ (o'.set (.int _)) _ ⟨fun e2 F2 H2 σ2 p2 o2 x2 => ⟨e2, F2, p2, o2, x.trans x2⟩, E.rt, fun e2 F2 H2 σ2 p2 o2 x2 => E.nx e2 F2 H2 σ2 p2 o2 ((n1.exF.trans x).trans x2), fun e2 F2 H2 σ2 p2 o2 x2 => ⟨e2, F2, p2, o2, x.trans x2⟩, E.rtE⟩
        · exact E.nx e F' H' σ' (hd e p) o' (n1.exF.trans x)
theorem s_forS {z : Str} (h : EvD K T tl env (.str z)) (I : Nat → List Sl → Prop) (h0 : I 0 env)
    (hs : ∀ (k c : Nat) e, z.cps[k]? = some c → I k e → StD K T F0 H0 tb (e.set j (.dat (.str ⟨#[c]⟩))) (P.turn (I (k + 1)))) (hd : ∀ e, I z.cps.size e → P.nx e) : StD K T F0 H0 (tFor (iStr tl) (gName j) tb) env P := fun F H σ o De E =>
  h F0 H0 F H σ o _ fun v F1 H1 w1 n1 d1 => by
    cases d1
    refine ⟨z, rfl, for_it walk_str (fun k σ' H' => ∃ e F', I k e ∧ Ok K T F0 H0 F' H' σ' e ∧ Ex F1 F') ⟨env, F1, h0, o.step w1 n1, Ex.refl F1⟩ (fun _ _ _ _ _ => trivial) (fun k v σ' H' H'' hk ⟨e, F', p, o', x⟩ hy => ?_) (fun σ' H' ⟨e, F', p, o', x⟩ => ?_)⟩
    · obtain ⟨rfl, c, hc, rfl⟩ := hy
      exact hs k c e hc p F' _ _ (o'.set (.str _)) _ ⟨fun e2 F2 H2 σ2 p2 o2 x2 => ⟨e2, F2, p2, o2, x.trans x2⟩, E.rt, fun e2 F2 H2 σ2 p2 o2 x2 => E.nx e2 F2 H2 σ2 p2 o2 ((n1.exF.trans x).trans x2), fun e2 F2 H2 σ2 p2 o2 x2 => ⟨e2, F2, p2, o2, x.trans x2⟩, E.rtE⟩
    · exact E.nx e F' H' σ' (hd e p) o' (n1.exF.trans x)
theorem s_while (I : Nat → List Sl → Prop) (m0 : Nat) (h0 : I m0 env)
    (hs : ∀ m e, I m e → ∃ b, EvT K T tt e b ∧ (b = true → StD K T F0 H0 tb e (P.turn fun e' => ∃ m', m' < m ∧ I m' e')) ∧ (b = false → P.nx e)) : StD K T F0 H0 (tWhile tt tb) env P := fun F H σ o De E => by
  refine ⟨fun m σ' H' => ∃ e F', I m e ∧ Ok K T F0 H0 F' H' σ' e ∧ Ex F F', ⟨m0, env, F, h0, o, Ex.refl F⟩, ?_⟩
  rintro m σ' H' ⟨e, F', p, o', x⟩
  obtain ⟨b, ht, h1, h2⟩ := hs m e p
  refine ht F0 H0 F' H' σ' o' _ fun F1 H1 w1 n1 => ?_
  cases b with
  | true =>
    refine iteT ⟨fun σ2 H2 => ∃ m', m' < m ∧ ∃ e2 F2, I m' e2 ∧ Ok K T F0 H0 F2 H2 σ2 e2 ∧ Ex F F2, fun σ2 H2 ⟨m', hm, q⟩ => ⟨m', hm, q⟩, ?_⟩
    exact h1 rfl F1 H1 σ' (o'.step w1 n1) _ ⟨fun e2 F2 H2 σ2 ⟨m', hm, p2⟩ o2 x2 => ⟨m', hm, e2, F2, p2, o2, (x.trans n1.exF).trans x2⟩, E.rt, fun e2 F2 H2 σ2 p2 o2 x2 => E.nx e2 F2 H2 σ2 p2 o2 ((x.trans n1.exF).trans x2), fun e2 F2 H2 σ2 ⟨m', hm, p2⟩ o2 x2 => ⟨m', hm, e2, F2, p2, o2, (x.trans n1.exF).trans x2⟩, E.rtE⟩
  | false => exact iteF (E.nx e F1 H1 σ' (h2 rfl) (o'.step w1 n1) (x.trans n1.exF))
end

/-! ### a comprehension over a list, over a range: one clause, its variable in slot j -/
section
variable {K : PySem.W.Frag} {T : List Addr} {env : List Sl} {te : TE} {tt : TT} {tl : TE} {j : Nat}
theorem wipe_one {σ : L2.St} {x : Option V} : wipe ((wipe σ [j]).set j x) [j] = wipe σ [j] := by
  show (((σ.set j none).set j x).set j none) = σ.set j none
  rw [List.set_set, List.set_set]
theorem filterMap_take_succ {α β : Type} {f : α → Option β} : ∀ {l : List α} {k : Nat} {x : α}, l[k]? = some x → (l.take (k + 1)).filterMap f = (l.take k).filterMap f ++ (f x).toList
  | [], k, x, h => by simp at h
  | a :: l, 0, x, h => by
    have e : a = x := Option.some.inj h
    subst e
    show [a].filterMap f = _
    cases q : f a <;> simp [q]
  | a :: l, k + 1, x, h => by
    have ih := filterMap_take_succ (f := f) (l := l) (k := k) (x := x) h
    show (a :: l.take (k + 1)).filterMap f = (a :: l.take k).filterMap f ++ _
    cases q : f a with
    | none => rw [List.filterMap_cons_none q, List.filterMap_cons_none q]; exact ih
    | some b => rw [List.filterMap_cons_some q, List.filterMap_cons_some q, ih]; rfl
/-- G: which items give, and what -/
theorem d_lc {ds : List D} (G : D → Option D) (h : EvD K T tl env (.list ds)) (hl : ds.length < sizeLine)
    (hs : ∀ (k : Nat) d, ds[k]? = some d → ∃ b, EvT K T tt ((env.set j .no).set j (.dat d)) b ∧ (b = false → G d = none) ∧ (b = true → ∃ z, G d = some z ∧ EvD K T te ((env.set j .no).set j (.dat d)) z)) :
    EvD K T (tLc (iList K tl) (gName j) tt te [j]) env (.list (ds.filterMap G)) := fun F0 H0 F H σ o Q q =>
  h F0 H0 F H σ o _ fun v F1 H1 w1 n1 d1 => by
    cases d1 with
    | @lst a xs _ hsq hdd =>
      refine ⟨a, rfl, ⟨xs, Evl.ex_l w1.sub hsq⟩, fun Dl hD => lc_list (K := K) (a := a) (xs := xs) (fun k H' => ∃ F' vs, Wk T F' H' ∧ Nx T F1 H1 F' H' ∧ F' Dl = none ∧ H' Dl = some (.lst vs) ∧ DpAll K F' vs ((ds.take k).filterMap G) ∧ vs.length ≤ k) ?_ (fun k H' _ ⟨F', vs, w', n', _⟩ => Evl.ex_l (n'.exF.trans w'.sub) hsq) (fun k x H' hk ⟨F', vs, w', n', f', e', hv, hz⟩ => ?_) (fun H' ⟨F', vs, w', n', f', e', hv, hz⟩ => ?_)⟩
      · exact ⟨F1, [], w1.mine hD, ⟨Ex.refl F1, fun b u e t => by rw [upd_ne (ne_of_none e hD)]; exact e, fun _ _ _ n => n⟩, w1.noF hD, upd_same, .nil, Nat.zero_le _⟩
      · refine ⟨wipe_one, ?_⟩
        obtain ⟨d, hd1, hx⟩ := dps_getV hdd hk
        have hkl : k < ds.length := (List.getElem?_eq_some_iff.mp hd1).1
        have hT := w1.notT hD
        have o1 : Ok K T F0 H0 F' H' ((wipe σ [j]).set j (some x)) ((env.set j .no).set j (.dat d)) := (((o.step w1 n1).step w' n').wipe (i := j) none).set (dp_mono n'.exF _ _ hx)
        obtain ⟨b, ht, hb0, hb1⟩ := hs k d hd1
        refine ht F0 H0 F' H' _ o1 _ fun F2 H2 w2 n2 => ?_
        have e2 := n2.exH Dl _ e' hT
        have f2 := n2.own Dl _ e' f'
        have n12 := n'.trans w' n2
        cases b with
        | false =>
          refine iteF ⟨F2, vs, w2, n12, f2, e2, ?_, Nat.le_succ_of_le hz⟩
          rw [filterMap_take_succ hd1, hb0 rfl, Option.toList, List.append_nil]
          exact dps_mono n2.exF _ _ hv
        | true =>
          obtain ⟨z, hz1, he⟩ := hb1 rfl
          refine iteT (he F0 H0 F2 H2 _ (o1.step w2 n2) _ fun y F3 H3 w3 n3 d3 => ?_)
          have e3 := n3.exH Dl _ e2 hT
          have f3 := n3.own Dl _ e2 f2
          have n13 := n12.trans w2 n3
          refine ⟨vs, e3, Nat.lt_of_le_of_lt hz (Nat.lt_trans hkl hl), F3, vs ++ [y], w3.write f3 hT, ⟨n13.exF, fun b u e t => ?_, fun b u e n => n13.own b u e n⟩, f3, upd_same, ?_, by rw [List.length_append]; exact Nat.succ_le_succ hz⟩
          · rw [upd_ne (ne_of_none e hD)]
            exact n13.exH b u e t
          · rw [filterMap_take_succ hd1, hz1]
            exact dps_app (dps_mono (n2.exF.trans n3.exF) _ _ hv) (.cons d3 .nil)
      · rw [dps_len hdd, List.take_length] at hv
        have hT := w1.notT hD
        have ex : Ex F' (upd F' Dl (.lst vs)) := Ex.new f'
        have nn := n1.trans w1 n'
        refine q (.ref Dl) (upd F' Dl (.lst vs)) H' (w'.freeze hT e') ⟨nn.exF.trans ex, nn.exH, fun c u e n => ?_⟩ (.lst (.inl (.inl upd_same)) (dps_mono ex _ _ hv))
        have hc : c ≠ Dl := fun z => by
          rw [z] at e
          rw [n1.exH Dl u e hT] at hD
          cases hD
        rw [upd_ne hc]
        exact nn.own c u e n
end
/-! ### defs -/
section
variable {P : Program} {w : World} {K : PySem.W.Frag} {mg : Str → Option Value} {base : Heap} {T : List Addr}
def envOf (N : List Str) (ds : List D) : List Sl := ds.map Sl.dat ++ List.replicate (N.length - ds.length) Sl.no
theorem ok_start {F H : Hp} {N : List Str} {vs : List V} {ds : List D} (wk : Wk T F H) (h : DpAll K F vs ds) : Ok K T F H F H (L2.start N vs) (envOf N ds) := by
  have hl := dps_len h
  refine ⟨wk, Nx.refl T F H, by unfold L2.start envOf; simp [hl], fun i s e => ?_, fun i j a hij hi hj => ?_⟩
  · unfold envOf at e
    unfold L2.start
    by_cases hi : i < ds.length
    · rw [List.getElem?_append_left (by simpa using hi), List.getElem?_map] at e
      cases q : ds[i]? with
      | none => rw [q] at e; cases e
      | some d =>
        rw [q] at e
        cases e
        obtain ⟨v, hv, hd⟩ := dps_get h q
        exact ⟨v, by rw [List.getElem?_append_left (by simpa [hl] using hi), List.getElem?_map, hv]; rfl, hd⟩
    · rw [List.getElem?_append_right (by simpa using hi), List.getElem?_replicate] at e
      split at e
      · cases e; trivial
      · cases e
  · obtain ⟨xs, hi, hq⟩ := hi
    unfold envOf at hi
    by_cases h1 : i < ds.length
    · rw [List.getElem?_append_left (by simpa using h1), List.getElem?_map] at hi
      cases q : ds[i]? with
      | none => rw [q] at hi; cases hi
      | some d => rw [q] at hi; cases hi; cases hq
    · rw [List.getElem?_append_right (by simpa using h1), List.getElem?_replicate] at hi
      split at hi
      · cases hi; cases hq
      · cases hi
/-- a def by its body over data -/
theorem fn_dl {x qual : Str} {st : Stmt} {f : Addr} {fd : FuncData} {N ps : List Str} {k : Nat} {G : List D → D → Prop} (F : Fun K x qual st f fd) (S : FnScope N ps (defScope st)) (len : ∀ ds d, G ds d → ds.length = ps.length)
    (hbody : ∀ (cdv : Value) (A : Around) (outer : List Env) (s : Shared) (H : Hp) (E : XK), Room k (A.deeper (envOfC qual (defScope st) s.heap.objs.size f cdv)) →
      ∃ t, PSs (cxOf CX0 P w K mg base N qual (defScope st) f cdv A outer s H E).nox (defBody st) t ∧ ∀ F0 H0 ds d, G ds d → StD K T F0 H0 t (envOf N ds) { nx := fun _ => d = .none, rt := fun d' => d' = d }) :
    FnOk P w K mg base CX0 (k + 1) f fd ps (PrD K T G) := by
  refine F.ok S (fun vs H Q E ⟨F, ds, d, _, hd, hg, _⟩ => by rw [dps_len hd]; exact len ds d hg) (fun cdv A outer s H vs Q E hr h => ?_)
  obtain ⟨F0, ds, d, wk, hd, hg, q⟩ := h
  obtain ⟨t, ht, hst⟩ := hbody cdv A outer s H E hr
  refine ⟨t, ht, hst F0 H ds d hg F0 H _ (ok_start wk hd) _ ⟨fun e F' H' σ' p o _ => ?_, fun d' v F' H' p w' n' hv => ?_, fun _ _ _ _ p _ _ => False.elim p, fun _ _ _ _ p _ _ => False.elim p, fun _ _ _ _ _ _ p _ _ => False.elim p⟩⟩
  · have p' : d = .none := p
    subst p'
    exact q .non F' H' o.wk o.nx .non
  · have p' : d' = d := p
    subst p'
    exact q v F' H' w' n' hv
end
end DL
set_option Elab.async false
set_option linter.all false
set_option maxRecDepth 100000
set_option maxHeartbeats 2000000
/-! Promises as functions; the shapes of data that are used. -/
namespace DL
open PySem PySem.Spec PyProof.Rows L2
open Evl (Ex)
abbrev dInts (ns : List Int) : D := .list (ns.map PyData.int)
abbrev dBools (bs : List Bool) : D := .list (bs.map PyData.bool)
def GF {α : Type} (arg : α → List D) (pre : α → Prop) (out : α → D) : List D → D → Prop := fun ds d => ∃ x, ds = arg x ∧ pre x ∧ d = out x
section
variable {P : Program} {w : World} {K : PySem.W.Frag} {mg : Str → Option Value} {base : Heap} {T : List Addr}
theorem fn_gf {x qual : Str} {st : Stmt} {f : Addr} {fd : FuncData} {N ps : List Str} {k : Nat} {α : Type} {arg : α → List D} {pre : α → Prop} {out : α → D} (F : Fun K x qual st f fd) (S : FnScope N ps (defScope st)) (len : ∀ x, (arg x).length = ps.length)
    (hbody : ∀ (cdv : Value) (A : Around) (outer : List Env) (s : Shared) (H : Hp) (E : XK), Room k (A.deeper (envOfC qual (defScope st) s.heap.objs.size f cdv)) →
      ∃ t, PSs (cxOf CX0 P w K mg base N qual (defScope st) f cdv A outer s H E).nox (defBody st) t ∧ ∀ F0 H0 x, pre x → StD K T F0 H0 t (envOf N (arg x)) { nx := fun _ => out x = .none, rt := fun d' => d' = out x }) :
    FnOk P w K mg base CX0 (k + 1) f fd ps (PrD K T (GF arg pre out)) :=
  fn_dl F S (fun ds d ⟨x, e, _, _⟩ => by rw [e]; exact len x) fun cdv A outer s H E hr => by
    obtain ⟨t, ht, h⟩ := hbody cdv A outer s H E hr
    refine ⟨t, ht, fun F0 H0 ds d ⟨x, e, p, o⟩ => ?_⟩
    subst e o
    exact h F0 H0 x p
end
theorem s_env {K : PySem.W.Frag} {T : List Addr} {F0 H0 : Hp} {t : TS} {env env' : List Sl} {P : Po} (e : env = env') (h : StD K T F0 H0 t env' P) : StD K T F0 H0 t env P := e ▸ h
theorem bools_get {bs : List Bool} {k : Nat} {b : Bool} (h : bs[k]? = some b) : atI (bs.map PyData.bool) (k : Int) = some (.bool b) := atI_k (by rw [List.getElem?_map, h]; rfl)
theorem ints_get {bs : List Int} {k : Nat} {b : Int} (h : bs[k]? = some b) : atI (bs.map PyData.int) (k : Int) = some (.int b) := atI_k (by rw [List.getElem?_map, h]; rfl)
theorem map_at {α β : Type} {f : α → β} {l : List α} {k : Nat} {d : β} (h : (l.map f)[k]? = some d) : ∃ x, l[k]? = some x ∧ d = f x := by
  rw [List.getElem?_map] at h
  cases e : l[k]? with
  | none => rw [e] at h; cases h
  | some x => rw [e] at h; exact ⟨x, rfl, (Option.some.inj h).symm⟩
theorem line_big {n : Nat} (h : n ≤ 100000) : n ≤ sizeLine := Nat.le_trans h (by decide)
theorem line_lt {n : Nat} (h : n < 100000) : n < sizeLine := Nat.lt_of_lt_of_le h (by decide)
end DL
set_option Elab.async false
set_option linter.all false
set_option maxRecDepth 100000
set_option maxHeartbeats 2000000
/-! all(elt for x in xs): xs a list, the element any expression (calls too) that gives True or False. -/
namespace AG
open PySem PySem.Spec PyProof.Rows L2 GxR GenW
open Sem (wp)

/-- the names of a generator expression's block -/
structure GBlk (N : List Str) (sc scope : Scope) (own : List (Str × Nat)) (x : Str) : Prop where
  blk : BlkOk N sc scope own
  co : scope.isCoroutine = false
  nocell : ∀ y ∈ scope.names, y.2 ≠ .cell
  dot : scope.names.lookup (".0" : Str) = some NameKind.local
  loc : scope.names.lookup x = some .local
/-- the context of the generator's frame -/
abbrev gnX (X : Cx) (A : Around) (s : Shared) (H : Hp) (env : Env) (it : Addr) (pn : List (Addr × Obj)) : Cx :=
  { X with A := A, s_0 := s, H_0 := H, env := env, outer := X.stack, stack := env :: X.stack, ex := [it], fn := fun _ => false, calm := true, pn := pn, xe := fun _ _ => False }
theorem inv_heap {X : Cx} {pins : List (Addr × Obj)} {σ : L2.St} {H : Hp} {s s' : Shared} (I : Inv X pins σ H s) (h : s'.heap = s.heap) (o : s'.os = s.os) (b : AllBare s'.gens) : Inv X pins σ H s' :=
  ⟨I.ok, o.trans I.os, b, by rw [h]; exact I.base, by rw [h]; exact I.loc, by rw [h]; exact I.cell, I.free, I.freeC, by rw [h]; exact I.pin, by rw [h]; exact I.hok, I.len⟩

section
variable {X : Cx} {pins : List (Addr × Obj)} {σ : L2.St} {H : Hp} {s : Shared}
theorem gen_start {scope : Scope} {own : List (Str × Nat)} {x : Str} {it a : Addr} {og : Obj} {A : Around} {code : Value} {h5 : Heap} {G : Array GenState} {tk : Nat} {m : Str → Option Value}
    (I : Inv X pins σ H s) (ok : GBlk X.N X.env.scope scope own x) (hN : X.N.Nodup) (hA : A.handled = none)
    (hfr : A.frames = some (genEnv scope (cloFrom X.env.cells scope.names []) s.heap.objs.size code builtinsNs X.env :: X.stack))
    (hit : FpOk X pins H it) (hlt : it < s.heap.objs.size) (hG : AllBare G) (kp : ∀ b o, s.heap.get? b = some o → h5.get? b = some o) (hns : h5.Ns s.heap.objs.size m)
    (ha : h5.get? a = some og) (hna : s.heap.objs.size < a) (hd : ∀ v, og.data ≠ .cell v) :
    Inv (gnX X A s H (genEnv scope (cloFrom X.env.cells scope.names []) s.heap.objs.size code builtinsNs X.env) it [(a, og)]) [] (wipe σ (own.map (·.2))) H { s with gens := G, toks := tk, heap := h5 } := by
  have hfree : ∀ y ∈ scope.names, y.2 = .free → ∃ c, X.env.cells.lookup y.1 = some c := fun y hy e => by
    rcases ok.blk.free y hy e with k | k
    · exact I.ok.has _ (.inl k)
    · exact I.ok.has _ (.inr k)
  have cm : ∀ {y c}, (cloFrom X.env.cells scope.names []).lookup y = some c → X.env.cells.lookup y = some c := fun {y c} hm => by
    rcases cloFrom_mem (PySem.mem_of_lookup hm) with hm | ⟨h1, rfl⟩
    · cases hm
    · obtain ⟨c, hc⟩ := hfree _ h1 rfl
      rw [hc]
      rfl
  have look : ∀ {y}, scope.names.lookup y = some .free → ∃ c, (cloFrom X.env.cells scope.names []).lookup y = some c ∧ X.env.cells.lookup y = some c := fun {y} hl => by
    obtain ⟨c', e'⟩ := mem_lookup (cloFrom_has (cells := X.env.cells) (acc := []) (PySem.mem_of_lookup hl))
    exact ⟨c', e', cm e'⟩
  have nocell : ∀ y, scope.names.lookup y ≠ some .cell := fun y hy => ok.nocell _ (PySem.mem_of_lookup hy) rfl
  have itfs : it ∉ frs X.stack := fun z => by
    rcases List.mem_cons.mp (I.stkSub it z) with z | z
    · exact hit.2.1 z
    · exact hit.2.2.1 z
  refine ⟨⟨I.ok.mod, ok.blk.kind, I.ok.glob, rfl, Nat.le_refl _, fun y z c e1 e2 => I.ok.inj y z c (cm e1) (cm e2), fun y hy => ?_, fun y c z _ => absurd (show false = true from z) Bool.false_ne_true, fun _ => hA, hfr, .inr ⟨rfl, rfl⟩, fun b hb => ⟨?_, fun y c e => ?_⟩, I.bs, Nat.le_trans I.ok.bsz I.sz, fun b o e hb => ?_, fun b hb => ?_, I.stack, I.stkFree⟩,
    rfl, hG, Un.kept kp, ⟨m, hns, fun i y av e1 e2 e3 => ?_⟩, fun y c e => ?_, I.hok.fresh (Nat.le_refl _), fun y c e => I.freeC y c (cm e), fun p hp => ?_, I.hok.kept kp, by rw [wipe_length]; exact I.len⟩
  · rcases hy with hy | hy
    · exact absurd hy (nocell y)
    · obtain ⟨c, e, _⟩ := look hy
      exact ⟨c, e⟩
  · rw [List.mem_singleton.mp hb]
    exact Nat.ne_of_lt hlt
  · rw [List.mem_singleton.mp hb]
    exact hit.2.2.2.2.1 y c (cm e)
  · rw [List.mem_singleton.mp hb] at e
    rcases hit.2.2.2.1 with z | z
    · exact I.ok.noex it o e z
    · exact absurd (Nat.lt_of_lt_of_le (Heap.lt_size e) (Nat.le_trans I.ok.bsz z)) (Nat.lt_irrefl _)
  · rw [List.mem_singleton.mp hb]
    exact itfs
  · obtain ⟨e2, hne⟩ := wipe_some e2
    have hfr' : scope.names.lookup y = some .free := by
      have e3 : Vis scope y := e3
      rcases e3 with e3 | e3 | e3
      · exfalso
        rcases ok.blk.own _ (PySem.mem_of_lookup e3) (.inl rfl) with e' | e'
        · obtain ⟨p, hp, hpy⟩ := List.mem_map.mp e'
          have e4 := ok.blk.ix p hp
          have : p.1 = y := hpy
          rw [this] at e4
          exact hne (List.mem_map.mpr ⟨p, hp, nodup_ix hN e4 e1⟩)
        · exact e' (List.mem_of_getElem? e1)
      · exact absurd e3 (nocell y)
      · exact e3
    obtain ⟨m', hn, hl⟩ := I.loc
    have hvis : Vis X.env.scope y := (ok.blk.free _ (PySem.mem_of_lookup hfr') rfl).elim (fun k => .inr (.inl k)) (fun k => .inr (.inr k))
    obtain ⟨w, r, q⟩ := hl i y av e1 e2 hvis
    obtain ⟨c, h1, h2⟩ := look hfr'
    refine ⟨w, r, .inr ⟨.inr hfr', ?_⟩⟩
    rcases q with ⟨k, _⟩ | ⟨_, c', e', z⟩
    · have k : X.env.scope.names.lookup y = some .local := k
      rcases ok.blk.free _ (PySem.mem_of_lookup hfr') rfl with k' | k' <;> rw [show X.env.scope.names.lookup y = _ from k'] at k <;> cases k
    · rw [h2] at e'
      cases e'
      exact ⟨c, h1, z.keeps kp⟩
  · obtain ⟨w, z⟩ := I.cell y c (cm e)
    exact ⟨w, z.keeps kp⟩
  · have e : p = (a, og) := by simpa using hp
    subst e
    have hge : s.heap.objs.size ≤ a := Nat.le_of_lt hna
    refine ⟨ha, I.hok.fresh hge, Nat.ne_of_gt hna, fun z => ?_, hd⟩
    rcases List.mem_cons.mp (I.stkSub a z) with z | z
    · have := I.lt
      rw [← z] at this
      exact absurd (Nat.lt_of_lt_of_le this hge) (Nat.lt_irrefl _)
    · exact I.nofs hge z
end

section
variable {X : Cx} {pins : List (Addr × Obj)} {σ : L2.St} {H4 : Hp} {s4 : Shared}
/-- what stands behind a turn of the generator -/
def Out (X : Cx) (H4 : Hp) (s4 : Shared) (it a : Addr) (g : Nat) (s : Shared) (H : Hp) : Prop :=
  s.os = s4.os ∧ AllBare s.gens ∧ Un (frs X.stack) [it] H4 H s4.heap s.heap ∧ HOk X.prog X.w H s.heap ∧ s.heap.IsGen a g ∧ s.heap.NoLimit
def YA (X : Cx) (H4 : Hp) (s4 : Shared) (it a : Addr) (g : Nat) (Q : VK) : Protocol := fun _ _ v s kap =>
  ∃ b H, v = .bool b ∧ Out X H4 s4 it a g s H ∧ (b = false → Q (.bl false) H) ∧ (b = true → ∀ s' : Shared, s'.heap = s.heap → s'.os = s.os → AllBare s'.gens → kap (.send .none) s')
def RA (X : Cx) (H4 : Hp) (s4 : Shared) (it a : Addr) (g : Nat) (Q : VK) : Nat → Shared → Shared → Prop := fun _ _ s => ∃ H, Out X H4 s4 it a g s H ∧ Q (.bl true) H

/-- all's own loop over such a generator -/
theorem drain_all {A : Around} {it a : Addr} {g : Nat} {Q : VK} {R : Result → Shared → Prop} (hh : A.handled = none) (hd : A.depth < recursionLimit)
    (hend : ∀ b s' H, s'.os = s4.os → AllBare s'.gens → Un (frs X.stack) [it] H4 H s4.heap s'.heap → HOk X.prog X.w H s'.heap → Q (.bl b) H → R (.ok (.ret (.bool b))) s') :
    ∀ (k : Nat) (s : Shared), s.heap.IsGen a g → s.heap.NoLimit → (∃ gs, s.gens[g]? = some gs ∧ gs.Goes (model X.prog X.w) A.in1.in1 (fun n s₀ r s₁ => r = .ok .next ∧ RA X H4 s4 it a g Q n s₀ s₁) (YA X H4 s4 it a g Q) k (.send .none) (s.setGen g .running)) →
      codeAny (model X.prog X.w) A (.builtin "all.loop" ⟨[.ref a], []⟩) R s := by
  intro k
  induction k with
  | zero =>
    intro s hg hl ⟨gs, hgs, hgo⟩
    refine codeAny_builtin F.entry_all_loop ?_
    rw [Around.under_plainId F.plain_all_loop _]
    show wpAny _ A.in1 (pyNext (.ref a) >>= _) _ _ s
    refine wpAny_bind (wpAny_pyNext_genexpQ (A := A.in1) (P := RA X H4 s4 it a g Q) hh hl hd hg hgs hgo (fun v s₁ gs' hbare hv => ?_) (fun s₁ hp h' hk => ?_))
    · obtain ⟨b, H, rfl, ⟨o1, o2, o3, o4, o5, o6⟩, h0, h1⟩ := hv
      refine wpAny_bind (wpAny_holding (wpAny_truthy_bool ?_))
      refine wpAny_bind (wpAny_letGo ?_)
      cases b with
      | true => exact False.elim (h1 rfl s₁ rfl rfl o2)
      | false =>
        simp only [Bool.false_eq_true, if_false]
        refine wpAny_bind (wpAny_rule (wpAny_pure ?_))
        exact hend false _ H o1 (allBare_setGen o2 hbare) o3 o4 (h0 rfl)
    · obtain ⟨H, ⟨o1, o2, o3, o4, o5, o6⟩, hq⟩ := hp
      refine wpAny_bind (wpAny_rule (wpAny_pure ?_))
      exact hend true _ H o1 (allBare_setGen o2 rfl) (o3.trans (Un.kept hk)) (o4.kept hk) hq
  | succ k ih =>
    intro s hg hl ⟨gs, hgs, hgo⟩
    have hgl : g < s.gens.size := (Array.getElem?_eq_some_iff.mp hgs).1
    refine codeAny_builtin F.entry_all_loop ?_
    rw [Around.under_plainId F.plain_all_loop _]
    show wpAny _ A.in1 (pyNext (.ref a) >>= _) _ _ s
    refine wpAny_bind (wpAny_gsz (n := g + 1) hgl (wpAny_pyNext_genexpQ (A := A.in1) (P := RA X H4 s4 it a g Q) hh hl hd hg hgs hgo (fun v s₁ gs' hbare hv => ?_) (fun s₁ hp h' hk => ?_)))
    · intro hsz
      obtain ⟨b, H, rfl, ⟨o1, o2, o3, o4, o5, o6⟩, h0, h1⟩ := hv
      refine wpAny_bind (wpAny_holding (wpAny_truthy_bool ?_))
      refine wpAny_bind (wpAny_letGo ?_)
      cases b with
      | true =>
        simp only [if_true]
        have hsz1 : g < s₁.gens.size := by
          have q : (s₁.setGen g gs').gens.size = s₁.gens.size := setGen_size _ _ _
          omega
        refine wpAny_pure ⟨plainId_quiet F.plain_all_loop _, ih _ o5 o6 ⟨gs', setGen_at hsz1, ?_⟩⟩
        exact h1 rfl _ rfl rfl (allBare_setGen (s := s₁.setGen g gs') (allBare_setGen o2 hbare) rfl)
      | false =>
        simp only [Bool.false_eq_true, if_false]
        refine wpAny_bind (wpAny_rule (wpAny_pure ?_))
        exact hend false _ H o1 (allBare_setGen o2 hbare) o3 o4 (h0 rfl)
    · intro hsz
      obtain ⟨H, ⟨o1, o2, o3, o4, o5, o6⟩, hq⟩ := hp
      refine wpAny_bind (wpAny_rule (wpAny_pure ?_))
      exact hend true _ H o1 (allBare_setGen o2 rfl) (o3.trans (Un.kept hk)) (o4.kept hk) hq
end

section
variable {X : Cx} {pins : List (Addr × Obj)} {σ : L2.St} {H4 : Hp} {s4 : Shared}
/-- the generator's own loop from its i-th item on -/
theorem seg_all {A0 A : Around} {scope : Scope} {own : List (Str × Nat)} {x : Str} {j : Nat} {px pos : Pos} {elt iter : Expr} {it a l : Addr} {g : Nat} {og : Obj} {cenv : Env} {te : TE} {xs : List V} {Q : VK} {W : Nat → Hp → Prop}
    (hN : X.N.Nodup) (hj : X.N[j]? = some x) (hov : A0.over (.compLoop (.GeneratorExp elt [⟨.Name x px, iter, [], 0⟩] scope pos) 0 (.ref it) .none cenv) [] = A) (hsc : cenv.scope = scope) (hco : scope.isCoroutine = false)
    (hx : scope.names.lookup x = some .local) (hov2 : own = [(x, j)])
    (hgen : ∀ h : Heap, h.get? a = some og → h.IsGen a g) (hia : a ≠ it)
    (hel : PE (gnX X A s4 H4 cenv it [(a, og)]) elt te)
    (wl : ∀ i H, i ≤ xs.length → W i H → SqL X.K H l xs)
    (wt : ∀ i v H, xs[i]? = some v → W i H → te ((wipe σ (own.map (·.2))).set j (some v)) H fun y H' => ∃ b, y = .bl b ∧ if b = true then W (i + 1) H' else Q (.bl false) H')
    (we : ∀ H, W xs.length H → Q (.bl true) H) :
    ∀ (k i : Nat) (s₀ s : Shared) (H : Hp), xs.length - i = k → i ≤ xs.length → Inv (gnX X A s4 H4 cenv it [(a, og)]) [] (wipe σ (own.map (·.2))) H s → s.heap.IsListIter it l i → H it = none → W i H →
      Seg (model X.prog X.w) A0 (fun n s₀ r s₁ => r = .ok .next ∧ RA X H4 s4 it a g Q n s₀ s₁) (YA X H4 s4 it a g Q) k s₀
        (.compLoop (.GeneratorExp elt [⟨.Name x px, iter, [], 0⟩] scope pos) 0 (.ref it) .none cenv)
        ((model X.prog X.w).den (.compLoop (.GeneratorExp elt [⟨.Name x px, iter, [], 0⟩] scope pos) 0 (.ref it) .none cenv)) [] s := by
  subst hov2
  have stat : ∀ {σ' : L2.St} {H' : Hp} {s' : Shared}, Inv (gnX X A s4 H4 cenv it [(a, og)]) [] σ' H' s' → H' it = none → ∀ b ∈ [it], FpOk (gnX X A s4 H4 cenv it [(a, og)]) [] H' b := fun {σ' H' s'} I' hn b hb => by
    have e := List.mem_singleton.mp hb
    subst e
    refine ⟨hn, (I'.ok.exf b hb).1, I'.ok.exfs b hb, .inl hb, fun y c e => (I'.ok.exf b hb).2 y c e, fun p hp z => ?_⟩
    have e : p = (a, og) := by simpa using hp
    subst e
    exact hia z
  have out : ∀ {σ' : L2.St} {H' : Hp} {s' : Shared}, Inv (gnX X A s4 H4 cenv it [(a, og)]) [] σ' H' s' → Out X H4 s4 it a g s' H' := fun {σ' H' s'} I' =>
    ⟨I'.os, I'.bare, I'.base, I'.hok, hgen _ (I'.pin (a, og) (List.mem_append_left _ List.mem_cons_self)).1, I'.nolimit⟩
  intro k
  induction k with
  | zero =>
    intro i s₀ s H hk hi I st hn w
    have hin : i = xs.length := by omega
    subst hin
    show Seg _ A0 _ _ _ s₀ _ ((compTurn (.GeneratorExp elt [⟨.Name x px, iter, [], 0⟩] scope pos) 0 (.ref it) .none cenv).onRaise (leaving cenv)) [] s
    rw [compTurn_gen, Sem.onRaise_eq_wrap]
    refine seg_bind_wrap (wpAny_standAt ?_)
    have td := (turn_list (P := X.prog) (w := X.w) (K := X.K) (tg := .Name x px) l it).done (gnX X A s4 H4 cenv it [(a, og)]) rfl rfl rfl rfl xs.length [] s _ H (fun _ _ => False) I (stat I hn) st ⟨xs, wl _ _ (Nat.le_refl _) w, Nat.le_refl _⟩
    refine seg_bind_wrap ?_
    rw [hov]
    refine thnF td fun r s6 ⟨hr, I6⟩ => ?_
    subst hr
    exact seg_end (.ok .next) ⟨rfl, H, out I6, we H w⟩
  | succ k ih =>
    intro i s₀ s H hk hi I st hn w
    have hlt : i < xs.length := by omega
    have gx : xs[i]? = some xs[i] := List.getElem?_eq_getElem hlt
    show Seg _ A0 _ _ _ s₀ _ ((compTurn (.GeneratorExp elt [⟨.Name x px, iter, [], 0⟩] scope pos) 0 (.ref it) .none cenv).onRaise (leaving cenv)) [] s
    rw [compTurn_gen, Sem.onRaise_eq_wrap]
    refine seg_bind_wrap (wpAny_standAt ?_)
    have T := turn_list (P := X.prog) (w := X.w) (K := X.K) (tg := .Name x px) l it
    have ti := T.item (gnX X A s4 H4 cenv it [(a, og)]) rfl rfl rfl rfl i [] s _ H (fun _ _ => False) I (stat I hn) st ⟨xs, xs[i], wl _ _ hi w, gx⟩
    refine seg_bind_wrap ?_
    rw [hov]
    refine thnF ti fun r s6 ⟨u, hr, h6⟩ => ?_
    subst hr
    refine seg_bind_wrap ?_
    rw [hov]
    refine thnF h6 fun _ s7 ⟨y, H7, I7, r7, y7, st7, n7⟩ => ?_
    obtain ⟨eH, ey⟩ := y7
    subst eH
    have ey2 : xs[i]? = some y := ey xs (wl _ _ hi w)
    have I7' := I7.pinned (stat I7 (n7 it (List.mem_singleton.mpr rfl))) (T.obj _ _ st7)
    refine seg_bind_wrap ?_
    rw [hov]
    have pg : PG (gnX X A s4 H4 cenv it [(a, og)]) (.Name x px) (gName j) := pg_name hN hj (.inl (by show cenv.scope.names.lookup x = some .local; rw [hsc]; exact hx)) (.inr (by show cenv.scope.names.lookup x = some .local; rw [hsc]; exact hx))
    refine thnF (pg.run _ s7 _ H7 y u (fun σ' H' => σ' = (wipe σ [j]).set j (some y) ∧ H' = H7) I7' r7 ⟨rfl, rfl⟩) fun _ s8 ⟨σ8, H8, I8, e8, e9⟩ => ?_
    subst e8 e9
    refine seg_bind_wrap (wpAny_tests_nil ?_)
    simp only [if_true]
    have hy : ∀ v, yieldOut cenv v = yieldValue v := fun v => by simp only [yieldOut, hsc, hco, Bool.false_eq_true, if_false]
    simp only [hy]
    rw [Sem.bind_eq_wrap', Sem.bind_eq_wrap', Sem.wrap_wrap, Sem.wrap_wrap]
    refine seg_wrap ?_
    rw [hov]
    refine thnF (hel.run _ s8 _ _ _ I8 (wt i y _ ey2 w)) fun z s10 ⟨yv, H10, I10, r10, b, eb, q10⟩ => ?_
    subst eb
    have ez : z = Value.bool b := r10
    subst ez
    have I11 : Inv (gnX X A s4 H4 cenv it [(a, og)]) [] (wipe σ [j]) H10 s10 := (I10.unpinned (pins := [])).weak (by simp) (fun k v e => by
      have q : wipe ((wipe σ [j]).set j (some y)) [j] = wipe σ [j] := DL.wipe_one
      rw [← q] at e
      exact (wipe_some e).1)
    have pin' : ∀ o, s7.heap.get? it = some o → s10.heap.get? it = some o ∧ H10 it = none := fun o e =>
      let z := I10.pin (it, o) (List.mem_append_right _ (List.mem_append_right _ (mem_pinsAt (List.mem_singleton.mpr rfl) e)))
      ⟨z.1, z.2.1⟩
    obtain ⟨oi, eoi, _⟩ := T.obj _ _ st7 it (List.mem_singleton.mpr rfl)
    have n10 := (pin' oi eoi).2
    have st10 : s10.heap.IsListIter it l (i + 1) := T.keep _ _ _ st7 fun c hc o e => by
      rw [List.mem_singleton.mp hc] at e ⊢
      exact (pin' o e).1
    refine seg_at (seg_yield rfl rfl rfl ⟨b, H10, rfl, out I11, fun hb => ?_, fun hb s'' h1 h2 h3 => ?_⟩)
    · rw [hb] at q10
      simpa using q10
    · rw [hb] at q10
      have w10 : W (i + 1) H10 := by simpa using q10
      refine seg_again rfl (ih (i + 1) s'' s'' H10 (by omega) hlt (inv_heap I11 h1 h2 h3) ?_ n10 w10)
      rw [h1]
      exact st10
theorem seg_allStart {A0 A : Around} {scope : Scope} {own : List (Str × Nat)} {x : Str} {j : Nat} {px pos : Pos} {elt iter : Expr} {it a l : Addr} {g : Nat} {og : Obj} {cenv : Env} {te : TE} {xs : List V} {Q : VK} {W : Nat → Hp → Prop}
    (hN : X.N.Nodup) (hj : X.N[j]? = some x) (hov : A0.over (.compLoop (.GeneratorExp elt [⟨.Name x px, iter, [], 0⟩] scope pos) 0 (.ref it) .none cenv) [] = A) (hsc : cenv.scope = scope) (hco : scope.isCoroutine = false)
    (hx : scope.names.lookup x = some .local) (hov2 : own = [(x, j)])
    (hgen : ∀ h : Heap, h.get? a = some og → h.IsGen a g) (hia : a ≠ it)
    (hel : PE (gnX X A s4 H4 cenv it [(a, og)]) elt te)
    (wl : ∀ i H, i ≤ xs.length → W i H → SqL X.K H l xs)
    (wt : ∀ i v H, xs[i]? = some v → W i H → te ((wipe σ (own.map (·.2))).set j (some v)) H fun y H' => ∃ b, y = .bl b ∧ if b = true then W (i + 1) H' else Q (.bl false) H')
    (we : ∀ H, W xs.length H → Q (.bl true) H) (s₀ s : Shared) (H : Hp)
    (I : Inv (gnX X A s4 H4 cenv it [(a, og)]) [] (wipe σ (own.map (·.2))) H s) (st : s.heap.IsListIter it l 0) (hn : H it = none) (w : W 0 H) :
      Seg (model X.prog X.w) A0 (fun n s₀ r s₁ => r = .ok .next ∧ RA X H4 s4 it a g Q n s₀ s₁) (YA X H4 s4 it a g Q) xs.length s₀
        (.compStart (.GeneratorExp elt [⟨.Name x px, iter, [], 0⟩] scope pos) 0 (.ref it) .none cenv)
        ((model X.prog X.w).den (.compStart (.GeneratorExp elt [⟨.Name x px, iter, [], 0⟩] scope pos) 0 (.ref it) .none cenv)) [] s := by
  have loop := seg_all (iter := iter) (px := px) (pos := pos) (A0 := A0) hN hj hov hsc hco hx hov2 hgen hia hel wl wt we xs.length 0 s₀ s H (Nat.sub_zero _) (Nat.zero_le _) I st hn w
  show Seg _ A0 _ _ _ s₀ _ ((compStart (.GeneratorExp elt [⟨.Name x px, iter, [], 0⟩] scope pos) 0 (.ref it) .none cenv).onRaise (leaving cenv)) [] s
  unfold compStart
  rw [Sem.onRaise_eq_wrap]
  show Seg _ A0 _ _ _ s₀ _ ((ask >>= _).wrap _ _ _ _) [] s
  refine seg_bind_wrap (wpAny_askSetting ?_)
  split
  · exact seg_again rfl loop
  · first
      | exact seg_bind_wrap (wpAny_rule (seg_bind_wrap (wpAny_standAt (seg_bind_wrap (wpAny_pyIter_listiter st (seg_again rfl loop))))))
      | (refine seg_bind_wrap (wpAny_rule ?_); show Seg _ A0 _ _ _ s₀ _ ((standAt iter.pos >>= _).wrap _ _ _ _) [] s; exact seg_bind_wrap (wpAny_standAt (seg_bind_wrap (wpAny_pyIter_listiter st (seg_again rfl loop)))))
end

section
variable {X : Cx}
/-- all(elt for x in xs): te the list, telt the element; W: a word of the turn and the heap; P: the table of the def's code, which may grow -/
def tAllG (K : PySem.W.Frag) (P : Addr) (j : Nat) (vs : List Nat) (tl telt : TE) : TE := fun σ H Q => tl σ H fun v H1 => ∃ l xs, v = .ref l ∧ SqL K H1 l xs ∧ TabG H1 P ∧ ∃ W : Nat → Hp → Prop, (∀ H2, Tabbed P H1 H2 → W 0 H2) ∧
  (∀ i H, i ≤ xs.length → W i H → SqL K H l xs) ∧
  (∀ i v H, xs[i]? = some v → W i H → telt ((wipe σ vs).set j (some v)) H fun y H' => ∃ b, y = .bl b ∧ if b = true then W (i + 1) H' else Q (.bl false) H') ∧ ∀ H, W xs.length H → Q (.bl true) H
theorem boot_all' : bootBuiltins "all" = some (.builtin "all") := by decide +kernel
theorem pe_allG {c P : Addr} {elt iter : Expr} {x : Str} {j : Nat} {px p pos gpos : Pos} {scope : Scope} {tl telt : TE} {k : Nat}
    (hr : Room (k + 1) X.A) (hN : X.N.Nodup) (hj : X.N[j]? = some x) (hg : Gl X "all") (hm : X.mg "all" = none) (TB : TabB X.base X.mg c P) (hcode : X.env.code = .ref c) (S : GBlk X.N X.env.scope scope [(x, j)] x) (hi : PE X iter tl)
    (hel : ∀ (A : Around) (s : Shared) (H : Hp) (C : Addr) (cl : List (Str × Addr)) (code : Value) (it : Addr) (pn : List (Addr × Obj)), Room k A → PE (gnX X A s H (genEnv scope cl C code builtinsNs X.env) it pn) elt telt)
    (hs : ∀ v, genFold iter X.env v = pure v := by intro _; rfl)
    (he : starEach [.GeneratorExp elt [⟨.Name x px, iter, [], 0⟩] scope gpos] X.env = (false, eval (.GeneratorExp elt [⟨.Name x px, iter, [], 0⟩] scope gpos) X.env) :: starEach [] X.env := by rfl) :
    PE X (.Call (.Name "all" p) [.GeneratorExp elt [⟨.Name x px, iter, [], 0⟩] scope gpos] [] pos) (tAllG X.K P j [j] tl telt) := by
  refine ⟨fun pins s σ H Q I h => ?_⟩
  refine wpAny_Call_Name_kw (ld_blt I hg hm boot_all' ?_)
  refine PyProof.Rows.callWith_builtin1 ?_ he (by rfl)
  rw [he]
  show wpAny _ _ (spliced ((false, eval (.GeneratorExp elt [⟨.Name x px, iter, [], 0⟩] scope gpos) X.env) :: backTo pos (starEach [] X.env))) _ _ s
  refine Calls.spliced_cons ?_
  refine wpAny_GeneratorExp_make S.co (closure_ok fun y hy e => (S.blk.free y hy e).elim (fun k => I.ok.has _ (.inl k)) fun k => I.ok.has _ (.inr k)) S.nocell S.dot S.blk.kind hr.depth ?_ hs
  refine thn (hi.run pins s σ H _ I h) fun xv s1 ⟨v, H1, I1, r1, q1⟩ => ?_
  obtain ⟨l, xs, rfl, hl, ⟨ps, hP, ht⟩, W, w0, wl, wt, we⟩ := q1
  obtain rfl : xv = Value.ref l := r1
  obtain ⟨its, rv, pl, hz⟩ := I1.list hl
  refine wpAny_pyIter_list pl.isList ?_
  have hf1 := I1.hok.fresh (Nat.le_refl s1.heap.objs.size)
  generalize hoi : ({ cls := .type "list_iterator", data := .fields #[.ref l, .int 0 0] } : Obj) = oi
  have hoi' := hoi
  have hPs : s1.heap.get? P = some { cls := .none, data := .fields ps } := I1.hok P _ hP
  have hP2 : (s1.heap.push oi).get? P = some { cls := .none, data := .fields ps } := Heap.get?_push_of_some _ hPs
  have cd : PySem.W.CodeHd (s1.heap.push oi) c P := TB.code.keeps fun b u e => Heap.get?_push_of_some _ (I1.bk b u e)
  have hPlt : P < s1.heap.objs.size := Heap.lt_size hPs
  have lim2 : (s1.heap.push oi).NoLimit := I1.nolimit.push oi
  have sz2 : (s1.heap.push oi).objs.size = s1.heap.objs.size + 1 := Heap.size_push ..
  have eit : (s1.heap.push oi).get? s1.heap.objs.size = some oi := by
    rw [← hoi]
    exact Heap.get?_push_size _ rfl
  have cont : ∀ (code : Value) (h3 : Heap) (tk : Nat) (ps' : Array Value), Heap.ExtBut P (s1.heap.push oi) h3 → (s1.heap.push oi).objs.size ≤ h3.objs.size → h3.get? P = some { cls := .none, data := .fields ps' } → (∃ more, ps' = ps ++ more) → TriplesOk ps'.toList →
      wpAny (model X.prog X.w) X.A (builtinsFor X.env.globals X.env.builtins) (fun bi s₄ =>
        ∀ h', h'.Ns s₄.heap.objs.size (fun y => if y = ".0" then some (.ref s1.heap.objs.size) else none) → Heap.SameBut s₄.heap.objs.size (s₄.heap.push { cls := .type "frame", data := .dict #[] }) h' →
          wpAny (model X.prog X.w) X.A (spliced (backTo pos (starEach [] X.env))) (fun vs s₂ => wpAny (model X.prog X.w) X.A (call (.builtin "all") (.ref h'.objs.size :: vs)) (EP X pins σ Q) X.xe s₂) X.xe { s₄ with
            gens := s₄.gens.push (.fresh (.compStart (.GeneratorExp elt [⟨.Name x px, iter, [], 0⟩] scope gpos) 0 (.ref s1.heap.objs.size) .none (genEnv scope (cloFrom X.env.cells scope.names []) s₄.heap.objs.size code bi X.env))),
            toks := s₄.toks + 1 + 1 + 1,
            heap := h'.push { cls := .type "generator", data := .fields #[.int s₄.gens.size 0, .str "<genexpr>" (s₄.toks + 1), .str (X.env.qual ++ "<genexpr>") (s₄.toks + 1 + 1)] } }) X.xe { s1 with heap := h3, toks := tk } := by
    intro code h3 tk ps' hx hsz hP3 hmore ht3
    obtain ⟨bm, ob, e1, e2, e3, e4, e5, e6, e7, e8⟩ := TB.bm
    have keep3 : ∀ b u, b ≠ P → s1.heap.get? b = some u → h3.get? b = some u := fun b u hb e => hx b u hb (Heap.get?_push_of_some _ e)
    refine wpAny_builtinsFor (m := X.mg) (by rw [I1.ok.glob]; exact ((I1.mod.glob.keeps I1.bk).push oi).extBut hx TB.gP) e1 e2 (keep3 _ _ e4 (I1.bk _ _ e5)) e6 e7 e8 ?_
    intro h' hns hsb
    refine Calls.spliced_nil ?_
    obtain ⟨more, em⟩ := hmore
    have I4 : Inv X pins σ (upd H1 P (.tbl ps')) { s1 with heap := h3, toks := tk } := by
      rw [em]
      exact inv_tab (more := more) (g' := s1.gens) (d' := s1.drawn) I1 hP keep3 (by rw [← em]; exact hP3) I1.bare
    have szh : h'.objs.size = h3.objs.size + 1 := by rw [hsb.1, Heap.size_push]
    have itP : s1.heap.objs.size ≠ P := Nat.ne_of_gt hPlt
    have ith3 : s1.heap.objs.size < h3.objs.size := by omega
    generalize hog : ({ cls := .type "generator", data := .fields #[.int s1.gens.size 0, .str "<genexpr>" (tk + 1), .str (X.env.qual ++ "<genexpr>") (tk + 1 + 1)] } : Obj) = og
    have keep' : ∀ b o, h3.get? b = some o → h'.get? b = some o := fun b o e => hsb.extBut b o (Nat.ne_of_lt (Heap.lt_size e)) (Heap.get?_push_of_some _ e)
    have keep5 : ∀ b o, h3.get? b = some o → (h'.push og).get? b = some o := fun b o e => Heap.get?_push_of_some _ (keep' b o e)
    have eog : (h'.push og).get? h'.objs.size = some og := by
      rw [← hog]
      exact Heap.get?_push_size _ rfl
    have hgen : ∀ h : Heap, h.get? h'.objs.size = some og → h.IsGen h'.objs.size s1.gens.size := fun h e => ⟨og, _, _, e, by rw [← hog], by rw [← hog], by rw [← hog]⟩
    generalize hcode' : (Code.compLoop (.GeneratorExp elt [⟨.Name x px, iter, [], 0⟩] scope gpos) 0 (.ref s1.heap.objs.size) .none (genEnv scope (cloFrom X.env.cells scope.names []) h3.objs.size code builtinsNs X.env)) = cd0
    have hA : (X.A.in1.in1.over cd0 []).handled = none := hr.hd
    have hfr : (X.A.in1.in1.over cd0 []).frames = some (genEnv scope (cloFrom X.env.cells scope.names []) h3.objs.size code builtinsNs X.env :: X.stack) := by
      rw [← hcode']
      unfold Around.over
      show pushEnvs [genEnv scope (cloFrom X.env.cells scope.names []) h3.objs.size code builtinsNs X.env] X.A.frames = _
      rw [I1.ok.frames]
      rfl
    have hroom : Room k (X.A.in1.in1.over cd0 []) := by
      rw [← hcode']
      refine ⟨hr.hd, ?_, ?_⟩
      · have := hr.dp
        show X.A.depth + 0 + 1 + 3 * k + 5 < _
        omega
      · have := hr.un
        show X.A.units + 1 + 1 + 0 + 3 + 16 * k + 200 < _
        omega
    have fit : FpOk X pins (upd H1 P (.tbl ps')) s1.heap.objs.size := I1.fpOk (Nat.le_refl _) (by rw [upd_ne itP]; exact hf1)
    have gb : AllBare (s1.gens.push (GenState.fresh (.compStart (.GeneratorExp elt [⟨.Name x px, iter, [], 0⟩] scope gpos) 0 (.ref s1.heap.objs.size) .none (genEnv scope (cloFrom X.env.cells scope.names []) h3.objs.size code builtinsNs X.env)))) := I1.bare.push rfl
    have IG := gen_start (tk := tk + 1 + 1 + 1) (A := X.A.in1.in1.over cd0 []) (code := code) (own := [(x, j)]) (og := og) (a := h'.objs.size) (h5 := h'.push og) I4 S hN hA hfr fit ith3 gb keep5 (hns.push _) eog (by show h3.objs.size < h'.objs.size; omega) (fun v z => by rw [← hog] at z; cases z)
    have st5 : (h'.push og).IsListIter s1.heap.objs.size l 0 := by
      refine ⟨oi, keep5 _ _ (hx _ _ itP eit), ?_, ?_⟩
      · rw [← hoi]
      · rw [← hoi]
        rfl
    have hia : h'.objs.size ≠ s1.heap.objs.size := by
      have q : s1.heap.objs.size < h'.objs.size := by omega
      exact Nat.ne_of_gt q
    have wz : W 0 (upd H1 P (.tbl ps')) := w0 _ ⟨⟨ps', upd_same, ht3⟩, fun b hb => upd_ne hb⟩
    refine call_function_tree F.kind_all F.plain_all F.entry_all (F.args_all1 _) ?_
    unfold Builtin.«all»
    refine wpAny_bind (m := oneArg "all" _) (wpAny_pure ?_)
    refine wpAny_bind (wpAny_pyIter_gen (hgen _ eog) ?_)
    refine wpAny_pure ⟨plainId_quiet F.plain_all_loop _, drain_all (X := X) (H4 := upd H1 P (.tbl ps')) (s4 := { s1 with heap := h3, toks := tk }) (it := s1.heap.objs.size) (Q := Q) hr.hd hr.depth (fun b s' H o1 o2 o3 o4 o5 => ?_) xs.length _ (hgen _ eog) (IG.nolimit) ⟨_, Array.getElem?_push_size .., rfl, ?_⟩⟩
    · refine ⟨.bl b, H, I4.call' (ch := [s1.heap.objs.size]) o1 o3 o4 o2 (fun b hb => ?_), rfl, o5⟩
      rw [List.mem_singleton.mp hb]
      exact ⟨fit.2.2.2.1, fit.2.1, fit.2.2.2.2.1, fit.2.2.2.2.2⟩
    · refine seg_allStart (own := [(x, j)]) (j := j) (A := X.A.in1.in1.over cd0 []) (l := l) (xs := xs) (W := W) (te := telt) hN hj (by rw [← hcode']; rfl) rfl S.co S.loc rfl hgen hia (hel _ _ _ _ _ _ _ _ hroom) wl wt we _ _ (upd H1 P (.tbl ps')) (inv_heap IG rfl rfl (allBare_setGen gb rfl)) st5 fit.1 wz
  refine ⟨lim2, ?_⟩
  cases hf : codeAmong gpos ps.toList with
  | none =>
    refine wpAny_genexprCodeX hcode (cd.code hP2 ht) (cd.tab hP2) hf fun c' h' tk hx hge hlt hco' _ htab' _ => ?_
    obtain ⟨o1, vs, f1, tf, fl, tg, inF, tx, tt, op, _, _, _, _, _, _, _, _, _, htr, _⟩ := hco'
    exact cont _ h' tk _ hx (Nat.le_trans hge (Nat.le_of_lt hlt)) htab'.2 ⟨_, rfl⟩ htr
  | some cv =>
    refine wpAny_genexprCode_hit hcode (cd.code hP2 ht) hf ?_
    exact cont cv (s1.heap.push oi) s1.toks ps (Heap.ExtBut.refl _ _) (Nat.le_refl _) hP2 ⟨#[], by simp⟩ ht
end
end AG
set_option Elab.async false
set_option linter.all false
set_option maxRecDepth 100000
set_option maxHeartbeats 2000000
/-! all(..) by data; defs whose code object is known; the law's own call. -/
namespace DL
open PySem PySem.Spec PyProof.Rows L2
open Evl (Ex)
section
variable {K : PySem.W.Frag} {T : List Addr} {env : List Sl} {tl te : TE} {j : Nat}
theorem Wk.tabbed {F H H2 : Hp} {P : Addr} (w : Wk T F H) (hP : P ∈ T) (t : GxR.Tabbed P H H2) : Wk T F H2 ∧ Nx T F H F H2 := by
  have nP := (w.tab P hP).2
  refine ⟨⟨fun a o e => ?_, fun R hR => ?_⟩, Ex.refl F, fun a o e n => ?_, fun _ _ _ n => n⟩
  · have ha : a ≠ P := fun z => by rw [z, nP] at e; cases e
    rw [t.2 a ha]
    exact w.sub a o e
  · by_cases h : R = P
    · subst h
      exact ⟨t.1, nP⟩
    · obtain ⟨⟨ps, e, tr⟩, n⟩ := w.tab R hR
      exact ⟨⟨ps, (t.2 R h).trans e, tr⟩, n⟩
  · have ha : a ≠ P := fun z => n (z ▸ hP)
    rw [t.2 a ha]
    exact e
theorem all_take_succ {p : D → Bool} {ds : List D} {k : Nat} {d : D} (h : ds[k]? = some d) (ht : (ds.take k).all p = true) (hp : p d = true) : (ds.take (k + 1)).all p = true := by
  rw [List.take_add_one, h, List.all_append, ht]
  simp [hp]
theorem d_all {ds : List D} {P : Addr} (p : D → Bool) (hP : P ∈ T) (h : EvD K T tl env (.list ds))
    (hs : ∀ (k : Nat) d, ds[k]? = some d → (ds.take k).all p = true → EvD K T te ((env.set j .no).set j (.dat d)) (.bool (p d))) : EvD K T (AG.tAllG K P j [j] tl te) env (.bool (ds.all p)) := fun F0 H0 F H σ o Q q =>
  h F0 H0 F H σ o _ fun v F1 H1 w1 n1 d1 => by
    cases d1 with
    | @lst a xs _ hsq hdd =>
      refine ⟨a, xs, rfl, Evl.ex_l w1.sub hsq, (w1.tab P hP).1, fun i H' => ∃ F', Wk T F' H' ∧ Nx T F1 H1 F' H' ∧ (ds.take i).all p = true, fun H2 ht => ?_, fun i H' _ ⟨F', w', n', _⟩ => Evl.ex_l (n'.exF.trans w'.sub) hsq, fun i x H' hi ⟨F', w', n', ha⟩ => ?_, fun H' ⟨F', w', n', ha⟩ => ?_⟩
      · obtain ⟨a1, a2⟩ := w1.tabbed hP ht
        exact ⟨F1, a1, a2, rfl⟩
      · obtain ⟨d, hd1, hx⟩ := dps_getV hdd hi
        have o1 : Ok K T F0 H0 F' H' ((wipe σ [j]).set j (some x)) ((env.set j .no).set j (.dat d)) := (((o.step w1 n1).step w' n').wipe (i := j) none).set (dp_mono n'.exF _ _ hx)
        refine hs i d hd1 ha F0 H0 F' H' _ o1 _ fun y F2 H2 w2 n2 d2 => ?_
        cases d2
        refine ⟨p d, rfl, ?_⟩
        have n12 := n'.trans w' n2
        cases hp : p d with
        | true => exact iteT ⟨F2, w2, n12, all_take_succ hd1 ha hp⟩
        | false =>
          refine iteF (q _ F2 H2 w2 (n1.trans w1 n12) ?_)
          have e : ds.all p = false := by
            cases z : ds.all p with
            | false => rfl
            | true =>
              rw [List.all_eq_true] at z
              rw [z d (List.mem_of_getElem? hd1)] at hp
              cases hp
          rw [e]
          exact .bl false
      · rw [dps_len hdd, List.take_length] at ha
        rw [ha] at q
        exact q _ F' H' w' (n1.trans w1 n') (.bl true)
end
/-- a def, its code object known -/
structure FunC (K : PySem.W.Frag) (x qual : Str) (st : Stmt) (f : Addr) (fd : FuncData) (c : Addr) : Prop where
  ex : ∃ (oc : Value) (od : Option Addr) (kV doc pm : Value) (an : Option Addr) (ct : Value) (osl : Array (Option Value)),
    fd = PySem.W.fnOf x qual (defArgs st) (defBody st) (defScope st) .none kV doc pm an (.ref c) ct ∧ K.lookup f = some ⟨oc, od, .func fd, osl⟩ ∧ PySem.W.codeIn K (.ref c) qual = true
theorem func_mk {K : PySem.W.Frag} {x qual : Str} {st : Stmt} {f : Addr} {oc : Value} {od an : Option Addr} {osl : Array (Option Value)} {kV doc pm ct : Value} {c : Addr} (l : K.lookup f = some ⟨oc, od, .func (PySem.W.fnOf x qual (defArgs st) (defBody st) (defScope st) .none kV doc pm an (.ref c) ct), osl⟩)
    (h : PySem.W.codeIn K (.ref c) qual = true) : FunC K x qual st f (PySem.W.fnOf x qual (defArgs st) (defBody st) (defScope st) .none kV doc pm an (.ref c) ct) c := ⟨⟨oc, od, kV, doc, pm, an, ct, osl, rfl, l, h⟩⟩
section
variable {P : Program} {w : World} {K : PySem.W.Frag} {mg : Str → Option Value} {base : Heap} {T : List Addr}
theorem fn_gfC {x qual : Str} {st : Stmt} {f c : Addr} {fd : FuncData} {N ps : List Str} {k : Nat} {α : Type} {arg : α → List D} {pre : α → Prop} {out : α → D} (F : FunC K x qual st f fd c) (S : FnScope N ps (defScope st)) (len : ∀ x, (arg x).length = ps.length)
    (hbody : ∀ (A : Around) (outer : List Env) (s : Shared) (H : Hp) (E : XK), Room k (A.deeper (envOfC qual (defScope st) s.heap.objs.size f (.ref c))) →
      ∃ t, PSs (cxOf CX0 P w K mg base N qual (defScope st) f (.ref c) A outer s H E).nox (defBody st) t ∧ ∀ F0 H0 x, pre x → StD K T F0 H0 t (envOf N (arg x)) { nx := fun _ => out x = .none, rt := fun d' => d' = out x }) :
    FnOk P w K mg base CX0 (k + 1) f fd ps (PrD K T (GF arg pre out)) := by
  obtain ⟨oc, od, kV, doc, pm, an, ct, osl, rfl, lk, hcd⟩ := F.ex
  refine fn_of lk hcd S (fun vs H Q E ⟨F, ds, d, _, hd, ⟨x, e, _, _⟩, _⟩ => by rw [dps_len hd, e]; exact len x) fun A outer s H vs Q E hr h => ?_
  obtain ⟨F0, ds, d, wk, hd, ⟨x, e, hp, o⟩, q⟩ := h
  subst e o
  obtain ⟨t, ht, hst⟩ := hbody A outer s H E hr
  refine ⟨t, ht.nox, hst F0 H x hp F0 H _ (ok_start wk hd) _ ⟨fun e F' H' σ' p o _ => ?_, fun d' v F' H' p w' n' hv => ?_, fun _ _ _ _ p _ _ => False.elim p, fun _ _ _ _ p _ _ => False.elim p, fun _ _ _ _ _ _ p _ _ => False.elim p⟩⟩
  · have p' : out x = .none := p
    have hv : Dp K F' .non (out x) := by rw [p']; exact .non
    exact q .non F' H' o.wk o.nx hv
  · have p' : d' = out x := p
    subst p'
    exact q v F' H' w' n' hv
end

/-! ### lists that the def has made itself: + -/
section
variable (K : PySem.W.Frag) (T : List Addr)
def EvL (te : TE) (env : List Sl) (xs : List D) : Prop := ∀ F0 H0 F H σ, Ok K T F0 H0 F H σ env → ∀ Q : VK, (∀ a vs F' H', Wk T F' H' → Nx T F H F' H' → F' a = some (.lst vs) → DpAll K F' vs xs → Q (.ref a) H') → te σ H Q
end
section
variable {K : PySem.W.Frag} {T : List Addr} {env : List Sl} {ta tb te : TE} {F0 H0 : Hp} {t : TS} {P : Po}
theorem l_lst {ta : TA} {xs : List D} (h : EvA K T ta env xs) (hl : xs.length ≤ sizeLine) : EvL K T (tLst ta) env xs := fun F0 H0 F H σ o Q q =>
  h F0 H0 F H σ o _ fun vs F1 H1 w1 n1 d1 => ⟨by rw [dps_len d1]; exact hl, fun p hp => q p vs (upd F1 p (.lst vs)) _ (w1.new hp) (n1.trans w1 (Nx.new w1 hp)) upd_same (dps_mono (Nx.new w1 hp).exF _ _ d1)⟩
theorem l_sl {tl th : TO} {ds : List D} {lo hi : Option Int} (h : EvD K T te env (.list ds)) (h1 : EvO K T tl env lo) (h2 : EvO K T th env hi) : EvL K T (tSl (rSlL K) te tl th) env ((ds.drop (HT.sIx ds.length 0 lo)).take (HT.sIx ds.length ds.length hi - HT.sIx ds.length 0 lo)) := fun F0 H0 F H σ o Q q =>
  h F0 H0 F H σ o _ fun v F1 H1 w1 n1 d1 => h1 F0 H0 F1 H1 σ (o.step w1 n1) _ fun F2 H2 w2 n2 => h2 F0 H0 F2 H2 σ (o.step w2 (n1.trans w1 n2)) _ fun F3 H3 w3 n3 => by
    have d3 := dp_mono (n2.exF.trans n3.exF) _ _ d1
    cases d3 with
    | @lst a xs _ hs hd =>
      refine ⟨a, xs, rfl, Evl.ex_l w3.sub hs, fun p hp => q p _ (upd F3 p (.lst (cutV xs lo hi))) _ (w3.new hp) ((n1.trans w1 (n2.trans w2 n3)).trans w3 (Nx.new w3 hp)) upd_same ?_⟩
      unfold cutV
      rw [dps_len hd]
      exact dps_mono (Nx.new w3 hp).exF _ _ (dps_take _ (dps_drop _ hd))
theorem l_cat {xs ys : List D} (ha : EvL K T ta env xs) (hb : EvL K T tb env ys) (hl : xs.length + ys.length ≤ sizeLine) : EvL K T (tOp rCat ta tb) env (xs ++ ys) := fun F0 H0 F H σ o Q q =>
  ha F0 H0 F H σ o _ fun a vs F1 H1 w1 n1 e1 d1 => hb F0 H0 F1 H1 σ (o.step w1 n1) _ fun b ws F2 H2 w2 n2 e2 d2 =>
    ⟨a, b, vs, ws, rfl, rfl, w2.sub _ _ (n2.exF _ _ e1), w2.sub _ _ e2, by rw [dps_len d1, dps_len d2]; exact hl, fun p hp => q p (vs ++ ws) (upd F2 p (.lst (vs ++ ws))) _ (w2.new hp) ((n1.trans w1 n2).trans w2 (Nx.new w2 hp)) upd_same (dps_mono (Nx.new w2 hp).exF _ _ (dps_app (dps_mono n2.exF _ _ d1) d2))⟩
theorem l_d {xs : List D} (h : EvL K T te env xs) : EvD K T te env (.list xs) := fun F0 H0 F H σ o Q q =>
  h F0 H0 F H σ o _ fun a vs F1 H1 w1 n1 e1 d1 => q _ F1 H1 w1 n1 (.lst (.inl (.inl e1)) d1)
theorem s_mid (I : List Sl → Prop) (h : StD K T F0 H0 t env { P with nx := I }) (k : ∀ e, I e → P.nx e) : StD K T F0 H0 t env P := fun F H σ o De E =>
  h F H σ o De ⟨fun e F' H' σ' p o' x => E.nx e F' H' σ' (k e p) o' x, E.rt, E.bk, E.ct, E.rtE⟩
end

/-! ### shapes that may be compared -/
theorem lay_ints : ∀ ns : List Int, PyData.canLayAll0 (ns.map PyData.int) = true
  | [] => by simp [PyData.canLayAll0]
  | n :: ns => by simp [PyData.canLayAll0, PyData.canLay0, lay_ints ns]
theorem lay_bools : ∀ ns : List Bool, PyData.canLayAll0 (ns.map PyData.bool) = true
  | [] => by simp [PyData.canLayAll0]
  | n :: ns => by simp [PyData.canLayAll0, PyData.canLay0, lay_bools ns]
theorem dep_ints : ∀ ns : List Int, PyData.depthAll (ns.map PyData.int) = 0
  | [] => by simp [PyData.depthAll]
  | n :: ns => by simp [PyData.depthAll, PyData.depth, dep_ints ns]
theorem dep_bools : ∀ ns : List Bool, PyData.depthAll (ns.map PyData.bool) = 0
  | [] => by simp [PyData.depthAll]
  | n :: ns => by simp [PyData.depthAll, PyData.depth, dep_bools ns]
theorem shaped_ints (ns : List Int) : SeqAt.shaped (dInts ns) = true := by
  simp [SeqAt.shaped, PyData.canLay0, PyData.depth, lay_ints, dep_ints]
theorem shaped_bools (ns : List Bool) : SeqAt.shaped (dBools ns) = true := by
  simp [SeqAt.shaped, PyData.canLay0, PyData.depth, lay_bools, dep_bools]
theorem eqv_self {d : D} (h : SeqAt.shaped d = true) : PyData.eqv d d = true := SeqAt.eqv_refl d (SeqAt.canLay_of_shaped h)

/-! ### the law's own call -/
section
variable {K : PySem.W.Frag} {T : List Addr} {H : Hp} {a : Addr} {ns : List Int} {α : Type}
theorem law_sp {cs : List (Addr × Addr)} {pre : List Int → Prop} (hp : pre ns) (ht : ∀ p ∈ cs, H p.2 = some (.tbl #[])) (hs : SqL K H a (ns.map V.int)) :
    PrD K (cs.map (·.2)) (GF (fun ns : List Int => [dInts ns]) pre fun _ => .bool true) [.ref a] H (fun v _ => v = .bl true) (fun _ _ _ => False) := by
  have tab : ∀ P ∈ cs.map (·.2), H P = some (.tbl #[]) := fun P h => by
    obtain ⟨p, hp, e⟩ := List.mem_map.mp h
    rw [← e]
    exact ht p hp
  have ex : ∀ b u, H b = some u → b ∉ cs.map (·.2) → (if b ∈ cs.map (·.2) then none else H b) = some u := fun b u e n => by rw [if_neg n]; exact e
  refine ⟨fun b => if b ∈ cs.map (·.2) then none else H b, [dInts ns], .bool true, ⟨fun b u e => ?_, fun P h => ⟨⟨#[], tab P h, by simp [TriplesOk]⟩, if_pos h⟩⟩, .cons (.lst ?_ (ints_dps ns)) .nil, ⟨ns, rfl, hp, rfl⟩, fun v F' H' w n h => ?_⟩
  · by_cases hb : b ∈ cs.map (·.2)
    · rw [if_pos hb] at e
      cases e
    · rw [if_neg hb] at e
      exact e
  · rcases hs with (h | ⟨o, h⟩) | h
    · refine .inl (.inl (ex _ _ h fun z => ?_))
      rw [tab a z] at h
      cases h
    · refine .inl (.inr ⟨o, ex _ _ h fun z => ?_⟩)
      rw [tab a z] at h
      cases h
    · exact .inr h
  · cases h
    rfl
end
end DL
namespace DL
open PySem PySem.Spec PyProof.Rows L2
theorem sl_to {α : Type} (l : List α) (k : Nat) : (l.drop (HT.sIx l.length 0 none)).take (HT.sIx l.length l.length (some (k : Int)) - HT.sIx l.length 0 none) = l.take k := by
  rw [HT.sIx_none, HT.sIx_nat]
  show l.take (min k l.length - 0) = l.take k
  rw [Nat.sub_zero]
  by_cases h : k ≤ l.length
  · rw [Nat.min_eq_left h]
  · rw [Nat.min_eq_right (by omega), List.take_length, List.take_of_length_le (by omega)]
theorem sl_from {α : Type} (l : List α) (k : Nat) : (l.drop (HT.sIx l.length 0 (some (k : Int)))).take (HT.sIx l.length l.length none - HT.sIx l.length 0 (some (k : Int))) = l.drop k := by
  rw [HT.sIx_none, HT.sIx_nat]
  by_cases h : k ≤ l.length
  · rw [Nat.min_eq_left h, List.take_of_length_le (by rw [List.length_drop]; omega)]
  · rw [Nat.min_eq_right (by omega), List.drop_length, List.drop_of_length_le (by omega), List.take_nil]
theorem pick4 (i a b c d : Int) : ∃ z, atI ([.int a, .int b, .int c, .int d] : List D) (i % 4) = some (.int z) ∧ (z = a ∨ z = b ∨ z = c ∨ z = d) := by
  have h : i % 4 = 0 ∨ i % 4 = 1 ∨ i % 4 = 2 ∨ i % 4 = 3 := by omega
  rcases h with h | h | h | h <;> rw [h]
  · exact ⟨a, rfl, .inl rfl⟩
  · exact ⟨b, rfl, .inr (.inl rfl)⟩
  · exact ⟨c, rfl, .inr (.inr (.inl rfl))⟩
  · exact ⟨d, rfl, .inr (.inr (.inr rfl))⟩
theorem rest_nat (i : Int) (n : Nat) (h : 0 < n) : ∃ k : Nat, i % (n : Int) = (k : Int) ∧ k < n :=
  ⟨(i % (n : Int)).toNat, by have := Int.emod_nonneg i (show (n : Int) ≠ 0 by omega); omega, by have h1 := Int.emod_lt_of_pos i (show 0 < (n : Int) by omega); have := Int.emod_nonneg i (show (n : Int) ≠ 0 by omega); omega⟩
end DL
set_option Elab.async false
set_option linter.all false
set_option maxRecDepth 100000
set_option maxHeartbeats 2000000
/-! The end of a law's row: the tables of the defs' code objects come from what the top has left. -/
namespace DL
open PySem PySem.Spec PyProof.Rows L2
theorem walk_dl {l : PySem.W.OpenLaw} {n k : Nat} {q : Program} {loose : List Str} {XP : (Str → Option Value) → Heap → Prop} {YP : World → Heap → Prop} {d : DefRec} {K : Params → PySem.W.Frag} {CX : World → CXT} {x : Str}
    (hn : l.most = some n) (hn2 : n ≤ sizeLine) (hdf : d.params.defaults = []) (hr : Room k callerA) (hY : ∀ (w : World) (h : Heap), YP w h → (K w.params).In h)
    (F : ∀ (w : World) (mg : Str → Option Value) (fa : Addr) (h : Heap), (K w.params).In h → h.Ns mainGlobals mg → mg d.name = some (.ref fa) →
      (∀ (y : Str) (e : DefRec) (c P : Addr), (recsOf q).find? (fun e => e.name == y) = some e → PySem.W.tabIn (K w.params) y = some (c, P) → PySem.W.CodeHd h c P ∧ h.get? P = some (PySem.W.tabObj #[])) → LamX.LawAtS l w (K w.params) (CX w) k n x mg fa h)
    (hCX : ∀ (w : World) (H : Hp) (s : Shared) (e : Value) (s' : Shared), CX w [] H s (fun _ _ _ => False) e s' → False) :
    PySem.W.WalkO q loose XP YP l.row.toRowW d [] (fun f vs => PySem.call f vs) := by
  refine Att.attach_callB hn hdf fun w s₀ s₁ mg mb fa o pm cd doc a vs ns G Y ho hd hcd hmg hobj hints hlen hbits hg => ?_
  have KX := hY w _ Y
  obtain ⟨fd, cs, sp, hT, nT, C, hb, hsp, hF⟩ := F w mg fa _ KX G.T.g hmg fun y e c P h1 h2 => PySem.W.tab_of G.T KX h1 h2
  exact LamX.law_callTs KX G.T.g G.T.b G.T.builtins G.T.nolimit hg hT nT C G.T.bmain hobj hints (Nat.le_trans hlen hn2) hr hF hb (fun H hH hS => hsp H a ns hlen hbits hH hS) fun H e s' => hCX w H s₁ e s'
theorem tabIn_of {K : PySem.W.Frag} {x : Str} {f c P : Addr} {oc oc' : Value} {od od' : Option Addr} {fd : FuncData} {sl sl' : Array (Option Value)} {vs : Array Value}
    (h1 : PySem.W.nsIn K mainGlobals x = some (some (.ref f))) (h2 : K.lookup f = some ⟨oc, od, .func fd, sl⟩) (h3 : fd.code = .ref c) (h4 : K.lookup c = some ⟨oc', od', .fields vs, sl'⟩) (h5 : vs[11]? = some (.ref P)) : PySem.W.tabIn K x = some (c, P) := by
  unfold PySem.W.tabIn
  rw [h1]
  dsimp only
  rw [h2]
  dsimp only
  rw [h3]
  dsimp only
  rw [h4]
  dsimp only
  rw [h5]
theorem noTab {K : PySem.W.Frag} {h : Heap} {P : Addr} (X : K.In h) (nt : PySem.W.noTabs K = true) (e : h.get? P = some (PySem.W.tabObj #[])) : K.lookup P = none := by
  cases q : K.lookup P with
  | none => rfl
  | some o =>
    have e2 := X P o q
    rw [e] at e2
    have e3 : PySem.W.tabObj #[] = o := Option.some.inj e2
    have h2 := List.all_eq_true.mp nt (P, o) (PySem.W.mem_of_lookupK q)
    subst e3
    exact absurd (show false = true from h2) Bool.false_ne_true
theorem tab_glob {base : Heap} {mg : Str → Option Value} {c P : Addr} (t : LamX.TabB base mg c P) : GxR.TabB base mg c P := ⟨t.code, t.bm, t.gP⟩
end DL
set_option Elab.async false
set_option linter.all false
set_option maxRecDepth 100000
set_option maxHeartbeats 2000000
/-! for x in reversed(text): a text has no __reversed__, so its items are asked for from the last place down. -/
namespace RS
open PySem PySem.Spec PyProof.Rows L2

theorem text_norev : typeLookup (.type "str") "__reversed__" = pure none := by rw [typeLookup_type, builtinLookup_eq_fast]; kernel_rfl
/-- the walker over the text z, the next place i -/
def Wkr (h : Heap) (a : Addr) (z : Str) (t : Tok) (i : Int) : Prop := ∃ o, h.get? a = some o ∧ o.cls = .type "reversed" ∧ o.data = .fields #[.str z t, rawInt i]
section
variable {pr : Program} {wo : World} {Ar : Around} {Er : Value → Shared → Prop} {sh : Shared} {z : Str} {t : Tok}
theorem Wkr.ty {a : Addr} {i : Int} (x : Wkr sh.heap a z t i) : sh.TypeIs (.ref a) "reversed" := let ⟨o, h1, h2, _⟩ := x; ⟨o, h1, h2⟩
theorem code_rs {R : Value → Shared → Prop} (hz : z.length ≤ sizeLine)
    (k : R (.ref sh.heap.objs.size) { sh with heap := sh.heap.push { cls := .type "reversed", data := .fields #[.str z t, rawInt ((z.length : Int) - 1)] }, toks := sh.toks + 1 + 1 }) :
    codeAny (model pr wo) Ar (.call (.builtin "reversed.__new__") ⟨[.type "reversed", .str z t], []⟩) (wants R Er) sh := by
  have ht : sh.TypeIs (.str z t) "str" := typeIs_str sh z t
  have hb := line63
  refine codeAny_of_tree ?_
  show wpAny _ Ar.in1 (do checkBuiltinCall "reversed.__new__" ⟨[.type "reversed", .str z t], []⟩; again (.builtin "reversed.__new__" ⟨[.type "reversed", .str z t], []⟩)) _ _ sh
  refine wpAny_bind (wpAny_of_eq (PySem.F.newCall_reversed_1 _) (wpAny_pure ⟨plainId_quiet PySem.F.plain_reversed_new _, codeAny_builtin PySem.F.entry_reversed_new ?_⟩)); rw [Around.under_plainId PySem.F.plain_reversed_new _]
  unfold Builtin.«reversed.__new__»; refine wpAny_bind (wpAny_of_eq (newClass_reversed _) ?_)
  try dsimp only
  refine wpAny_bind (wpAny_of_eq (a := ()) (by first | rfl | kernel_rfl) ?_); try dsimp only
  refine wpAny_bind (wpAny_of_eq (a := ()) (by first | rfl | kernel_rfl) ?_); try dsimp only
  refine wpAny_bind (wpAny_specialOf ht text_norev ?_); try dsimp only
  refine wpAny_bind ?_
  wp_delta
  refine wpAny_bind (wpAny_isInstance (T := "str") (U := "dict") (b := false) ht PySem.F.sub_str_dict ?_); try dsimp only
  try rw [if_neg Bool.false_ne_true]
  try dsimp only
  refine wpAny_bind (wpAny_specialOf ht PySem.F.slot_str_getitem.lookup ?_); try dsimp only
  try rw [if_pos (by decide +kernel)]
  refine wpAny_pure ?_; try dsimp only
  try rw [if_neg (by decide)]
  try dsimp only
  refine wpAny_bind (P.len_str (by omega) ?_)
  refine wpAny_bind (wpAny_of_eq (a := some ((z.length : Nat) : Int)) rfl ?_); try dsimp only
  refine wpAny_bind ?_
  show wpAny _ _ (newObj (.type "reversed") (.fields #[.str z t, rawInt ((z.length : Int) - 1)])) _ _ _
  exact wpAny_newObj_type (wpAny_pure k)
theorem call_rs {R : Value → Shared → Prop} (hz : z.length ≤ sizeLine)
    (k : R (.ref sh.heap.objs.size) { sh with heap := sh.heap.push { cls := .type "reversed", data := .fields #[.str z t, rawInt ((z.length : Int) - 1)] }, toks := sh.toks + 1 + 1 }) :
    wpAny (model pr wo) Ar (call (.type "reversed") [.str z t]) R Er sh := by
  refine callType_codes (Q₁ := fun ob s1 => s1.TypeIs ob "reversed" ∧ R ob s1) RT.called_rt (PySem.F.typeCall_reversed_1 _) PySem.F.entry_object_init (code_rs (Ar := Ar.in1) hz ⟨⟨_, Heap.get?_push_size _ rfl, rfl⟩, k⟩) fun ob s1 h1 => ?_
  exact ⟨h1.1, PySem.F.args_object_init_2 ob _, object_init_meets RT.called_rt.init.lookup RT.called_rt.made (by decide) pr wo Ar.in1 _ s1 ⟨h1.1, rfl, h1.2⟩⟩
theorem next_rs {it : Addr} {i c : Nat} {R : Option Value → Shared → Prop} (hi : Wkr sh.heap it z t (i : Int)) (hc : z.cps[i]? = some c) (hz : z.length ≤ sizeLine)
    (k : ∀ h' tk u, Wkr h' it z t ((i : Int) - 1) → Heap.SameBut it sh.heap h' → R (some (.str ⟨#[c]⟩ u)) { sh with heap := h', toks := tk }) : wpAny (model pr wo) Ar (pyNext (.ref it)) R Er sh := by
  obtain ⟨o, h1, h2, h3⟩ := id hi
  have hlt : i < z.cps.size := (Array.getElem?_eq_some_iff.mp hc).1
  have ht : sh.TypeIs (.str z t) "str" := typeIs_str sh z t
  have hb := line63
  have hl : z.length = z.cps.size := rfl
  unfold pyNext
  refine wpAny_bind (wpAny_attempt (wpAny_callSpecial?_slot (name := Str.ofString "__next__") hi.ty RT.slot_rt_next (wpAny_call_entry RT.slot_rt_next hi.ty RT.entry_rt_next ?_ (RT.args_rt_next _))))
  unfold Builtin.«reversed.__next__»; refine wpAny_bind (wpAny_of_eq (a := (Value.ref it, [])) rfl ?_)
  try dsimp only
  refine wpAny_bind (wpAny_field h1 h3 (x := .str z t) rfl ?_); try dsimp only
  refine wpAny_bind (wpAny_field h1 h3 (x := rawInt (i : Int)) rfl ?_)
  show wpAny _ _ (if (i : Int) < 0 then _ else _) _ _ sh
  rw [if_neg (by omega)]
  try dsimp only
  refine wpAny_bind (wpAny_specialOf ht PySem.F.slot_str_getitem.lookup ?_); try dsimp only
  try rw [if_neg (by decide)]
  try dsimp only
  refine wpAny_bind (wpAny_mkInt (wpAny_bind (wpAny_attempt ?_)))
  have fin : seqIndex? (i : Int) z.length = some i := seqIndex_of (by omega) (by omega)
  refine P.getItem_str (c := c) (by simp only [Bool.or_eq_false_iff, decide_eq_false_iff_not]; omega) (by rw [fin]; exact hc) ?_
  try dsimp only
  refine wpAny_bind (wpAny_field (s := { sh with toks := sh.toks + 1 + 1 }) h1 h3 (x := rawInt (i : Int)) rfl ?_); try dsimp only
  refine wpAny_bind (wpAny_setField (s := { sh with toks := sh.toks + 1 + 1 }) h1 h3 (by simp) ?_)
  first
  | refine wpAny_pure ⟨_, rfl, wpAny_pure (k _ _ _ ?_ (Heap.SameBut.update ..))⟩
  | refine wpAny_bind (wpAny_pure (wpAny_pure ⟨_, rfl, wpAny_pure (k _ _ _ ?_ (Heap.SameBut.update ..))⟩))
  exact ⟨_, Heap.get?_update_self _ h1 (Obj.isFreed_of_fields (Obj.data_mapFields h3 _)), (Obj.cls_mapFields ..).trans h2, by rw [Obj.data_mapFields h3]; simp⟩
theorem end_rs {it : Addr} {R : Option Value → Shared → Prop} (hh : Ar.handled = none) (hi : Wkr sh.heap it z t (-1)) (k : ∀ h', Heap.ExtBut it sh.heap h' → R none { sh with heap := h' }) : wpAny (model pr wo) Ar (pyNext (.ref it)) R Er sh := by
  obtain ⟨o, h1, h2, h3⟩ := id hi
  unfold pyNext
  refine wpAny_bind (wpAny_attempt (wpAny_callSpecial?_slot (name := Str.ofString "__next__") hi.ty RT.slot_rt_next (wpAny_call_entry RT.slot_rt_next hi.ty RT.entry_rt_next ?_ (RT.args_rt_next _))))
  unfold Builtin.«reversed.__next__»; refine wpAny_bind (wpAny_of_eq (a := (Value.ref it, [])) rfl ?_)
  try dsimp only
  refine wpAny_bind (wpAny_field h1 h3 (x := .str z t) rfl ?_); try dsimp only
  refine wpAny_bind (wpAny_field h1 h3 (x := rawInt (-1)) rfl ?_)
  show wpAny _ _ (if (-1 : Int) < 0 then _ else _) _ _ sh
  rw [if_pos (by decide)]
  try dsimp only
  refine wpAny_bind (wpAny_rule (wpAny_bind ?_))
  wp_delta
  refine wpAny_bind (wpAny_setField h1 h3 (by simp) ?_)
  have h4 := Heap.get?_update_self (Obj.mapFields (·.setIfInBounds 1 (rawInt (-1)))) h1 (Obj.isFreed_of_fields (Obj.data_mapFields h3 _))
  refine wpAny_setField (s := { sh with heap := sh.heap.update it (Obj.mapFields (·.setIfInBounds 1 (rawInt (-1)))) }) h4 (Obj.data_mapFields h3 _) (by simp) ?_
  try dsimp only
  first
  | show wpAny _ _ (newExc (.type "StopIteration") [] >>= _) _ _ _
  | (refine wpAny_bind ?_; show wpAny _ _ (newExc (.type "StopIteration") [] >>= _) _ _ _)
  | (refine wpAny_bind ?_; wp_delta; show wpAny _ _ (newExc (.type "StopIteration") [] >>= _) _ _ _)
  refine wpAny_bind ?_; simp only [newExc, newTuple]
  refine wpAny_bind (wpAny_newObj_type ?_ (by size_fits)); refine wpAny_bind (m := firstArgMember _ _) (wpAny_of_eq (a := Value.none) (by first | rfl | (simp only [firstArgMember]; rfl)) ?_)
  refine wpAny_newObj_type ?_ (by size_fits)
  simp only [raiseNew]; refine wpAny_bind (wpAny_handled ?_)
  first | rw [show Ar.in1.handled = none from hh] | rw [hh]
  refine wpAny_bind (wpAny_pure (wpAny_throw ?_))
  refine wpAny_bind (wpAny_isInstance (T := "StopIteration") (b := true) ⟨_, Heap.get?_push_size _ rfl, rfl⟩ isSubtype_stop ?_); refine wpAny_pure (k _ ?_)
  refine ((?_ : Heap.ExtBut it sh.heap _).push _).push _
  exact fun b ob hb e => (Heap.get?_update_other _ _ (Ne.symm hb)).trans ((Heap.get?_update_other _ _ (Ne.symm hb)).trans e)
theorem iter_rs {it : Addr} {i : Int} {R : Value → Shared → Prop} (hi : Wkr sh.heap it z t i) (k : R (.ref it) sh) : wpAny (model pr wo) Ar (pyIter (.ref it)) R Er sh := by
  refine wpAny_pyIter_slot hi.ty RT.slot_rt_iter (wpAny_call_entry RT.slot_rt_iter hi.ty RT.entry_rt_iter (show wpAny _ _ (ret (.ref it)) _ _ sh from ?_) (RT.args_rt_iter _))
  exact wpAny_pure ⟨_, rfl, "reversed", _, hi.ty, RT.slot_rt_next.lookup, k⟩
end
/-- a text from its end: turn k gives the sign at n - 1 - k -/
def Iz (z : Str) : It := ⟨fun k _ => k < z.cps.size, fun k H v H' => H' = H ∧ ∃ c, z.cps[z.cps.size - 1 - k]? = some c ∧ v = .str ⟨#[c]⟩, fun k _ => z.cps.size ≤ k⟩
theorem turn_rs {pr : Program} {wo : World} {K : PySem.W.Frag} {tg : Expr} (it : Addr) (z : Str) (t : Tok) (hz : z.length ≤ sizeLine) : Turn pr wo K tg (Iz z) [it] it (fun k h => k ≤ z.cps.size ∧ Wkr h it z t ((z.cps.size : Int) - 1 - (k : Nat))) where
  mem := List.mem_singleton.mpr rfl
  obj := fun k h st b hb => by obtain rfl : b = it := by simpa using hb
                               obtain ⟨_, o, e1, e2, e3⟩ := st
                               exact ⟨o, e1, fun v y => by rw [e3] at y; cases y⟩
  keep := fun k h h' ⟨a1, o, e1, e2⟩ kk => ⟨a1, o, kk it (List.mem_singleton.mpr rfl) o e1, e2⟩
  item := by
    intro X hP hw hK hc k pins s σ H Ex I hf ⟨ha, hit⟩ hg
    subst hP hw hK
    obtain ⟨f0, f1, _, f3, f4, f5⟩ := hf it (List.mem_singleton.mpr rfl)
    have hg : k < z.cps.size := hg
    have e1 : (z.cps.size : Int) - 1 - (k : Nat) = ((z.cps.size - 1 - k : Nat) : Int) := by omega
    rw [e1] at hit
    have hj : z.cps.size - 1 - k < z.cps.size := by omega
    refine next_rs hit (Array.getElem?_eq_getElem hj) hz fun h' tk u st' sb => ?_
    have e2 : ((z.cps.size - 1 - k : Nat) : Int) - 1 = (z.cps.size : Int) - 1 - ((k + 1 : Nat) : Int) := by omega
    rw [e2] at st'
    have J : Inv X pins σ H { s with heap := h', toks := tk } := I.turned (t' := tk) (fun b o hb e => (sb.2 b hb).trans e) f0 f1 f3 f4 f5
    obtain ⟨o, q1, q2, q3⟩ := id st'
    exact ⟨_, rfl, go_of (s := { s with heap := h', toks := tk }) q1 q2 q3 (by decide) ⟨.str ⟨#[z.cps[z.cps.size - 1 - k]]⟩, H, J, ⟨u, rfl⟩, ⟨rfl, _, Array.getElem?_eq_getElem hj, rfl⟩, ⟨hg, st'⟩, fun b hb => (hf b hb).1⟩⟩
  done := by
    intro X hP hw hK hc k pins s σ H Ex I hf ⟨ha, hit⟩ hg
    subst hP hw hK
    obtain ⟨f0, f1, _, f3, f4, f5⟩ := hf it (List.mem_singleton.mpr rfl)
    have hg : z.cps.size ≤ k := hg
    have e1 : (z.cps.size : Int) - 1 - (k : Nat) = -1 := by omega
    rw [e1] at hit
    exact end_rs (I.ok.hd hc) hit fun h' eb => ⟨rfl, I.turned (t' := s.toks) (fun b o hb e => eb b o hb e) f0 f1 f3 f4 f5⟩
  self := fun A k s Q E ⟨_, hit⟩ q => iter_rs hit q
def iRevS (te : TE) : TI := fun σ H R => te σ H fun v H1 => ∃ z, v = .str z ∧ z.length ≤ sizeLine ∧ R (Iz z) H1
theorem pi_revS {X : Cx} {tg e : Expr} {te : TE} {p pos : Pos} (hg : Gl X "reversed") (hm : X.mg "reversed" = none) (he : PE X e te) (hs : starEach [e] X.env = (false, eval e X.env) :: starEach [] X.env := by rfl) : PI X tg (.Call (.Name "reversed" p) [e] [] pos) (iRevS te) := by
  refine ⟨fun pins s σ H R I h => Call_ (ld_blt I hg hm PyProof.Rows.boot_reversed (PyProof.Rows.callWith_type1 (args_cons (thn (he.run pins s σ H _ I h) fun u s1 ⟨v, H1, I1, r1, q1⟩ => args_nil ?_) hs) hs rfl))⟩
  obtain ⟨z, ev, hz, q⟩ := q1
  subst ev
  obtain ⟨t, rfl⟩ := r1
  have e1 : ((z.length : Nat) : Int) - 1 = (z.cps.size : Int) - 1 - ((0 : Nat) : Int) := by show ((z.cps.size : Nat) : Int) - 1 = _; omega
  refine call_rs hz (iter_rs (z := z) (t := t) (i := ((z.length : Nat) : Int) - 1) ⟨_, Heap.get?_push_size _ rfl, rfl, rfl⟩ ?_)
  refine pi_one (tk := s1.toks + 1 + 1) I1 _ (turn_rs _ z t hz) ⟨Nat.zero_le _, ?_⟩ q
  rw [← e1]; exact ⟨_, Heap.get?_push_size _ rfl, rfl, rfl⟩
theorem walk_rs {z : Str} : Walk (Iz z) z.cps.size (fun _ => True) (fun k H v H' => H' = H ∧ ∃ c, z.cps[z.cps.size - 1 - k]? = some c ∧ v = .str ⟨#[c]⟩) :=
  ⟨fun _ _ hi _ => hi, fun _ _ => Nat.le_refl _, fun _ _ _ _ _ _ y => y⟩
end RS
namespace DL
open PySem PySem.Spec PyProof.Rows L2
open Evl (Ex)
section
variable {K : PySem.W.Frag} {T : List Addr} {F0 H0 F F' : Hp} {env : List Sl} {P : Po} {j : Nat} {tl : TE} {tb : TS}
theorem s_forRS {z : Str} (h : EvD K T tl env (.str z)) (hz : z.length ≤ sizeLine) (I : Nat → List Sl → Prop) (h0 : I 0 env)
    (hs : ∀ (k c : Nat) e, k < z.cps.size → z.cps[z.cps.size - 1 - k]? = some c → I k e → StD K T F0 H0 tb (e.set j (.dat (.str ⟨#[c]⟩))) (P.turn (I (k + 1)))) (hd : ∀ e, I z.cps.size e → P.nx e) : StD K T F0 H0 (tFor (RS.iRevS tl) (gName j) tb) env P := fun F H σ o De E =>
  h F0 H0 F H σ o _ fun v F1 H1 w1 n1 d1 => by
    cases d1
    refine ⟨z, rfl, hz, for_it RS.walk_rs (fun k σ' H' => ∃ e F', I k e ∧ Ok K T F0 H0 F' H' σ' e ∧ Ex F1 F') ⟨env, F1, h0, o.step w1 n1, Ex.refl F1⟩ (fun _ _ _ _ _ => trivial) (fun k v σ' H' H'' hk ⟨e, F', p, o', x⟩ hy => ?_) (fun σ' H' ⟨e, F', p, o', x⟩ => E.nx e F' H' σ' (hd e p) o' (n1.exF.trans x))⟩
    obtain ⟨rfl, c, hc, rfl⟩ := hy
    exact hs k c e hk hc p F' _ _ (o'.set (.str _)) _ ⟨fun e2 F2 H2 σ2 p2 o2 x2 => ⟨e2, F2, p2, o2, x.trans x2⟩, E.rt, fun e2 F2 H2 σ2 p2 o2 x2 => E.nx e2 F2 H2 σ2 p2 o2 ((n1.exF.trans x).trans x2), fun e2 F2 H2 σ2 p2 o2 x2 => ⟨e2, F2, p2, o2, x.trans x2⟩, E.rtE⟩
end
end DL
set_option Elab.async false
set_option linter.all false
set_option maxRecDepth 100000
set_option maxHeartbeats 2000000
/-! The mathematics that several laws' own words share. -/
namespace DL
open PySem PySem.Spec PyProof.Rows L2
open Evl (Ex)
def cellAt (ns : List Int) (k : Nat) : Int := ns.getD k 0
def shr (c : Int) : Nat → Int
  | 0 => c
  | k + 1 => shr c k / 2
theorem shr_succ (c : Int) (k : Nat) : shr c (k + 1) = shr c k / 2 := rfl
/-- the first k binary figures, from the lowest on -/
def bitsOf (c : Int) (k : Nat) : List Bool := (List.range k).map fun i => decide (shr c i % 2 = 1)
theorem bitsOf_len (c : Int) (k : Nat) : (bitsOf c k).length = k := by simp [bitsOf]
theorem bitsOf_succ (c : Int) (k : Nat) : bitsOf c (k + 1) = bitsOf c k ++ [decide (shr c k % 2 = 1)] := by simp [bitsOf, List.range_succ]
/-- setters: f of an even figure, o of an odd one -/
def signOf (c : Int) : Nat := if c % 2 = 0 then 102 else 111
def signs (c : Int) (k : Nat) : List Nat := (List.range k).map fun i => signOf (shr c i)
theorem signs_len (c : Int) (k : Nat) : (signs c k).length = k := by simp [signs]
theorem signs_succ (c : Int) (k : Nat) : signs c (k + 1) = signs c k ++ [signOf (shr c k)] := by simp [signs, List.range_succ]
def Fo (l : List Nat) : Prop := ∀ c ∈ l, c = 102 ∨ c = 111
theorem signs_fo (c : Int) (k : Nat) : Fo (signs c k) := fun x hx => by
  obtain ⟨i, _, rfl⟩ := List.mem_map.mp hx
  unfold signOf
  split
  · exact .inl rfl
  · exact .inr rfl
/-- a text of these signs -/
def txt (l : List Nat) : Str := ⟨l.toArray⟩
theorem txt_len (l : List Nat) : (txt l).length = l.length := rfl
theorem txt_app (l m : List Nat) : txt l ++ txt m = txt (l ++ m) := by
  show (⟨(⟨l⟩ : Array Nat) ++ (⟨m⟩ : Array Nat)⟩ : Str) = _
  simp [txt]
theorem txt_one (c : Nat) : (⟨#[c]⟩ : Str) = txt [c] := rfl
theorem txt_inj {l m : List Nat} (h : txt l = txt m) : l = m := by
  have e : (txt l).cps = (txt m).cps := congrArg Str.cps h
  exact Array.mk.inj e
theorem txt_eq (l m : List Nat) : decide (txt l = txt m) = decide (l = m) := decide_eq_decide.mpr ⟨txt_inj, fun e => e ▸ rfl⟩
theorem txt_size (l : List Nat) : (txt l).cps.size = l.length := rfl
theorem txt_at (l : List Nat) (i : Nat) : (txt l).cps[i]? = l[i]? := by simp [txt]
theorem cut_from (l : List Nat) (k : Nat) : cutS (txt l) (some (k : Int)) none = txt (l.drop k) := by
  have h := sl_from l k
  show (⟨_⟩ : Str) = ⟨_⟩
  rw [← h]
  rfl
theorem str_f : Str.ofString "f" = txt [102] := by decide +kernel
theorem str_o : Str.ofString "o" = txt [111] := by decide +kernel
theorem str_fo : Str.ofString "fo" = txt [102, 111] := by decide +kernel
/-! shapes of tuples that nest -/
theorem shaped_iff {d : D} : SeqAt.shaped d = true ↔ (PyData.canLay0 d = true ∧ PyData.depth d ≤ 64) := by unfold SeqAt.shaped; simp
end DL
set_option Elab.async false
set_option linter.all false
set_option maxRecDepth 100000
set_option maxHeartbeats 2000000
/-! Objects that stay (dicts), lists the def has made, comprehensions over a range, in over a list. -/
namespace DL
open PySem PySem.Spec PyProof.Rows L2
open Evl (Ex)
section
variable (K : PySem.W.Frag) (T : List Addr)
def EvX (te : TE) (env : List Sl) (u : HO) : Prop := ∀ F0 H0 F H σ, Ok K T F0 H0 F H σ env → ∀ Q : VK, (∀ a F' H', Wk T F' H' → Nx T F H F' H' → F' a = some u → Q (.ref a) H') → te σ H Q
end
section
variable {K : PySem.W.Frag} {T : List Addr} {F0 H0 : Hp} {env : List Sl} {P : Po} {te ta tb tl : TE} {tt : TT} {t : TS} {i j : Nat} {u : HO} {xs : List D}
theorem s_asgX (h : EvX K T te env u) (k : P.nx (env.set i (.obj u))) : StD K T F0 H0 (tAsg te (gName i)) env P := fun F H σ o De E =>
  h F0 H0 F H σ o _ fun a F1 H1 w1 n1 d1 => E.nx _ F1 H1 _ k ((o.step w1 n1).put rfl ⟨a, rfl, d1⟩) n1.exF
theorem s_asgL (h : EvL K T te env xs) (k : P.nx (env.set i (.lst xs))) : StD K T F0 H0 (tAsg te (gName i)) env P := fun F H σ o De E =>
  h F0 H0 F H σ o _ fun a vs F1 H1 w1 n1 e1 d1 => E.nx _ F1 H1 _ k ((o.step w1 n1).put rfl ⟨a, vs, rfl, e1, d1⟩) n1.exF
theorem l_var (h : env[i]? = some (.lst xs)) : EvL K T (tVar i) env xs := fun F0 H0 F H σ o Q q => by
  obtain ⟨a, vs, e, ha, hd⟩ := o.sl i _ h
  exact ⟨_, e, q a vs F H o.wk (Nx.refl T F H) ha hd⟩
theorem t_yes : EvT K T tYes env true := fun F0 H0 F H σ o Q q => q F H o.wk (Nx.refl T F H)
/-! rules whose word names the frame itself, for blocks within a def -/
def rLenK (K : PySem.W.Frag) : List V → Hp → VK → Prop := fun xs H Q => ∃ p ys, xs = [V.ref p] ∧ (SqL K H p ys ∨ SqT K H p ys) ∧ Q (.int ys.length) H
theorem call_lenK {X : Cx} {K : PySem.W.Frag} (h : X.K = K) : CallR X (.builtin "len") (rLenK K) := by
  subst h
  exact call_len_seq
def rListK (K : PySem.W.Frag) : List V → Hp → VK → Prop := fun xs H Q => ∃ p ys, xs = [V.ref p] ∧ (SqL K H p ys ∨ SqT K H p ys) ∧ ∀ l, H l = none → Q (.ref l) (upd H l (.lst ys))
theorem call_listK {X : Cx} {K : PySem.W.Frag} (h : X.K = K) : CallR X (.type "list") (rListK K) := by
  subst h
  exact call_list_of
theorem ix_listK {X : Cx} {K : PySem.W.Frag} (h : X.K = K) : IxR X (rIxL K) := by
  subst h
  exact ix_list
theorem ix_tupK {X : Cx} {K : PySem.W.Frag} (h : X.K = K) : IxR X (rIxT K) := by
  subst h
  exact ix_tup
/-! comprehensions -/
/-- every item gives one -/
theorem d_map {ds : List D} (f : D → D) (h : EvD K T tl env (.list ds)) (hl : ds.length < sizeLine) (hs : ∀ (k : Nat) d, ds[k]? = some d → EvD K T te ((env.set j .no).set j (.dat d)) (f d)) :
    EvD K T (tLc (iList K tl) (gName j) tYes te [j]) env (.list (ds.map f)) := by
  have q := d_lc (tt := tYes) (fun d => some (f d)) h hl fun k d hk => ⟨true, t_yes, nofun, fun _ => ⟨_, rfl, hs k d hk⟩⟩
  rw [show (fun d => some (f d)) = some ∘ f from rfl, List.filterMap_eq_map] at q
  exact q
/-- over a range -/
theorem d_mapR {ta : TA} {n : Nat} (f : Nat → D) (h : EvA K T ta env [.int (n : Int)]) (hn : n ≤ 100000) (hs : ∀ k, k < n → EvD K T te ((env.set j .no).set j (.dat (.int (k : Int)))) (f k)) :
    EvD K T (tLc (iRng1 ta) (gName j) tYes te [j]) env (.list ((List.range n).map f)) := fun F0 H0 F H σ o Q q =>
  h F0 H0 F H σ o _ fun vs F1 H1 w1 n1 d1 => by
    cases d1 with
    | cons h1 t =>
      cases t; cases h1
      refine ⟨(n : Int), rfl, by omega, by omega, fun Dl hD => ?_⟩
      rw [Int.toNat_natCast]
      refine lc_it walk_range (fun k H' => ∃ F' vs, Wk T F' H' ∧ Nx T F1 H1 F' H' ∧ F' Dl = none ∧ H' Dl = some (.lst vs) ∧ DpAll K F' vs ((List.range k).map f) ∧ vs.length = k) ⟨F1, [], w1.mine hD, ⟨Ex.refl F1, fun b u e t => by rw [upd_ne (ne_of_none e hD)]; exact e, fun _ _ _ n => n⟩, w1.noF hD, upd_same, .nil, rfl⟩ (fun _ _ _ _ => trivial)
        (fun k x H' H'' hk ⟨F', vs, w', n', f', e', hv, hz⟩ hy => ?_) (fun H' ⟨F', vs, w', n', f', e', hv, hz⟩ => ?_)
      · obtain ⟨rfl, rfl⟩ := hy
        refine ⟨wipe_one, ?_⟩
        have hT := w1.notT hD
        have e0 : (0 : Int) + (k : Int) = (k : Int) := Int.zero_add _
        have hs1 := hs k hk
        rw [← e0] at hs1
        have o1 := (((o.step w1 n1).step w' n').wipe (i := j) none).set (i := j) (Dp.int (K := K) (H := F') ((0 : Int) + (k : Int)))
        refine t_yes F0 H0 F' _ _ o1 _ fun F2 H2 w2 n2 => iteT (hs1 F0 H0 F2 _ _ (o1.step w2 n2) _ fun y F3 H3 w3 n3' d3 => ?_)
        have n3 := n2.trans w2 n3'
        have e3 := n3.exH Dl _ e' hT
        have f3 := n3.own Dl _ e' f'
        have n13 := n'.trans w' n3
        refine ⟨vs, e3, line_lt (by omega), F3, vs ++ [y], w3.write f3 hT, ⟨n13.exF, fun b u e t => ?_, fun b u e n => n13.own b u e n⟩, f3, upd_same, ?_, by rw [List.length_append, hz]; rfl⟩
        · rw [upd_ne (ne_of_none e hD)]
          exact n13.exH b u e t
        · rw [List.range_succ, List.map_append]
          exact dps_app (dps_mono n3.exF _ _ hv) (.cons d3 .nil)
      · have hT := w1.notT hD
        have ex : Ex F' (upd F' Dl (.lst vs)) := Ex.new f'
        have nn := n1.trans w1 n'
        refine q (.ref Dl) (upd F' Dl (.lst vs)) H' (w'.freeze hT e') ⟨nn.exF.trans ex, nn.exH, fun c u e n => ?_⟩ (.lst (.inl (.inl upd_same)) (dps_mono ex _ _ hv))
        have hc : c ≠ Dl := fun z => by
          rw [z] at e
          rw [n1.exH Dl u e hT] at hD
          cases hD
        rw [upd_ne hc]
        exact nn.own c u e n
/-- the dict of ints that a comprehension makes -/
def dcOf (kf vf : D → Int) (ds : List D) : List (Key × V) := ds.foldl (fun acc d => putK acc (.inl (kf d)) (.int (vf d))) []
theorem dcOf_succ {kf vf : D → Int} {ds : List D} {k : Nat} {d : D} (h : ds[k]? = some d) : dcOf kf vf (ds.take (k + 1)) = putK (dcOf kf vf (ds.take k)) (.inl (kf d)) (.int (vf d)) := by
  unfold dcOf
  rw [List.take_add_one, h, List.foldl_append]
  rfl
theorem x_dc {ds : List D} {tk tv : TE} (kf vf : D → Int) (h : EvD K T tl env (.list ds)) (hl : ds.length < sizeLine)
    (hk : ∀ (k : Nat) d, ds[k]? = some d → EvD K T tk ((env.set j .no).set j (.dat d)) (.int (kf d))) (hv : ∀ (k : Nat) d, ds[k]? = some d → EvD K T tv ((env.set j .no).set j (.dat d)) (.int (vf d))) :
    EvX K T (tDc (iList K tl) (gName j) tYes tk tv [j]) env (.dK (dcOf kf vf ds)) := fun F0 H0 F H σ o Q q =>
  h F0 H0 F H σ o _ fun v F1 H1 w1 n1 d1 => by
    cases d1 with
    | @lst a xs _ hsq hdd =>
      have hxl := dps_len hdd
      refine ⟨a, rfl, ⟨xs, Evl.ex_l w1.sub hsq⟩, fun Dl hD => ?_⟩
      have hT := w1.notT hD
      have W := walk_list (K := K) (a := a) (xs := xs)
      let Pv : Nat → Hp → Prop := fun k H' => ∃ F', Wk T F' H' ∧ Nx T F1 H1 F' H' ∧ F' Dl = none ∧ H' Dl = some (.dK (dcOf kf vf (ds.take k))) ∧ (dcOf kf vf (ds.take k)).length ≤ k
      refine ⟨fun k m H' => m = xs.length - k ∧ k ≤ xs.length ∧ Pv k H', ⟨xs.length, by simp, Nat.zero_le _, F1, w1.mine hD, ⟨Ex.refl F1, fun b u e t => by rw [upd_ne (ne_of_none e hD)]; exact e, fun _ _ _ n => n⟩, w1.noF hD, upd_same, Nat.zero_le _⟩, ?_⟩
      rintro k m H' ⟨rfl, hkl, F', w', n', f', e', hz⟩
      have qs : SqL K H' a xs := Evl.ex_l (n'.exF.trans w'.sub) hsq
      by_cases hlt : k < xs.length
      · refine .inr ⟨W.goes k H' hlt qs, Pv (k + 1), fun H2 p2 => ⟨xs.length - (k + 1), by omega, rfl, hlt, p2⟩, fun x H2 y2 => ?_⟩
        obtain ⟨rfl, hx⟩ := W.yields k H' x H2 hlt qs y2
        refine ⟨wipe_one, ?_⟩
        obtain ⟨d, hd1, hx⟩ := dps_getV hdd hx
        have o1 := (((o.step w1 n1).step w' n').wipe (i := j) none).set (i := j) (dp_mono n'.exF _ _ hx)
        refine t_yes F0 H0 F' _ _ o1 _ fun F1' H1' w1' n1' => iteT (hk k d hd1 F0 H0 F1' _ _ (o1.step w1' n1') _ fun y F2 H2 w2 n2' d2 => ?_)
        cases d2
        have n2 := n1'.trans w1' n2'
        refine hv k d hd1 F0 H0 F2 H2 _ (o1.step w2 n2) _ fun z F3 H3 w3 n3 d3 => ?_
        cases d3
        have n23 := n2.trans w2 n3
        have e3 := n23.exH Dl _ e' hT
        have f3 := n23.own Dl _ e' f'
        have n13 := n'.trans w' n23
        refine ⟨_, .inl (kf d), rfl, e3, Nat.lt_of_le_of_lt hz (by omega), F3, w3.write f3 hT, ⟨n13.exF, fun b u e t => ?_, fun b u e n => n13.own b u e n⟩, f3, ?_, ?_⟩
        · rw [upd_ne (ne_of_none e hD)]
          exact n13.exH b u e t
        · rw [upd_same, dcOf_succ hd1]
        · rw [dcOf_succ hd1]
          have := length_putK (dcOf kf vf (ds.take k)) (.inl (kf d) : Key) (.int (vf d))
          omega
      · have e : k = xs.length := by omega
        subst e
        rw [hxl, List.take_length] at e'
        refine .inl ⟨W.stops H' qs, ?_⟩
        have ex : Ex F' (upd F' Dl (.dK (dcOf kf vf ds))) := Ex.new f'
        have nn := n1.trans w1 n'
        refine q Dl (upd F' Dl (.dK (dcOf kf vf ds))) H' (w'.freeze hT e') ⟨nn.exF.trans ex, nn.exH, fun c u e n => ?_⟩ upd_same
        have hc : c ≠ Dl := fun z => by
          rw [z] at e
          rw [n1.exH Dl u e hT] at hD
          cases hD
        rw [upd_ne hc]
        exact nn.own c u e n
/-- sorted(d), d a dict of ints -/
theorem d_sortedV {kvs : List (Key × V)} {ks ys : List Int} (h : env[i]? = some (.obj (.dK kvs))) (hk : kvs.map (·.1) = ks.map Sum.inl) (h64 : ks.length < 64) (hy : ∀ zs : List Int, zs.Perm ks → zs.Pairwise (· ≤ ·) → zs = ys) :
    EvD K T (tCB (fun xs H Q => ∃ (a : Addr) (kvs : List (Key × V)) (ks : List Int), xs = [.ref a] ∧ Rd H a (.dK kvs) ∧ kvs.map (·.1) = ks.map Sum.inl ∧ ks.length < 64 ∧ ∀ (ys : List Int) (p : Addr), ys.Perm ks → ys.Pairwise (· ≤ ·) → H p = none → Q (.ref p) (upd H p (.lst (ys.map V.int)))) (tCons (tVar i) tNil)) env (dInts ys) := fun F0 H0 F H σ o Q q => by
  obtain ⟨a, e, ha⟩ := o.sl i _ h
  refine ⟨_, e, a, kvs, ks, rfl, .inl (o.wk.sub _ _ ha), hk, h64, fun zs p h1 h2 hp => ?_⟩
  obtain rfl := hy zs h1 h2
  exact q _ (upd F p (.lst (zs.map V.int))) _ (o.wk.new hp) (Nx.new o.wk hp) (.lst (.inl (.inl upd_same)) (ints_dps zs))
/-- d[k], there -/
theorem d_dget {kvs : List (Key × V)} {k v : Int} (h : env[i]? = some (.obj (.dK kvs))) (hk : EvD K T te env (.int k)) (hv : valV kvs (.inl k) = some (.int v)) : EvD K T (tDGet (tVar i) te) env (.int v) := fun F0 H0 F H σ o Q q => by
  obtain ⟨a, e, ha⟩ := o.sl i _ h
  refine ⟨_, e, hk F0 H0 F H σ o _ fun y F1 H1 w1 n1 d1 => ?_⟩
  cases d1
  refine ⟨a, .int v, rfl, ?_, q _ F1 H1 w1 n1 (.int v)⟩
  rw [← hv]
  exact DGet.k (k := .inl k) (w1.sub _ _ (n1.exF _ _ ha))
/-- i in a list of ints -/
theorem r_inI {n : Int} {ns : List Int} : ROp K T (rIn K false) (.int n) (dInts ns) (.bool (decide (n ∈ ns))) := fun F H a b w ha hb Q q => by
  cases ha
  cases hb with
  | @lst p xs _ hs hd =>
    have e := dps_ints hd
    subst e
    have e1 : inV (.int n) (ns.map V.int) = decide (n ∈ ns) := by
      unfold inV
      rw [List.any_map, Bool.eq_iff_iff, List.any_eq_true, decide_eq_true_iff]
      constructor
      · rintro ⟨m, hm, e⟩
        have e : m = n := by simpa [eqV] using e
        exact e ▸ hm
      · intro hn
        exact ⟨n, hn, by simp [eqV]⟩
    refine ⟨p, _, rfl, .inl (Evl.ex_l w.sub hs), rfl, ?_, ?_⟩
    · rw [List.all_map, List.all_eq_true]
      intro m _
      rfl
    · rw [if_neg Bool.false_ne_true, e1]
      exact q _ F H w (Nx.refl T F H) (.bl _)
end
end DL
set_option Elab.async false
set_option linter.all false
set_option maxRecDepth 100000
set_option maxHeartbeats 2000000
/-! Defs that raise, over data; try .. except .. as; f-strings; zip. -/
namespace DL
open PySem PySem.Spec PyProof.Rows L2
open Evl (Ex)
/-- what a call comes to: data, or an error of the class at c -/
inductive Res where
  | ok (d : D)
  | bad (c : Addr)
def PrX (K : PySem.W.Frag) (T : List Addr) (G : List D → Res → Prop) : Sp := fun vs H Q E => ∃ F ds r, Wk T F H ∧ DpAll K F vs ds ∧ G ds r ∧ (∀ d, r = .ok d → ∀ v F' H', Wk T F' H' → Nx T F H F' H' → Dp K F' v d → Q v H') ∧
  ∀ c, r = .bad c → ∀ F' H', Wk T F' H' → Nx T F H F' H' → E (.ref c) none H'
def GX {α : Type} (arg : α → List D) (pre : α → Prop) (out : α → Res) : List D → Res → Prop := fun ds r => ∃ x, ds = arg x ∧ pre x ∧ r = out x
section
variable {P : Program} {w : World} {K : PySem.W.Frag} {mg : Str → Option Value} {base : Heap} {T : List Addr}
theorem fn_gfX {x qual : Str} {st : Stmt} {f : Addr} {fd : FuncData} {N ps : List Str} {k : Nat} {α : Type} {arg : α → List D} {pre : α → Prop} {out : α → Res} (F : Fun K x qual st f fd) (S : FnScope N ps (defScope st)) (len : ∀ x, (arg x).length = ps.length)
    (hbody : ∀ (cdv : Value) (A : Around) (outer : List Env) (s : Shared) (H : Hp) (E : XK), Room k (A.deeper (envOfC qual (defScope st) s.heap.objs.size f cdv)) →
      ∃ t, PSs (cxOf (L2.CX P w) P w K mg base N qual (defScope st) f cdv A outer s H E) (defBody st) t ∧ ∀ F0 x, pre x → (∀ c, out x = .bad c → ∀ F' H', Wk T F' H' → Nx T F0 H F' H' → E (.ref c) none H') →
        StD K T F0 H t (envOf N (arg x)) { nx := fun _ => out x = .ok .none, rt := fun d' => out x = .ok d' }) :
    FnOk P w K mg base (L2.CX P w) (k + 1) f fd ps (PrX K T (GX arg pre out)) := by
  refine F.okX S (fun vs H Q E ⟨F, ds, r, _, hd, ⟨x, e, _, _⟩, _⟩ => by rw [dps_len hd, e]; exact len x) (fun cdv A outer s H vs Q E hr h => ?_)
  obtain ⟨F0, ds, r, wk, hd, ⟨x, rfl, hp, rfl⟩, q, qx⟩ := h
  obtain ⟨t, ht, hst⟩ := hbody cdv A outer s H E hr
  refine ⟨t, ht, hst F0 x hp (fun c hc F' H' w' n' => qx c hc F' H' w' n') F0 H _ (ok_start wk hd) _ ⟨fun e F' H' σ' p o _ => ?_, fun d' v F' H' p w' n' hv => q d' p v F' H' w' n' hv, fun _ _ _ _ p _ _ => False.elim p, fun _ _ _ _ p _ _ => False.elim p, fun _ _ _ _ _ _ p _ _ => False.elim p⟩⟩
  exact q .none p .non F' H' o.wk o.nx .non
end
section
variable {K : PySem.W.Frag} {T : List Addr} {F0 H0 : Hp} {env : List Sl} {P : Po} {te tx : TE} {ta : TA} {i j : Nat} {d : D} {G : List D → Res → Prop} {xs ys : List D}
/-- a call that raises nothing -/
theorem d_callX {E : XK} {z : D} (ha : EvA K T ta env xs) (hG : G xs (.ok z)) : EvD K T (tCall (PrX K T G) [] E ta) env z := fun F0 H0 F H σ o Q q =>
  ha F0 H0 F H σ o _ fun v F1 H1 w1 n1 d1 => by
    show PrX K T G (v ++ []) H1 Q E
    rw [List.append_nil]
    exact ⟨F1, xs, _, w1, d1, hG, fun d e v3 F3 H3 w3 n3 d3 => by cases e; exact q v3 F3 H3 w3 (n1.trans w1 n3) d3, nofun⟩
/-- an expression whose value is not asked for -/
def EvN (K : PySem.W.Frag) (T : List Addr) (te : TE) (env : List Sl) : Prop := ∀ F0 H0 F H σ, Ok K T F0 H0 F H σ env → ∀ Q : VK, (∀ v F' H', Wk T F' H' → Nx T F H F' H' → Q v H') → te σ H Q
theorem n_d (h : EvD K T te env d) : EvN K T te env := fun F0 H0 F H σ o Q q => h F0 H0 F H σ o Q fun v F' H' w n _ => q v F' H' w n
theorem s_raise {E : XK} {C : Addr} (h : EvN K T te env) (hE : ∀ F' H', Wk T F' H' → Nx T F0 H0 F' H' → E (.ref C) none H') : StD K T F0 H0 (fun _ σ H => te σ H fun _ H1 => E (.ref C) none H1) env P := fun F H σ o De _ =>
  h F0 H0 F H σ o _ fun v F1 H1 w1 n1 => hE F1 H1 w1 (o.nx.trans o.wk n1)
/-- except X as n: the body one call -/
theorem s_try {r : Res} {c : Value} {ts : Addr → Value → Option Addr → TS} {Wout : WX} (ha : EvA K T ta env xs) (hG : G xs r) (h1 : ∀ d, r = .ok d → P.nx env)
    (h2 : ∀ cl, r = .bad cl → PySem.W.exmOne K (.ref cl) c = some true ∧ ∀ a, StD K T F0 H0 (ts a (.ref cl) none) (env.set i (.val (.ref a))) { nx := fun e => P.nx (e.set i .no), rt := P.rt, bk := fun e => P.bk (e.set i .no), ct := fun e => P.ct (e.set i .no), rtE := P.rtE }) :
    StD K T F0 H0 (fun De σ H => tDrop (tCallS (PrX K T G) (WE (wAs K c i ts Wout De)) ta) De σ H) env P := fun F H σ o De En =>
  ha F0 H0 F H σ o _ fun v F1 H1 w1 n1 d1 => by
    refine ⟨F1, xs, r, w1, d1, hG, fun d e v3 F3 H3 w3 n3 d3 => En.nx env F3 H3 σ (h1 d e) (o.step w3 (n1.trans w1 n3)) (n1.trans w1 n3).exF, fun cl e F3 H3 w3 n3 => ?_⟩
    obtain ⟨hx, hs⟩ := h2 cl e
    have n13 := n1.trans w1 n3
    refine ⟨true, hx, fun _ a _ => ?_, nofun⟩
    have o3 := (o.step w3 n13).put (i := i) (v := .ref a) (x := .val (.ref a)) rfl rfl
    exact hs a F3 H3 _ o3 _ ⟨fun e F' H' σ' p o' x => En.nx _ F' H' _ p (o'.wipe none) (n13.exF.trans x), En.rt, fun e F' H' σ' p o' x => En.bk _ F' H' _ p (o'.wipe none) (n13.exF.trans x), fun e F' H' σ' p o' x => En.ct _ F' H' _ p (o'.wipe none) (n13.exF.trans x), En.rtE⟩
/-- isinstance of the error that the suite holds -/
theorem d_isE {D a : Addr} {c : V} {cv : Value} {b : Bool} (hi : env[i]? = some (.val (.ref a))) (hk : PySem.W.kitOne K (.ref D) cv = some b) (hc : ∀ u, RelV c u → u = cv) : EvD K T (tCB (rIsE K D a) (tCons (tVar i) (tCons (tC c) tNil))) env (.bool b) := fun F0 H0 F H σ o Q q =>
  ⟨_, o.sl i _ hi, c, cv, b, rfl, hc, hk, q _ F H o.wk (Nx.refl T F H) (.bl b)⟩
theorem exm_own {t : Value} {S : Addr} {b : Bool} (h1 : PySem.W.subIn K (.ref S) (.type "BaseException") = some true) (h2 : PySem.W.isClsIn K S = true) (h3 : PySem.W.typeIn K (.ref S) = some (.type "type")) (h4 : PySem.W.subIn K t (.ref S) = some b) : PySem.W.exmOne K t (.ref S) = some b := by
  have e2 : ((PySem.W.clsIn K S).isSome && PySem.W.typeIn K (.ref S) == some (.type "type")) = true := by
    rw [show (PySem.W.clsIn K S).isSome = true from h2, h3]; rfl
  unfold PySem.W.exmOne
  rw [h1, if_pos (by rfl)]
  unfold PySem.W.kitCls
  show (if _ then _ else none) = _
  rw [if_pos e2]
  exact h4
theorem kit_own {Dr S : Addr} {b : Bool} (h2 : PySem.W.isClsIn K S = true) (h3 : PySem.W.typeIn K (.ref S) = some (.type "type")) (h4 : PySem.W.subIn K (.ref Dr) (.ref S) = some b) (h5 : PySem.W.subIn K (.ref Dr) (.ref Dr) = some true) : PySem.W.kitOne K (.ref Dr) (.ref S) = some b := by
  have e2 : ((PySem.W.clsIn K S).isSome && PySem.W.typeIn K (.ref S) == some (.type "type")) = true := by
    rw [show (PySem.W.clsIn K S).isSome = true from h2, h3]; rfl
  unfold PySem.W.kitOne
  by_cases e : ((Value.ref Dr) == (Value.ref S)) = true
  · rw [if_pos e]
    have e1 : Value.ref Dr = Value.ref S := by simpa using e
    rw [← e1, h5] at h4
    exact h4
  · rw [if_neg e]
    unfold PySem.W.kitCls
    show (if _ then _ else none) = _
    rw [if_pos e2]
    exact h4
theorem kit_type {Dr : Addr} {X : String} {b : Bool} (hm : PySem.W.kitMeta X = true) (h4 : PySem.W.subIn K (.ref Dr) (.type X) = some b) : PySem.W.kitOne K (.ref Dr) (.type X) = some b := by
  unfold PySem.W.kitOne
  rw [if_neg (by simp)]
  unfold PySem.W.kitCls
  show (if _ then _ else none) = _
  rw [if_pos hm]
  exact h4
/-! f'..' -/
def JsD (K : PySem.W.Frag) (T : List Addr) (env : List Sl) : List TE → Str → Prop
  | [], _ => True
  | t :: ts, acc => ∃ y : Str, EvD K T t env (.str y) ∧ (acc ++ y).length ≤ sizeLine ∧ JsD K T env ts (acc ++ y)
theorem js_run : ∀ (ts : List TE) (acc : Str), JsD K T env ts acc → ∀ F0 H0 F H σ, Ok K T F0 H0 F H σ env → ∀ Q : Str → Hp → Prop, (∀ z F' H', Wk T F' H' → Nx T F H F' H' → Q z H') → tJs ts acc σ H Q
  | [], acc, _, F0, H0, F, H, σ, o, Q, q => q acc F H o.wk (Nx.refl T F H)
  | t :: ts, acc, ⟨y, h, hl, r⟩, F0, H0, F, H, σ, o, Q, q => h F0 H0 F H σ o _ fun v F1 H1 w1 n1 d1 => by
    cases d1
    exact ⟨y, rfl, hl, js_run ts (acc ++ y) r F0 H0 F1 H1 σ (o.step w1 n1) Q fun z F2 H2 w2 n2 => q z F2 H2 w2 (n1.trans w1 n2)⟩
theorem n_join {ts : List TE} (h : JsD K T env ts Str.empty) : EvN K T (fun σ H Q => tJs ts Str.empty σ H fun out H1 => Q (.str out) H1) env := fun F0 H0 F H σ o Q q =>
  js_run ts Str.empty h F0 H0 F H σ o _ fun z F' H' w n => q _ F' H' w n
theorem d_fmtI {n : Int} (h : EvD K T te env (.int n)) (hn : n.natAbs.log2 < 1920) : EvD K T (tFmt te) env (.str (toString n)) := fun F0 H0 F H σ o Q q =>
  h F0 H0 F H σ o _ fun v F1 H1 w1 n1 d1 => by
    cases d1
    exact .inr ⟨n, rfl, hn, q _ F1 H1 w1 n1 (.str _)⟩
/-! zip of two lists -/
theorem s_forZ {tb : TS} (h : EvA K T ta env [.list xs, .list ys]) (I : Nat → List Sl → Prop) (h0 : I 0 env)
    (hs : ∀ (k : Nat) d d2 e, xs[k]? = some d → ys[k]? = some d2 → I k e → StD K T F0 H0 tb ((e.set i (.dat d)).set j (.dat d2)) (P.turn (I (k + 1)))) (hd : ∀ e, I (min xs.length ys.length) e → P.nx e) :
    StD K T F0 H0 (tFor (RZ.iZipA K ta) (gTup K 2 (gCons (gName i) (gCons (gName j) gNil))) tb) env P := fun F H σ o De E =>
  h F0 H0 F H σ o _ fun vs F1 H1 w1 n1 d1 => by
    cases d1 with
    | cons h1 t =>
      cases t with
      | cons h2 t =>
        cases t
        cases h1 with
        | @lst a us _ ha hda =>
          cases h2 with
          | @lst b vs _ hb hdb =>
            refine ⟨a, b, us, vs, rfl, .inl ⟨Evl.ex_l w1.sub ha, Evl.ex_l w1.sub hb, ?_⟩⟩
            refine for_it (walk_zip (xs := us) (ys := vs) rfl) (fun k σ' H' => ∃ e F', I k e ∧ Ok K T F0 H0 F' H' σ' e ∧ Ex F1 F') ⟨env, F1, h0, o.step w1 n1, Ex.refl F1⟩ (fun k σ' H' _ ⟨e, F', _, o', x⟩ => ⟨Evl.ex_l (x.trans o'.wk.sub) ha, Evl.ex_l (x.trans o'.wk.sub) hb⟩) (fun k v σ' H' H'' hk ⟨e, F', p, o', x⟩ hy => ?_) (fun σ' H' ⟨e, F', p, o', x⟩ => ?_)
            · obtain ⟨Tt, y1, y2, rfl, hT, rfl, e1, e2⟩ := hy
              obtain ⟨d, hd1, hv1⟩ := dps_getV hda e1
              obtain ⟨d2, hd2, hv2⟩ := dps_getV hdb e2
              have w2 := o'.wk.new (o := .tup [y1, y2]) hT
              have n2 := Nx.new (o := .tup [y1, y2]) o'.wk hT
              have x2 := x.trans n2.exF
              refine ⟨Tt, [y1, y2], rfl, .inl (.inl upd_same), rfl, y1, [y2], rfl, y2, [], rfl, rfl, ?_⟩
              exact hs k d d2 e hd1 hd2 p _ _ _ (((o'.step w2 n2).set (dp_mono x2 _ _ hv1)).set (dp_mono x2 _ _ hv2)) _ ⟨fun e2 F2 H2 σ2 p2 o2 x3 => ⟨e2, F2, p2, o2, x2.trans x3⟩, E.rt, fun e2 F2 H2 σ2 p2 o2 x3 => E.nx e2 F2 H2 σ2 p2 o2 ((n1.exF.trans x2).trans x3), fun e2 F2 H2 σ2 p2 o2 x3 => ⟨e2, F2, p2, o2, x2.trans x3⟩, E.rtE⟩
            · rw [dps_len hda, dps_len hdb] at p
              exact E.nx e F' H' σ' (hd e p) o' (n1.exF.trans x)
end
end DL
namespace DL
open PySem PySem.Spec PyProof.Rows L2
/-- as call_isE, the class and the dict told by the way in -/
def rIsG (K : PySem.W.Frag) (D a : Addr) (cls : Value) (d : Option Addr) : List V → Hp → VK → Prop := fun xs H Q => cls = .ref D ∧ d = none ∧ rIsE K D a xs H Q
theorem call_isG {X : Cx} {a D : Addr} {oe : Obj} {cls : Value} {d : Option Addr} {pn : List (Addr × Obj)} (C : ExcC X.K D) (hz : Zc cls d oe) (hf : ∃ vs, oe.data = .fields vs) : CallR (X.suite a ((a, oe) :: pn)) (.builtin "isinstance") (rIsG X.K D a cls d) := by
  intro pins s σ H xs us Q I r h
  obtain ⟨rfl, rfl, h⟩ := h
  exact call_isE C hz hf pins s σ H xs us Q I r h
section
variable {K : PySem.W.Frag} {T : List Addr} {env : List Sl} {i : Nat}
theorem d_isG {D a : Addr} {c : V} {cv : Value} {b : Bool} (hi : env[i]? = some (.val (.ref a))) (hk : PySem.W.kitOne K (.ref D) cv = some b) (hc : ∀ u, RelV c u → u = cv) : EvD K T (tCB (rIsG K D a (.ref D) none) (tCons (tVar i) (tCons (tC c) tNil))) env (.bool b) := fun F0 H0 F H σ o Q q =>
  ⟨_, o.sl i _ hi, rfl, rfl, c, cv, b, rfl, hc, hk, q _ F H o.wk (Nx.refl T F H) (.bl b)⟩
end
end DL
set_option Elab.async false
set_option linter.all false
set_option maxRecDepth 100000
set_option maxHeartbeats 2000000
/-! More rules: + of any two lists, a list that a call goes on filling, tuples' targets. -/
namespace DL
open PySem PySem.Spec PyProof.Rows L2
open Evl (Ex)
def rCatS (K : PySem.W.Frag) : R2 := fun x y H Q => ∃ l b xs zs, x = .ref l ∧ y = .ref b ∧ SqL K H l xs ∧ SqL K H b zs ∧ xs.length + zs.length ≤ sizeLine ∧ ∀ p, H p = none → Q (.ref p) (upd H p (.lst (xs ++ zs)))
theorem op_catS {X : Cx} : OpR X (binaryOp .Add) (rCatS X.K) := by
  intro pins s σ H x y v u Q I rx ry h
  obtain ⟨l, b, xs, zs, rfl, rfl, h1, h2, hz, q⟩ := h
  cases rx
  cases ry
  obtain ⟨its, r1, p1, _⟩ := I.list h1
  obtain ⟨its2, r2, p2, _⟩ := I.list h2
  have l1 := r1.length
  have l2 := r2.length
  obtain ⟨⟨c1, d1, t1, s1⟩, a1, a2, n1, a3⟩ := p1.isList
  obtain ⟨⟨c2, d2, t2, s2⟩, b1, b2, n2, b3⟩ := p2.isList
  simp only at a2 a3 b2 b3
  subst a2 a3 b2 b3
  have ea : its.toArray ++ its2.toArray = (its ++ its2).toArray := by simp
  refine concat_meets ⟨_, a1, rfl⟩ ⟨_, b1, rfl⟩ noFill_list_add seq_list_add PySem.F.slot_list_add PySem.F.entry_list_add (PySem.F.args_list_add_2 _ _) (list_addW l b its.toArray its2.toArray n1 n2 d1 d2 s1 s2 (by rw [List.size_toArray, List.size_toArray]; omega)) ⟨a1, b1, ?_⟩
  rw [ea]
  exact ⟨.ref _, _, I.lnew (t' := s.toks) (r1.append r2) (by rw [List.length_append]; omega), rfl, q _ I.fresh⟩
section
variable {K : PySem.W.Frag} {T : List Addr} {env : List Sl} {ta tb te : TE} {F0 H0 : Hp} {t : TS} {P : Po} {i j : Nat}
theorem l_catS {xs ys : List D} (ha : EvD K T ta env (.list xs)) (hb : EvD K T tb env (.list ys)) (hl : xs.length + ys.length ≤ sizeLine) : EvL K T (tOp (rCatS K) ta tb) env (xs ++ ys) := fun F0 H0 F H σ o Q q =>
  ha F0 H0 F H σ o _ fun v F1 H1 w1 n1 e1 => hb F0 H0 F1 H1 σ (o.step w1 n1) _ fun v2 F2 H2 w2 n2 e2 => by
    have e1 := dp_mono n2.exF _ _ e1
    cases e1 with
    | @lst a us _ ha hda =>
      cases e2 with
      | @lst b vs _ hb hdb =>
        exact ⟨a, b, us, vs, rfl, rfl, Evl.ex_l w2.sub ha, Evl.ex_l w2.sub hb, by rw [dps_len hda, dps_len hdb]; exact hl, fun p hp => q p (us ++ vs) (upd F2 p (.lst (us ++ vs))) _ (w2.new hp) ((n1.trans w1 n2).trans w2 (Nx.new w2 hp)) upd_same (dps_mono (Nx.new w2 hp).exF _ _ (dps_app hda hdb))⟩
theorem d_catS {xs ys : List D} (ha : EvD K T ta env (.list xs)) (hb : EvD K T tb env (.list ys)) (hl : xs.length + ys.length ≤ sizeLine) : EvD K T (tOp (rCatS K) ta tb) env (.list (xs ++ ys)) := l_d (l_catS ha hb hl)
end
end DL
namespace DL
open PySem PySem.Spec PyProof.Rows L2
open Evl (Ex)
/-- a def's promise that leaves the answer open within bounds -/
def PrR (K : PySem.W.Frag) (T : List Addr) (pre : List D → Prop) (post : List D → D → Prop) : Sp := fun vs H Q _ => ∃ F ds, Wk T F H ∧ DpAll K F vs ds ∧ pre ds ∧ ∀ d, post ds d → ∀ v F' H', Wk T F' H' → Nx T F H F' H' → Dp K F' v d → Q v H'
def RP {α : Type} (arg : α → List D) (p : α → Prop) : List D → Prop := fun ds => ∃ x, ds = arg x ∧ p x
def RQ {α : Type} (arg : α → List D) (p : α → Prop) (q : α → D → Prop) : List D → D → Prop := fun ds d => ∀ x, ds = arg x → p x → q x d
section
variable {P : Program} {w : World} {K : PySem.W.Frag} {mg : Str → Option Value} {base : Heap} {T : List Addr}
theorem fn_gfR {x qual : Str} {st : Stmt} {f : Addr} {fd : FuncData} {N ps : List Str} {k : Nat} {α : Type} {arg : α → List D} {p : α → Prop} {q : α → D → Prop} (F : Fun K x qual st f fd) (S : FnScope N ps (defScope st)) (len : ∀ x, (arg x).length = ps.length) (inj : ∀ x y, arg x = arg y → x = y)
    (hbody : ∀ (cdv : Value) (A : Around) (outer : List Env) (s : Shared) (H : Hp) (E : XK), Room k (A.deeper (envOfC qual (defScope st) s.heap.objs.size f cdv)) →
      ∃ t, PSs (cxOf CX0 P w K mg base N qual (defScope st) f cdv A outer s H E).nox (defBody st) t ∧ ∀ F0 H0 x, p x → StD K T F0 H0 t (envOf N (arg x)) { nx := fun _ => q x .none, rt := fun d => q x d }) :
    FnOk P w K mg base CX0 (k + 1) f fd ps (PrR K T (RP arg p) (RQ arg p q)) := by
  refine F.ok S (fun vs H Q E ⟨F, ds, _, hd, ⟨x, e, _⟩, _⟩ => by rw [dps_len hd, e]; exact len x) (fun cdv A outer s H vs Q E hr h => ?_)
  obtain ⟨F0, ds, wk, hd, ⟨x, rfl, hp⟩, hq⟩ := h
  obtain ⟨t, ht, hst⟩ := hbody cdv A outer s H E hr
  have out : ∀ d, q x d → RQ arg p q (arg x) d := fun d hd y e _ => inj x y e ▸ hd
  refine ⟨t, ht, hst F0 H x hp F0 H _ (ok_start wk hd) _ ⟨fun e F' H' σ' pp o _ => ?_, fun d' v F' H' pp w' n' hv => hq d' (out d' pp) v F' H' w' n' hv, fun _ _ _ _ p _ _ => False.elim p, fun _ _ _ _ p _ _ => False.elim p, fun _ _ _ _ _ _ p _ _ => False.elim p⟩⟩
  exact hq .none (out _ pp) .non F' H' o.wk o.nx .non
end
section
variable {K : PySem.W.Frag} {T : List Addr} {env : List Sl} {F0 H0 : Hp} {P : Po} {ta : TA} {i : Nat} {xs : List D}
/-- x = f(..), f's answer open within bounds -/
theorem s_asgR {α : Type} {arg : α → List D} {p : α → Prop} {q : α → D → Prop} {E : XK} {x : α} (ha : EvA K T ta env (arg x)) (hp : p x) (k : ∀ d, q x d → P.nx (env.set i (.dat d))) : StD K T F0 H0 (tAsg (tCall (PrR K T (RP arg p) (RQ arg p q)) [] E ta) (gName i)) env P := fun F H σ o De En =>
  ha F0 H0 F H σ o _ fun v F1 H1 w1 n1 d1 => by
    show PrR K T _ _ (v ++ []) H1 _ E
    rw [List.append_nil]
    exact ⟨F1, arg x, w1, d1, ⟨x, rfl, hp⟩, fun d hd v2 F2 H2 w2 n2 d2 => En.nx _ F2 H2 _ (k d (hd x rfl hp)) ((o.step w2 (n1.trans w1 n2)).set d2) (n1.trans w1 n2).exF⟩
end
end DL
namespace DL
open PySem PySem.Spec PyProof.Rows L2
theorem op_catSK {X : Cx} {K : PySem.W.Frag} (h : X.K = K) : OpR X (binaryOp .Add) (rCatS K) := by
  subst h
  exact op_catS
section
variable {K : PySem.W.Frag} {T : List Addr}
/-- i not in a list of ints -/
theorem r_notinI {n : Int} {ns : List Int} : ROp K T (rIn K true) (.int n) (dInts ns) (.bool (!decide (n ∈ ns))) := fun F H a b w ha hb Q q => by
  cases ha
  cases hb with
  | @lst p xs _ hs hd =>
    have e := dps_ints hd
    subst e
    have e1 : inV (.int n) (ns.map V.int) = decide (n ∈ ns) := by
      unfold inV
      rw [List.any_map, Bool.eq_iff_iff, List.any_eq_true, decide_eq_true_iff]
      constructor
      · rintro ⟨m, hm, e⟩
        have e : m = n := by simpa [eqV] using e
        exact e ▸ hm
      · intro hn
        exact ⟨n, hn, by simp [eqV]⟩
    refine ⟨p, _, rfl, .inl (Evl.ex_l w.sub hs), rfl, ?_, ?_⟩
    · rw [List.all_map, List.all_eq_true]
      intro m _
      rfl
    · rw [if_pos rfl, e1]
      exact q _ F H w (Nx.refl T F H) (.bl _)
end
end DL
namespace DL
open PySem PySem.Spec PyProof.Rows L2
section
variable {K : PySem.W.Frag} {T : List Addr} {env : List Sl} {te : TE} {tl th : TO}
/-- t[lo:hi], not the whole of t -/
theorem d_slT {ds cs : List D} {n : Nat} {lo hi : Option Int} (h : EvD K T te env (.tuple ds)) (h1 : EvO K T tl env lo) (h2 : EvO K T th env hi) (hl : ds.length = n) (hne : ¬ (HT.sIx n 0 lo = 0 ∧ HT.sIx n n hi = n)) (hc : (ds.drop (HT.sIx n 0 lo)).take (HT.sIx n n hi - HT.sIx n 0 lo) = cs) : EvD K T (tSl (rSlT K) te tl th) env (.tuple cs) := fun F0 H0 F H σ o Q q =>
  h F0 H0 F H σ o _ fun v F1 H1 w1 n1 d1 => h1 F0 H0 F1 H1 σ (o.step w1 n1) _ fun F2 H2 w2 n2 => h2 F0 H0 F2 H2 σ (o.step w2 (n1.trans w1 n2)) _ fun F3 H3 w3 n3 => by
    have d3 := dp_mono (n2.exF.trans n3.exF) _ _ d1
    cases d3 with
    | @tup a xs _ hs hd =>
      have hxl : xs.length = n := (dps_len hd).trans hl
      refine ⟨a, xs, rfl, Evl.ex_t w3.sub hs, by rw [hxl]; exact hne, fun p hp => q _ (upd F3 p (.tup (cutV xs lo hi))) _ (w3.new hp) ((n1.trans w1 (n2.trans w2 n3)).trans w3 (Nx.new w3 hp)) (.tup (.inl (.inl upd_same)) ?_)⟩
      unfold cutV
      rw [hxl, ← hc]
      exact dps_mono (Nx.new w3 hp).exF _ _ (dps_take _ (dps_drop _ hd))
end
end DL
namespace DL
open PySem PySem.Spec PyProof.Rows L2
open Evl (Ex)
section
variable {K : PySem.W.Frag} {T : List Addr} {env : List Sl} {te : TE} {tt : TT} {tl : TE} {j : Nat}
/-- a comprehension over a text -/
theorem d_lcS {z : Str} (G : Nat → Option D) (h : EvD K T tl env (.str z)) (hl : z.cps.size < sizeLine)
    (hs : ∀ (k c : Nat), z.cps.toList[k]? = some c → ∃ b, EvT K T tt ((env.set j .no).set j (.dat (.str ⟨#[c]⟩))) b ∧ (b = false → G c = none) ∧ (b = true → ∃ y, G c = some y ∧ EvD K T te ((env.set j .no).set j (.dat (.str ⟨#[c]⟩))) y)) :
    EvD K T (tLc (iStr tl) (gName j) tt te [j]) env (.list (z.cps.toList.filterMap G)) := fun F0 H0 F H σ o Q q =>
  h F0 H0 F H σ o _ fun v F1 H1 w1 n1 d1 => by
    cases d1
    refine ⟨z, rfl, fun Dl hD => lc_it walk_str (fun k H' => ∃ F' vs, Wk T F' H' ∧ Nx T F1 H1 F' H' ∧ F' Dl = none ∧ H' Dl = some (.lst vs) ∧ DpAll K F' vs ((z.cps.toList.take k).filterMap G) ∧ vs.length ≤ k) ⟨F1, [], w1.mine hD, ⟨Ex.refl F1, fun b u e t => by rw [upd_ne (ne_of_none e hD)]; exact e, fun _ _ _ n => n⟩, w1.noF hD, upd_same, .nil, Nat.zero_le _⟩ (fun _ _ _ _ => trivial) (fun k x H' H'' hk ⟨F', vs, w', n', f', e', hv, hz⟩ hy => ?_) (fun H' ⟨F', vs, w', n', f', e', hv, hz⟩ => ?_)⟩
    · obtain ⟨rfl, c, hc, rfl⟩ := hy
      refine ⟨wipe_one, ?_⟩
      have hc : z.cps.toList[k]? = some c := by rw [Array.getElem?_toList]; exact hc
      have hT := w1.notT hD
      have o1 := (((o.step w1 n1).step w' n').wipe (i := j) none).set (i := j) (Dp.str (K := K) (H := F') ⟨#[c]⟩)
      obtain ⟨b, ht, hb0, hb1⟩ := hs k c hc
      refine ht F0 H0 F' _ _ o1 _ fun F2 H2 w2 n2 => ?_
      have e2 := n2.exH Dl _ e' hT
      have f2 := n2.own Dl _ e' f'
      have n12 := n'.trans w' n2
      cases b with
      | false =>
        refine iteF ⟨F2, vs, w2, n12, f2, e2, ?_, Nat.le_succ_of_le hz⟩
        rw [filterMap_take_succ hc, hb0 rfl, Option.toList, List.append_nil]
        exact dps_mono n2.exF _ _ hv
      | true =>
        obtain ⟨y, hz1, he⟩ := hb1 rfl
        refine iteT (he F0 H0 F2 H2 _ (o1.step w2 n2) _ fun y2 F3 H3 w3 n3 d3 => ?_)
        have e3 := n3.exH Dl _ e2 hT
        have f3 := n3.own Dl _ e2 f2
        have n13 := n12.trans w2 n3
        refine ⟨vs, e3, Nat.lt_of_le_of_lt hz (Nat.lt_trans hk hl), F3, vs ++ [y2], w3.write f3 hT, ⟨n13.exF, fun b u e t => ?_, fun b u e n => n13.own b u e n⟩, f3, upd_same, ?_, by rw [List.length_append]; exact Nat.succ_le_succ hz⟩
        · rw [upd_ne (ne_of_none e hD)]
          exact n13.exH b u e t
        · rw [filterMap_take_succ hc, hz1]
          exact dps_app (dps_mono (n2.exF.trans n3.exF) _ _ hv) (.cons d3 .nil)
    · have hv : DpAll K F' vs (z.cps.toList.filterMap G) := by
        rw [← Array.length_toList, List.take_length] at hv
        exact hv
      have hT := w1.notT hD
      have ex : Ex F' (upd F' Dl (.lst vs)) := Ex.new f'
      have nn := n1.trans w1 n'
      refine q (.ref Dl) (upd F' Dl (.lst vs)) H' (w'.freeze hT e') ⟨nn.exF.trans ex, nn.exH, fun c u e n => ?_⟩ (.lst (.inl (.inl upd_same)) (dps_mono ex _ _ hv))
      have hc : c ≠ Dl := fun z => by
        rw [z] at e
        rw [n1.exH Dl u e hT] at hD
        cases hD
      rw [upd_ne hc]
      exact nn.own c u e n
end
end DL
namespace DL
open PySem PySem.Spec PyProof.Rows L2
section
variable {K : PySem.W.Frag} {T : List Addr} {env : List Sl} {te : TE} {ta : TA} {F0 H0 : Hp} {P : Po} {xs : List D} {G : List D → Res → Prop}
/-- a text not in a tuple of texts -/
theorem r_notinT {z : Str} {ss : List Str} : ROp K T (rIn K true) (.str z) (.tuple (ss.map PyData.str)) (.bool (!decide (z ∈ ss))) := fun F H a b w ha hb Q q => by
  cases ha
  cases hb with
  | @tup p us _ hs hd =>
    have e : ∀ {us : List V} {ss : List Str}, DpAll K F us (ss.map PyData.str) → us = ss.map V.str := by
      intro us ss
      induction ss generalizing us with
      | nil => intro h; cases h; rfl
      | cons s ss ih =>
        intro h
        cases h with
        | cons h1 h2 => cases h1; rw [ih h2]; rfl
    have e := e hd
    subst e
    have e1 : inV (.str z) (ss.map V.str) = decide (z ∈ ss) := by
      unfold inV
      rw [List.any_map, Bool.eq_iff_iff, List.any_eq_true, decide_eq_true_iff]
      constructor
      · rintro ⟨m, hm, e⟩
        have e : m = z := by simpa [eqV] using e
        exact e ▸ hm
      · intro hn
        exact ⟨z, hn, by simp [eqV]⟩
    refine ⟨p, _, rfl, .inr (Evl.ex_t w.sub hs), rfl, ?_, ?_⟩
    · rw [List.all_map, List.all_eq_true]
      intro m _
      rfl
    · rw [if_pos rfl, e1]
      exact q _ F H w (Nx.refl T F H) (.bl _)
theorem d_fmtRS {y : Str} (h : EvD K T te env (.str y)) (hy : (reprText y).length ≤ sizeLine) : EvD K T (tFmtR te) env (.str (reprText y)) := fun F0 H0 F H σ o Q q =>
  h F0 H0 F H σ o _ fun v F1 H1 w1 n1 d1 => by
    cases d1
    exact .inl ⟨y, rfl, hy, q _ F1 H1 w1 n1 (.str _)⟩
/-- f(..), where what f raises is raised on -/
theorem s_dropX {r : Res} {E : XK} (ha : EvA K T ta env xs) (hG : G xs r) (h1 : ∀ d, r = .ok d → P.nx env) (h2 : ∀ c, r = .bad c → ∀ F' H', Wk T F' H' → Nx T F0 H0 F' H' → E (.ref c) none H') :
    StD K T F0 H0 (tDrop (tCallS (PrX K T G) (WE (fun cls d _ H => E cls d H)) ta)) env P := fun F H σ o De En =>
  ha F0 H0 F H σ o _ fun v F1 H1 w1 n1 d1 => by
    refine ⟨F1, xs, r, w1, d1, hG, fun d e v3 F3 H3 w3 n3 d3 => En.nx env F3 H3 σ (h1 d e) (o.step w3 (n1.trans w1 n3)) (n1.trans w1 n3).exF, fun c e F3 H3 w3 n3 => ?_⟩
    exact h2 c e F3 H3 w3 (o.nx.trans o.wk (n1.trans w1 n3))
end
end DL
set_option Elab.async false
set_option linter.all false
set_option maxRecDepth 100000
set_option maxHeartbeats 2000000
/-! A list that is handed in and filled by the callee; targets of any form. -/
namespace DL
open PySem PySem.Spec PyProof.Rows L2
open Evl (Ex)
/-- as Nx, but for the list at A -/
structure NxM (T : List Addr) (A : Addr) (F H F' H' : Hp) : Prop where
  exF : Ex F F'
  exH : ∀ a o, H a = some o → a ∉ T → a ≠ A → H' a = some o
  own : ∀ a o, H a = some o → F a = none → F' a = none
def PrM (K : PySem.W.Frag) (T : List Addr) (G : List D → List D → D → List D → Prop) : Sp := fun vs H Q _ => ∃ F ws ds A us xs d ys, vs = ws ++ [.ref A] ∧ Wk T F H ∧ DpAll K F ws ds ∧ F A = none ∧ A ∉ T ∧ H A = some (.lst us) ∧ DpAll K F us xs ∧ G ds xs d ys ∧
  ∀ v F' H' us', Wk T F' H' → NxM T A F H F' H' → F' A = none → H' A = some (.lst us') → DpAll K F' us' ys → Dp K F' v d → Q v H'
/-- the promise as functions: what comes in, the list that comes in, the answer, the list as it is then -/
def GFM {α : Type} (arg ini : α → List D) (pre : α → Prop) (out : α → D) (fin : α → List D) : List D → List D → D → List D → Prop := fun ds xs d ys => ∃ x, ds = arg x ∧ xs = ini x ∧ pre x ∧ d = out x ∧ ys = fin x
def envM (N : List Str) (ds : List D) (A : Addr) (xs : List D) : List Sl := ds.map Sl.dat ++ [Sl.held A xs] ++ List.replicate (N.length - (ds.length + 1)) Sl.no
section
variable {K : PySem.W.Frag} {T : List Addr} {env : List Sl} {te tl : TE} {ta : TA} {F0 H0 : Hp} {t tb : TS} {P : Po} {i j : Nat} {d : D} {xs ys ds : List D} {A : Addr}
theorem s_retE (h : EvD K T te env d) (k : P.rtE env d) : StD K T F0 H0 (tRet te) env P := fun F H σ o De E =>
  h F0 H0 F H σ o _ fun v F1 H1 w1 n1 d1 => E.rtE env d v F1 H1 σ k (o.step w1 n1) d1
theorem s_open (hi : env[i]? = some (.own xs)) (h : ∀ A, StD K T F0 H0 t (env.set i (.held A xs)) P) : StD K T F0 H0 t env P := fun F H σ o De E => by
  obtain ⟨A, q⟩ := o.sl i _ hi
  exact h A F H σ (o.retell hi rfl q) De E
theorem s_close (hi : env[i]? = some (.held A xs)) (h : StD K T F0 H0 t (env.set i (.own xs)) P) : StD K T F0 H0 t env P := fun F H σ o De E => h F H σ (o.retell hi rfl ⟨A, o.sl i _ hi⟩) De E
theorem s_appH (hi : env[i]? = some (.held A xs)) (h : EvD K T te env d) (hz : xs.length < sizeLine) (k : P.nx (env.set i (.held A (xs ++ [d])))) : StD K T F0 H0 (tDrop (tBM K "list" rAppend (tVar i) (tCons te tNil))) env P := fun F H σ o De E => by
  obtain ⟨vs, e1, f, h0, t1, ha, hd⟩ := o.sl i _ hi
  refine ⟨.ref A, e1, .inl ⟨rfl, vs, .inl (.inl ha)⟩, h F0 H0 F H σ o _ fun v F1 H1 w1 n1 d1 => ?_⟩
  have o1 := o.step w1 n1
  have ha1 := n1.exH A _ ha t1
  refine ⟨A, vs, v, rfl, rfl, ha1, by rw [dps_len hd]; exact hz, E.nx _ F1 _ _ k (o1.write' hi rfl e1 rfl ?_) n1.exF⟩
  exact ⟨vs ++ [v], rfl, n1.own A _ ha f, h0, t1, upd_same, dps_app (dps_mono n1.exF _ _ hd) (.cons d1 .nil)⟩
/-- behind a call that has filled the list at A -/
theorem Ok.stepM {F H F' H' : Hp} {σ : L2.St} {us : List V} (o : Ok K T F0 H0 F H σ env) (hi : env[i]? = some (.held A xs)) (w : Wk T F' H') (n : NxM T A F H F' H') (f : F' A = none) (h : H' A = some (.lst us)) (hd : DpAll K F' us ys) : Ok K T F0 H0 F' H' σ (env.set i (.held A ys)) := by
  obtain ⟨vs, e1, f0, h0, t1, ha, hd0⟩ := o.sl i _ hi
  have keep : ∀ {j : Nat} {s2 : Sl} {c : Addr} {zs : List D}, i ≠ j → env[j]? = some s2 → s2.owned = true → MutOk K T H0 F H σ[j]? c zs → MutOk K T H0 F' H' σ[j]? c zs := fun hne e q m => by
    have ne := o.other hne hi rfl e q e1 m
    obtain ⟨ws, e2, f1, h1, t2, hc, hd1⟩ := m
    exact ⟨ws, e2, n.own _ _ hc f1, h1, t2, n.exH _ _ hc t2 ne, dps_mono n.exF _ _ hd1⟩
  refine ⟨w, ⟨o.nx.exF.trans n.exF, fun c u e t => ?_, fun c u e g => ?_⟩, by simp [o.len], fun j s2 e => ?_, fun j k c hjk hj hk e1 e2 => ?_⟩
  · exact n.exH c u (o.nx.exH c u e t) t fun z => by rw [z, h0] at e; cases e
  · have g1 := o.nx.own c u e g
    by_cases hc : c ∈ T
    · exact (w.tab c hc).2
    · exact n.own c u (o.nx.exH c u e hc) g1
  · rcases get_set e with ⟨rfl, hl, rfl⟩ | ⟨hne, e⟩
    · exact ⟨us, e1, f, h0, t1, h, hd⟩
    · have q := o.sl j s2 e
      cases s2 with
      | no => trivial
      | dat d => exact let ⟨v, e, q⟩ := q; ⟨v, e, dp_mono n.exF _ _ q⟩
      | lst zs => exact let ⟨c, ws, e, h2, h3⟩ := q; ⟨c, ws, e, n.exF c _ h2, dps_mono n.exF _ _ h3⟩
      | obj u => exact let ⟨c, e, h2⟩ := q; ⟨c, e, n.exF c _ h2⟩
      | val v => exact q
      | own zs => exact let ⟨c, q⟩ := q; ⟨c, keep hne e rfl q⟩
      | held c zs => exact keep hne e rfl q
  · have own : ∀ j, IsOwn (env.set i (.held A ys)) j → IsOwn env j := fun j ⟨s3, hz, q3⟩ => by
      rcases get_set hz with ⟨rfl, _, _⟩ | ⟨_, hz⟩
      · exact ⟨_, hi, rfl⟩
      · exact ⟨s3, hz, q3⟩
    exact o.apart j k c hjk (own j hj) (own k hk) e1 e2
/-- arguments, the last one our list at A -/
def EvAM (K : PySem.W.Frag) (T : List Addr) (ta : TA) (env : List Sl) (ds : List D) (A : Addr) : Prop := ∀ F0 H0 F H σ, Ok K T F0 H0 F H σ env → ∀ Q : List V → Hp → Prop, (∀ ws F' H', Wk T F' H' → Nx T F H F' H' → DpAll K F' ws ds → Q (ws ++ [.ref A]) H') → ta σ H Q
theorem am_nil (hi : env[i]? = some (.held A xs)) : EvAM K T (tCons (tVar i) tNil) env [] A := fun F0 H0 F H σ o Q q => by
  obtain ⟨vs, e, _⟩ := o.sl i _ hi
  exact ⟨_, e, q [] F H o.wk (Nx.refl T F H) .nil⟩
theorem am_cons {tr : TA} (h : EvD K T te env d) (hr : EvAM K T tr env ds A) : EvAM K T (tCons te tr) env (d :: ds) A := fun F0 H0 F H σ o Q q =>
  h F0 H0 F H σ o _ fun v F1 H1 w1 n1 d1 => hr F0 H0 F1 H1 σ (o.step w1 n1) _ fun ws F2 H2 w2 n2 d2 => q (v :: ws) F2 H2 w2 (n1.trans w1 n2) (.cons (dp_mono n2.exF _ _ d1) d2)
/-! targets -/
/-- the target takes data d and makes f of the slots -/
def TgD (K : PySem.W.Frag) (T : List Addr) (g : TG) (d : D) (f : List Sl → List Sl) : Prop := ∀ F0 H0 F H σ env, Ok K T F0 H0 F H σ env → ∀ v, Dp K F v d → ∀ Q : L2.St → Hp → Prop, (∀ σ', Ok K T F0 H0 F H σ' (f env) → Q σ' H) → g v σ H Q
def TgsD (K : PySem.W.Frag) (T : List Addr) (g : TGs) (ds : List D) (f : List Sl → List Sl) : Prop := ∀ F0 H0 F H σ env, Ok K T F0 H0 F H σ env → ∀ vs, DpAll K F vs ds → ∀ Q : L2.St → Hp → Prop, (∀ σ', Ok K T F0 H0 F H σ' (f env) → Q σ' H) → g vs σ H Q
theorem g_name : TgD K T (gName i) d fun e => e.set i (.dat d) := fun F0 H0 F H σ env o v hv Q q => q _ (o.set hv)
theorem gs_nil : TgsD K T gNil [] fun e => e := fun F0 H0 F H σ env o vs hv Q q => by
  cases hv
  exact ⟨rfl, q σ o⟩
theorem gs_cons {g : TG} {gs : TGs} {f f2 : List Sl → List Sl} (h : TgD K T g d f) (hs : TgsD K T gs ds f2) : TgsD K T (gCons g gs) (d :: ds) fun e => f2 (f e) := fun F0 H0 F H σ env o vs hv Q q => by
  cases hv with
  | cons h1 h2 => exact ⟨_, _, rfl, h F0 H0 F H σ env o _ h1 _ fun σ' o' => hs F0 H0 F H σ' _ o' _ h2 Q q⟩
theorem g_tup {gs : TGs} {n : Nat} {f : List Sl → List Sl} (h : TgsD K T gs ds f) (hn : ds.length = n) : TgD K T (gTup K n gs) (.tuple ds) f := fun F0 H0 F H σ env o v hv Q q => by
  cases hv with
  | @tup a vs _ hs hd => exact ⟨a, vs, rfl, Evl.ex_t o.wk.sub hs, (dps_len hd).trans hn, h F0 H0 F H σ env o vs hd Q q⟩
theorem s_asgT {g : TG} {f : List Sl → List Sl} (h : EvD K T te env d) (hg : TgD K T g d f) (k : P.nx (f env)) : StD K T F0 H0 (tAsg te g) env P := fun F H σ o De E =>
  h F0 H0 F H σ o _ fun v F1 H1 w1 n1 d1 => hg F0 H0 F1 H1 σ env (o.step w1 n1) v d1 _ fun σ' o' => E.nx _ F1 H1 _ k o' n1.exF
/-- x = f(.., l), l our list at A, which f fills -/
theorem s_asgM {g : TG} {f : List Sl → List Sl} {G : List D → List D → D → List D → Prop} {X : XK} (ha : EvAM K T ta env ds A) (hi : env[i]? = some (.held A xs)) (hG : G ds xs d ys) (hg : TgD K T g d f) (k : P.nx (f (env.set i (.held A ys)))) : StD K T F0 H0 (tAsg (tCall (PrM K T G) [] X ta) g) env P := fun F H σ o De E =>
  ha F0 H0 F H σ o _ fun ws F1 H1 w1 n1 d1 => by
    have o1 := o.step w1 n1
    obtain ⟨us, e1, f1, h0, t1, hA, hd⟩ := o1.sl i _ hi
    show PrM K T G (ws ++ [.ref A] ++ []) H1 _ X
    rw [List.append_nil]
    refine ⟨F1, ws, ds, A, us, xs, d, ys, rfl, w1, d1, f1, t1, hA, hd, hG, fun v F2 H2 us2 w2 n2 f2 h2 d2 dv => ?_⟩
    exact hg F0 H0 F2 H2 σ _ (o1.stepM hi w2 n2 f2 h2 d2) v dv _ fun σ' o' => E.nx _ F2 H2 _ k o' (n1.exF.trans n2.exF)
/-- return f(.., l) -/
theorem s_retM {G : List D → List D → D → List D → Prop} {X : XK} (ha : EvAM K T ta env ds A) (hi : env[i]? = some (.held A xs)) (hG : G ds xs d ys) (k : P.rtE (env.set i (.held A ys)) d) : StD K T F0 H0 (tRet (tCall (PrM K T G) [] X ta)) env P := fun F H σ o De E =>
  ha F0 H0 F H σ o _ fun ws F1 H1 w1 n1 d1 => by
    have o1 := o.step w1 n1
    obtain ⟨us, e1, f1, h0, t1, hA, hd⟩ := o1.sl i _ hi
    show PrM K T G (ws ++ [.ref A] ++ []) H1 _ X
    rw [List.append_nil]
    exact ⟨F1, ws, ds, A, us, xs, d, ys, rfl, w1, d1, f1, t1, hA, hd, hG, fun v F2 H2 us2 w2 n2 f2 h2 d2 dv => E.rtE _ d v F2 H2 σ k (o1.stepM hi w2 n2 f2 h2 d2) dv⟩
/-- for x in our list at A; no turn changes it -/
theorem s_forH {g : TG} {f : D → List Sl → List Sl} (hi : env[i]? = some (.held A xs)) (hg : ∀ d, d ∈ xs → TgD K T g d (f d)) (I : Nat → List Sl → Prop) (h0 : I 0 env) (hI : ∀ k e, I k e → e[i]? = some (.held A xs))
    (hs : ∀ (k : Nat) d e, xs[k]? = some d → I k e → StD K T F0 H0 tb (f d e) (P.turn (I (k + 1)))) (hd : ∀ e, I xs.length e → P.nx e) : StD K T F0 H0 (tFor (iList K (tVar i)) g tb) env P := fun F H σ o De E => by
  obtain ⟨us, e1, _, _, _, hA, hda⟩ := o.sl i _ hi
  refine ⟨.ref A, e1, A, rfl, ⟨us, .inl (.inl hA)⟩, ?_⟩
  refine ⟨fun k m σ' H' => m = xs.length - k ∧ k ≤ xs.length ∧ ∃ e F', I k e ∧ Ok K T F0 H0 F' H' σ' e ∧ Ex F F', ⟨xs.length, by simp, Nat.zero_le _, env, F, h0, o, Ex.refl F⟩, ?_⟩
  rintro k m σ' H' ⟨rfl, hk, e, F', p, o', x⟩
  obtain ⟨vs, e2, _, _, _, hA2, hd2⟩ := o'.sl i _ (hI k e p)
  have sq : SqL K H' A vs := .inl (.inl hA2)
  have hl := dps_len hd2
  by_cases hlt : k < xs.length
  · refine .inr ⟨⟨vs, vs[k], sq, List.getElem?_eq_getElem (by omega)⟩, fun σ2 H2 => ∃ e2 F2, I (k + 1) e2 ∧ Ok K T F0 H0 F2 H2 σ2 e2 ∧ Ex F F2, fun σ2 H2 ⟨e2, F2, q1, q2, q3⟩ => ⟨xs.length - (k + 1), by omega, rfl, hlt, e2, F2, q1, q2, q3⟩, fun v H2 hy => ?_⟩
    obtain ⟨rfl, hy⟩ := hy
    obtain ⟨d, hd1, hv⟩ := dps_getV hd2 (hy vs sq)
    refine hg d (List.mem_of_getElem? hd1) F0 H0 F' _ σ' e o' v hv _ fun σ3 o3 => ?_
    exact hs k d e hd1 p F' _ σ3 o3 _ ⟨fun e2 F2 H2 σ2 p2 o2 x2 => ⟨e2, F2, p2, o2, x.trans x2⟩, E.rt, fun e2 F2 H2 σ2 p2 o2 x2 => E.nx e2 F2 H2 σ2 p2 o2 (x.trans x2), fun e2 F2 H2 σ2 p2 o2 x2 => ⟨e2, F2, p2, o2, x.trans x2⟩, E.rtE⟩
  · have ek : k = xs.length := by omega
    subst ek
    exact .inl ⟨⟨vs, sq, by omega⟩, E.nx e F' H' σ' (hd e p) o' x⟩
end
section
variable {P : Program} {w : World} {K : PySem.W.Frag} {mg : Str → Option Value} {base : Heap} {T : List Addr}
theorem ok_startM {F H : Hp} {N : List Str} {ws us : List V} {ds xs : List D} {A : Addr} (wk : Wk T F H) (h : DpAll K F ws ds) (f : F A = none) (tA : A ∉ T) (hA : H A = some (.lst us)) (hx : DpAll K F us xs) : Ok K T F (fun b => if b = A then none else H b) F H (L2.start N (ws ++ [.ref A])) (envM N ds A xs) := by
  have hl := dps_len h
  have h0 : (fun b => if b = A then none else H b) A = none := if_pos rfl
  have back : ∀ a o, (fun b => if b = A then none else H b) a = some o → H a = some o := fun a o e => by
    by_cases z : a = A
    · rw [z, h0] at e; cases e
    · have e : (if a = A then none else H a) = some o := e
      rw [if_neg z] at e; exact e
  have len : (L2.start N (ws ++ [.ref A])).length = (envM N ds A xs).length := by unfold L2.start envM; simp [hl]
  have own : ∀ i s, (envM N ds A xs)[i]? = some s → s.owned = true → i = ds.length := fun i s e q => by
    unfold envM at e
    rcases Nat.lt_trichotomy i ds.length with z | z | z
    · rw [List.append_assoc, List.getElem?_append_left (by simpa using z), List.getElem?_map] at e
      cases r : ds[i]? with
      | none => rw [r] at e; cases e
      | some d => rw [r] at e; cases e; cases q
    · exact z
    · rw [List.getElem?_append_right (by simp; omega), List.getElem?_replicate] at e
      split at e
      · cases e; cases q
      · cases e
  refine ⟨wk, ⟨Ex.refl F, fun a o e _ => back a o e, fun _ _ _ n => n⟩, len, fun i s e => ?_, fun i j a hij ⟨s1, e1, q1⟩ ⟨s2, e2, q2⟩ _ _ => hij ((own i s1 e1 q1).trans (own j s2 e2 q2).symm)⟩
  unfold envM at e
  unfold L2.start
  rcases Nat.lt_trichotomy i ds.length with z | z | z
  · rw [List.append_assoc, List.getElem?_append_left (by simpa using z), List.getElem?_map] at e
    cases q : ds[i]? with
    | none => rw [q] at e; cases e
    | some d =>
      rw [q] at e
      cases e
      obtain ⟨v, hv, hd⟩ := dps_get h q
      refine ⟨v, ?_, hd⟩
      rw [List.getElem?_append_left (by simp; omega), List.getElem?_map, List.getElem?_append_left (by omega), hv]
      rfl
  · subst z
    rw [List.append_assoc, List.getElem?_append_right (by simp), List.length_map, Nat.sub_self] at e
    have e : Sl.held A xs = s := Option.some.inj e
    subst e
    refine ⟨us, ?_, f, h0, tA, hA, hx⟩
    rw [List.getElem?_append_left (by simp; omega), List.getElem?_map, List.getElem?_append_right (by omega), hl, Nat.sub_self]
    rfl
  · rw [List.getElem?_append_right (by simp; omega), List.getElem?_replicate] at e
    split at e
    · cases e; trivial
    · cases e
theorem fn_gfM {x qual : Str} {st : Stmt} {f : Addr} {fd : FuncData} {N ps : List Str} {k : Nat} {α : Type} {arg ini : α → List D} {pre : α → Prop} {out : α → D} {fin : α → List D} (F : Fun K x qual st f fd) (S : FnScope N ps (defScope st)) (len : ∀ x, (arg x).length + 1 = ps.length)
    (hbody : ∀ (cdv : Value) (A : Around) (outer : List Env) (s : Shared) (H : Hp) (E : XK), Room k (A.deeper (envOfC qual (defScope st) s.heap.objs.size f cdv)) →
      ∃ t, PSs (cxOf CX0 P w K mg base N qual (defScope st) f cdv A outer s H E).nox (defBody st) t ∧ ∀ F0 H0 B x, pre x → StD K T F0 H0 t (envM N (arg x) B (ini x)) { nx := fun _ => False, rt := fun _ => False, rtE := fun e d => d = out x ∧ e[(arg x).length]? = some (.held B (fin x)) }) :
    FnOk P w K mg base CX0 (k + 1) f fd ps (PrM K T (GFM arg ini pre out fin)) := by
  refine F.ok S (fun vs H Q E ⟨F, ws, ds, A, us, xs, d, ys, e, _, hd, _, _, _, _, ⟨x, e2, _⟩, _⟩ => by rw [e, List.length_append, dps_len hd, e2]; exact len x) (fun cdv A outer s H vs Q E hr h => ?_)
  obtain ⟨F0, ws, ds, B, us, xs, d, ys, rfl, wk, hd, fB, tB, hB, hx, ⟨x, rfl, rfl, hp, rfl, rfl⟩, q⟩ := h
  obtain ⟨t, ht, hst⟩ := hbody cdv A outer s H E hr
  have h0 : (fun b => if b = B then none else H b) B = none := if_pos rfl
  have fwd : ∀ a o, H a = some o → a ≠ B → (fun b => if b = B then none else H b) a = some o := fun a o e n => by
    show (if a = B then none else H a) = some o
    rw [if_neg n]; exact e
  refine ⟨t, ht, hst F0 _ B x hp F0 H _ (ok_startM wk hd fB tB hB hx) _ ⟨fun _ _ _ _ p _ _ => False.elim p, fun _ _ _ _ p _ _ _ => False.elim p, fun _ _ _ _ p _ _ => False.elim p, fun _ _ _ _ p _ _ => False.elim p, fun e d' v F' H' σ' p o hv => ?_⟩⟩
  obtain ⟨rfl, he⟩ := p
  obtain ⟨us', _, f', _, _, hB', hd'⟩ := o.sl _ _ he
  refine q v F' H' us' o.wk ⟨o.nx.exF, fun a u e t n => o.nx.exH a u (fwd a u e n) t, fun a u e n => ?_⟩ f' hB' hd' hv
  by_cases z : a = B
  · rw [z]; exact f'
  · exact o.nx.own a u (fwd a u e z) n
end
end DL
set_option Elab.async false
set_option linter.all false
set_option maxRecDepth 100000
set_option maxHeartbeats 2000000
/-! enumerate of a list. -/
namespace DL
open PySem PySem.Spec PyProof.Rows L2
open Evl (Ex)
section
variable {K : PySem.W.Frag} {T : List Addr} {env : List Sl} {F0 H0 : Hp} {ta : TA} {xs : List D} {P : Po} {i j : Nat}
theorem s_forE {tb : TS} (h : EvA K T ta env [.list xs]) (I : Nat → List Sl → Prop) (h0 : I 0 env)
    (hs : ∀ (k : Nat) d e, xs[k]? = some d → I k e → StD K T F0 H0 tb ((e.set i (.dat (.int (k : Int)))).set j (.dat d)) (P.turn (I (k + 1)))) (hd : ∀ e, I xs.length e → P.nx e) :
    StD K T F0 H0 (tFor (iEnum K ta) (gTup K 2 (gCons (gName i) (gCons (gName j) gNil))) tb) env P := fun F H σ o De E =>
  h F0 H0 F H σ o _ fun vs F1 H1 w1 n1 d1 => by
    cases d1 with
    | cons h1 t =>
      cases t
      cases h1 with
      | @lst a us _ ha hda =>
        refine ⟨a, us, rfl, Evl.ex_l w1.sub ha, ?_⟩
        refine for_it (walk_enum (xs := us)) (fun k σ' H' => ∃ e F', I k e ∧ Ok K T F0 H0 F' H' σ' e ∧ Ex F1 F') ⟨env, F1, h0, o.step w1 n1, Ex.refl F1⟩ (fun k σ' H' _ ⟨e, F', _, o', x⟩ => Evl.ex_l (x.trans o'.wk.sub) ha) (fun k v σ' H' H'' hk ⟨e, F', p, o', x⟩ hy => ?_) (fun σ' H' ⟨e, F', p, o', x⟩ => ?_)
        · obtain ⟨Tt, y1, y2, rfl, hT, rfl, e1, e2⟩ := hy
          obtain ⟨d2, hd2, hv2⟩ := dps_getV hda e2
          cases e1
          have w2 := o'.wk.new (o := .tup [.int (k : Nat), y2]) hT
          have n2 := Nx.new (o := .tup [.int (k : Nat), y2]) o'.wk hT
          have x2 := x.trans n2.exF
          refine ⟨Tt, [.int (k : Nat), y2], rfl, .inl (.inl upd_same), rfl, .int (k : Nat), [y2], rfl, y2, [], rfl, rfl, ?_⟩
          exact hs k d2 e hd2 p _ _ _ (((o'.step w2 n2).set (.int _)).set (dp_mono x2 _ _ hv2)) _ ⟨fun e2 F2 H2 σ2 p2 o2 x3 => ⟨e2, F2, p2, o2, x2.trans x3⟩, E.rt, fun e2 F2 H2 σ2 p2 o2 x3 => E.nx e2 F2 H2 σ2 p2 o2 ((n1.exF.trans x2).trans x3), fun e2 F2 H2 σ2 p2 o2 x3 => ⟨e2, F2, p2, o2, x2.trans x3⟩, E.rtE⟩
        · rw [dps_len hda] at p
          exact E.nx e F' H' σ' (hd e p) o' (n1.exF.trans x)
/-! list(xs), a list of our own -/
theorem s_copy {te : TE} (h : EvD K T te env (.list xs)) (hi : (env.set i (.own []))[i]? = some (.own [])) (k : P.nx (env.set i (.own xs))) :
    StD K T F0 H0 (tAsg (tCB (fun xs H Q => ∃ p ys, xs = [V.ref p] ∧ (SqL K H p ys ∨ SqT K H p ys) ∧ ∀ l, H l = none → Q (.ref l) (upd H l (.lst ys))) (tCons te tNil)) (gName i)) env P := fun F H σ o De E =>
  h F0 H0 F H σ o _ fun v F1 H1 w1 n1 d1 => by
    cases d1 with
    | @lst a us _ hs hd =>
      refine ⟨a, us, rfl, .inl (Evl.ex_l w1.sub hs), fun l hl => ?_⟩
      have o1 := (o.step w1 n1).mine (i := i) hl
      have il : i < env.length := by
        have := (List.getElem?_eq_some_iff.mp hi).1
        simpa using this
      have o2 := o1.write (i := i) (a := l) hi (by rw [List.getElem?_set_self (by rw [o.len]; exact il)]) hd
      rw [L2.upd_upd, List.set_set] at o2
      exact E.nx _ F1 _ _ k o2 n1.exF
/-! list(range(n)) -/
theorem dps_range {F : Hp} : ∀ l : List Nat, DpAll K F (l.map fun i => V.int (0 + (i : Nat))) (l.map fun i : Nat => PyData.int (i : Int))
  | [] => .nil
  | i :: l => .cons (by show Dp K F (V.int (0 + (i : Int))) (PyData.int (i : Int)); rw [Int.zero_add]; exact .int _) (dps_range l)
theorem d_listR {te : TE} {n : Nat} (h : EvD K T te env (.int (n : Int))) (hn : n ≤ 100000) : EvD K T (tLstRg (tRg1 te)) env (.list ((List.range n).map fun i : Nat => PyData.int (i : Int))) := fun F0 H0 F H σ o Q q =>
  h F0 H0 F H σ o _ fun v F1 H1 w1 n1 d1 => by
    cases d1
    refine ⟨_, rfl, RgOk.of_le (Int.le_refl _) (by omega) (by decide) (by omega), fun p hp => ?_⟩
    refine q _ (upd F1 p (.lst (rgV 0 n))) _ (w1.new hp) (n1.trans w1 (Nx.new w1 hp)) (.lst (.inl (.inl upd_same)) ?_)
    unfold rgV
    rw [show ((n : Int) - 0).toNat = n by omega]
    exact dps_range _
/-! in, where items are data; in, inside a comprehension -/
theorem r_inD {d : D} {ds : List D} (h1 : SeqAt.shaped d = true) (h2 : SeqAt.shaped (.list ds) = true) : ROp K T (rInD K) d (.list ds) (.bool (ds.any fun z => PyData.eqv z d)) := fun F H x y w ha hb Q q =>
  ⟨d, ds, dp_mono w.sub _ _ ha, dp_mono w.sub _ _ hb, h1, h2, q _ F H w (Nx.refl T F H) (.bl _)⟩
theorem units65 {k : Nat} {A : Around} (r : Room k A) : A.units + 65 < cLine := by have := r.un; omega
theorem op_inK {X : Cx} {K : PySem.W.Frag} (h : X.K = K) : OpR X (compareOp .In) (rIn K false) := by
  subst h
  exact op_in_seq
theorem op_notInK {X : Cx} {K : PySem.W.Frag} (h : X.K = K) : OpR X (compareOp .NotIn) (rIn K true) := by
  subst h
  exact op_notIn_seq
end
end DL
set_option Elab.async false
set_option linter.all false
set_option maxRecDepth 100000
set_option maxHeartbeats 2000000
/-! A list that is handed in first and only read; extend; lists taken apart; calls that may raise within an expression. -/
namespace DL
open PySem PySem.Spec PyProof.Rows L2
open Evl (Ex)
section
variable {K : PySem.W.Frag} {T : List Addr} {env : List Sl} {te tl : TE} {tt : TT} {j : Nat}
/-- a comprehension over a list, a plain list of ours -/
theorem l_lc {ds : List D} (G : D → Option D) (h : EvD K T tl env (.list ds)) (hl : ds.length < sizeLine)
    (hs : ∀ (k : Nat) d, ds[k]? = some d → ∃ b, EvT K T tt ((env.set j .no).set j (.dat d)) b ∧ (b = false → G d = none) ∧ (b = true → ∃ z, G d = some z ∧ EvD K T te ((env.set j .no).set j (.dat d)) z)) :
    EvL K T (tLc (iList K tl) (gName j) tt te [j]) env (ds.filterMap G) := fun F0 H0 F H σ o Q q =>
  h F0 H0 F H σ o _ fun v F1 H1 w1 n1 d1 => by
    cases d1 with
    | @lst a xs _ hsq hdd =>
      refine ⟨a, rfl, ⟨xs, Evl.ex_l w1.sub hsq⟩, fun Dl hD => lc_list (K := K) (a := a) (xs := xs) (fun k H' => ∃ F' vs, Wk T F' H' ∧ Nx T F1 H1 F' H' ∧ F' Dl = none ∧ H' Dl = some (.lst vs) ∧ DpAll K F' vs ((ds.take k).filterMap G) ∧ vs.length ≤ k) ?_ (fun k H' _ ⟨F', vs, w', n', _⟩ => Evl.ex_l (n'.exF.trans w'.sub) hsq) (fun k x H' hk ⟨F', vs, w', n', f', e', hv, hz⟩ => ?_) (fun H' ⟨F', vs, w', n', f', e', hv, hz⟩ => ?_)⟩
      · exact ⟨F1, [], w1.mine hD, ⟨Ex.refl F1, fun b u e t => by rw [upd_ne (ne_of_none e hD)]; exact e, fun _ _ _ n => n⟩, w1.noF hD, upd_same, .nil, Nat.zero_le _⟩
      · refine ⟨wipe_one, ?_⟩
        obtain ⟨d, hd1, hx⟩ := dps_getV hdd hk
        have hkl : k < ds.length := (List.getElem?_eq_some_iff.mp hd1).1
        have hT := w1.notT hD
        have o1 : Ok K T F0 H0 F' H' ((wipe σ [j]).set j (some x)) ((env.set j .no).set j (.dat d)) := (((o.step w1 n1).step w' n').wipe (i := j) none).set (dp_mono n'.exF _ _ hx)
        obtain ⟨b, ht, hb0, hb1⟩ := hs k d hd1
        refine ht F0 H0 F' H' _ o1 _ fun F2 H2 w2 n2 => ?_
        have e2 := n2.exH Dl _ e' hT
        have f2 := n2.own Dl _ e' f'
        have n12 := n'.trans w' n2
        cases b with
        | false =>
          refine iteF ⟨F2, vs, w2, n12, f2, e2, ?_, Nat.le_succ_of_le hz⟩
          rw [filterMap_take_succ hd1, hb0 rfl, Option.toList, List.append_nil]
          exact dps_mono n2.exF _ _ hv
        | true =>
          obtain ⟨z, hz1, he⟩ := hb1 rfl
          refine iteT (he F0 H0 F2 H2 _ (o1.step w2 n2) _ fun y F3 H3 w3 n3 d3 => ?_)
          have e3 := n3.exH Dl _ e2 hT
          have f3 := n3.own Dl _ e2 f2
          have n13 := n12.trans w2 n3
          refine ⟨vs, e3, Nat.lt_of_le_of_lt hz (Nat.lt_trans hkl hl), F3, vs ++ [y], w3.write f3 hT, ⟨n13.exF, fun b u e t => ?_, fun b u e n => n13.own b u e n⟩, f3, upd_same, ?_, by rw [List.length_append]; exact Nat.succ_le_succ hz⟩
          · rw [upd_ne (ne_of_none e hD)]
            exact n13.exH b u e t
          · rw [filterMap_take_succ hd1, hz1]
            exact dps_app (dps_mono (n2.exF.trans n3.exF) _ _ hv) (.cons d3 .nil)
      · rw [dps_len hdd, List.take_length] at hv
        have hT := w1.notT hD
        have ex : Ex F' (upd F' Dl (.lst vs)) := Ex.new f'
        have nn := n1.trans w1 n'
        refine q Dl vs (upd F' Dl (.lst vs)) H' (w'.freeze hT e') ⟨nn.exF.trans ex, nn.exH, fun c u e n => ?_⟩ upd_same (dps_mono ex _ _ hv)
        have hc : c ≠ Dl := fun z => by
          rw [z] at e
          rw [n1.exH Dl u e hT] at hD
          cases hD
        rw [upd_ne hc]
        exact nn.own c u e n
end
section
variable {K : PySem.W.Frag} {T : List Addr} {env : List Sl} {te tl : TE} {ta : TA} {F0 H0 : Hp} {t u tb : TS} {P : Po} {i j : Nat} {d : D} {xs ys ds : List D} {A : Addr}
theorem l_is {xs ys : List D} (h : EvL K T te env xs) (e : xs = ys) : EvL K T te env ys := e ▸ h
/-- xs.extend(ys) -/
theorem s_ext (hi : env[i]? = some (.own xs)) (h : EvL K T te env ys) (hz : xs.length + ys.length ≤ sizeLine) (k : P.nx (env.set i (.own (xs ++ ys)))) :
    StD K T F0 H0 (tDrop (tBM K "list" rExtend (tVar i) (tCons te tNil))) env P := fun F H σ o De E => by
  obtain ⟨a, vs, e1, f, h0, t1, ha, hd⟩ := o.sl i _ hi
  refine ⟨.ref a, e1, .inl ⟨rfl, vs, .inl (.inl ha)⟩, h F0 H0 F H σ o _ fun b ws F1 H1 w1 n1 hb d1 => ?_⟩
  have o1 := o.step w1 n1
  exact ⟨a, b, vs, ws, rfl, rfl, n1.exH a _ ha t1, w1.sub _ _ hb, by rw [dps_len hd, dps_len d1]; exact hz, E.nx _ F1 _ _ k (o1.write hi e1 (dps_app (dps_mono n1.exF _ _ hd) d1)) n1.exF⟩
theorem g_lst {gs : TGs} {n : Nat} {f : List Sl → List Sl} (h : TgsD K T gs ds f) (hn : ds.length = n) : TgD K T (gLst K n gs) (.list ds) f := fun F0 H0 F H σ env o v hv Q q => by
  cases hv with
  | @lst a vs _ hs hd => exact ⟨a, vs, rfl, Evl.ex_l o.wk.sub hs, (dps_len hd).trans hn, h F0 H0 F H σ env o vs hd Q q⟩
/-! the list first among the arguments -/
def PrH (K : PySem.W.Frag) (T : List Addr) (G : List D → List D → D → List D → Prop) : Sp := fun vs H Q _ => ∃ F ws ds A us xs d ys, vs = .ref A :: ws ∧ Wk T F H ∧ DpAll K F ws ds ∧ F A = none ∧ A ∉ T ∧ H A = some (.lst us) ∧ DpAll K F us xs ∧ G ds xs d ys ∧
  ∀ v F' H' us', Wk T F' H' → NxM T A F H F' H' → F' A = none → H' A = some (.lst us') → DpAll K F' us' ys → Dp K F' v d → Q v H'
def envH (N : List Str) (A : Addr) (xs : List D) (ds : List D) : List Sl := [Sl.held A xs] ++ ds.map Sl.dat ++ List.replicate (N.length - (ds.length + 1)) Sl.no
def EvAH (K : PySem.W.Frag) (T : List Addr) (ta : TA) (env : List Sl) (A : Addr) (ds : List D) : Prop := ∀ F0 H0 F H σ, Ok K T F0 H0 F H σ env → ∀ Q : List V → Hp → Prop, (∀ ws F' H', Wk T F' H' → Nx T F H F' H' → DpAll K F' ws ds → Q (.ref A :: ws) H') → ta σ H Q
theorem ah_cons {tr : TA} (hi : env[i]? = some (.held A xs)) (hr : EvA K T tr env ds) : EvAH K T (tCons (tVar i) tr) env A ds := fun F0 H0 F H σ o Q q => by
  obtain ⟨vs, e, _⟩ := o.sl i _ hi
  exact ⟨_, e, hr F0 H0 F H σ o _ fun ws F' H' w n d => q ws F' H' w n d⟩
theorem s_asgH {g : TG} {f : List Sl → List Sl} {G : List D → List D → D → List D → Prop} {X : XK} (ha : EvAH K T ta env A ds) (hi : env[i]? = some (.held A xs)) (hG : G ds xs d ys) (hg : TgD K T g d f) (k : P.nx (f (env.set i (.held A ys)))) : StD K T F0 H0 (tAsg (tCall (PrH K T G) [] X ta) g) env P := fun F H σ o De E =>
  ha F0 H0 F H σ o _ fun ws F1 H1 w1 n1 d1 => by
    have o1 := o.step w1 n1
    obtain ⟨us, e1, f1, h0, t1, hA, hd⟩ := o1.sl i _ hi
    show PrH K T G (.ref A :: ws ++ []) H1 _ X
    rw [List.append_nil]
    refine ⟨F1, ws, ds, A, us, xs, d, ys, rfl, w1, d1, f1, t1, hA, hd, hG, fun v F2 H2 us2 w2 n2 f2 h2 d2 dv => ?_⟩
    exact hg F0 H0 F2 H2 σ _ (o1.stepM hi w2 n2 f2 h2 d2) v dv _ fun σ' o' => E.nx _ F2 H2 _ k o' (n1.exF.trans n2.exF)
end
section
variable {P : Program} {w : World} {K : PySem.W.Frag} {mg : Str → Option Value} {base : Heap} {T : List Addr}
theorem ok_startH {F H : Hp} {N : List Str} {ws us : List V} {ds xs : List D} {A : Addr} (wk : Wk T F H) (h : DpAll K F ws ds) (f : F A = none) (tA : A ∉ T) (hA : H A = some (.lst us)) (hx : DpAll K F us xs) : Ok K T F (fun b => if b = A then none else H b) F H (L2.start N (.ref A :: ws)) (envH N A xs ds) := by
  have hl := dps_len h
  have h0 : (fun b => if b = A then none else H b) A = none := if_pos rfl
  have back : ∀ a o, (fun b => if b = A then none else H b) a = some o → H a = some o := fun a o e => by
    by_cases z : a = A
    · rw [z, h0] at e; cases e
    · have e : (if a = A then none else H a) = some o := e
      rw [if_neg z] at e; exact e
  have len : (L2.start N (.ref A :: ws)).length = (envH N A xs ds).length := by
    unfold L2.start envH
    simp [hl]
  have own : ∀ i s, (envH N A xs ds)[i]? = some s → s.owned = true → i = 0 := fun i s e q => by
    cases i with
    | zero => rfl
    | succ i =>
      unfold envH at e
      rw [List.append_assoc, List.singleton_append, List.getElem?_cons_succ] at e
      by_cases z : i < ds.length
      · rw [List.getElem?_append_left (by simpa using z), List.getElem?_map] at e
        cases r : ds[i]? with
        | none => rw [r] at e; cases e
        | some d => rw [r] at e; cases e; cases q
      · rw [List.getElem?_append_right (by simp; omega), List.getElem?_replicate] at e
        split at e
        · cases e; cases q
        · cases e
  refine ⟨wk, ⟨Ex.refl F, fun a o e _ => back a o e, fun _ _ _ n => n⟩, len, fun i s e => ?_, fun i j a hij ⟨s1, e1, q1⟩ ⟨s2, e2, q2⟩ _ _ => hij ((own i s1 e1 q1).trans (own j s2 e2 q2).symm)⟩
  cases i with
  | zero =>
    have e : Sl.held A xs = s := Option.some.inj e
    subst e
    exact ⟨us, rfl, f, h0, tA, hA, hx⟩
  | succ i =>
    unfold envH at e
    unfold L2.start
    rw [List.append_assoc, List.singleton_append, List.getElem?_cons_succ] at e
    by_cases z : i < ds.length
    · rw [List.getElem?_append_left (by simpa using z), List.getElem?_map] at e
      cases q : ds[i]? with
      | none => rw [q] at e; cases e
      | some d =>
        rw [q] at e
        cases e
        obtain ⟨v, hv, hd⟩ := dps_get h q
        refine ⟨v, ?_, hd⟩
        rw [List.getElem?_append_left (by simp; omega), List.getElem?_map, List.getElem?_cons_succ, hv]
        rfl
    · rw [List.getElem?_append_right (by simp; omega), List.getElem?_replicate] at e
      split at e
      · cases e; trivial
      · cases e
/-- a def whose first argument is a list that is read only; its code object known -/
theorem fn_gfHC {x qual : Str} {st : Stmt} {f c : Addr} {fd : FuncData} {N ps : List Str} {k : Nat} {α : Type} {arg ini : α → List D} {pre : α → Prop} {out : α → D} {fin : α → List D} (F : FunC K x qual st f fd c) (S : FnScope N ps (defScope st)) (len : ∀ x, (arg x).length + 1 = ps.length)
    (hbody : ∀ (A : Around) (outer : List Env) (s : Shared) (H : Hp) (E : XK), Room k (A.deeper (envOfC qual (defScope st) s.heap.objs.size f (.ref c))) →
      ∃ t, PSs (cxOf CX0 P w K mg base N qual (defScope st) f (.ref c) A outer s H E).nox (defBody st) t ∧ ∀ F0 H0 B x, pre x → StD K T F0 H0 t (envH N B (ini x) (arg x)) { nx := fun _ => False, rt := fun _ => False, rtE := fun e d => d = out x ∧ e[0]? = some (.held B (fin x)) }) :
    FnOk P w K mg base CX0 (k + 1) f fd ps (PrH K T (GFM arg ini pre out fin)) := by
  obtain ⟨oc, od, kV, doc, pm, an, ct, osl, rfl, lk, hcd⟩ := F.ex
  refine fn_of lk hcd S (fun vs H Q E ⟨F, ws, ds, A, us, xs, d, ys, e, _, hd, _, _, _, _, ⟨x, e2, _⟩, _⟩ => by rw [e, List.length_cons, dps_len hd, e2]; exact len x) fun A outer s H vs Q E hr h => ?_
  obtain ⟨F0, ws, ds, B, us, xs, d, ys, rfl, wk, hd, fB, tB, hB, hx, ⟨x, rfl, rfl, hp, rfl, rfl⟩, q⟩ := h
  obtain ⟨t, ht, hst⟩ := hbody A outer s H E hr
  have h0 : (fun b => if b = B then none else H b) B = none := if_pos rfl
  have fwd : ∀ a o, H a = some o → a ≠ B → (fun b => if b = B then none else H b) a = some o := fun a o e n => by
    show (if a = B then none else H a) = some o
    rw [if_neg n]; exact e
  refine ⟨t, ht.nox, hst F0 _ B x hp F0 H _ (ok_startH wk hd fB tB hB hx) _ ⟨fun _ _ _ _ p _ _ => False.elim p, fun _ _ _ _ p _ _ _ => False.elim p, fun _ _ _ _ p _ _ => False.elim p, fun _ _ _ _ p _ _ => False.elim p, fun e d' v F' H' σ' p o hv => ?_⟩⟩
  obtain ⟨rfl, he⟩ := p
  obtain ⟨us', _, f', _, _, hB', hd'⟩ := o.sl _ _ he
  refine q v F' H' us' o.wk ⟨o.nx.exF, fun a u e t n => o.nx.exH a u (fwd a u e n) t, fun a u e n => ?_⟩ f' hB' hd' hv
  by_cases z : a = B
  · rw [z]; exact f'
  · exact o.nx.own a u (fwd a u e z) n
end
/-! ### calls that may raise, within an expression -/
section
variable {K : PySem.W.Frag} {T : List Addr} {F0 H0 : Hp} {E : XK} {env : List Sl} {P : Po} {te tb : TE} {ta : TA} {t u : TS} {i j : Nat} {d : D} {G : List D → Res → Prop} {xs ys : List D} {r r' : Res}
def EvE (K : PySem.W.Frag) (T : List Addr) (F0 H0 : Hp) (E : XK) (te : TE) (env : List Sl) (r : Res) : Prop := ∀ F H σ, Ok K T F0 H0 F H σ env → ∀ Q : VK, (∀ d, r = .ok d → ∀ v F' H', Wk T F' H' → Nx T F H F' H' → Dp K F' v d → Q v H') →
  (∀ c, r = .bad c → ∀ F' H', Wk T F' H' → Nx T F0 H0 F' H' → E (.ref c) none H') → te σ H Q
theorem e_d (h : EvD K T te env d) : EvE K T F0 H0 E te env (.ok d) := fun F H σ o Q q _ => h F0 H0 F H σ o Q (q d rfl)
theorem e_call (ha : EvA K T ta env xs) (hG : G xs r) : EvE K T F0 H0 E (tCallS (PrX K T G) (WE (fun cls d _ H => E cls d H)) ta) env r := fun F H σ o Q q qx =>
  ha F0 H0 F H σ o _ fun v F1 H1 w1 n1 d1 => by
    refine ⟨F1, xs, r, w1, d1, hG, fun d e v3 F3 H3 w3 n3 d3 => q d e v3 F3 H3 w3 (n1.trans w1 n3) d3, fun c e F3 H3 w3 n3 => ?_⟩
    exact qx c e F3 H3 w3 (o.nx.trans o.wk (n1.trans w1 n3))
theorem e_op {rr : R2} {y : D} (h : EvE K T F0 H0 E te env r) (hb : EvD K T tb env y) (h1 : ∀ d, r = .ok d → ∃ z, r' = .ok z ∧ ROp K T rr d y z) (h2 : ∀ c, r = .bad c → r' = .bad c) : EvE K T F0 H0 E (tOp rr te tb) env r' := fun F H σ o Q q qx =>
  h F H σ o _ (fun d e v F1 H1 w1 n1 d1 => by
    obtain ⟨z, e2, hr⟩ := h1 d e
    exact hb F0 H0 F1 H1 σ (o.step w1 n1) _ fun v2 F2 H2 w2 n2 d2 => hr F2 H2 v v2 w2 (dp_mono n2.exF _ _ d1) d2 Q fun v3 F3 H3 w3 n3 d3 => q z e2 v3 F3 H3 w3 (n1.trans w1 (n2.trans w2 n3)) d3) fun c e => qx c (h2 c e)
theorem s_retX (h : EvE K T F0 H0 E te env r) (h1 : ∀ d, r = .ok d → P.rt d) (h2 : ∀ c, r = .bad c → ∀ F' H', Wk T F' H' → Nx T F0 H0 F' H' → E (.ref c) none H') : StD K T F0 H0 (tRet te) env P := fun F H σ o De En =>
  h F H σ o _ (fun d e v F1 H1 w1 n1 d1 => En.rt d v F1 H1 (h1 d e) w1 (o.nx.trans o.wk n1) d1) h2
theorem s_ifX (h : EvE K T F0 H0 E te env r) (h1 : ∀ d, r = .ok d → ∃ b, d = .bool b ∧ (b = true → StD K T F0 H0 t env P) ∧ (b = false → StD K T F0 H0 u env P)) (h2 : ∀ c, r = .bad c → ∀ F' H', Wk T F' H' → Nx T F0 H0 F' H' → E (.ref c) none H') : StD K T F0 H0 (tIfS (tB te) t u) env P := fun F H σ o De En =>
  h F H σ o _ (fun d e v F1 H1 w1 n1 d1 => by
    obtain ⟨b, rfl, k1, k2⟩ := h1 d e
    cases d1
    refine ⟨b, rfl, ?_⟩
    cases b with
    | true => exact iteT (k1 rfl F1 H1 σ (o.step w1 n1) De (En.mono n1.exF))
    | false => exact iteF (k2 rfl F1 H1 σ (o.step w1 n1) De (En.mono n1.exF))) h2
theorem s_ifNX (h : EvE K T F0 H0 E te env r) (h1 : ∀ d, r = .ok d → ∃ b, d = .bool b ∧ (b = false → StD K T F0 H0 t env P) ∧ (b = true → StD K T F0 H0 u env P)) (h2 : ∀ c, r = .bad c → ∀ F' H', Wk T F' H' → Nx T F0 H0 F' H' → E (.ref c) none H') : StD K T F0 H0 (tIfS (tNot (tB te)) t u) env P := fun F H σ o De En =>
  h F H σ o _ (fun d e v F1 H1 w1 n1 d1 => by
    obtain ⟨b, rfl, k1, k2⟩ := h1 d e
    cases d1
    refine ⟨b, rfl, ?_⟩
    cases b with
    | false => exact iteT (k1 rfl F1 H1 σ (o.step w1 n1) De (En.mono n1.exF))
    | true => exact iteF (k2 rfl F1 H1 σ (o.step w1 n1) De (En.mono n1.exF))) h2
/-- such a call that raises nothing -/
theorem d_callS {W : L2.St → XK} {z : D} (ha : EvA K T ta env xs) (hG : G xs (.ok z)) : EvD K T (tCallS (PrX K T G) W ta) env z := fun F0 H0 F H σ o Q q =>
  ha F0 H0 F H σ o _ fun v F1 H1 w1 n1 d1 => ⟨F1, xs, _, w1, d1, hG, fun d e v3 F3 H3 w3 n3 d3 => by cases e; exact q v3 F3 H3 w3 (n1.trans w1 n3) d3, nofun⟩
end
end DL
set_option Elab.async false
set_option linter.all false
set_option maxRecDepth 100000
set_option maxHeartbeats 2000000
/-! enumerate of a text. -/
namespace ES
open PySem PySem.Spec PyProof.Rows L2
/-- the pair of the i-th sign -/
def Pair (x : Str) (i : Nat) (H : Hp) (v : V) (H' : Hp) : Prop := ∃ T c, v = .ref T ∧ H T = none ∧ H' = upd H T (.tup [.int (i : Nat), .str ⟨#[c]⟩]) ∧ x.cps[i]? = some c
def Ites (x : Str) : It := ⟨fun i _ => i < x.cps.size, Pair x, fun i _ => x.cps.size ≤ i⟩
abbrev OneOf (ty : String) : Prop := ty = "str_ascii_iterator" ∨ ty = "str_iterator"
/-- e enumerates it, which walks x; i signs are behind -/
structure EnAt (x : Str) (t : Tok) (e it : Addr) (ty : String) (i : Nat) (h : Heap) : Prop where
  en : ∃ old, IsEnum h e it ((i : Nat) : Int) old
  st : h.IsStrIter it ty x t i
  ne : e ≠ it
  le : i ≤ x.cps.size
/-- of e and of it -/
theorem both {e it : Addr} {p : Addr → Prop} (h1 : p e) (h2 : p it) : ∀ b ∈ [e, it], p b
  | _, .head _ => h1
  | _, .tail _ (.head _) => h2
theorem draws {prog : Program} {w : World} {A : Around} (hh : A.handled = none) {ty : String} (hty : OneOf ty) (it : Addr) (x : Str) (t : Tok) :
    Draws prog w A it [it] x.cps.size (fun i v => ∃ c u, x.cps[i]? = some c ∧ v = .str ⟨#[c]⟩ u) (fun i h => h.IsStrIter it ty x t i) :=
  hty.elim (fun z => z ▸ Draws.strAscii hh it x t) fun z => z ▸ Draws.strWide hh it x t
theorem turn_enumS {P : Program} {w : World} {K : PySem.W.Frag} {elts : List Expr} {kk : Nat} {tpos : Pos} (x : Str) (t : Tok) (e it : Addr) (ty : String) (hty : OneOf ty) :
    Turn P w K (.Tuple elts kk tpos) (Ites x) [e, it] e (EnAt x t e it ty) where
  mem := .head _
  self := fun A i s Q E st h => st.en.elim fun _ he => wpAny_pyIter_enum he h
  obj := fun i h st => both (st.en.elim fun _ he => ⟨_, he, nofun⟩) (st.st.elim fun o r => ⟨o, r.1, fun v q => nomatch r.2.2.symm.trans q⟩)
  keep := fun i h h' st k => ⟨st.en.elim fun old he => ⟨old, k e (.head _) _ he⟩, st.st.elim fun o r => ⟨o, k it (.tail _ (.head _)) o r.1, r.2⟩, st.ne, st.le⟩
  done := fun X eP ew eK calm i pins s σ H E I fp st stop => by
    subst eP ew eK
    obtain rfl : i = x.cps.size := Nat.le_antisymm st.le stop
    obtain ⟨_, he⟩ := st.en
    obtain ⟨c0, c1, _, c3, c4, c5⟩ := fp it (.tail _ (.head _))
    have D := draws (prog := X.prog) (w := X.w) (A := X.A.in1) (I.ok.hd calm) hty it x t
    exact wpAny_pyNext_enum_endD D he st.st fun h' same => ⟨rfl, I.turned (t' := s.toks) same c0 c1 c3 c4 c5⟩
  item := fun X eP ew eK calm i pins s σ H E I fp st go => by
    subst eP ew eK
    obtain ⟨_, he⟩ := st.en
    have young : ∀ b ∈ [e, it], b < s.heap.objs.size := both (Heap.lt_size he) (st.st.elim fun _ r => Heap.lt_size r.1)
    have D := draws (prog := X.prog) (w := X.w) (A := X.A.in1) (I.ok.hd calm) hty it x t
    refine wpAny_pyNext_enum_itemD D he st.st go st.ne (fun z => st.ne (List.mem_singleton.mp z)) fun v h1 tk hv ho hit hT hsz hk => ?_
    obtain ⟨c, u, hc, rfl⟩ := hv
    refine ⟨_, rfl, wpAny_letOwnedTupleGo_enum (s := { s with heap := h1, toks := tk + 1 }) ho fun h2 he2 sb => ?_⟩
    -- the pair is new, all else but e and it as before
    have pair : h2.get? s.heap.objs.size = some { cls := .type "tuple", data := .seq #[.int i tk, .str ⟨#[c]⟩ u] } := (sb.2 _ (Nat.ne_of_gt (young e (.head _)))).trans hT
    have rest : ∀ b o, b ∉ [e, it] → s.heap.get? b = some o → h2.get? b = some o := fun b o hb q => by
      obtain ⟨n1, n2⟩ : b ≠ e ∧ b ≠ it := ⟨fun z => hb (z ▸ .head _), fun z => hb (z ▸ .tail _ (.head _))⟩
      exact (sb.2 b n1).trans (hk b o n1 n2 q)
    have J := I.turnedNew (t' := tk + 1) (T := s.heap.objs.size) (ob := .tup [.int (i : Nat), .str ⟨#[c]⟩]) rest fp (Nat.le_refl _) ⟨by show 2 ≤ sizeLine; decide, [.int i tk, .str ⟨#[c]⟩ u], .cons ⟨_, rfl⟩ (.cons ⟨_, rfl⟩ .nil), ⟨_, pair, rfl, _, rfl⟩⟩
    exact ⟨.ref s.heap.objs.size, _, J, rfl, ⟨_, c, rfl, I.hok.fresh (Nat.le_refl _), rfl, hc⟩, ⟨⟨.str ⟨#[c]⟩ u, Int.natCast_succ i ▸ he2⟩, hit.elim fun o r => ⟨o, (sb.2 it st.ne.symm).trans r.1, r.2⟩, st.ne, go⟩,
      fun b hb => (upd_ne (Nat.ne_of_lt (young b hb))).trans (fp b hb).1⟩
def iEnumS (ta : TA) : TI := fun σ H R => ta σ H fun vs H1 => ∃ x, vs = [.str x] ∧ R (Ites x) H1
theorem pi_enumS {X : Cx} {e : Expr} {ta : TA} {p pos tpos : Pos} {elts : List Expr} {kk : Nat} (hg : Gl X "enumerate") (hm : X.mg "enumerate" = none) (ha : PA X [e] ta) (hs : starEach [e] X.env = [(false, eval e X.env)] := by rfl) :
    PI X (.Tuple elts kk tpos) (.Call (.Name "enumerate" p) [e] [] pos) (iEnumS ta) := ⟨fun pins s σ H R I h => by
  have kind : ∀ x : Str, OneOf (strIterType x) := fun x => by
    unfold strIterType
    split
    · exact .inl rfl
    · exact .inr rfl
  refine Call_ (ld_blt I hg hm boot_enumerate (PyProof.Rows.callWith_type1 (thn (ha.run pos pins s σ H _ I h) fun _ s1 ⟨_, H1, I1, vals, x, ex, q⟩ => ?_) hs rfl))
  subst ex
  cases vals with
  | cons r none_ =>
    cases none_
    obtain ⟨t, et⟩ := r
    subst et
    refine call_enumerate_str fun h' he hit _ hk => wpAny_pyIter_enum he ?_
    have fresh : ∀ b, s1.heap.objs.size ≤ b → FpOk X pins H1 b := fun b hb => I1.fpOk hb (I1.hok.fresh hb)
    exact ⟨_, [s1.heap.objs.size + 1, s1.heap.objs.size], _, _, H1, rfl, I1.kept (t' := s1.toks) hk, turn_enumS x t _ _ _ (kind x), ⟨⟨.none, he⟩, hit, Nat.succ_ne_self _, Nat.zero_le _⟩, both (fresh _ (Nat.le_succ _)) (fresh _ (Nat.le_refl _)), q⟩⟩
theorem walk_es {x : Str} : Walk (Ites x) x.cps.size (fun _ => True) (Pair x) := ⟨fun _ _ lt _ => lt, fun _ _ => Nat.le_refl _, fun _ _ _ _ _ _ y => y⟩
end ES
namespace DL
open PySem PySem.Spec PyProof.Rows L2
open Evl (Ex)
section
variable {K : PySem.W.Frag} {T : List Addr} {env : List Sl} {F0 H0 : Hp} {ta : TA} {P : Po} {i j : Nat}
theorem s_forES {tb : TS} {z : Str} (h : EvA K T ta env [.str z]) (I : Nat → List Sl → Prop) (h0 : I 0 env)
    (hs : ∀ (k c : Nat) e, z.cps[k]? = some c → I k e → StD K T F0 H0 tb ((e.set i (.dat (.int (k : Int)))).set j (.dat (.str ⟨#[c]⟩))) (P.turn (I (k + 1)))) (hd : ∀ e, I z.cps.size e → P.nx e) :
    StD K T F0 H0 (tFor (ES.iEnumS ta) (gTup K 2 (gCons (gName i) (gCons (gName j) gNil))) tb) env P := fun F H σ o De E =>
  h F0 H0 F H σ o _ fun vs F1 H1 w1 n1 d1 => by
    cases d1 with
    | cons h1 t =>
      cases t
      cases h1
      refine ⟨z, rfl, ?_⟩
      refine for_it ES.walk_es (fun k σ' H' => ∃ e F', I k e ∧ Ok K T F0 H0 F' H' σ' e ∧ Ex F1 F') ⟨env, F1, h0, o.step w1 n1, Ex.refl F1⟩ (fun _ _ _ _ _ => trivial) (fun k v σ' H' H'' hk ⟨e, F', p, o', x⟩ hy => ?_) (fun σ' H' ⟨e, F', p, o', x⟩ => E.nx e F' H' σ' (hd e p) o' (n1.exF.trans x))
      obtain ⟨Tt, c, rfl, hT, rfl, hc⟩ := hy
      have w2 := o'.wk.new (o := .tup [.int (k : Nat), .str ⟨#[c]⟩]) hT
      have n2 := Nx.new (o := .tup [.int (k : Nat), .str ⟨#[c]⟩]) o'.wk hT
      have x2 := x.trans n2.exF
      refine ⟨Tt, [.int (k : Nat), .str ⟨#[c]⟩], rfl, .inl (.inl upd_same), rfl, .int (k : Nat), [.str ⟨#[c]⟩], rfl, .str ⟨#[c]⟩, [], rfl, rfl, ?_⟩
      exact hs k c e hc p _ _ _ (((o'.step w2 n2).set (.int _)).set (.str _)) _ ⟨fun e2 F2 H2 σ2 p2 o2 x3 => ⟨e2, F2, p2, o2, x2.trans x3⟩, E.rt, fun e2 F2 H2 σ2 p2 o2 x3 => E.nx e2 F2 H2 σ2 p2 o2 ((n1.exF.trans x2).trans x3), fun e2 F2 H2 σ2 p2 o2 x3 => ⟨e2, F2, p2, o2, x2.trans x3⟩, E.rtE⟩
end
end DL
set_option Elab.async false
set_option linter.all false
set_option maxRecDepth 100000
set_option maxHeartbeats 2000000
/-! Texts and lists many times over. -/
namespace DL
open PySem PySem.Spec PyProof.Rows L2
open Evl (Ex)
def rMulS : R2 := fun x y H Q => ∃ z n, x = V.str z ∧ y = V.int n ∧ -1000000 ≤ n ∧ n ≤ 1000000 ∧ z.length ≤ 16 ∧ Q (.str (Txt.mul z n)) H
theorem op_mulS {X : Cx} : OpR X (binaryOp .Mult) rMulS := by
  intro pins s σ H x y v u Q I rx ry h
  obtain ⟨z, n, rfl, rfl, h1, h2, h3, q⟩ := h
  obtain ⟨t, rfl⟩ := rx
  obtain ⟨t', rfl⟩ := ry
  exact SB.mul (mulOk_of 16 1000000 h3 h2 (by omega) (by decide) (by decide)) fun t' k => ⟨.str (Txt.mul z n), H, I.tok _, ⟨_, rfl⟩, q⟩
theorem foldl_reps (c : Array Nat) : ∀ (k : Nat) (acc : Array Nat), ((List.replicate k c).foldl (· ++ ·) acc).toList = acc.toList ++ (List.replicate k c.toList).flatten
  | 0, acc => by simp
  | k + 1, acc => by
    rw [List.replicate_succ, List.foldl_cons, foldl_reps c k, Array.toList_append, List.replicate_succ, List.flatten_cons, List.append_assoc]
theorem mul_txt (l : List Nat) (n : Int) : Txt.mul (txt l) n = txt ((List.replicate n.toNat l).flatten) := by
  unfold Txt.mul
  by_cases h1 : n < 1
  · rw [if_pos h1]
    have : n.toNat = 0 := by omega
    rw [this]
    rfl
  · rw [if_neg h1]
    split
    · rename_i hc
      rw [Bool.or_eq_true, beq_iff_eq, beq_iff_eq] at hc
      rcases hc with h | h
      · subst h
        simp
      · have e : l = [] := List.eq_nil_of_length_eq_zero h
        subst e
        congr 1
        induction n.toNat with
        | zero => rfl
        | succ k ih => rw [List.replicate_succ, List.flatten_cons, ← ih]; rfl
    · have e := foldl_reps (txt l).cps n.toNat #[]
      rw [Array.toList_empty, List.nil_append] at e
      show (⟨_⟩ : Str) = ⟨_⟩
      congr 1
      rw [← Array.toArray_toList (xs := List.foldl _ _ _), e]
      simp [txt]
section
variable {K : PySem.W.Frag} {T : List Addr} {env : List Sl} {ta tb te : TE} {F0 H0 : Hp} {P : Po} {i : Nat}
theorem r_mulS {l : List Nat} {n : Int} (h1 : -1000000 ≤ n ∧ n ≤ 1000000) (h3 : l.length ≤ 16) : ROp K T rMulS (.str (txt l)) (.int n) (.str (txt ((List.replicate n.toNat l).flatten))) := fun F H x y w ha hb Q q => by
  cases ha; cases hb
  refine ⟨txt l, n, rfl, rfl, h1.1, h1.2, h3, ?_⟩
  rw [mul_txt]
  exact q _ F H w (Nx.refl T F H) (.str _)
theorem dps_rep {F : Hp} {vs : List V} {ds : List D} (h : DpAll K F vs ds) : ∀ k, DpAll K F (List.replicate k vs).flatten (List.replicate k ds).flatten
  | 0 => .nil
  | k + 1 => by
    rw [List.replicate_succ, List.replicate_succ, List.flatten_cons, List.flatten_cons]
    exact dps_app h (dps_rep h k)
/-- xs * n -/
theorem l_rep {xs : List D} {n : Int} (ha : EvL K T ta env xs) (hb : EvD K T tb env (.int n)) (h : -1000000 ≤ n ∧ n ≤ 1000000) (hl : xs.length * n.toNat ≤ sizeLine) : EvL K T (tOp rRep ta tb) env (List.replicate n.toNat xs).flatten := fun F0 H0 F H σ o Q q =>
  ha F0 H0 F H σ o _ fun a vs F1 H1 w1 n1 e1 d1 => hb F0 H0 F1 H1 σ (o.step w1 n1) _ fun v F2 H2 w2 n2 d2 => by
    cases d2
    refine ⟨a, n, vs, rfl, rfl, w2.sub _ _ (n2.exF _ _ e1), by omega, by omega, by rw [dps_len d1]; exact hl, fun p hp => ?_⟩
    exact q p _ (upd F2 p (.lst (List.replicate n.toNat vs).flatten)) _ (w2.new hp) ((n1.trans w1 n2).trans w2 (Nx.new w2 hp)) upd_same (dps_mono (Nx.new w2 hp).exF _ _ (dps_rep (dps_mono n2.exF _ _ d1) _))
end
end DL
set_option Elab.async false
set_option linter.all false
set_option maxRecDepth 100000
set_option maxHeartbeats 4000000
/-! A list comprehension whose element may raise. -/
namespace LX
open PySem PySem.Spec PyProof.Rows L2
abbrev Md (X : Cx) : Model := model X.prog X.w
/-! ### how a block ends -/
/-- the block's own names, at C, are let go: whatever becomes of C, K is so behind -/
def Left (C : Addr) (K : Shared → Prop) (s : Shared) : Prop := ∃ m, s.heap.Ns C m ∧ ∀ h, Heap.SameBut C s.heap h → K { s with heap := h }
/-- well (then its list is the value, or is used), or by an error, which the frame fr hands on -/
def Over (M : Model) (A : Around) (E : Value → Shared → Prop) (use : Option (Value → Sem Unit)) (Q : Value → Shared → Prop) (acc : Value) (C : Addr) (fr : Option Addr) : Result → Shared → Prop
  | .error x => Left C fun s => ∀ b : Env, b.locals = C → b.frame = fr → wpAny M A (passOn "comprehension.variables-let-go" x b : Sem Value) (fun _ _ => False) E s
  | .ok _ => match use with
    | some u => fun s => wpAny M A (u acc) (fun _ => Left C (Q .none)) E s
    | none => Left C (Q acc)
section
variable {M : Model} {A : Around} {E : Value → Shared → Prop} {s : Shared} {env : Env}
theorem Over.err {use : Option (Value → Sem Unit)} {Q : Value → Shared → Prop} {acc x : Value} {C : Addr} {fr : Option Addr} (q : Over M A E use Q acc C fr (.error x) s) : Left C (fun s => ∀ b : Env, b.locals = C → b.frame = fr → wpAny M A (passOn "comprehension.variables-let-go" x b : Sem Value) (fun _ _ => False) E s) s := q
theorem Over.val {Q : Value → Shared → Prop} {acc : Value} {f : Flow} {C : Addr} {fr : Option Addr} (q : Over M A E none Q acc C fr (.ok f) s) : Left C (Q acc) s := q
theorem Over.used {u : Value → Sem Unit} {Q : Value → Shared → Prop} {acc : Value} {f : Flow} {C : Addr} {fr : Option Addr} (q : Over M A E (some u) Q acc C fr (.ok f) s) : wpAny M A (u acc) (fun _ => Left C (Q .none)) E s := q
theorem comp_over {e : Expr} {scope : Scope} {pos : Pos} {newAcc first : Sem Value} {g : Comprehension} {gs : List Comprehension} {cl : List (Str × Addr)} {use : Option (Value → Sem Unit)} {Q : Value → Shared → Prop}
    (one : clausesOf e = g :: gs) (plain : ∀ x, foldedSetIterable g.iter env x = pure x) (clos : closureFor scope env = pure cl) (kind : scope.kind = .function)
    (names : ∀ x ∈ scope.names, x.2 = .local → scope.names.lookup x.1 = some .local)
    (h : wpAny M A first (fun x => wpAny M A (pyIter x) (fun it => wpAny M A newAcc (fun acc => wpAny M A (newFunctionEnv scope env.globals cl [] env.qual none .none (some env)) (fun b =>
      codeAny M A (.compStart e 0 it acc { b with scope := relabel scope env }) (Over M A E use Q acc b.locals b.frame)) E) E) E) E s) :
    wpAny M A (comprehension e scope env pos newAcc false first use) Q E s := by
  unfold comprehension
  rw [clos, one]
  refine wpAny_bind (wpAny_mono h (fun x s1 h => ?_) fun _ _ z => z)
  refine wpAny_bind (wpAny_standAt (wpAny_bind (wpAny_of_eq (plain x) (wpAny_bind (wpAny_holding ?_)))))
  refine wpAny_mono h (fun it s2 h => wpAny_standIf (wpAny_bind ?_)) fun _ _ z => z
  refine wpAny_mono h (fun acc s3 h => wpAny_bind (wpAny_pure (wpAny_bind ?_))) fun _ _ z => z
  refine wpAny_mono h (fun b s4 h => ?_) fun _ _ z => z
  dsimp only
  have off : ∀ {cellsOf : List (Str × NameKind) → List Value} {l : List (Str × NameKind)} {K : Shared → Prop} {V : Value → Shared → Prop} {s5 : Shared}, (∀ x ∈ l, x ∈ scope.names) → Left b.locals K s5 →
      wpAny M A (comprehension.letGo { b with scope := relabel scope env } cellsOf l) (fun _ => K) V s5 := fun hl ⟨m, hn, k⟩ =>
    wpAny_comp_letGo (cenv := { b with scope := relabel scope env }) kind _ _ m (fun x hx e => lookup_relabel_local (names x (hl x hx) e)) hn fun h' _ _ sb => k h' sb
  have all : ∀ {p : Str × NameKind → Bool}, ∀ x ∈ (scope.names.filter p).reverse, x ∈ scope.names := fun x hx => (List.mem_filter.mp (List.mem_reverse.mp hx)).1
  refine wpAny_holding (wpAny_bind (wpAny_attempt (wpAny_holding (wpAny_run (codeAny_mono h fun r s5 q => ?_)))))
  match r, use, q with
  | .error x, _, q => exact wpAny_bind (wpAny_holding (wpAny_mono (off all q.err) (fun _ s6 k => wpAny_mono (k _ rfl rfl) (fun _ _ z => z.elim) fun _ _ z => z) fun _ _ z => z))
  | .ok _, none, q => exact wpAny_bind (wpAny_holding (wpAny_mono (off all q.val) (fun _ _ k => wpAny_pure k) fun _ _ z => z))
  | .ok _, some u, q =>
    refine wpAny_bind (wpAny_rule (wpAny_bind (wpAny_holding (wpAny_mono q.used (fun _ s6 q => ?_) fun _ _ z => z))))
    exact wpAny_bind (wpAny_mono (off (fun x hx => all x ((List.mem_append.mp hx).elim List.mem_of_mem_drop List.mem_of_mem_take)) q) (fun _ _ k => wpAny_pure k) fun _ _ z => z)
end
/-! ### an error leaves the block -/
/-- a context with another way for exceptions -/
abbrev withXe (X : Cx) (xe : Value → Shared → Prop) : Cx := { X with xe := xe }
section
variable {X : Cx} {pins : List (Addr × Obj)} {σ : L2.St} {H : Hp} {s : Shared}
theorem inv_xe {xe : Value → Shared → Prop} (I : Inv X pins σ H s) : Inv (withXe X xe) pins σ H s :=
  { I with ok := { I.ok with } }
theorem inv_ex {xe : Value → Shared → Prop} (I : Inv (withXe X xe) pins σ H s) : Inv X pins σ H s :=
  { I with ok := { I.ok with } }
end
theorem note_same {x : Value} {e1 e2 : Env} (h : e1.frame = e2.frame) : noteFrame x e1 = noteFrame x e2 := by
  unfold PySem.noteFrame PySem.frameOf
  rw [h]
theorem funFrames_but {h h' B B' : Heap} {C : Addr} (hs : Heap.SameBut C h h') (hB : ∀ b, B.get? b = none → B'.get? b = none) : ∀ {l : List Env}, C ∉ frs l → h.FunFrames B l → h'.FunFrames B' l
  | [], _, _ => trivial
  | env :: rest, hC, ⟨h1, ⟨L, o, e1, e2, e3, e4⟩, h3⟩ =>
    ⟨h1, ⟨L, o, e1, hB _ e2, (hs.2 L fun z => hC (List.mem_filterMap.mpr ⟨env, .head _, z ▸ e1⟩)).trans e3, e4⟩,
      funFrames_but hs hB (fun hm => hC ((List.mem_filterMap.mp hm).elim fun e ⟨he, q⟩ => List.mem_filterMap.mpr ⟨e, .tail _ he, q⟩)) h3⟩
/-- a heap without one place -/
theorem without (B : Heap) (C : Addr) : ∃ B' : Heap, B'.get? C = none ∧ (∀ b, b ≠ C → B'.get? b = B.get? b) ∧ (∀ b, B.get? b = none → B'.get? b = none) ∧ ∀ b o, B'.get? b = some o → b ≠ C ∧ B.get? b = some o := by
  obtain ⟨B', on, off⟩ := restrict B fun b => decide (b ≠ C)
  have at_ : B'.get? C = none := off C (by simp)
  have else_ : ∀ b, b ≠ C → B'.get? b = B.get? b := fun b hb => on b (by simpa using hb)
  refine ⟨B', at_, else_, fun b e => ?_, fun b o e => ?_⟩
  · by_cases hb : b = C
    · exact hb ▸ at_
    · exact (else_ b hb).trans e
  · have hb : b ≠ C := fun z => by rw [z, at_] at e; cases e
    exact ⟨hb, (else_ b hb) ▸ e⟩
section
variable {X : Cx}
theorem out_of_block {s3 s8 s' : Shared} {H3 H8 : Hp} {scope : Scope} {ce : Env} {fp : List Addr} {pins pins8 : List (Addr × Obj)} {σ σ8 : L2.St} {E : XK} {u : Value} {use : Option (Value → Sem Unit)} {Qf : Value → Shared → Prop} {acc : Value}
    (hs : X.stack = X.env :: X.outer) (hf : X.env.frame = some X.env.locals) (tk : Takes X (fun cls d _ H => E cls d H)) (I3 : Inv X pins σ H3 s3) (hcf : ce.frame = X.env.frame) (hcl : ce.locals = s3.heap.objs.size)
    (f3 : ∀ b ∈ fp, FpOk X pins H3 b) (I : Inv (X.blk s3 H3 scope ce fp) pins8 σ8 H8 s8) (c : CX X.prog X.w X.stack H8 s8 E u s') :
    notedBy (Md X) X.A ce (fun e => Over (Md X) X.A X.xe use Qf acc s3.heap.objs.size ce.frame (.error e)) u s' := by
  have hfr : X.A.frames = some (X.env :: X.outer) := I3.ok.frames.trans (congrArg some hs)
  obtain ⟨C, hC⟩ : ∃ C, s3.heap.objs.size = C := ⟨_, rfl⟩
  rw [hC] at hcl ⊢
  -- the block's own place: not there ahead of it, no frame's
  have C3 : ∀ b o, s3.heap.get? b = some o → b ≠ C := fun b o e z => absurd (Heap.lt_size e) (by rw [hC, z]; exact Nat.lt_irrefl C)
  have Cf : C ∉ frs X.stack := fun hm => (I3.stack.mem hm).elim fun _ ⟨o, e, _⟩ => C3 C o e rfl
  have C8 : H8 C = none := hcl ▸ I.free
  obtain ⟨m, ⟨oC, es, ep, eC, rC⟩, _⟩ := I.loc
  have eC : s8.heap.get? C = some oC := hcl ▸ eC
  have un : Un (frs X.stack) fp H3 H8 s3.heap s8.heap := I.base
  -- the error, as the call let it out
  obtain ⟨a, B, H', cls, d, rfl, fly, hok, ub, na, os, ag, w⟩ := c
  have BC : B.get? C = some oC := ub.keep C oC eC C8 Cf
  have HC : H' C = none := ub.free C oC eC C8
  have stay : B.StaysIn s'.heap := fly.1
  show wpAny _ _ (noteFrame (.ref a) ce) _ _ s'
  rw [note_same hcf]
  refine HandSPX.looks_onZ Zc.steady hfr hf (hs ▸ fly) fun h1 held up1 => ?_
  obtain ⟨k1, k2, k3, k4⟩ : HandSPX.HeldZ B X.stack a (Zc cls d) X.env.locals h1 := hs ▸ held
  refine ⟨m, ⟨oC, es, ep, k1 C oC BC, rC⟩, fun h2 sb b hb1 hb2 => ?_⟩
  have fr : b.frame = some X.env.locals := hb2.trans (hcf.trans hf)
  -- without C
  obtain ⟨B', b0, b1, b2, b3⟩ := without B C
  have st2 : B'.StaysIn h2 := fun b o e => (sb.2 b (b3 b o e).1).trans (k1 b o (b3 b o e).2)
  obtain ⟨oe, vs, Tb, oT, ts, he, hz, hd, h1', hnT, hTe, hT, hdT, h3⟩ := k4
  have aC : a ≠ C := fun z => by rw [z, BC] at k2; cases k2
  have tC : Tb ≠ C := fun z => by rw [z, BC] at hnT; cases hnT
  have he : h2.get? a = some oe := (sb.2 a aC).trans he
  have tr2 : HandSPX.TracedZ h2 B' a (Zc cls d) (rawInt X.env.locals) := ⟨oe, vs, Tb, oT, ts, he, hz, hd, h1', b2 _ hnT, hTe, (sb.2 Tb tC).trans hT, hdT, h3⟩
  unfold PySem.passOn
  refine wpAny_bind (wpAny_field (s := { s' with heap := h2 }) he hd h1' ?_)
  rw [if_neg (by simp : ¬ ((Value.ref Tb == Value.none) = true))]
  refine wpAny_bind (HandSPX.setFlight_anyZ (s := { s' with heap := h2 }) st2 (funFrames_but sb b2 Cf k3) tr2 fun h4 q1 q2 q3 q4 => wpAny_throw ?_)
  rw [fr] at q3
  -- the state that the block's frame goes on from: what stood ahead, as the call left it, the block's place and what is new left out
  obtain ⟨G, on, off⟩ := restrict s'.heap fun b => decide (b ≠ C) && ((B.get? b).isSome || decide (b ∈ frs X.stack))
  have gB : ∀ b o, b ≠ C → B.get? b = some o → G.get? b = some o := fun b o hb e => (on b (by simp [hb, e])).trans (stay b o e)
  have gF : ∀ b, b ∈ frs X.stack → G.get? b = s'.heap.get? b := fun b hb => on b (by rw [decide_eq_true (show b ≠ C from fun z => Cf (z ▸ hb)), decide_eq_true hb, Bool.or_true]; rfl)
  have gO : ∀ b o, G.get? b = some o → b ≠ C ∧ s'.heap.get? b = some o ∧ (b ∈ frs X.stack ∨ B'.get? b = some o) := fun b o e => by
    cases q : (decide (b ≠ C) && ((B.get? b).isSome || decide (b ∈ frs X.stack))) with
    | false => rw [off b q] at e; cases e
    | true =>
      rw [on b q] at e
      obtain ⟨hb, q⟩ := Bool.and_eq_true_iff.mp q
      have hb := of_decide_eq_true hb
      refine ⟨hb, e, (Bool.or_eq_true_iff.mp q).symm.imp of_decide_eq_true fun q => ?_⟩
      obtain ⟨o', e'⟩ := Option.isSome_iff_exists.mp q
      rw [b1 b hb, e', ← stay b o' e', e]
  have u : Un (frs X.stack) fp H3 H' s3.heap G := {
    keep := fun b o e n hb hx => gB b o (C3 b o e) (ub.keep b o (un.keep b o e n hb hx) (un.free b o e n hx) hb)
    slot := fun b o e n hb hx => (un.slot b o e n hb hx).elim fun _ e1 => (ub.slot b _ e1 hb).elim fun sl e2 => ⟨sl, (gF b hb).trans e2⟩
    free := fun b o e n hx => (un.there b o e hx).elim fun o1 e1 => ub.free b o1 e1 (un.free b o e n hx)
    there := fun b o e hx => (un.there b o e hx).elim fun o1 e1 => by
      by_cases hb : b ∈ frs X.stack
      · exact (ub.slot b o1 e1 hb).elim fun _ e2 => ⟨_, (gF b hb).trans e2⟩
      · exact (ub.there b o1 e1 hb).elim fun o2 e2 => ⟨o2, gB b o2 (C3 b o e) e2⟩
    tups := fun b xs e => ub.tups b xs (un.tups b xs e)
    frzs := fun b o xs e => ub.frzs b o xs (un.frzs b o xs e)
    tbls := fun b ps e => (un.tbls b ps e).elim fun m1 e1 => (ub.tbls b _ e1).elim fun m2 e2 => ⟨m1 ++ m2, by rw [e2, Array.append_assoc]⟩ }
  have J : Inv X pins σ H' { s3 with heap := G, gens := s'.gens, drawn := s'.drawn, toks := s'.toks } := by
    refine I3.call u (fun b o q => (hok b o q).stay (fun x v own e => gB x v (fun z => ?_) e) (fun _ e => e) fun _ _ e => e) ag fun b hb => ?_
    · subst z
      rcases own with own | own
      · rw [← own, HC] at q; cases q
      · rw [HC] at own; cases own
    · obtain ⟨_, n1, _, n2, n3, n4⟩ := f3 b hb
      exact ⟨n2, n1, n3, n4⟩
  refine tk _ _ ⟨a, B', _, pins, σ, H', cls, d, rfl, J, fun b o e hb => (gO b o e).2.2.resolve_left hb, fun b o e hn => ?_, .inr (.inr ⟨q1, b2 _ k2, q2, q3⟩), na, os.trans I.os, ag, w⟩
  obtain ⟨hb, e, _⟩ := gO b o e
  obtain ⟨sl, e⟩ := up1 b o e hn
  exact q4 b { o with slots := sl } ((sb.2 b hb).trans e) hn
end
/-! ### the block itself -/
/-- so of the block's context, wherever the block may lie -/
abbrev InBlk (X : Cx) (scope : Scope) (p : Cx → Prop) : Prop := ∀ (s : Shared) (H : Hp) (C : Addr) (cl : List (Str × Addr)) (fp : List Addr), p (X.blk s H scope (compEnvC scope cl C X.env) fp)
/-- the element's reading, for any way of exceptions that takes what E tells -/
def PEx (X : Cx) (E : XK) (elt : Expr) (te : TE) : Prop := ∀ xe : Value → Shared → Prop, (∀ σ, PassesAt (L2.CX X.prog X.w) (withXe X xe) σ (WE (fun cls d _ H => E cls d H) σ)) → PE (withXe X xe) elt te
/-- the block is laid out: s3 and H3 ahead of its names, s4 behind -/
structure Laid (X : Cx) (pins : List (Addr × Obj)) (σ σb : L2.St) (scope : Scope) (fp : List Addr) (tn : Nat → Heap → Prop) (H3 : Hp) (s3 : Shared) (ce : Env) (s4 : Shared) : Prop where
  out : Inv X pins σ H3 s3
  ins : Inv (X.blk s3 H3 scope ce fp) [] σb H3 s4
  place : ce.locals = s3.heap.objs.size
  frame : ce.frame = X.env.frame
  turn : tn 0 s4.heap
  fps : ∀ b ∈ fp, FpOk X pins H3 b
section
variable {X : Cx} {pins : List (Addr × Obj)} {σ σb : L2.St} {scope : Scope} {fp : List Addr} {tn : Nat → Heap → Prop} {H3 : Hp} {s3 s4 : Shared} {ce : Env}
theorem lay {K : PySem.W.Frag} {tg : Expr} {J : It} {it : Addr} {own : List (Str × Nat)} {H2 : Hp} {s2 : Shared} {R : Value → Env → Shared → Prop} {V : Value → Shared → Prop} (I : Inv X pins σ H2 s2) (T : Turn X.prog X.w K tg J fp it tn) (st : tn 0 s2.heap)
    (f : ∀ b ∈ fp, FpOk X pins H2 b) (ok : BlkOk X.N X.env.scope scope own) (hN : X.N.Nodup)
    (k : ∀ (D : Addr) (s3 s4 : Shared) (cl : List (Str × Addr)), H2 D = none → Laid X pins σ (wipe σ (own.map (·.2))) scope fp tn (upd H2 D (.lst [])) s3 (compEnvC scope cl s3.heap.objs.size X.env) s4 → R (.ref D) (compEnvC scope cl s3.heap.objs.size X.env) s4) :
    wpAny (Md X) X.A (newList []) (fun acc => wpAny (Md X) X.A (newFunctionEnv scope X.env.globals (cloFrom X.env.cells scope.names []) [] X.env.qual none .none (some X.env)) (fun b => R acc { b with scope := relabel scope X.env }) V) V s2 := by
  have small : ∀ b ∈ fp, b < s2.heap.objs.size := fun b hb => (T.obj 0 _ st b hb).elim fun _ e => Heap.lt_size e.1
  have fps : ∀ b ∈ fp, FpOk X pins (upd H2 s2.heap.objs.size (.lst [])) b := fun b hb => ⟨(upd_ne (Nat.ne_of_lt (small b hb))).trans (f b hb).1, (f b hb).2⟩
  refine wpAny_newObj_type (newEnv_comp ?_) (by show 0 ≤ sizeLine; decide)
  have out := I.laid (t' := s2.toks) (h' := s2.heap.push { cls := .type "list", data := .seq ([] : List Value).toArray }) (a := s2.heap.objs.size) (o := .lst []) (fun b u e => Heap.get?_push_of_some _ e) (Nat.le_refl _) ⟨Nat.zero_le _, [], 0, .nil, Heap.get?_push_size _ rfl⟩
  exact k _ _ _ _ (I.hok.fresh (Nat.le_refl _)) ⟨out, block_start out ok hN fun b hb => ⟨fps b hb, by rw [Heap.size_push]; exact Nat.lt_succ_of_lt (small b hb)⟩, rfl, rfl,
    T.keep 0 _ _ st fun b _ o e => pushCells_keeps _ _ _ _ (Heap.get?_push_of_some _ (Heap.get?_push_of_some _ e)), fps⟩
variable (L : Laid X pins σ σb scope fp tn H3 s3 ce s4)
include L
/-- what stands still within the block -/
theorem Laid.still {pb : List (Addr × Obj)} {σ' : L2.St} {H' : Hp} {s' : Shared} (I : Inv (X.blk s3 H3 scope ce fp) pb σ' H' s') (n : ∀ b ∈ fp, H' b = none) : ∀ b ∈ fp, FpOk (X.blk s3 H3 scope ce fp) [] H' b := fun b hb => by
  obtain ⟨c1, c2⟩ := I.ok.exf b hb
  exact ⟨n b hb, c1, I.ok.exfs b hb, .inl hb, c2, fun p hp => by cases hp⟩
/-- .. and of it when it is over -/
theorem Laid.back {pb : List (Addr × Obj)} {σ' : L2.St} {H' : Hp} {s' : Shared} (I : Inv (X.blk s3 H3 scope ce fp) pb σ' H' s') : Inv X pins σ H' s' ∧ (∃ m, s'.heap.Ns s3.heap.objs.size m) ∧ FpOk X pins H' s3.heap.objs.size := by
  have free : H' s3.heap.objs.size = none := L.place ▸ I.free
  refine ⟨L.out.call' (ch := fp) I.os I.base I.hok I.bare fun b hb => ?_, I.loc.elim fun m h => ⟨m, L.place ▸ h.1⟩, L.out.fpOk (Nat.le_refl _) free⟩
  obtain ⟨_, n1, _, n2, n3, n4⟩ := L.fps b hb
  exact ⟨n2, n1, n3, n4⟩
end
section
variable {X : Cx}
theorem core {pins : List (Addr × Obj)} {s : Shared} {σ : L2.St} {H : Hp} {Q : VK} {elt tg iter : Expr} {ifs : List Expr} {scope : Scope} {own : List (Str × Nat)} {pos pos' : Pos} {wi : TI} {g : TG} {tt : TT} {te : TE} {use : Option (Value → Sem Unit)} {Qf : Value → Shared → Prop} {E : XK}
    (hst : X.stack = X.env :: X.outer) (hf : X.env.frame = some X.env.locals) (tk : Takes X (fun cls d _ H => E cls d H)) (hc : X.calm = true) (hN : X.N.Nodup) (I : Inv X pins σ H s) (hi : PI X tg iter wi) (ok : BlkOk X.N X.env.scope scope own)
    (hg : InBlk X scope fun Y => PG Y tg g) (ht : InBlk X scope fun Y => PTs Y ifs tt) (he : InBlk X scope fun Y => PEx Y E elt te) (hs : ∀ x, foldedSetIterable iter X.env x = pure x) (h : tLc wi g tt te (own.map (·.2)) σ H Q)
    (fin : ∀ D C s' m H', Inv X pins σ H' s' → Q (.ref D) H' → s'.heap.Ns C m → FpOk X pins H' C → ∀ fr, Over (Md X) X.A X.xe use Qf (.ref D) C fr (.ok .next) s') :
    wpAny (Md X) X.A (comprehension (.ListComp elt [⟨tg, iter, ifs, 0⟩] scope pos) scope X.env pos' (newList []) false (eval iter X.env) use) Qf X.xe s := by
  refine comp_over (use := use) rfl hs (closure_ok fun y hy e => (ok.free y hy e).elim (fun k => I.ok.has _ (.inl k)) fun k => I.ok.has _ (.inr k)) ok.kind (fun y hy e => by rw [ok.uniq y hy, e]) ?_
  refine thn (hi.run pins s σ H _ I h) fun _ _ h1 => thn h1 fun _ s2 h2 => ?_
  obtain ⟨it, fp, tn, J, H2, rfl, I2, T, st2, f2, q⟩ := h2
  refine lay (R := fun acc b s4 => codeAny (Md X) X.A (.compStart (.ListComp elt [⟨tg, iter, ifs, 0⟩] scope pos) 0 (.ref it) acc b) (Over (Md X) X.A X.xe use Qf acc b.locals b.frame) s4) I2 T st2 f2 ok hN fun D s3 s4 cl new L => ?_
  obtain ⟨W, ⟨m0, w0⟩, next⟩ := q D new
  have pg := hg s3 (upd H2 D (.lst [])) s3.heap.objs.size cl fp
  have pt := ht s3 (upd H2 D (.lst [])) s3.heap.objs.size cl fp
  have px := he s3 (upd H2 D (.lst [])) s3.heap.objs.size cl fp
  generalize compEnvC scope cl s3.heap.objs.size X.env = ce at L pg pt px ⊢
  have w0 : W 0 m0 (upd H2 D (.lst [])) := w0
  generalize upd H2 D (.lst []) = H3 at L pg pt px w0
  have none0 : ∀ b ∈ fp, H3 b = none := fun b hb => (L.fps b hb).1
  have out : ∀ (σ' : L2.St) (p8 : List (Addr × Obj)) (H8 : Hp) (s8 : Shared) (e : Value) (s' : Shared), Inv (X.blk s3 H3 scope ce fp) p8 σ' H8 s8 → CX X.prog X.w X.stack H8 s8 E e s' →
      notedBy (Md X) X.A ce (fun e => Over (Md X) X.A X.xe use Qf (.ref D) ce.locals ce.frame (.error e)) e s' := fun σ' p8 H8 s8 e s' I8 c => by
    rw [L.place]
    exact out_of_block hst hf tk L.out L.frame L.place L.fps I8 c
  -- what is so ahead of each turn
  let Mid : Nat → Shared → Prop := fun n s' => ∃ i H', Inv (X.blk s3 H3 scope ce fp) [] (wipe σ (own.map (·.2))) H' s' ∧ tn i s'.heap ∧ (∀ b ∈ fp, H' b = none) ∧ W i n H'
  have loop : codeAny (Md X) X.A (.compLoop (.ListComp elt [⟨tg, iter, ifs, 0⟩] scope pos) 0 (.ref it) (.ref D) ce) (Over (Md X) X.A X.xe use Qf (.ref D) ce.locals ce.frame) s4 := by
    refine compLoop_any Mid (fun n s5 ⟨i, H5, I5, st5, n5, w5⟩ => ?_) m0 ⟨0, H3, L.ins, L.turn, none0, w0⟩
    rcases next i n H5 w5 with ⟨stop, qq⟩ | ⟨go, Nx, hNx, step⟩
    · refine thnF (T.done (X.blk s3 H3 scope ce fp) rfl rfl rfl hc i [] s5 _ H5 _ I5 (L.still I5 n5) st5 stop) fun r s6 ⟨er, I6⟩ => ?_
      obtain ⟨J6, ⟨m, ns⟩, fo⟩ := L.back I6
      subst er
      rw [L.place]
      exact fin D _ s6 m H5 J6 qq ns fo ce.frame
    · refine thnF (T.item (X.blk s3 H3 scope ce fp) rfl rfl rfl hc i [] s5 _ H5 _ I5 (L.still I5 n5) st5 go) fun r s6 ⟨u, er, h6⟩ => ?_
      subst er
      refine thnF h6 fun _ s7 ⟨x, H7, I7, r7, y7, st7, n7⟩ => ?_
      -- the iterator is held while the turn runs
      have I7 := I7.pinned (L.still I7 n7) (T.obj _ _ st7)
      refine thnF (pg.run _ s7 _ H7 x u _ I7 r7 (step x H7 y7)) fun _ s8 ⟨σ8, H8, I8, w8, q8⟩ => ?_
      have again : ∀ {s' : Shared} {H' : Hp}, Inv (X.blk s3 H3 scope ce fp) ([] ++ pinsAt fp s7.heap) σ8 H' s' → Nx H' → ∃ m, m < n ∧ Mid m s' := fun {s' H'} I' nx => by
        obtain ⟨m, lt, w'⟩ := hNx H' nx
        have pin := fun b (hb : b ∈ fp) o (e : s7.heap.get? b = some o) => I'.pin (b, o) (List.mem_append_right _ (List.mem_append_right _ (mem_pinsAt hb e)))
        refine ⟨m, lt, i + 1, H', I'.unpinned.weak (by rw [← w8, wipe_length]) fun j v e => (wipe_some (w8 ▸ e)).1, T.keep _ _ _ st7 fun b hb o e => (pin b hb o e).1, fun b hb => ?_, w'⟩
        exact (T.obj _ _ st7 b hb).elim fun o e => (pin b hb o e.1).2.1
      refine thnF (pt.run _ s8 σ8 H8 _ I8 q8) fun b s9 ⟨H9, I9, q9⟩ => ?_
      cases b with
      | false => exact again I9 q9
      | true =>
        refine thn ((px (notedBy (Md X) X.A ce fun e => Over (Md X) X.A X.xe use Qf (.ref D) ce.locals ce.frame (.error e)) fun σ' p8 H8 s8 e s' I8 c => out σ' p8 H8 s8 e s' (inv_ex I8) c).run _ s9 σ8 H9 _ (inv_xe I9) q9) fun z s10 ⟨yv, H10, I10, r10, acc, hD, hz, nx⟩ => ?_
        exact app_ok (X := X.blk s3 H3 scope ce fp) (inv_ex I10) hD hz r10 fun _ I11 => again I11 nx
  exact codeAny_compStart_list loop (T.self X.A 0 _ _ _ L.turn loop)
/-- as pe_lc -/
theorem pe_lcX {elt tg iter : Expr} {ifs : List Expr} {scope : Scope} {own : List (Str × Nat)} {pos : Pos} {wi : TI} {g : TG} {tt : TT} {te : TE} {E : XK} (hst : X.stack = X.env :: X.outer) (hf : X.env.frame = some X.env.locals) (tk : Takes X (fun cls d _ H => E cls d H)) (hc : X.calm = true) (hN : X.N.Nodup)
    (hi : PI X tg iter wi) (ok : BlkOk X.N X.env.scope scope own) (hg : InBlk X scope fun Y => PG Y tg g) (ht : InBlk X scope fun Y => PTs Y ifs tt) (he : InBlk X scope fun Y => PEx Y E elt te) (hs : ∀ x, foldedSetIterable iter X.env x = pure x := by intro _; rfl) :
    PE X (.ListComp elt [⟨tg, iter, ifs, 0⟩] scope pos) (tLc wi g tt te (own.map (·.2))) := ⟨fun pins s σ H Q I h => by
  rw [eval_ListComp]
  exact core hst hf tk hc hN I hi ok hg ht he hs h fun D C s' m H' I' q ns ⟨c0, c1, _, c3, c4, c5⟩ fr => ⟨m, ns, fun _ sb => ⟨.ref D, H', I'.turned (t' := s'.toks) (fun b o hb e => (sb.2 b hb).trans e) c0 c1 c3 c4 c5, rfl, q⟩⟩⟩
/-- as ps_setLc -/
theorem ps_setLcX {i : Nat} {y : Str} {py : Pos} {elt tg iter : Expr} {ifs : List Expr} {scope : Scope} {own : List (Str × Nat)} {pos spos : Pos} {wi : TI} {g : TG} {tt : TT} {te : TE} {E : XK} (hst : X.stack = X.env :: X.outer) (hf : X.env.frame = some X.env.locals) (tk : Takes X (fun cls d _ H => E cls d H)) (hc : X.calm = true) (hN : X.N.Nodup) (hy : X.N[i]? = some y) (hyl : X.env.scope.names.lookup y = some .local)
    (hsw : swapsWith (.ListComp elt [⟨tg, iter, ifs, 0⟩] scope pos) (some (.Name y py)) spos.line X.env = pure true) (hi : PI X tg iter wi) (ok : BlkOk X.N X.env.scope scope own)
    (hg : InBlk X scope fun Y => PG Y tg g) (ht : InBlk X scope fun Y => PTs Y ifs tt) (he : InBlk X scope fun Y => PEx Y E elt te) (hs : ∀ x, foldedSetIterable iter X.env x = pure x := by intro _; rfl) :
    PS X (.Assign [.Name y py] (.ListComp elt [⟨tg, iter, ifs, 0⟩] scope pos) spos) (tAsg (tLc wi g tt te (own.map (·.2))) (gName i)) := ⟨fun pins s σ H D I h => by
  have run := core (pos := pos) (pos' := firstIterPos [⟨tg, iter, ifs, 0⟩] pos) (use := some (assign (.Name y py) X.env)) (Qf := fun _ s' => SP X pins D .next s') hst hf tk hc hN I hi ok hg ht he hs (Q := fun x H1 => gName i x σ H1 D.nx) h fun A C s' m H' I' q ns ⟨c0, c1, _, c3, c4, c5⟩ fr =>
    wpAny_assign_Name (store_ok2 (v := V.ref A) I' hN hy (.inl hyl) rfl (fun s2 I2 ⟨a, sb, ha⟩ =>
      ⟨m, ns.sameBut sb (ha.elim (fun z => z ▸ c1) fun z e => c4 y a z e.symm), fun _ sb3 => ⟨_, H', I2.turned (t' := s2.toks) (fun b o hb e => (sb3.2 b hb).trans e) c0 c1 c3 c4 c5, q⟩⟩) (.inr hyl))
  rw [exec_Assign_Name_used _ _ _ _ hsw]
  exact wpAny_bind (wpAny_standAt (wpAny_bind (wpAny_bind (thn run fun _ _ hq => wpAny_pure (wpAny_pure hq)))))⟩
end
end LX
namespace DL
open PySem PySem.Spec PyProof.Rows L2
open Evl (Ex)
/-- the first that is bad, or all -/
def seqR : List Res → Res
  | [] => .ok (.list [])
  | .bad c :: _ => .bad c
  | .ok d :: rs => match seqR rs with
    | .ok (.list ds) => .ok (.list (d :: ds))
    | .ok _ => .ok .none
    | .bad c => .bad c
def okD : Res → D
  | .ok d => d
  | .bad _ => .none
theorem seq_ok : ∀ {rs : List Res}, (∀ r ∈ rs, ∃ d, r = .ok d) → seqR rs = .ok (.list (rs.map okD))
  | [], _ => rfl
  | .bad c :: rs, h => by
    obtain ⟨d, e⟩ := h _ List.mem_cons_self
    cases e
  | .ok d :: rs, h => by
    rw [seqR, seq_ok fun r hr => h r (List.mem_cons_of_mem _ hr)]
    rfl
theorem seq_bad : ∀ {rs : List Res} {k : Nat} {c : Addr}, rs[k]? = some (.bad c) → (∀ r ∈ rs.take k, ∃ d, r = .ok d) → seqR rs = .bad c
  | [], k, c, h, _ => by simp at h
  | r :: rs, 0, c, h, _ => by
    obtain rfl : r = .bad c := Option.some.inj h
    rfl
  | .bad c' :: rs, k + 1, c, h, ho => by
    obtain ⟨d, e⟩ := ho _ List.mem_cons_self
    cases e
  | .ok d :: rs, k + 1, c, h, ho => by
    rw [seqR, seq_bad (rs := rs) (k := k) h fun r hr => ho r (List.mem_cons_of_mem _ hr)]
section
variable {K : PySem.W.Frag} {T : List Addr} {F0 H0 : Hp} {E : XK} {env : List Sl} {P : Po} {te tl : TE} {i j : Nat} {r : Res}
theorem e_lc {ds : List D} (G : D → Res) (h : EvD K T tl env (.list ds)) (hl : ds.length < sizeLine)
    (hs : ∀ (k : Nat) d, ds[k]? = some d → EvE K T F0 H0 E te ((env.set j .no).set j (.dat d)) (G d)) :
    EvE K T F0 H0 E (tLc (iList K tl) (gName j) tYes te [j]) env (seqR (ds.map G)) := fun F H σ o Q q qx =>
  h F0 H0 F H σ o _ fun v F1 H1 w1 n1 d1 => by
    cases d1 with
    | @lst a xs _ hsq hdd =>
      refine ⟨a, rfl, ⟨xs, Evl.ex_l w1.sub hsq⟩, fun Dl hD => lc_list (K := K) (a := a) (xs := xs) (fun k H' => ∃ F' vs, Wk T F' H' ∧ Nx T F1 H1 F' H' ∧ F' Dl = none ∧ H' Dl = some (.lst vs) ∧ DpAll K F' vs (((ds.map G).take k).map okD) ∧ vs.length ≤ k ∧ ∀ r ∈ (ds.map G).take k, ∃ d, r = .ok d) ?_ (fun k H' _ ⟨F', vs, w', n', _⟩ => Evl.ex_l (n'.exF.trans w'.sub) hsq) (fun k x H' hk ⟨F', vs, w', n', f', e', hv, hz, ho⟩ => ?_) (fun H' ⟨F', vs, w', n', f', e', hv, hz, ho⟩ => ?_)⟩
      · exact ⟨F1, [], w1.mine hD, ⟨Ex.refl F1, fun b u e t => by rw [upd_ne (ne_of_none e hD)]; exact e, fun _ _ _ n => n⟩, w1.noF hD, upd_same, .nil, Nat.zero_le _, fun r hr => nomatch hr⟩
      · refine ⟨wipe_one, ?_⟩
        obtain ⟨d, hd1, hx⟩ := dps_getV hdd hk
        have hkl : k < ds.length := (List.getElem?_eq_some_iff.mp hd1).1
        have hT := w1.notT hD
        have o1 : Ok K T F0 H0 F' H' ((wipe σ [j]).set j (some x)) ((env.set j .no).set j (.dat d)) := (((o.step w1 n1).step w' n').wipe (i := j) none).set (dp_mono n'.exF _ _ hx)
        have hg : (ds.map G)[k]? = some (G d) := by rw [List.getElem?_map, hd1]; rfl
        refine t_yes F0 H0 F' H' _ o1 _ fun F2 H2 w2 n2 => ?_
        have e2 := n2.exH Dl _ e' hT
        have f2 := n2.own Dl _ e' f'
        have n12 := n'.trans w' n2
        refine iteT (hs k d hd1 F2 H2 _ (o1.step w2 n2) _ (fun y ey yv F3 H3 w3 n3 d3 => ?_) fun c ec F3 H3 w3 n3 => ?_)
        · have e3 := n3.exH Dl _ e2 hT
          have f3 := n3.own Dl _ e2 f2
          have n13 := n12.trans w2 n3
          refine ⟨vs, e3, Nat.lt_of_le_of_lt hz (Nat.lt_trans hkl hl), F3, vs ++ [yv], w3.write f3 hT, ⟨n13.exF, fun b u e t => ?_, fun b u e n => n13.own b u e n⟩, f3, upd_same, ?_, by rw [List.length_append]; exact Nat.succ_le_succ hz, fun r hr => ?_⟩
          · rw [upd_ne (ne_of_none e hD)]
            exact n13.exH b u e t
          · rw [List.take_add_one, hg, List.map_append]
            refine dps_app (dps_mono (n2.exF.trans n3.exF) _ _ hv) ?_
            rw [ey]
            exact .cons d3 .nil
          · rw [List.take_add_one, hg] at hr
            rcases List.mem_append.mp hr with hr | hr
            · exact ho r hr
            · have : r = G d := by simpa using hr
              exact ⟨y, this.trans ey⟩
        · exact qx c (seq_bad (k := k) (by rw [hg, ec]) ho) F3 H3 w3 n3
      · have hx : xs.length = (ds.map G).length := by rw [dps_len hdd, List.length_map]
        rw [hx, List.take_length] at hv ho
        have hT := w1.notT hD
        have ex : Ex F' (upd F' Dl (.lst vs)) := Ex.new f'
        have nn := n1.trans w1 n'
        refine q (.list ((ds.map G).map okD)) (seq_ok ho) (.ref Dl) (upd F' Dl (.lst vs)) H' (w'.freeze hT e') ⟨nn.exF.trans ex, nn.exH, fun c u e n => ?_⟩ (.lst (.inl (.inl upd_same)) (dps_mono ex _ _ hv))
        have hc : c ≠ Dl := fun z => by
          rw [z] at e
          rw [n1.exH Dl u e hT] at hD
          cases hD
        rw [upd_ne hc]
        exact nn.own c u e n
/-- x = e, e may raise -/
theorem s_asgE (h : EvE K T F0 H0 E te env r) (h1 : ∀ d, r = .ok d → P.nx (env.set i (.dat d))) (h2 : ∀ c, r = .bad c → ∀ F' H', Wk T F' H' → Nx T F0 H0 F' H' → E (.ref c) none H') : StD K T F0 H0 (tAsg te (gName i)) env P := fun F H σ o De En =>
  h F H σ o _ (fun d e v F1 H1 w1 n1 d1 => En.nx _ F1 H1 _ (h1 d e) ((o.step w1 n1).set d1) n1.exF) h2
end
end DL
set_option Elab.async false
set_option linter.all false
set_option maxRecDepth 100000
set_option maxHeartbeats 2000000
/-! all(elt for x in text): the element any expression (calls and the module's names too) that gives True or False. -/
namespace AG
open PySem PySem.Spec PyProof.Rows L2 GxR GenW
open Sem (wp)
theorem iter_either {prog : Program} {w : World} {A : Around} {E : Value → Shared → Prop} {s : Shared} {z : Str} {t : Tok} {Q : Value → Shared → Prop}
    (h : ∀ ty : String, (ty = "str_ascii_iterator" ∨ ty = "str_iterator") → Q (.ref s.heap.objs.size) { s with heap := s.heap.push { cls := .type ty, data := .fields #[.str z t, .int 0 0] } }) : wpAny (model prog w) A (pyIter (.str z t)) Q E s := by
  cases ha : z.cps.all (· < 128) with
  | false => exact wpAny_pyIter_wide ha (h _ (.inr rfl))
  | true => exact wpAny_pyIter_ascii ha (h _ (.inl rfl))
theorem striter_either {prog : Program} {w : World} {A : Around} {E : Value → Shared → Prop} {s : Shared} {it : Addr} {ty : String} {z : Str} {t : Tok} {i : Nat} {Q : Value → Shared → Prop} (hty : ty = "str_ascii_iterator" ∨ ty = "str_iterator")
    (st : s.heap.IsStrIter it ty z t i) (h : Q (.ref it) s) : wpAny (model prog w) A (pyIter (.ref it)) Q E s := by
  rcases hty with e | e
  · rw [e] at st; exact wpAny_pyIter_striter_ascii st h
  · rw [e] at st; exact wpAny_pyIter_striter_wide st h
section
variable {X : Cx} {pins : List (Addr × Obj)} {σ : L2.St} {H4 : Hp} {s4 : Shared}
/-- the generator's own loop from its i-th item on -/
theorem seg_allS {A0 A : Around} {scope : Scope} {own : List (Str × Nat)} {x : Str} {j : Nat} {px pos : Pos} {elt iter : Expr} {it a : Addr} {g : Nat} {og : Obj} {cenv : Env} {te : TE} {z : Str} {t : Tok} {ty : String} {Q : VK} {W : Nat → Hp → Prop} (hty : ty = "str_ascii_iterator" ∨ ty = "str_iterator")
    (hN : X.N.Nodup) (hj : X.N[j]? = some x) (hov : A0.over (.compLoop (.GeneratorExp elt [⟨.Name x px, iter, [], 0⟩] scope pos) 0 (.ref it) .none cenv) [] = A) (hsc : cenv.scope = scope) (hco : scope.isCoroutine = false)
    (hx : scope.names.lookup x = some .local) (hov2 : own = [(x, j)])
    (hgen : ∀ h : Heap, h.get? a = some og → h.IsGen a g) (hia : a ≠ it)
    (hel : PE (gnX X A s4 H4 cenv it [(a, og)]) elt te)
    (wt : ∀ i c H, z.cps[i]? = some c → W i H → te ((wipe σ (own.map (·.2))).set j (some (.str ⟨#[c]⟩))) H fun y H' => ∃ b, y = .bl b ∧ if b = true then W (i + 1) H' else Q (.bl false) H')
    (we : ∀ H, W z.cps.size H → Q (.bl true) H) :
    ∀ (k i : Nat) (s₀ s : Shared) (H : Hp), z.cps.size - i = k → i ≤ z.cps.size → Inv (gnX X A s4 H4 cenv it [(a, og)]) [] (wipe σ (own.map (·.2))) H s → s.heap.IsStrIter it ty z t i → H it = none → W i H →
      Seg (model X.prog X.w) A0 (fun n s₀ r s₁ => r = .ok .next ∧ RA X H4 s4 it a g Q n s₀ s₁) (YA X H4 s4 it a g Q) k s₀
        (.compLoop (.GeneratorExp elt [⟨.Name x px, iter, [], 0⟩] scope pos) 0 (.ref it) .none cenv)
        ((model X.prog X.w).den (.compLoop (.GeneratorExp elt [⟨.Name x px, iter, [], 0⟩] scope pos) 0 (.ref it) .none cenv)) [] s := by
  subst hov2
  have stat : ∀ {σ' : L2.St} {H' : Hp} {s' : Shared}, Inv (gnX X A s4 H4 cenv it [(a, og)]) [] σ' H' s' → H' it = none → ∀ b ∈ [it], FpOk (gnX X A s4 H4 cenv it [(a, og)]) [] H' b := fun {σ' H' s'} I' hn b hb => by
    have e := List.mem_singleton.mp hb
    subst e
    refine ⟨hn, (I'.ok.exf b hb).1, I'.ok.exfs b hb, .inl hb, fun y c e => (I'.ok.exf b hb).2 y c e, fun p hp z => ?_⟩
    have e : p = (a, og) := by simpa using hp
    subst e
    exact hia z
  have out : ∀ {σ' : L2.St} {H' : Hp} {s' : Shared}, Inv (gnX X A s4 H4 cenv it [(a, og)]) [] σ' H' s' → Out X H4 s4 it a g s' H' := fun {σ' H' s'} I' =>
    ⟨I'.os, I'.bare, I'.base, I'.hok, hgen _ (I'.pin (a, og) (List.mem_append_left _ List.mem_cons_self)).1, I'.nolimit⟩
  intro k
  induction k with
  | zero =>
    intro i s₀ s H hk hi I st hn w
    have hin : i = z.cps.size := by omega
    subst hin
    show Seg _ A0 _ _ _ s₀ _ ((compTurn (.GeneratorExp elt [⟨.Name x px, iter, [], 0⟩] scope pos) 0 (.ref it) .none cenv).onRaise (leaving cenv)) [] s
    rw [compTurn_gen, Sem.onRaise_eq_wrap]
    refine seg_bind_wrap (wpAny_standAt ?_)
    have td := (turn_str (P := X.prog) (w := X.w) (K := X.K) (tg := .Name x px) it z t ty hty).done (gnX X A s4 H4 cenv it [(a, og)]) rfl rfl rfl rfl z.cps.size [] s _ H (fun _ _ => False) I (stat I hn) st (Nat.le_refl _)
    refine seg_bind_wrap ?_
    rw [hov]
    refine thnF td fun r s6 ⟨hr, I6⟩ => ?_
    subst hr
    exact seg_end (.ok .next) ⟨rfl, H, out I6, we H w⟩
  | succ k ih =>
    intro i s₀ s H hk hi I st hn w
    have hlt : i < z.cps.size := by omega
    show Seg _ A0 _ _ _ s₀ _ ((compTurn (.GeneratorExp elt [⟨.Name x px, iter, [], 0⟩] scope pos) 0 (.ref it) .none cenv).onRaise (leaving cenv)) [] s
    rw [compTurn_gen, Sem.onRaise_eq_wrap]
    refine seg_bind_wrap (wpAny_standAt ?_)
    have T := turn_str (P := X.prog) (w := X.w) (K := X.K) (tg := .Name x px) it z t ty hty
    have ti := T.item (gnX X A s4 H4 cenv it [(a, og)]) rfl rfl rfl rfl i [] s _ H (fun _ _ => False) I (stat I hn) st hlt
    refine seg_bind_wrap ?_
    rw [hov]
    refine thnF ti fun r s6 ⟨u, hr, h6⟩ => ?_
    subst hr
    refine seg_bind_wrap ?_
    rw [hov]
    refine thnF h6 fun _ s7 ⟨y, H7, I7, r7, y7, st7, n7⟩ => ?_
    obtain ⟨eH, c, ey2, ey⟩ := y7
    subst eH
    subst ey
    have I7' := I7.pinned (stat I7 (n7 it (List.mem_singleton.mpr rfl))) (T.obj _ _ st7)
    refine seg_bind_wrap ?_
    rw [hov]
    have pg : PG (gnX X A s4 H4 cenv it [(a, og)]) (.Name x px) (gName j) := pg_name hN hj (.inl (by show cenv.scope.names.lookup x = some .local; rw [hsc]; exact hx)) (.inr (by show cenv.scope.names.lookup x = some .local; rw [hsc]; exact hx))
    refine thnF (pg.run _ s7 _ H7 _ u (fun σ' H' => σ' = (wipe σ [j]).set j (some (.str ⟨#[c]⟩)) ∧ H' = H7) I7' r7 ⟨rfl, rfl⟩) fun _ s8 ⟨σ8, H8, I8, e8, e9⟩ => ?_
    subst e8 e9
    refine seg_bind_wrap (wpAny_tests_nil ?_)
    simp only [if_true]
    have hy : ∀ v, yieldOut cenv v = yieldValue v := fun v => by simp only [yieldOut, hsc, hco, Bool.false_eq_true, if_false]
    simp only [hy]
    rw [Sem.bind_eq_wrap', Sem.bind_eq_wrap', Sem.wrap_wrap, Sem.wrap_wrap]
    refine seg_wrap ?_
    rw [hov]
    refine thnF (hel.run _ s8 _ _ _ I8 (wt i c _ ey2 w)) fun z s10 ⟨yv, H10, I10, r10, b, eb, q10⟩ => ?_
    subst eb
    have ez : z = Value.bool b := r10
    subst ez
    have I11 : Inv (gnX X A s4 H4 cenv it [(a, og)]) [] (wipe σ [j]) H10 s10 := (I10.unpinned (pins := [])).weak (by simp) (fun k v e => by
      have q : wipe ((wipe σ [j]).set j (some (.str ⟨#[c]⟩))) [j] = wipe σ [j] := DL.wipe_one
      rw [← q] at e
      exact (wipe_some e).1)
    have pin' : ∀ o, s7.heap.get? it = some o → s10.heap.get? it = some o ∧ H10 it = none := fun o e =>
      let z := I10.pin (it, o) (List.mem_append_right _ (List.mem_append_right _ (mem_pinsAt (List.mem_singleton.mpr rfl) e)))
      ⟨z.1, z.2.1⟩
    obtain ⟨oi, eoi, _⟩ := T.obj _ _ st7 it (List.mem_singleton.mpr rfl)
    have n10 := (pin' oi eoi).2
    have st10 : s10.heap.IsStrIter it ty z t (i + 1) := T.keep _ _ _ st7 fun c hc o e => by
      rw [List.mem_singleton.mp hc] at e ⊢
      exact (pin' o e).1
    refine seg_at (seg_yield rfl rfl rfl ⟨b, H10, rfl, out I11, fun hb => ?_, fun hb s'' h1 h2 h3 => ?_⟩)
    · rw [hb] at q10
      simpa using q10
    · rw [hb] at q10
      have w10 : W (i + 1) H10 := by simpa using q10
      refine seg_again rfl (ih (i + 1) s'' s'' H10 (by omega) hlt (inv_heap I11 h1 h2 h3) ?_ n10 w10)
      rw [h1]
      exact st10
theorem seg_allStartS {A0 A : Around} {scope : Scope} {own : List (Str × Nat)} {x : Str} {j : Nat} {px pos : Pos} {elt iter : Expr} {it a : Addr} {g : Nat} {og : Obj} {cenv : Env} {te : TE} {z : Str} {t : Tok} {ty : String} {Q : VK} {W : Nat → Hp → Prop} (hty : ty = "str_ascii_iterator" ∨ ty = "str_iterator")
    (hN : X.N.Nodup) (hj : X.N[j]? = some x) (hov : A0.over (.compLoop (.GeneratorExp elt [⟨.Name x px, iter, [], 0⟩] scope pos) 0 (.ref it) .none cenv) [] = A) (hsc : cenv.scope = scope) (hco : scope.isCoroutine = false)
    (hx : scope.names.lookup x = some .local) (hov2 : own = [(x, j)])
    (hgen : ∀ h : Heap, h.get? a = some og → h.IsGen a g) (hia : a ≠ it)
    (hel : PE (gnX X A s4 H4 cenv it [(a, og)]) elt te)
    (wt : ∀ i c H, z.cps[i]? = some c → W i H → te ((wipe σ (own.map (·.2))).set j (some (.str ⟨#[c]⟩))) H fun y H' => ∃ b, y = .bl b ∧ if b = true then W (i + 1) H' else Q (.bl false) H')
    (we : ∀ H, W z.cps.size H → Q (.bl true) H) (s₀ s : Shared) (H : Hp)
    (I : Inv (gnX X A s4 H4 cenv it [(a, og)]) [] (wipe σ (own.map (·.2))) H s) (st : s.heap.IsStrIter it ty z t 0) (hn : H it = none) (w : W 0 H) :
      Seg (model X.prog X.w) A0 (fun n s₀ r s₁ => r = .ok .next ∧ RA X H4 s4 it a g Q n s₀ s₁) (YA X H4 s4 it a g Q) z.cps.size s₀
        (.compStart (.GeneratorExp elt [⟨.Name x px, iter, [], 0⟩] scope pos) 0 (.ref it) .none cenv)
        ((model X.prog X.w).den (.compStart (.GeneratorExp elt [⟨.Name x px, iter, [], 0⟩] scope pos) 0 (.ref it) .none cenv)) [] s := by
  have loop := seg_allS (iter := iter) (px := px) (pos := pos) (A0 := A0) hty hN hj hov hsc hco hx hov2 hgen hia hel wt we z.cps.size 0 s₀ s H (Nat.sub_zero _) (Nat.zero_le _) I st hn w
  show Seg _ A0 _ _ _ s₀ _ ((compStart (.GeneratorExp elt [⟨.Name x px, iter, [], 0⟩] scope pos) 0 (.ref it) .none cenv).onRaise (leaving cenv)) [] s
  unfold compStart
  rw [Sem.onRaise_eq_wrap]
  show Seg _ A0 _ _ _ s₀ _ ((ask >>= _).wrap _ _ _ _) [] s
  refine seg_bind_wrap (wpAny_askSetting ?_)
  split
  · exact seg_again rfl loop
  · first
      | exact seg_bind_wrap (wpAny_rule (seg_bind_wrap (wpAny_standAt (seg_bind_wrap (striter_either hty st (seg_again rfl loop))))))
      | (refine seg_bind_wrap (wpAny_rule ?_); show Seg _ A0 _ _ _ s₀ _ ((standAt iter.pos >>= _).wrap _ _ _ _) [] s; exact seg_bind_wrap (wpAny_standAt (seg_bind_wrap (striter_either hty st (seg_again rfl loop)))))
end

section
variable {X : Cx}
/-- all(elt for x in xs): te the list, telt the element; W: a word of the turn and the heap; P: the table of the def's code, which may grow -/
def tAllS (P : Addr) (j : Nat) (vs : List Nat) (tl telt : TE) : TE := fun σ H Q => tl σ H fun v H1 => ∃ z : Str, v = .str z ∧ TabG H1 P ∧ ∃ W : Nat → Hp → Prop, (∀ H2, Tabbed P H1 H2 → W 0 H2) ∧
  (∀ i c H, z.cps[i]? = some c → W i H → telt ((wipe σ vs).set j (some (.str ⟨#[c]⟩))) H fun y H' => ∃ b, y = .bl b ∧ if b = true then W (i + 1) H' else Q (.bl false) H') ∧ ∀ H, W z.cps.size H → Q (.bl true) H
theorem pe_allS {c P : Addr} {elt iter : Expr} {x : Str} {j : Nat} {px p pos gpos : Pos} {scope : Scope} {tl telt : TE} {k : Nat}
    (hr : Room (k + 1) X.A) (hN : X.N.Nodup) (hj : X.N[j]? = some x) (hg : Gl X "all") (hm : X.mg "all" = none) (TB : TabB X.base X.mg c P) (hcode : X.env.code = .ref c) (S : GBlk X.N X.env.scope scope [(x, j)] x) (hi : PE X iter tl)
    (hel : ∀ (A : Around) (s : Shared) (H : Hp) (C : Addr) (cl : List (Str × Addr)) (code : Value) (it : Addr) (pn : List (Addr × Obj)), Room k A → PE (gnX X A s H (genEnv scope cl C code builtinsNs X.env) it pn) elt telt)
    (hs : ∀ v, genFold iter X.env v = pure v := by intro _; rfl)
    (he : starEach [.GeneratorExp elt [⟨.Name x px, iter, [], 0⟩] scope gpos] X.env = (false, eval (.GeneratorExp elt [⟨.Name x px, iter, [], 0⟩] scope gpos) X.env) :: starEach [] X.env := by rfl) :
    PE X (.Call (.Name "all" p) [.GeneratorExp elt [⟨.Name x px, iter, [], 0⟩] scope gpos] [] pos) (tAllS P j [j] tl telt) := by
  refine ⟨fun pins s σ H Q I h => ?_⟩
  refine wpAny_Call_Name_kw (ld_blt I hg hm boot_all' ?_)
  refine PyProof.Rows.callWith_builtin1 ?_ he (by rfl)
  rw [he]
  show wpAny _ _ (spliced ((false, eval (.GeneratorExp elt [⟨.Name x px, iter, [], 0⟩] scope gpos) X.env) :: backTo pos (starEach [] X.env))) _ _ s
  refine Calls.spliced_cons ?_
  refine wpAny_GeneratorExp_make S.co (closure_ok fun y hy e => (S.blk.free y hy e).elim (fun k => I.ok.has _ (.inl k)) fun k => I.ok.has _ (.inr k)) S.nocell S.dot S.blk.kind hr.depth ?_ hs
  refine thn (hi.run pins s σ H _ I h) fun xv s1 ⟨v, H1, I1, r1, q1⟩ => ?_
  obtain ⟨z, rfl, ⟨ps, hP, ht⟩, W, w0, wt, we⟩ := q1
  obtain ⟨t, rfl⟩ := r1
  refine iter_either fun ty hty => ?_
  have hf1 := I1.hok.fresh (Nat.le_refl s1.heap.objs.size)
  generalize hoi : ({ cls := .type ty, data := .fields #[.str z t, .int 0 0] } : Obj) = oi
  have hoi' := hoi
  have hPs : s1.heap.get? P = some { cls := .none, data := .fields ps } := I1.hok P _ hP
  have hP2 : (s1.heap.push oi).get? P = some { cls := .none, data := .fields ps } := Heap.get?_push_of_some _ hPs
  have cd : PySem.W.CodeHd (s1.heap.push oi) c P := TB.code.keeps fun b u e => Heap.get?_push_of_some _ (I1.bk b u e)
  have hPlt : P < s1.heap.objs.size := Heap.lt_size hPs
  have lim2 : (s1.heap.push oi).NoLimit := I1.nolimit.push oi
  have sz2 : (s1.heap.push oi).objs.size = s1.heap.objs.size + 1 := Heap.size_push ..
  have eit : (s1.heap.push oi).get? s1.heap.objs.size = some oi := by
    rw [← hoi]
    exact Heap.get?_push_size _ rfl
  have cont : ∀ (code : Value) (h3 : Heap) (tk : Nat) (ps' : Array Value), Heap.ExtBut P (s1.heap.push oi) h3 → (s1.heap.push oi).objs.size ≤ h3.objs.size → h3.get? P = some { cls := .none, data := .fields ps' } → (∃ more, ps' = ps ++ more) → TriplesOk ps'.toList →
      wpAny (model X.prog X.w) X.A (builtinsFor X.env.globals X.env.builtins) (fun bi s₄ =>
        ∀ h', h'.Ns s₄.heap.objs.size (fun y => if y = ".0" then some (.ref s1.heap.objs.size) else none) → Heap.SameBut s₄.heap.objs.size (s₄.heap.push { cls := .type "frame", data := .dict #[] }) h' →
          wpAny (model X.prog X.w) X.A (spliced (backTo pos (starEach [] X.env))) (fun vs s₂ => wpAny (model X.prog X.w) X.A (call (.builtin "all") (.ref h'.objs.size :: vs)) (EP X pins σ Q) X.xe s₂) X.xe { s₄ with
            gens := s₄.gens.push (.fresh (.compStart (.GeneratorExp elt [⟨.Name x px, iter, [], 0⟩] scope gpos) 0 (.ref s1.heap.objs.size) .none (genEnv scope (cloFrom X.env.cells scope.names []) s₄.heap.objs.size code bi X.env))),
            toks := s₄.toks + 1 + 1 + 1,
            heap := h'.push { cls := .type "generator", data := .fields #[.int s₄.gens.size 0, .str "<genexpr>" (s₄.toks + 1), .str (X.env.qual ++ "<genexpr>") (s₄.toks + 1 + 1)] } }) X.xe { s1 with heap := h3, toks := tk } := by
    intro code h3 tk ps' hx hsz hP3 hmore ht3
    obtain ⟨bm, ob, e1, e2, e3, e4, e5, e6, e7, e8⟩ := TB.bm
    have keep3 : ∀ b u, b ≠ P → s1.heap.get? b = some u → h3.get? b = some u := fun b u hb e => hx b u hb (Heap.get?_push_of_some _ e)
    refine wpAny_builtinsFor (m := X.mg) (by rw [I1.ok.glob]; exact ((I1.mod.glob.keeps I1.bk).push oi).extBut hx TB.gP) e1 e2 (keep3 _ _ e4 (I1.bk _ _ e5)) e6 e7 e8 ?_
    intro h' hns hsb
    refine Calls.spliced_nil ?_
    obtain ⟨more, em⟩ := hmore
    have I4 : Inv X pins σ (upd H1 P (.tbl ps')) { s1 with heap := h3, toks := tk } := by
      rw [em]
      exact inv_tab (more := more) (g' := s1.gens) (d' := s1.drawn) I1 hP keep3 (by rw [← em]; exact hP3) I1.bare
    have szh : h'.objs.size = h3.objs.size + 1 := by rw [hsb.1, Heap.size_push]
    have itP : s1.heap.objs.size ≠ P := Nat.ne_of_gt hPlt
    have ith3 : s1.heap.objs.size < h3.objs.size := by omega
    generalize hog : ({ cls := .type "generator", data := .fields #[.int s1.gens.size 0, .str "<genexpr>" (tk + 1), .str (X.env.qual ++ "<genexpr>") (tk + 1 + 1)] } : Obj) = og
    have keep' : ∀ b o, h3.get? b = some o → h'.get? b = some o := fun b o e => hsb.extBut b o (Nat.ne_of_lt (Heap.lt_size e)) (Heap.get?_push_of_some _ e)
    have keep5 : ∀ b o, h3.get? b = some o → (h'.push og).get? b = some o := fun b o e => Heap.get?_push_of_some _ (keep' b o e)
    have eog : (h'.push og).get? h'.objs.size = some og := by
      rw [← hog]
      exact Heap.get?_push_size _ rfl
    have hgen : ∀ h : Heap, h.get? h'.objs.size = some og → h.IsGen h'.objs.size s1.gens.size := fun h e => ⟨og, _, _, e, by rw [← hog], by rw [← hog], by rw [← hog]⟩
    generalize hcode' : (Code.compLoop (.GeneratorExp elt [⟨.Name x px, iter, [], 0⟩] scope gpos) 0 (.ref s1.heap.objs.size) .none (genEnv scope (cloFrom X.env.cells scope.names []) h3.objs.size code builtinsNs X.env)) = cd0
    have hA : (X.A.in1.in1.over cd0 []).handled = none := hr.hd
    have hfr : (X.A.in1.in1.over cd0 []).frames = some (genEnv scope (cloFrom X.env.cells scope.names []) h3.objs.size code builtinsNs X.env :: X.stack) := by
      rw [← hcode']
      unfold Around.over
      show pushEnvs [genEnv scope (cloFrom X.env.cells scope.names []) h3.objs.size code builtinsNs X.env] X.A.frames = _
      rw [I1.ok.frames]
      rfl
    have hroom : Room k (X.A.in1.in1.over cd0 []) := by
      rw [← hcode']
      refine ⟨hr.hd, ?_, ?_⟩
      · have := hr.dp
        show X.A.depth + 0 + 1 + 3 * k + 5 < _
        omega
      · have := hr.un
        show X.A.units + 1 + 1 + 0 + 3 + 16 * k + 200 < _
        omega
    have fit : FpOk X pins (upd H1 P (.tbl ps')) s1.heap.objs.size := I1.fpOk (Nat.le_refl _) (by rw [upd_ne itP]; exact hf1)
    have gb : AllBare (s1.gens.push (GenState.fresh (.compStart (.GeneratorExp elt [⟨.Name x px, iter, [], 0⟩] scope gpos) 0 (.ref s1.heap.objs.size) .none (genEnv scope (cloFrom X.env.cells scope.names []) h3.objs.size code builtinsNs X.env)))) := I1.bare.push rfl
    have IG := gen_start (tk := tk + 1 + 1 + 1) (A := X.A.in1.in1.over cd0 []) (code := code) (own := [(x, j)]) (og := og) (a := h'.objs.size) (h5 := h'.push og) I4 S hN hA hfr fit ith3 gb keep5 (hns.push _) eog (by show h3.objs.size < h'.objs.size; omega) (fun v z => by rw [← hog] at z; cases z)
    have st5 : (h'.push og).IsStrIter s1.heap.objs.size ty z t 0 := by
      refine ⟨oi, keep5 _ _ (hx _ _ itP eit), ?_, ?_⟩
      · rw [← hoi]
      · rw [← hoi]
        rfl
    have hia : h'.objs.size ≠ s1.heap.objs.size := by
      have q : s1.heap.objs.size < h'.objs.size := by omega
      exact Nat.ne_of_gt q
    have wz : W 0 (upd H1 P (.tbl ps')) := w0 _ ⟨⟨ps', upd_same, ht3⟩, fun b hb => upd_ne hb⟩
    refine call_function_tree F.kind_all F.plain_all F.entry_all (F.args_all1 _) ?_
    unfold Builtin.«all»
    refine wpAny_bind (m := oneArg "all" _) (wpAny_pure ?_)
    refine wpAny_bind (wpAny_pyIter_gen (hgen _ eog) ?_)
    refine wpAny_pure ⟨plainId_quiet F.plain_all_loop _, drain_all (X := X) (H4 := upd H1 P (.tbl ps')) (s4 := { s1 with heap := h3, toks := tk }) (it := s1.heap.objs.size) (Q := Q) hr.hd hr.depth (fun b s' H o1 o2 o3 o4 o5 => ?_) z.cps.size _ (hgen _ eog) (IG.nolimit) ⟨_, Array.getElem?_push_size .., rfl, ?_⟩⟩
    · refine ⟨.bl b, H, I4.call' (ch := [s1.heap.objs.size]) o1 o3 o4 o2 (fun b hb => ?_), rfl, o5⟩
      rw [List.mem_singleton.mp hb]
      exact ⟨fit.2.2.2.1, fit.2.1, fit.2.2.2.2.1, fit.2.2.2.2.2⟩
    · refine seg_allStartS (own := [(x, j)]) (j := j) (A := X.A.in1.in1.over cd0 []) (z := z) (t := t) (W := W) (te := telt) hty hN hj (by rw [← hcode']; rfl) rfl S.co S.loc rfl hgen hia (hel _ _ _ _ _ _ _ _ hroom) wt we _ _ (upd H1 P (.tbl ps')) (inv_heap IG rfl rfl (allBare_setGen gb rfl)) st5 fit.1 wz
  refine ⟨lim2, ?_⟩
  cases hf : codeAmong gpos ps.toList with
  | none =>
    refine wpAny_genexprCodeX hcode (cd.code hP2 ht) (cd.tab hP2) hf fun c' h' tk hx hge hlt hco' _ htab' _ => ?_
    obtain ⟨o1, vs, f1, tf, fl, tg, inF, tx, tt, op, _, _, _, _, _, _, _, _, _, htr, _⟩ := hco'
    exact cont _ h' tk _ hx (Nat.le_trans hge (Nat.le_of_lt hlt)) htab'.2 ⟨_, rfl⟩ htr
  | some cv =>
    refine wpAny_genexprCode_hit hcode (cd.code hP2 ht) hf ?_
    exact cont cv (s1.heap.push oi) s1.toks ps (Heap.ExtBut.refl _ _) (Nat.le_refl _) hP2 ⟨#[], by simp⟩ ht
end
end AG
set_option Elab.async false
set_option linter.all false
set_option maxRecDepth 100000
set_option maxHeartbeats 2000000
/-! try with any row of clauses: each clause is told by what it answers to an error that has come to rest (Rest), and hands on what it does not take. -/
namespace TC
open PySem PySem.Spec PyProof.Rows L2
abbrev Mo (X : Cx) : Model := model X.prog X.w
/-- the error at a, of the class cls, has left the body and lies in the frame whose clauses now look at it; sI: the state without it -/
structure Rest (X : Cx) (pins : List (Addr × Obj)) (σ : L2.St) (H : Hp) (a : Addr) (cls : Value) (d : Option Addr) (B : Heap) (sI s : Shared) : Prop where
  inv : Inv X pins σ H sI
  kept : ∀ b o, sI.heap.get? b = some o → b ∉ frs X.stack → B.get? b = some o
  up : sI.heap.UpToSlots s.heap
  fresh : H a = none
  os : s.os = sI.os
  bare : AllBare s.gens
  fl : HandSPX.FlyingZ B (X.env :: X.outer) a (Zc cls d) s.heap
/-- what the clauses hds make of it -/
def Clauses (X : Cx) (hds : List ExceptHandler) (W : Ends → WX) : Prop :=
  ∀ (pins : List (Addr × Obj)) (D : Ends) (σ : L2.St) (H : Hp) (a : Addr) (cls : Value) (d : Option Addr) (B : Heap) (sI s : Shared), Rest X pins σ H a cls d B sI s → W D cls d σ H →
    wpAny (Mo X) X.A (handleBy (.ref a) X.env hds) (SP X pins D) X.xe s
section
variable {X Y : Cx} {pins pins' : List (Addr × Obj)} {σ : L2.St} {H : Hp} {a : Addr} {cls : Value} {d : Option Addr} {B : Heap} {sI s : Shared}
theorem sp_carry {D : Ends} {f : Flow} (h : SP Y pins' D f s) (t : ∀ σ H, Inv Y pins' σ H s → Inv X pins σ H s) : SP X pins D f s := by
  cases f with
  | ret u => exact h.elim fun v ⟨σ, H, I, q⟩ => ⟨v, σ, H, t σ H I, q⟩
  | _ => exact h.elim fun σ ⟨H, I, q⟩ => ⟨σ, H, t σ H I, q⟩
theorem Rest.here (R : Rest X pins σ H a cls d B sI s) : Inv X pins σ H s := R.inv.landed R.kept R.fl.1 R.up R.os R.bare
/-- in the suite of a clause the error is one more thing that stands -/
theorem Rest.suite (R : Rest X pins σ H a cls d B sI s) (hf : X.env.frame = some X.env.locals) : ∃ oe, s.heap.get? a = some oe ∧ Zc cls d oe ∧ (∃ vs, oe.data = .fields vs) ∧ Inv (X.suite a ((a, oe) :: (X.pn ++ pins))) [] σ H s := by
  obtain ⟨oe, vs, he, hz, hd⟩ := R.fl.there
  have out : a ∉ frs (X.env :: X.outer) := fun hm => by
    obtain ⟨_, o, e, no⟩ := R.fl.2.2.1.mem hm
    cases he.symm.trans e
    exact no _ hd
  refine ⟨oe, he, hz, ⟨vs, hd⟩, R.here.suite he hd R.fresh (fun z => out ?_) fun hm => out ?_⟩
  · exact List.mem_filterMap.mpr ⟨X.env, .head _, hf.trans (congrArg some z.symm)⟩
  · obtain ⟨e, h1, h2⟩ := List.mem_filterMap.mp hm
    exact List.mem_filterMap.mpr ⟨e, .tail _ h1, h2⟩
theorem Rest.moved {h' : Heap} (R : Rest X pins σ H a cls d B sI s) (fl : HandSPX.FlyingZ B (X.env :: X.outer) a (Zc cls d) h') (up : s.heap.UpToSlots h') : Rest X pins σ H a cls d B sI { s with heap := h' } :=
  { R with up := R.up.trans up, fl := fl }
/-- the word behind except -/
theorem Rest.word (R : Rest X pins σ H a cls d B sI s) (hf : X.env.frame = some X.env.locals) {x : Str} {c : Value} {np : Pos} (hc : Names X x c) {Q : Value → Shared → Prop} {E : Value → Shared → Prop} (q : Q c s) :
    wpAny (Mo X) (X.A.mark (some (.ref a))) (eval (.Name x np) X.env) Q E s := by
  obtain ⟨oe, _, _, _, S⟩ := R.suite hf
  rcases hc with ⟨hg, hb, hm | ⟨hm, hv, hn⟩⟩
  · exact ld_glob S hg hm q hb
  · exact ld_blt S hg hm hv q hn hb
/-- no clause left: on it flies -/
theorem cl_nil {Wout : WX} (hs : X.stack = X.env :: X.outer) (hf : X.env.frame = some X.env.locals) (tk : Takes X Wout) : Clauses X [] fun _ => Wout := fun pins D σ H a cls d B sI s R w => by
  have up : wpAny (Mo X) X.A (setFlight (.ref a) X.env.frame) (fun _ s1 => wpAny (Mo X) X.A (throw (.ref a) : Sem Flow) (SP X pins D) X.xe s1) X.xe s := by
    rw [hf]
    exact HandSPX.setFlight_upZ R.fl fun h1 held up1 => wpAny_throw (tk _ _ ⟨a, B, sI, pins, σ, H, cls, d, rfl, R.inv, R.kept, R.up.trans up1, .inr (.inr (hs ▸ held)), R.fresh, R.os, R.bare, w⟩)
  refine wpAny_handleBy_nil ?_
  unfold PySem.passOn
  obtain ⟨_, _, _, _, _, T, _, _, ho, _, hfields, hat, _⟩ := id R.fl
  refine wpAny_bind (wpAny_field ho hfields hat ?_)
  rw [if_neg (by simp : ¬ ((Value.ref T == Value.none) = true))]
  first
    | exact wpAny_bind (wpAny_pure (wpAny_bind up))
    | exact wpAny_bind up
/-- except x as n: one clause ahead of others -/
theorem cl_as {x n : Str} {c : Value} {i : Nat} {ts : Addr → Value → Option Addr → TS} {b₀ : Stmt} {suite : List Stmt} {np pos : Pos} {hds : List ExceptHandler} {W : Ends → WX} (hf : X.env.frame = some X.env.locals) (hN : X.N.Nodup)
    (hi : X.N[i]? = some n) (hn : X.env.kindOf n = some .local) (hc : Names X x c)
    (hsu : ∀ (a : Addr) (oe : Obj) (cls : Value) (d : Option Addr) (pn : List (Addr × Obj)), Zc cls d oe → (∃ vs, oe.data = .fields vs) → PSs (X.suite a ((a, oe) :: pn)) (b₀ :: suite) (ts a cls d)) (r : Clauses X hds W) :
    Clauses X (.ExceptHandler (some (.Name x np)) (some n) (b₀ :: suite) pos :: hds) fun D => wAs X.K c i ts (W D) D := fun pins D σ H a cls d B sI s R ⟨b, hb, yes, no⟩ => by
  obtain ⟨oe, he, hz, _, _⟩ := R.suite hf
  have ty : PySem.W.Looks (Mo X) s.heap (typeOf (.ref a)) cls := fun A Q E s' k q => wpAny_typeOf_ref (k a oe he) (hz.1 ▸ q)
  have match_ := PySem.W.exm_one (M := Mo X) R.here.kIn ty hb
  refine wpAny_handleBy_cons (codeAny_handlers_test (R.word hf hc (match_.here ?_))) nofun
  cases b with
  | false => exact r pins D σ H a cls d B sI s R (no rfl)
  | true =>
    refine codeAny_handlers_suite_as (HandSPX.lands_againZ R.fl fun h1 fl1 up1 => ?_)
    obtain ⟨o1, e1, z1, f1, S1⟩ := (R.moved fl1 up1).suite hf
    refine store_ok (X := X.suite a ((a, o1) :: (X.pn ++ pins))) (v := .ref a) S1 hN hi (.inl hn) rfl (fun s2 S2 => ?_) (.inr hn)
    refine wpAny_mono ((hsu a o1 cls d _ z1 f1).run [] s2 _ H _ S2 (yes rfl a R.fresh)) (fun f s3 q => ?_) fun _ _ z => z.elim
    have rest : ∀ {σ3 : L2.St} {H3 : Hp} {Q : Shared → Prop}, Inv (X.suite a ((a, o1) :: (X.pn ++ pins))) [] σ3 H3 s3 → (∀ s4, Inv X pins (σ3.set i none) H3 s4 → Q s4) →
        wpAny (Mo X) X.A (do bindName X.env n .none; unbindBehindTheSuite X.env n pos) (fun _ s4 => Q s4) X.xe s3 := fun S3 k => gone_ok (S3.unsuite R.inv.ok) hN hi hn k
    cases f with
    | ret u => exact q.elim fun v ⟨σ3, H3, S3, rv, w⟩ => rest S3 fun s4 J => ⟨v, _, _, J, rv, w⟩
    | next => exact q.elim fun σ3 ⟨H3, S3, w⟩ => rest S3 fun s4 J => ⟨_, _, J, w⟩
    | brk => exact q.elim fun σ3 ⟨H3, S3, w⟩ => rest S3 fun s4 J => ⟨_, _, J, w⟩
    | cont => exact q.elim fun σ3 ⟨H3, S3, w⟩ => rest S3 fun s4 J => ⟨_, _, J, w⟩
/-- try .. except .. : the clauses told as above -/
theorem ps_try_cl {body : List Stmt} {h₀ : ExceptHandler} {hds : List ExceptHandler} {pos : Pos} {tb : WX → TS} {W : Ends → WX} (hs : X.stack = X.env :: X.outer) (hf : X.env.frame = some X.env.locals)
    (hb : ∀ (V : WX) (pn : List (Addr × Obj)) (xe : Value → Shared → Prop), Takes (X.tr pn xe) V → PSs (X.tr pn xe) body (tb V)) (hc : Clauses X (h₀ :: hds) W) :
    PS X (.Try body (h₀ :: hds) [] [] pos) fun D σ H => tb (W D) D σ H := ⟨fun pins s σ H D I h => by
  have hfr : X.A.frames = some (X.env :: X.outer) := I.ok.frames.trans (congrArg some hs)
  refine wpAny_Try_except (wpAny_mono ((hb (W D) (X.pn ++ pins) _ fun u s' x => ?_).run [] s σ H D (I.toTry _) h) (fun f s1 q => ?_) fun _ _ z => z)
  · obtain ⟨a, B, sI, _, σ', H', cls, d, rfl, J, kept, up, sky, na, os, ag, w⟩ := x
    have sky : Sky B (X.env :: X.outer) a (Zc cls d) X.env.locals s'.heap := hs ▸ sky
    exact Sky.land Zc.steady hfr hf sky fun h1 fl up1 => hc pins D σ' H' a cls d B sI _ ⟨J.ofTry I.ok, kept, up.trans up1, na, os, ag, fl⟩ w
  · have q := sp_carry (X := X) (pins := pins) q fun _ _ J => J.ofTry I.ok
    cases f with
    | next => exact wpAny_execs_nil q
    | _ => exact q⟩
end
end TC
namespace DL
open PySem PySem.Spec PyProof.Rows L2
/-- what two clauses with one name wish, one behind the other -/
abbrev wAs2 (K : PySem.W.Frag) (Wout : WX) (i : Nat) (c e : Value) (ts us : Addr → Value → Option Addr → TS) (D : Ends) : WX := wAs K c i ts (wAs K e i us Wout D) D
open Evl (Ex)
section
variable {K : PySem.W.Frag} {T : List Addr} {F0 H0 : Hp} {env : List Sl} {P : Po} {ta : TA} {i j : Nat} {d : D} {G : List D → Res → Prop} {xs : List D}
/-- except X as n, except Y as n: the body one call -/
theorem s_try2 {r : Res} {c e : Value} {ts us : Addr → Value → Option Addr → TS} {Wout : WX} (ha : EvA K T ta env xs) (hG : G xs r) (h1 : ∀ d, r = .ok d → P.nx env)
    (h2 : ∀ cl, r = .bad cl → (PySem.W.exmOne K (.ref cl) c = some true ∧ ∀ a, StD K T F0 H0 (ts a (.ref cl) none) (env.set i (.val (.ref a))) { nx := fun e => P.nx (e.set i .no), rt := P.rt, bk := fun e => P.bk (e.set i .no), ct := fun e => P.ct (e.set i .no), rtE := P.rtE }) ∨
      (PySem.W.exmOne K (.ref cl) c = some false ∧ PySem.W.exmOne K (.ref cl) e = some true ∧ ∀ a, StD K T F0 H0 (us a (.ref cl) none) (env.set i (.val (.ref a))) { nx := fun e => P.nx (e.set i .no), rt := P.rt, bk := fun e => P.bk (e.set i .no), ct := fun e => P.ct (e.set i .no), rtE := P.rtE })) :
    StD K T F0 H0 (fun De σ H => tDrop (tCallS (PrX K T G) (WE (wAs2 K Wout i c e ts us De)) ta) De σ H) env P := fun F H σ o De En =>
  ha F0 H0 F H σ o _ fun v F1 H1 w1 n1 d1 => by
    refine ⟨F1, xs, r, w1, d1, hG, fun d e v3 F3 H3 w3 n3 d3 => En.nx env F3 H3 σ (h1 d e) (o.step w3 (n1.trans w1 n3)) (n1.trans w1 n3).exF, fun cl e F3 H3 w3 n3 => ?_⟩
    have n13 := n1.trans w1 n3
    rcases h2 cl e with ⟨hx, hs⟩ | ⟨hx, hy, hs⟩
    · refine ⟨true, hx, fun _ a _ => ?_, nofun⟩
      have o3 := (o.step w3 n13).put (i := i) (v := .ref a) (x := .val (.ref a)) rfl rfl
      exact hs a F3 H3 _ o3 _ ⟨fun e F' H' σ' p o' x => En.nx _ F' H' _ p (o'.wipe none) (n13.exF.trans x), En.rt, fun e F' H' σ' p o' x => En.bk _ F' H' _ p (o'.wipe none) (n13.exF.trans x), fun e F' H' σ' p o' x => En.ct _ F' H' _ p (o'.wipe none) (n13.exF.trans x), En.rtE⟩
    · refine ⟨false, hx, nofun, fun _ => ⟨true, hy, fun _ a _ => ?_, nofun⟩⟩
      have o3 := (o.step w3 n13).put (i := i) (v := .ref a) (x := .val (.ref a)) rfl rfl
      exact hs a F3 H3 _ o3 _ ⟨fun e F' H' σ' p o' x => En.nx _ F' H' _ p (o'.wipe none) (n13.exF.trans x), En.rt, fun e F' H' σ' p o' x => En.bk _ F' H' _ p (o'.wipe none) (n13.exF.trans x), fun e F' H' σ' p o' x => En.ct _ F' H' _ p (o'.wipe none) (n13.exF.trans x), En.rtE⟩
end
end DL
set_option Elab.async false
set_option linter.all false
set_option maxRecDepth 100000
set_option maxHeartbeats 2000000
/-! The mathematics of settings, wishes, reasons, rules. -/
namespace GM
open PySem PySem.Spec PyProof.Rows L2 DL
/-- a number's lamp -/
def lampI (n : Int) : Int := if n < 0 then -n else n
def lampN (n : Int) : Nat := n.natAbs
theorem lampI_eq (n : Int) : lampI n = (lampN n : Int) := by unfold lampI lampN; split <;> omega
def isSet (n : Int) (s : List Bool) : Bool := decide (0 < lampN n) && decide (lampN n ≤ s.length)
def isSo (n : Int) (s : List Bool) : Bool := isSet n s && decide (s[lampN n - 1]? = some (decide (0 < n)))
def firstSo (w : List Int) (s : List Bool) : Option Int := w.find? fun n => isSo n s
def optI : Option Int → PySem.PyData
  | some n => .int n
  | none => .none
def metB (w : List Int) (s : List Bool) : Bool := w.any fun n => isSo n s
def lostB (w : List Int) (s : List Bool) : Bool := (w.all fun n => isSet n s) && !metB w s
theorem isSet_iff {n : Int} {s : List Bool} : isSet n s = true ↔ 0 < lampN n ∧ lampN n ≤ s.length := by simp [isSet]
theorem metB_find (w : List Int) (s : List Bool) : metB w s = (firstSo w s).isSome := by
  unfold metB firstSo
  rw [Bool.eq_iff_iff, List.find?_isSome, List.any_eq_true]
theorem find_here {p : Int → Bool} : ∀ {l : List Int} {k : Nat} {n : Int}, l[k]? = some n → (l.take k).find? p = none → p n = true → l.find? p = some n
  | [], k, n, h, _, _ => by simp at h
  | a :: l, 0, n, h, _, hp => by
    have e : a = n := Option.some.inj h
    subst e
    exact List.find?_cons_of_pos hp
  | a :: l, k + 1, n, h, hn, hp => by
    have hn : (a :: l.take k).find? p = none := hn
    have ha : p a = false := by
      cases q : p a with
      | false => rfl
      | true => rw [List.find?_cons_of_pos q] at hn; cases hn
    rw [List.find?_cons_of_neg (by simp [ha])] at hn ⊢
    exact find_here (l := l) (k := k) h hn hp
theorem find_more {p : Int → Bool} {l : List Int} {k : Nat} {n : Int} (h : l[k]? = some n) (hn : (l.take k).find? p = none) (hp : p n = false) : (l.take (k + 1)).find? p = none := by
  rw [List.take_add_one, h, List.find?_append, hn]
  simp [hp]
/-- a test of an int, of data -/
def numP (p : Int → Bool) : PySem.PyData → Bool
  | .int n => p n
  | _ => false
theorem all_numP (p : Int → Bool) (v : List Int) : (v.map PySem.PyData.int).all (numP p) = v.all p := by
  rw [List.all_map]
  rfl
/-! numbers, lamp by lamp -/
def riseAt (v : List Int) (l : Int) : List Int := [-1 * l, 1 * l].filter fun n => decide (n ∈ v)
def riseTo (v : List Int) (k : Nat) : List Int := (List.range k).flatMap fun i : Nat => riseAt v (1 + (i : Int))
def rising (v : List Int) : List Int := riseTo v 10
theorem riseTo_succ (v : List Int) (k : Nat) : riseTo v (k + 1) = riseTo v k ++ riseAt v (1 + (k : Int)) := by simp [riseTo, List.range_succ, List.flatMap_append]
theorem riseAt_len (v : List Int) (l : Int) : (riseAt v l).length ≤ 2 := List.length_filter_le _ _
theorem riseTo_len (v : List Int) : ∀ k, (riseTo v k).length ≤ 2 * k
  | 0 => Nat.zero_le _
  | k + 1 => by
    have := riseTo_len v k
    have := riseAt_len v (1 + (k : Int))
    rw [riseTo_succ, List.length_append]
    omega
/-- no lamp twice -/
structure Good (v : List Int) : Prop where
  len : v.length ≤ 50
  in10 : ∀ n ∈ v, n ≠ 0 ∧ lampN n ≤ 10
  one : ∀ n ∈ v, ∀ m ∈ v, lampI n = lampI m → n = m
def kvsOf (v : List Int) : List (Key × V) := v.foldl (fun acc n => putK acc (.inl (lampI n)) (.int n)) []
def lampD : D → Int
  | .int n => lampI n
  | _ => 0
def numD : D → Int
  | .int n => n
  | _ => 0
theorem dc_kvs (v : List Int) : dcOf lampD numD (v.map PyData.int) = kvsOf v := by
  unfold dcOf kvsOf
  rw [List.foldl_map]
  rfl
structure Kept (acc : List (Key × V)) (s : List Int) (ks : List Int) : Prop where
  keys : acc.map (·.1) = ks.map Sum.inl
  nd : ks.Nodup
  mem : ∀ l, l ∈ ks ↔ ∃ n ∈ s, lampI n = l
  len : ks.length ≤ s.length
  val : ∀ n ∈ s, valV acc (.inl (lampI n)) = some (.int n)
theorem put_new {acc : List (Key × V)} {ks : List Int} {l : Int} {y : V} (h : acc.map (·.1) = ks.map Sum.inl) (hl : l ∉ ks) : (putK acc (.inl l) y).map (·.1) = (ks ++ [l]).map Sum.inl := by
  unfold putK
  have e : (acc.any fun kv => decide (kv.1 = (.inl l : Key))) = false := by
    rw [Bool.eq_false_iff]
    intro z
    obtain ⟨p, hp, e⟩ := List.any_eq_true.mp z
    have e : p.1 = .inl l := of_decide_eq_true e
    have : (.inl l : Key) ∈ acc.map (·.1) := e ▸ List.mem_map_of_mem hp
    rw [h] at this
    obtain ⟨m, hm, e⟩ := List.mem_map.mp this
    cases e
    exact hl hm
  rw [if_neg (by rw [e]; decide), List.map_append, h, List.map_append]
  rfl
theorem put_old {acc : List (Key × V)} {ks : List Int} {l : Int} {y : V} (h : acc.map (·.1) = ks.map Sum.inl) (hl : l ∈ ks) : (putK acc (.inl l) y).map (·.1) = ks.map Sum.inl := by
  unfold putK
  have e : (acc.any fun kv => decide (kv.1 = (.inl l : Key))) = true := by
    have : (.inl l : Key) ∈ acc.map (·.1) := by rw [h]; exact List.mem_map_of_mem hl
    obtain ⟨p, hp, e⟩ := List.mem_map.mp this
    exact List.any_eq_true.mpr ⟨p, hp, decide_eq_true e⟩
  rw [if_pos e, List.map_map, ← h]
  refine List.map_congr_left fun p _ => ?_
  show (if p.1 = .inl l then (p.1, y) else p).1 = p.1
  split <;> rfl
theorem Kept.put {acc : List (Key × V)} {s ks : List Int} {n : Int} (K : Kept acc s ks) (h : ∀ m ∈ s, lampI m = lampI n → m = n) : ∃ ks', Kept (putK acc (.inl (lampI n)) (.int n)) (s ++ [n]) ks' := by
  have val : ∀ m ∈ s ++ [n], valV (putK acc (.inl (lampI n)) (.int n)) (.inl (lampI m)) = some (.int m) := fun m hm => by
    rw [valV_put]
    by_cases e : lampI m = lampI n
    · have hmn : m = n := by
        rcases List.mem_append.mp hm with hm | hm
        · exact h m hm e
        · exact List.mem_singleton.mp hm
      rw [if_pos (by rw [e]), hmn]
    · rw [if_neg fun z => e (Sum.inl.inj z)]
      rcases List.mem_append.mp hm with hm | hm
      · exact K.val m hm
      · exact absurd (by rw [List.mem_singleton.mp hm]) e
  by_cases hl : lampI n ∈ ks
  · refine ⟨ks, put_old K.keys hl, K.nd, fun l => ?_, by rw [List.length_append]; exact Nat.le_succ_of_le K.len, val⟩
    rw [K.mem]
    constructor
    · rintro ⟨m, hm, e⟩
      exact ⟨m, List.mem_append_left _ hm, e⟩
    · rintro ⟨m, hm, e⟩
      rcases List.mem_append.mp hm with hm | hm
      · exact ⟨m, hm, e⟩
      · rw [List.mem_singleton.mp hm] at e
        exact (K.mem l).mp (e ▸ hl)
  · refine ⟨ks ++ [lampI n], put_new K.keys hl, ?_, fun l => ?_, by rw [List.length_append, List.length_append]; exact Nat.succ_le_succ K.len, val⟩
    · rw [List.nodup_append]
      refine ⟨K.nd, by simp, fun a ha b hb e => hl ?_⟩
      rw [List.mem_singleton.mp hb] at e
      exact e ▸ ha
    · rw [List.mem_append, List.mem_singleton, K.mem]
      constructor
      · rintro (⟨m, hm, e⟩ | e)
        · exact ⟨m, List.mem_append_left _ hm, e⟩
        · exact ⟨n, by simp, e.symm⟩
      · rintro ⟨m, hm, e⟩
        rcases List.mem_append.mp hm with hm | hm
        · exact .inl ⟨m, hm, e⟩
        · rw [List.mem_singleton.mp hm] at e
          exact .inr e.symm
theorem kept_fold : ∀ (r : List Int) {acc : List (Key × V)} {s ks : List Int}, Kept acc s ks → (∀ n ∈ s ++ r, ∀ m ∈ s ++ r, lampI n = lampI m → n = m) → ∃ ks', Kept (r.foldl (fun acc n => putK acc (.inl (lampI n)) (.int n)) acc) (s ++ r) ks'
  | [], acc, s, ks, K, _ => ⟨ks, by rw [List.append_nil]; exact K⟩
  | n :: r, acc, s, ks, K, h => by
    obtain ⟨ks1, K1⟩ := K.put (n := n) fun m hm e => h m (List.mem_append_left _ hm) n (by simp) e
    have := kept_fold r K1 (by rw [List.append_assoc]; exact h)
    rw [List.append_assoc] at this
    exact this
theorem kept_of {v : List Int} (h : Good v) : ∃ ks, Kept (kvsOf v) v ks := kept_fold v (acc := []) (s := []) (ks := []) ⟨rfl, .nil, fun l => by simp, Nat.le_refl _, fun _ hn => nomatch hn⟩ h.one
/-- the lamps of numbers, rising -/
def lampsOf (v : List Int) : List Int := ((List.range 10).map fun i : Nat => 1 + (i : Int)).filter fun l => decide (l ∈ v ∨ -l ∈ v)
theorem ten_up : ((List.range 10).map fun i : Nat => 1 + (i : Int)).Pairwise (· < ·) := by decide
theorem lampsOf_up (v : List Int) : (lampsOf v).Pairwise (· < ·) := ten_up.filter _
theorem mem_ten {l : Int} : l ∈ ((List.range 10).map fun i : Nat => 1 + (i : Int)) ↔ 1 ≤ l ∧ l ≤ 10 := by
  rw [List.mem_map]
  constructor
  · rintro ⟨i, hi, rfl⟩
    have := List.mem_range.mp hi
    omega
  · rintro ⟨h1, h2⟩
    exact ⟨(l - 1).toNat, List.mem_range.mpr (by omega), by omega⟩
theorem mem_lamps {v : List Int} (h : Good v) {l : Int} : l ∈ lampsOf v ↔ ∃ n ∈ v, lampI n = l := by
  unfold lampsOf
  rw [List.mem_filter, mem_ten, decide_eq_true_iff]
  constructor
  · rintro ⟨⟨h1, h2⟩, hl | hl⟩
    · exact ⟨l, hl, by unfold lampI; split <;> omega⟩
    · exact ⟨-l, hl, by unfold lampI; split <;> omega⟩
  · rintro ⟨n, hn, rfl⟩
    have g := h.in10 n hn
    have e := lampI_eq n
    unfold lampN at e g
    refine ⟨by omega, ?_⟩
    by_cases hs : n < 0
    · right
      have : -lampI n = n := by unfold lampI; rw [if_pos hs]; omega
      rw [this]; exact hn
    · left
      have : lampI n = n := by unfold lampI; rw [if_neg hs]
      rw [this]; exact hn
theorem sorted_same : ∀ {l m : List Int}, l.Pairwise (· < ·) → m.Pairwise (· < ·) → (∀ x, x ∈ l ↔ x ∈ m) → l = m
  | [], [], _, _, _ => rfl
  | [], b :: m, _, _, h => absurd ((h b).mpr (by simp)) (by simp)
  | a :: l, [], _, _, h => absurd ((h a).mp (by simp)) (by simp)
  | a :: l, b :: m, h1, h2, h => by
    rw [List.pairwise_cons] at h1 h2
    have e : a = b := by
      have ha := (h a).mp (by simp)
      have hb := (h b).mpr (by simp)
      rcases List.mem_cons.mp ha with e | ha
      · exact e
      · rcases List.mem_cons.mp hb with e | hb
        · exact e.symm
        · have := h1.1 b hb
          have := h2.1 a ha
          omega
    subst e
    congr 1
    refine sorted_same h1.2 h2.2 fun x => ?_
    constructor
    · intro hx
      rcases List.mem_cons.mp ((h x).mp (List.mem_cons_of_mem _ hx)) with e | z
      · have := h1.1 x hx; omega
      · exact z
    · intro hx
      rcases List.mem_cons.mp ((h x).mpr (List.mem_cons_of_mem _ hx)) with e | z
      · have := h2.1 x hx; omega
      · exact z
theorem sorted_keys {v ks zs : List Int} {acc : List (Key × V)} (h : Good v) (K : Kept acc v ks) (h1 : zs.Perm ks) (h2 : zs.Pairwise (· ≤ ·)) : zs = lampsOf v := by
  have nd : zs.Nodup := h1.nodup_iff.mpr K.nd
  refine sorted_same ?_ (lampsOf_up v) fun x => ?_
  · exact h2.imp₂ (fun a b hab hne => by omega) nd
  · rw [h1.mem_iff, K.mem, mem_lamps h]
/-- the number of a lamp -/
def numOf (v : List Int) (l : Int) : Int := if -l ∈ v then -l else l
theorem numOf_val {v ks : List Int} {acc : List (Key × V)} (h : Good v) (K : Kept acc v ks) {l : Int} (hl : l ∈ lampsOf v) : valV acc (.inl l) = some (.int (numOf v l)) := by
  obtain ⟨n, hn, rfl⟩ := (mem_lamps h).mp hl
  rw [K.val n hn]
  congr 2
  unfold numOf
  split
  · rename_i z
    refine h.one n hn _ z ?_
    unfold lampI
    split <;> split <;> omega
  · rename_i z
    by_cases hs : n < 0
    · exact absurd (by unfold lampI; rw [if_pos hs]; simpa using hn) z
    · unfold lampI
      rw [if_neg hs]
theorem filter_flat {p : Int → Bool} {f : Int → Int} {g : Int → List Int} : ∀ {L : List Int}, (∀ l ∈ L, g l = if p l then [f l] else []) → (L.filter p).map f = L.flatMap g
  | [], _ => rfl
  | l :: L, h => by
    have ih := filter_flat (L := L) fun x hx => h x (List.mem_cons_of_mem _ hx)
    rw [List.flatMap_cons, h l (by simp), ← ih, List.filter_cons]
    split <;> rfl
theorem rising_eq {v : List Int} (h : Good v) : (lampsOf v).map (numOf v) = rising v := by
  unfold lampsOf rising riseTo
  rw [← List.flatMap_map (f := fun i : Nat => 1 + (i : Int)) (g := riseAt v)]
  refine filter_flat fun l hl => ?_
  have hl := mem_ten.mp hl
  unfold riseAt numOf
  have e1 : (-1 : Int) * l = -l := by omega
  have e2 : (1 : Int) * l = l := by omega
  rw [e1, e2]
  by_cases h1 : -l ∈ v
  · have h2 : l ∉ v := fun z => by
      have := h.one l z (-l) h1 (by unfold lampI; split <;> split <;> omega)
      omega
    simp [List.filter_cons, h1, h2]
  · by_cases h2 : l ∈ v
    · simp [List.filter_cons, h1, h2]
    · simp [List.filter_cons, h1, h2]
/-! what is ended -/
def Wish (w : List Int) : Prop := w.length ≤ 10 ∧ ∀ n ∈ w, n ≠ 0 ∧ lampN n ≤ 10
def Wishes (ws : List (List Int)) : Prop := ws.length ≤ 20 ∧ ∀ w ∈ ws, Wish w
def turned (w : List Int) : List Int := w.map fun n => -n
def firsts (ws : List (List Int)) (st : List Bool) : List Int := ws.filterMap fun w => firstSo w st
def ans (ws : List (List Int)) (st : List Bool) : Option (Bool × List Int) :=
  match ws.find? fun w => lostB w st with
  | some w => some (false, rising (turned w))
  | none => if ws.all fun w => metB w st then some (true, rising (firsts ws st)) else none
def ansD : Option (Bool × List Int) → D
  | none => .none
  | some (b, l) => .tuple [.bool b, dInts l]
abbrev wishesD (ws : List (List Int)) : D := .list (ws.map dInts)
theorem so_apart {st : List Bool} {n m : Int} (hn : isSo n st = true) (hm : isSo m st = true) (e : lampI n = lampI m) : n = m := by
  unfold isSo at hn hm
  rw [Bool.and_eq_true, decide_eq_true_iff] at hn hm
  have e' : lampN n = lampN m := by
    have h1 := lampI_eq n
    have h2 := lampI_eq m
    omega
  have h2 := hm.2
  rw [← e', hn.2] at h2
  have h : decide (0 < n) = decide (0 < m) := Option.some.inj h2
  rw [decide_eq_decide] at h
  unfold lampN at e'
  omega
theorem notSo_apart {st : List Bool} {n m : Int} (s : isSet n st = true) (s2 : isSet m st = true) (hn : isSo n st = false) (hm : isSo m st = false) (e : lampI n = lampI m) : n = m := by
  have e' : lampN n = lampN m := by
    have h1 := lampI_eq n
    have h2 := lampI_eq m
    omega
  unfold isSo at hn hm
  rw [s, Bool.true_and, decide_eq_false_iff_not] at hn
  rw [s2, Bool.true_and, decide_eq_false_iff_not, ← e'] at hm
  obtain ⟨h1, h2⟩ := isSet_iff.mp s
  have g : st[lampN n - 1]? = some st[lampN n - 1] := List.getElem?_eq_getElem (by omega)
  rw [g] at hn hm
  have hn : st[lampN n - 1] ≠ decide (0 < n) := fun z => hn (congrArg some z)
  have hm : st[lampN n - 1] ≠ decide (0 < m) := fun z => hm (congrArg some z)
  have h : decide (0 < n) = decide (0 < m) := by
    cases h1 : decide (0 < n) <;> cases h2 : decide (0 < m) <;> simp_all
  rw [decide_eq_decide] at h
  unfold lampN at e'
  omega
theorem lost_iff {w : List Int} {st : List Bool} : lostB w st = true ↔ (∀ n ∈ w, isSet n st = true) ∧ ∀ n ∈ w, isSo n st = false := by
  unfold lostB metB
  rw [Bool.and_eq_true, List.all_eq_true, Bool.not_eq_true', List.any_eq_false]
  simp
theorem good_turned {w : List Int} {st : List Bool} (hw : Wish w) (h : lostB w st = true) : Good (turned w) := by
  obtain ⟨h1, h2⟩ := lost_iff.mp h
  refine ⟨by unfold turned; rw [List.length_map]; have := hw.1; omega, fun n hn => ?_, fun n hn m hm e => ?_⟩
  · obtain ⟨k, hk, rfl⟩ := List.mem_map.mp hn
    have := hw.2 k hk
    unfold lampN at this ⊢
    omega
  · obtain ⟨k, hk, rfl⟩ := List.mem_map.mp hn
    obtain ⟨i, hi, rfl⟩ := List.mem_map.mp hm
    have neg : ∀ x : Int, lampI (-x) = lampI x := fun x => by unfold lampI; split <;> split <;> omega
    rw [neg, neg] at e
    rw [notSo_apart (h1 k hk) (h1 i hi) (h2 k hk) (h2 i hi) e]
theorem firsts_so {ws : List (List Int)} {st : List Bool} {n : Int} (h : n ∈ firsts ws st) : isSo n st = true ∧ ∃ w ∈ ws, n ∈ w := by
  obtain ⟨w, hw, e⟩ := List.mem_filterMap.mp h
  exact ⟨List.find?_some (p := fun n => isSo n st) e, w, hw, List.mem_of_find?_eq_some e⟩
theorem good_firsts {ws : List (List Int)} {st : List Bool} (hw : Wishes ws) : Good (firsts ws st) := by
  refine ⟨Nat.le_trans (List.length_filterMap_le _ _) (by have := hw.1; omega), fun n hn => ?_, fun n hn m hm e => so_apart (firsts_so hn).1 (firsts_so hm).1 e⟩
  obtain ⟨_, w, hw1, hn⟩ := firsts_so hn
  exact (hw.2 w hw1).2 n hn
theorem all_met_firsts {ws : List (List Int)} {st : List Bool} : (ws.all fun w => metB w st) = true → (ws.map fun w => optI (firstSo w st)) = (firsts ws st).map PySem.PyData.int := by
  induction ws with
  | nil => intro _; rfl
  | cons w ws ih =>
    intro h
    rw [List.all_cons, Bool.and_eq_true, metB_find] at h
    obtain ⟨n, hn⟩ := Option.isSome_iff_exists.mp h.1
    show optI (firstSo w st) :: ws.map _ = ((w :: ws).filterMap fun w => firstSo w st).map _
    rw [List.filterMap_cons_some (f := fun w => firstSo w st) hn, hn, ih h.2]
    rfl
/-! the law's own words -/
def soL (w : List Int) (st : List Bool) : List Int := w.filter fun n => isSo n st
def farL (w : List Int) (st : List Bool) : List Int := w.filter fun n => decide (st.length < lampN n)
theorem lost_lists {w : List Int} {st : List Bool} (hw : Wish w) : lostB w st = ((soL w st).isEmpty && (farL w st).isEmpty) := by
  rw [Bool.eq_iff_iff, lost_iff, Bool.and_eq_true, List.isEmpty_iff, List.isEmpty_iff]
  unfold soL farL
  rw [List.filter_eq_nil_iff, List.filter_eq_nil_iff]
  constructor
  · rintro ⟨h1, h2⟩
    refine ⟨fun n hn => by simp [h2 n hn], fun n hn => ?_⟩
    have := (isSet_iff.mp (h1 n hn)).2
    simp only [decide_eq_true_iff]
    omega
  · rintro ⟨h1, h2⟩
    refine ⟨fun n hn => isSet_iff.mpr ?_, fun n hn => by simpa using h1 n hn⟩
    have a := (hw.2 n hn).1
    have b := h2 n hn
    simp only [decide_eq_true_iff] at b
    unfold lampN at b ⊢
    omega
theorem met_list (w : List Int) (st : List Bool) : metB w st = !(soL w st).isEmpty := by
  rw [Bool.eq_iff_iff, Bool.not_eq_true', ← Bool.not_eq_true, List.isEmpty_iff]
  unfold metB soL
  rw [List.filter_eq_nil_iff, List.any_eq_true]
  simp
theorem first_list (w : List Int) (st : List Bool) : (soL w st).take 1 = (firstSo w st).toList := by
  unfold soL firstSo
  rw [← List.head?_filter]
  cases List.filter (fun n => isSo n st) w <;> rfl
def openN (ws : List (List Int)) (st : List Bool) : Nat := (ws.filter fun w => !metB w st).length
theorem firsts_succ {ws : List (List Int)} {st : List Bool} {k : Nat} {w : List Int} (h : ws[k]? = some w) : firsts (ws.take (k + 1)) st = firsts (ws.take k) st ++ (soL w st).take 1 := by
  unfold firsts
  rw [filterMap_take_succ h, first_list]
theorem openN_succ {ws : List (List Int)} {st : List Bool} {k : Nat} {w : List Int} (h : ws[k]? = some w) : openN (ws.take (k + 1)) st = openN (ws.take k) st + if metB w st then 0 else 1 := by
  unfold openN
  rw [List.take_add_one, h, List.filter_append, List.length_append]
  show _ + (List.filter _ [w]).length = _
  cases e : metB w st <;> simp [e]
theorem openN_zero {ws : List (List Int)} {st : List Bool} : openN ws st = 0 ↔ (ws.all fun w => metB w st) = true := by
  unfold openN
  rw [List.length_eq_zero_iff, List.filter_eq_nil_iff, List.all_eq_true]
  simp
theorem none_take_succ {ws : List (List Int)} {st : List Bool} {k : Nat} {w : List Int} (h : ws[k]? = some w) (hn : (ws.take k).find? (fun w => lostB w st) = none) (hp : lostB w st = false) : (ws.take (k + 1)).find? (fun w => lostB w st) = none := by
  rw [List.take_add_one, h, List.find?_append, hn]
  simp [hp]
theorem some_here {ws : List (List Int)} {st : List Bool} {k : Nat} {w : List Int} (h : ws[k]? = some w) (hn : (ws.take k).find? (fun w => lostB w st) = none) (hp : lostB w st = true) : ws.find? (fun w => lostB w st) = some w := by
  have hk : k < ws.length := (List.getElem?_eq_some_iff.mp h).1
  rw [← List.take_append_drop k ws, List.find?_append, hn, Option.none_or, List.drop_eq_getElem_cons hk]
  have e : ws[k] = w := (List.getElem?_eq_some_iff.mp h).2
  rw [e, List.find?_cons_of_pos (p := fun w => lostB w st) hp]
/-! the wishes that a script tells -/
theorem pick_at (l : List Int) (n : Nat) (hn : l.length = n) (h0 : 0 < n) (i : Int) : atI (l.map PySem.PyData.int) (i % (n : Int)) = some (.int (l.getD (i % (n : Int)).toNat 0)) := by
  obtain ⟨k, hk, hkn⟩ := rest_nat i n h0
  rw [hk, Int.toNat_natCast, List.getD_eq_getElem?_getD, List.getElem?_eq_getElem (by omega)]
  exact ints_get (List.getElem?_eq_getElem (by omega))
def mixed (c : Int) : Int := c * 271828182845905 % 1000000000000037
def sizes (c : Int) : List Int := [1, 2, 2, 3, 4 + c / 8 % 6, 3, 0, 10]
def sizeOf' (c : Int) : Int := (sizes c).getD (c % 8).toNat 0
theorem size_ok (c : Int) : ∃ k : Nat, sizeOf' c = (k : Int) ∧ k ≤ 10 := by
  have h6 : 0 ≤ c / 8 % 6 ∧ c / 8 % 6 < 6 := by omega
  have h : 0 ≤ sizeOf' c ∧ sizeOf' c ≤ 10 := by
    unfold sizeOf' sizes
    have h : c % 8 = 0 ∨ c % 8 = 1 ∨ c % 8 = 2 ∨ c % 8 = 3 ∨ c % 8 = 4 ∨ c % 8 = 5 ∨ c % 8 = 6 ∨ c % 8 = 7 := by omega
    rcases h with h | h | h | h | h | h | h | h <;> rw [h]
    · show (0 : Int) ≤ 1 ∧ (1 : Int) ≤ 10; omega
    · show (0 : Int) ≤ 2 ∧ (2 : Int) ≤ 10; omega
    · show (0 : Int) ≤ 2 ∧ (2 : Int) ≤ 10; omega
    · show (0 : Int) ≤ 3 ∧ (3 : Int) ≤ 10; omega
    · show (0 : Int) ≤ 4 + c / 8 % 6 ∧ 4 + c / 8 % 6 ≤ (10 : Int); omega
    · show (0 : Int) ≤ 3 ∧ (3 : Int) ≤ 10; omega
    · show (0 : Int) ≤ 0 ∧ (0 : Int) ≤ 10; omega
    · show (0 : Int) ≤ 10 ∧ (10 : Int) ≤ 10; omega
  exact ⟨(sizeOf' c).toNat, by omega, by omega⟩
def down (c q : Int) : Nat → Int
  | 0 => c
  | k + 1 => down c q k / q
def num (c m : Int) : Int := if c / m % 2 = 1 then -(1 + c % m) else 1 + c % m
def nums (c : Int) (m k : Nat) : List Int := (List.range k).map fun i => num (down c (2 * (m : Int)) i) (m : Int)
theorem nums_len (c : Int) (m k : Nat) : (nums c m k).length = k := by simp [nums]
theorem nums_succ (c : Int) (m k : Nat) : nums c m (k + 1) = nums c m k ++ [num (down c (2 * (m : Int)) k) (m : Int)] := by simp [nums, List.range_succ]
def wishOf (c : Int) (m : Nat) : List Int := if 0 < m then nums (mixed c / 48) m (sizeOf' (mixed c)).toNat else []
theorem wishOf_ok {c : Int} {m : Nat} (hm : m ≤ 10) : Wish (wishOf c m) := by
  unfold wishOf
  split
  · rename_i h0
    obtain ⟨k, hk, hk10⟩ := size_ok (mixed c)
    refine ⟨by rw [nums_len, hk, Int.toNat_natCast]; exact hk10, fun n hn => ?_⟩
    obtain ⟨i, _, rfl⟩ := List.mem_map.mp hn
    have h1 : 0 ≤ down (mixed c / 48) (2 * (m : Int)) i % (m : Int) := Int.emod_nonneg _ (by omega)
    have h2 : down (mixed c / 48) (2 * (m : Int)) i % (m : Int) < (m : Int) := Int.emod_lt_of_pos _ (by omega)
    unfold num lampN
    split <;> omega
  · exact ⟨Nat.zero_le _, fun n hn => nomatch hn⟩
def countOf (ns : List Int) : Int := if cellAt ns 0 / 99 % 8 = 1 then 9 + cellAt ns 0 / 792 % 12 else cellAt ns 0 / 11 % 9
theorem count_ok (ns : List Int) : ∃ k : Nat, countOf ns = (k : Int) ∧ k ≤ 20 := by
  have h : 0 ≤ countOf ns ∧ countOf ns ≤ 20 := by unfold countOf; split <;> omega
  exact ⟨(countOf ns).toNat, by omega, by omega⟩
def wishesOf (ns : List Int) (m : Nat) : List (List Int) := (List.range (countOf ns).toNat).map fun k => wishOf (cellAt ns (3 + k) + 7919 * (k : Int)) m
theorem wishesOf_ok {ns : List Int} {m : Nat} (hm : m ≤ 10) : Wishes (wishesOf ns m) := by
  obtain ⟨k, hk, hk20⟩ := count_ok ns
  refine ⟨by unfold wishesOf; rw [List.length_map, List.length_range, hk, Int.toNat_natCast]; exact hk20, fun w hw => ?_⟩
  obtain ⟨i, _, rfl⟩ := List.mem_map.mp hw
  exact wishOf_ok hm
/-! shapes -/
theorem lay_wishes : ∀ ws : List (List Int), PySem.PyData.canLayAll0 (ws.map dInts) = true
  | [] => by simp [PySem.PyData.canLayAll0]
  | w :: ws => by simp [PySem.PyData.canLayAll0, PySem.PyData.canLay0, lay_ints, lay_wishes ws]
theorem dep_wishes : ∀ ws : List (List Int), PySem.PyData.depthAll (ws.map dInts) ≤ 1
  | [] => by simp [PySem.PyData.depthAll]
  | w :: ws => by
    have := dep_wishes ws
    simp only [List.map_cons, PySem.PyData.depthAll, PySem.PyData.depth, dep_ints]
    omega
theorem shaped_wishes (ws : List (List Int)) : SeqAt.shaped (wishesD ws) = true := by
  refine shaped_iff.mpr ⟨by simp [PySem.PyData.canLay0, lay_wishes], ?_⟩
  have := dep_wishes ws
  simp only [PySem.PyData.depth]
  omega
theorem shaped_ans (a : Option (Bool × List Int)) : SeqAt.shaped (ansD a) = true := by
  refine shaped_iff.mpr ?_
  rcases a with _ | ⟨b, l⟩
  · simp [ansD, PySem.PyData.canLay0, PySem.PyData.depth]
  · simp [ansD, PySem.PyData.canLay0, PySem.PyData.canLayAll0, PySem.PyData.depth, PySem.PyData.depthAll, lay_ints, dep_ints]
theorem eqv_nil (l : List Int) : PySem.PyData.eqv (dInts l) (dInts []) = l.isEmpty := by cases l <;> simp [PySem.PyData.eqv, PySem.PyData.eqvAll]
/-! data for the comprehensions -/
def negD : D → D
  | .int n => .int (-n)
  | d => d
def numsD : D → List Int
  | .list l => l.map numD
  | _ => []
theorem numsD_ints (w : List Int) : numsD (dInts w) = w := by
  show (w.map PySem.PyData.int).map numD = w
  rw [List.map_map]
  exact List.map_id w
theorem map_neg (w : List Int) : (w.map PySem.PyData.int).map negD = (turned w).map PySem.PyData.int := by
  unfold turned
  rw [List.map_map, List.map_map]
  rfl
theorem all_metD (ws : List (List Int)) (st : List Bool) : ((ws.map dInts).all fun d => metB (numsD d) st) = ws.all fun w => metB w st := by
  rw [List.all_map]
  congr 1
  funext w
  show metB (numsD (dInts w)) st = _
  rw [numsD_ints]
theorem map_firsts (ws : List (List Int)) (st : List Bool) : (ws.map dInts).map (fun d => optI (firstSo (numsD d) st)) = ws.map fun w => optI (firstSo w st) := by
  rw [List.map_map]
  refine List.map_congr_left fun w _ => ?_
  show optI (firstSo (numsD (dInts w)) st) = _
  rw [numsD_ints]
theorem lc_filter (w : List Int) (p : Int → Bool) : (w.map PySem.PyData.int).filterMap (fun d => if p (numD d) then some d else none) = (w.filter p).map PySem.PyData.int := by
  rw [List.filterMap_map, ← List.filterMap_eq_filter, List.map_filterMap]
  refine congrArg (fun f => List.filterMap f w) (funext fun n => ?_)
  show (if p n then some (PySem.PyData.int n) else none) = Option.map PySem.PyData.int (Option.guard p n)
  unfold Option.guard
  cases p n <;> rfl
theorem lc_filter' (w : List Int) (p : Int → Prop) [DecidablePred p] : (w.map PySem.PyData.int).filterMap (fun d => if p (numD d) then some d else none) = (w.filter fun n => decide (p n)).map PySem.PyData.int := by
  have e : (fun d => if p (numD d) then some d else none) = (fun d => if (decide (p (numD d))) = true then some d else none) := by
    funext d
    by_cases h : p (numD d) <;> simp [h]
  rw [e]
  exact lc_filter w fun n => decide (p n)
inductive Ru where
  | fin
  | set (v : Bool) (r : Ru)
  | see (a b : Ru)
def ruD : Ru → D
  | .fin => .tuple [.str "end"]
  | .set v r => .tuple [.str "set", .bool v, ruD r]
  | .see a b => .tuple [.str "see", ruD a, ruD b]
def dep : Ru → Nat
  | .fin => 0
  | .set _ r => dep r + 1
  | .see a b => max (dep a) (dep b) + 1
def pre (v : Bool) (p : List Bool × List Bool) : List Bool × List Bool := (v :: p.1, p.2)
/-- the values, and what is left of the row -/
def run : Ru → List Bool → Option (List Bool × List Bool)
  | .fin, row => some ([], row)
  | .set v r, row => (run r row).map (pre v)
  | .see _ _, [] => none
  | .see a b, x :: row => (run (if x then b else a) row).map (pre x)
termination_by r => dep r
decreasing_by
  · simp [dep]
  · cases x <;> simp [dep] <;> omega
theorem run_fin (row : List Bool) : run .fin row = some ([], row) := by rw [run]
theorem run_set (v : Bool) (r : Ru) (row : List Bool) : run (.set v r) row = (run r row).map (pre v) := by rw [run]
theorem run_none (a b : Ru) : run (.see a b) [] = none := by rw [run]
theorem run_see (a b : Ru) (x : Bool) (row : List Bool) : run (.see a b) (x :: row) = (run (if x then b else a) row).map (pre x) := by rw [run]
def whole : Option (List Bool × List Bool) → Option (List Bool)
  | some (vs, []) => some vs
  | _ => none
def playR (C : Addr) (r : Ru) (row : List Bool) : Res :=
  match whole (run r row) with
  | some vs => .ok (dBools vs)
  | none => .bad C
def more (done : List Bool) (p : List Bool × List Bool) : List Bool × List Bool := (done ++ p.1, p.2)
theorem more_pre (done : List Bool) (v : Bool) (o : Option (List Bool × List Bool)) : (o.map (pre v)).map (more done) = o.map (more (done ++ [v])) := by
  rw [Option.map_map]
  refine congrArg (fun f => Option.map f o) (funext fun p => ?_)
  show (done ++ v :: p.1, p.2) = (done ++ [v] ++ p.1, p.2)
  rw [List.append_assoc]
  rfl
def sees : Ru → Nat
  | .fin => 0
  | .set _ r => sees r
  | .see a _ => sees a + 1
def Uni : Ru → Prop
  | .fin => True
  | .set _ r => Uni r
  | .see a b => Uni a ∧ Uni b ∧ sees a = sees b
theorem dep_pick (a b : Ru) (x : Bool) : dep (if x then b else a) < dep (.see a b) := by cases x <;> simp [dep] <;> omega
theorem uni_pick {a b : Ru} (h : Uni (.see a b)) (x : Bool) : Uni (if x then b else a) ∧ sees (if x then b else a) = sees a := by
  obtain ⟨h1, h2, h3⟩ := h
  cases x
  · exact ⟨h1, rfl⟩
  · exact ⟨h2, h3.symm⟩
/-- as the law tells it -/
def due : Ru → List Bool → List Bool
  | .fin, _ => []
  | .set v r, row => v :: due r row
  | .see _ _, [] => []
  | .see a b, x :: row => x :: due (if x then b else a) row
termination_by r => dep r
decreasing_by
  · simp [dep]
  · cases x <;> simp [dep] <;> omega
theorem due_fin (row : List Bool) : due .fin row = [] := by rw [due]
theorem due_set (v : Bool) (r : Ru) (row : List Bool) : due (.set v r) row = v :: due r row := by rw [due]
theorem due_see (a b : Ru) (x : Bool) (row : List Bool) : due (.see a b) (x :: row) = x :: due (if x then b else a) row := by rw [due]
theorem run_is : ∀ (n : Nat) (r : Ru) (row : List Bool), dep r ≤ n → Uni r → run r row = if row.length < sees r then none else some (due r row, row.drop (sees r))
  | n, .fin, row, _, _ => by rw [run_fin, due_fin, if_neg (by simp [sees])]; rfl
  | 0, .set v r, row, h, _ => by simp [dep] at h
  | 0, .see a b, row, h, _ => by simp [dep] at h
  | n + 1, .set v r, row, h, hu => by
    rw [run_set, run_is n r row (by simp [dep] at h; omega) hu, due_set]
    show _ = if row.length < sees r then none else some (v :: due r row, row.drop (sees r))
    split <;> rfl
  | n + 1, .see a b, [], _, _ => by
    rw [run_none, if_pos (by simp [sees])]
  | n + 1, .see a b, x :: row, h, hu => by
    have d := dep_pick a b x
    obtain ⟨u, s⟩ := uni_pick hu x
    rw [run_see, run_is n _ row (by omega) u, due_see, s]
    show _ = if row.length + 1 < sees a + 1 then none else some (x :: due (if x then b else a) row, row.drop (sees a))
    by_cases c : row.length < sees a
    · rw [if_pos c, if_pos (show row.length + 1 < sees a + 1 by omega)]; rfl
    · rw [if_neg c, if_neg (show ¬ row.length + 1 < sees a + 1 by omega)]; rfl
theorem play_ok {C : Addr} {r : Ru} {row : List Bool} (h : Uni r) (e : row.length = sees r) : playR C r row = .ok (dBools (due r row)) := by
  unfold playR
  rw [run_is _ r row (Nat.le_refl _) h, if_neg (by omega), ← e, List.drop_length]
  rfl
theorem play_bad {C : Addr} {r : Ru} {row : List Bool} (h : Uni r) (e : row.length ≠ sees r) : playR C r row = .bad C := by
  unfold playR
  rw [run_is _ r row (Nat.le_refl _) h]
  by_cases c : row.length < sees r
  · rw [if_pos c]; rfl
  · rw [if_neg c]
    have e2 : row.drop (sees r) ≠ [] := fun z => by
      have := congrArg List.length z
      rw [List.length_drop] at this
      simp at this
      omega
    cases q : row.drop (sees r) with
    | nil => exact absurd q e2
    | cons b l => rfl
/-- the rules that a script tells -/
def rules (ns : List Int) : Nat → Ru × Ru
  | 0 => (.fin, .fin)
  | k + 1 =>
    if (cellAt ns (3 + k) + 3 * (k : Int)) % 2 = 1 then (.set (decide ((cellAt ns (3 + k) + 3 * (k : Int)) / 2 % 2 = 1)) (rules ns k).1, .set (decide ((cellAt ns (3 + k) + 3 * (k : Int)) / 4 % 2 = 1)) (rules ns k).2)
    else if (cellAt ns (3 + k) + 3 * (k : Int)) / 2 % 2 = 1 then (.see (rules ns k).2 (rules ns k).1, .see (rules ns k).1 (rules ns k).2)
    else (.see (rules ns k).1 (rules ns k).2, .see (rules ns k).2 (rules ns k).1)
theorem rules_ok (ns : List Int) : ∀ k, Uni (rules ns k).1 ∧ Uni (rules ns k).2 ∧ sees (rules ns k).1 = sees (rules ns k).2 ∧ dep (rules ns k).1 = k ∧ dep (rules ns k).2 = k
  | 0 => ⟨trivial, trivial, rfl, rfl, rfl⟩
  | k + 1 => by
    obtain ⟨h1, h2, h3, h4, h5⟩ := rules_ok ns k
    rw [rules]
    split
    · exact ⟨h1, h2, h3, by simp [dep, h4], by simp [dep, h5]⟩
    · split
      · exact ⟨⟨h2, h1, h3.symm⟩, ⟨h1, h2, h3⟩, by simp [sees, h3], by simp [dep, h4, h5], by simp [dep, h4, h5]⟩
      · exact ⟨⟨h1, h2, h3⟩, ⟨h2, h1, h3.symm⟩, by simp [sees, h3], by simp [dep, h4, h5], by simp [dep, h4, h5]⟩
end GM
set_option Elab.async false
set_option linter.all false
set_option maxRecDepth 100000
set_option maxHeartbeats 2000000
/-! Going through a game: what is told, and that it holds. The setters: True where the lamp is the friend's. -/
namespace GM
open PySem PySem.Spec PyProof.Rows L2 DL

/-! ### numbers in settings -/
theorem so_set {n : Int} {st : List Bool} (h : isSo n st = true) : 0 < lampN n ∧ lampN n ≤ st.length := by
  unfold isSo at h
  rw [Bool.and_eq_true] at h
  exact isSet_iff.mp h.1
theorem so_iff {n : Int} {st : List Bool} : isSo n st = true ↔ 0 < lampN n ∧ st[lampN n - 1]? = some (decide (0 < n)) := by
  unfold isSo
  rw [Bool.and_eq_true, isSet_iff, decide_eq_true_iff]
  constructor
  · exact fun h => ⟨h.1.1, h.2⟩
  · intro h
    have := (List.getElem?_eq_some_iff.mp h.2).1
    exact ⟨⟨h.1, by omega⟩, h.2⟩
theorem so_app {n : Int} {st : List Bool} (ext : List Bool) (h : isSo n st = true) : isSo n (st ++ ext) = true := by
  have hs := so_set h
  obtain ⟨h1, h2⟩ := so_iff.mp h
  refine so_iff.mpr ⟨h1, ?_⟩
  rw [List.getElem?_append_left (by omega)]
  exact h2
theorem so_back {n : Int} {st ext : List Bool} (hl : lampN n ≤ st.length) (h : isSo n (st ++ ext) = true) : isSo n st = true := by
  obtain ⟨h1, h2⟩ := so_iff.mp h
  rw [List.getElem?_append_left (by omega)] at h2
  exact so_iff.mpr ⟨h1, h2⟩
theorem so_last {n : Int} {st : List Bool} {v : Bool} (hl : lampN n = st.length + 1) : isSo n (st ++ [v]) = decide (decide (0 < n) = v) := by
  rw [Bool.eq_iff_iff, so_iff, decide_eq_true_iff, hl, Nat.add_sub_cancel, List.getElem?_append_right (Nat.le_refl _), Nat.sub_self]
  show 0 < st.length + 1 ∧ some v = some (decide (0 < n)) ↔ _
  constructor
  · rintro ⟨_, h⟩
    exact (Option.some.inj h).symm
  · intro h
    exact ⟨Nat.succ_pos _, congrArg some h.symm⟩
theorem neg_lamp (n : Int) : lampN (-n) = lampN n := by unfold lampN; omega
/-- the other sign is so just where the lamp is set and the number is not so -/
theorem so_neg {n : Int} {st : List Bool} (h0 : n ≠ 0) : isSo (-n) st = (isSet n st && !isSo n st) := by
  rw [Bool.eq_iff_iff, so_iff, neg_lamp, Bool.and_eq_true, Bool.not_eq_true', ← Bool.not_eq_true, so_iff, isSet_iff]
  constructor
  · rintro ⟨h1, h2⟩
    have := (List.getElem?_eq_some_iff.mp h2).1
    refine ⟨⟨h1, by omega⟩, fun ⟨_, z⟩ => ?_⟩
    rw [h2] at z
    have z := Option.some.inj z
    rw [decide_eq_decide] at z
    omega
  · rintro ⟨⟨h1, h2⟩, h3⟩
    refine ⟨h1, ?_⟩
    have g : st[lampN n - 1]? = some st[lampN n - 1] := List.getElem?_eq_getElem (by omega)
    rw [g] at h3 ⊢
    have h4 : st[lampN n - 1] ≠ decide (0 < n) := fun z => h3 ⟨h1, congrArg some z⟩
    congr 1
    cases q : st[lampN n - 1] <;> rw [q] at h4
    · have h4 : decide (0 < n) = true := by
        cases r : decide (0 < n)
        · rw [r] at h4; exact absurd rfl h4
        · rfl
      have : 0 < n := of_decide_eq_true h4
      rw [decide_eq_false (by omega)]
    · have h4 : decide (0 < n) = false := by
        cases r : decide (0 < n)
        · rfl
        · rw [r] at h4; exact absurd rfl h4
      have : ¬ 0 < n := of_decide_eq_false h4
      rw [decide_eq_true (by omega)]
theorem met_app {w : List Int} {st : List Bool} (ext : List Bool) (h : metB w st = true) : metB w (st ++ ext) = true := by
  unfold metB at h ⊢
  rw [List.any_eq_true] at h ⊢
  obtain ⟨n, hn, h⟩ := h
  exact ⟨n, hn, so_app ext h⟩
theorem lost_app {w : List Int} {st : List Bool} (hw : Wish w) (ext : List Bool) (h : lostB w st = true) : metB w (st ++ ext) = false := by
  obtain ⟨h1, h2⟩ := lost_iff.mp h
  unfold metB
  rw [List.any_eq_false]
  intro n hn z
  have hl := (isSet_iff.mp (h1 n hn)).2
  have := so_back hl z
  rw [h2 n hn] at this
  cases this
/-! ### rising lists -/
theorem mem_riseAt {v : List Int} {l n : Int} : n ∈ riseAt v l ↔ n ∈ v ∧ (n = -l ∨ n = l) := by
  unfold riseAt
  rw [List.mem_filter, decide_eq_true_iff]
  simp only [List.mem_cons, List.not_mem_nil, or_false]
  constructor
  · rintro ⟨h | h, hv⟩
    · exact ⟨hv, .inl (by omega)⟩
    · exact ⟨hv, .inr (by omega)⟩
  · rintro ⟨hv, h | h⟩
    · exact ⟨.inl (by omega), hv⟩
    · exact ⟨.inr (by omega), hv⟩
theorem mem_rising {v : List Int} {n : Int} : n ∈ rising v ↔ n ∈ v ∧ 1 ≤ lampN n ∧ lampN n ≤ 10 := by
  unfold rising riseTo
  rw [List.mem_flatMap]
  constructor
  · rintro ⟨i, hi, h⟩
    have hi := List.mem_range.mp hi
    obtain ⟨hv, h⟩ := mem_riseAt.mp h
    refine ⟨hv, ?_⟩
    unfold lampN
    omega
  · rintro ⟨hv, h1, h2⟩
    refine ⟨lampN n - 1, List.mem_range.mpr (by omega), mem_riseAt.mpr ⟨hv, ?_⟩⟩
    unfold lampN at h1 h2 ⊢
    omega
/-- each lamp once, rising -/
def Up (v : List Int) : Prop := v.Pairwise fun a b => lampN a < lampN b
theorem up_filter {v : List Int} (p : Int → Bool) (h : Up v) : Up (v.filter p) := List.Pairwise.filter p h
theorem up_riseTo {v : List Int} (h : Good v) : ∀ k, k ≤ 10 → Up (riseTo v k)
  | 0, _ => .nil
  | k + 1, hk => by
    rw [riseTo_succ]
    refine List.pairwise_append.mpr ⟨up_riseTo h k (by omega), ?_, fun a ha b hb => ?_⟩
    · unfold riseAt
      by_cases h1 : -1 * (1 + (k : Int)) ∈ v
      · by_cases h2 : 1 * (1 + (k : Int)) ∈ v
        · have e := h.one _ h1 _ h2 (by unfold lampI; split <;> split <;> omega)
          omega
        · rw [List.filter_cons_of_pos (by simpa using h1), List.filter_cons_of_neg (by simpa using h2)]
          exact List.pairwise_singleton _ _
      · rw [List.filter_cons_of_neg (by simpa using h1)]
        by_cases h2 : 1 * (1 + (k : Int)) ∈ v
        · rw [List.filter_cons_of_pos (by simpa using h2)]
          exact List.pairwise_singleton _ _
        · rw [List.filter_cons_of_neg (by simpa using h2)]
          exact .nil
    · unfold riseTo at ha
      obtain ⟨i, hi, ha⟩ := List.mem_flatMap.mp ha
      have hi := List.mem_range.mp hi
      have ha := (mem_riseAt.mp ha).2
      have hb := (mem_riseAt.mp hb).2
      unfold lampN
      omega
theorem up_rising {v : List Int} (h : Good v) : Up (rising v) := up_riseTo h 10 (Nat.le_refl _)
/-! ### going through a game -/
structure Out where
  friend : Bool
  rule : Ru
  hung : List Int
structure Fact where
  at_ : Nat
  nums : List Int
  friend : Bool
  rule : Ru
def idleRu (f : Bool) : List Bool → Ru
  | [] => .fin
  | c :: cs => if c = f then .set false (idleRu f cs) else .see (idleRu f cs) (idleRu f cs)
def fits (st : List Bool) (F : Fact) : Bool := decide (F.at_ = st.length) && F.nums.all fun n => isSo n st
def butFor (k : Nat) (v : List Int) : List Int := v.filter fun n => decide (lampN n ≤ k)
def early (ws : List (List Int)) (rest st : List Bool) (facts : List Fact) : Option Out :=
  match ans ws st with
  | some (f, r) => some ⟨f, idleRu f rest, r⟩
  | none => (facts.find? (fits st)).map fun F => ⟨F.friend, F.rule, F.nums⟩
/-- what comes of what was tried: off, and on where it is tried -/
def joinOff (own : Bool) (k : Nat) (off : Out) : Option Out :=
  if off.friend = own then some ⟨own, .set false off.rule, butFor k off.hung⟩
  else if (-1 - (k : Int)) ∈ off.hung then none
  else some ⟨off.friend, .see off.rule off.rule, off.hung⟩
def joinOn (own : Bool) (k : Nat) (off on : Out) : Out :=
  if on.friend = own then ⟨own, .set true on.rule, butFor k on.hung⟩
  else if (1 + (k : Int)) ∈ on.hung then ⟨off.friend, .see off.rule on.rule, rising (butFor k (off.hung ++ on.hung))⟩
  else ⟨on.friend, .see on.rule on.rule, on.hung⟩
def gone (ws : List (List Int)) : List Bool → List Bool → List Fact → Out × List Fact
  | [], st, facts => ((early ws [] st facts).getD ⟨false, .fin, []⟩, facts)
  | own :: rest, st, facts =>
    match early ws (own :: rest) st facts with
    | some o => (o, facts)
    | none =>
      let off := gone ws rest (st ++ [false]) facts
      match joinOff own st.length off.1 with
      | some o => (o, off.2 ++ [⟨st.length, o.hung, o.friend, o.rule⟩])
      | none =>
        let on := gone ws rest (st ++ [true]) off.2
        let o := joinOn own st.length off.1 on.1
        (o, on.2 ++ [⟨st.length, o.hung, o.friend, o.rule⟩])
/-- the rule wins for the side f from the setting st on -/
def Wins (ws : List (List Int)) (f : Bool) : List Bool → List Bool → Ru → Prop
  | [], st, .fin => (ws.all fun w => metB w st) = f
  | own :: rest, st, .set v r => own = f ∧ Wins ws f rest (st ++ [v]) r
  | own :: rest, st, .see a b => own ≠ f ∧ Wins ws f rest (st ++ [false]) a ∧ Wins ws f rest (st ++ [true]) b
  | _, _, _ => False
/-- it wins from every setting of as many lamps in which the numbers are so -/
def Sure (ws : List (List Int)) (rest : List Bool) (k : Nat) (f : Bool) (r : Ru) (v : List Int) : Prop := ∀ st : List Bool, st.length = k → (∀ n ∈ v, isSo n st = true) → Wins ws f rest st r
structure OutOk (ws : List (List Int)) (rest st : List Bool) (o : Out) : Prop where
  sure : Sure ws rest st.length o.friend o.rule o.hung
  so : ∀ n ∈ o.hung, isSo n st = true
  up : Up o.hung
structure FactOk (ws : List (List Int)) (setters : List Bool) (F : Fact) : Prop where
  at_lt : F.at_ < setters.length
  sure : Sure ws (setters.drop F.at_) F.at_ F.friend F.rule F.nums
  lamps : ∀ n ∈ F.nums, 1 ≤ lampN n ∧ lampN n ≤ F.at_
  up : Up F.nums
theorem wins_idle {ws : List (List Int)} {f : Bool} : ∀ (rest st : List Bool), (∀ ext : List Bool, ext.length = rest.length → (ws.all fun w => metB w (st ++ ext)) = f) → Wins ws f rest st (idleRu f rest)
  | [], st, h => by
    have := h [] rfl
    rw [List.append_nil] at this
    exact this
  | c :: cs, st, h => by
    have step : ∀ v : Bool, Wins ws f cs (st ++ [v]) (idleRu f cs) := fun v => wins_idle cs (st ++ [v]) fun ext he => by
      rw [List.append_assoc]
      exact h (v :: ext) (by simp [he])
    unfold idleRu
    split
    · rename_i e
      exact ⟨e, step false⟩
    · rename_i e
      exact ⟨e, step false, step true⟩
/-- what is ended -/
theorem ended_ok {ws : List (List Int)} (hw : Wishes ws) {rest st : List Bool} {f : Bool} {r : List Int} (h : ans ws st = some (f, r)) : OutOk ws rest st ⟨f, idleRu f rest, r⟩ := by
  unfold ans at h
  split at h
  · rename_i w hf
    have hl : lostB w st = true := List.find?_some (p := fun w => lostB w st) hf
    have hm : w ∈ ws := List.mem_of_find?_eq_some hf
    have hwi := hw.2 w hm
    cases h
    have so : ∀ n ∈ rising (turned w), ∃ m ∈ w, n = -m := fun n hn => by
      obtain ⟨m, hm, e⟩ := List.mem_map.mp (mem_rising.mp hn).1
      exact ⟨m, hm, e.symm⟩
    obtain ⟨l1, l2⟩ := lost_iff.mp hl
    refine ⟨fun st' hst' hso => wins_idle rest st' fun ext he => ?_, fun n hn => ?_, up_rising (good_turned hwi hl)⟩
    · rw [List.all_eq_false]
      refine ⟨w, hm, ?_⟩
      rw [Bool.not_eq_true]
      refine lost_app hwi ext (lost_iff.mpr ⟨fun n hn => ?_, fun n hn => ?_⟩)
      · have := isSet_iff.mp (l1 n hn)
        exact isSet_iff.mpr ⟨this.1, by omega⟩
      · have hi := hwi.2 n hn
        have := hso (-n) (mem_rising.mpr ⟨List.mem_map_of_mem hn, by rw [neg_lamp]; unfold lampN at hi ⊢; omega, by rw [neg_lamp]; exact hi.2⟩)
        rw [so_neg hi.1, Bool.and_eq_true, Bool.not_eq_true'] at this
        exact this.2
    · obtain ⟨m, hm1, rfl⟩ := so n hn
      rw [so_neg (hwi.2 m hm1).1, l1 m hm1, l2 m hm1]
      rfl
  · split at h
    · rename_i hall
      cases h
      refine ⟨fun st' hst' hso => wins_idle rest st' fun ext he => ?_, fun n hn => (firsts_so (mem_rising.mp hn).1).1, up_rising (good_firsts hw)⟩
      rw [List.all_eq_true] at hall ⊢
      intro w hwm
      have hm := hall w hwm
      refine met_app ext ?_
      rw [metB_find] at hm
      obtain ⟨n, hn⟩ := Option.isSome_iff_exists.mp hm
      have hnw : n ∈ w := List.mem_of_find?_eq_some hn
      have hi := (hw.2 w hwm).2 n hnw
      have := hso n (mem_rising.mpr ⟨List.mem_filterMap.mpr ⟨w, hwm, hn⟩, by unfold lampN at hi ⊢; omega, hi.2⟩)
      unfold metB
      exact List.any_eq_true.mpr ⟨n, hnw, this⟩
    · cases h
/-- a whole setting is ended -/
theorem ended_whole {ws : List (List Int)} {st : List Bool} (hl : ∀ w ∈ ws, ∀ n ∈ w, n ≠ 0 ∧ lampN n ≤ st.length) : ∃ p, ans ws st = some p := by
  unfold ans
  split
  · exact ⟨_, rfl⟩
  · rename_i hf
    rw [List.find?_eq_none] at hf
    rw [if_pos]
    · exact ⟨_, rfl⟩
    · rw [List.all_eq_true]
      intro w hw
      cases q : metB w st with
      | true => rfl
      | false =>
        refine absurd ?_ (hf w hw)
        unfold lostB
        rw [q, Bool.not_false, Bool.and_true, List.all_eq_true]
        intro n hn
        have := hl w hw n hn
        exact isSet_iff.mpr ⟨by unfold lampN; omega, this.2⟩
/-- the setters ahead are not asked for -/
theorem so_of_last {n : Int} {st : List Bool} {v : Bool} (h : isSo n (st ++ [v]) = true) : isSo n st = true ∨ (lampN n = st.length + 1 ∧ decide (0 < n) = v) := by
  have hs := so_set h
  rw [List.length_append] at hs
  by_cases c : lampN n ≤ st.length
  · exact .inl (so_back c h)
  · have e : lampN n = st.length + 1 := by
      have : ([v] : List Bool).length = 1 := rfl
      omega
    rw [so_last e, decide_eq_true_iff] at h
    exact .inr ⟨e, h⟩
theorem last_is {n : Int} {k : Nat} {v : Bool} (e : lampN n = k + 1) (h : decide (0 < n) = v) : n = if v then 1 + (k : Int) else -1 - (k : Int) := by
  unfold lampN at e
  cases v
  · have : ¬ 0 < n := of_decide_eq_false h
    rw [if_neg (by decide)]
    omega
  · have : 0 < n := of_decide_eq_true h
    rw [if_pos rfl]
    omega
/-- from what holds with the lamp set to v: the numbers but for the lamp's own, in a setting where they are so -/
theorem so_next {st st' : List Bool} {v : Bool} {o : Out} (hs : ∀ n ∈ o.hung, isSo n (st ++ [v]) = true) (hl : st'.length = st.length) (h : ∀ n ∈ butFor st.length o.hung, isSo n st' = true) : ∀ n ∈ o.hung, isSo n (st' ++ [v]) = true := fun n hn => by
  rcases so_of_last (hs n hn) with hso | ⟨e, hv⟩
  · exact so_app _ (h n (List.mem_filter.mpr ⟨hn, decide_eq_true (so_set hso).2⟩))
  · rw [so_last (by omega), decide_eq_true_iff]
    exact hv
theorem so_butFor {st : List Bool} {v : Bool} {o : Out} (hs : ∀ n ∈ o.hung, isSo n (st ++ [v]) = true) : ∀ n ∈ butFor st.length o.hung, isSo n st = true := fun n hn => by
  obtain ⟨h1, h2⟩ := List.mem_filter.mp hn
  exact so_back (of_decide_eq_true h2) (hs n h1)
/-- the lamp's own number is not among them -/
theorem so_without {st : List Bool} {v : Bool} {o : Out} (hs : ∀ n ∈ o.hung, isSo n (st ++ [v]) = true) (hno : (if v then 1 + (st.length : Int) else -1 - (st.length : Int)) ∉ o.hung) : ∀ n ∈ o.hung, isSo n st = true := fun n hn => by
  rcases so_of_last (hs n hn) with hso | ⟨e, hv⟩
  · exact hso
  · exact absurd (last_is e hv ▸ hn) hno
theorem sure_see {ws : List (List Int)} {own : Bool} {rest st : List Bool} {v : Bool} {o : Out} (O : OutOk ws rest (st ++ [v]) o) (ho : o.friend ≠ own) (hno : (if v then 1 + (st.length : Int) else -1 - (st.length : Int)) ∉ o.hung) :
    OutOk ws (own :: rest) st ⟨o.friend, .see o.rule o.rule, o.hung⟩ := by
  have hso := so_without O.so hno
  refine ⟨fun st' hl h => ?_, hso, O.up⟩
  have go : ∀ u : Bool, Wins ws o.friend rest (st' ++ [u]) o.rule := fun u => O.sure (st' ++ [u]) (by simp [hl]) fun n hn => so_app _ (h n hn)
  exact ⟨Ne.symm ho, go false, go true⟩
theorem sure_set {ws : List (List Int)} {own : Bool} {rest st : List Bool} {v : Bool} {o : Out} (O : OutOk ws rest (st ++ [v]) o) (ho : o.friend = own) : OutOk ws (own :: rest) st ⟨own, .set v o.rule, butFor st.length o.hung⟩ := by
  refine ⟨fun st' hl h => ⟨rfl, ?_⟩, so_butFor O.so, up_filter _ O.up⟩
  rw [← ho]
  exact O.sure (st' ++ [v]) (by simp [hl]) (so_next O.so hl h)
theorem good_so {st : List Bool} {v : List Int} (h10 : st.length ≤ 10) (hl : v.length ≤ 50) (h : ∀ n ∈ v, isSo n st = true) : Good v := by
  refine ⟨hl, fun n hn => ?_, fun n hn m hm e => so_apart (h n hn) (h m hm) e⟩
  have := so_set (h n hn)
  unfold lampN at this ⊢
  omega
theorem up_len {v : List Int} {st : List Bool} (h : ∀ n ∈ v, isSo n st = true) (hu : Up v) (h10 : st.length ≤ 10) : v.length ≤ 10 := by
  have : v.map lampN = ((List.range (st.length + 1)).filter fun l => decide (l ∈ v.map lampN)) := by
    have up1 : (v.map lampN).Pairwise (· < ·) := List.pairwise_map.mpr hu
    have up2 : ((List.range (st.length + 1)).filter fun l => decide (l ∈ v.map lampN)).Pairwise (· < ·) := List.pairwise_lt_range.filter _
    refine List.Perm.eq_of_pairwise (le := fun a b => a < b) (fun a b _ _ h1 h2 => absurd h1 (Nat.lt_asymm h2)) up1 up2 ?_
    refine (List.perm_ext_iff_of_nodup (up1.imp fun h => Nat.ne_of_lt h) (up2.imp fun h => Nat.ne_of_lt h)).mpr fun l => ?_
    rw [List.mem_filter, decide_eq_true_iff, List.mem_range]
    constructor
    · intro hl
      refine ⟨?_, hl⟩
      obtain ⟨n, hn, rfl⟩ := List.mem_map.mp hl
      have := so_set (h n hn)
      omega
    · exact fun h => h.2
  have h1 : ∀ l ∈ v.map lampN, 1 ≤ l := fun l hl => by
    obtain ⟨n, hn, rfl⟩ := List.mem_map.mp hl
    exact (so_set (h n hn)).1
  have e : v.length = ((List.range (st.length + 1)).filter fun l => decide (l ∈ v.map lampN)).length := by rw [← this, List.length_map]
  rw [e, List.range_succ_eq_map, List.filter_cons_of_neg]
  · refine Nat.le_trans (List.length_filter_le _ _) ?_
    rw [List.length_map, List.length_range]
    exact h10
  · rw [decide_eq_true_iff]
    intro z
    have := h1 0 z
    omega
theorem sure_both {ws : List (List Int)} {own : Bool} {rest st : List Bool} {off on : Out} (h10 : st.length < 10) (A : OutOk ws rest (st ++ [false]) off) (B : OutOk ws rest (st ++ [true]) on) (ha : off.friend ≠ own) (hb : on.friend ≠ own) :
    OutOk ws (own :: rest) st ⟨off.friend, .see off.rule on.rule, rising (butFor st.length (off.hung ++ on.hung))⟩ := by
  have e : on.friend = off.friend := by cases h1 : off.friend <;> cases h2 : on.friend <;> cases own <;> simp_all
  have so : ∀ n ∈ butFor st.length (off.hung ++ on.hung), isSo n st = true := fun n hn => by
    obtain ⟨h1, h2⟩ := List.mem_filter.mp hn
    rcases List.mem_append.mp h1 with h1 | h1
    · exact so_back (of_decide_eq_true h2) (A.so n h1)
    · exact so_back (of_decide_eq_true h2) (B.so n h1)
  have la := up_len A.so A.up (by simp; omega)
  have lb := up_len B.so B.up (by simp; omega)
  have g : Good (butFor st.length (off.hung ++ on.hung)) := good_so (by omega) (Nat.le_trans (List.length_filter_le _ _) (by rw [List.length_append]; omega)) so
  have mem : ∀ n, n ∈ butFor st.length (off.hung ++ on.hung) → n ∈ rising (butFor st.length (off.hung ++ on.hung)) := fun n hn => mem_rising.mpr ⟨hn, (so_set (so n hn)).1, (g.in10 n hn).2⟩
  refine ⟨fun st' hl h => ⟨Ne.symm ha, A.sure (st' ++ [false]) (by simp [hl]) (so_next A.so hl fun n hn => h n (mem n ?_)), ?_⟩, fun n hn => so n (mem_rising.mp hn).1, up_rising g⟩
  · obtain ⟨h1, h2⟩ := List.mem_filter.mp hn
    exact List.mem_filter.mpr ⟨List.mem_append_left _ h1, h2⟩
  · show Wins ws off.friend rest (st' ++ [true]) on.rule
    rw [← e]
    refine B.sure (st' ++ [true]) (by simp [hl]) (so_next B.so hl fun n hn => h n (mem n ?_))
    obtain ⟨h1, h2⟩ := List.mem_filter.mp hn
    exact List.mem_filter.mpr ⟨List.mem_append_right _ h1, h2⟩
end GM
set_option Elab.async false
set_option linter.all false
set_option maxRecDepth 100000
set_option maxHeartbeats 2000000
/-! Going through a game: all of it holds; who has it; fewer wishes, fewer lamps. -/
namespace GM
open PySem PySem.Spec PyProof.Rows L2 DL
def Once (facts : List Fact) : Prop := facts.Pairwise fun F G => F.at_ = G.at_ → ∃ n ∈ F.nums, n ∉ G.nums
structure GoneOk (ws : List (List Int)) (setters rest st : List Bool) (facts : List Fact) (k : Nat) (p : Out × List Fact) : Prop where
  out : OutOk ws rest st p.1
  ext : ∃ more, p.2 = facts ++ more ∧ ∀ F ∈ more, k ≤ F.at_
  facts : ∀ F ∈ p.2, FactOk ws setters F
  once : Once p.2
theorem early_ok {ws : List (List Int)} (hw : Wishes ws) {setters rest st : List Bool} {facts : List Fact} {o : Out} (hr : rest = setters.drop st.length) (hf : ∀ F ∈ facts, FactOk ws setters F) (h : early ws rest st facts = some o) : OutOk ws rest st o := by
  unfold early at h
  split at h
  · rename_i f r he
    cases h
    exact ended_ok hw he
  · obtain ⟨F, hF, rfl⟩ := Option.map_eq_some_iff.mp h
    have hfit := List.find?_some hF
    have hm := List.mem_of_find?_eq_some hF
    unfold fits at hfit
    rw [Bool.and_eq_true, decide_eq_true_iff, List.all_eq_true] at hfit
    have ok := hf F hm
    refine ⟨?_, hfit.2, ok.up⟩
    have := ok.sure
    rw [hfit.1, ← hr] at this
    exact this
theorem early_none {ws : List (List Int)} {rest st : List Bool} {facts : List Fact} (h : early ws rest st facts = none) : ans ws st = none ∧ ∀ F ∈ facts, fits st F = false := by
  unfold early at h
  split at h
  · cases h
  · rename_i ha
    rw [Option.map_eq_none_iff, List.find?_eq_none] at h
    exact ⟨ha, fun F hF => by simpa using h F hF⟩
theorem learn_ok {ws : List (List Int)} {setters rest st : List Bool} {own : Bool} {facts facts' : List Fact} {o : Out} (hr : own :: rest = setters.drop st.length) (he : ∀ F ∈ facts, fits st F = false)
    (O : OutOk ws (own :: rest) st o) (hx : ∃ more, facts' = facts ++ more ∧ ∀ F ∈ more, st.length + 1 ≤ F.at_) (hf : ∀ F ∈ facts', FactOk ws setters F) (h1 : Once facts') : GoneOk ws setters (own :: rest) st facts st.length (o, facts' ++ [⟨st.length, o.hung, o.friend, o.rule⟩]) := by
  obtain ⟨more, rfl, hm⟩ := hx
  have hlt : st.length < setters.length := by
    have : (own :: rest).length = (setters.drop st.length).length := by rw [hr]
    rw [List.length_drop, List.length_cons] at this
    omega
  refine ⟨O, ⟨more ++ [⟨st.length, o.hung, o.friend, o.rule⟩], by rw [List.append_assoc], fun F hF => ?_⟩, fun F hF => ?_, ?_⟩
  · rcases List.mem_append.mp hF with hF | hF
    · have := hm F hF; omega
    · rw [List.mem_singleton.mp hF]; exact Nat.le_refl _
  · rcases List.mem_append.mp hF with hF | hF
    · exact hf F hF
    · rw [List.mem_singleton.mp hF]
      refine ⟨hlt, ?_, fun n hn => so_set (O.so n hn), O.up⟩
      show Sure ws (setters.drop st.length) st.length o.friend o.rule o.hung
      rw [← hr]
      exact O.sure
  · refine List.pairwise_append.mpr ⟨h1, List.pairwise_singleton _ _, fun F hF N hN e => ?_⟩
    rw [List.mem_singleton.mp hN] at e ⊢
    have e : F.at_ = st.length := e
    rcases List.mem_append.mp hF with hF | hF
    · have hno := he F hF
      unfold fits at hno
      rw [decide_eq_true e, Bool.true_and, List.all_eq_false] at hno
      obtain ⟨n, hn, hso⟩ := hno
      exact ⟨n, hn, fun z => hso (O.so n z)⟩
    · have := hm F hF
      omega
theorem gone_ok {ws : List (List Int)} {setters : List Bool} (hw : Wishes ws) (h10 : setters.length ≤ 10) (hl : ∀ w ∈ ws, ∀ n ∈ w, n ≠ 0 ∧ lampN n ≤ setters.length) :
    ∀ (rest st : List Bool) (facts : List Fact), rest = setters.drop st.length → st.length ≤ setters.length → (∀ F ∈ facts, FactOk ws setters F) → Once facts → GoneOk ws setters rest st facts st.length (gone ws rest st facts)
  | [], st, facts, hr, hle, hf, h1 => by
    have e : st.length = setters.length := by
      have : ([] : List Bool).length = (setters.drop st.length).length := by rw [← hr]
      rw [List.length_drop] at this
      simp at this
      omega
    obtain ⟨⟨f, r⟩, he⟩ := ended_whole (ws := ws) (st := st) fun w hwm n hn => by rw [e]; exact hl w hwm n hn
    have e2 : early ws [] st facts = some ⟨f, idleRu f [], r⟩ := by
      unfold early
      rw [he]
    rw [gone, e2]
    exact ⟨ended_ok hw he, ⟨[], by simp, fun F hF => nomatch hF⟩, hf, h1⟩
  | own :: rest, st, facts, hr, hle, hf, h1 => by
    have hlt : st.length < setters.length := by
      have : (own :: rest).length = (setters.drop st.length).length := by rw [hr]
      rw [List.length_drop, List.length_cons] at this
      omega
    have hr' : ∀ v : Bool, rest = setters.drop (st ++ [v]).length := fun v => by
      rw [List.length_append, ← List.drop_drop, ← hr]
      rfl
    rw [gone]
    cases he : early ws (own :: rest) st facts with
    | some o => exact ⟨early_ok hw hr hf he, ⟨[], by simp, fun F hF => nomatch hF⟩, hf, h1⟩
    | none =>
      obtain ⟨_, hno⟩ := early_none he
      have A := gone_ok hw h10 hl rest (st ++ [false]) facts (hr' false) (by simp; omega) hf h1
      generalize gone ws rest (st ++ [false]) facts = p1 at A ⊢
      obtain ⟨off, facts1⟩ := p1
      obtain ⟨m1, e1, k1⟩ := A.ext
      have e1 : facts1 = facts ++ m1 := e1
      have k1 : ∀ F ∈ m1, st.length + 1 ≤ F.at_ := fun F hF => by simpa using k1 F hF
      have AO : OutOk ws rest (st ++ [false]) off := A.out
      show GoneOk ws setters (own :: rest) st facts st.length (match joinOff own st.length off with | some o => (o, facts1 ++ [⟨st.length, o.hung, o.friend, o.rule⟩]) | none => _)
      cases hj : joinOff own st.length off with
      | some o =>
        unfold joinOff at hj
        split at hj
        · rename_i ho
          cases hj
          exact learn_ok hr hno (sure_set AO ho) ⟨m1, e1, k1⟩ A.facts A.once
        · rename_i ho
          split at hj
          · cases hj
          · rename_i hn
            cases hj
            exact learn_ok hr hno (sure_see AO ho hn) ⟨m1, e1, k1⟩ A.facts A.once
      | none =>
        have ho : off.friend ≠ own := fun z => by
          unfold joinOff at hj
          rw [if_pos z] at hj
          cases hj
        have B := gone_ok hw h10 hl rest (st ++ [true]) facts1 (hr' true) (by simp; omega) A.facts A.once
        dsimp only
        generalize gone ws rest (st ++ [true]) facts1 = p2 at B ⊢
        obtain ⟨on, facts2⟩ := p2
        obtain ⟨m2, e2, k2⟩ := B.ext
        have e2 : facts2 = facts1 ++ m2 := e2
        have k2 : ∀ F ∈ m2, st.length + 1 ≤ F.at_ := fun F hF => by simpa using k2 F hF
        have BO : OutOk ws rest (st ++ [true]) on := B.out
        refine learn_ok hr hno ?_ ⟨m1 ++ m2, by rw [e2, e1, List.append_assoc], fun F hF => (List.mem_append.mp hF).elim (k1 F) (k2 F)⟩ B.facts B.once
        show OutOk ws (own :: rest) st (joinOn own st.length off on)
        unfold joinOn
        split
        · rename_i hb
          exact sure_set BO hb
        · rename_i hb
          split
          · exact sure_both (by omega) AO BO ho hb
          · rename_i hn
            exact sure_see BO hb hn
/-- what solve tells -/
def solved (setters : List Bool) (ws : List (List Int)) : Out × List Fact := gone ws setters [] []
theorem solved_ok {ws : List (List Int)} {setters : List Bool} (hw : Wishes ws) (h10 : setters.length ≤ 10) (hl : ∀ w ∈ ws, ∀ n ∈ w, n ≠ 0 ∧ lampN n ≤ setters.length) : GoneOk ws setters setters [] [] 0 (solved setters ws) :=
  gone_ok hw h10 hl setters [] [] rfl (Nat.zero_le _) (fun F hF => nomatch hF) .nil
/-- the rule wins the game -/
theorem solved_wins {ws : List (List Int)} {setters : List Bool} (hw : Wishes ws) (h10 : setters.length ≤ 10) (hl : ∀ w ∈ ws, ∀ n ∈ w, n ≠ 0 ∧ lampN n ≤ setters.length) : Wins ws (solved setters ws).1.friend setters [] (solved setters ws).1.rule := by
  have A := solved_ok hw h10 hl
  refine A.out.sure [] rfl fun n hn => ?_
  have := so_set (A.out.so n hn)
  simp at this
  omega
theorem solved_hung {ws : List (List Int)} {setters : List Bool} (hw : Wishes ws) (h10 : setters.length ≤ 10) (hl : ∀ w ∈ ws, ∀ n ∈ w, n ≠ 0 ∧ lampN n ≤ setters.length) : (solved setters ws).1.hung = [] := by
  have A := solved_ok hw h10 hl
  cases q : (solved setters ws).1.hung with
  | nil => rfl
  | cons n l =>
    have := so_set (A.out.so n (by rw [q]; exact List.mem_cons_self))
    simp at this
    omega
/-- where there are facts, the last one is the whole answer; else the empty setting is ended -/
theorem solved_last {ws : List (List Int)} {setters : List Bool} (hw : Wishes ws) (h10 : setters.length ≤ 10) (hl : ∀ w ∈ ws, ∀ n ∈ w, n ≠ 0 ∧ lampN n ≤ setters.length) :
    ((solved setters ws).2 = [] ∧ (ans ws []).isSome = true) ∨ ∃ fs, (solved setters ws).2 = fs ++ [⟨0, [], (solved setters ws).1.friend, (solved setters ws).1.rule⟩] := by
  have hh := solved_hung hw h10 hl
  unfold solved at hh ⊢
  cases setters with
  | nil =>
    left
    obtain ⟨p, hp⟩ := ended_whole (ws := ws) (st := []) hl
    exact ⟨by rw [gone], by rw [hp]; rfl⟩
  | cons own rest =>
    rw [gone] at hh ⊢
    cases he : early ws (own :: rest) [] [] with
    | some o =>
      left
      refine ⟨rfl, ?_⟩
      unfold early at he
      split at he
      · rename_i ha
        rw [ha]; rfl
      · cases he
    | none =>
      right
      rw [he] at hh
      dsimp only at hh ⊢
      split
      · rename_i o hj
        rw [hj] at hh
        have hh : o.hung = [] := hh
        exact ⟨_, by rw [hh]; rfl⟩
      · rename_i hj
        rw [hj] at hh
        dsimp only at hh ⊢
        exact ⟨_, by rw [hh]; rfl⟩
theorem ended_empty {ws : List (List Int)} (h : (ans ws []).isSome = true) : ws = [] ∨ [] ∈ ws := by
  cases ws with
  | nil => exact .inl rfl
  | cons w ws =>
    right
    unfold ans at h
    split at h
    · rename_i u hu
      have hl := lost_iff.mp (List.find?_some (p := fun w => lostB w []) hu)
      have hm := List.mem_of_find?_eq_some hu
      cases u with
      | nil => exact hm
      | cons n l =>
        have := isSet_iff.mp (hl.1 n List.mem_cons_self)
        simp at this
        omega
    · split at h
      · rename_i hall
        rw [List.all_eq_true] at hall
        have := hall w List.mem_cons_self
        unfold metB at this
        obtain ⟨n, _, hn⟩ := List.any_eq_true.mp this
        have := so_set hn
        simp at this
        omega
      · cases h
/-! ### who has it -/
/-- by all settings: the friend wants all wishes met -/
def has (ws : List (List Int)) : List Bool → List Bool → Bool
  | [], st => ws.all fun w => metB w st
  | true :: rest, st => has ws rest (st ++ [false]) || has ws rest (st ++ [true])
  | false :: rest, st => has ws rest (st ++ [false]) && has ws rest (st ++ [true])
theorem wins_has {ws : List (List Int)} {f : Bool} : ∀ (rest st : List Bool) (r : Ru), Wins ws f rest st r → has ws rest st = f
  | [], st, .fin, h => h
  | own :: rest, st, .set v r, h => by
    obtain ⟨rfl, h⟩ := h
    have ih := wins_has rest (st ++ [v]) r h
    cases own <;> cases v <;> simp [has, ih]
  | own :: rest, st, .see a b, h => by
    obtain ⟨ho, h1, h2⟩ := h
    have i1 := wins_has rest (st ++ [false]) a h1
    have i2 := wins_has rest (st ++ [true]) b h2
    cases own <;> cases f <;> simp_all [has]
  | [], _, .set _ _, h => h.elim
  | [], _, .see _ _, h => h.elim
  | _ :: _, _, .fin, h => h.elim
theorem solved_has {ws : List (List Int)} {setters : List Bool} (hw : Wishes ws) (h10 : setters.length ≤ 10) (hl : ∀ w ∈ ws, ∀ n ∈ w, n ≠ 0 ∧ lampN n ≤ setters.length) : (solved setters ws).1.friend = has ws setters [] :=
  (wins_has _ _ _ (solved_wins hw h10 hl)).symm
/-- with fewer wishes the friend has it the sooner -/
theorem has_fewer {ws vs : List (List Int)} (h : ∀ w ∈ vs, w ∈ ws) : ∀ rest st, has ws rest st = true → has vs rest st = true
  | [], st, h1 => by
    unfold has at h1 ⊢
    rw [List.all_eq_true] at h1 ⊢
    exact fun w hw => h1 w (h w hw)
  | true :: rest, st, h1 => by
    simp only [has, Bool.or_eq_true] at h1 ⊢
    exact h1.imp (has_fewer h rest _) (has_fewer h rest _)
  | false :: rest, st, h1 => by
    simp only [has, Bool.and_eq_true] at h1 ⊢
    exact ⟨has_fewer h rest _ h1.1, has_fewer h rest _ h1.2⟩
/-- with fewer lamps of his the friend has it the later -/
inductive Given : List Bool → List Bool → Prop where
  | nil : Given [] []
  | same (b : Bool) {l m : List Bool} (h : Given l m) : Given (b :: l) (b :: m)
  | away {l m : List Bool} (h : Given l m) : Given (true :: l) (false :: m)
theorem has_given {ws : List (List Int)} : ∀ {l m : List Bool}, Given l m → ∀ st, has ws m st = true → has ws l st = true
  | _, _, .nil, st, h => h
  | _, _, .same true g, st, h => by
    simp only [has, Bool.or_eq_true] at h ⊢
    exact h.imp (has_given g _) (has_given g _)
  | _, _, .same false g, st, h => by
    simp only [has, Bool.and_eq_true] at h ⊢
    exact ⟨has_given g _ h.1, has_given g _ h.2⟩
  | _, _, .away g, st, h => by
    simp only [has, Bool.and_eq_true, Bool.or_eq_true] at h ⊢
    exact .inl (has_given g _ h.1)
theorem Given.refl : ∀ l : List Bool, Given l l
  | [] => .nil
  | b :: l => .same b (Given.refl l)
theorem Given.trans : ∀ {l m n : List Bool}, Given l m → Given m n → Given l n
  | _, _, _, .nil, .nil => .nil
  | _, _, _, .same b h, .same _ g => .same b (h.trans g)
  | _, _, _, .same _ h, .away g => .away (h.trans g)
  | _, _, _, .away h, .same _ g => .away (h.trans g)
end GM
set_option Elab.async false
set_option linter.all false
set_option maxRecDepth 100000
set_option maxHeartbeats 2000000
/-! The later laws' own words: wishes, games, rows, who has it by halves. -/
namespace GM
open PySem PySem.Spec PyProof.Rows L2 DL
/-! ### wishes -/
def greats : List Int := [3, 3, 4, 4, 4, 5, 5, 6]
def size3 (c : Int) (g : Bool) : Int := if g then greats.getD (c % 8).toNat 0 else sizeOf' c
theorem great_ok (c : Int) : ∃ k : Nat, greats.getD (c % 8).toNat 0 = (k : Int) ∧ k ≤ 10 := by
  have h : 0 ≤ greats.getD (c % 8).toNat 0 ∧ greats.getD (c % 8).toNat 0 ≤ 10 := by
    have h : c % 8 = 0 ∨ c % 8 = 1 ∨ c % 8 = 2 ∨ c % 8 = 3 ∨ c % 8 = 4 ∨ c % 8 = 5 ∨ c % 8 = 6 ∨ c % 8 = 7 := by omega
    rcases h with h | h | h | h | h | h | h | h <;> rw [h] <;> decide
  exact ⟨(greats.getD (c % 8).toNat 0).toNat, by omega, by omega⟩
theorem size3_ok (c : Int) (g : Bool) : ∃ k : Nat, size3 c g = (k : Int) ∧ k ≤ 10 := by
  cases g
  · exact size_ok c
  · exact great_ok c
def wish3 (c : Int) (m : Nat) (g : Bool) : List Int := if 0 < m then nums (mixed c / 48) m (size3 (mixed c) g).toNat else []
/-- a wish of the game with m lamps -/
def WishOf (m : Nat) (w : List Int) : Prop := w.length ≤ 10 ∧ ∀ n ∈ w, n ≠ 0 ∧ lampN n ≤ m
def GameOf (m : Nat) (ws : List (List Int)) : Prop := ws.length ≤ 20 ∧ ∀ w ∈ ws, WishOf m w
theorem GameOf.wishes {m : Nat} {ws : List (List Int)} (h : GameOf m ws) (hm : m ≤ 10) : Wishes ws := ⟨h.1, fun w hw => ⟨(h.2 w hw).1, fun n hn => ⟨((h.2 w hw).2 n hn).1, Nat.le_trans ((h.2 w hw).2 n hn).2 hm⟩⟩⟩
theorem num_ok {c : Int} {m : Nat} (h0 : 0 < m) : num c (m : Int) ≠ 0 ∧ lampN (num c (m : Int)) ≤ m := by
  have h1 : 0 ≤ c % (m : Int) := Int.emod_nonneg _ (by omega)
  have h2 : c % (m : Int) < (m : Int) := Int.emod_lt_of_pos _ (by omega)
  unfold num lampN
  split <;> omega
theorem nums_ok {c : Int} {m k : Nat} (h0 : 0 < m) : ∀ n ∈ nums c m k, n ≠ 0 ∧ lampN n ≤ m := fun n hn => by
  obtain ⟨i, _, rfl⟩ := List.mem_map.mp hn
  exact num_ok h0
theorem wish3_ok (c : Int) (m : Nat) (g : Bool) : WishOf m (wish3 c m g) := by
  unfold wish3
  split
  · rename_i h0
    obtain ⟨k, hk, hk10⟩ := size3_ok (mixed c) g
    exact ⟨by rw [nums_len, hk, Int.toNat_natCast]; exact hk10, nums_ok h0⟩
  · exact ⟨Nat.zero_le _, fun n hn => nomatch hn⟩
/-! ### rows of values -/
def rows : Nat → List (List Bool)
  | 0 => [[]]
  | k + 1 => (rows k).flatMap fun r => [r ++ [false], r ++ [true]]
theorem mem_rows : ∀ {k : Nat} {r : List Bool}, r ∈ rows k ↔ r.length = k
  | 0, r => by
    show r ∈ [[]] ↔ _
    rw [List.mem_singleton, List.length_eq_zero_iff]
  | k + 1, r => by
    show r ∈ (rows k).flatMap _ ↔ _
    rw [List.mem_flatMap]
    constructor
    · rintro ⟨s, hs, h⟩
      have := mem_rows.mp hs
      rcases List.mem_cons.mp h with rfl | h
      · simp [this]
      · rw [List.mem_singleton.mp h]; simp [this]
    · intro h
      have hne : r ≠ [] := fun z => by rw [z] at h; simp at h
      refine ⟨r.dropLast, mem_rows.mpr (by rw [List.length_dropLast, h]; rfl), ?_⟩
      have e := List.dropLast_concat_getLast hne
      cases q : r.getLast hne with
      | false => rw [q] at e; exact List.mem_cons.mpr (.inl e.symm)
      | true => rw [q] at e; exact List.mem_cons.mpr (.inr (List.mem_singleton.mpr e.symm))
theorem rows_len : ∀ k, (rows k).length = 2 ^ k
  | 0 => rfl
  | k + 1 => by
    show ((rows k).flatMap _).length = _
    rw [List.length_flatMap]
    simp only [List.length_cons, List.length_nil, List.map_const', List.sum_replicate_nat, rows_len k]
    omega
abbrev rowsD (rs : List (List Bool)) : D := .list (rs.map dBools)
/-! ### who has it, by halves -/
def halve (own : Bool) (l : List Bool) : List Bool := (List.range (l.length / 2)).map fun k => if own then l.getD (2 * k) false || l.getD (2 * k + 1) false else l.getD (2 * k) false && l.getD (2 * k + 1) false
theorem pairs_get {α β : Type} (g h : α → β) : ∀ (L : List α) (k : Nat), (L.flatMap fun r => [g r, h r])[2 * k]? = L[k]?.map g ∧ (L.flatMap fun r => [g r, h r])[2 * k + 1]? = L[k]?.map h
  | [], k => by simp
  | a :: L, 0 => ⟨rfl, rfl⟩
  | a :: L, k + 1 => pairs_get g h L k
theorem pairs_len {α β : Type} (g h : α → β) : ∀ L : List α, (L.flatMap fun r => [g r, h r]).length = 2 * L.length
  | [] => rfl
  | a :: L => by
    have := pairs_len g h L
    rw [List.flatMap_cons, List.length_append, this]
    show 2 + 2 * L.length = 2 * (L.length + 1)
    omega
theorem halve_pairs (own : Bool) {α : Type} (g h : α → Bool) (L : List α) : halve own (L.flatMap fun r => [g r, h r]) = L.map fun r => if own then g r || h r else g r && h r := by
  unfold halve
  rw [pairs_len, Nat.mul_div_cancel_left _ (by decide)]
  apply List.ext_getElem?
  intro k
  rw [List.getElem?_map, List.getElem?_map]
  by_cases hk : k < L.length
  · obtain ⟨e1, e2⟩ := pairs_get g h L k
    rw [List.getElem?_range hk, List.getElem?_eq_getElem hk]
    rw [List.getElem?_eq_getElem hk] at e1 e2
    simp only [List.getD_eq_getElem?_getD, e1, e2, Option.map_some, Option.getD_some]
  · rw [List.getElem?_eq_none (by simpa using hk), List.getElem?_eq_none (by omega)]
    rfl
def vals (ws : List (List Int)) (k : Nat) (post : List Bool) : List Bool := (rows k).map fun r => has ws post r
theorem vals_len (ws : List (List Int)) (k : Nat) (post : List Bool) : (vals ws k post).length = 2 ^ k := by
  unfold vals
  rw [List.length_map, rows_len]
theorem vals_step (ws : List (List Int)) (k : Nat) (own : Bool) (post : List Bool) : halve own (vals ws (k + 1) post) = vals ws k (own :: post) := by
  have e : vals ws (k + 1) post = (rows k).flatMap fun r => [has ws post (r ++ [false]), has ws post (r ++ [true])] := by
    unfold vals
    rw [rows, List.map_flatMap]
    rfl
  rw [e, halve_pairs]
  unfold vals
  refine List.map_congr_left fun r _ => ?_
  cases own <;> rfl
theorem vals_end (ws : List (List Int)) (post : List Bool) : vals ws 0 post = [has ws post []] := rfl
/-- setters as a text: True for f -/
def own (l : List Nat) : List Bool := l.map fun c => decide (c = 102)
theorem own_len (l : List Nat) : (own l).length = l.length := by simp [own]
/-! ### shapes -/
theorem lay_rows : ∀ rs : List (List Bool), PyData.canLayAll0 (rs.map dBools) = true
  | [] => by simp [PyData.canLayAll0]
  | r :: rs => by simp [PyData.canLayAll0, PyData.canLay0, lay_bools, lay_rows rs]
/-- a number is so in a row of all lamps -/
theorem so_row {n : Int} {row : List Bool} (h0 : n ≠ 0) (hl : lampN n ≤ row.length) : isSo n row = decide (row[lampN n - 1]? = some (decide (0 < n))) := by
  unfold isSo
  rw [isSet_iff.mpr ⟨by unfold lampN; omega, hl⟩, Bool.true_and]
end GM
namespace GM
open PySem PySem.Spec PyProof.Rows L2 DL
def boolD : D → Bool
  | .bool b => b
  | _ => false
def boolsD : D → List Bool
  | .list l => l.map boolD
  | _ => []
theorem boolsD_is (r : List Bool) : boolsD (dBools r) = r := by
  show (r.map PyData.bool).map boolD = r
  rw [List.map_map]
  exact List.map_id r
end GM
namespace GM
open PySem PySem.Spec PyProof.Rows L2 DL
theorem str_nil : Str.ofString "" = txt [] := by decide +kernel
theorem fo_at (i : Int) : atI (Str.ofString "fo").cps.toList (i % 2) = some (signOf i) := by
  rw [str_fo]
  have h : i % 2 = 0 ∨ i % 2 = 1 := by omega
  rcases h with h | h <;> rw [h, signOf, h] <;> rfl
end GM
namespace GM
open PySem PySem.Spec PyProof.Rows L2 DL
theorem dInts_inj {x y : List Int} (h : dInts x = dInts y) : x = y := by
  have h : x.map PyData.int = y.map PyData.int := PyData.list.inj h
  have e : (x.map PyData.int).map numD = (y.map PyData.int).map numD := by rw [h]
  rw [List.map_map, List.map_map] at e
  have hid : (numD ∘ PyData.int) = id := rfl
  rw [hid, List.map_id, List.map_id] at e
  exact e
theorem pick6 (k : Nat) (h : k ≤ 5) : ∃ z : Nat, atI ([.int 4, .int 1, .int 2, .int 3, .int 4, .int 0] : List D) (k : Int) = some (.int (z : Int)) ∧ z ≤ 4 := by
  have h : k = 0 ∨ k = 1 ∨ k = 2 ∨ k = 3 ∨ k = 4 ∨ k = 5 := by omega
  rcases h with rfl | rfl | rfl | rfl | rfl | rfl
  · exact ⟨4, rfl, by decide⟩
  · exact ⟨1, rfl, by decide⟩
  · exact ⟨2, rfl, by decide⟩
  · exact ⟨3, rfl, by decide⟩
  · exact ⟨4, rfl, by decide⟩
  · exact ⟨0, rfl, by decide⟩
end GM
set_option Elab.async false
set_option linter.all false
set_option maxRecDepth 100000
set_option maxHeartbeats 2000000
/-! Going through a game, as data. -/
namespace GM
open PySem PySem.Spec PyProof.Rows L2 DL
def factD (F : Fact) : D := .tuple [.int (F.at_ : Nat), dInts F.nums, .bool F.friend, ruD F.rule]
def outD (o : Out) : D := .tuple [.bool o.friend, ruD o.rule, dInts o.hung]
abbrev gameD (l : List Nat) (ws : List (List Int)) : D := .tuple [.str (txt l), wishesD ws]
def tried (ws : List (List Int)) (own : Bool) (rest st : List Bool) (facts : List Fact) : Out × List Fact :=
  match joinOff own st.length (gone ws rest (st ++ [false]) facts).1 with
  | some o => (o, (gone ws rest (st ++ [false]) facts).2)
  | none => (joinOn own st.length (gone ws rest (st ++ [false]) facts).1 (gone ws rest (st ++ [true]) (gone ws rest (st ++ [false]) facts).2).1, (gone ws rest (st ++ [true]) (gone ws rest (st ++ [false]) facts).2).2)
theorem gone_early {ws : List (List Int)} {rest st : List Bool} {facts : List Fact} {o : Out} (h : early ws rest st facts = some o) : gone ws rest st facts = (o, facts) := by
  cases rest with
  | nil => rw [gone, h]; rfl
  | cons own rest => rw [gone, h]
theorem gone_tried {ws : List (List Int)} {own : Bool} {rest st : List Bool} {facts : List Fact} (h : early ws (own :: rest) st facts = none) :
    gone ws (own :: rest) st facts = ((tried ws own rest st facts).1, (tried ws own rest st facts).2 ++ [⟨st.length, (tried ws own rest st facts).1.hung, (tried ws own rest st facts).1.friend, (tried ws own rest st facts).1.rule⟩]) := by
  rw [gone, h]
  unfold tried
  dsimp only
  cases joinOff own st.length (gone ws rest (st ++ [false]) facts).1 with
  | some o => rfl
  | none => rfl
/-- how many facts there can be -/
theorem gone_len {ws : List (List Int)} : ∀ (rest st : List Bool) (facts : List Fact), (gone ws rest st facts).2.length + 1 ≤ facts.length + 2 ^ rest.length
  | [], st, facts => by rw [gone]; exact Nat.le_refl _
  | own :: rest, st, facts => by
    have p : 2 ^ (own :: rest).length = 2 * 2 ^ rest.length := by rw [List.length_cons, Nat.pow_succ, Nat.mul_comm]
    have q : 0 < 2 ^ rest.length := Nat.two_pow_pos _
    cases h : early ws (own :: rest) st facts with
    | some o => rw [gone_early h]; show facts.length + 1 ≤ _; omega
    | none =>
      rw [gone_tried h]
      show ((tried ws own rest st facts).2 ++ [_]).length + 1 ≤ _
      rw [List.length_append]
      have h1 := gone_len (ws := ws) rest (st ++ [false]) facts
      have h2 := gone_len (ws := ws) rest (st ++ [true]) (gone ws rest (st ++ [false]) facts).2
      unfold tried
      split
      · show (gone ws rest (st ++ [false]) facts).2.length + 1 + 1 ≤ _; omega
      · show (gone ws rest (st ++ [true]) (gone ws rest (st ++ [false]) facts).2).2.length + 1 + 1 ≤ _; omega
theorem tried_len {ws : List (List Int)} (own : Bool) (rest st : List Bool) (facts : List Fact) : (tried ws own rest st facts).2.length + 2 ≤ facts.length + 2 * 2 ^ rest.length := by
  have h1 := gone_len (ws := ws) rest (st ++ [false]) facts
  have h2 := gone_len (ws := ws) rest (st ++ [true]) (gone ws rest (st ++ [false]) facts).2
  have q : 0 < 2 ^ rest.length := Nat.two_pow_pos _
  unfold tried
  split
  · show (gone ws rest (st ++ [false]) facts).2.length + 2 ≤ _; omega
  · show (gone ws rest (st ++ [true]) (gone ws rest (st ++ [false]) facts).2).2.length + 2 ≤ _; omega
theorem up_len2 {v : List Int} {k : Nat} (hu : Up v) (h : ∀ n ∈ v, 1 ≤ lampN n ∧ lampN n ≤ k) : v.length ≤ k := by
  have : v.map lampN = ((List.range (k + 1)).filter fun l => decide (l ∈ v.map lampN)) := by
    have up1 : (v.map lampN).Pairwise (· < ·) := List.pairwise_map.mpr hu
    have up2 : ((List.range (k + 1)).filter fun l => decide (l ∈ v.map lampN)).Pairwise (· < ·) := List.pairwise_lt_range.filter _
    refine List.Perm.eq_of_pairwise (le := fun a b => a < b) (fun a b _ _ h1 h2 => absurd h1 (Nat.lt_asymm h2)) up1 up2 ?_
    refine (List.perm_ext_iff_of_nodup (up1.imp fun h => Nat.ne_of_lt h) (up2.imp fun h => Nat.ne_of_lt h)).mpr fun l => ?_
    rw [List.mem_filter, decide_eq_true_iff, List.mem_range]
    constructor
    · intro hl
      refine ⟨?_, hl⟩
      obtain ⟨n, hn, rfl⟩ := List.mem_map.mp hl
      have := h n hn
      omega
    · exact fun h => h.2
  have e : v.length = ((List.range (k + 1)).filter fun l => decide (l ∈ v.map lampN)).length := by rw [← this, List.length_map]
  rw [e, List.range_succ_eq_map, List.filter_cons_of_neg]
  · refine Nat.le_trans (List.length_filter_le _ _) ?_
    rw [List.length_map, List.length_range]
    exact Nat.le_refl _
  · rw [decide_eq_true_iff]
    intro z
    obtain ⟨n, hn, e⟩ := List.mem_map.mp z
    have := h n hn
    omega
theorem GameOf.lamps {m : Nat} {ws : List (List Int)} (h : GameOf m ws) : ∀ w ∈ ws, ∀ n ∈ w, n ≠ 0 ∧ lampN n ≤ m := fun w hw n hn => (h.2 w hw).2 n hn
/-- what is handed in to the walk from a setting on -/
structure Walkable (ws : List (List Int)) (l : List Nat) (st : List Bool) (facts : List Fact) : Prop where
  l10 : l.length ≤ 10
  fo : Fo l
  game : GameOf l.length ws
  len : st.length ≤ l.length
  ok : ∀ F ∈ facts, FactOk ws (own l) F
  once : Once facts
  few : facts.length + 2 ^ (l.length - st.length) ≤ 5000
theorem Walkable.gone {ws : List (List Int)} {l : List Nat} {st : List Bool} {facts : List Fact} (w : Walkable ws l st facts) : GoneOk ws (own l) ((own l).drop st.length) st facts st.length (gone ws ((own l).drop st.length) st facts) :=
  gone_ok (w.game.wishes w.l10) (by rw [own_len]; exact w.l10) (by rw [own_len]; exact w.game.lamps) _ st facts rfl (by rw [own_len]; exact w.len) w.ok w.once
theorem own_drop {l : List Nat} {k c : Nat} (h : l[k]? = some c) : (own l).drop k = decide (c = 102) :: (own l).drop (k + 1) := by
  obtain ⟨hk, e⟩ := List.getElem?_eq_some_iff.mp h
  have hk' : k < (own l).length := by rw [own_len]; exact hk
  unfold own at hk' ⊢
  rw [List.drop_eq_getElem_cons hk', List.getElem_map, e]
end GM
namespace GM
open PySem PySem.Spec PyProof.Rows L2 DL
/-- what a game must be -/
def okW (m : Nat) (w : List Int) : Bool := decide (w.length ≤ 10) && w.all fun n => decide (n ≠ 0) && decide (lampN n ≤ m)
def okG (l : List Nat) (ws : List (List Int)) : Bool := decide (l.length ≤ 10) && (l.all fun c => decide (c = 102) || decide (c = 111)) && decide (ws.length ≤ 20) && ws.all (okW l.length)
theorem okW_iff {m : Nat} {w : List Int} : okW m w = true ↔ WishOf m w := by
  unfold okW WishOf
  rw [Bool.and_eq_true, decide_eq_true_iff, List.all_eq_true]
  simp only [Bool.and_eq_true, decide_eq_true_iff]
theorem okG_iff {l : List Nat} {ws : List (List Int)} : okG l ws = true ↔ l.length ≤ 10 ∧ Fo l ∧ GameOf l.length ws := by
  unfold okG GameOf Fo
  rw [Bool.and_eq_true, Bool.and_eq_true, Bool.and_eq_true, decide_eq_true_iff, decide_eq_true_iff, List.all_eq_true, List.all_eq_true]
  simp only [Bool.or_eq_true, decide_eq_true_iff, okW_iff]
  constructor
  · rintro ⟨⟨⟨h1, h2⟩, h3⟩, h4⟩
    exact ⟨h1, h2, h3, h4⟩
  · rintro ⟨h1, h2, h3, h4⟩
    exact ⟨⟨⟨h1, h2⟩, h3⟩, h4⟩
/-- signs that an error's words can show -/
def Short (l : List Nat) : Prop := ∀ c ∈ l, (reprText ⟨#[c]⟩).length ≤ 20
theorem short_ascii : ∀ c : Nat, c < 128 → (reprText ⟨#[c]⟩).length ≤ 20 := by decide +kernel
/-- what may be handed in -/
structure Handed (l : List Nat) (ws : List (List Int)) : Prop where
  len : l.length ≤ 100
  short : Short l
  wlen : ws.length ≤ 100
  nlen : ∀ w ∈ ws, w.length ≤ 100 ∧ ∀ n ∈ w, n.natAbs.log2 < 1900
theorem handed_of {l : List Nat} {ws : List (List Int)} (h : l.length ≤ 10) (hf : Fo l) (hg : GameOf l.length ws) : Handed l ws := by
  refine ⟨by omega, fun c hc => ?_, by have := hg.1; omega, fun w hw => ⟨by have := (hg.2 w hw).1; omega, fun n hn => ?_⟩⟩
  · rcases hf c hc with rfl | rfl
    · exact short_ascii 102 (by decide)
    · exact short_ascii 111 (by decide)
  · have h2 := ((hg.2 w hw).2 n hn).2
    have : n.natAbs ≤ 10 := by unfold lampN at h2; omega
    refine Nat.lt_of_le_of_lt (Nat.log2_le_self _) (by omega)
def solvedD (l : List Nat) (ws : List (List Int)) : D := .tuple [.bool (solved (own l) ws).1.friend, ruD (solved (own l) ws).1.rule, .list ((solved (own l) ws).2.map factD)]
theorem solved_is {l : List Nat} {ws : List (List Int)} (h : l.length ≤ 10) (hf : Fo l) (hg : GameOf l.length ws) : GoneOk ws (own l) (own l) [] [] 0 (solved (own l) ws) := solved_ok (hg.wishes h) (by rw [own_len]; exact h) (by rw [own_len]; exact hg.lamps)
theorem solved_friend {l : List Nat} {ws : List (List Int)} (h : l.length ≤ 10) (hg : GameOf l.length ws) : (solved (own l) ws).1.friend = has ws (own l) [] := solved_has (hg.wishes h) (by rw [own_len]; exact h) (by rw [own_len]; exact hg.lamps)
end GM
namespace GM
open PySem PySem.Spec PyProof.Rows L2 DL
theorem wins_dep {ws : List (List Int)} {f : Bool} : ∀ {rest st : List Bool} {r : Ru}, Wins ws f rest st r → dep r ≤ rest.length
  | [], st, .fin, _ => Nat.le_refl _
  | own :: rest, st, .set v r, h => Nat.succ_le_succ (wins_dep h.2)
  | own :: rest, st, .see a b, h => by
    have h1 := wins_dep h.2.1
    have h2 := wins_dep h.2.2
    simp only [dep, List.length_cons]
    omega
  | [], _, .set _ _, h => h.elim
  | [], _, .see _ _, h => h.elim
  | _ :: _, _, .fin, h => h.elim
/-- a setting in which given numbers, each lamp once, are so -/
theorem up_some {v : List Int} {k : Nat} (hu : Up v) (h : ∀ n ∈ v, 1 ≤ lampN n ∧ lampN n ≤ k) : ∃ st : List Bool, st.length = k ∧ ∀ n ∈ v, isSo n st = true := by
  refine ⟨(List.range k).map fun i : Nat => decide (((i : Int) + 1) ∈ v), by simp, fun n hn => so_iff.mpr ⟨(h n hn).1, ?_⟩⟩
  have hn2 := h n hn
  rw [List.getElem?_map, List.getElem?_range (by omega)]
  show some (decide (((lampN n - 1 : Nat) : Int) + 1 ∈ v)) = _
  congr 1
  refine decide_eq_decide.mpr ⟨fun hm => ?_, fun hp => ?_⟩
  · rcases Int.lt_or_le 0 n with hp | hp
    · exact hp
    · exfalso
      have e : lampN (((lampN n - 1 : Nat) : Int) + 1) = lampN n := by unfold lampN at hn2 ⊢; omega
      -- two numbers of one lamp
      have one : ∀ {l : List Int}, Up l → ∀ a ∈ l, ∀ b ∈ l, lampN a = lampN b → a = b := by
        intro l hl
        induction hl with
        | nil => intro a ha; exact absurd ha (by simp)
        | @cons c l hc _ ih =>
          intro a ha b hb e
          rcases List.mem_cons.mp ha with e1 | ha'
          · rcases List.mem_cons.mp hb with e2 | hb'
            · rw [e1, e2]
            · have := hc b hb'; rw [e1] at e; omega
          · rcases List.mem_cons.mp hb with e2 | hb'
            · have := hc a ha'; rw [e2] at e; omega
            · exact ih a ha' b hb' e
      have := one hu _ hm n hn e
      unfold lampN at hn2
      omega
  · have e : ((lampN n - 1 : Nat) : Int) + 1 = n := by unfold lampN at hn2 ⊢; omega
    rw [e]; exact hn
theorem FactOk.some_st {ws : List (List Int)} {setters : List Bool} {F : Fact} (h : FactOk ws setters F) : ∃ st : List Bool, st.length = F.at_ ∧ ∀ n ∈ F.nums, isSo n st = true := up_some h.up h.lamps
theorem Sure.wins {ws : List (List Int)} {rest : List Bool} {o : Out} (h : Sure ws rest ([] : List Bool).length o.friend o.rule o.hung) (hs : ∀ n ∈ o.hung, isSo n [] = true) : Wins ws o.friend rest [] o.rule := h [] rfl hs
end GM
namespace GM
open PySem PySem.Spec PyProof.Rows L2 DL
def okS (l : List Nat) : Bool := decide (l.length ≤ 10) && l.all fun c => decide (c = 102) || decide (c = 111)
theorem okG_split (l : List Nat) (ws : List (List Int)) : okG l ws = (okS l && (decide (ws.length ≤ 20) && ws.all (okW l.length))) := by
  unfold okG okS
  cases decide (l.length ≤ 10) <;> cases (l.all fun c => decide (c = 102) || decide (c = 111)) <;> cases decide (ws.length ≤ 20) <;> cases ws.all (okW l.length) <;> rfl
theorem str_len_app (a b : Str) : (a ++ b).length = a.length + b.length := by
  show (a.cps ++ b.cps).size = _
  simp [Str.length]
theorem num_text {n : Int} (h : n.natAbs.log2 < 1900) : (Str.ofString (toString n)).length ≤ 2000 := by
  have := PySem.int_text_length_le (a := n) (k := 1900) (by decide) h
  rw [PySem.ofString_length]
  omega
theorem nat_log {n : Nat} (h : n ≤ 1000) : ((n : Int)).natAbs.log2 < 1900 := Nat.lt_of_le_of_lt (Nat.log2_le_self _) (by omega)
end GM
set_option Elab.async false
set_option linter.all false
set_option maxRecDepth 100000
set_option maxHeartbeats 2000000
/-! Rules walked. -/
namespace GM
open PySem PySem.Spec PyProof.Rows L2 DL
/-- the rule is one of the side f over these lamps -/
def Fit (f : Bool) : List Bool → Ru → Prop
  | [], .fin => True
  | own :: rest, .set _ r => own = f ∧ Fit f rest r
  | own :: rest, .see a b => own ≠ f ∧ Fit f rest a ∧ Fit f rest b
  | _, _ => False
/-- how many lamps are the other side's -/
def others (f : Bool) (rest : List Bool) : Nat := (rest.filter fun o => decide (o ≠ f)).length
theorem wins_fit {ws : List (List Int)} {f : Bool} : ∀ {rest st : List Bool} {r : Ru}, Wins ws f rest st r → Fit f rest r
  | [], _, .fin, _ => trivial
  | _ :: _, _, .set _ _, h => ⟨h.1, wins_fit h.2⟩
  | _ :: _, _, .see _ _, h => ⟨h.1, wins_fit h.2.1, wins_fit h.2.2⟩
  | [], _, .set _ _, h => h.elim
  | [], _, .see _ _, h => h.elim
  | _ :: _, _, .fin, h => h.elim
theorem fit_sees {f : Bool} : ∀ {rest : List Bool} {r : Ru}, Fit f rest r → sees r = others f rest ∧ Uni r
  | [], .fin, _ => ⟨rfl, trivial⟩
  | own :: rest, .set v r, h => by
    obtain ⟨h1, h2⟩ := fit_sees h.2
    refine ⟨?_, h2⟩
    unfold others
    rw [List.filter_cons_of_neg (by simp [h.1])]
    exact h1
  | own :: rest, .see a b, h => by
    obtain ⟨a1, a2⟩ := fit_sees h.2.1
    obtain ⟨b1, b2⟩ := fit_sees h.2.2
    refine ⟨?_, a2, b2, a1.trans b1.symm⟩
    unfold others at a1 ⊢
    rw [List.filter_cons_of_pos (by simpa using h.1)]
    simp only [sees, List.length_cons, a1]
  | [], .set _ _, h => h.elim
  | [], .see _ _, h => h.elim
  | _ :: _, .fin, h => h.elim
theorem others_le (f : Bool) (rest : List Bool) : others f rest ≤ rest.length := List.length_filter_le _ _
/-- in the end its side has what it wants -/
theorem wins_end {ws : List (List Int)} {f : Bool} : ∀ {rest st : List Bool} {r : Ru} {row : List Bool}, Wins ws f rest st r → row.length = sees r → (ws.all fun w => metB w (st ++ due r row)) = f ∧ (due r row).length = rest.length
  | [], st, .fin, row, h, _ => by
    rw [due_fin, List.append_nil]
    exact ⟨h, rfl⟩
  | own :: rest, st, .set v r, row, h, hl => by
    obtain ⟨h1, h2⟩ := wins_end (row := row) h.2 hl
    rw [due_set]
    rw [List.append_assoc] at h1
    exact ⟨h1, congrArg (· + 1) h2⟩
  | own :: rest, st, .see a b, [], h, hl => by simp [sees] at hl
  | own :: rest, st, .see a b, x :: row, h, hl => by
    have hl : row.length + 1 = sees a + 1 := hl
    have u := fit_sees (wins_fit h.2.1)
    have u2 := fit_sees (wins_fit h.2.2)
    rw [due_see]
    cases x with
    | false =>
      obtain ⟨h1, h2⟩ := wins_end (row := row) h.2.1 (by omega)
      rw [List.append_assoc] at h1
      exact ⟨h1, congrArg (· + 1) h2⟩
    | true =>
      obtain ⟨h1, h2⟩ := wins_end (row := row) h.2.2 (by omega)
      rw [List.append_assoc] at h1
      exact ⟨h1, congrArg (· + 1) h2⟩
  | [], _, .set _ _, _, h, _ => h.elim
  | [], _, .see _ _, _, h, _ => h.elim
  | _ :: _, _, .fin, _, h, _ => h.elim
def sideS (f : Bool) : Str := if f then "f" else "o"
theorem side_is {f : Bool} {c : Nat} (h : c = 102 ∨ c = 111) : decide ((⟨#[c]⟩ : Str) = sideS f) = decide (decide (c = 102) = f) := by
  cases f
  · show decide (txt [c] = Str.ofString "o") = _
    rw [str_o, txt_eq]
    rcases h with rfl | rfl <;> decide
  · show decide (txt [c] = Str.ofString "f") = _
    rw [str_f, txt_eq]
    rcases h with rfl | rfl <;> decide
theorem lay_ru : ∀ r : Ru, PyData.canLay0 (ruD r) = true
  | .fin => by
    have : PyData.strOk (Str.ofString "end") = true := by decide +kernel
    simp [ruD, PyData.canLay0, PyData.canLayAll0, this]
  | .set v r => by
    have : PyData.strOk (Str.ofString "set") = true := by decide +kernel
    simp [ruD, PyData.canLay0, PyData.canLayAll0, this, lay_ru r]
  | .see a b => by
    have : PyData.strOk (Str.ofString "see") = true := by decide +kernel
    simp [ruD, PyData.canLay0, PyData.canLayAll0, this, lay_ru a, lay_ru b]
theorem dep_ru : ∀ r : Ru, PyData.depth (ruD r) ≤ dep r + 1
  | .fin => by simp [ruD, PyData.depth, PyData.depthAll]
  | .set v r => by
    have := dep_ru r
    simp only [ruD, PyData.depth, PyData.depthAll, dep]
    omega
  | .see a b => by
    have := dep_ru a
    have := dep_ru b
    simp only [ruD, PyData.depth, PyData.depthAll, dep]
    omega
theorem shaped_ru {r : Ru} (h : dep r ≤ 40) : SeqAt.shaped (ruD r) = true := shaped_iff.mpr ⟨lay_ru r, Nat.le_trans (dep_ru r) (by omega)⟩
theorem fit_dep {f : Bool} : ∀ {rest : List Bool} {r : Ru}, Fit f rest r → dep r = rest.length
  | [], .fin, _ => rfl
  | _ :: _, .set _ _, h => congrArg (· + 1) (fit_dep h.2)
  | _ :: rest, .see a b, h => by
    have h1 := fit_dep h.2.1
    have h2 := fit_dep h.2.2
    simp only [dep, List.length_cons, h1, h2]
    omega
  | [], .set _ _, h => h.elim
  | [], .see _ _, h => h.elim
  | _ :: _, .fin, h => h.elim
end GM
namespace GM
open PySem PySem.Spec PyProof.Rows L2 DL
theorem filterMap_len (l : List Nat) (f : Bool) : (l.filterMap fun c => if decide (c = 102) ≠ f then some (PyData.str ⟨#[c]⟩) else none).length = (l.filter ((fun o => decide (o ≠ f)) ∘ fun c => decide (c = 102))).length := by
  induction l with
  | nil => rfl
  | cons c l ih =>
    by_cases h : decide (c = 102) ≠ f
    · rw [List.filterMap_cons_some (by rw [if_pos h]), List.filter_cons_of_pos (by simpa using h), List.length_cons, List.length_cons, ih]
    · rw [List.filterMap_cons_none (by rw [if_neg h]), List.filter_cons_of_neg (by simpa using h), ih]
end GM
namespace GM
open PySem PySem.Spec PyProof.Rows L2 DL
theorem num_len : ∀ n : Nat, n < 40 → (Str.ofString (toString (n : Int))).length ≤ 4 := by decide +kernel
theorem app_len (a b : Str) : (a ++ b).length = a.length + b.length := by
  show (a.cps ++ b.cps).size = _
  simp [Str.length]
theorem log_small : ∀ n : Nat, n < 40 → ((n : Int)).natAbs.log2 < 1920 := by decide +kernel
theorem map_one (done : List Bool) (v : Bool) : (done ++ [v]).map PyData.bool = done.map PyData.bool ++ [.bool v] := by rw [List.map_append]; rfl
end GM
set_option Elab.async false
set_option linter.all false
set_option maxRecDepth 100000
set_option maxHeartbeats 2000000
/-! What can go. -/
namespace GM
open PySem PySem.Spec PyProof.Rows L2 DL
/-- the wishes at these places -/
def pickW (ws : List (List Int)) (ps : List Nat) : List (List Int) := ps.filterMap fun p => ws[p]?
def without (ps : List Nat) (k : Nat) : List Nat := ps.filter fun p => decide (p ≠ k)
/-- what is kept when the wishes ahead of k have been asked -/
def keptTo (l : List Nat) (ws : List (List Int)) : Nat → List Nat
  | 0 => List.range ws.length
  | k + 1 => if has (pickW ws (without (keptTo l ws k) k)) (own l) [] = true then keptTo l ws k else without (keptTo l ws k) k
def nn (ps : List Nat) : List Int := ps.map fun p : Nat => (p : Int)
def neededD (l : List Nat) (ws : List (List Int)) : D := if has ws (own l) [] then .none else dInts (nn (keptTo l ws ws.length))
section
variable {l : List Nat} {ws : List (List Int)}
theorem mem_without {ps : List Nat} {k p : Nat} : p ∈ without ps k ↔ p ∈ ps ∧ p ≠ k := by
  unfold without
  rw [List.mem_filter, decide_eq_true_iff]
theorem mem_pickW {ps : List Nat} {w : List Int} : w ∈ pickW ws ps ↔ ∃ p, p ∈ ps ∧ ws[p]? = some w := by
  unfold pickW
  rw [List.mem_filterMap]
theorem pickW_range : pickW ws (List.range ws.length) = ws := by
  have h : ∀ n, n ≤ ws.length → pickW ws (List.range n) = ws.take n := by
    intro n
    induction n with
    | zero => intro _; rfl
    | succ n ih =>
      intro hn
      have g : ws[n]? = some ws[n] := List.getElem?_eq_getElem (by omega)
      unfold pickW at ih ⊢
      rw [List.range_succ, List.filterMap_append, ih (by omega), List.take_add_one, g]
      simp [g]
  rw [h _ (Nat.le_refl _), List.take_length]
theorem kept_sub (k : Nat) : (keptTo l ws (k + 1)).Sublist (keptTo l ws k) := by
  rw [keptTo]
  split
  · exact List.Sublist.refl _
  · exact List.filter_sublist
theorem kept_le {j : Nat} : ∀ d : Nat, (keptTo l ws (j + d)).Sublist (keptTo l ws j)
  | 0 => List.Sublist.refl _
  | d + 1 => (kept_sub (j + d)).trans (kept_le d)
theorem kept_range (k : Nat) : (keptTo l ws k).Sublist (List.range ws.length) := by
  have h := kept_le (l := l) (ws := ws) (j := 0) k
  rw [Nat.zero_add] at h
  exact h
theorem kept_lt {k p : Nat} (h : p ∈ keptTo l ws k) : p < ws.length := List.mem_range.mp ((kept_range k).mem h)
theorem kept_len (k : Nat) : (keptTo l ws k).length ≤ ws.length := by
  have := (kept_range (l := l) (ws := ws) k).length_le
  rwa [List.length_range] at this
theorem kept_up (k : Nat) : (keptTo l ws k).Pairwise (· < ·) := List.Pairwise.sublist (kept_range k) List.pairwise_lt_range
theorem kept_foe (h : has ws (own l) [] = false) : ∀ k, has (pickW ws (keptTo l ws k)) (own l) [] = false
  | 0 => by
    rw [keptTo, pickW_range]
    exact h
  | k + 1 => by
    rw [keptTo]
    split
    · exact kept_foe h k
    · rename_i h2
      simpa using h2
theorem kept_before {p : Nat} (hp : p < ws.length) : ∀ k, k ≤ p → p ∈ keptTo l ws k
  | 0, _ => List.mem_range.mpr hp
  | k + 1, h => by
    have ih := kept_before hp k (by omega)
    rw [keptTo]
    split
    · exact ih
    · exact mem_without.mpr ⟨ih, by omega⟩
theorem kept_later {p : Nat} (h : p ∈ keptTo l ws (p + 1)) : ∀ d, p ∈ keptTo l ws (p + 1 + d)
  | 0 => h
  | d + 1 => by
    have ih := kept_later h d
    show p ∈ keptTo l ws (p + 1 + d + 1)
    rw [keptTo]
    split
    · exact ih
    · exact mem_without.mpr ⟨ih, by omega⟩
/-- one that stays could not go when its turn came -/
theorem kept_stay {p k : Nat} (h : p ∈ keptTo l ws k) (hk : p < k) : has (pickW ws (without (keptTo l ws p) p)) (own l) [] = true := by
  obtain ⟨d, rfl⟩ : ∃ d, k = p + 1 + d := ⟨k - (p + 1), by omega⟩
  have h1 := (kept_le (l := l) (ws := ws) (j := p + 1) d).mem h
  rw [keptTo] at h1
  split at h1
  · assumption
  · exact absurd rfl (mem_without.mp h1).2
theorem kept_went {p k : Nat} (h : p ∉ keptTo l ws k) (hk : p < k) (hp : p < ws.length) : keptTo l ws (p + 1) = without (keptTo l ws p) p := by
  rw [keptTo]
  split
  · rename_i h2
    obtain ⟨d, rfl⟩ : ∃ d, k = p + 1 + d := ⟨k - (p + 1), by omega⟩
    refine absurd (kept_later (p := p) ?_ d) h
    rw [keptTo, if_pos h2]
    exact kept_before hp p (Nat.le_refl _)
  · rfl
theorem kept_keeps {p k : Nat} (h : p ∈ keptTo l ws k) (hk : p < k) : keptTo l ws (p + 1) = keptTo l ws p := by
  rw [keptTo, if_pos (kept_stay h hk)]
/-- none of those that stay can go by itself -/
theorem kept_least {k p : Nat} (hk : (keptTo l ws ws.length)[k]? = some p) (vs : List (List Int)) (hv : vs = (pickW ws (keptTo l ws ws.length)).take k ++ (pickW ws (keptTo l ws ws.length)).drop (k + 1)) (hl : (pickW ws (keptTo l ws ws.length)) = (keptTo l ws ws.length).map fun p => ws.getD p []) : has vs (own l) [] = true := by
  have hp := List.mem_of_getElem? hk
  have lt := kept_lt hp
  refine has_fewer (fun w hw => ?_) _ _ (kept_stay hp lt)
  have up := List.pairwise_iff_getElem.mp (kept_up (l := l) (ws := ws) ws.length)
  obtain ⟨kl, ek⟩ := List.getElem?_eq_some_iff.mp hk
  obtain ⟨j, hj, hjk⟩ : ∃ j, (pickW ws (keptTo l ws ws.length))[j]? = some w ∧ j ≠ k := by
    rw [hv] at hw
    rcases List.mem_append.mp hw with h | h
    · obtain ⟨j, hj⟩ := List.mem_iff_getElem?.mp h
      have jl := (List.getElem?_eq_some_iff.mp hj).1
      rw [List.length_take] at jl
      rw [List.getElem?_take_of_lt (by omega)] at hj
      exact ⟨j, hj, by omega⟩
    · obtain ⟨j, hj⟩ := List.mem_iff_getElem?.mp h
      rw [List.getElem?_drop] at hj
      exact ⟨k + 1 + j, hj, by omega⟩
  rw [hl, List.getElem?_map] at hj
  cases q : (keptTo l ws ws.length)[j]? with
  | none => rw [q] at hj; cases hj
  | some r =>
    rw [q] at hj
    obtain ⟨jl, ej⟩ := List.getElem?_eq_some_iff.mp q
    have hr := List.mem_of_getElem? q
    have rl := kept_lt hr
    have hrp : r ≠ p := by
      rcases Nat.lt_or_gt_of_ne hjk with z | z
      · have := up j k jl kl z; omega
      · have := up k j kl jl z; omega
    refine mem_pickW.mpr ⟨r, mem_without.mpr ⟨(by
      have h := kept_le (l := l) (ws := ws) (j := p) (ws.length - p)
      rw [show p + (ws.length - p) = ws.length by omega] at h
      exact h.mem hr), hrp⟩, ?_⟩
    have e : ws.getD r [] = w := Option.some.inj hj
    rw [List.getD_eq_getElem?_getD, List.getElem?_eq_getElem rl] at e
    rw [List.getElem?_eq_getElem rl]
    exact congrArg some e
theorem pickW_map {ps : List Nat} (h : ∀ p ∈ ps, p < ws.length) : pickW ws ps = ps.map fun p => ws.getD p [] := by
  unfold pickW
  induction ps with
  | nil => rfl
  | cons p ps ih =>
    have pl := h p List.mem_cons_self
    have g : ws[p]? = some ws[p] := List.getElem?_eq_getElem pl
    rw [List.filterMap_cons_some g, ih fun q hq => h q (List.mem_cons_of_mem _ hq), List.map_cons, List.getD_eq_getElem?_getD, g]
    rfl
theorem pickW_game {m : Nat} {ps : List Nat} (hg : GameOf m ws) (h : ps.length ≤ ws.length) : GameOf m (pickW ws ps) := by
  refine ⟨Nat.le_trans (List.length_filterMap_le _ _) (Nat.le_trans h hg.1), fun w hw => ?_⟩
  obtain ⟨p, _, hp⟩ := mem_pickW.mp hw
  exact hg.2 w (List.mem_of_getElem? hp)
theorem without_len (ps : List Nat) (k : Nat) : (without ps k).length ≤ ps.length := List.length_filter_le _ _
def placeW (ws : List (List Int)) (d : D) : D := dInts (ws.getD (numD d).toNat [])
theorem picked {ps : List Nat} (h : ∀ p ∈ ps, p < ws.length) : ((nn ps).map PyData.int).map (placeW ws) = (pickW ws ps).map dInts := by
  rw [pickW_map h]
  unfold nn
  rw [List.map_map, List.map_map, List.map_map]
  rfl
theorem mem_nn {ps : List Nat} {p : Nat} : (p : Int) ∈ nn ps ↔ p ∈ ps := by
  unfold nn
  rw [List.mem_map]
  constructor
  · rintro ⟨q, hq, e⟩
    obtain rfl : q = p := by omega
    exact hq
  · exact fun h => ⟨p, h, rfl⟩
theorem nn_without {ps : List Nat} {k : Nat} : (nn ps).filter (fun n => decide (n ≠ (k : Int))) = nn (without ps k) := by
  unfold nn without
  rw [List.filter_map]
  congr 1
  refine List.filter_congr fun p _ => ?_
  show decide ((p : Int) ≠ (k : Int)) = decide (p ≠ k)
  by_cases h : p = k
  · subst h; simp
  · simp [h]; omega
end
/-! the wishes of the law on what is needed -/
def sizes13 (c : Int) : List Int := [1, 2, 2, 3, 3, 1, 2, 3, 2, 4 + c / 12 % 7, 4 + c / 12 % 7, 0]
def size13 (c : Int) : Int := (sizes13 c).getD (c % 12).toNat 0
theorem size13_ok (c : Int) : ∃ k : Nat, size13 c = (k : Int) ∧ k ≤ 10 := by
  have h6 : 0 ≤ c / 12 % 7 ∧ c / 12 % 7 < 7 := by omega
  have h : 0 ≤ size13 c ∧ size13 c ≤ 10 := by
    unfold size13 sizes13
    have h : c % 12 = 0 ∨ c % 12 = 1 ∨ c % 12 = 2 ∨ c % 12 = 3 ∨ c % 12 = 4 ∨ c % 12 = 5 ∨ c % 12 = 6 ∨ c % 12 = 7 ∨ c % 12 = 8 ∨ c % 12 = 9 ∨ c % 12 = 10 ∨ c % 12 = 11 := by omega
    rcases h with h | h | h | h | h | h | h | h | h | h | h | h <;> rw [h]
    all_goals simp
    all_goals omega
  exact ⟨(size13 c).toNat, by omega, by omega⟩
def wish13 (c : Int) (m : Nat) : List Int := if 0 < m then nums (mixed c / 84) m (size13 (mixed c)).toNat else []
theorem wish13_ok (c : Int) (m : Nat) : WishOf m (wish13 c m) := by
  unfold wish13
  split
  · rename_i h0
    obtain ⟨k, hk, hk10⟩ := size13_ok (mixed c)
    exact ⟨by rw [nums_len, hk, Int.toNat_natCast]; exact hk10, nums_ok h0⟩
  · exact ⟨Nat.zero_le _, fun n hn => nomatch hn⟩
end GM
set_option Elab.async false
set_option linter.all false
set_option maxRecDepth 100000
set_option maxHeartbeats 2000000
/-! What can be given away. -/
namespace GM
open PySem PySem.Spec PyProof.Rows L2 DL
/-- lamp k is the foe's -/
def gave (l : List Nat) (k : Nat) : List Nat := l.set k 111
/-- the setters when the lamps ahead of k have been asked -/
def lentTo (l : List Nat) (ws : List (List Int)) : Nat → List Nat
  | 0 => l
  | k + 1 => if has ws (own (gave (lentTo l ws k) k)) [] = true then gave (lentTo l ws k) k else lentTo l ws k
def lentD (l : List Nat) (ws : List (List Int)) : D := if has ws (own l) [] then .str (txt (lentTo l ws l.length)) else .none
section
variable {l : List Nat} {ws : List (List Int)}
theorem gave_len (l : List Nat) (k : Nat) : (gave l k).length = l.length := List.length_set
theorem lent_len : ∀ k, (lentTo l ws k).length = l.length
  | 0 => rfl
  | k + 1 => by
    rw [lentTo]
    split
    · rw [gave_len, lent_len k]
    · exact lent_len k
theorem gave_fo {l : List Nat} (h : Fo l) (k : Nat) : Fo (gave l k) := fun c hc => by
  rcases List.mem_or_eq_of_mem_set hc with h1 | h1
  · exact h c h1
  · exact .inr h1
theorem lent_fo (h : Fo l) : ∀ k, Fo (lentTo l ws k)
  | 0 => h
  | k + 1 => by
    rw [lentTo]
    split
    · exact gave_fo (lent_fo h k) k
    · exact lent_fo h k
theorem lent_has (h : has ws (own l) [] = true) : ∀ k, has ws (own (lentTo l ws k)) [] = true
  | 0 => h
  | k + 1 => by
    rw [lentTo]
    split
    · assumption
    · exact lent_has h k
/-- giving more away -/
theorem given_gave : ∀ (l : List Nat) (k : Nat), Given (own l) (own (gave l k))
  | [], k => by unfold gave; rw [List.set_nil]; exact .nil
  | c :: l, 0 => by
    show Given (decide (c = 102) :: own l) (decide ((111 : Nat) = 102) :: own l)
    cases h : decide (c = 102) with
    | true => exact .away (Given.refl _)
    | false => exact .same false (Given.refl _)
  | c :: l, k + 1 => .same _ (given_gave l k)
theorem gave_given : ∀ {l m : List Nat} (k : Nat), Given (own l) (own m) → Given (own (gave l k)) (own (gave m k))
  | [], [], k, h => h
  | [], d :: m, k, h => by
    have h : Given [] (decide (d = 102) :: own m) := h
    generalize decide (d = 102) = b at h
    cases h
  | c :: l, [], k, h => by
    have h : Given (decide (c = 102) :: own l) [] := h
    generalize decide (c = 102) = b at h
    cases h
  | c :: l, d :: m, 0, h => by
    have t : Given (own l) (own m) := by
      have h : Given (decide (c = 102) :: own l) (decide (d = 102) :: own m) := h
      generalize decide (c = 102) = a at h
      generalize decide (d = 102) = b at h
      cases h with
      | same _ h => exact h
      | away h => exact h
    exact .same _ t
  | c :: l, d :: m, k + 1, h => by
    have h : Given (decide (c = 102) :: own l) (decide (d = 102) :: own m) := h
    show Given (decide (c = 102) :: own (gave l k)) (decide (d = 102) :: own (gave m k))
    generalize decide (c = 102) = a at h ⊢
    generalize decide (d = 102) = b at h ⊢
    cases h with
    | same _ h => exact .same _ (gave_given k h)
    | away h => exact .away (gave_given k h)
theorem lent_given {j : Nat} : ∀ d : Nat, Given (own (lentTo l ws j)) (own (lentTo l ws (j + d)))
  | 0 => Given.refl _
  | d + 1 => by
    refine (lent_given d).trans ?_
    show Given _ (own (lentTo l ws (j + d + 1)))
    rw [lentTo]
    split
    · exact given_gave _ _
    · exact Given.refl _
/-- a lamp that was asked stays as it was then -/
theorem lent_at {p : Nat} : ∀ d : Nat, (lentTo l ws (p + 1 + d))[p]? = (lentTo l ws (p + 1))[p]?
  | 0 => rfl
  | d + 1 => by
    show (lentTo l ws (p + 1 + d + 1))[p]? = _
    rw [lentTo]
    split
    · unfold gave
      rw [List.getElem?_set_ne (by omega)]
      exact lent_at d
    · exact lent_at d
theorem lent_ahead {p : Nat} : ∀ k : Nat, k ≤ p → (lentTo l ws k)[p]? = l[p]?
  | 0, _ => rfl
  | k + 1, h => by
    rw [lentTo]
    split
    · unfold gave
      rw [List.getElem?_set_ne (by omega)]
      exact lent_ahead k (by omega)
    · exact lent_ahead k (by omega)
theorem gave_same {l : List Nat} {k : Nat} (h : l[k]? = some 111) : gave l k = l := by
  unfold gave
  obtain ⟨hk, e⟩ := List.getElem?_eq_some_iff.mp h
  rw [← e, List.set_getElem_self]
/-- one that went -/
theorem lent_went {p : Nat} (hp : p < l.length) (h : (lentTo l ws l.length)[p]? = some 111) : lentTo l ws (p + 1) = gave (lentTo l ws p) p := by
  have e := lent_at (l := l) (ws := ws) (p := p) (l.length - (p + 1))
  rw [show p + 1 + (l.length - (p + 1)) = l.length by omega, h] at e
  rw [lentTo] at e ⊢
  split
  · rfl
  · rename_i h2
    rw [if_neg h2] at e
    exact (gave_same e.symm).symm
/-- one that stays could not go when its turn came -/
theorem lent_stay {p : Nat} (hp : p < l.length) (h : (lentTo l ws l.length)[p]? = some 102) : has ws (own (gave (lentTo l ws p) p)) [] = false ∧ lentTo l ws (p + 1) = lentTo l ws p := by
  have e := lent_at (l := l) (ws := ws) (p := p) (l.length - (p + 1))
  rw [show p + 1 + (l.length - (p + 1)) = l.length by omega, h] at e
  rw [lentTo] at e ⊢
  split
  · rename_i h2
    rw [if_pos h2] at e
    unfold gave at e
    rw [List.getElem?_set_self (by rw [lent_len]; exact hp)] at e
    exact absurd (Option.some.inj e) (by decide)
  · rename_i h2
    exact ⟨by simpa using h2, rfl⟩
/-- none of those that stay can go by itself -/
theorem lent_least {p : Nat} (hp : p < l.length) (h : (lentTo l ws l.length)[p]? = some 102) : has ws (own (gave (lentTo l ws l.length) p)) [] = false := by
  obtain ⟨h1, _⟩ := lent_stay hp h
  have g := lent_given (l := l) (ws := ws) (j := p) (l.length - p)
  rw [show p + (l.length - p) = l.length by omega] at g
  cases q : has ws (own (gave (lentTo l ws l.length) p)) [] with
  | false => rfl
  | true =>
    have := has_given (gave_given p g) [] q
    rw [h1] at this
    exact this.symm
/-- what was the foe's stays so -/
theorem lent_foe {p : Nat} (hp : p < l.length) (h : l[p]? = some 111) : (lentTo l ws l.length)[p]? = some 111 := by
  have e := lent_at (l := l) (ws := ws) (p := p) (l.length - (p + 1))
  rw [show p + 1 + (l.length - (p + 1)) = l.length by omega] at e
  have a := lent_ahead (l := l) (ws := ws) (p := p) p (Nat.le_refl _)
  rw [h] at a
  rw [e, lentTo, gave_same a]
  split
  · exact a
  · exact a
end
/-! the wishes of the law on what is lent -/
def sizes14 (g : Bool) : List Int := if g then [2, 3, 3, 4, 4, 5, 6, 9] else [1, 2, 2, 3, 3, 4, 4, 3]
def size14 (c : Int) (g : Bool) : Int := (sizes14 g).getD (c % 8).toNat 0
theorem size14_ok (c : Int) (g : Bool) : ∃ k : Nat, size14 c g = (k : Int) ∧ k ≤ 10 := by
  have h : 0 ≤ size14 c g ∧ size14 c g ≤ 10 := by
    unfold size14
    have h : c % 8 = 0 ∨ c % 8 = 1 ∨ c % 8 = 2 ∨ c % 8 = 3 ∨ c % 8 = 4 ∨ c % 8 = 5 ∨ c % 8 = 6 ∨ c % 8 = 7 := by omega
    rcases h with h | h | h | h | h | h | h | h <;> rw [h] <;> cases g <;> decide
  exact ⟨(size14 c g).toNat, by omega, by omega⟩
def wish14 (c : Int) (m : Nat) (g : Bool) : List Int := if 0 < m then nums (mixed c / 8) m (size14 (mixed c) g).toNat else []
theorem wish14_ok (c : Int) (m : Nat) (g : Bool) : WishOf m (wish14 c m g) := by
  unfold wish14
  split
  · rename_i h0
    obtain ⟨k, hk, hk10⟩ := size14_ok (mixed c) g
    exact ⟨by rw [nums_len, hk, Int.toNat_natCast]; exact hk10, nums_ok h0⟩
  · exact ⟨Nat.zero_le _, fun n hn => nomatch hn⟩
end GM
set_option Elab.async false
set_option linter.all false
set_option maxRecDepth 100000
set_option maxHeartbeats 2000000
/-! Going through a game by trying a lamp's values in a loop. -/
namespace GM
open PySem PySem.Spec PyProof.Rows L2 DL
abbrev iniG : List (List Int) × List Nat × List Bool × List Fact → List D := fun x => x.2.2.2.map factD
def goneX (x : List (List Int) × List Nat × List Bool × List Fact) : Out × List Fact := gone x.1 ((own x.2.1).drop x.2.2.1.length) x.2.2.1 x.2.2.2
def triedX (x : List (List Int) × List Nat × List Bool × List Fact) : Out × List Fact := tried x.1 (decide (x.2.1.getD x.2.2.1.length 0 = 102)) ((own x.2.1).drop (x.2.2.1.length + 1)) x.2.2.1 x.2.2.2
def optF : Option Fact → D
  | some F => factD F
  | none => .none
theorem eqv_ints : ∀ a b : List Int, PyData.eqv (dInts a) (dInts b) = decide (a = b)
  | [], [] => by simp [PyData.eqv, PyData.eqvAll]
  | [], b :: bs => by simp [PyData.eqv, PyData.eqvAll]
  | a :: as, [] => by simp [PyData.eqv, PyData.eqvAll]
  | a :: as, b :: bs => by
    have ih := eqv_ints as bs
    simp only [PyData.eqv] at ih ⊢
    rw [List.map_cons, List.map_cons]
    simp only [PyData.eqvAll, ih, PyData.eqv]
    by_cases h1 : a = b
    · by_cases h2 : as = bs <;> simp [h1, h2]
    · simp [h1]
section
variable {ws : List (List Int)} {l : List Nat} {st : List Bool} {facts : List Fact} {me : Bool} {rest : List Bool}
theorem butFor_ne {v : Bool} {nums : List Int} (hs : ∀ n ∈ nums, isSo n (st ++ [v]) = true) : (nums.filter fun n => !decide ((lampN n : Int) = ((st.length + 1 : Nat) : Int))) = butFor st.length nums := by
  unfold butFor
  refine List.filter_congr fun n hn => ?_
  have := (so_set (hs n hn)).2
  rw [List.length_append] at this
  have h1 : lampN n ≤ st.length + 1 := this
  rw [← decide_not]
  exact decide_eq_decide.mpr (by omega)
theorem butFor_same {v : Bool} {nums : List Int} (hs : ∀ n ∈ nums, isSo n (st ++ [v]) = true) : butFor st.length nums = nums ↔ (if v then 1 + (st.length : Int) else -1 - (st.length : Int)) ∉ nums := by
  unfold butFor
  rw [List.filter_eq_self]
  constructor
  · intro h hm
    have := of_decide_eq_true (h _ hm)
    unfold lampN at this
    cases v <;> simp at this <;> omega
  · intro h n hn
    rcases so_of_last (hs n hn) with hso | ⟨e, hv⟩
    · exact decide_eq_true (so_set hso).2
    · exact absurd (last_is e hv ▸ hn) h
theorem but_len {v : Bool} {o : Out} (h : OutOk ws rest (st ++ [v]) o) (h9 : st.length ≤ 9) : o.hung.length ≤ 10 :=
  Nat.le_trans (up_len2 (k := 10) h.up fun n hn => by have := so_set (h.so n hn); rw [List.length_append] at this; exact ⟨this.1, Nat.le_trans this.2 (by show st.length + 1 ≤ 10; omega)⟩) (Nat.le_refl _)
theorem two_pow (hlt : st.length < l.length) : 2 ^ (l.length - st.length) = 2 * 2 ^ (l.length - (st.length + 1)) := by
  have : l.length - st.length = (l.length - (st.length + 1)) + 1 := by omega
  rw [this, Nat.pow_succ, Nat.mul_comm]
theorem walk_off (hw : Walkable ws l st facts) (hlt : st.length < l.length) : Walkable ws l (st ++ [false]) facts := by
  have := two_pow (st := st) hlt
  have pos : 0 < 2 ^ (l.length - (st.length + 1)) := Nat.two_pow_pos _
  have few := hw.few
  exact ⟨hw.l10, hw.fo, hw.game, by simp; omega, hw.ok, hw.once, by rw [List.length_append]; show facts.length + 2 ^ (l.length - (st.length + 1)) ≤ 5000; omega⟩
theorem walk_gone {v : Bool} {fin : List Fact} (hw : Walkable ws l (st ++ [v]) fin) : GoneOk ws (own l) ((own l).drop (st.length + 1)) (st ++ [v]) fin (st ++ [v]).length (gone ws ((own l).drop (st.length + 1)) (st ++ [v]) fin) := by
  have A := hw.gone
  rw [List.length_append] at A ⊢
  exact A
theorem walk_on (hw : Walkable ws l st facts) (hlt : st.length < l.length) : Walkable ws l (st ++ [true]) (gone ws ((own l).drop (st.length + 1)) (st ++ [false]) facts).2 := by
  have two := two_pow (st := st) hlt
  have pos : 0 < 2 ^ (l.length - (st.length + 1)) := Nat.two_pow_pos _
  have few := hw.few
  have A := walk_gone (walk_off hw hlt)
  have L := gone_len (ws := ws) ((own l).drop (st.length + 1)) (st ++ [false]) facts
  rw [List.length_drop, own_len] at L
  exact ⟨hw.l10, hw.fo, hw.game, by simp; omega, A.facts, A.once, by rw [List.length_append]; show _ + 2 ^ (l.length - (st.length + 1)) ≤ 5000; omega⟩
def TInv (ws : List (List Int)) (me : Bool) (rest st : List Bool) (facts : List Fact) : Nat → List Fact → List Ru → List Int → Prop
  | 0, fin, bs, hs => fin = facts ∧ bs = [] ∧ hs = []
  | 1, fin, bs, hs => joinOff me st.length (gone ws rest (st ++ [false]) facts).1 = none ∧ fin = (gone ws rest (st ++ [false]) facts).2 ∧ bs = [(gone ws rest (st ++ [false]) facts).1.rule] ∧ hs = butFor st.length (gone ws rest (st ++ [false]) facts).1.hung
  | _, fin, bs, hs => joinOff me st.length (gone ws rest (st ++ [false]) facts).1 = none ∧
    (gone ws rest (st ++ [true]) (gone ws rest (st ++ [false]) facts).2).1.friend ≠ me ∧ (1 + (st.length : Int)) ∈ (gone ws rest (st ++ [true]) (gone ws rest (st ++ [false]) facts).2).1.hung ∧
    fin = (gone ws rest (st ++ [true]) (gone ws rest (st ++ [false]) facts).2).2 ∧ bs = [(gone ws rest (st ++ [false]) facts).1.rule, (gone ws rest (st ++ [true]) (gone ws rest (st ++ [false]) facts).2).1.rule] ∧
    hs = butFor st.length (gone ws rest (st ++ [false]) facts).1.hung ++ butFor st.length (gone ws rest (st ++ [true]) (gone ws rest (st ++ [false]) facts).2).1.hung
theorem join_none {k : Nat} {o : Out} (h : joinOff me k o = none) : o.friend ≠ me ∧ (-1 - (k : Int)) ∈ o.hung := by
  unfold joinOff at h
  split at h
  · cases h
  · rename_i h1
    split at h
    · rename_i h2; exact ⟨h1, h2⟩
    · cases h
structure Turned (ws : List (List Int)) (l : List Nat) (me : Bool) (rest st : List Bool) (facts : List Fact) (k : Nat) (fin : List Fact) (bs : List Ru) (hs : List Int) (v : Bool) (o : Out) (fout : List Fact) : Prop where
  at_ : ([.bool false, .bool true] : List D)[k]? = some (.bool v)
  walk : Walkable ws l (st ++ [v]) fin
  gone : goneX (ws, l, st ++ [v], fin) = (o, fout)
  out : OutOk ws rest (st ++ [v]) o
  bl : bs.length ≤ 1
  hl : hs.length ≤ 10
  ownw : o.friend = me → tried ws me rest st facts = (⟨me, .set v o.rule, butFor st.length o.hung⟩, fout)
  same : o.friend ≠ me → butFor st.length o.hung = o.hung → tried ws me rest st facts = (⟨o.friend, .see o.rule o.rule, o.hung⟩, fout)
  next : o.friend ≠ me → butFor st.length o.hung ≠ o.hung → TInv ws me rest st facts (k + 1) fout (bs ++ [o.rule]) (hs ++ butFor st.length o.hung)
theorem turn_ok {k : Nat} {fin : List Fact} {bs : List Ru} {hs : List Int} (hr : (own l).drop (st.length + 1) = rest) (hw : Walkable ws l st facts) (hlt : st.length < l.length) (hk : k < 2) (h : TInv ws me rest st facts k fin bs hs) :
    ∃ v o fout, Turned ws l me rest st facts k fin bs hs v o fout := by
  subst hr
  have h9 : st.length ≤ 9 := by have := hw.l10; omega
  have ed : ∀ v : Bool, (own l).drop (st ++ [v]).length = (own l).drop (st.length + 1) := fun v => by rw [List.length_append]; rfl
  have T1 : tried ws me ((own l).drop (st.length + 1)) st facts = match joinOff me st.length (gone ws ((own l).drop (st.length + 1)) (st ++ [false]) facts).1 with
    | some o => (o, (gone ws ((own l).drop (st.length + 1)) (st ++ [false]) facts).2)
    | none => (joinOn me st.length (gone ws ((own l).drop (st.length + 1)) (st ++ [false]) facts).1 (gone ws ((own l).drop (st.length + 1)) (st ++ [true]) (gone ws ((own l).drop (st.length + 1)) (st ++ [false]) facts).2).1, (gone ws ((own l).drop (st.length + 1)) (st ++ [true]) (gone ws ((own l).drop (st.length + 1)) (st ++ [false]) facts).2).2) := rfl
  have W1 := walk_off hw hlt
  have W2 := walk_on hw hlt
  have O1 := (walk_gone W1).out
  have O2 := (walk_gone W2).out
  match k, hk, h with
  | 0, _, h =>
    obtain ⟨rfl, rfl, rfl⟩ := h
    refine ⟨false, _, _, rfl, W1, by show gone ws ((own l).drop (st ++ [false]).length) (st ++ [false]) fin = _; rw [ed], O1, Nat.zero_le _, Nat.zero_le _, fun e => ?_, fun e e2 => ?_, fun e e2 => ?_⟩
    · rw [T1]
      unfold joinOff
      rw [if_pos e]
    · have e3 : (-1 - (st.length : Int)) ∉ (gone ws ((own l).drop (st.length + 1)) (st ++ [false]) fin).1.hung := (butFor_same O1.so).mp e2
      rw [T1]
      unfold joinOff
      rw [if_neg e, if_neg e3]
    · refine ⟨?_, rfl, rfl, by rw [List.nil_append]⟩
      have e3 : (-1 - (st.length : Int)) ∈ (gone ws ((own l).drop (st.length + 1)) (st ++ [false]) fin).1.hung := Classical.byContradiction fun z => e2 ((butFor_same O1.so).mpr z)
      unfold joinOff
      rw [if_neg e, if_pos e3]
  | 1, _, h =>
    obtain ⟨hj, rfl, rfl, rfl⟩ := h
    refine ⟨true, _, _, rfl, W2, by show gone ws ((own l).drop (st ++ [true]).length) (st ++ [true]) _ = _; rw [ed], O2, Nat.le_refl _, Nat.le_trans (List.length_filter_le _ _) (but_len O1 h9), fun e => ?_, fun e e2 => ?_, fun e e2 => ?_⟩
    · rw [T1, hj]
      unfold joinOn
      rw [if_pos e]
    · have e3 : (1 + (st.length : Int)) ∉ (gone ws ((own l).drop (st.length + 1)) (st ++ [true]) (gone ws ((own l).drop (st.length + 1)) (st ++ [false]) facts).2).1.hung := (butFor_same O2.so).mp e2
      rw [T1, hj]
      unfold joinOn
      rw [if_neg e, if_neg e3]
    · have e3 : (1 + (st.length : Int)) ∈ (gone ws ((own l).drop (st.length + 1)) (st ++ [true]) (gone ws ((own l).drop (st.length + 1)) (st ++ [false]) facts).2).1.hung := Classical.byContradiction fun z => e2 ((butFor_same O2.so).mpr z)
      exact ⟨hj, e, e3, rfl, rfl, rfl⟩
theorem turn_end {fin : List Fact} {bs : List Ru} {hs : List Int} (hr : (own l).drop (st.length + 1) = rest) (hw : Walkable ws l st facts) (hlt : st.length < l.length) (h : TInv ws me rest st facts 2 fin bs hs) :
    ∃ a b, bs = [a, b] ∧ Good hs ∧ tried ws me rest st facts = (⟨!me, .see a b, rising hs⟩, fin) := by
  subst hr
  have h9 : st.length ≤ 9 := by have := hw.l10; omega
  have T1 : tried ws me ((own l).drop (st.length + 1)) st facts = match joinOff me st.length (gone ws ((own l).drop (st.length + 1)) (st ++ [false]) facts).1 with
    | some o => (o, (gone ws ((own l).drop (st.length + 1)) (st ++ [false]) facts).2)
    | none => (joinOn me st.length (gone ws ((own l).drop (st.length + 1)) (st ++ [false]) facts).1 (gone ws ((own l).drop (st.length + 1)) (st ++ [true]) (gone ws ((own l).drop (st.length + 1)) (st ++ [false]) facts).2).1, (gone ws ((own l).drop (st.length + 1)) (st ++ [true]) (gone ws ((own l).drop (st.length + 1)) (st ++ [false]) facts).2).2) := rfl
  have O1 := (walk_gone (walk_off hw hlt)).out
  have O2 := (walk_gone (walk_on hw hlt)).out
  obtain ⟨hj, hf, hm, rfl, rfl, rfl⟩ := h
  have l1 := but_len O1 h9
  have l2 := but_len O2 h9
  have hn := (join_none hj).1
  rw [hj] at T1
  generalize gone ws ((own l).drop (st.length + 1)) (st ++ [true]) (gone ws ((own l).drop (st.length + 1)) (st ++ [false]) facts).2 = on at *
  generalize gone ws ((own l).drop (st.length + 1)) (st ++ [false]) facts = off at *
  refine ⟨_, _, rfl, good_so (st := st) (by omega) ?_ fun n hn => ?_, ?_⟩
  · rw [List.length_append]
    have a1 := List.length_filter_le (fun n => decide (lampN n ≤ st.length)) off.1.hung
    have a2 := List.length_filter_le (fun n => decide (lampN n ≤ st.length)) on.1.hung
    unfold butFor
    omega
  · rcases List.mem_append.mp hn with hn | hn
    · exact so_butFor O1.so n hn
    · exact so_butFor O2.so n hn
  · rw [T1]
    show (joinOn me st.length off.1 on.1, on.2) = _
    unfold joinOn
    rw [if_neg hf, if_pos hm]
    have e : off.1.friend = !me := by
      cases h1 : off.1.friend <;> cases me <;> simp_all
    have e2 : butFor st.length (off.1.hung ++ on.1.hung) = butFor st.length off.1.hung ++ butFor st.length on.1.hung := List.filter_append _ _
    rw [e, e2]
theorem tried_of (x : List (List Int) × List Nat × List Bool × List Fact) (hr : (own x.2.1).drop (x.2.2.1.length + 1) = rest) (hm : decide (x.2.1.getD x.2.2.1.length 0 = 102) = me) : triedX x = tried x.1 me rest x.2.2.1 x.2.2.2 := by
  unfold triedX
  rw [hr, hm]
end
end GM
namespace GM
open PySem PySem.Spec PyProof.Rows L2 DL
theorem cut_to (l : List Nat) (k : Nat) : cutS (txt l) none (some (k : Int)) = txt (l.take k) := by
  have h := sl_to l k
  show (⟨_⟩ : Str) = ⟨_⟩
  rw [← h]
  rfl
theorem gave_cut {l : List Nat} {k : Nat} (h : k < l.length) : l.take k ++ [111] ++ l.drop (k + 1) = gave l k := by
  unfold gave
  rw [List.set_eq_take_append_cons_drop, if_pos h, List.append_assoc]
  rfl
theorem lent_step {l : List Nat} {ws : List (List Int)} {k : Nat} (hf : Fo l) (hk : k < l.length) (b : Bool) (hb : b = (decide (l[k]? = some 102) && has ws (own (gave (lentTo l ws k) k)) [])) : lentTo l ws (k + 1) = if b then gave (lentTo l ws k) k else lentTo l ws k := by
  rw [lentTo]
  have g : l[k]? = some l[k] := List.getElem?_eq_getElem hk
  rcases hf l[k] (List.getElem_mem hk) with e | e
  · rw [hb, g, e]
    simp
  · have h1 := lent_ahead (l := l) (ws := ws) k (Nat.le_refl k)
    rw [g, e] at h1
    have h2 := gave_same h1
    have hb : b = false := by rw [hb, g, e]; rfl
    rw [hb, h2]
    simp
end GM
set_option Elab.async false
set_option linter.all false
set_option maxRecDepth 100000
set_option maxHeartbeats 2000000
/-! Games as texts. -/
namespace GM
open PySem PySem.Spec PyProof.Rows L2 DL PySem.NumText
theorem txt_self (s : Str) : txt s.cps.toList = s := by
  unfold txt
  cases s
  simp
theorem txt_list (l : List Nat) : (txt l).cps.toList = l := by simp [txt]
/-! ### split and join -/
def splitC (c : Nat) : List Nat → List (List Nat)
  | [] => [[]]
  | a :: l => if a = c then [] :: splitC c l else match splitC c l with
    | [] => [[a]]
    | w :: ws => (a :: w) :: ws
def joinC (c : Nat) : List (List Nat) → List Nat
  | [] => []
  | [x] => x
  | x :: y :: r => x ++ c :: joinC c (y :: r)
theorem splitC_ne (c : Nat) : ∀ l, ∃ w ws, splitC c l = w :: ws
  | [] => ⟨_, _, rfl⟩
  | a :: l => by
    obtain ⟨w, ws, e⟩ := splitC_ne c l
    rw [splitC]
    split
    · exact ⟨_, _, rfl⟩
    · rw [e]; exact ⟨_, _, rfl⟩
theorem split_free1 {c : Nat} : ∀ {l : List Nat}, c ∉ l → splitC c l = [l]
  | [], _ => rfl
  | a :: l, h => by
    rw [splitC, if_neg fun z => h (by rw [z]; exact List.mem_cons_self), split_free1 fun z => h (List.mem_cons_of_mem _ z)]
theorem split_at {c : Nat} : ∀ {w r : List Nat}, c ∉ w → splitC c (w ++ c :: r) = w :: splitC c r
  | [], r, _ => by rw [List.nil_append, splitC, if_pos rfl]
  | a :: w, r, h => by
    rw [List.cons_append, splitC, if_neg fun z => h (by rw [z]; exact List.mem_cons_self), split_at fun z => h (List.mem_cons_of_mem _ z)]
theorem split_join {c : Nat} : ∀ {ps : List (List Nat)}, ps ≠ [] → (∀ p ∈ ps, c ∉ p) → splitC c (joinC c ps) = ps
  | [], h, _ => absurd rfl h
  | [x], _, h => split_free1 (h x List.mem_cons_self)
  | x :: y :: r, _, h => by
    rw [joinC, split_at (h x List.mem_cons_self), split_join (ps := y :: r) (by simp) fun p hp => h p (List.mem_cons_of_mem _ hp)]
theorem join_txt (c : Nat) : ∀ ps : List (List Nat), Str.join (txt [c]) (ps.map txt) = txt (joinC c ps)
  | [] => rfl
  | [x] => rfl
  | x :: y :: r => by
    have ih := join_txt c (y :: r)
    show txt x ++ txt [c] ++ Str.join (txt [c]) ((y :: r).map txt) = _
    rw [ih, txt_app, txt_app, joinC, List.append_assoc]
    rfl
theorem split_txt (c : Nat) (l : List Nat) : Txt.split (txt l) (txt [c]) = (splitC c l).map txt := by
  have h1 := StrLaws.join_split (txt l) (txt [c])
  have h2 := StrLaws.split_free (txt l) c
  have ne : Txt.split (txt l) (txt [c]) ≠ [] := by
    unfold Txt.split
    split
    · simp
    · split
      · simp
      · rw [StrLaws.partsBetween_eq]
        obtain ⟨p, r, e⟩ := StrLaws.partsFrom_ne (txt l) (txt [c]).length 0 (Builtin.Str.occurrences (txt l) (txt [c]) 0 (txt l).length ((txt l).length + 1))
        rw [e]
        simp
  change ∀ p ∈ Txt.split (txt l) (txt [c]), c ∉ p.cps.toList at h2
  generalize Txt.split (txt l) (txt [c]) = ps at h1 h2 ne
  have hps : ps = (ps.map fun p => p.cps.toList).map txt := by
    rw [List.map_map]
    conv => lhs; rw [← List.map_id ps]
    exact List.map_congr_left fun p _ => (txt_self p).symm
  rw [hps, join_txt] at h1
  have h1 := txt_inj h1
  rw [← h1, split_join (by simpa using ne) (fun p hp => by
    obtain ⟨q, hq, rfl⟩ := List.mem_map.mp hp
    exact h2 q hq), ← hps]
theorem join_flat (c : Nat) : ∀ (x : List Nat) (r : List (List Nat)), joinC c (x :: r) = x ++ r.flatMap fun w => c :: w
  | x, [] => by simp [joinC]
  | x, y :: r => by
    rw [joinC, join_flat c y r, List.flatMap_cons]
    rfl
theorem split_mem {c : Nat} : ∀ {l p : List Nat}, p ∈ splitC c l → (∀ a ∈ p, a ∈ l) ∧ p.length ≤ l.length
  | [], p, h => by
    have : p = [] := by simpa [splitC] using h
    subst this
    exact ⟨(fun a ha => nomatch ha), Nat.le_refl _⟩
  | a :: l, p, h => by
    rw [splitC] at h
    split at h
    · rcases List.mem_cons.mp h with rfl | h
      · exact ⟨(fun a ha => nomatch ha), Nat.zero_le _⟩
      · obtain ⟨h1, h2⟩ := split_mem h
        exact ⟨fun b hb => List.mem_cons_of_mem _ (h1 b hb), Nat.le_succ_of_le h2⟩
    · obtain ⟨w, ws, e⟩ := splitC_ne c l
      rw [e] at h
      rcases List.mem_cons.mp h with rfl | h
      · obtain ⟨h1, h2⟩ := split_mem (c := c) (l := l) (p := w) (by rw [e]; exact List.mem_cons_self)
        refine ⟨fun b hb => ?_, Nat.succ_le_succ h2⟩
        rcases List.mem_cons.mp hb with rfl | hb
        · exact List.mem_cons_self
        · exact List.mem_cons_of_mem _ (h1 b hb)
      · obtain ⟨h1, h2⟩ := split_mem (c := c) (l := l) (p := p) (by rw [e]; exact List.mem_cons_of_mem _ h)
        exact ⟨fun b hb => List.mem_cons_of_mem _ (h1 b hb), Nat.le_succ_of_le h2⟩
theorem split_len2 (c : Nat) : ∀ l : List Nat, (splitC c l).length ≤ l.length + 1
  | [] => Nat.le_refl _
  | a :: l => by
    have ih := split_len2 c l
    obtain ⟨w, ws, e⟩ := splitC_ne c l
    rw [splitC]
    split
    · exact Nat.succ_le_succ ih
    · rw [e] at ih ⊢
      exact Nat.le_succ_of_le ih
/-! ### the first part and the rest -/
def partC (c : Nat) : List Nat → List Nat × Option (List Nat)
  | [] => ([], none)
  | a :: l => if a = c then ([], some l) else (a :: (partC c l).1, (partC c l).2)
theorem part_none {c : Nat} : ∀ {l : List Nat}, c ∉ l → partC c l = (l, none)
  | [], _ => rfl
  | a :: l, h => by
    rw [partC, if_neg fun z => h (by rw [z]; exact List.mem_cons_self), part_none fun z => h (List.mem_cons_of_mem _ z)]
theorem part_some {c : Nat} : ∀ {w r : List Nat}, c ∉ w → partC c (w ++ c :: r) = (w, some r)
  | [], r, _ => by rw [List.nil_append, partC, if_pos rfl]
  | a :: w, r, h => by
    rw [List.cons_append, partC, if_neg fun z => h (by rw [z]; exact List.mem_cons_self), part_some fun z => h (List.mem_cons_of_mem _ z)]
def partT (c : Nat) (p : List Nat × Option (List Nat)) : Str × Str × Str := match p.2 with
  | some r => (txt p.1, txt [c], txt r)
  | none => (txt p.1, txt [], txt [])
theorem at_one {c i : Nat} {l : List Nat} : StrLaws.At (txt l) (txt [c]) (txt l).length i ↔ l[i]? = some c := by
  unfold StrLaws.At Builtin.Str.subAt
  have e1 : (txt [c]).length = 1 := rfl
  have e2 : (txt l).length = l.length := txt_len l
  rw [e1, e2]
  have e3 : ((txt l).cps.extract i (i + 1) == (txt [c]).cps) = decide (l[i]? = some c) := by
    have e4 : (txt l).cps.extract i (i + 1) = ((l.drop i).take 1).toArray := by
      apply Array.toList_inj.mp
      simp [txt]
    rw [e4, Bool.eq_iff_iff, beq_iff_eq, decide_eq_true_iff]
    show ((l.drop i).take 1).toArray = [c].toArray ↔ _
    have inj : ∀ a b : List Nat, a.toArray = b.toArray ↔ a = b := fun a b => ⟨fun h => by simpa using congrArg Array.toList h, fun h => h ▸ rfl⟩
    rw [inj]
    cases h : l[i]? with
    | none =>
      rw [List.drop_of_length_le (List.getElem?_eq_none_iff.mp h)]
      simp
    | some d =>
      obtain ⟨hi, e⟩ := List.getElem?_eq_some_iff.mp h
      rw [List.drop_eq_getElem_cons hi, List.take_succ_cons, List.take_zero, e]
      simp
  rw [e3, decide_eq_true_iff]
  constructor
  · exact fun h => h.2
  · intro h
    exact ⟨(List.getElem?_eq_some_iff.mp h).1, h⟩
theorem part_txt (c : Nat) (l : List Nat) : Txt.partition (txt l) (txt [c]) = partT c (partC c l) := by
  unfold Txt.partition
  rcases StrLaws.occ_head (txt l) (txt [c]) 1 (Nat.le_refl 1) with ⟨e, hn⟩ | ⟨i, r, e, hi, hn⟩
  · have hc : c ∉ l := fun z => by
      obtain ⟨i, hi⟩ := List.mem_iff_getElem?.mp z
      exact hn i (at_one.mpr hi)
    rw [e, part_none hc]
    rfl
  · rw [e]
    have hi := at_one.mp hi
    obtain ⟨hl, ei⟩ := List.getElem?_eq_some_iff.mp hi
    have hc : c ∉ l.take i := fun z => by
      obtain ⟨k, hk⟩ := List.mem_iff_getElem?.mp z
      have kl := (List.getElem?_eq_some_iff.mp hk).1
      rw [List.length_take] at kl
      rw [List.getElem?_take_of_lt (by omega)] at hk
      exact hn k (by omega) (at_one.mpr hk)
    have el : l = l.take i ++ c :: l.drop (i + 1) := by
      conv => lhs; rw [← List.take_append_drop i l, List.drop_eq_getElem_cons hl, ei]
    have ep : partC c l = (l.take i, some (l.drop (i + 1))) := by
      conv => lhs; rw [el]
      exact part_some hc
    rw [ep]
    show (Builtin.Str.strSub (txt l) 0 i, txt [c], Builtin.Str.strSub (txt l) (i + (txt [c]).length) (txt l).length) = (txt (l.take i), txt [c], txt (l.drop (i + 1)))
    have s1 : ∀ a b, Builtin.Str.strSub (txt l) a b = txt ((l.drop a).take (b - a)) := fun a b => by
      unfold Builtin.Str.strSub txt
      congr 1
      apply Array.toList_inj.mp
      simp
    rw [s1, s1]
    congr 2
    congr 1
    show (l.drop (i + 1)).take (l.length - (i + 1)) = l.drop (i + 1)
    rw [List.take_of_length_le (by rw [List.length_drop]; omega)]
/-! ### numbers -/
def figs (w : List Nat) : List Nat := if w.take 1 = [45] then w.drop 1 else w
def fig (c : Nat) : Bool := decide (48 ≤ c) && decide (c ≤ 57)
def goodF (f : List Nat) : Bool := decide (1 ≤ f.length) && decide (f.length ≤ 60) && decide (f[0]? ≠ some 48) && f.all fig
def numW (w : List Nat) : Option Int := if goodF (figs w) then some (if figs w = w then ((digitsVal w : Nat) : Int) else -((digitsVal (figs w) : Nat) : Int)) else none
theorem prefix_txt (w : List Nat) : Txt.removeprefix (txt w) (txt [45]) = txt (figs w) := by
  rw [StrLaws.removeprefix_eq]
  have e1 : (txt [45]).length = 1 := rfl
  have e2 : (txt w).length = w.length := txt_len w
  have hat := at_one (c := 45) (i := 0) (l := w)
  unfold StrLaws.At at hat
  rw [e1, e2] at hat
  rw [e1, e2]
  unfold figs
  cases w with
  | nil =>
    rw [if_neg (by simp), if_neg (by simp)]
  | cons a w =>
    by_cases ha : a = 45
    · subst ha
      obtain ⟨h1, h2⟩ := hat.mpr rfl
      rw [if_pos (by rw [decide_eq_true h1, h2]; rfl), show (if List.take 1 (45 :: w) = [45] then List.drop 1 (45 :: w) else 45 :: w) = w from if_pos rfl]
      unfold txt
      congr 1
      simp
    · rw [if_neg fun z => ?_, if_neg (by simpa using ha)]
      rw [Bool.and_eq_true, decide_eq_true_iff] at z
      have := hat.mp z
      exact ha (Option.some.inj this)
theorem fold_ge : ∀ (cs : List Nat) (a : Nat), a ≤ cs.foldl (fun acc c => acc * 10 + (c - 48)) a
  | [], a => Nat.le_refl _
  | c :: cs, a => Nat.le_trans (by omega) (fold_ge cs (a * 10 + (c - 48)))
theorem val_pos {f : List Nat} (h : goodF f = true) : 0 < digitsVal f := by
  unfold goodF at h
  rw [Bool.and_eq_true, Bool.and_eq_true, Bool.and_eq_true, decide_eq_true_iff, decide_eq_true_iff, decide_eq_true_iff, List.all_eq_true] at h
  obtain ⟨⟨⟨h1, _⟩, h3⟩, h4⟩ := h
  cases f with
  | nil => simp at h1
  | cons c f =>
    have hc := h4 c List.mem_cons_self
    unfold fig at hc
    rw [Bool.and_eq_true, decide_eq_true_iff, decide_eq_true_iff] at hc
    have : c ≠ 48 := fun z => h3 (by rw [z]; rfl)
    unfold digitsVal
    rw [List.foldl_cons]
    exact Nat.lt_of_lt_of_le (by omega) (fold_ge f _)
theorem fold_lt : ∀ (cs : List Nat) (a : Nat), (∀ c ∈ cs, c ≤ 57) → cs.foldl (fun acc c => acc * 10 + (c - 48)) a < (a + 1) * 10 ^ cs.length
  | [], a, _ => by simp
  | c :: cs, a, h => by
    rw [List.foldl_cons, List.length_cons, Nat.pow_succ]
    refine Nat.lt_of_lt_of_le (fold_lt cs (a * 10 + (c - 48)) fun d hd => h d (List.mem_cons_of_mem _ hd)) ?_
    have := h c List.mem_cons_self
    have h1 : a * 10 + (c - 48) + 1 ≤ (a + 1) * 10 := by omega
    calc (a * 10 + (c - 48) + 1) * 10 ^ cs.length ≤ ((a + 1) * 10) * 10 ^ cs.length := Nat.mul_le_mul_right _ h1
      _ = (a + 1) * (10 ^ cs.length * 10) := by rw [Nat.mul_assoc, Nat.mul_comm 10]
theorem good_digits {f : List Nat} (h : goodF f = true) : AllDigits f ∧ f ≠ [] ∧ f.length ≤ 60 := by
  unfold goodF at h
  rw [Bool.and_eq_true, Bool.and_eq_true, Bool.and_eq_true, decide_eq_true_iff, decide_eq_true_iff, decide_eq_true_iff, List.all_eq_true] at h
  obtain ⟨⟨⟨h1, h2⟩, _⟩, h4⟩ := h
  refine ⟨fun c hc => ?_, (fun z => by rw [z] at h1; simp at h1), h2⟩
  have := h4 c hc
  unfold fig at this
  rw [Bool.and_eq_true, decide_eq_true_iff, decide_eq_true_iff] at this
  exact this
theorem val_log {f : List Nat} (h : goodF f = true) : (digitsVal f).log2 < 1900 := by
  obtain ⟨h1, _, h3⟩ := good_digits h
  have : digitsVal f < (0 + 1) * 10 ^ f.length := fold_lt f 0 fun c hc => (h1 c hc).2
  have p : 10 ^ f.length ≤ 10 ^ 60 := Nat.pow_le_pow_right (by decide) h3
  rcases Nat.eq_zero_or_pos (digitsVal f) with z | z
  · rw [z]; decide
  · rw [Nat.log2_lt (by omega)]
    refine Nat.lt_of_lt_of_le this ?_
    rw [Nat.zero_add, Nat.one_mul]
    exact Nat.le_trans p (by decide +kernel)
theorem int_txt {w : List Nat} {n : Int} (h : numW w = some n) : PySem.intText? (txt w) = some n ∧ (txt w).length ≤ 640 := by
  unfold numW at h
  split at h
  · rename_i hg
    obtain ⟨h1, h2, h3⟩ := good_digits hg
    have hn := Option.some.inj h
    by_cases hf : figs w = w
    · rw [if_pos hf] at hn
      rw [hf] at h1 h2 h3
      refine ⟨?_, by rw [txt_len]; omega⟩
      rw [intText_digits (by rw [txt_list]; exact h1) (by rw [txt_list]; exact h2) (by rw [txt_len]; omega), txt_list, hn]
    · rw [if_neg hf] at hn
      have ht : w.take 1 = [45] := Classical.byContradiction fun z => hf (by unfold figs; rw [if_neg z])
      have ef : figs w = w.drop 1 := by unfold figs; rw [if_pos ht]
      have ew : w = 45 :: w.drop 1 := by
        conv => lhs; rw [← List.take_append_drop 1 w, ht]
        rfl
      rw [ef] at h1 h2 h3 hn
      have hl : w.length ≤ 61 := by rw [ew]; rw [List.length_cons]; omega
      refine ⟨?_, by rw [txt_len]; omega⟩
      rw [intText_neg (cs := w.drop 1) (by rw [txt_list]; exact ew) h1 h2 (by rw [txt_len]; omega), hn]
  · cases h
theorem num_ne {w : List Nat} {n : Int} (h : numW w = some n) : n ≠ 0 ∧ n.natAbs.log2 < 1900 := by
  unfold numW at h
  split at h
  · rename_i hg
    have hp := val_pos hg
    have hl := val_log hg
    have hn := Option.some.inj h
    by_cases hf : figs w = w
    · rw [if_pos hf] at hn
      rw [hf] at hp hl
      rw [← hn]
      exact ⟨by omega, by rw [Int.natAbs_natCast]; exact hl⟩
    · rw [if_neg hf] at hn
      rw [← hn]
      exact ⟨by omega, by rw [Int.natAbs_neg, Int.natAbs_natCast]; exact hl⟩
  · cases h
/-! ### rows -/
def allO {α : Type} : List (Option α) → Option (List α)
  | [] => some []
  | some a :: r => (allO r).map (a :: ·)
  | none :: _ => none
abbrev lamps : List Nat := [108, 97, 109, 112, 115]
abbrev wish : List Nat := [119, 105, 115, 104]
def setX (row : List Nat) : Option (List Nat) := if row = lamps then some [] else if row.take 6 = lamps ++ [32] ∧ row.drop 6 ≠ [] then some (row.drop 6) else none
def wishX (row : List Nat) : Option (List Int) := if (splitC 32 row).head? = some wish then allO ((splitC 32 row).tail.map numW) else none
def gameX (l : List Nat) : Option (List Nat × List (List Int)) :=
  match setX ((splitC 10 l).headD []) with
  | none => none
  | some s => (allO ((splitC 10 l).tail.map wishX)).map fun ws => (s, ws)
theorem allO_some {α : Type} : ∀ {os : List (Option α)} {xs : List α}, allO os = some xs → os = xs.map some
  | [], xs, h => by cases h; rfl
  | some a :: r, xs, h => by
    rw [allO] at h
    cases e : allO r with
    | none => rw [e] at h; cases h
    | some ys =>
      rw [e] at h
      cases h
      rw [allO_some e]
      rfl
  | none :: _, xs, h => nomatch h
theorem allO_map {α : Type} : ∀ xs : List α, allO (xs.map some) = some xs
  | [] => rfl
  | a :: r => by
    rw [List.map_cons, allO, allO_map r]
    rfl
theorem allO_none {α : Type} : ∀ {os : List (Option α)}, allO os = none ↔ none ∈ os
  | [] => by simp [allO]
  | some a :: r => by
    rw [allO]
    have ih := allO_none (os := r)
    rw [List.mem_cons]
    cases e : allO r with
    | none => simp [ih.mp e]
    | some ys =>
      constructor
      · intro h; cases h
      · rintro (h | h)
        · cases h
        · rw [ih.mpr h] at e; cases e
  | none :: _ => by simp [allO]
theorem repr_char : ∀ c : Nat, c < 128 → (Builtin.Str.reprChar 34 c).length ≤ 20 ∧ (Builtin.Str.reprChar 39 c).length ≤ 20 := by decide +kernel
end GM
set_option Elab.async false
set_option linter.all false
set_option maxRecDepth 100000
set_option maxHeartbeats 2000000
/-! Texts, over data. -/
namespace DL
open PySem PySem.Spec PyProof.Rows L2
open Evl (Ex)
section
variable {K : PySem.W.Frag} {T : List Addr} {env : List Sl} {ta to te tl : TE} {F0 H0 : Hp} {P : Po} {i j : Nat}
/-! f'..' as a value -/
def JsV (K : PySem.W.Frag) (T : List Addr) (env : List Sl) : List TE → Str → Str → Prop
  | [], acc, out => out = acc
  | t :: ts, acc, out => ∃ y : Str, EvD K T t env (.str y) ∧ (acc ++ y).length ≤ sizeLine ∧ JsV K T env ts (acc ++ y) out
theorem jsv_run : ∀ (ts : List TE) (acc out : Str), JsV K T env ts acc out → ∀ F0 H0 F H σ, Ok K T F0 H0 F H σ env → ∀ Q : Str → Hp → Prop, (∀ F' H', Wk T F' H' → Nx T F H F' H' → Q out H') → tJs ts acc σ H Q
  | [], acc, out, e, F0, H0, F, H, σ, o, Q, q => by
    have e : out = acc := e
    subst e
    exact q F H o.wk (Nx.refl T F H)
  | t :: ts, acc, out, ⟨y, h, hl, r⟩, F0, H0, F, H, σ, o, Q, q => h F0 H0 F H σ o _ fun v F1 H1 w1 n1 d1 => by
    cases d1
    exact ⟨y, rfl, hl, jsv_run ts (acc ++ y) out r F0 H0 F1 H1 σ (o.step w1 n1) Q fun F2 H2 w2 n2 => q F2 H2 w2 (n1.trans w1 n2)⟩
theorem d_fstr {ts : List TE} {out : Str} (h : JsV K T env ts Str.empty out) : EvD K T (fun σ H Q => tJs ts Str.empty σ H fun out H1 => Q (.str out) H1) env (.str out) := fun F0 H0 F H σ o Q q =>
  jsv_run ts Str.empty out h F0 H0 F H σ o _ fun F' H' w n => q _ F' H' w n (.str _)
theorem d_fmtS {y : Str} (h : EvD K T te env (.str y)) (hy : y.length ≤ sizeLine) : EvD K T (tFmt te) env (.str y) := fun F0 H0 F H σ o Q q =>
  h F0 H0 F H σ o _ fun v F1 H1 w1 n1 d1 => by
    cases d1
    exact .inl ⟨y, rfl, hy, q _ F1 H1 w1 n1 (.str _)⟩
theorem t_truS {z : Str} (h : EvD K T te env (.str z)) (hz : z.length ≤ sizeLine) : EvT K T (fun σ H Q => te σ H fun x H' => ∃ k, TruV K x H' k ∧ Q k H') env ((z.length : Int) != 0) := fun F0 H0 F H σ o Q q =>
  h F0 H0 F H σ o _ fun v F1 H1 w1 n1 d1 => by
    cases d1
    exact ⟨_, ⟨hz, rfl⟩, q F1 H1 w1 n1⟩
/-! methods -/
theorem dps_strs {F : Hp} : ∀ ys : List Str, DpAll K F (ys.map V.str) (ys.map PyData.str)
  | [] => .nil
  | y :: ys => .cons (.str y) (dps_strs ys)
theorem strs_dps {F : Hp} : ∀ {vs : List V} {ys : List Str}, DpAll K F vs (ys.map PyData.str) → vs = ys.map V.str
  | _, [], h => by cases h; rfl
  | _, y :: ys, h => by
    cases h with
    | cons h1 h2 => cases h1; rw [strs_dps h2]; rfl
theorem d_split {a b : Str} (ha : EvD K T to env (.str a)) (hb : EvD K T te env (.str b)) (h1 : (b.length == 0) = false) (h2 : a.length + 2 ≤ sizeLine) :
    EvD K T (tM1 (fun x xs H Q => ∃ a b, x = .str a ∧ xs = [.str b] ∧ (b.length == 0) = false ∧ a.length + 2 ≤ sizeLine ∧ rNewStrs (Txt.split a b) H Q) to te) env (.list ((Txt.split a b).map PyData.str)) := fun F0 H0 F H σ o Q q =>
  ha F0 H0 F H σ o _ fun v F1 H1 w1 n1 d1 => by
    cases d1
    refine ⟨⟨a, rfl⟩, hb F0 H0 F1 H1 σ (o.step w1 n1) _ fun v2 F2 H2 w2 n2 d2 => ?_⟩
    cases d2
    exact ⟨a, b, rfl, rfl, h1, h2, fun p hp => q _ (upd F2 p (.lst ((Txt.split a b).map V.str))) _ (w2.new hp) ((n1.trans w1 n2).trans w2 (Nx.new w2 hp)) (.lst (.inl (.inl upd_same)) (dps_strs _))⟩
theorem d_part {a b : Str} (ha : EvD K T to env (.str a)) (hb : EvD K T te env (.str b)) (h1 : (b.length == 0) = false) (h2 : a.length ≤ sizeLine) :
    EvD K T (tM1 (fun x xs H Q => ∃ a b, x = .str a ∧ xs = [.str b] ∧ (b.length == 0) = false ∧ a.length ≤ sizeLine ∧
      ∀ p, H p = none → Q (.ref p) (upd H p (.tup [.str (Txt.partition a b).1, .str (Txt.partition a b).2.1, .str (Txt.partition a b).2.2]))) to te) env (.tuple [.str (Txt.partition a b).1, .str (Txt.partition a b).2.1, .str (Txt.partition a b).2.2]) := fun F0 H0 F H σ o Q q =>
  ha F0 H0 F H σ o _ fun v F1 H1 w1 n1 d1 => by
    cases d1
    refine ⟨⟨a, rfl⟩, hb F0 H0 F1 H1 σ (o.step w1 n1) _ fun v2 F2 H2 w2 n2 d2 => ?_⟩
    cases d2
    exact ⟨a, b, rfl, rfl, h1, h2, fun p hp => q _ (upd F2 p (.tup [.str (Txt.partition a b).1, .str (Txt.partition a b).2.1, .str (Txt.partition a b).2.2])) _ (w2.new hp) ((n1.trans w1 n2).trans w2 (Nx.new w2 hp)) (.tup (.inl (.inl upd_same)) (.cons (.str _) (.cons (.str _) (.cons (.str _) .nil))))⟩
theorem d_unfix {a b : Str} (ha : EvD K T to env (.str a)) (hb : EvD K T te env (.str b)) (h2 : a.length ≤ sizeLine) :
    EvD K T (tM1 (fun x xs H Q => ∃ a b, x = .str a ∧ xs = [.str b] ∧ a.length ≤ sizeLine ∧ Q (.str (Txt.removeprefix a b)) H) to te) env (.str (Txt.removeprefix a b)) := fun F0 H0 F H σ o Q q =>
  ha F0 H0 F H σ o _ fun v F1 H1 w1 n1 d1 => by
    cases d1
    refine ⟨⟨a, rfl⟩, hb F0 H0 F1 H1 σ (o.step w1 n1) _ fun v2 F2 H2 w2 n2 d2 => ?_⟩
    cases d2
    exact ⟨a, b, rfl, rfl, h2, q _ F2 H2 w2 (n1.trans w1 n2) (.str _)⟩
theorem d_joinS {a : Str} {ys : List Str} (ha : EvD K T to env (.str a)) (hb : EvD K T te env (.list (ys.map PyData.str))) (h2 : (ys.map (·.length)).sum + ys.length * a.length ≤ 16777216) :
    EvD K T (tM1 (fun x xs H Q => ∃ a p, ∃ ys : List Str, x = .str a ∧ xs = [.ref p] ∧ (SqL K H p (ys.map V.str) ∨ SqT K H p (ys.map V.str)) ∧
      (ys.map (·.length)).sum + ys.length * a.length ≤ 16777216 ∧ Q (.str (Txt.join a ys)) H) to te) env (.str (Txt.join a ys)) := fun F0 H0 F H σ o Q q =>
  ha F0 H0 F H σ o _ fun v F1 H1 w1 n1 d1 => by
    cases d1
    refine ⟨⟨a, rfl⟩, hb F0 H0 F1 H1 σ (o.step w1 n1) _ fun v2 F2 H2 w2 n2 d2 => ?_⟩
    cases d2 with
    | @lst p vs _ hs hd =>
      obtain rfl := strs_dps hd
      exact ⟨a, p, ys, rfl, rfl, .inl (Evl.ex_l w2.sub hs), h2, q _ F2 H2 w2 (n1.trans w1 n2) (.str _)⟩
theorem r_strI {n : Int} (h : n.natAbs.log2 < 1920) : RCa K T (fun xs H Q => ∃ i, xs = [V.int i] ∧ i.natAbs.log2 < 1920 ∧ Q (.str (toString i)) H) [.int n] (.str (toString n)) := fun F H vs w ha Q q => by
  cases ha with
  | cons h1 t => cases h1; cases t; exact ⟨n, rfl, h, q _ F H w (Nx.refl T F H) (.str _)⟩
theorem r_intS {a : Str} {n : Int} (h : PySem.intText? a = some n) (hl : a.length ≤ 640) : RCa K T (fun xs H Q => ∃ a n, xs = [V.str a] ∧ PySem.intText? a = some n ∧ a.length ≤ 640 ∧ Q (.int n) H) [.str a] (.int n) := fun F H vs w ha Q q => by
  cases ha with
  | cons h1 t => cases h1; cases t; exact ⟨a, n, rfl, h, hl, q _ F H w (Nx.refl T F H) (.int _)⟩
theorem r_inSign {c : Nat} {z : Str} : ROp K T (fun x y H Q => ∃ (c : Nat) (z : Str), x = V.str ⟨#[c]⟩ ∧ y = V.str z ∧ Q (.bl (decide (c ∈ z.cps.toList))) H) (.str ⟨#[c]⟩) (.str z) (.bool (decide (c ∈ z.cps.toList))) := fun F H x y w ha hb Q q => by
  cases ha; cases hb
  exact ⟨c, z, rfl, rfl, q _ F H w (Nx.refl T F H) (.bl _)⟩
theorem r_notinSign {c : Nat} {z : Str} : ROp K T (fun x y H Q => ∃ (c : Nat) (z : Str), x = V.str ⟨#[c]⟩ ∧ y = V.str z ∧ Q (.bl (!decide (c ∈ z.cps.toList))) H) (.str ⟨#[c]⟩) (.str z) (.bool (!decide (c ∈ z.cps.toList))) := fun F H x y w ha hb Q q => by
  cases ha; cases hb
  exact ⟨c, z, rfl, rfl, q _ F H w (Nx.refl T F H) (.bl _)⟩
/-! all(..) over a text -/
theorem all_take_s {p : Nat → Bool} {z : Str} {k c : Nat} (h : z.cps[k]? = some c) (ht : (z.cps.toList.take k).all p = true) (hp : p c = true) : (z.cps.toList.take (k + 1)).all p = true := by
  have h : z.cps.toList[k]? = some c := by rw [Array.getElem?_toList]; exact h
  rw [List.take_add_one, h, List.all_append, ht]
  simp [hp]
theorem d_allS {z : Str} {P : Addr} (p : Nat → Bool) (hP : P ∈ T) (h : EvD K T tl env (.str z))
    (hs : ∀ (k c : Nat), z.cps[k]? = some c → EvD K T te ((env.set j .no).set j (.dat (.str ⟨#[c]⟩))) (.bool (p c))) : EvD K T (AG.tAllS P j [j] tl te) env (.bool (z.cps.toList.all p)) := fun F0 H0 F H σ o Q q =>
  h F0 H0 F H σ o _ fun v F1 H1 w1 n1 d1 => by
    cases d1
    refine ⟨z, rfl, (w1.tab P hP).1, fun i H' => ∃ F', Wk T F' H' ∧ Nx T F1 H1 F' H' ∧ (z.cps.toList.take i).all p = true, fun H2 ht => ?_, fun i c H' hi ⟨F', w', n', ha⟩ => ?_, fun H' ⟨F', w', n', ha⟩ => ?_⟩
    · obtain ⟨a1, a2⟩ := w1.tabbed hP ht
      exact ⟨F1, a1, a2, rfl⟩
    · have o1 := (((o.step w1 n1).step w' n').wipe (i := j) none).set (i := j) (Dp.str (K := K) (H := F') ⟨#[c]⟩)
      refine hs i c hi F0 H0 F' H' _ o1 _ fun y F2 H2 w2 n2 d2 => ?_
      cases d2
      refine ⟨p c, rfl, ?_⟩
      have n12 := n'.trans w' n2
      cases hp : p c with
      | true => exact iteT ⟨F2, w2, n12, all_take_s hi ha hp⟩
      | false =>
        refine iteF (q _ F2 H2 w2 (n1.trans w1 n12) ?_)
        have e : z.cps.toList.all p = false := by
          rw [List.all_eq_false]
          exact ⟨c, List.mem_of_getElem? (by rw [Array.getElem?_toList]; exact hi), by rw [hp]; decide⟩
        rw [e]
        exact .bl false
    · rw [← Array.length_toList, List.take_length] at ha
      rw [ha] at q
      exact q _ F' H' w' (n1.trans w1 n') (.bl true)
/-- x = [e, ..], a list of ours that is filled further -/
theorem s_newA {ta : TA} {xs : List D} (h : EvA K T ta env xs) (hl : xs.length ≤ sizeLine) (hi : i < env.length) (k : P.nx (env.set i (.own xs))) : StD K T F0 H0 (tAsg (tLst ta) (gName i)) env P := fun F H σ o De E =>
  h F0 H0 F H σ o _ fun vs F1 H1 w1 n1 d1 => by
    refine ⟨by rw [dps_len d1]; exact hl, fun l hlN => ?_⟩
    have o1 := (o.step w1 n1).mine (i := i) hlN
    have o2 := o1.write (i := i) (a := l) (by rw [List.getElem?_set_self hi]) (by rw [List.getElem?_set_self (by rw [o.len]; exact hi)]) d1
    rw [L2.upd_upd, List.set_set] at o2
    exact E.nx _ F1 _ _ k o2 n1.exF
end
section
variable {P : Program} {w : World} {K : PySem.W.Frag} {mg : Str → Option Value} {base : Heap} {T : List Addr}
/-- as fn_gfX, the def's code object known -/
theorem fn_gfXC {x qual : Str} {st : Stmt} {f c : Addr} {fd : FuncData} {N ps : List Str} {k : Nat} {α : Type} {arg : α → List D} {pre : α → Prop} {out : α → Res} (F : FunC K x qual st f fd c) (S : FnScope N ps (defScope st)) (len : ∀ x, (arg x).length = ps.length)
    (hbody : ∀ (A : Around) (outer : List Env) (s : Shared) (H : Hp) (E : XK), Room k (A.deeper (envOfC qual (defScope st) s.heap.objs.size f (.ref c))) →
      ∃ t, PSs (cxOf (L2.CX P w) P w K mg base N qual (defScope st) f (.ref c) A outer s H E) (defBody st) t ∧ ∀ F0 x, pre x → (∀ c, out x = .bad c → ∀ F' H', Wk T F' H' → Nx T F0 H F' H' → E (.ref c) none H') →
        StD K T F0 H t (envOf N (arg x)) { nx := fun _ => out x = .ok .none, rt := fun d' => out x = .ok d' }) :
    FnOk P w K mg base (L2.CX P w) (k + 1) f fd ps (PrX K T (GX arg pre out)) := by
  obtain ⟨oc, od, kV, doc, pm, an, ct, osl, rfl, lk, hcd⟩ := F.ex
  refine fn_of lk hcd S (fun vs H Q E ⟨F, ds, r, _, hd, ⟨x, e, _, _⟩, _⟩ => by rw [dps_len hd, e]; exact len x) fun A outer s H vs Q E hr h => ?_
  obtain ⟨F0, ds, r, wk, hd, ⟨x, rfl, hp, rfl⟩, q, qx⟩ := h
  obtain ⟨t, ht, hst⟩ := hbody A outer s H E hr
  refine ⟨t, ht, hst F0 x hp (fun c hc F' H' w' n' => qx c hc F' H' w' n') F0 H _ (ok_start wk hd) _ ⟨fun e F' H' σ' p o _ => ?_, fun d' v F' H' p w' n' hv => q d' p v F' H' w' n' hv, fun _ _ _ _ p _ _ => False.elim p, fun _ _ _ _ p _ _ => False.elim p, fun _ _ _ _ _ _ p _ _ => False.elim p⟩⟩
  exact q .none p .non F' H' o.wk o.nx .non
end
/-! one answer or an error -/
def optR {β : Type} (c : Addr) (g : β → D) : Option β → Res
  | some b => .ok (g b)
  | none => .bad c
theorem seq_allO {α β : Type} (c : Addr) (f : α → Option β) (g : β → D) : ∀ as : List α, seqR (as.map fun a => optR c g (f a)) = optR c (fun bs => .list (bs.map g)) (GM.allO (as.map f))
  | [] => rfl
  | a :: as => by
    have ih := seq_allO c f g as
    rw [List.map_cons, List.map_cons]
    cases h : f a with
    | none => rfl
    | some b =>
      show seqR (.ok (g b) :: as.map fun a => optR c g (f a)) = _
      rw [seqR, ih, GM.allO]
      cases GM.allO (as.map f) <;> rfl
end DL
namespace GM
open PySem PySem.Spec PyProof.Rows L2 DL
/-- as Handed, with room for what texts tell -/
structure HandedT (l : List Nat) (ws : List (List Int)) : Prop where
  len : l.length ≤ 1000
  short : Short l
  wlen : ws.length ≤ 1000
  nlen : ∀ w ∈ ws, w.length ≤ 1000 ∧ ∀ n ∈ w, n.natAbs.log2 < 1900
def Asc (l : List Nat) : Prop := ∀ c ∈ l, c < 128
theorem foldl_add (f : Nat → Nat) (b : Nat) : ∀ (l : List Nat) (n : Nat), (∀ c ∈ l, f c ≤ b) → l.foldl (fun n c => n + f c) n ≤ n + b * l.length
  | [], n, _ => by simp
  | c :: l, n, h => by
    rw [List.foldl_cons, List.length_cons, Nat.mul_succ]
    have := foldl_add f b l (n + f c) fun d hd => h d (List.mem_cons_of_mem _ hd)
    have := h c List.mem_cons_self
    omega
theorem repr_len {l : List Nat} (h : Asc l) : (reprText (txt l)).length ≤ 2 + 20 * l.length := by
  rw [← reprLen_eq, ← Array.foldl_toList, txt_list]
  refine foldl_add _ 20 l 2 fun c hc => ?_
  have := repr_char c (h c hc)
  unfold reprQuote
  split
  · exact this.1
  · exact this.2
theorem repr_big {l : List Nat} (h : Asc l) (hl : l.length ≤ 1000) : (reprText (txt l)).length ≤ 30000 := Nat.le_trans (repr_len h) (by omega)
end GM
set_option Elab.async false
set_option linter.all false
set_option maxRecDepth 100000
set_option maxHeartbeats 4000000
namespace K07
open PySem PySem.Spec PyProof.Rows L2 DL GM
/-! an expression's value, step by step; what it cannot say is left -/
local macro_rules | `(tactic| walk_at "dl") => `(tactic| repeat' (first
  | exact d_var rfl
  | exact d_int
  | exact d_bl
  | exact d_non
  | exact d_str
  | exact a_nil
  | refine a_cons ?_ ?_
  | refine d_un ?_ r_neg
  | refine d_cb (a_cons ?_ a_nil) r_abs
  | refine d_cb (a_cons ?_ a_nil) r_lenL
  | refine d_cb (a_cons ?_ a_nil) r_list
  | refine d_cb (a_cons ?_ (a_cons ?_ a_nil)) r_max2
  | refine d_op ?_ ?_ r_int
  | refine d_op ?_ ?_ r_bool
  | refine d_op ?_ ?_ r_eqI
  | refine d_op ?_ ?_ r_neI
  | refine d_op ?_ ?_ r_eqB
  | refine d_op ?_ ?_ r_neB
  | refine d_op ?_ ?_ r_eqS
  | refine d_op ?_ ?_ r_neS
  | refine d_op ?_ d_non r_isN
  | refine d_op ?_ d_non r_notN
  | refine d_op ?_ ?_ (r_intC ?_)
  | refine d_op ?_ ?_ (r_ixL ?_)
  | refine d_op ?_ ?_ (r_ixT ?_)
  | refine t_test ?_
  | refine t_B ?_
  | refine t_not ?_))
/-! ### the text -/
def topS (i : Nat) : Stmt := PySem.Challenge.pw_everywish_k07_texts_refused.main.body.getD i (.Pass ⟨0, 0, 0, 0⟩)
abbrev s_check : Stmt := topS 9
abbrev s_check_setters : Stmt := topS 10
abbrev s_check_wish : Stmt := topS 11
abbrev s_read : Stmt := topS 15
abbrev s_read_setters : Stmt := topS 16
abbrev s_read_wish : Stmt := topS 17
abbrev s_read_number : Stmt := topS 18
abbrev s_L_cell_at : Stmt := topS 20
abbrev s_L_first : Stmt := topS 21
abbrev s_L_next : Stmt := topS 22
abbrev s_L_sign_by : Stmt := topS 23
abbrev s_L_great : Stmt := topS 24
abbrev s_L_text : Stmt := topS 25
abbrev s_L_number : Stmt := topS 26
abbrev s_L_wish : Stmt := topS 27
abbrev s_L_game : Stmt := topS 28
abbrev s_L_good : Stmt := topS 29
abbrev s_L_refused : Stmt := topS 30
abbrev s_L_alike : Stmt := topS 31
abbrev s_law : Stmt := topS 32
theorem sc_check : FnScope ["setters", "wishes", "wish"] ["setters", "wishes"] (defScope s_check) := ⟨rfl, rfl, rfl, by decide +kernel, rfl, by decide +kernel, by decide +kernel⟩
theorem sc_check_setters : FnScope ["setters", "sign"] ["setters"] (defScope s_check_setters) := ⟨rfl, rfl, rfl, by decide +kernel, rfl, by decide +kernel, by decide +kernel⟩
theorem sc_check_wish : FnScope ["wish", "lamps", "number"] ["wish", "lamps"] (defScope s_check_wish) := ⟨rfl, rfl, rfl, by decide +kernel, rfl, by decide +kernel, by decide +kernel⟩
theorem sc_read : FnScope ["text", "rows", "setters", "wishes", "row"] ["text"] (defScope s_read) := ⟨rfl, rfl, rfl, by decide +kernel, rfl, by decide +kernel, by decide +kernel⟩
theorem sc_read_setters : FnScope ["row", "word", "_", "setters"] ["row"] (defScope s_read_setters) := ⟨rfl, rfl, rfl, by decide +kernel, rfl, by decide +kernel, by decide +kernel⟩
theorem sc_read_wish : FnScope ["row", "words", "word"] ["row"] (defScope s_read_wish) := ⟨rfl, rfl, rfl, by decide +kernel, rfl, by decide +kernel, by decide +kernel⟩
theorem sc_read_number : FnScope ["word", "figures", "sign"] ["word"] (defScope s_read_number) := ⟨rfl, rfl, rfl, by decide +kernel, rfl, by decide +kernel, by decide +kernel⟩
theorem sc_L_cell_at : FnScope ["_law_script", "_law_k"] ["_law_script", "_law_k"] (defScope s_L_cell_at) := ⟨rfl, rfl, rfl, by decide +kernel, rfl, by decide +kernel, by decide +kernel⟩
theorem sc_L_first : FnScope ["_law_cell", "_law_some"] ["_law_cell"] (defScope s_L_first) := ⟨rfl, rfl, rfl, by decide +kernel, rfl, by decide +kernel, by decide +kernel⟩
theorem sc_L_next : FnScope ["_law_cell", "_law_some", "_law_sign"] ["_law_cell"] (defScope s_L_next) := ⟨rfl, rfl, rfl, by decide +kernel, rfl, by decide +kernel, by decide +kernel⟩
theorem sc_L_sign_by : FnScope ["_law_cell", "_law_some"] ["_law_cell"] (defScope s_L_sign_by) := ⟨rfl, rfl, rfl, by decide +kernel, rfl, by decide +kernel, by decide +kernel⟩
theorem sc_L_great : FnScope ["_law_cell", "_law_way", "_law_lamps", "_law_rows", "_law_k"] ["_law_cell"] (defScope s_L_great) := ⟨rfl, rfl, rfl, by decide +kernel, rfl, by decide +kernel, by decide +kernel⟩
theorem sc_L_text : FnScope ["_law_script", "_law_rows", "_law_k", "_law_text_here", "_law_way", "_law_at"] ["_law_script"] (defScope s_L_text) := ⟨rfl, rfl, rfl, by decide +kernel, rfl, by decide +kernel, by decide +kernel⟩
theorem sc_L_number : FnScope ["_law_word", "_law_figures", "_law_sign"] ["_law_word"] (defScope s_L_number) := ⟨rfl, rfl, rfl, by decide +kernel, rfl, by decide +kernel, by decide +kernel⟩
theorem sc_L_wish : FnScope ["_law_row", "_law_wish_here", "_law_word"] ["_law_row"] (defScope s_L_wish) := ⟨rfl, rfl, rfl, by decide +kernel, rfl, by decide +kernel, by decide +kernel⟩
theorem sc_L_game : FnScope ["_law_text_here", "_law_rows", "_law_wishes", "_law_row"] ["_law_text_here"] (defScope s_L_game) := ⟨rfl, rfl, rfl, by decide +kernel, rfl, by decide +kernel, by decide +kernel⟩
theorem sc_L_good : FnScope ["_law_game_here", "_law_sign", "_law_wish_here", "_law_number_here"] ["_law_game_here"] (defScope s_L_good) := ⟨rfl, rfl, rfl, by decide +kernel, rfl, by decide +kernel, by decide +kernel⟩
theorem sc_L_refused : FnScope ["_law_text_here", "_law_by_game", "e"] ["_law_text_here", "_law_by_game"] (defScope s_L_refused) := ⟨rfl, rfl, rfl, by decide +kernel, rfl, by decide +kernel, by decide +kernel⟩
theorem sc_L_alike : FnScope ["_law_found", "_law_due", "_law_wish_here", "_law_number_here"] ["_law_found", "_law_due"] (defScope s_L_alike) := ⟨rfl, rfl, rfl, by decide +kernel, rfl, by decide +kernel, by decide +kernel⟩
theorem sc_law : FnScope ["_law_script", "_law_text_here", "_law_game_here"] ["_law_script"] (defScope s_law) := ⟨rfl, rfl, rfl, by decide +kernel, rfl, by decide +kernel, by decide +kernel⟩
/-! ### the mathematics -/
theorem str_lamps : Str.ofString "lamps" = txt lamps := by decide +kernel
theorem str_wish : Str.ofString "wish" = txt wish := by decide +kernel
theorem str_blank : Str.ofString " " = txt [32] := by decide +kernel
theorem str_line : Str.ofString "\n" = txt [10] := by decide +kernel
theorem str_minus : Str.ofString "-" = txt [45] := by decide +kernel
theorem str_nought : Str.ofString "0" = txt [48] := by decide +kernel
theorem str_empty : Str.ofString "" = txt [] := by decide +kernel
theorem str_figures : Str.ofString "0123456789" = txt [48, 49, 50, 51, 52, 53, 54, 55, 56, 57] := by decide +kernel
theorem fig_mem (c : Nat) : decide (c ∈ (txt [48, 49, 50, 51, 52, 53, 54, 55, 56, 57]).cps.toList) = fig c := by
  rw [txt_list]
  unfold fig
  rw [← Bool.decide_and]
  refine decide_eq_decide.mpr ?_
  simp only [List.mem_cons, List.not_mem_nil, or_false]
  omega
def readR (cT cG : Addr) : Option (List Nat × List (List Int)) → Res
  | none => .bad cT
  | some (s, ws) => if okG s ws then .ok (.tuple [.str (txt s), wishesD ws]) else .bad cG
def strL : D → List Nat
  | .str s => s.cps.toList
  | _ => []
theorem asc_sub {l m : List Nat} (h : Asc l) (hs : ∀ a ∈ m, a ∈ l) : Asc m := fun c hc => h c (hs c hc)
theorem set_ok {row s : List Nat} (h : setX row = some s) : (∀ a ∈ s, a ∈ row) ∧ s.length ≤ row.length := by
  unfold setX at h
  split at h
  · cases h
    exact ⟨(fun a ha => nomatch ha), Nat.zero_le _⟩
  · split at h
    · cases h
      exact ⟨fun a ha => List.mem_of_mem_drop ha, by rw [List.length_drop]; omega⟩
    · cases h
theorem allO_len {α : Type} {os : List (Option α)} {xs : List α} (h : allO os = some xs) : xs.length = os.length := by
  rw [allO_some h, List.length_map]
theorem wish_ok {row : List Nat} {ns : List Int} (h : wishX row = some ns) : ns.length ≤ row.length ∧ ∀ n ∈ ns, n ≠ 0 ∧ n.natAbs.log2 < 1900 := by
  unfold wishX at h
  split at h
  · have hl := allO_len h
    have h2 := split_len2 32 row
    rw [List.length_map, List.length_tail] at hl
    refine ⟨by omega, fun n hn => ?_⟩
    have hm : some n ∈ (splitC 32 row).tail.map numW := by
      rw [allO_some h]
      exact List.mem_map_of_mem hn
    obtain ⟨w, _, hw⟩ := List.mem_map.mp hm
    exact num_ne hw
  · cases h
theorem head_part (row : List Nat) : partC 32 row = ((splitC 32 row).headD [], if (splitC 32 row).tail = [] then none else some (joinC 32 (splitC 32 row).tail)) := by
  induction row with
  | nil => rfl
  | cons a r ih =>
    obtain ⟨w, ws, e⟩ := splitC_ne 32 r
    rw [partC, splitC]
    split
    · rw [e]
      have := congrArg (joinC 32) e
      have jr : joinC 32 (splitC 32 r) = r := by
        have h := StrLaws.join_split (txt r) (txt [32])
        rw [split_txt, join_txt] at h
        exact txt_inj h
      show ([], some r) = ([], if (w :: ws) = [] then none else some (joinC 32 (w :: ws)))
      rw [if_neg (by simp), ← e, jr]
    · rw [ih, e]
      rfl
/-- the row begins with the word -/
theorem split_head {word row : List Nat} (hw : 32 ∉ word) : (splitC 32 row).head? = some word ↔ row = word ∨ row.take (word.length + 1) = word ++ [32] := by
  constructor
  · intro h
    obtain ⟨w, ws, e⟩ := splitC_ne 32 row
    rw [e] at h
    obtain rfl : w = word := Option.some.inj h
    have jr : joinC 32 (splitC 32 row) = row := by
      have h := StrLaws.join_split (txt row) (txt [32])
      rw [split_txt, join_txt] at h
      exact txt_inj h
    rw [e] at jr
    cases ws with
    | nil => exact .inl jr.symm
    | cons v vs =>
      rw [joinC] at jr
      refine .inr ?_
      rw [← jr, List.take_append, List.take_of_length_le (by omega), Nat.add_sub_cancel_left]
      rfl
  · rintro (rfl | h)
    · rw [split_free1 hw]
      rfl
    · have e : row = word ++ 32 :: row.drop (word.length + 1) := by
        conv => lhs; rw [← List.take_append_drop (word.length + 1) row, h]
        simp
      rw [e, split_at hw]
      rfl
theorem r_min2 {K : PySem.W.Frag} {T : List Addr} {i j : Int} : RCa K T (fun xs H Q => ∃ i j, xs = [V.int i, V.int j] ∧ Q (.int (if j < i then j else i)) H) [.int i, .int j] (.int (if j < i then j else i)) := fun F H vs w ha Q q => by
  cases ha with
  | cons h t => cases h; cases t with
    | cons h t => cases h; cases t; exact ⟨i, j, rfl, q _ F H w (Nx.refl T F H) (.int _)⟩
/-- return f(..), f's answer open within bounds -/
theorem s_retR {K : PySem.W.Frag} {T : List Addr} {env : List Sl} {F0 H0 : Hp} {P : Po} {ta : TA} {α : Type} {arg : α → List D} {p : α → Prop} {q : α → D → Prop} {E : XK} {x : α} (ha : EvA K T ta env (arg x)) (hp : p x) (k : ∀ d, q x d → P.rt d) : StD K T F0 H0 (tRet (tCall (PrR K T (RP arg p) (RQ arg p q)) [] E ta)) env P := fun F H σ o De En =>
  ha F0 H0 F H σ o _ fun v F1 H1 w1 n1 d1 => by
    show PrR K T _ _ (v ++ []) H1 _ E
    rw [List.append_nil]
    exact ⟨F1, arg x, w1, d1, ⟨x, rfl, hp⟩, fun d hd v2 F2 H2 w2 n2 d2 => En.rt d v2 F2 H2 (k d (hd x rfl hp)) w2 (o.nx.trans o.wk (n1.trans w1 n2)) d2⟩
theorem sum_le {α : Type} (f : α → Nat) (b : Nat) : ∀ l : List α, (∀ x ∈ l, f x ≤ b) → (l.map f).sum ≤ b * l.length
  | [], _ => Nat.zero_le _
  | x :: l, h => by
    rw [List.map_cons, List.sum_cons, List.length_cons, Nat.mul_succ]
    have := sum_le f b l fun y hy => h y (List.mem_cons_of_mem _ hy)
    have := h x List.mem_cons_self
    omega
theorem flat_le {α : Type} (f : α → List Nat) (b : Nat) : ∀ l : List α, (∀ x ∈ l, (f x).length ≤ b) → (l.flatMap f).length ≤ b * l.length
  | [], _ => Nat.zero_le _
  | x :: l, h => by
    rw [List.flatMap_cons, List.length_append, List.length_cons, Nat.mul_succ]
    have := flat_le f b l fun y hy => h y (List.mem_cons_of_mem _ hy)
    have := h x List.mem_cons_self
    omega
/-! ### signs below 128 -/
theorem asc_app {a b : List Nat} (h : Asc a) (h2 : Asc b) : Asc (a ++ b) := fun c hc => (List.mem_append.mp hc).elim (h c) (h2 c)
theorem asc_rep {a : List Nat} (n : Nat) (h : Asc a) : Asc (List.replicate n a).flatten := fun c hc => by
  obtain ⟨l, hl, hc⟩ := List.mem_flatten.mp hc
  rw [List.eq_of_mem_replicate hl] at hc
  exact h c hc
theorem len_rep (n : Nat) (a : List Nat) : (List.replicate n a).flatten.length = n * a.length := by simp
theorem asc_join {ps : List (List Nat)} (h : ∀ p ∈ ps, Asc p) : Asc (joinC 10 ps) := by
  cases ps with
  | nil => exact fun c hc => nomatch hc
  | cons p r =>
    rw [join_flat]
    refine asc_app (h p List.mem_cons_self) fun c hc => ?_
    obtain ⟨w, hw, hc⟩ := List.mem_flatMap.mp hc
    rcases List.mem_cons.mp hc with rfl | hc
    · decide
    · exact h w (List.mem_cons_of_mem _ hw) c hc
theorem join_le {ps : List (List Nat)} {b : Nat} (h : ∀ p ∈ ps, p.length ≤ b) : (joinC 10 ps).length ≤ (b + 1) * ps.length := by
  cases ps with
  | nil => exact Nat.zero_le _
  | cons p r =>
    rw [join_flat, List.length_append, List.length_cons, Nat.mul_succ]
    have := flat_le (fun w => 10 :: w) (b + 1) r fun w hw => by rw [List.length_cons]; have := h w (List.mem_cons_of_mem _ hw); omega
    have := h p List.mem_cons_self
    omega
def okT (n : Nat) (s : Str) : Bool := decide (s.cps.toList.length ≤ n) && s.cps.toList.all fun c => decide (c < 128)
theorem okT_iff {n : Nat} {s : Str} (h : okT n s = true) : s.cps.toList.length ≤ n ∧ Asc s.cps.toList := by
  unfold okT at h
  rw [Bool.and_eq_true, decide_eq_true_iff, List.all_eq_true] at h
  exact ⟨h.1, fun c hc => of_decide_eq_true (h.2 c hc)⟩
theorem okT_at {n k : Nat} {l : List Str} (h : l.all (okT n) = true) : ((l[k]?.getD Str.empty).cps.toList).length ≤ n ∧ Asc (l[k]?.getD Str.empty).cps.toList := by
  cases e : l[k]? with
  | none => exact ⟨Nat.zero_le _, fun c hc => nomatch hc⟩
  | some s => exact okT_iff (List.all_eq_true.mp h s (List.mem_of_getElem? e))
/-! ### what is drawn -/
def firstA : List Str := ["lamps", "lamps fo", "lamps offo", "lamps o", "lamps ", "lamps  fo", "Lamps fo", "lamps f o"]
def firstB : List Str := ["lamps fx", "lamp fo", "", " lamps fo", "lampsfo"]
def firstX (c : Int) : List Nat := ((firstA ++ firstB)[(c % 13).toNat]?.getD Str.empty).cps.toList
theorem first_ok (c : Int) : (firstX c).length ≤ 20 ∧ Asc (firstX c) := okT_at (by decide +kernel)
def nextA : List Str := ["wish", "wish 1", "wish -1 2", "wish 2 2 -2", "wish 1  2", "wish 1 ", " wish 1", "wish 01", "wish +1"]
def nextB : List Str := ["wish -0", "wish 0", "wish 3", "wish -3 1", "wish -", "wish --1", "wish 1-", "Wish 1", "wishes 1"]
def nextC : List Str := ["", "lamps fo", "wish,1", "wish1", "wish 1 a", "wish -01"]
def nextSign (c : Int) : List Nat := ((["", "-"] : List Str)[(c / 27 % 2).toNat]?.getD Str.empty).cps.toList
def nextX (c : Int) : List Nat := if c % 27 < 24 then ((nextA ++ nextB ++ nextC)[(c % 27).toNat]?.getD Str.empty).cps.toList else wish ++ [32] ++ nextSign c ++ [55] ++ List.replicate (58 + ((c % 27).toNat - 24)) 48
theorem next_ok (c : Int) : (nextX c).length ≤ 80 ∧ Asc (nextX c) := by
  unfold nextX
  split
  · have h := okT_at (n := 80) (k := (c % 27).toNat) (l := nextA ++ nextB ++ nextC) (by decide +kernel)
    exact h
  · obtain ⟨k, hk, k27⟩ := rest_nat c 27 (by decide)
    obtain ⟨s1, s2⟩ := okT_at (n := 1) (k := (c / 27 % 2).toNat) (l := ["", "-"]) (by decide +kernel)
    have hk : c % 27 = (k : Int) := hk
    rw [hk, Int.toNat_natCast]
    refine ⟨?_, asc_app (asc_app (asc_app (by unfold Asc; decide) s2) (by unfold Asc; decide)) fun c hc => by rw [List.eq_of_mem_replicate hc]; decide⟩
    rw [List.length_append, List.length_append, List.length_append, List.length_replicate]
    have s1 : (nextSign c).length ≤ 1 := s1
    show 5 + _ + 1 + _ ≤ 80
    omega
def signsA : Str := " !\"#$&'()*+,-./0123456789:;<=>?@ABCDEFGHIJKLMNOPQRSTUVWXYZ[\\]^_`"
def signsB : Str := "abcdefghijklmnopqrstuvwxyz{|}~\n\t"
def signX (c : Int) : List Nat := [(signsA ++ signsB).cps.toList[(c % 96).toNat]?.getD 32]
theorem sign_ok (c : Int) : Asc (signX c) := fun d hd => by
  unfold signX at hd
  rw [List.mem_singleton.mp hd]
  cases e : (signsA ++ signsB).cps.toList[(c % 96).toNat]? with
  | none => decide
  | some a =>
    have key : ((signsA ++ signsB).cps.toList.all fun c => decide (c < 128)) = true := by decide +kernel
    exact of_decide_eq_true (List.all_eq_true.mp key a (List.mem_of_getElem? e))
def arg_L_great : Int → List D := fun c => [.int c]
def pre_L_great : Int → Prop := fun _ => True
def post_L_great : Int → D → Prop := fun _ d => ∃ l, d = .str (txt l) ∧ l.length ≤ 900 ∧ Asc l
theorem inj_L_great (x y : Int) (h : arg_L_great x = arg_L_great y) : x = y := by
  have h1 : PyData.int x = PyData.int y := (List.cons.inj h).1
  cases h1
  rfl
def arg_L_text : List Int → List D := fun ns => [dInts ns]
def pre_L_text : List Int → Prop := fun _ => True
def post_L_text : List Int → D → Prop := fun _ d => ∃ l, d = .str (txt l) ∧ l.length ≤ 999 ∧ Asc l
theorem ints_inj7 : ∀ {a b : List Int}, a.map PyData.int = b.map PyData.int → a = b
  | [], [], _ => rfl
  | [], _ :: _, h => nomatch h
  | _ :: _, [], h => nomatch h
  | x :: a, y :: b, h => by
    rw [List.map_cons, List.map_cons] at h
    have h1 : PyData.int x = PyData.int y := (List.cons.inj h).1
    cases h1
    rw [ints_inj7 (List.cons.inj h).2]
theorem inj_L_text (x y : List Int) (h : arg_L_text x = arg_L_text y) : x = y := by
  have h1 : PyData.list (x.map .int) = PyData.list (y.map .int) := (List.cons.inj h).1
  exact ints_inj7 (PyData.list.inj h1)
/-! ### what a text tells -/
theorem figs_self {f : List Nat} (h : goodF f = true) : figs f = f := by
  unfold figs
  rw [if_neg]
  intro z
  obtain ⟨h1, h2, _⟩ := good_digits h
  cases f with
  | nil => exact h2 rfl
  | cons a f =>
    have z : [a] = [45] := z
    have := h1 a List.mem_cons_self
    rw [(List.cons.inj z).1] at this
    exact absurd this.1 (by decide)
theorem nums_all : ∀ vs : List (List Nat), (0 : Int) ∉ (vs.map fun w => (numW w).getD 0) → allO (vs.map numW) = some (vs.map fun w => (numW w).getD 0)
  | [], _ => rfl
  | w :: vs, h => by
    rw [List.map_cons] at h
    rw [List.map_cons, List.map_cons]
    cases e : numW w with
    | none => rw [e] at h; exact absurd List.mem_cons_self h
    | some n => rw [allO, nums_all vs fun z => h (List.mem_cons_of_mem _ z)]; rfl
theorem nums_none {vs : List (List Nat)} (h : (0 : Int) ∈ (vs.map fun w => (numW w).getD 0)) : allO (vs.map numW) = none := by
  obtain ⟨w, hw, e⟩ := List.mem_map.mp h
  refine allO_none.mpr (List.mem_map.mpr ⟨w, hw, ?_⟩)
  cases e2 : numW w with
  | none => rfl
  | some n =>
    rw [e2] at e
    exact absurd e (num_ne e2).1
def optL : Option (List Int) → D
  | none => .none
  | some ns => dInts ns
def optG : Option (List Nat × List (List Int)) → D
  | none => .none
  | some (s, ws) => .tuple [.str (txt s), wishesD ws]
theorem lay_opts : ∀ os : List (Option (List Int)), PySem.PyData.canLayAll0 (os.map optL) = true
  | [] => rfl
  | none :: os => by simp [PySem.PyData.canLayAll0, PySem.PyData.canLay0, optL, lay_opts os]
  | some ns :: os => by simp [PySem.PyData.canLayAll0, PySem.PyData.canLay0, optL, lay_ints, lay_opts os]
theorem dep_opts : ∀ os : List (Option (List Int)), PySem.PyData.depthAll (os.map optL) ≤ 1
  | [] => Nat.zero_le _
  | none :: os => by
    have := dep_opts os
    simp only [List.map_cons, PySem.PyData.depthAll, optL, PySem.PyData.depth]
    omega
  | some ns :: os => by
    have := dep_opts os
    have h2 : PySem.PyData.depth (dInts ns) ≤ 1 := by
      have := dep_ints ns
      simp only [PySem.PyData.depth]
      omega
    simp only [List.map_cons, PySem.PyData.depthAll, optL]
    omega
theorem shaped_opts (os : List (Option (List Int))) : SeqAt.shaped (.list (os.map optL)) = true := by
  refine shaped_iff.mpr ⟨by simp [PySem.PyData.canLay0, lay_opts], ?_⟩
  have := dep_opts os
  simp only [PySem.PyData.depth]
  omega
theorem any_none (os : List (Option (List Int))) : ((os.map optL).any fun z => PyData.eqv z .none) = decide (none ∈ os) := by
  induction os with
  | nil => rfl
  | cons o os ih =>
    rw [List.map_cons, List.any_cons, ih]
    cases o with
    | none =>
      rw [decide_eq_true (List.mem_cons_self : none ∈ none :: os)]
      rfl
    | some ns =>
      have e : PyData.eqv (optL (some ns)) .none = false := rfl
      rw [e, Bool.false_or]
      exact decide_eq_decide.mpr (by simp)
theorem opts_some (ws : List (List Int)) : (ws.map some).map optL = ws.map dInts := by
  rw [List.map_map]
  rfl
theorem str_okT {l : List Nat} (h : Asc l) : PySem.PyData.strOk (txt l) = true := by
  unfold PySem.PyData.strOk
  rw [← Array.all_toList, txt_list, List.all_eq_true]
  intro c hc
  have := h c hc
  exact decide_eq_true (by omega)
theorem shaped_text {l : List Nat} (ha : Asc l) (ws : List (List Int)) : SeqAt.shaped (.tuple [.str (txt l), wishesD ws]) = true := by
  have h := shaped_iff.mp (shaped_wishes ws)
  refine shaped_iff.mpr ⟨by simp [PyData.canLay0, PyData.canLayAll0, lay_wishes, str_okT ha], ?_⟩
  have := dep_wishes ws
  simp [PyData.depth, PyData.depthAll]
  omega
def foB (c : Nat) : Bool := decide (c = 102) || decide (c = 111)
def goodW (m : Nat) (w : List Int) : Bool := (w.all fun n => decide (lampN n ≤ m)) && decide (w.length ≤ 10)
def goodG (l : List Nat) (ws : List (List Int)) : Bool := l.all foB && ws.all (goodW l.length) && (decide (l.length ≤ 10) && decide (ws.length ≤ 20))
theorem good_ok {l : List Nat} {ws : List (List Int)} (h : ∀ w ∈ ws, ∀ n ∈ w, n ≠ 0) : goodG l ws = okG l ws := by
  rw [Bool.eq_iff_iff, okG_iff]
  unfold goodG GameOf Fo goodW WishOf
  rw [Bool.and_eq_true, Bool.and_eq_true, Bool.and_eq_true, decide_eq_true_iff, decide_eq_true_iff, List.all_eq_true, List.all_eq_true]
  constructor
  · rintro ⟨⟨h1, h2⟩, h3, h4⟩
    refine ⟨h3, fun c hc => ?_, h4, fun w hw => ?_⟩
    · have := h1 c hc
      unfold foB at this
      simpa using this
    · have := h2 w hw
      rw [Bool.and_eq_true, decide_eq_true_iff, List.all_eq_true] at this
      exact ⟨this.2, fun n hn => ⟨h w hw n hn, of_decide_eq_true (this.1 n hn)⟩⟩
  · rintro ⟨h3, h1, h4, h2⟩
    refine ⟨⟨fun c hc => ?_, fun w hw => ?_⟩, h3, h4⟩
    · have := h1 c hc
      unfold foB
      simpa using this
    · rw [Bool.and_eq_true, decide_eq_true_iff, List.all_eq_true]
      exact ⟨fun n hn => decide_eq_true ((h2 w hw).2 n hn).2, (h2 w hw).1⟩
theorem game_ok {l s : List Nat} {ws : List (List Int)} (h : gameX l = some (s, ws)) : (∀ a ∈ s, a ∈ l) ∧ s.length ≤ l.length ∧ ws.length ≤ l.length ∧ ∀ w ∈ ws, ∀ n ∈ w, n ≠ 0 := by
  obtain ⟨v, vs, e⟩ := splitC_ne 10 l
  have sl := split_len2 10 l
  rw [e, List.length_cons] at sl
  have hv := split_mem (c := 10) (l := l) (p := v) (by rw [e]; exact List.mem_cons_self)
  unfold gameX at h
  rw [e] at h
  have h : (match setX v with | none => none | some s => (allO (vs.map wishX)).map fun ws => (s, ws)) = some (s, ws) := h
  cases hs : setX v with
  | none => rw [hs] at h; cases h
  | some s' =>
    rw [hs] at h
    cases hw : allO (vs.map wishX) with
    | none =>
      have h : (allO (vs.map wishX)).map (fun ws => (s', ws)) = some (s, ws) := h
      rw [hw] at h; cases h
    | some ws' =>
      have h : (allO (vs.map wishX)).map (fun ws => (s', ws)) = some (s, ws) := h
      rw [hw] at h
      cases h
      obtain ⟨s1, s2⟩ := set_ok hs
      have wl := allO_len hw
      rw [List.length_map] at wl
      refine ⟨fun a ha => hv.1 a (s1 a ha), by have := hv.2; omega, by omega, fun w hw2 n hn => ?_⟩
      have hm : some w ∈ vs.map wishX := by
        rw [allO_some hw]
        exact List.mem_map_of_mem hw2
      obtain ⟨row, hr, hx⟩ := List.mem_map.mp hm
      exact ((wish_ok hx).2 n hn).1
/-! ### what the top has written -/
structure Txt (K : PySem.W.Frag) (mg : Str → Option Value) (a : Nat → Addr) (fd : Nat → FuncData) (c : Nat → Addr) (ec : Nat → Addr) : Prop where
  gc_WishError : mg "WishError" = some (.ref (ec 0))
  bc_WishError : PySem.W.subIn K (.ref (ec 0)) (.type "BaseException") = some true
  tc_WishError : PySem.W.typeIn K (.ref (ec 0)) = some (.type "type")
  ic_WishError : PySem.W.isClsIn K (ec 0) = true
  gc_BadGame : mg "BadGame" = some (.ref (ec 1))
  bc_BadGame : PySem.W.subIn K (.ref (ec 1)) (.type "BaseException") = some true
  tc_BadGame : PySem.W.typeIn K (.ref (ec 1)) = some (.type "type")
  ic_BadGame : PySem.W.isClsIn K (ec 1) = true
  gc_BadRow : mg "BadRow" = some (.ref (ec 2))
  bc_BadRow : PySem.W.subIn K (.ref (ec 2)) (.type "BaseException") = some true
  tc_BadRow : PySem.W.typeIn K (.ref (ec 2)) = some (.type "type")
  ic_BadRow : PySem.W.isClsIn K (ec 2) = true
  gc_BadText : mg "BadText" = some (.ref (ec 3))
  bc_BadText : PySem.W.subIn K (.ref (ec 3)) (.type "BaseException") = some true
  tc_BadText : PySem.W.typeIn K (.ref (ec 3)) = some (.type "type")
  ic_BadText : PySem.W.isClsIn K (ec 3) = true
  xc_BadGame : PySem.W.excIn K (ec 1) [.type "ValueError", .type "Exception", .type "BaseException", .type "object"] "ValueError.__new__" = true
  kc_BadGame : PySem.W.keepIn K (.ref (ec 1)) = true
  su_BadGame_WishError : PySem.W.subIn K (.ref (ec 1)) (.ref (ec 0)) = some true
  su_BadGame_BadGame : PySem.W.subIn K (.ref (ec 1)) (.ref (ec 1)) = some true
  su_BadGame_BadRow : PySem.W.subIn K (.ref (ec 1)) (.ref (ec 2)) = some false
  su_BadGame_BadText : PySem.W.subIn K (.ref (ec 1)) (.ref (ec 3)) = some false
  sv_BadGame : PySem.W.subIn K (.ref (ec 1)) (.type "ValueError") = some true
  ec_BadGame : ExcC K (ec 1)
  xc_BadText : PySem.W.excIn K (ec 3) [.type "ValueError", .type "Exception", .type "BaseException", .type "object"] "ValueError.__new__" = true
  kc_BadText : PySem.W.keepIn K (.ref (ec 3)) = true
  su_BadText_WishError : PySem.W.subIn K (.ref (ec 3)) (.ref (ec 0)) = some true
  su_BadText_BadGame : PySem.W.subIn K (.ref (ec 3)) (.ref (ec 1)) = some false
  su_BadText_BadRow : PySem.W.subIn K (.ref (ec 3)) (.ref (ec 2)) = some false
  su_BadText_BadText : PySem.W.subIn K (.ref (ec 3)) (.ref (ec 3)) = some true
  sv_BadText : PySem.W.subIn K (.ref (ec 3)) (.type "ValueError") = some true
  ec_BadText : ExcC K (ec 3)
  F_check : Fun K "check" "check" s_check (a 0) (fd 0)
  g_check : mg "check" = some (.ref (a 0))
  b_check : Binds K (fd 0) ["setters", "wishes"] []
  F_check_setters : Fun K "check_setters" "check_setters" s_check_setters (a 1) (fd 1)
  g_check_setters : mg "check_setters" = some (.ref (a 1))
  b_check_setters : Binds K (fd 1) ["setters"] []
  F_check_wish : Fun K "check_wish" "check_wish" s_check_wish (a 2) (fd 2)
  g_check_wish : mg "check_wish" = some (.ref (a 2))
  b_check_wish : Binds K (fd 2) ["wish", "lamps"] []
  F_read : Fun K "read" "read" s_read (a 3) (fd 3)
  g_read : mg "read" = some (.ref (a 3))
  b_read : Binds K (fd 3) ["text"] []
  F_read_setters : Fun K "read_setters" "read_setters" s_read_setters (a 4) (fd 4)
  g_read_setters : mg "read_setters" = some (.ref (a 4))
  b_read_setters : Binds K (fd 4) ["row"] []
  F_read_wish : Fun K "read_wish" "read_wish" s_read_wish (a 5) (fd 5)
  g_read_wish : mg "read_wish" = some (.ref (a 5))
  b_read_wish : Binds K (fd 5) ["row"] []
  F_read_number : Fun K "read_number" "read_number" s_read_number (a 6) (fd 6)
  g_read_number : mg "read_number" = some (.ref (a 6))
  b_read_number : Binds K (fd 6) ["word"] []
  F_L_cell_at : Fun K "_law_cell_at" "_law_cell_at" s_L_cell_at (a 7) (fd 7)
  g_L_cell_at : mg "_law_cell_at" = some (.ref (a 7))
  b_L_cell_at : Binds K (fd 7) ["_law_script", "_law_k"] []
  F_L_first : Fun K "_law_first" "_law_first" s_L_first (a 8) (fd 8)
  g_L_first : mg "_law_first" = some (.ref (a 8))
  b_L_first : Binds K (fd 8) ["_law_cell"] []
  F_L_next : Fun K "_law_next" "_law_next" s_L_next (a 9) (fd 9)
  g_L_next : mg "_law_next" = some (.ref (a 9))
  b_L_next : Binds K (fd 9) ["_law_cell"] []
  F_L_sign_by : Fun K "_law_sign_by" "_law_sign_by" s_L_sign_by (a 10) (fd 10)
  g_L_sign_by : mg "_law_sign_by" = some (.ref (a 10))
  b_L_sign_by : Binds K (fd 10) ["_law_cell"] []
  F_L_great : Fun K "_law_great" "_law_great" s_L_great (a 11) (fd 11)
  g_L_great : mg "_law_great" = some (.ref (a 11))
  b_L_great : Binds K (fd 11) ["_law_cell"] []
  F_L_text : Fun K "_law_text" "_law_text" s_L_text (a 12) (fd 12)
  g_L_text : mg "_law_text" = some (.ref (a 12))
  b_L_text : Binds K (fd 12) ["_law_script"] []
  F_L_number : Fun K "_law_number" "_law_number" s_L_number (a 13) (fd 13)
  g_L_number : mg "_law_number" = some (.ref (a 13))
  b_L_number : Binds K (fd 13) ["_law_word"] []
  F_L_wish : Fun K "_law_wish" "_law_wish" s_L_wish (a 14) (fd 14)
  g_L_wish : mg "_law_wish" = some (.ref (a 14))
  b_L_wish : Binds K (fd 14) ["_law_row"] []
  F_L_game : Fun K "_law_game" "_law_game" s_L_game (a 15) (fd 15)
  g_L_game : mg "_law_game" = some (.ref (a 15))
  b_L_game : Binds K (fd 15) ["_law_text_here"] []
  F_L_good : Fun K "_law_good" "_law_good" s_L_good (a 16) (fd 16)
  g_L_good : mg "_law_good" = some (.ref (a 16))
  b_L_good : Binds K (fd 16) ["_law_game_here"] []
  F_L_refused : Fun K "_law_refused" "_law_refused" s_L_refused (a 17) (fd 17)
  g_L_refused : mg "_law_refused" = some (.ref (a 17))
  b_L_refused : Binds K (fd 17) ["_law_text_here", "_law_by_game"] []
  F_L_alike : Fun K "_law_alike" "_law_alike" s_L_alike (a 18) (fd 18)
  g_L_alike : mg "_law_alike" = some (.ref (a 18))
  b_L_alike : Binds K (fd 18) ["_law_found", "_law_due"] []
  F_law : Fun K "law" "law" s_law (a 19) (fd 19)
  g_law : mg "law" = some (.ref (a 19))
  b_law : Binds K (fd 19) ["_law_script"] []
  C_read_number : FunC K "read_number" "read_number" s_read_number (a 6) (fd 6) (c 0)
  k_MOST_LAMPS : ∃ t, mg "MOST_LAMPS" = some (.int 10 t)
  k_MOST_WISHES : ∃ t, mg "MOST_WISHES" = some (.int 20 t)
  k_MOST_NUMBERS : ∃ t, mg "MOST_NUMBERS" = some (.int 10 t)
  k_FIGURES : ∃ t, mg "FIGURES" = some (.str "0123456789" t)
  k_MOST_FIGURES : ∃ t, mg "MOST_FIGURES" = some (.int 60 t)
  m_abs : mg "abs" = none
  m_len : mg "len" = none
  m_range : mg "range" = none
  m_max : mg "max" = none
  m_list : mg "list" = none
  m_isinstance : mg "isinstance" = none
  m_bool : mg "bool" = none
  m_all : mg "all" = none
  m_sorted : mg "sorted" = none
  m_tuple : mg "tuple" = none
  m_int : mg "int" = none
  m_reversed : mg "reversed" = none
  m_ValueError : mg "ValueError" = none
  m_str : mg "str" = none
  m_min : mg "min" = none

section
variable {P : Program} {w : World} {K : PySem.W.Frag} {mg : Str → Option Value} {base : Heap} {Tb : List Addr} {a : Nat → Addr} {fd : Nat → FuncData} {c p : Nat → Addr} {ec : Nat → Addr}
/-! check_setters -/
abbrev g_check_setters : List D → Res → Prop := GX (fun l : List Nat => [.str (txt l)]) (fun l => l.length ≤ 1000 ∧ Short l) fun l => if okS l then .ok .none else .bad (ec 1)
theorem ok_check_setters (T : Txt K mg a fd c ec) (TB : ∀ i, i < 1 → GxR.TabB base mg (c i) (p i)) (hT : ∀ i, i < 1 → p i ∈ Tb) : FnOk P w K mg base (L2.CX P w) 1 (a 1) (fd 1) ["setters"] (PrX K Tb (g_check_setters (ec := ec))) := by
  refine fn_gfX T.F_check_setters sc_check_setters (fun _ => rfl) (fun cdv A outer s H E hr => ⟨_, (pss_cons (ps_if (pt_cmpR op_gt (pe_callB call_len_str (by rfl) T.m_len (by decide +kernel) (pa_cons (pv 0) pa_nil)) (pe_glob (v := .int 10) rfl (Classical.choose_spec T.k_MOST_LAMPS) ⟨_, rfl⟩) (nomark _))
        (pss_one (ps_raise rfl (takes_of rfl rfl rfl rfl) (SkE.pmk_own1 PySem.F.excBase_ValueError T.xc_BadGame T.gc_BadGame T.kc_BadGame (raises_own T.bc_BadGame T.tc_BadGame) (by rfl) (pe_joined (.cons (pe_fmt (pe_callB call_len_str (by rfl) T.m_len (by decide +kernel) (pa_cons (pv 0) pa_nil))) (.cons pe_str (.cons (pe_fmt (pe_glob (v := .int 10) rfl (Classical.choose_spec T.k_MOST_LAMPS) ⟨_, rfl⟩)) (.cons pe_str .nil))))))))
        pss_nil)
      (pss_one (ps_for (passes_of rfl) rfl (pi_str (pv 0)) (pg_name (i := 1) sc_check_setters.nd rfl (.inl rfl))
        (pss_one (ps_if (pt_cmpR op_notIn_seq (pv 1) (pe_tup (pa_cons pe_str (pa_cons pe_str pa_nil))) (by rfl))
        (pss_one (ps_raise rfl (takes_of rfl rfl rfl rfl) (SkE.pmk_own1 PySem.F.excBase_ValueError T.xc_BadGame T.gc_BadGame T.kc_BadGame (raises_own T.bc_BadGame T.tc_BadGame) (by rfl) (pe_joined (.cons pe_str (.cons (pe_fmtR (pv 1)) (.cons pe_str .nil)))))))
        pss_nil))))), fun F0 x hp hE => ?_⟩)
  obtain ⟨hl, hsh⟩ : x.length ≤ 1000 ∧ Short x := hp
  have big : x.length ≤ sizeLine := line_big (by omega)
  have E1 : okS x = false → ∀ F' H', Wk Tb F' H' → Nx Tb F0 H F' H' → E (.ref (ec 1)) none H' := fun h => hE (ec 1) (by show (if okS x then _ else _) = _; rw [if_neg (by rw [h]; decide)])
  have lenE : ∀ env : List Sl, env[0]? = some (.dat (.str (txt x))) → EvD K Tb (tCB (fun xs H Q => ∃ z, xs = [V.str z] ∧ z.length ≤ sizeLine ∧ Q (.int z.length) H) (tCons (tVar 0) tNil)) env (.int (x.length : Nat)) := fun env h => d_cb (a_cons (d_var h) a_nil) (r_lenS (z := txt x) big)
  refine s_env (env' := [.dat (.str (txt x)), .no]) rfl ?_
  refine s_seq (s_if (b := decide (10 < x.length)) (t_is (t_test (d_op (lenE _ rfl) d_int r_bool)) (decide_eq_decide.mpr (by omega))) (fun h => ?_) fun h => s_next ?_)
  · have h : 10 < x.length := of_decide_eq_true h
    have n1 := num_text (nat_log (n := x.length) (by omega))
    refine s_raise (te := fun σ H Q => tJs _ Str.empty σ H fun out H1 => Q (.str out) H1) (n_join ?_) (E1 (by unfold okS; rw [decide_eq_false (by omega)]; rfl))
    refine ⟨_, d_fmtI (lenE _ rfl) (Nat.lt_trans (nat_log (by omega)) (by decide)), ?_, _, d_str, ?_, _, d_fmtI d_int (by decide), ?_, _, d_str, ?_, trivial⟩
    all_goals refine line_big ?_
    all_goals simp only [str_len_app]
    all_goals have c1 : Str.empty.length + (" lamps, but at most " : Str).length + (Str.ofString (toString (10 : Int))).length + (" may be there" : Str).length ≤ 200 := by decide +kernel
    all_goals omega
  · have h : ¬ 10 < x.length := of_decide_eq_false h
    refine s_forS (z := txt x) (d_var rfl) (fun k e => ∃ y, e = [.dat (.str (txt x)), y] ∧ ((x.take k).all fun c => decide (c = 102) || decide (c = 111)) = true) ⟨.no, rfl, rfl⟩ ?_ ?_
    · rintro k c _ hc ⟨y, rfl, ha⟩
      rw [txt_at] at hc
      refine s_if (b := !(decide (c = 102) || decide (c = 111))) (t_is (t_test (d_op (d_var rfl) (d_tup (xs := (["f", "o"] : List Str).map PyData.str) (a_cons d_str (a_cons d_str a_nil)) (line_big (by show 2 ≤ 100000; decide))) (r_notinT (ss := (["f", "o"] : List Str))))) ?_) (fun h2 => ?_) fun h2 => s_next ⟨.dat (.str ⟨#[c]⟩), rfl, ?_⟩
      · congr 1
        rw [Bool.eq_iff_iff, Bool.or_eq_true, decide_eq_true_iff, decide_eq_true_iff, decide_eq_true_iff]
        show (⟨#[c]⟩ : Str) ∈ [Str.ofString "f", Str.ofString "o"] ↔ _
        rw [str_f, str_o, List.mem_cons, List.mem_singleton, txt_one]
        constructor
        · rintro (h | h)
          · exact .inl (by have := txt_inj h; simpa using this)
          · exact .inr (by have := txt_inj h; simpa using this)
        · rintro (rfl | rfl)
          · exact .inl rfl
          · exact .inr rfl
      · have hno : okS x = false := by
          unfold okS
          rw [Bool.and_eq_false_iff]
          refine .inr ?_
          rw [List.all_eq_false]
          exact ⟨c, List.mem_of_getElem? hc, by simpa using h2⟩
        have s1 := hsh c (List.mem_of_getElem? hc)
        refine s_raise (te := fun σ H Q => tJs _ Str.empty σ H fun out H1 => Q (.str out) H1) (n_join ?_) (E1 hno)
        refine ⟨_, d_str, ?_, _, d_fmtRS (d_var rfl) (line_big (by omega)), ?_, _, d_str, ?_, trivial⟩
        all_goals refine line_big ?_
        all_goals simp only [str_len_app]
        all_goals have c1 : Str.empty.length + ("the sign " : Str).length + (" among the setters is neither f nor o" : Str).length ≤ 200 := by decide +kernel
        all_goals omega
      · have h3 : (decide (c = 102) || decide (c = 111)) = true := by
          cases q : (decide (c = 102) || decide (c = 111)) with
          | true => rfl
          | false => rw [q] at h2; cases h2
        rw [List.take_add_one, hc, List.all_append, ha]
        show (true && ((decide (c = 102) || decide (c = 111)) && true)) = true
        rw [h3]
        rfl
    · rintro _ ⟨y, rfl, ha⟩
      rw [txt_size, List.take_length] at ha
      show (if okS x then Res.ok .none else _) = Res.ok .none
      rw [if_pos]
      unfold okS
      rw [decide_eq_true (by omega), ha]
      rfl
/-! check_wish -/
abbrev g_check_wish : List D → Res → Prop := GX (fun x : List Int × Nat => [dInts x.1, .int (x.2 : Nat)]) (fun x => x.1.length ≤ 1000 ∧ (∀ n ∈ x.1, n.natAbs.log2 < 1900) ∧ x.2 ≤ 1000) fun x => if okW x.2 x.1 then .ok .none else .bad (ec 1)
theorem ok_check_wish (T : Txt K mg a fd c ec) (TB : ∀ i, i < 1 → GxR.TabB base mg (c i) (p i)) (hT : ∀ i, i < 1 → p i ∈ Tb) : FnOk P w K mg base (L2.CX P w) 1 (a 2) (fd 2) ["wish", "lamps"] (PrX K Tb (g_check_wish (ec := ec))) := by
  refine fn_gfX T.F_check_wish sc_check_wish (fun _ => rfl) (fun cdv A outer s H E hr => ⟨_, (pss_cons (ps_if (pt_cmpR op_gt (pe_callB call_len_seq (by rfl) T.m_len (by decide +kernel) (pa_cons (pv 0) pa_nil)) (pe_glob (v := .int 10) rfl (Classical.choose_spec T.k_MOST_NUMBERS) ⟨_, rfl⟩) (nomark _))
        (pss_one (ps_raise rfl (takes_of rfl rfl rfl rfl) (SkE.pmk_own1 PySem.F.excBase_ValueError T.xc_BadGame T.gc_BadGame T.kc_BadGame (raises_own T.bc_BadGame T.tc_BadGame) (by rfl) (pe_joined (.cons (pe_fmt (pe_callB call_len_seq (by rfl) T.m_len (by decide +kernel) (pa_cons (pv 0) pa_nil))) (.cons pe_str (.cons (pe_fmt (pe_glob (v := .int 10) rfl (Classical.choose_spec T.k_MOST_NUMBERS) ⟨_, rfl⟩)) (.cons pe_str .nil))))))))
        pss_nil)
      (pss_one (ps_for (passes_of rfl) rfl (pi_list (pv 0)) (pg_name (i := 2) sc_check_wish.nd rfl (.inl rfl))
        (pss_one (ps_if (PW.pt (pw_or (pt_cmpR op_eq (pv 2) pe_int (nomark _)) (pw_or1 (pt_cmpR op_gt (pe_callB call_abs (by rfl) T.m_abs (by decide +kernel) (pa_cons (pv 2) pa_nil)) (pv 1) (nomark _)))))
        (pss_one (ps_raise rfl (takes_of rfl rfl rfl rfl) (SkE.pmk_own1 PySem.F.excBase_ValueError T.xc_BadGame T.gc_BadGame T.kc_BadGame (raises_own T.bc_BadGame T.tc_BadGame) (by rfl) (pe_joined (.cons pe_str (.cons (pe_fmt (pv 2)) (.cons pe_str (.cons (pe_fmt (pv 1)) .nil))))))))
        pss_nil))))), fun F0 x hp hE => ?_⟩)
  obtain ⟨w', m⟩ := x
  obtain ⟨hl, hn, hm⟩ : w'.length ≤ 1000 ∧ (∀ n ∈ w', n.natAbs.log2 < 1900) ∧ m ≤ 1000 := hp
  have E1 : okW m w' = false → ∀ F' H', Wk Tb F' H' → Nx Tb F0 H F' H' → E (.ref (ec 1)) none H' := fun h => hE (ec 1) (by show (if okW m w' then _ else _) = _; rw [if_neg (by rw [h]; decide)])
  have lenE : ∀ env : List Sl, env[0]? = some (.dat (dInts w')) → EvD K Tb (tCB (fun xs H Q => ∃ p ys, xs = [V.ref p] ∧ (SqL K H p ys ∨ SqT K H p ys) ∧ Q (.int ys.length) H) (tCons (tVar 0) tNil)) env (.int (w'.length : Nat)) := fun env h => d_is (d_cb (a_cons (d_var h) a_nil) r_lenL) (by rw [List.length_map])
  refine s_env (env' := [.dat (dInts w'), .dat (.int (m : Nat)), .no]) rfl ?_
  refine s_seq (s_if (b := decide (10 < w'.length)) (t_is (t_test (d_op (lenE _ rfl) d_int r_bool)) (decide_eq_decide.mpr (by omega))) (fun h => ?_) fun h => s_next ?_)
  · have h : 10 < w'.length := of_decide_eq_true h
    have n1 := num_text (nat_log (n := w'.length) (by omega))
    refine s_raise (te := fun σ H Q => tJs _ Str.empty σ H fun out H1 => Q (.str out) H1) (n_join ?_) (E1 (by unfold okW; rw [decide_eq_false (by omega)]; rfl))
    refine ⟨_, d_fmtI (lenE _ rfl) (Nat.lt_trans (nat_log (by omega)) (by decide)), ?_, _, d_str, ?_, _, d_fmtI d_int (by decide), ?_, _, d_str, ?_, trivial⟩
    all_goals refine line_big ?_
    all_goals simp only [str_len_app]
    all_goals have c1 : Str.empty.length + (" numbers in a wish, but at most " : Str).length + (Str.ofString (toString (10 : Int))).length + (" may be there" : Str).length ≤ 200 := by decide +kernel
    all_goals omega
  · have h : ¬ 10 < w'.length := of_decide_eq_false h
    refine s_forL (d_var rfl) (fun k e => ∃ y, e = [.dat (dInts w'), .dat (.int (m : Nat)), y] ∧ ((w'.take k).all fun n => decide (n ≠ 0) && decide (lampN n ≤ m)) = true) ⟨.no, rfl, rfl⟩ ?_ ?_
    · rintro k d _ hk ⟨y, rfl, ha⟩
      obtain ⟨n, hn1, rfl⟩ := map_at hk
      have nl := hn n (List.mem_of_getElem? hn1)
      have ab : (if n < 0 then -n else n) = (lampN n : Int) := lampI_eq n
      refine s_if (b := !(decide (n ≠ 0) && decide (lampN n ≤ m))) (t_is (t_or (t_test (d_op (d_var rfl) d_int r_eqI)) fun _ => t_test (d_op (d_is (d_cb (a_cons (d_var rfl) a_nil) r_abs) (congrArg PyData.int ab)) (d_var rfl) r_bool)) ?_) (fun h2 => ?_) fun h2 => s_next ⟨.dat (.int n), rfl, ?_⟩
      · rw [Bool.eq_iff_iff]
        simp
      · have hno : okW m w' = false := by
          unfold okW
          rw [Bool.and_eq_false_iff]
          refine .inr ?_
          rw [List.all_eq_false]
          exact ⟨n, List.mem_of_getElem? hn1, fun z => by rw [z] at h2; cases h2⟩
        have t1 := num_text nl
        have t2 := num_text (nat_log (n := m) (by omega))
        refine s_raise (te := fun σ H Q => tJs _ Str.empty σ H fun out H1 => Q (.str out) H1) (n_join ?_) (E1 hno)
        refine ⟨_, d_str, ?_, _, d_fmtI (d_var rfl) (Nat.lt_trans nl (by decide)), ?_, _, d_str, ?_, _, d_fmtI (d_var rfl) (Nat.lt_trans (nat_log (by omega)) (by decide)), ?_, trivial⟩
        all_goals refine line_big ?_
        all_goals simp only [str_len_app]
        all_goals have c1 : Str.empty.length + ("the number " : Str).length + (" tells no lamp, there are " : Str).length ≤ 200 := by decide +kernel
        all_goals omega
      · have h3 : (decide (n ≠ 0) && decide (lampN n ≤ m)) = true := by
          cases q : (decide (n ≠ 0) && decide (lampN n ≤ m)) with
          | true => rfl
          | false => rw [q] at h2; cases h2
        rw [List.take_add_one, hn1, List.all_append, ha]
        show (true && ((decide (n ≠ 0) && decide (lampN n ≤ m)) && true)) = true
        rw [h3]
        rfl
    · rintro _ ⟨y, rfl, ha⟩
      rw [List.length_map, List.take_length] at ha
      show (if okW m w' then Res.ok .none else _) = Res.ok .none
      rw [if_pos]
      unfold okW
      rw [decide_eq_true (by omega), ha]
      rfl
/-! check -/
abbrev g_check : List D → Res → Prop := GX (fun x : List Nat × List (List Int) => [.str (txt x.1), wishesD x.2]) (fun x => HandedT x.1 x.2) fun x => if okG x.1 x.2 then .ok .none else .bad (ec 1)
theorem ok_check (T : Txt K mg a fd c ec) (TB : ∀ i, i < 1 → GxR.TabB base mg (c i) (p i)) (hT : ∀ i, i < 1 → p i ∈ Tb) : FnOk P w K mg base (L2.CX P w) 2 (a 0) (fd 0) ["setters", "wishes"] (PrX K Tb (g_check (ec := ec))) := by
  have G_check_setters : FnOk P w K mg base (L2.CX P w) _ _ _ _ (PrX K Tb (g_check_setters (ec := ec))) := ok_check_setters T TB hT
  have G_check_wish : FnOk P w K mg base (L2.CX P w) _ _ _ _ (PrX K Tb (g_check_wish (ec := ec))) := ok_check_wish T TB hT
  refine fn_gfX T.F_check sc_check (fun _ => rfl) (fun cdv A outer s H E hr => ⟨_, (pss_cons (ps_expr (pe_callS G_check_setters hr (by rfl) T.g_check_setters T.F_check_setters.kp T.b_check_setters (fun σ => passAt (takes_of rfl rfl rfl rfl) σ) (pa_cons (pv 0) pa_nil)))
      (pss_cons (ps_if (pt_cmpR op_gt (pe_callB call_len_seq (by rfl) T.m_len (by decide +kernel) (pa_cons (pv 1) pa_nil)) (pe_glob (v := .int 20) rfl (Classical.choose_spec T.k_MOST_WISHES) ⟨_, rfl⟩) (nomark _))
        (pss_one (ps_raise rfl (takes_of rfl rfl rfl rfl) (SkE.pmk_own1 PySem.F.excBase_ValueError T.xc_BadGame T.gc_BadGame T.kc_BadGame (raises_own T.bc_BadGame T.tc_BadGame) (by rfl) (pe_joined (.cons (pe_fmt (pe_callB call_len_seq (by rfl) T.m_len (by decide +kernel) (pa_cons (pv 1) pa_nil))) (.cons pe_str (.cons (pe_fmt (pe_glob (v := .int 20) rfl (Classical.choose_spec T.k_MOST_WISHES) ⟨_, rfl⟩)) (.cons pe_str .nil))))))))
        pss_nil)
      (pss_one (ps_for (passes_of rfl) rfl (pi_list (pv 1)) (pg_name (i := 2) sc_check.nd rfl (.inl rfl))
        (pss_one (ps_expr (pe_callS G_check_wish hr (by rfl) T.g_check_wish T.F_check_wish.kp T.b_check_wish (fun σ => passAt (takes_of rfl rfl rfl rfl) σ) (pa_cons (pv 2) (pa_cons (pe_callB call_len_str (by rfl) T.m_len (by decide +kernel) (pa_cons (pv 0) pa_nil)) pa_nil))))))))), fun F0 x hp hE => ?_⟩)
  obtain ⟨l, ws⟩ := x
  have hh : HandedT l ws := hp
  have hl := hh.len
  have hw := hh.wlen
  have E1 : okG l ws = false → ∀ F' H', Wk Tb F' H' → Nx Tb F0 H F' H' → E (.ref (ec 1)) none H' := fun h => hE (ec 1) (by show (if okG l ws then _ else _) = _; rw [if_neg (by rw [h]; decide)])
  have lenE : ∀ env : List Sl, env[1]? = some (.dat (wishesD ws)) → EvD K Tb (tCB (fun xs H Q => ∃ p ys, xs = [V.ref p] ∧ (SqL K H p ys ∨ SqT K H p ys) ∧ Q (.int ys.length) H) (tCons (tVar 1) tNil)) env (.int (ws.length : Nat)) := fun env h => d_is (d_cb (a_cons (d_var h) a_nil) r_lenL) (by rw [List.length_map])
  refine s_env (env' := [.dat (.str (txt l)), .dat (wishesD ws), .no]) rfl ?_
  refine s_seq (s_dropX (a_cons (d_var rfl) a_nil) ⟨l, rfl, ⟨hl, hh.short⟩, rfl⟩ (fun d hd => ?_) fun c hc => ?_)
  rotate_left
  · have hc : (if okS l then Res.ok .none else .bad (ec 1)) = Res.bad c := hc
    split at hc
    · cases hc
    · rename_i hs
      cases hc
      exact E1 (by rw [okG_split, Bool.eq_false_iff.mpr hs]; rfl)
  have hd : (if okS l then Res.ok .none else .bad (ec 1)) = Res.ok d := hd
  have hs : okS l = true := by
    cases q : okS l with
    | true => rfl
    | false => rw [q] at hd; cases hd
  refine s_seq (s_if (b := decide (20 < ws.length)) (t_is (t_test (d_op (lenE _ rfl) d_int r_bool)) (decide_eq_decide.mpr (by omega))) (fun h => ?_) fun h => s_next ?_)
  · have h : 20 < ws.length := of_decide_eq_true h
    have n1 := num_text (nat_log (n := ws.length) (by omega))
    refine s_raise (te := fun σ H Q => tJs _ Str.empty σ H fun out H1 => Q (.str out) H1) (n_join ?_) (E1 (by rw [okG_split, decide_eq_false (by omega), Bool.false_and, Bool.and_false]))
    refine ⟨_, d_fmtI (lenE _ rfl) (Nat.lt_trans (nat_log (by omega)) (by decide)), ?_, _, d_str, ?_, _, d_fmtI d_int (by decide), ?_, _, d_str, ?_, trivial⟩
    all_goals refine line_big ?_
    all_goals simp only [str_len_app]
    all_goals have c1 : Str.empty.length + (" wishes, but at most " : Str).length + (Str.ofString (toString (20 : Int))).length + (" may be there" : Str).length ≤ 200 := by decide +kernel
    all_goals omega
  · have h : ¬ 20 < ws.length := of_decide_eq_false h
    refine s_forL (d_var rfl) (fun k e => ∃ y, e = [.dat (.str (txt l)), .dat (wishesD ws), y] ∧ ((ws.take k).all (okW l.length)) = true) ⟨.no, rfl, rfl⟩ ?_ ?_
    · rintro k d2 _ hk ⟨y, rfl, ha⟩
      obtain ⟨w', hw1, rfl⟩ := map_at hk
      have nl := hh.nlen w' (List.mem_of_getElem? hw1)
      refine s_dropX (a_cons (d_var rfl) (a_cons (d_cb (a_cons (d_var rfl) a_nil) (r_lenS (z := txt l) (line_big (by rw [txt_len]; omega)))) a_nil)) ⟨(w', l.length), rfl, ⟨nl.1, nl.2, hl⟩, rfl⟩ (fun d3 hd3 => ⟨.dat (dInts w'), rfl, ?_⟩) fun c hc => ?_
      · have hd3 : (if okW l.length w' then Res.ok .none else .bad (ec 1)) = Res.ok d3 := hd3
        have q : okW l.length w' = true := by
          cases q : okW l.length w' with
          | true => rfl
          | false => rw [q] at hd3; cases hd3
        rw [List.take_add_one, hw1, List.all_append, ha]
        simp [q]
      · have hc : (if okW l.length w' then Res.ok .none else .bad (ec 1)) = Res.bad c := hc
        split at hc
        · cases hc
        · rename_i hs2
          cases hc
          refine E1 ?_
          rw [okG_split, hs, decide_eq_true (by omega), Bool.true_and, Bool.true_and, List.all_eq_false]
          exact ⟨w', List.mem_of_getElem? hw1, hs2⟩
    · rintro _ ⟨y, rfl, ha⟩
      rw [List.length_map, List.take_length] at ha
      show (if okG l ws then Res.ok .none else _) = Res.ok .none
      rw [if_pos]
      rw [okG_split, hs, decide_eq_true (by omega), ha]
      rfl
/-! read_setters -/
abbrev g_read_setters : List D → Res → Prop := GX (fun w : List Nat => [.str (txt w)]) (fun w => w.length ≤ 1000 ∧ Asc w) fun w => optR (ec 3) (fun s => PyData.str (txt s)) (setX w)
theorem ok_read_setters (T : Txt K mg a fd c ec) (TB : ∀ i, i < 1 → GxR.TabB base mg (c i) (p i)) (hT : ∀ i, i < 1 → p i ∈ Tb) : FnOk P w K mg base (L2.CX P w) 1 (a 4) (fd 4) ["row"] (PrX K Tb (g_read_setters (ec := ec))) := by
  refine fn_gfX T.F_read_setters sc_read_setters (fun _ => rfl) (fun cdv A outer s H E hr => ⟨_, (pss_cons (ps_if (pt_cmpR op_eq (pv 0) pe_str (nomark _))
        (pss_one (ps_ret pe_str))
        pss_nil)
      (pss_cons (ps_asg (pe_partition (pv 0) pe_str) (pg_tup rfl (pgs_cons (pg_name (i := 1) sc_read_setters.nd rfl (.inl rfl)) (pgs_cons (pg_name (i := 2) sc_read_setters.nd rfl (.inl rfl)) (pgs_cons (pg_name (i := 3) sc_read_setters.nd rfl (.inl rfl)) pgs_nil)))))
      (pss_cons (ps_if (PW.pt (pw_or (pt_cmpR op_ne (pv 1) pe_str (nomark _)) (pw_or1 (pt_cmpR op_eq (pv 3) pe_str (nomark _)))))
        (pss_one (ps_raise rfl (takes_of rfl rfl rfl rfl) (SkE.pmk_own1 PySem.F.excBase_ValueError T.xc_BadText T.gc_BadText T.kc_BadText (raises_own T.bc_BadText T.tc_BadText) (by rfl) (pe_joined (.cons (pe_fmtR (pv 0)) (.cons pe_str .nil))))))
        pss_nil)
      (pss_one (ps_ret (pv 3)))))), fun F0 x hp hE => ?_⟩)
  obtain ⟨hl, ha⟩ : x.length ≤ 1000 ∧ Asc x := hp
  have big : ∀ l : List Nat, l.length ≤ 1000 → (txt l).length ≤ sizeLine := fun l h => by rw [txt_len]; exact line_big (by omega)
  have E1 : setX x = none → ∀ F' H', Wk Tb F' H' → Nx Tb F0 H F' H' → E (.ref (ec 3)) none H' := fun h => hE _ (by show optR _ _ (setX x) = _; rw [h]; rfl)
  refine s_env (env' := [.dat (.str (txt x)), .no, .no, .no]) rfl ?_
  refine s_seq (s_if (b := decide (x = lamps)) (t_is (t_test (d_op (d_var rfl) (d_is d_str (congrArg PyData.str str_lamps)) r_eqS)) (txt_eq _ _)) (fun h => ?_) fun h => s_next ?_)
  · refine s_ret (d_is d_str (congrArg PyData.str str_empty)) ?_
    show optR _ _ (setX x) = _
    unfold setX
    rw [if_pos (of_decide_eq_true h)]
    rfl
  have h0 : x ≠ lamps := of_decide_eq_false h
  refine s_seq (s_asgT (d := .tuple [.str (txt (partC 32 x).1), .str (partT 32 (partC 32 x)).2.1, .str (txt ((partC 32 x).2.getD []))]) (d_is (d_part (a := txt x) (b := txt [32]) (d_var rfl) (d_is d_str (congrArg PyData.str str_blank)) rfl (big x hl)) ?_) (g_tup (gs_cons g_name (gs_cons g_name (gs_cons g_name gs_nil))) rfl) ?_)
  · rw [part_txt]
    unfold partT
    cases (partC 32 x).2 <;> rfl
  obtain ⟨u, hu⟩ : ∃ u, (partC 32 x).1 = u := ⟨_, rfl⟩
  obtain ⟨s, hs⟩ : ∃ s, (partC 32 x).2.getD [] = s := ⟨_, rfl⟩
  rw [hu, hs]
  have key : setX x = if u = lamps ∧ s ≠ [] then some s else none := by
    have hp := head_part x
    obtain ⟨w, ws, e⟩ := splitC_ne 32 x
    have sh := split_head (word := lamps) (row := x) (by decide)
    have l6 : lamps.length + 1 = 6 := rfl
    rw [l6] at sh
    rw [e] at hp sh
    have hu' : u = w := by rw [← hu, hp]; rfl
    unfold setX
    rw [if_neg h0]
    by_cases hw : w = lamps
    · have ht : x.take 6 = lamps ++ [32] := (sh.mp (by rw [hw]; rfl)).resolve_left h0
      have ex : x = lamps ++ 32 :: x.drop 6 := by
        conv => lhs; rw [← List.take_append_drop 6 x, ht]
        rfl
      have es : s = x.drop 6 := by
        have hq : partC 32 x = (lamps, some (x.drop 6)) := by
          conv => lhs; rw [ex]
          exact part_some (by decide)
        rw [← hs, hq]
        rfl
      rw [hu', es]
      by_cases hd : x.drop 6 = []
      · rw [if_neg fun z => z.2 hd, if_neg fun z => z.2 hd]
      · rw [if_pos ⟨ht, hd⟩, if_pos ⟨hw, hd⟩]
    · rw [if_neg fun z => ?_, if_neg fun z => hw (by rw [← hu']; exact z.1)]
      have := sh.mpr (.inr z.1)
      exact hw (Option.some.inj this)
  refine s_seq (s_if (b := !decide (u = lamps) || decide (s = [])) (t_or (t_is (t_test (d_op (d_var rfl) (d_is d_str (congrArg PyData.str str_lamps)) r_neS)) ?_) fun _ => t_is (t_test (d_op (d_var rfl) (d_is d_str (congrArg PyData.str str_empty)) r_eqS)) (txt_eq _ _)) (fun h => ?_) fun h => s_next ?_)
  · rw [txt_eq]
  · refine s_raise (te := fun σ H Q => tJs _ Str.empty σ H fun out H1 => Q (.str out) H1) (n_join ?_) (E1 ?_)
    · have rb := repr_big ha hl
      refine ⟨_, d_fmtRS (d_var rfl) (line_big (by omega)), ?_, _, d_str, ?_, trivial⟩
      all_goals refine line_big ?_
      all_goals simp only [str_len_app]
      all_goals have c1 : Str.empty.length + (" is no row of lamps" : Str).length ≤ 200 := by decide +kernel
      all_goals omega
    · rw [key, if_neg fun z => ?_]
      rw [decide_eq_true z.1, decide_eq_false z.2] at h
      cases h
  · refine s_ret (d_var rfl) ?_
    show optR _ _ (setX x) = _
    rw [key, if_pos ?_]
    · rfl
    · rw [Bool.or_eq_false_iff, Bool.not_eq_false', decide_eq_true_iff, decide_eq_false_iff_not] at h
      exact h
/-! read_number -/
abbrev g_read_number : List D → Res → Prop := GX (fun w : List Nat => [.str (txt w)]) (fun w => w.length ≤ 1000 ∧ Asc w) fun w => optR (ec 3) PyData.int (numW w)
theorem ok_read_number (T : Txt K mg a fd c ec) (TB : ∀ i, i < 1 → GxR.TabB base mg (c i) (p i)) (hT : ∀ i, i < 1 → p i ∈ Tb) : FnOk P w K mg base (L2.CX P w) 2 (a 6) (fd 6) ["word"] (PrX K Tb (g_read_number (ec := ec))) := by
  refine fn_gfXC T.C_read_number sc_read_number (fun _ => rfl) (fun A outer s H E hr => ⟨_, (pss_cons (ps_set (i := 1) sc_read_number.nd rfl (.inl rfl) (pe_m1 PySem.F.slot_str_removeprefix PySem.F.type_str_removeprefix mt_removeprefix (pv 0) pe_str))
      (pss_cons (ps_if (pt_not (pt_chain op_le op_le pe_int (pe_callB call_len_str (by rfl) T.m_len (by decide +kernel) (pa_cons (pv 1) pa_nil)) (pe_glob (v := .int 60) rfl (Classical.choose_spec T.k_MOST_FIGURES) ⟨_, rfl⟩)))
        (pss_one (ps_raise rfl (takes_of rfl rfl rfl rfl) (SkE.pmk_own1 PySem.F.excBase_ValueError T.xc_BadText T.gc_BadText T.kc_BadText (raises_own T.bc_BadText T.tc_BadText) (by rfl) (pe_joined (.cons pe_str (.cons (pe_fmt (pe_glob (v := .int 60) rfl (Classical.choose_spec T.k_MOST_FIGURES) ⟨_, rfl⟩)) (.cons pe_str (.cons (pe_fmt (pe_callB call_len_str (by rfl) T.m_len (by decide +kernel) (pa_cons (pv 1) pa_nil))) .nil))))))))
        pss_nil)
      (pss_cons (ps_if (PW.pt (pw_or (pt_cmpR op_eq (pe_ix ix_str (pv 1) pe_int (fun _ _ => rfl)) pe_str (nomark _)) (pw_or1 (pt_not (pt_val (AG.pe_allS (j := 2) (k := 0) (hr.mono (by decide)) sc_read_number.nd rfl (by rfl) T.m_all (TB 0 (by decide)) rfl ⟨(blkOk_by (N := ["word", "figures", "sign"]) (sc := defScope s_read_number) (by decide +kernel)), rfl, by decide +kernel, by decide +kernel, by decide +kernel⟩ (pv 1) (fun _ _ _ _ _ _ _ _ hg => (pe_cmpR op_in_sign (pv 2) (pe_glob (v := .str "0123456789") rfl (Classical.choose_spec T.k_FIGURES) ⟨_, rfl⟩) (by rfl)))))))))
        (pss_one (ps_raise rfl (takes_of rfl rfl rfl rfl) (SkE.pmk_own1 PySem.F.excBase_ValueError T.xc_BadText T.gc_BadText T.kc_BadText (raises_own T.bc_BadText T.tc_BadText) (by rfl) (pe_joined (.cons (pe_fmtR (pv 0)) (.cons pe_str .nil))))))
        pss_nil)
      (pss_one (ps_ret (pe_callTy call_int_str (by rfl) T.m_int (by decide +kernel) (pa_cons (pv 0) pa_nil))))))), fun F0 x hp hE => ?_⟩)
  obtain ⟨hl, ha⟩ : x.length ≤ 1000 ∧ Asc x := hp
  have big : ∀ l : List Nat, l.length ≤ 1000 → (txt l).length ≤ sizeLine := fun l h => by rw [txt_len]; exact line_big (by omega)
  have fl : (figs x).length ≤ 1000 := by
    unfold figs
    split
    · rw [List.length_drop]; omega
    · exact hl
  obtain ⟨f, hf⟩ : ∃ f, figs x = f := ⟨_, rfl⟩
  rw [hf] at fl
  have E1 : goodF f = false → ∀ F' H', Wk Tb F' H' → Nx Tb F0 H F' H' → E (.ref (ec 3)) none H' := fun h => hE _ (by show optR _ _ (numW x) = _; unfold numW; rw [hf, if_neg (by rw [h]; decide)]; rfl)
  refine s_env (env' := [.dat (.str (txt x)), .no, .no]) rfl ?_
  refine s_seq (s_asg (d := .str (txt f)) (d_is (d_unfix (d_var rfl) (d_is d_str (congrArg PyData.str str_minus)) (big x hl)) (by rw [prefix_txt, hf])) ?_)
  have lenF : ∀ env : List Sl, env[1]? = some (.dat (.str (txt f))) → EvD K Tb (tCB (fun xs H Q => ∃ z, xs = [V.str z] ∧ z.length ≤ sizeLine ∧ Q (.int z.length) H) (tCons (tVar 1) tNil)) env (.int (f.length : Nat)) := fun env h => d_is (d_cb (a_cons (d_var h) a_nil) (r_lenS (z := txt f) (big f fl))) (by rw [txt_len])
  refine s_seq (s_if (b := !(decide (1 ≤ f.length) && decide (f.length ≤ 60))) (t_is (t_not (t_test (d_chain d_int (lenF _ rfl) r_bool (fun _ => d_int) fun _ => r_bool))) ?_) (fun h => ?_) fun h => s_next ?_)
  · congr 2
    · exact decide_eq_decide.mpr (by omega)
    · exact decide_eq_decide.mpr (by omega)
  · refine s_raise (te := fun σ H Q => tJs _ Str.empty σ H fun out H1 => Q (.str out) H1) (n_join ?_) (E1 ?_)
    · have n1 := num_text (nat_log (n := f.length) (by omega))
      refine ⟨_, d_str, ?_, _, d_fmtI d_int (by decide), ?_, _, d_str, ?_, _, d_fmtI (lenF _ rfl) (Nat.lt_trans (nat_log (by omega)) (by decide)), ?_, trivial⟩
      all_goals refine line_big ?_
      all_goals simp only [str_len_app]
      all_goals have c1 : Str.empty.length + ("a number has one to " : Str).length + (Str.ofString (toString (60 : Int))).length + (" figures, not " : Str).length ≤ 200 := by decide +kernel
      all_goals omega
    · unfold goodF
      have h : (decide (1 ≤ f.length) && decide (f.length ≤ 60)) = false := by rw [Bool.not_eq_true'] at h; exact h
      rw [h]
      rfl
  · have h : (decide (1 ≤ f.length) && decide (f.length ≤ 60)) = true := by simpa using h
    obtain ⟨h1, h2⟩ : 1 ≤ f.length ∧ f.length ≤ 60 := by
      rw [Bool.and_eq_true, decide_eq_true_iff, decide_eq_true_iff] at h
      exact h
    obtain ⟨c0, hc0⟩ : ∃ c0, f[0]? = some c0 := ⟨_, List.getElem?_eq_getElem (by omega)⟩
    have gf : goodF f = !(decide (c0 = 48) || !f.all fig) := by
      unfold goodF
      rw [h, hc0, Bool.true_and, Bool.not_or, Bool.not_not]
      congr 1
      simp
    refine s_seq (s_if (b := decide (c0 = 48) || !f.all fig) (t_or (t_is (t_test (d_op (d_op (d_var rfl) d_int (r_ixS (c := c0) (big f fl) (atI_k (k := 0) (by rw [txt_list]; exact hc0)))) (d_is d_str (congrArg PyData.str str_nought)) r_eqS)) ?_) fun _ => t_not (t_B (d_is (d_allS fig (hT 0 (by decide)) (d_var rfl) fun k c hk => d_is (d_op (d_var rfl) (d_is d_str (congrArg PyData.str str_figures)) r_inSign) (congrArg PyData.bool (fig_mem c))) (by rw [txt_list])))) (fun h3 => ?_) fun h3 => s_next ?_)
    · rw [txt_one, txt_eq]
      simp
    · refine s_raise (te := fun σ H Q => tJs _ Str.empty σ H fun out H1 => Q (.str out) H1) (n_join ?_) (E1 (by rw [gf, h3]; rfl))
      have rb := repr_big ha hl
      refine ⟨_, d_fmtRS (d_var rfl) (line_big (by omega)), ?_, _, d_str, ?_, trivial⟩
      all_goals refine line_big ?_
      all_goals simp only [str_len_app]
      all_goals have c1 : Str.empty.length + (" is no number as it is written" : Str).length ≤ 200 := by decide +kernel
      all_goals omega
    · have hg : goodF f = true := by rw [gf, h3]; rfl
      have hn : ∃ n, numW x = some n := by
        unfold numW
        rw [hf, if_pos hg]
        exact ⟨_, rfl⟩
      obtain ⟨n, hn⟩ := hn
      obtain ⟨i1, i2⟩ := int_txt hn
      refine s_ret (d_cb (a_cons (d_var rfl) a_nil) (r_intS i1 i2)) ?_
      show optR _ _ (numW x) = _
      rw [hn]
      rfl
/-! read_wish -/
abbrev g_read_wish : List D → Res → Prop := GX (fun w : List Nat => [.str (txt w)]) (fun w => w.length ≤ 1000 ∧ Asc w) fun w => optR (ec 3) dInts (wishX w)
theorem ok_read_wish (T : Txt K mg a fd c ec) (TB : ∀ i, i < 1 → GxR.TabB base mg (c i) (p i)) (hT : ∀ i, i < 1 → p i ∈ Tb) : FnOk P w K mg base (L2.CX P w) 3 (a 5) (fd 5) ["row"] (PrX K Tb (g_read_wish (ec := ec))) := by
  have G_read_number : FnOk P w K mg base (L2.CX P w) _ _ _ _ (PrX K Tb (g_read_number (ec := ec))) := ok_read_number T TB hT
  refine fn_gfX T.F_read_wish sc_read_wish (fun _ => rfl) (fun cdv A outer s H E hr => ⟨_, (pss_cons (ps_set (i := 1) sc_read_wish.nd rfl (.inl rfl) (pe_split (pv 0) pe_str))
      (pss_cons (ps_if (pt_cmpR op_ne (pe_ix ix_list (pv 1) pe_int (fun _ _ => rfl)) pe_str (nomark _))
        (pss_one (ps_raise rfl (takes_of rfl rfl rfl rfl) (SkE.pmk_own1 PySem.F.excBase_ValueError T.xc_BadText T.gc_BadText T.kc_BadText (raises_own T.bc_BadText T.tc_BadText) (by rfl) (pe_joined (.cons (pe_fmtR (pv 0)) (.cons pe_str .nil))))))
        pss_nil)
      (pss_one (ps_ret (LX.pe_lcX (own := [("word", 2)]) (g := gName 2) (tt := tYes) rfl rfl (takes_of rfl rfl rfl rfl) rfl sc_read_wish.nd (pi_list (pe_slice sl_list (pv 1) (po_some pe_int) po_none)) (blkOk_by (N := ["row", "words", "word"]) (sc := defScope s_read_wish) (by decide +kernel)) (fun _ _ _ _ _ => pg_name (i := 2) sc_read_wish.nd rfl (.inl rfl)) (fun _ _ _ _ _ => pts_nil) (fun _ _ _ _ _ _ hx => pe_callS G_read_number hr (by rfl) T.g_read_number T.F_read_number.kp T.b_read_number hx (pa_cons (pv 2) pa_nil))))))), fun F0 x hp hE => ?_⟩)
  obtain ⟨hl, ha⟩ : x.length ≤ 1000 ∧ Asc x := hp
  have big : ∀ l : List Nat, l.length ≤ 1000 → (txt l).length ≤ sizeLine := fun l h => by rw [txt_len]; exact line_big (by omega)
  have E1 : wishX x = none → ∀ F' H', Wk Tb F' H' → Nx Tb F0 H F' H' → E (.ref (ec 3)) none H' := fun h => hE _ (by show optR _ _ (wishX x) = _; rw [h]; rfl)
  refine s_env (env' := [.dat (.str (txt x)), .no, .no]) rfl ?_
  obtain ⟨v, vs, e⟩ := splitC_ne 32 x
  have sl := split_len2 32 x
  rw [e, List.length_cons] at sl
  refine s_seq (s_asg (d := .list ((v :: vs).map fun w => .str (txt w))) (d_is (d_split (a := txt x) (b := txt [32]) (d_var rfl) (d_is d_str (congrArg PyData.str str_blank)) rfl (by rw [txt_len]; exact line_big (by omega))) ?_) ?_)
  · rw [split_txt, e, List.map_map]
    rfl
  refine s_seq (s_if (b := !decide (v = wish)) (t_is (t_test (d_op (d_op (d_var rfl) d_int (r_ixL (d := .str (txt v)) (atI_k (k := 0) rfl))) (d_is d_str (congrArg PyData.str str_wish)) r_neS)) (by rw [txt_eq])) (fun h => ?_) fun h => s_next ?_)
  · refine s_raise (te := fun σ H Q => tJs _ Str.empty σ H fun out H1 => Q (.str out) H1) (n_join ?_) (E1 ?_)
    · have rb := repr_big ha hl
      refine ⟨_, d_fmtRS (d_var rfl) (line_big (by omega)), ?_, _, d_str, ?_, trivial⟩
      all_goals refine line_big ?_
      all_goals simp only [str_len_app]
      all_goals have c1 : Str.empty.length + (" is no row of a wish" : Str).length ≤ 200 := by decide +kernel
      all_goals omega
    · unfold wishX
      rw [e, if_neg fun z => ?_]
      have z : v = wish := Option.some.inj z
      rw [decide_eq_true z] at h
      cases h
  · have hv : v = wish := by simpa using h
    have hX : wishX x = allO (vs.map numW) := by
      unfold wishX
      rw [e, if_pos (by rw [hv]; rfl)]
      rfl
    have words : EvE K Tb F0 H E (tLc (iList K (tSl (rSlL K) (tVar 1) (tPart (tC (.int 1))) tNoPart)) (gName 2) tYes (tCallS (PrX K Tb (g_read_number (ec := ec))) (WE (fun cls d _ H => E cls d H)) (tCons (tVar 2) tNil)) [2]) [.dat (.str (txt x)), .dat (.list ((v :: vs).map fun w => .str (txt w))), .no] (seqR ((vs.map fun w => PyData.str (txt w)).map fun d => optR (ec 3) PyData.int (numW (strL d)))) := by
      refine e_lc (ds := vs.map fun w => .str (txt w)) (fun d => optR (ec 3) PyData.int (numW (strL d))) (d_is (d_slL (d_var rfl) (o_some d_int) o_none) (congrArg PyData.list (sl_from ((v :: vs).map fun w => PyData.str (txt w)) 1))) ?_ fun k d hk => ?_
      · rw [List.length_map]
        exact line_lt (by omega)
      · obtain ⟨w, hw, rfl⟩ := map_at hk
        have hm := split_mem (c := 32) (l := x) (p := w) (by rw [e]; exact List.mem_cons_of_mem _ (List.mem_of_getElem? hw))
        have es : strL (.str (txt w)) = w := txt_list w
        rw [es]
        exact e_call (a_cons (d_var rfl) a_nil) ⟨w, rfl, ⟨by omega, asc_sub ha hm.1⟩, rfl⟩
    have er : seqR ((vs.map fun w => PyData.str (txt w)).map fun d => optR (ec 3) PyData.int (numW (strL d))) = optR (ec 3) dInts (wishX x) := by
      rw [hX, ← seq_allO, List.map_map]
      exact congrArg seqR (List.map_congr_left fun w _ => by
        show optR _ _ (numW (strL (.str (txt w)))) = _
        rw [show strL (.str (txt w)) = w from txt_list w])
    rw [er] at words
    exact s_retX words (fun d hd => hd) fun c hc => hE c hc
/-! read -/
abbrev g_read : List D → Res → Prop := GX (fun w : List Nat => [.str (txt w)]) (fun w => w.length ≤ 999 ∧ Asc w) fun w => readR (ec 3) (ec 1) (gameX w)
theorem ok_read (T : Txt K mg a fd c ec) (TB : ∀ i, i < 1 → GxR.TabB base mg (c i) (p i)) (hT : ∀ i, i < 1 → p i ∈ Tb) : FnOk P w K mg base (L2.CX P w) 4 (a 3) (fd 3) ["text"] (PrX K Tb (g_read (ec := ec))) := by
  have G_check : FnOk P w K mg base (L2.CX P w) _ _ _ _ (PrX K Tb (g_check (ec := ec))) := ok_check T TB hT
  have G_read_setters : FnOk P w K mg base (L2.CX P w) _ _ _ _ (PrX K Tb (g_read_setters (ec := ec))) := ok_read_setters T TB hT
  have G_read_wish : FnOk P w K mg base (L2.CX P w) _ _ _ _ (PrX K Tb (g_read_wish (ec := ec))) := ok_read_wish T TB hT
  refine fn_gfX T.F_read sc_read (fun _ => rfl) (fun cdv A outer s H E hr => ⟨_, (pss_cons (ps_set (i := 1) sc_read.nd rfl (.inl rfl) (pe_split (pv 0) pe_str))
      (pss_cons (ps_set (i := 2) sc_read.nd rfl (.inl rfl) (pe_callS G_read_setters (hr.mono (by decide)) (by rfl) T.g_read_setters T.F_read_setters.kp T.b_read_setters (fun σ => passAt (takes_of rfl rfl rfl rfl) σ) (pa_cons (pe_ix ix_list (pv 1) pe_int (fun _ _ => rfl)) pa_nil)))
      (pss_cons (LX.ps_setLcX (i := 3) (own := [("row", 4)]) (g := gName 4) (tt := tYes) rfl rfl (takes_of rfl rfl rfl rfl) rfl sc_read.nd rfl rfl (sw_true rfl rfl rfl (by decide +kernel)) (pi_list (pe_slice sl_list (pv 1) (po_some pe_int) po_none)) (blkOk_by (N := ["text", "rows", "setters", "wishes", "row"]) (sc := defScope s_read) (by decide +kernel)) (fun _ _ _ _ _ => pg_name (i := 4) sc_read.nd rfl (.inl rfl)) (fun _ _ _ _ _ => pts_nil) (fun _ _ _ _ _ _ hx => pe_callS G_read_wish hr (by rfl) T.g_read_wish T.F_read_wish.kp T.b_read_wish hx (pa_cons (pv 4) pa_nil)))
      (pss_cons (ps_expr (pe_callS G_check (hr.mono (by decide)) (by rfl) T.g_check T.F_check.kp T.b_check (fun σ => passAt (takes_of rfl rfl rfl rfl) σ) (pa_cons (pv 2) (pa_cons (pv 3) pa_nil))))
      (pss_one (ps_ret (pe_tup (pa_cons (pv 2) (pa_cons (pv 3) pa_nil))))))))), fun F0 x hp hE => ?_⟩)
  obtain ⟨hl, ha⟩ : x.length ≤ 999 ∧ Asc x := hp
  refine s_env (env' := [.dat (.str (txt x)), .no, .no, .no, .no]) rfl ?_
  obtain ⟨v, vs, e⟩ := splitC_ne 10 x
  have sl := split_len2 10 x
  rw [e, List.length_cons] at sl
  have mem : ∀ w, w ∈ v :: vs → w.length ≤ 1000 ∧ Asc w := fun w hw => by
    have hm := split_mem (c := 10) (l := x) (p := w) (by rw [e]; exact hw)
    exact ⟨by omega, asc_sub ha hm.1⟩
  have gX : gameX x = match setX v with
      | none => none
      | some s => (allO (vs.map wishX)).map fun ws => (s, ws) := by
    unfold gameX
    rw [e]
    rfl
  refine s_seq (s_asg (d := .list ((v :: vs).map fun w => .str (txt w))) (d_is (d_split (a := txt x) (b := txt [10]) (d_var rfl) (d_is d_str (congrArg PyData.str str_line)) rfl (by rw [txt_len]; exact line_big (by omega))) ?_) ?_)
  · rw [split_txt, e, List.map_map]
    rfl
  refine s_seq (s_asgE (r := optR (ec 3) (fun s => PyData.str (txt s)) (setX v)) (e_call (a_cons (d_op (d_var rfl) d_int (r_ixL (d := .str (txt v)) (atI_k (k := 0) rfl))) a_nil) ⟨v, rfl, mem v List.mem_cons_self, rfl⟩) (fun d hd => ?_) fun c hc => ?_)
  rotate_left
  · cases hs : setX v with
    | some s => rw [hs] at hc; cases hc
    | none =>
      rw [hs] at hc
      cases hc
      exact hE _ (by show readR _ _ (gameX x) = _; rw [gX, hs]; rfl)
  cases hs : setX v with
  | none => rw [hs] at hd; cases hd
  | some s =>
    rw [hs] at hd
    cases hd
    rw [hs] at gX
    have rows : EvE K Tb F0 H E (tLc (iList K (tSl (rSlL K) (tVar 1) (tPart (tC (.int 1))) tNoPart)) (gName 4) tYes (tCallS (PrX K Tb (g_read_wish (ec := ec))) (WE (fun cls d _ H => E cls d H)) (tCons (tVar 4) tNil)) [4]) [.dat (.str (txt x)), .dat (.list ((v :: vs).map fun w => .str (txt w))), .dat (.str (txt s)), .no, .no] (seqR ((vs.map fun w => PyData.str (txt w)).map fun d => optR (ec 3) dInts (wishX (strL d)))) := by
      refine e_lc (ds := vs.map fun w => .str (txt w)) (fun d => optR (ec 3) dInts (wishX (strL d))) (d_is (d_slL (d_var rfl) (o_some d_int) o_none) (congrArg PyData.list (sl_from ((v :: vs).map fun w => PyData.str (txt w)) 1))) ?_ fun k d hk => ?_
      · rw [List.length_map]
        exact line_lt (by omega)
      · obtain ⟨w, hw, rfl⟩ := map_at hk
        have es : strL (.str (txt w)) = w := txt_list w
        rw [es]
        exact e_call (a_cons (d_var rfl) a_nil) ⟨w, rfl, mem w (List.mem_cons_of_mem _ (List.mem_of_getElem? hw)), rfl⟩
    have er : seqR ((vs.map fun w => PyData.str (txt w)).map fun d => optR (ec 3) dInts (wishX (strL d))) = optR (ec 3) wishesD (allO (vs.map wishX)) := by
      rw [show (wishesD : List (List Int) → D) = fun bs => .list (bs.map dInts) from rfl, ← seq_allO, List.map_map]
      exact congrArg seqR (List.map_congr_left fun w _ => by
        show optR _ _ (wishX (strL (.str (txt w)))) = _
        rw [show strL (.str (txt w)) = w from txt_list w])
    rw [er] at rows
    refine s_seq (s_asgE rows (fun d hd => ?_) fun c hc => ?_)
    rotate_left
    · cases hws : allO (vs.map wishX) with
      | some ws => rw [hws] at hc; cases hc
      | none =>
        rw [hws] at hc
        cases hc
        exact hE _ (by show readR _ _ (gameX x) = _; rw [gX, hws]; rfl)
    cases hws : allO (vs.map wishX) with
    | none => rw [hws] at hd; cases hd
    | some ws =>
      rw [hws] at hd
      cases hd
      have gX : gameX x = some (s, ws) := by rw [gX, hws]; rfl
      have hR : ∀ r, r = (if okG s ws then Res.ok (.tuple [.str (txt s), wishesD ws]) else .bad (ec 1)) → readR (ec 3) (ec 1) (gameX x) = r := fun r h => by rw [gX, h]; rfl
      obtain ⟨m1, m2⟩ := mem v List.mem_cons_self
      obtain ⟨s1, s2⟩ := set_ok hs
      have wl := allO_len hws
      rw [List.length_map] at wl
      have hh : HandedT s ws := ⟨by omega, fun c hc => short_ascii c (m2 c (s1 c hc)), by omega, fun w hw => by
        have hm : some w ∈ vs.map wishX := by
          rw [allO_some hws]
          exact List.mem_map_of_mem hw
        obtain ⟨row, hr, hx⟩ := List.mem_map.mp hm
        obtain ⟨q1, q2⟩ := wish_ok hx
        have := (mem row (List.mem_cons_of_mem _ hr)).1
        exact ⟨by omega, fun n hn => (q2 n hn).2⟩⟩
      refine s_seq (s_dropX (a_cons (d_var rfl) (a_cons (d_var rfl) a_nil)) ⟨(s, ws), rfl, hh, rfl⟩ (fun d hd => ?_) fun c hc => ?_)
      rotate_left
      · have hc : (if okG s ws then Res.ok .none else .bad (ec 1)) = Res.bad c := hc
        split at hc
        · cases hc
        · rename_i hs
          cases hc
          exact hE _ (hR _ (by rw [if_neg hs]))
      have hd : (if okG s ws then Res.ok .none else .bad (ec 1)) = Res.ok d := hd
      have ok : okG s ws = true := by
        cases q : okG s ws with
        | true => rfl
        | false => rw [q] at hd; cases hd
      exact s_ret (d_tup (a_cons (d_var rfl) (a_cons (d_var rfl) a_nil)) (line_big (by show 2 ≤ 100000; decide))) (hR _ (by rw [if_pos ok]))
/-! _law_cell_at -/
abbrev g_L_cell_at : List D → D → Prop := GF (fun x : List Int × Nat => [dInts x.1, .int (x.2 : Int)]) (fun _ => True) fun x => .int (cellAt x.1 x.2)
theorem ok_L_cell_at (T : Txt K mg a fd c ec) (TB : ∀ i, i < 1 → GxR.TabB base mg (c i) (p i)) (hT : ∀ i, i < 1 → p i ∈ Tb) : FnOk P w K mg base CX0 1 (a 7) (fd 7) ["_law_script", "_law_k"] (PrD K Tb g_L_cell_at) := by
  refine fn_gf T.F_L_cell_at sc_L_cell_at (fun _ => rfl) (fun cdv A outer s H E hr => ⟨_, (pss_cons (ps_if (pt_cmpR op_lt (pv 1) (pe_callB call_len_seq (by rfl) T.m_len (by decide +kernel) (pa_cons (pv 0) pa_nil)) (nomark _))
        (pss_one (ps_ret (pe_ix ix_list (pv 0) (pv 1) (fun _ _ => rfl))))
        pss_nil)
      (pss_one (ps_ret pe_int))), fun F0 H0 x hp => ?_⟩)
  obtain ⟨ns, k⟩ := x
  refine s_env (env' := [.dat (dInts ns), .dat (.int (k : Int))]) rfl ?_
  refine s_seq (s_if (b := decide (k < ns.length)) (t_is (t_test (d_op (d_var rfl) (d_cb (a_cons (d_var rfl) a_nil) r_lenL) r_bool)) ?_) (fun h => ?_) fun h => s_next ?_)
  · rw [List.length_map]
    simp
  · have h : k < ns.length := of_decide_eq_true h
    refine s_ret (d_op (d_var rfl) (d_var rfl) (r_ixL (ints_get (List.getElem?_eq_getElem h)))) ?_
    show PyData.int _ = PyData.int _
    rw [cellAt, List.getD_eq_getElem?_getD, List.getElem?_eq_getElem h]
    rfl
  · have h : ¬ k < ns.length := of_decide_eq_false h
    refine s_ret d_int ?_
    show PyData.int _ = PyData.int _
    rw [cellAt, List.getD_eq_getElem?_getD, List.getElem?_eq_none (show ns.length ≤ k by omega)]
    rfl
/-! _law_first -/
abbrev g_L_first : List D → D → Prop := GF (fun c : Int => [.int c]) (fun _ => True) fun c => .str (txt (firstX c))
theorem ok_L_first (T : Txt K mg a fd c ec) (TB : ∀ i, i < 1 → GxR.TabB base mg (c i) (p i)) (hT : ∀ i, i < 1 → p i ∈ Tb) : FnOk P w K mg base CX0 1 (a 8) (fd 8) ["_law_cell"] (PrD K Tb g_L_first) := by
  refine fn_gf T.F_L_first sc_L_first (fun _ => rfl) (fun cdv A outer s H E hr => ⟨_, (pss_cons (ps_set (i := 1) sc_L_first.nd rfl (.inl rfl) (pe_lst (pa_cons pe_str (pa_cons pe_str (pa_cons pe_str (pa_cons pe_str (pa_cons pe_str (pa_cons pe_str (pa_cons pe_str (pa_cons pe_str pa_nil))))))))))
      (pss_cons (ps_set (i := 1) sc_L_first.nd rfl (.inl rfl) (pe_op op_catS (pv 1) (pe_lst (pa_cons pe_str (pa_cons pe_str (pa_cons pe_str (pa_cons pe_str (pa_cons pe_str pa_nil))))))))
      (pss_one (ps_ret (pe_ix ix_list (pv 1) (pe_op op_mod (pv 0) pe_int) (fun _ _ => rfl)))))), fun F0 H0 x hp => ?_⟩)
  refine s_env (env' := [.dat (.int x), .no]) rfl ?_
  obtain ⟨k, hk, k13⟩ := rest_nat x 13 (by decide)
  refine s_seq (s_asg (d := .list (firstA.map PyData.str)) (d_lst (xs := firstA.map PyData.str) (a_cons d_str (a_cons d_str (a_cons d_str (a_cons d_str (a_cons d_str (a_cons d_str (a_cons d_str (a_cons d_str a_nil)))))))) (line_big (by show 8 ≤ 100000; decide))) ?_)
  refine s_seq (s_asg (d := .list ((firstA ++ firstB).map PyData.str)) (d_is (d_catS (d_var rfl) (d_lst (xs := firstB.map PyData.str) (a_cons d_str (a_cons d_str (a_cons d_str (a_cons d_str (a_cons d_str a_nil))))) (line_big (by show 5 ≤ 100000; decide))) (line_big (by show 13 ≤ 100000; decide))) (by rw [List.map_append])) ?_)
  refine s_ret (d_op (d_var rfl) (d_is (d_op (d_var rfl) d_int (r_intC (by show (0 : Int) < 13; decide))) (congrArg PyData.int hk)) (r_ixL (d := .str (txt (firstX x))) (atI_k ?_))) rfl
  have hk : x % 13 = (k : Int) := hk
  rw [List.getElem?_map]
  unfold firstX
  rw [hk, Int.toNat_natCast, List.getElem?_eq_getElem (show k < (firstA ++ firstB).length from k13)]
  exact congrArg (fun s => some (PyData.str s)) (txt_self _).symm
/-! _law_next -/
abbrev g_L_next : List D → D → Prop := GF (fun c : Int => [.int c]) (fun _ => True) fun c => .str (txt (nextX c))
theorem ok_L_next (T : Txt K mg a fd c ec) (TB : ∀ i, i < 1 → GxR.TabB base mg (c i) (p i)) (hT : ∀ i, i < 1 → p i ∈ Tb) : FnOk P w K mg base CX0 1 (a 9) (fd 9) ["_law_cell"] (PrD K Tb g_L_next) := by
  refine fn_gf T.F_L_next sc_L_next (fun _ => rfl) (fun cdv A outer s H E hr => ⟨_, (pss_cons (ps_set (i := 1) sc_L_next.nd rfl (.inl rfl) (pe_lst (pa_cons pe_str (pa_cons pe_str (pa_cons pe_str (pa_cons pe_str (pa_cons pe_str (pa_cons pe_str (pa_cons pe_str (pa_cons pe_str (pa_cons pe_str pa_nil)))))))))))
      (pss_cons (ps_set (i := 1) sc_L_next.nd rfl (.inl rfl) (pe_op op_catS (pv 1) (pe_lst (pa_cons pe_str (pa_cons pe_str (pa_cons pe_str (pa_cons pe_str (pa_cons pe_str (pa_cons pe_str (pa_cons pe_str (pa_cons pe_str (pa_cons pe_str pa_nil))))))))))))
      (pss_cons (ps_set (i := 1) sc_L_next.nd rfl (.inl rfl) (pe_op op_catS (pv 1) (pe_lst (pa_cons pe_str (pa_cons pe_str (pa_cons pe_str (pa_cons pe_str (pa_cons pe_str (pa_cons pe_str pa_nil)))))))))
      (pss_cons (ps_if (pt_cmpR op_lt (pe_op op_mod (pv 0) pe_int) pe_int (nomark _))
        (pss_one (ps_ret (pe_ix ix_list (pv 1) (pe_op op_mod (pv 0) pe_int) (fun _ _ => rfl))))
        pss_nil)
      (pss_cons (ps_set (i := 2) sc_L_next.nd rfl (.inl rfl) (pe_ix ix_list (pe_lst (pa_cons pe_str (pa_cons pe_str pa_nil))) (pe_op op_mod (pe_op op_fdiv (pv 0) pe_int) pe_int) (fun _ _ => rfl)))
      (pss_one (ps_ret (pe_op op_add_str (pe_op op_add_str (pe_op op_add_str pe_str (pv 2)) pe_str) (pe_op op_mulS pe_str (pe_ix ix_list (pe_lst (pa_cons pe_int (pa_cons pe_int (pa_cons pe_int pa_nil)))) (pe_op op_sub (pe_op op_mod (pv 0) pe_int) pe_int) (fun _ _ => rfl))))))))))), fun F0 H0 x hp => ?_⟩)
  refine s_env (env' := [.dat (.int x), .no, .no]) rfl ?_
  obtain ⟨k, hk, k27⟩ := rest_nat x 27 (by decide)
  obtain ⟨g, hg, g2⟩ := rest_nat (x / 27) 2 (by decide)
  have hk : x % 27 = (k : Int) := hk
  have hg : x / 27 % 2 = (g : Int) := hg
  have m27 : ∀ env : List Sl, env[0]? = some (.dat (.int x)) → EvD K Tb (tOp (rI (fun _ j => 0 < j) fun i j => .int (i % j)) (tVar 0) (tC (.int 27))) env (.int (k : Int)) := fun env h => d_is (d_op (d_var h) d_int (r_intC (by show (0 : Int) < 27; decide))) (congrArg PyData.int hk)
  refine s_seq (s_asg (d := .list (nextA.map PyData.str)) (d_lst (xs := nextA.map PyData.str) (a_cons d_str (a_cons d_str (a_cons d_str (a_cons d_str (a_cons d_str (a_cons d_str (a_cons d_str (a_cons d_str (a_cons d_str a_nil))))))))) (line_big (by show 9 ≤ 100000; decide))) ?_)
  refine s_seq (s_asg (d := .list ((nextA ++ nextB).map PyData.str)) (d_is (d_catS (d_var rfl) (d_lst (xs := nextB.map PyData.str) (a_cons d_str (a_cons d_str (a_cons d_str (a_cons d_str (a_cons d_str (a_cons d_str (a_cons d_str (a_cons d_str (a_cons d_str a_nil))))))))) (line_big (by show 9 ≤ 100000; decide))) (line_big (by show 18 ≤ 100000; decide))) (by rw [List.map_append])) ?_)
  refine s_seq (s_asg (d := .list ((nextA ++ nextB ++ nextC).map PyData.str)) (d_is (d_catS (d_var rfl) (d_lst (xs := nextC.map PyData.str) (a_cons d_str (a_cons d_str (a_cons d_str (a_cons d_str (a_cons d_str (a_cons d_str a_nil)))))) (line_big (by show 6 ≤ 100000; decide))) (line_big (by show 24 ≤ 100000; decide))) (by rw [List.map_append (l₁ := nextA ++ nextB)])) ?_)
  refine s_seq (s_if (t_test (d_op (m27 _ rfl) d_int r_bool)) (fun h => ?_) fun h => s_next ?_)
  · have h : (k : Int) < 24 := of_decide_eq_true h
    refine s_ret (d_op (d_var rfl) (m27 _ rfl) (r_ixL (d := .str (txt (nextX x))) (atI_k ?_))) rfl
    rw [List.getElem?_map]
    unfold nextX
    rw [hk, if_pos h, Int.toNat_natCast, List.getElem?_eq_getElem (show k < (nextA ++ nextB ++ nextC).length from (by omega : k < 24))]
    exact congrArg (fun s => some (PyData.str s)) (txt_self _).symm
  have h : ¬ (k : Int) < 24 := of_decide_eq_false h
  have sg : nextSign x = [] ∨ nextSign x = [45] := by
    unfold nextSign
    rw [hg, Int.toNat_natCast]
    match g, g2 with
    | 0, _ => exact .inl (by decide +kernel)
    | 1, _ => exact .inr (by decide +kernel)
  have sl : (nextSign x).length ≤ 1 := by rcases sg with e | e <;> rw [e] <;> decide
  have addT : ∀ (env : List Sl) (te tb : TE) (a b : List Nat), EvD K Tb te env (.str (txt a)) → EvD K Tb tb env (.str (txt b)) → a.length + b.length ≤ 100000 → EvD K Tb (tOp (fun x y H Q => ∃ i j, x = V.str i ∧ y = V.str j ∧ i.length + j.length ≤ sizeLine ∧ Q (.str (i ++ j)) H) te tb) env (.str (txt (a ++ b))) := fun env te tb a b ha hb hl => d_is (d_op ha hb (r_addS (by rw [txt_len, txt_len]; exact line_big hl))) (by rw [txt_app])
  refine s_seq (s_asg (d := .str (txt (nextSign x))) (d_op (d_lst (xs := (["", "-"] : List Str).map PyData.str) (a_cons d_str (a_cons d_str a_nil)) (line_big (by show 2 ≤ 100000; decide))) (d_is (d_op (d_op (d_var rfl) d_int (r_intC ⟨by decide, by decide⟩)) d_int (r_intC (by show (0 : Int) < 2; decide))) (congrArg PyData.int hg)) (r_ixL (atI_k ?_))) ?_)
  · rw [List.getElem?_map]
    unfold nextSign
    rw [hg, Int.toNat_natCast, List.getElem?_eq_getElem (show g < (["", "-"] : List Str).length from g2)]
    exact congrArg (fun s => some (PyData.str s)) (txt_self _).symm
  have str_wishB : Str.ofString "wish " = txt (wish ++ [32]) := by decide +kernel
  have str_7 : Str.ofString "7" = txt [55] := by decide +kernel
  refine s_ret (d_is (addT _ _ _ (wish ++ [32] ++ nextSign x ++ [55]) (List.replicate (58 + (k - 24)) 48) (addT _ _ _ (wish ++ [32] ++ nextSign x) [55] (addT _ _ _ (wish ++ [32]) (nextSign x) (d_is d_str (congrArg PyData.str str_wishB)) (d_var rfl) ?_) (d_is d_str (congrArg PyData.str str_7)) ?_) (d_is (d_op (d_is d_str (congrArg PyData.str str_nought)) (d_op (d_lst (xs := [.int 58, .int 59, .int 60]) (a_cons d_int (a_cons d_int (a_cons d_int a_nil))) (line_big (by show 3 ≤ 100000; decide))) (d_is (d_op (m27 _ rfl) d_int r_int) (congrArg PyData.int (show _ = ((k - 24 : Nat) : Int) by omega))) (r_ixL (d := .int ((58 + (k - 24) : Nat) : Int)) (atI_k ?_))) (r_mulS ⟨by omega, by omega⟩ (by decide))) ?_) ?_) ?_) rfl
  · show 5 + _ ≤ 100000
    omega
  · rw [List.length_append]
    show 5 + _ + 1 ≤ 100000
    omega
  · obtain ⟨j, rfl⟩ : ∃ j, k = 24 + j := ⟨k - 24, by omega⟩
    rw [Nat.add_sub_cancel_left]
    match j, (show j < 3 by omega) with
    | 0, _ => rfl
    | 1, _ => rfl
    | 2, _ => rfl
  · rw [Int.toNat_natCast, List.flatten_replicate_singleton]
  · rw [List.length_append, List.length_append, List.length_replicate]
    show 5 + _ + 1 + _ ≤ 100000
    omega
  · unfold nextX
    rw [hk, if_neg h, Int.toNat_natCast]
/-! _law_sign_by -/
abbrev g_L_sign_by : List D → D → Prop := GF (fun c : Int => [.int c]) (fun _ => True) fun c => .str (txt (signX c))
theorem ok_L_sign_by (T : Txt K mg a fd c ec) (TB : ∀ i, i < 1 → GxR.TabB base mg (c i) (p i)) (hT : ∀ i, i < 1 → p i ∈ Tb) : FnOk P w K mg base CX0 1 (a 10) (fd 10) ["_law_cell"] (PrD K Tb g_L_sign_by) := by
  refine fn_gf T.F_L_sign_by sc_L_sign_by (fun _ => rfl) (fun cdv A outer s H E hr => ⟨_, (pss_cons (ps_set (i := 1) sc_L_sign_by.nd rfl (.inl rfl) pe_str)
      (pss_cons (ps_set (i := 1) sc_L_sign_by.nd rfl (.inl rfl) (pe_op op_add_str (pv 1) pe_str))
      (pss_one (ps_ret (pe_ix ix_str (pv 1) (pe_op op_mod (pv 0) pe_int) (fun _ _ => rfl)))))), fun F0 H0 x hp => ?_⟩)
  refine s_env (env' := [.dat (.int x), .no]) rfl ?_
  obtain ⟨k, hk, k96⟩ := rest_nat x 96 (by decide)
  have hk : x % 96 = (k : Int) := hk
  have len : (signsA ++ signsB).cps.toList.length = 96 := by decide +kernel
  have len2 : (signsA ++ signsB).length = 96 := by decide +kernel
  have len3 : signsA.length + signsB.length = 96 := by decide +kernel
  refine s_seq (s_asg (d := .str signsA) d_str ?_)
  refine s_seq (s_asg (d := .str (signsA ++ signsB)) (d_op (d_var rfl) (d_str (s := signsB)) (r_addS (line_big (by rw [len3]; decide)))) ?_)
  refine s_ret (d_op (d_var rfl) (d_is (d_op (d_var rfl) d_int (r_intC (by show (0 : Int) < 96; decide))) (congrArg PyData.int hk)) (r_ixS (c := (signsA ++ signsB).cps.toList[k]?.getD 32) (line_big (by rw [len2]; decide)) (atI_k ?_))) ?_
  · rw [List.getElem?_eq_getElem (by rw [len]; exact k96)]
    rfl
  · show _ = PyData.str (txt (signX x))
    unfold signX
    rw [hk, Int.toNat_natCast]
    rfl
/-! _law_great -/

theorem ok_L_great (T : Txt K mg a fd c ec) (TB : ∀ i, i < 1 → GxR.TabB base mg (c i) (p i)) (hT : ∀ i, i < 1 → p i ∈ Tb) : FnOk P w K mg base CX0 1 (a 11) (fd 11) ["_law_cell"] (PrR K Tb (RP arg_L_great pre_L_great) (RQ arg_L_great pre_L_great post_L_great)) := by
  refine fn_gfR T.F_L_great sc_L_great (fun _ => rfl) inj_L_great (fun cdv A outer s H E hr => ⟨_, (pss_cons (ps_set (i := 1) sc_L_great.nd rfl (.inl rfl) (pe_op op_mod (pv 0) pe_int))
      (pss_cons (ps_set (i := 2) sc_L_great.nd rfl (.inl rfl) (pe_ix ix_list (pe_lst (pa_cons pe_int (pa_cons pe_int (pa_cons pe_int (pa_cons pe_int pa_nil))))) (pe_op op_mod (pe_op op_fdiv (pv 0) pe_int) pe_int) (fun _ _ => rfl)))
      (pss_cons (ps_if (pt_cmpR op_eq (pv 1) pe_int (nomark _))
        (pss_one (ps_ret (pe_op op_add_str (pe_op op_add_str (pe_op op_add_str pe_str (pe_op op_mulS pe_str (pe_op op_fdiv (pv 2) pe_int))) (pe_op op_mulS pe_str (pe_op op_mod (pv 2) pe_int))) pe_str)))
        pss_nil)
      (pss_cons (ps_if (pt_cmpR op_eq (pv 1) pe_int (nomark _))
        (pss_cons (ps_set (i := 3) sc_L_great.nd rfl (.inl rfl) (pe_lst (pa_cons pe_str pa_nil)))
      (pss_cons (ps_for PassesOwn.never rfl (pi_range1 (by rfl) T.m_range (pa_cons (pe_op op_add (pv 2) pe_int) pa_nil)) (pg_name (i := 4) sc_L_great.nd rfl (.inl rfl))
        (pss_one (ps_expr (pe_bm PySem.F.plainAttrs_list PySem.F.slot_list_append PySem.F.type_list_append mt_append (pv 3) (pa_cons (pe_slice sl_str pe_str po_none (po_some (pe_op op_add pe_int (pe_op op_mul pe_int (pe_op op_mod (pv 4) pe_int))))) pa_nil)))))
      (pss_one (ps_ret (pe_join pe_str (pv 3))))))
        pss_nil)
      (pss_one (ps_ret (pe_op op_add_str pe_str (pe_op op_mulS pe_str (pe_callB (call_min2 rfl) (by rfl) T.m_min (by decide +kernel) (pa_cons (pv 2) (pa_cons pe_int pa_nil))))))))))), fun F0 H0 x hp => ?_⟩)
  have addT : ∀ (env : List Sl) (te tb : TE) (a b : List Nat), EvD K Tb te env (.str (txt a)) → EvD K Tb tb env (.str (txt b)) → a.length + b.length ≤ 100000 → EvD K Tb (tOp (fun x y H Q => ∃ i j, x = V.str i ∧ y = V.str j ∧ i.length + j.length ≤ sizeLine ∧ Q (.str (i ++ j)) H) te tb) env (.str (txt (a ++ b))) := fun env te tb a b ha hb hl => d_is (d_op ha hb (r_addS (by rw [txt_len, txt_len]; exact line_big hl))) (by rw [txt_app])
  refine s_env (env' := [.dat (.int x), .no, .no, .no, .no]) rfl ?_
  obtain ⟨w, hw, w3⟩ := rest_nat x 3 (by decide)
  obtain ⟨k, hk, k4⟩ := rest_nat (x / 3) 4 (by decide)
  refine s_seq (s_asg (d := .int (w : Nat)) (d_is (d_op (d_var rfl) d_int (r_intC (by show (0 : Int) < 3; decide))) (congrArg PyData.int hw)) ?_)
  refine s_seq (s_asg (d := .int ((9 + k : Nat) : Int)) (d_op (d_lst (xs := [.int 9, .int 10, .int 11, .int 12]) (a_cons d_int (a_cons d_int (a_cons d_int (a_cons d_int a_nil)))) (line_big (by show 4 ≤ 100000; decide))) (d_is (d_op (d_op (d_var rfl) d_int (r_intC ⟨by decide, by decide⟩)) d_int (r_intC (by show (0 : Int) < 4; decide))) (congrArg PyData.int hk)) (r_ixL (atI_k ?_))) ?_)
  · match k, k4 with
    | 0, _ => rfl
    | 1, _ => rfl
    | 2, _ => rfl
    | 3, _ => rfl
  obtain ⟨m, hm⟩ : ∃ m, 9 + k = m := ⟨_, rfl⟩
  rw [hm]
  have m12 : m ≤ 12 := by omega
  have str_lampsB : Str.ofString "lamps " = txt (lamps ++ [32]) := by decide +kernel
  have str_fo : Str.ofString "fo" = txt [102, 111] := by decide +kernel
  have str_f1 : Str.ofString "f" = txt [102] := by decide +kernel
  have str_w1 : Str.ofString "\nwish 1" = txt [10, 119, 105, 115, 104, 32, 49] := by decide +kernel
  have str_of : Str.ofString "lamps of" = txt (lamps ++ [32, 111, 102]) := by decide +kernel
  have str_w12 : Str.ofString "wish 1 -2" = txt [119, 105, 115, 104, 32, 49, 32, 45, 50] := by decide +kernel
  have str_ww : Str.ofString "lamps fo\nwish\nwish" = txt [108, 97, 109, 112, 115, 32, 102, 111, 10, 119, 105, 115, 104, 10, 119, 105, 115, 104] := by decide +kernel
  have str_b2 : Str.ofString " -2" = txt [32, 45, 50] := by decide +kernel
  refine s_seq (s_if (t_test (d_op (d_var rfl) d_int r_eqI)) (fun _ => ?_) fun _ => s_next ?_)
  · have b1 : ((m : Int) / 2).toNat ≤ 12 := by omega
    have b2 : ((m : Int) % 2).toNat ≤ 1 := by omega
    have l1 := len_rep ((m : Int) / 2).toNat [102, 111]
    have l2 := len_rep ((m : Int) % 2).toNat [102]
    obtain ⟨A, hA⟩ : ∃ A, (List.replicate ((m : Int) / 2).toNat [102, 111]).flatten = A := ⟨_, rfl⟩
    obtain ⟨B, hB⟩ : ∃ B, (List.replicate ((m : Int) % 2).toNat [102]).flatten = B := ⟨_, rfl⟩
    have aA : Asc A := hA ▸ asc_rep _ (by unfold Asc; decide)
    have aB : Asc B := hB ▸ asc_rep _ (by unfold Asc; decide)
    rw [hA] at l1
    rw [hB] at l2
    have l1 : A.length ≤ 24 := by rw [l1]; show _ * 2 ≤ 24; omega
    have l2 : B.length ≤ 1 := by rw [l2]; show _ * 1 ≤ 1; omega
    refine s_ret (addT _ _ _ (lamps ++ [32] ++ A ++ B) [10, 119, 105, 115, 104, 32, 49] (addT _ _ _ (lamps ++ [32] ++ A) B (addT _ _ _ (lamps ++ [32]) A (d_is d_str (congrArg PyData.str str_lampsB)) (d_is (d_op (d_is d_str (congrArg PyData.str str_fo)) (d_op (d_var rfl) d_int (r_intC ⟨by decide, by decide⟩)) (r_mulS ⟨by omega, by omega⟩ (by decide))) (by rw [← hA])) ?_) (d_is (d_op (d_is d_str (congrArg PyData.str str_f1)) (d_op (d_var rfl) d_int (r_intC (by show (0 : Int) < 2; decide))) (r_mulS ⟨by omega, by omega⟩ (by decide))) (by rw [← hB])) ?_) (d_is d_str (congrArg PyData.str str_w1)) ?_) ⟨_, rfl, ?_, asc_app (asc_app (asc_app (by unfold Asc; decide) aA) aB) (by unfold Asc; decide)⟩
    · show 6 + _ ≤ 100000
      omega
    · rw [List.length_append]
      show 6 + _ + _ ≤ 100000
      omega
    · rw [List.length_append, List.length_append]
      show 6 + _ + _ + 7 ≤ 100000
      omega
    · rw [List.length_append, List.length_append, List.length_append]
      show 6 + _ + _ + 7 ≤ 900
      omega
  refine s_seq (s_if (t_test (d_op (d_var rfl) d_int r_eqI)) (fun _ => ?_) fun _ => s_next ?_)
  · refine s_seq (s_newA (xs := [.str (txt (lamps ++ [32, 111, 102]))]) (a_cons (d_is d_str (congrArg PyData.str str_of)) a_nil) (line_big (by show 1 ≤ 100000; decide)) (by simp) ?_)
    refine s_seq (s_forR (n := m + 10) (a_cons (d_is (d_op (d_var rfl) d_int r_int) (congrArg PyData.int (show _ = ((m + 10 : Nat) : Int) by omega))) a_nil) (by omega) (fun i e => ∃ y, e = [.dat (.int x), .dat (.int (w : Nat)), .dat (.int (m : Nat)), .own (((lamps ++ [32, 111, 102]) :: (List.range i).map fun i => [119, 105, 115, 104, 32, 49, 32, 45, 50].take (4 + 2 * (i % 2))).map fun r => PyData.str (txt r)), y]) ⟨.no, rfl⟩ ?_ ?_)
    · rintro i _ hi ⟨y, rfl⟩
      refine s_app rfl (d_is (d_slS (d_is d_str (congrArg PyData.str str_w12)) o_none (o_some (d_is (d_op d_int (d_op d_int (d_op (d_var rfl) d_int (r_intC (by show (0 : Int) < 2; decide))) (r_intC (.inl ⟨by decide, by decide⟩))) r_int) (congrArg PyData.int (show (4 : Int) + 2 * ((i : Int) % 2) = ((4 + 2 * (i % 2) : Nat) : Int) by omega)))) (line_big (by decide))) (congrArg PyData.str (cut_to _ _))) ?_ ⟨.dat (.int (i : Nat)), ?_⟩
      · rw [List.length_map, List.length_cons, List.length_map, List.length_range]
        exact line_lt (by omega)
      · rw [List.range_succ, List.map_append]
        show _ = [Sl.dat (.int x), .dat (.int (w : Nat)), .dat (.int (m : Nat)), .own (((lamps ++ [32, 111, 102]) :: ((List.range i).map (fun i => [119, 105, 115, 104, 32, 49, 32, 45, 50].take (4 + 2 * (i % 2))) ++ [[119, 105, 115, 104, 32, 49, 32, 45, 50].take (4 + 2 * (i % 2))])).map fun r => PyData.str (txt r)), _]
        rw [← List.cons_append, List.map_append]
        rfl
    · rintro _ ⟨y, rfl⟩
      obtain ⟨ps, hps⟩ : ∃ ps, ((lamps ++ [32, 111, 102]) :: (List.range (m + 10)).map fun i => [119, 105, 115, 104, 32, 49, 32, 45, 50].take (4 + 2 * (i % 2))) = ps := ⟨_, rfl⟩
      rw [hps]
      have pl : ps.length ≤ 23 := by rw [← hps, List.length_cons, List.length_map, List.length_range]; omega
      have pa : ∀ p ∈ ps, p.length ≤ 9 ∧ Asc p := fun p hp => by
        rw [← hps] at hp
        rcases List.mem_cons.mp hp with rfl | hp
        · exact ⟨by decide, by unfold Asc; decide⟩
        · obtain ⟨i, _, rfl⟩ := List.mem_map.mp hp
          refine ⟨by rw [List.length_take]; exact Nat.min_le_right _ _, fun c hc => ?_⟩
          have key : ∀ c ∈ [119, 105, 115, 104, 32, 49, 32, 45, 50], c < 128 := by decide
          exact key c (List.mem_of_mem_take hc)
      have e1 : (ps.map fun r => PyData.str (txt r)) = (ps.map txt).map PyData.str := by
        rw [List.map_map]
        rfl
      rw [e1]
      refine s_frz (i := 3) rfl (s_ret (d_joinS (a := txt [10]) (ys := ps.map txt) (d_is d_str (congrArg PyData.str str_line)) (d_var rfl) ?_) ⟨joinC 10 ps, ?_, ?_, asc_join fun p hp => (pa p hp).2⟩)
      · have h1 : ((ps.map txt).map (·.length)).sum ≤ 9 * (ps.map txt).length := sum_le _ 9 _ fun x hx => by
          obtain ⟨u, hu, rfl⟩ := List.mem_map.mp hx
          rw [txt_len]
          exact (pa u hu).1
        rw [List.length_map] at h1
        rw [List.length_map]
        have h3 : (txt [10]).length = 1 := rfl
        rw [h3]
        omega
      · show PyData.str (Builtin.Str.glued _ _) = _
        rw [StrLaws.glued_eq_join, join_txt]
      · have := join_le fun p hp => (pa p hp).1
        omega
  · have b1 : (if (11 : Int) < (m : Int) then (11 : Int) else (m : Int)) ≤ 12 ∧ 0 ≤ (if (11 : Int) < (m : Int) then (11 : Int) else (m : Int)) := by
      split <;> omega
    obtain ⟨b, hb⟩ : ∃ b, (if (11 : Int) < (m : Int) then (11 : Int) else (m : Int)) = b := ⟨_, rfl⟩
    rw [hb] at b1
    have l1 := len_rep b.toNat [32, 45, 50]
    obtain ⟨A, hA⟩ : ∃ A, (List.replicate b.toNat [32, 45, 50]).flatten = A := ⟨_, rfl⟩
    have aA : Asc A := hA ▸ asc_rep _ (by unfold Asc; decide)
    rw [hA] at l1
    have l1 : A.length ≤ 36 := by rw [l1]; show _ * 3 ≤ 36; omega
    refine s_ret (addT _ _ _ [108, 97, 109, 112, 115, 32, 102, 111, 10, 119, 105, 115, 104, 10, 119, 105, 115, 104] A (d_is d_str (congrArg PyData.str str_ww)) (d_is (d_op (d_is d_str (congrArg PyData.str str_b2)) (d_is (d_cb (a_cons (d_var rfl) (a_cons d_int a_nil)) r_min2) (congrArg PyData.int hb)) (r_mulS ⟨by omega, by omega⟩ (by decide))) (by rw [← hA])) ?_) ⟨_, rfl, ?_, asc_app (by unfold Asc; decide) aA⟩
    · show 18 + _ ≤ 100000
      omega
    · rw [List.length_append]
      show 18 + _ ≤ 900
      omega
/-! _law_text -/

theorem ok_L_text (T : Txt K mg a fd c ec) (TB : ∀ i, i < 1 → GxR.TabB base mg (c i) (p i)) (hT : ∀ i, i < 1 → p i ∈ Tb) : FnOk P w K mg base CX0 2 (a 12) (fd 12) ["_law_script"] (PrR K Tb (RP arg_L_text pre_L_text) (RQ arg_L_text pre_L_text post_L_text)) := by
  have G_L_cell_at : FnOk P w K mg base CX0 _ _ _ _ (PrD K Tb g_L_cell_at) := ok_L_cell_at T TB hT
  have G_L_first : FnOk P w K mg base CX0 _ _ _ _ (PrD K Tb g_L_first) := ok_L_first T TB hT
  have G_L_great : FnOk P w K mg base CX0 _ _ _ _ (PrR K Tb (RP arg_L_great pre_L_great) (RQ arg_L_great pre_L_great post_L_great)) := ok_L_great T TB hT
  have G_L_next : FnOk P w K mg base CX0 _ _ _ _ (PrD K Tb g_L_next) := ok_L_next T TB hT
  have G_L_sign_by : FnOk P w K mg base CX0 _ _ _ _ (PrD K Tb g_L_sign_by) := ok_L_sign_by T TB hT
  refine fn_gfR T.F_L_text sc_L_text (fun _ => rfl) inj_L_text (fun cdv A outer s H E hr => ⟨_, (pss_cons (ps_if (pt_cmpR op_eq (pe_op op_mod (pe_op op_fdiv (pe_call G_L_cell_at hr (by rfl) T.g_L_cell_at T.F_L_cell_at.kp T.b_L_cell_at .nil pass0 (pa_cons (pv 0) (pa_cons pe_int pa_nil))) pe_int) pe_int) pe_int (nomark _))
        (pss_one (ps_ret (pe_call G_L_great hr (by rfl) T.g_L_great T.F_L_great.kp T.b_L_great .nil pass0 (pa_cons (pe_call G_L_cell_at hr (by rfl) T.g_L_cell_at T.F_L_cell_at.kp T.b_L_cell_at .nil pass0 (pa_cons (pv 0) (pa_cons pe_int pa_nil))) pa_nil))))
        pss_nil)
      (pss_cons (ps_set (i := 1) sc_L_text.nd rfl (.inl rfl) (pe_lst (pa_cons (pe_call G_L_first hr (by rfl) T.g_L_first T.F_L_first.kp T.b_L_first .nil pass0 (pa_cons (pe_call G_L_cell_at hr (by rfl) T.g_L_cell_at T.F_L_cell_at.kp T.b_L_cell_at .nil pass0 (pa_cons (pv 0) (pa_cons pe_int pa_nil))) pa_nil)) pa_nil)))
      (pss_cons (ps_for PassesOwn.never rfl (pi_range1 (by rfl) T.m_range (pa_cons (pe_op op_mod (pe_call G_L_cell_at hr (by rfl) T.g_L_cell_at T.F_L_cell_at.kp T.b_L_cell_at .nil pass0 (pa_cons (pv 0) (pa_cons pe_int pa_nil))) pe_int) pa_nil)) (pg_name (i := 2) sc_L_text.nd rfl (.inl rfl))
        (pss_one (ps_expr (pe_bm PySem.F.plainAttrs_list PySem.F.slot_list_append PySem.F.type_list_append mt_append (pv 1) (pa_cons (pe_call G_L_next hr (by rfl) T.g_L_next T.F_L_next.kp T.b_L_next .nil pass0 (pa_cons (pe_call G_L_cell_at hr (by rfl) T.g_L_cell_at T.F_L_cell_at.kp T.b_L_cell_at .nil pass0 (pa_cons (pv 0) (pa_cons (pe_op op_add pe_int (pv 2)) pa_nil))) pa_nil)) pa_nil)))))
      (pss_cons (ps_set (i := 3) sc_L_text.nd rfl (.inl rfl) (pe_join pe_str (pv 1)))
      (pss_cons (ps_set (i := 4) sc_L_text.nd rfl (.inl rfl) (pe_op op_mod (pe_op op_fdiv (pe_call G_L_cell_at hr (by rfl) T.g_L_cell_at T.F_L_cell_at.kp T.b_L_cell_at .nil pass0 (pa_cons (pv 0) (pa_cons pe_int pa_nil))) pe_int) pe_int))
      (pss_cons (ps_set (i := 5) sc_L_text.nd rfl (.inl rfl) (pe_op op_mod (pe_call G_L_cell_at hr (by rfl) T.g_L_cell_at T.F_L_cell_at.kp T.b_L_cell_at .nil pass0 (pa_cons (pv 0) (pa_cons pe_int pa_nil))) (pe_op op_add (pe_callB call_len_str (by rfl) T.m_len (by decide +kernel) (pa_cons (pv 3) pa_nil)) pe_int)))
      (pss_cons (ps_if (pt_cmpR op_eq (pv 4) pe_int (nomark _))
        (pss_one (ps_set (i := 3) sc_L_text.nd rfl (.inl rfl) (pe_op op_add_str (pe_op op_add_str (pe_slice sl_str (pv 3) po_none (po_some (pv 5))) (pe_call G_L_sign_by hr (by rfl) T.g_L_sign_by T.F_L_sign_by.kp T.b_L_sign_by .nil pass0 (pa_cons (pe_call G_L_cell_at hr (by rfl) T.g_L_cell_at T.F_L_cell_at.kp T.b_L_cell_at .nil pass0 (pa_cons (pv 0) (pa_cons pe_int pa_nil))) pa_nil))) (pe_slice sl_str (pv 3) (po_some (pv 5)) po_none))))
        pss_nil)
      (pss_cons (ps_if (pt_cmpR op_eq (pv 4) pe_int (nomark _))
        (pss_one (ps_set (i := 3) sc_L_text.nd rfl (.inl rfl) (pe_op op_add_str (pe_slice sl_str (pv 3) po_none (po_some (pv 5))) (pe_slice sl_str (pv 3) (po_some (pe_op op_add (pv 5) pe_int)) po_none))))
        pss_nil)
      (pss_one (ps_ret (pv 3))))))))))), fun F0 H0 x hp => ?_⟩)
  have addT : ∀ (env : List Sl) (te tb : TE) (a b : List Nat), EvD K Tb te env (.str (txt a)) → EvD K Tb tb env (.str (txt b)) → a.length + b.length ≤ 100000 → EvD K Tb (tOp (fun x y H Q => ∃ i j, x = V.str i ∧ y = V.str j ∧ i.length + j.length ≤ sizeLine ∧ Q (.str (i ++ j)) H) te tb) env (.str (txt (a ++ b))) := fun env te tb a b ha hb hl => d_is (d_op ha hb (r_addS (by rw [txt_len, txt_len]; exact line_big hl))) (by rw [txt_app])
  have big : ∀ l : List Nat, l.length ≤ 1000 → (txt l).length ≤ sizeLine := fun l h => by rw [txt_len]; exact line_big (by omega)
  refine s_env (env' := [.dat (dInts x), .no, .no, .no, .no, .no]) rfl ?_
  have cell : ∀ (env : List Sl) (k : Nat), env[0]? = some (.dat (dInts x)) → EvD K Tb (tCall (PrD K Tb g_L_cell_at) [] E0 (tCons (tVar 0) (tCons (tC (.int (k : Int))) tNil))) env (.int (cellAt x k)) := fun env k h =>
    d_call (a_cons (d_var h) (a_cons d_int a_nil)) ⟨(x, k), rfl, trivial, rfl⟩
  obtain ⟨n, hn, n4⟩ := rest_nat (cellAt x 1) 4 (by decide)
  refine s_seq (s_if (t_test (d_op (d_op (d_op (cell _ 1 rfl) d_int (r_intC ⟨by decide, by decide⟩)) d_int (r_intC (by show (0 : Int) < 8; decide))) d_int r_eqI)) (fun _ => ?_) fun _ => s_next ?_)
  · exact s_retR (x := cellAt x 0) (a_cons (cell _ 0 rfl) a_nil) trivial fun d ⟨l, e, hl, ha⟩ => ⟨l, e, by omega, ha⟩
  obtain ⟨f0, hf0⟩ : ∃ f0, firstX (cellAt x 0) = f0 := ⟨_, rfl⟩
  have f0ok := first_ok (cellAt x 0)
  rw [hf0] at f0ok
  refine s_seq (s_newA (xs := [.str (txt f0)]) (a_cons (d_is (d_call (a_cons (cell _ 0 rfl) a_nil) ⟨cellAt x 0, rfl, trivial, rfl⟩) (congrArg (fun l => PyData.str (txt l)) hf0)) a_nil) (line_big (by show 1 ≤ 100000; decide)) (by simp) ?_)
  refine s_seq (s_forR (n := n) (a_cons (d_is (d_op (cell _ 1 rfl) d_int (r_intC (by show (0 : Int) < 4; decide))) (congrArg PyData.int hn)) a_nil) (by omega) (fun i e => ∃ y, e = [.dat (dInts x), .own ((f0 :: (List.range i).map fun i => nextX (cellAt x (4 + i))).map fun r => PyData.str (txt r)), y, .no, .no, .no]) ⟨.no, rfl⟩ ?_ ?_)
  · rintro i _ hi ⟨y, rfl⟩
    refine s_app rfl (d_call (a_cons (d_call (a_cons (d_var rfl) (a_cons (d_op d_int (d_var rfl) r_int) a_nil)) ⟨(x, 4 + i), by simp, trivial, rfl⟩) a_nil) ⟨cellAt x (4 + i), rfl, trivial, rfl⟩) ?_ ⟨.dat (.int (i : Nat)), ?_⟩
    · rw [List.length_map, List.length_cons, List.length_map, List.length_range]
      exact line_lt (by omega)
    · rw [List.range_succ, List.map_append]
      show _ = [Sl.dat (dInts x), .own ((f0 :: ((List.range i).map (fun i => nextX (cellAt x (4 + i))) ++ [nextX (cellAt x (4 + i))])).map fun r => PyData.str (txt r)), _, .no, .no, .no]
      rw [← List.cons_append, List.map_append]
      rfl
  rintro _ ⟨y, rfl⟩
  obtain ⟨ps, hps⟩ : ∃ ps, (f0 :: (List.range n).map fun i => nextX (cellAt x (4 + i))) = ps := ⟨_, rfl⟩
  rw [hps]
  have pl : ps.length ≤ 4 := by rw [← hps, List.length_cons, List.length_map, List.length_range]; omega
  have pa : ∀ p ∈ ps, p.length ≤ 80 ∧ Asc p := fun p hp => by
    rw [← hps] at hp
    rcases List.mem_cons.mp hp with rfl | hp
    · exact ⟨by omega, f0ok.2⟩
    · obtain ⟨i, _, rfl⟩ := List.mem_map.mp hp
      exact next_ok _
  have e1 : (ps.map fun r => PyData.str (txt r)) = (ps.map txt).map PyData.str := by
    rw [List.map_map]
    rfl
  rw [e1]
  obtain ⟨t, ht⟩ : ∃ t, joinC 10 ps = t := ⟨_, rfl⟩
  have tl : t.length ≤ 400 := by
    have := join_le fun p hp => (pa p hp).1
    rw [ht] at this
    omega
  have ta : Asc t := ht ▸ asc_join fun p hp => (pa p hp).2
  refine s_frz (i := 1) rfl (s_seq (s_asg (d := .str (txt t)) (d_is (d_joinS (a := txt [10]) (ys := ps.map txt) (d_is d_str (congrArg PyData.str str_line)) (d_var rfl) ?_) ?_) ?_))
  · have h1 : ((ps.map txt).map (·.length)).sum ≤ 80 * (ps.map txt).length := sum_le _ 80 _ fun x hx => by
      obtain ⟨u, hu, rfl⟩ := List.mem_map.mp hx
      rw [txt_len]
      exact (pa u hu).1
    rw [List.length_map] at h1
    rw [List.length_map]
    have h3 : (txt [10]).length = 1 := rfl
    rw [h3]
    omega
  · show PyData.str (Builtin.Str.glued _ _) = _
    rw [StrLaws.glued_eq_join, join_txt, ht]
  refine s_seq (s_asg (d_op (d_op (cell _ 1 rfl) d_int (r_intC ⟨by decide, by decide⟩)) d_int (r_intC (by show (0 : Int) < 3; decide))) ?_)
  obtain ⟨at_, hat, hal⟩ := rest_nat (cellAt x 2) (t.length + 1) (by omega)
  refine s_seq (s_asg (d := .int (at_ : Nat)) (d_is (d_op (cell _ 2 rfl) (d_is (d_op (d_cb (a_cons (d_var rfl) a_nil) (r_lenS (z := txt t) (big t (by omega)))) d_int r_int) (congrArg PyData.int (show _ = ((t.length + 1 : Nat) : Int) by rw [txt_len]; omega))) (r_intC (by show (0 : Int) < _; omega))) (congrArg PyData.int hat)) ?_)
  refine s_seq (s_mid (fun e => ∃ l : List Nat, l.length ≤ 600 ∧ Asc l ∧ e = [.dat (dInts x), .dat (.list ((ps.map txt).map PyData.str)), y, .dat (.str (txt l)), .dat (.int (cellAt x 1 / 4 % 3)), .dat (.int (at_ : Nat))]) (s_if (t_test (d_op (d_var rfl) d_int r_eqI)) (fun _ => ?_) fun _ => s_next ⟨t, by omega, ta, rfl⟩) ?_)
  · have tk : (t.take at_).length ≤ 400 := by rw [List.length_take]; omega
    have td : (t.drop at_).length ≤ 400 := by rw [List.length_drop]; omega
    refine s_asg (addT _ _ _ (t.take at_ ++ signX (cellAt x 3)) (t.drop at_) (addT _ _ _ (t.take at_) (signX (cellAt x 3)) (d_is (d_slS (d_var rfl) o_none (o_some (d_var rfl)) (big t (by omega))) (congrArg PyData.str (cut_to t at_))) (d_call (a_cons (cell _ 3 rfl) a_nil) ⟨cellAt x 3, rfl, trivial, rfl⟩) ?_) (d_is (d_slS (d_var rfl) (o_some (d_var rfl)) o_none (big t (by omega))) (congrArg PyData.str (cut_from t at_))) ?_) ⟨t.take at_ ++ signX (cellAt x 3) ++ t.drop at_, ?_, asc_app (asc_app (fun c hc => ta c (List.mem_of_mem_take hc)) (sign_ok _)) fun c hc => ta c (List.mem_of_mem_drop hc), rfl⟩
    · show _ + 1 ≤ 100000
      omega
    · rw [List.length_append]
      show _ + 1 + _ ≤ 100000
      omega
    · rw [List.length_append, List.length_append, List.length_take, List.length_drop]
      show _ + 1 + _ ≤ 600
      omega
  rintro _ ⟨l, hl, la, rfl⟩
  refine s_seq (s_mid (fun e => ∃ l : List Nat, l.length ≤ 999 ∧ Asc l ∧ e = [.dat (dInts x), .dat (.list ((ps.map txt).map PyData.str)), y, .dat (.str (txt l)), .dat (.int (cellAt x 1 / 4 % 3)), .dat (.int (at_ : Nat))]) (s_if (t_test (d_op (d_var rfl) d_int r_eqI)) (fun _ => ?_) fun _ => s_next ⟨l, by omega, la, rfl⟩) ?_)
  · refine s_asg (addT _ _ _ (l.take at_) (l.drop (at_ + 1)) (d_is (d_slS (d_var rfl) o_none (o_some (d_var rfl)) (big l (by omega))) (congrArg PyData.str (cut_to l at_))) (d_is (d_slS (d_var rfl) (o_some (d_is (d_op (d_var rfl) d_int r_int) (congrArg PyData.int (show (at_ : Int) + 1 = ((at_ + 1 : Nat) : Int) by omega)))) o_none (big l (by omega))) (congrArg PyData.str (cut_from l (at_ + 1)))) ?_) ⟨l.take at_ ++ l.drop (at_ + 1), ?_, asc_app (fun c hc => la c (List.mem_of_mem_take hc)) fun c hc => la c (List.mem_of_mem_drop hc), rfl⟩
    · rw [List.length_take, List.length_drop]
      omega
    · rw [List.length_append, List.length_take, List.length_drop]
      omega
  rintro _ ⟨l, hl, la, rfl⟩
  exact s_ret (d_var rfl) ⟨l, rfl, hl, la⟩
/-! _law_number -/
abbrev g_L_number : List D → D → Prop := GF (fun w : List Nat => [.str (txt w)]) (fun w => w.length ≤ 1000) fun w => .int ((numW w).getD 0)
theorem ok_L_number (T : Txt K mg a fd c ec) (TB : ∀ i, i < 1 → GxR.TabB base mg (c i) (p i)) (hT : ∀ i, i < 1 → p i ∈ Tb) : FnOk P w K mg base CX0 1 (a 13) (fd 13) ["_law_word"] (PrD K Tb g_L_number) := by
  refine fn_gf T.F_L_number sc_L_number (fun _ => rfl) (fun cdv A outer s H E hr => ⟨_, (pss_cons (ps_set (i := 1) sc_L_number.nd rfl (.inl rfl) (pv 0))
      (pss_cons (ps_if (pt_cmpR op_eq (pe_slice sl_str (pv 0) po_none (po_some pe_int)) pe_str (nomark _))
        (pss_one (ps_set (i := 1) sc_L_number.nd rfl (.inl rfl) (pe_slice sl_str (pv 0) (po_some pe_int) po_none)))
        pss_nil)
      (pss_cons (ps_if (PW.pt (pw_or (pt_cmpR op_eq (pv 1) pe_str (nomark _)) (pw_or (pt_cmpR op_eq (pe_ix ix_str (pv 1) pe_int (fun _ _ => rfl)) pe_str (nomark _)) (pw_or1 (pt_cmpR op_gt (pe_callB call_len_str (by rfl) T.m_len (by decide +kernel) (pa_cons (pv 1) pa_nil)) pe_int (nomark _))))))
        (pss_one (ps_ret pe_int))
        pss_nil)
      (pss_cons (ps_for PassesOwn.never rfl (pi_str (pv 1)) (pg_name (i := 2) sc_L_number.nd rfl (.inl rfl))
        (pss_one (ps_if (pt_cmpR op_notIn_sign (pv 2) pe_str (by rfl))
        (pss_one (ps_ret pe_int))
        pss_nil)))
      (pss_cons (ps_if (pt_cmpR op_eq (pv 1) (pv 0) (nomark _))
        (pss_one (ps_ret (pe_callTy call_int_str (by rfl) T.m_int (by decide +kernel) (pa_cons (pv 1) pa_nil))))
        pss_nil)
      (pss_one (ps_ret (pe_un un_neg (pe_callTy call_int_str (by rfl) T.m_int (by decide +kernel) (pa_cons (pv 1) pa_nil)))))))))), fun F0 H0 x hp => ?_⟩)
  have hp : x.length ≤ 1000 := hp
  have big : ∀ l : List Nat, l.length ≤ 1000 → (txt l).length ≤ sizeLine := fun l h => by rw [txt_len]; exact line_big (by omega)
  have fl : (figs x).length ≤ 1000 := by
    unfold figs
    split
    · rw [List.length_drop]; omega
    · exact hp
  refine s_env (env' := [.dat (.str (txt x)), .no, .no]) rfl ?_
  refine s_seq (s_asg (d := .str (txt x)) (d_var rfl) ?_)
  refine s_seq (s_mid (fun e => e = [.dat (.str (txt x)), .dat (.str (txt (figs x))), .no]) (s_if (b := decide (x.take 1 = [45])) (t_is (t_test (d_op (d_is (d_slS (d_var rfl) o_none (o_some d_int) (big x hp)) (congrArg PyData.str (cut_to x 1))) (d_is d_str (congrArg PyData.str str_minus)) r_eqS)) (txt_eq _ _)) (fun h => ?_) fun h => s_next ?_) ?_)
  · refine s_asg (d := .str (txt (x.drop 1))) (d_is (d_slS (d_var rfl) (o_some d_int) o_none (big x hp)) (congrArg PyData.str (cut_from x 1))) ?_
    unfold figs
    rw [if_pos (of_decide_eq_true h)]
    rfl
  · unfold figs
    rw [if_neg (of_decide_eq_false h)]
    rfl
  rintro _ rfl
  obtain ⟨f, hf⟩ : ∃ f, figs x = f := ⟨_, rfl⟩
  rw [hf] at fl
  rw [hf]
  have no : goodF f = false → PyData.int 0 = .int ((numW x).getD 0) := fun h => by
    unfold numW
    rw [hf, if_neg (by rw [h]; decide)]
    rfl
  refine s_seq (s_if (b := decide (f = []) || (decide (f[0]? = some 48) || decide (60 < f.length))) (t_or (t_is (t_test (d_op (d_var rfl) (d_is d_str (congrArg PyData.str str_empty)) r_eqS)) (txt_eq _ _)) fun h0 => t_or ?_ fun _ => t_is (t_test (d_op (d_cb (a_cons (d_var rfl) a_nil) (r_lenS (z := txt f) (big f fl))) d_int r_bool)) ?_) (fun h => ?_) fun h => s_next ?_)
  · have h0 : f ≠ [] := of_decide_eq_false h0
    obtain ⟨c, f', rfl⟩ : ∃ c f', f = c :: f' := by
      cases f with
      | nil => exact absurd rfl h0
      | cons c f' => exact ⟨c, f', rfl⟩
    refine t_is (t_test (d_op (d_op (d_var rfl) d_int (r_ixS (c := c) (big _ fl) (atI_k (k := 0) (by rw [txt_list]; rfl)))) (d_is d_str (congrArg PyData.str str_nought)) r_eqS)) ?_
    rw [txt_one, txt_eq]
    simp
  · rw [txt_len]
    exact decide_eq_decide.mpr (by omega)
  · refine s_ret d_int (no ?_)
    unfold goodF
    rw [Bool.or_eq_true, Bool.or_eq_true, decide_eq_true_iff, decide_eq_true_iff, decide_eq_true_iff] at h
    rcases h with h | h | h
    · rw [h]; rfl
    · rw [decide_eq_false (show ¬ f[0]? ≠ some 48 from fun z => z h), Bool.and_false, Bool.false_and]
    · rw [decide_eq_false (show ¬ f.length ≤ 60 by omega), Bool.and_false, Bool.false_and, Bool.false_and]
  rw [Bool.or_eq_false_iff, Bool.or_eq_false_iff, decide_eq_false_iff_not, decide_eq_false_iff_not, decide_eq_false_iff_not] at h
  obtain ⟨h1, h2, h3⟩ := h
  have gf : goodF f = f.all fig := by
    have : 1 ≤ f.length := by
      cases f with
      | nil => exact absurd rfl h1
      | cons c f' => simp
    unfold goodF
    rw [decide_eq_true this, decide_eq_true (show f.length ≤ 60 by omega), decide_eq_true (show f[0]? ≠ some 48 from h2)]
    rfl
  refine s_seq (s_forS (z := txt f) (d_var rfl) (fun k e => ∃ y, e = [.dat (.str (txt x)), .dat (.str (txt f)), y] ∧ (f.take k).all fig = true) ⟨.no, rfl, rfl⟩ ?_ ?_)
  · rintro k c _ hc ⟨y, rfl, ha⟩
    rw [txt_at] at hc
    refine s_if (b := !fig c) (t_is (t_test (d_op (d_var rfl) (d_is d_str (congrArg PyData.str str_figures)) r_notinSign)) (by rw [fig_mem])) (fun h => ?_) fun h => s_next ⟨.dat (.str ⟨#[c]⟩), rfl, ?_⟩
    · refine s_ret d_int (no ?_)
      rw [gf, List.all_eq_false]
      exact ⟨c, List.mem_of_getElem? hc, by simpa using h⟩
    · rw [List.take_add_one, hc, List.all_append, ha]
      show (true && (fig c && true)) = true
      rw [show fig c = true by simpa using h]
      rfl
  rintro _ ⟨y, rfl, ha⟩
  rw [txt_size, List.take_length] at ha
  have good : goodF f = true := gf.trans ha
  have fs := figs_self good
  have nf : numW f = some ((NumText.digitsVal f : Nat) : Int) := by
    unfold numW
    rw [fs, if_pos good, if_pos rfl]
  obtain ⟨i1, i2⟩ := int_txt nf
  have nx : numW x = some (if f = x then ((NumText.digitsVal x : Nat) : Int) else -((NumText.digitsVal f : Nat) : Int)) := by
    unfold numW
    rw [hf, if_pos good]
  refine s_seq (s_if (b := decide (f = x)) (t_is (t_test (d_op (d_var rfl) (d_var rfl) r_eqS)) (txt_eq _ _)) (fun h => ?_) fun h => s_next ?_)
  · refine s_ret (d_cb (a_cons (d_var rfl) a_nil) (r_intS i1 i2)) ?_
    show _ = PyData.int ((numW x).getD 0)
    have h : f = x := of_decide_eq_true h
    rw [nx, if_pos h, h]
    rfl
  · refine s_ret (d_un (d_cb (a_cons (d_var rfl) a_nil) (r_intS i1 i2)) r_neg) ?_
    show _ = PyData.int ((numW x).getD 0)
    rw [nx, if_neg (of_decide_eq_false h)]
    rfl
/-! _law_wish -/
abbrev g_L_wish : List D → D → Prop := GF (fun w : List Nat => [.str (txt w)]) (fun w => w.length ≤ 1000) fun w => optL (wishX w)
theorem ok_L_wish (T : Txt K mg a fd c ec) (TB : ∀ i, i < 1 → GxR.TabB base mg (c i) (p i)) (hT : ∀ i, i < 1 → p i ∈ Tb) : FnOk P w K mg base CX0 2 (a 14) (fd 14) ["_law_row"] (PrD K Tb g_L_wish) := by
  have G_L_number : FnOk P w K mg base CX0 _ _ _ _ (PrD K Tb g_L_number) := ok_L_number T TB hT
  refine fn_gf T.F_L_wish sc_L_wish (fun _ => rfl) (fun cdv A outer s H E hr => ⟨_, (pss_cons (ps_if (PW.pt (pw_and (pt_cmpR op_ne (pv 0) pe_str (nomark _)) (pw_and1 (pt_cmpR op_ne (pe_slice sl_str (pv 0) po_none (po_some pe_int)) pe_str (nomark _)))))
        (pss_one (ps_ret pe_non))
        pss_nil)
      (pss_cons (ps_setLc (i := 1) (own := [("_law_word", 2)]) (g := gName 2) (tt := tYes) rfl sc_L_wish.nd rfl rfl (sw_true rfl rfl rfl (by decide +kernel)) (pi_list (pe_slice sl_list (pe_split (pv 0) pe_str) (po_some pe_int) po_none)) (blkOk_by (N := ["_law_row", "_law_wish_here", "_law_word"]) (sc := defScope s_L_wish) (by decide +kernel)) (fun _ _ _ _ _ => pg_name (i := 2) sc_L_wish.nd rfl (.inl rfl)) (fun _ _ _ _ _ => pts_nil) (fun _ _ _ _ _ => (pe_call G_L_number hr (by rfl) T.g_L_number T.F_L_number.kp T.b_L_number .nil pass0 (pa_cons (pv 2) pa_nil))))
      (pss_cons (ps_if (pt_cmpR op_in_seq pe_int (pv 1) (by rfl))
        (pss_one (ps_ret pe_non))
        pss_nil)
      (pss_one (ps_ret (pv 1)))))), fun F0 H0 x hp => ?_⟩)
  have hp : x.length ≤ 1000 := hp
  have big : ∀ l : List Nat, l.length ≤ 1000 → (txt l).length ≤ sizeLine := fun l h => by rw [txt_len]; exact line_big (by omega)
  refine s_env (env' := [.dat (.str (txt x)), .no, .no]) rfl ?_
  obtain ⟨v, vs, e⟩ := splitC_ne 32 x
  have sl := split_len2 32 x
  rw [e, List.length_cons] at sl
  have sh := split_head (word := wish) (row := x) (by decide)
  have l5 : wish.length + 1 = 5 := rfl
  rw [l5, e] at sh
  have str_wishB : Str.ofString "wish " = txt (wish ++ [32]) := by decide +kernel
  refine s_seq (s_if (b := !decide (x = wish) && !decide (x.take 5 = wish ++ [32])) (t_and (t_is (t_test (d_op (d_var rfl) (d_is d_str (congrArg PyData.str str_wish)) r_neS)) (by rw [txt_eq])) fun _ => t_is (t_test (d_op (d_is (d_slS (d_var rfl) o_none (o_some d_int) (big x hp)) (congrArg PyData.str (cut_to x 5))) (d_is d_str (congrArg PyData.str str_wishB)) r_neS)) (by rw [txt_eq])) (fun h => ?_) fun h => s_next ?_)
  · refine s_ret d_non ?_
    show _ = optL (wishX x)
    unfold wishX
    rw [e, if_neg fun z => ?_]
    · rfl
    · rw [Bool.and_eq_true, Bool.not_eq_true', Bool.not_eq_true', decide_eq_false_iff_not, decide_eq_false_iff_not] at h
      rcases sh.mp z with q | q
      · exact h.1 q
      · exact h.2 q
  have hd : (v :: vs).head? = some wish := sh.mpr (by
    rw [Bool.and_eq_false_iff, Bool.not_eq_false', Bool.not_eq_false', decide_eq_true_iff, decide_eq_true_iff] at h
    exact h)
  have hX : wishX x = allO (vs.map numW) := by
    unfold wishX
    rw [e, if_pos hd]
    rfl
  obtain ⟨ns, hns⟩ : ∃ ns, (vs.map fun w => (numW w).getD 0) = ns := ⟨_, rfl⟩
  refine s_seq (s_asg (d := dInts ns) (d_is (d_map (ds := vs.map fun w => .str (txt w)) (fun d => .int ((numW (strL d)).getD 0)) (d_is (d_slL (d_split (a := txt x) (b := txt [32]) (d_var rfl) (d_is d_str (congrArg PyData.str str_blank)) rfl (by rw [txt_len]; exact line_big (by omega))) (o_some d_int) o_none) ?_) ?_ fun k d hk => ?_) ?_) ?_)
  · rw [split_txt, e, List.map_map]
    exact congrArg PyData.list (sl_from ((v :: vs).map fun w => PyData.str (txt w)) 1)
  · rw [List.length_map]
    exact line_lt (by omega)
  · obtain ⟨w, hw, rfl⟩ := map_at hk
    have hm := split_mem (c := 32) (l := x) (p := w) (by rw [e]; exact List.mem_cons_of_mem _ (List.mem_of_getElem? hw))
    have es : strL (.str (txt w)) = w := txt_list w
    rw [es]
    exact d_call (a_cons (d_var rfl) a_nil) ⟨w, rfl, (by show w.length ≤ 1000; omega), rfl⟩
  · rw [← hns, List.map_map]
    show PyData.list _ = PyData.list _
    rw [List.map_map]
    refine congrArg PyData.list (List.map_congr_left fun w _ => ?_)
    show PyData.int ((numW (strL (.str (txt w)))).getD 0) = _
    rw [show strL (.str (txt w)) = w from txt_list w]
    rfl
  refine s_seq (s_if (t_test (d_op d_int (d_var rfl) r_inI)) (fun h => ?_) fun h => s_next ?_)
  · refine s_ret d_non ?_
    show _ = optL (wishX x)
    rw [hX, nums_none (by rw [hns]; exact of_decide_eq_true h)]
    rfl
  · refine s_ret (d_var rfl) ?_
    show _ = optL (wishX x)
    rw [hX, nums_all vs (by rw [hns]; exact of_decide_eq_false h), hns]
    rfl
/-! _law_game -/
abbrev g_L_game : List D → D → Prop := GF (fun w : List Nat => [.str (txt w)]) (fun w => w.length ≤ 999) fun w => optG (gameX w)
theorem ok_L_game (T : Txt K mg a fd c ec) (TB : ∀ i, i < 1 → GxR.TabB base mg (c i) (p i)) (hT : ∀ i, i < 1 → p i ∈ Tb) : FnOk P w K mg base CX0 3 (a 15) (fd 15) ["_law_text_here"] (PrD K Tb g_L_game) := by
  have G_L_wish : FnOk P w K mg base CX0 _ _ _ _ (PrD K Tb g_L_wish) := ok_L_wish T TB hT
  refine fn_gf T.F_L_game sc_L_game (fun _ => rfl) (fun cdv A outer s H E hr => ⟨_, (pss_cons (ps_set (i := 1) sc_L_game.nd rfl (.inl rfl) (pe_split (pv 0) pe_str))
      (pss_cons (ps_if (PW.pt (pw_and (pt_cmpR op_ne (pe_ix ix_list (pv 1) pe_int (fun _ _ => rfl)) pe_str (nomark _)) (pw_and1 (PW.pt (pw_or (pt_cmpR op_ne (pe_slice sl_str (pe_ix ix_list (pv 1) pe_int (fun _ _ => rfl)) po_none (po_some pe_int)) pe_str (nomark _)) (pw_or1 (pt_cmpR op_eq (pe_ix ix_list (pv 1) pe_int (fun _ _ => rfl)) pe_str (nomark _))))))))
        (pss_one (ps_ret pe_non))
        pss_nil)
      (pss_cons (ps_setLc (i := 2) (own := [("_law_row", 3)]) (g := gName 3) (tt := tYes) rfl sc_L_game.nd rfl rfl (sw_true rfl rfl rfl (by decide +kernel)) (pi_list (pe_slice sl_list (pv 1) (po_some pe_int) po_none)) (blkOk_by (N := ["_law_text_here", "_law_rows", "_law_wishes", "_law_row"]) (sc := defScope s_L_game) (by decide +kernel)) (fun _ _ _ _ _ => pg_name (i := 3) sc_L_game.nd rfl (.inl rfl)) (fun _ _ _ _ _ => pts_nil) (fun _ _ _ _ _ => (pe_call G_L_wish hr (by rfl) T.g_L_wish T.F_L_wish.kp T.b_L_wish .nil pass0 (pa_cons (pv 3) pa_nil))))
      (pss_cons (ps_if (pt_cmpR (op_inD (units65 hr)) pe_non (pv 2) (by rfl))
        (pss_one (ps_ret pe_non))
        pss_nil)
      (pss_one (ps_ret (pe_tup (pa_cons (pe_slice sl_str (pe_ix ix_list (pv 1) pe_int (fun _ _ => rfl)) (po_some pe_int) po_none) (pa_cons (pv 2) pa_nil))))))))), fun F0 H0 x hp => ?_⟩)
  have hp : x.length ≤ 999 := hp
  have big : ∀ l : List Nat, l.length ≤ 1000 → (txt l).length ≤ sizeLine := fun l h => by rw [txt_len]; exact line_big (by omega)
  refine s_env (env' := [.dat (.str (txt x)), .no, .no, .no]) rfl ?_
  obtain ⟨v, vs, e⟩ := splitC_ne 10 x
  have sl := split_len2 10 x
  rw [e, List.length_cons] at sl
  have vl := (split_mem (c := 10) (l := x) (p := v) (by rw [e]; exact List.mem_cons_self)).2
  have gX : gameX x = match setX v with
      | none => none
      | some s => (allO (vs.map wishX)).map fun ws => (s, ws) := by
    unfold gameX
    rw [e]
    rfl
  have str_lampsB : Str.ofString "lamps " = txt (lamps ++ [32]) := by decide +kernel
  refine s_seq (s_asg (d := .list ((v :: vs).map fun w => .str (txt w))) (d_is (d_split (a := txt x) (b := txt [10]) (d_var rfl) (d_is d_str (congrArg PyData.str str_line)) rfl (by rw [txt_len]; exact line_big (by omega))) ?_) ?_)
  · rw [split_txt, e, List.map_map]
    rfl
  have r0 : ∀ env : List Sl, env[1]? = some (.dat (.list ((v :: vs).map fun w => .str (txt w)))) → EvD K Tb (tOp (rIxL K) (tVar 1) (tC (.int 0))) env (.str (txt v)) := fun env h => d_op (d_var h) d_int (r_ixL (d := .str (txt v)) (atI_k (k := 0) rfl))
  refine s_seq (s_if (b := !decide (v = lamps) && (!decide (v.take 6 = lamps ++ [32]) || decide (v = lamps ++ [32]))) (t_and (t_is (t_test (d_op (r0 _ rfl) (d_is d_str (congrArg PyData.str str_lamps)) r_neS)) (by rw [txt_eq])) fun _ => t_or (t_is (t_test (d_op (d_is (d_slS (r0 _ rfl) o_none (o_some d_int) (big v (by omega))) (congrArg PyData.str (cut_to v 6))) (d_is d_str (congrArg PyData.str str_lampsB)) r_neS)) (by rw [txt_eq])) fun _ => t_is (t_test (d_op (r0 _ rfl) (d_is d_str (congrArg PyData.str str_lampsB)) r_eqS)) (txt_eq _ _)) (fun h => ?_) fun h => s_next ?_)
  · refine s_ret d_non ?_
    show _ = optG (gameX x)
    rw [Bool.and_eq_true, Bool.not_eq_true', decide_eq_false_iff_not, Bool.or_eq_true, Bool.not_eq_true', decide_eq_false_iff_not, decide_eq_true_iff] at h
    rw [gX]
    unfold setX
    rw [if_neg h.1, if_neg fun z => ?_]
    · rfl
    · rcases h.2 with q | q
      · exact q z.1
      · exact z.2 (by rw [q]; rfl)
  have hs : setX v = some (v.drop 6) := by
    rw [Bool.and_eq_false_iff, Bool.not_eq_false', decide_eq_true_iff, Bool.or_eq_false_iff, Bool.not_eq_false', decide_eq_true_iff, decide_eq_false_iff_not] at h
    unfold setX
    by_cases hv : v = lamps
    · rw [if_pos hv, hv]
      rfl
    · obtain ⟨h1, h2⟩ := h.resolve_left hv
      have h3 : v.drop 6 ≠ [] := fun z => h2 (by
        have := List.take_append_drop 6 v
        rw [h1, z, List.append_nil] at this
        exact this.symm)
      rw [if_neg hv, if_pos ⟨h1, h3⟩]
  rw [hs] at gX
  refine s_seq (s_asg (d := .list ((vs.map wishX).map optL)) (d_is (d_map (ds := vs.map fun w => .str (txt w)) (fun d => optL (wishX (strL d))) (d_is (d_slL (d_var rfl) (o_some d_int) o_none) (congrArg PyData.list (sl_from ((v :: vs).map fun w => PyData.str (txt w)) 1))) ?_ fun k d hk => ?_) ?_) ?_)
  · rw [List.length_map]
    exact line_lt (by omega)
  · obtain ⟨w, hw, rfl⟩ := map_at hk
    have hm := split_mem (c := 10) (l := x) (p := w) (by rw [e]; exact List.mem_cons_of_mem _ (List.mem_of_getElem? hw))
    have es : strL (.str (txt w)) = w := txt_list w
    rw [es]
    exact d_call (a_cons (d_var rfl) a_nil) ⟨w, rfl, (by show w.length ≤ 1000; omega), rfl⟩
  · rw [List.map_map, List.map_map]
    refine congrArg PyData.list (List.map_congr_left fun w _ => ?_)
    show optL (wishX (strL (.str (txt w)))) = _
    rw [show strL (.str (txt w)) = w from txt_list w]
    rfl
  refine s_seq (s_if (b := decide (none ∈ vs.map wishX)) (t_is (t_test (d_op d_non (d_var rfl) (r_inD rfl (shaped_opts _)))) (any_none _)) (fun h => ?_) fun h => s_next ?_)
  · refine s_ret d_non ?_
    show _ = optG (gameX x)
    rw [gX, allO_none.mpr (of_decide_eq_true h)]
    rfl
  · cases hw : allO (vs.map wishX) with
    | none => exact absurd (allO_none.mp hw) (of_decide_eq_false h)
    | some ws =>
      rw [hw] at gX
      have ew : (vs.map wishX).map optL = ws.map dInts := by rw [allO_some hw, opts_some]
      rw [ew]
      refine s_ret (d_tup (a_cons (d_is (d_slS (r0 _ rfl) (o_some d_int) o_none (big v (by omega))) (congrArg PyData.str (cut_from v 6))) (a_cons (d_var rfl) a_nil)) (line_big (by show 2 ≤ 100000; decide))) ?_
      show _ = optG (gameX x)
      rw [gX]
      rfl
/-! _law_good -/
abbrev g_L_good : List D → D → Prop := GF (fun x : List Nat × List (List Int) => [.tuple [.str (txt x.1), wishesD x.2]]) (fun x => x.1.length ≤ 1000) fun x => .bool (goodG x.1 x.2)
theorem ok_L_good (T : Txt K mg a fd c ec) (TB : ∀ i, i < 1 → GxR.TabB base mg (c i) (p i)) (hT : ∀ i, i < 1 → p i ∈ Tb) : FnOk P w K mg base CX0 1 (a 16) (fd 16) ["_law_game_here"] (PrD K Tb g_L_good) := by
  refine fn_gf T.F_L_good sc_L_good (fun _ => rfl) (fun cdv A outer s H E hr => ⟨_, (pss_cons (ps_for PassesOwn.never rfl (pi_str (pe_ix ix_tup (pv 0) pe_int (fun _ _ => rfl))) (pg_name (i := 1) sc_L_good.nd rfl (.inl rfl))
        (pss_one (ps_if (pt_cmpR op_notIn_seq (pv 1) (pe_tup (pa_cons pe_str (pa_cons pe_str pa_nil))) (by rfl))
        (pss_one (ps_ret pe_bl))
        pss_nil)))
      (pss_cons (ps_for PassesOwn.never rfl (pi_list (pe_ix ix_tup (pv 0) pe_int (fun _ _ => rfl))) (pg_name (i := 2) sc_L_good.nd rfl (.inl rfl))
        (pss_cons (ps_for PassesOwn.never rfl (pi_list (pv 2)) (pg_name (i := 3) sc_L_good.nd rfl (.inl rfl))
        (pss_one (ps_if (pt_cmpR op_gt (pe_callB (call_max2 rfl) (by rfl) T.m_max (by decide +kernel) (pa_cons (pv 3) (pa_cons (pe_un un_neg (pv 3)) pa_nil))) (pe_callB call_len_str (by rfl) T.m_len (by decide +kernel) (pa_cons (pe_ix ix_tup (pv 0) pe_int (fun _ _ => rfl)) pa_nil)) (nomark _))
        (pss_one (ps_ret pe_bl))
        pss_nil)))
      (pss_one (ps_if (pt_cmpR op_gt (pe_callB call_len_seq (by rfl) T.m_len (by decide +kernel) (pa_cons (pv 2) pa_nil)) pe_int (nomark _))
        (pss_one (ps_ret pe_bl))
        pss_nil))))
      (pss_one (ps_ret (pe_and (pe_cmpR op_le (pe_callB call_len_str (by rfl) T.m_len (by decide +kernel) (pa_cons (pe_ix ix_tup (pv 0) pe_int (fun _ _ => rfl)) pa_nil)) pe_int (nomark _)) (pe_one (pe_cmpR op_le (pe_callB call_len_seq (by rfl) T.m_len (by decide +kernel) (pa_cons (pe_ix ix_tup (pv 0) pe_int (fun _ _ => rfl)) pa_nil)) pe_int (nomark _)))))))), fun F0 H0 x hp => ?_⟩)
  obtain ⟨l, ws⟩ := x
  have hp : l.length ≤ 1000 := hp
  have big : (txt l).length ≤ sizeLine := by rw [txt_len]; exact line_big (by omega)
  obtain ⟨G, hG⟩ : ∃ G, PyData.tuple [.str (txt l), wishesD ws] = G := ⟨_, rfl⟩
  refine s_env (env' := [.dat (.tuple [.str (txt l), wishesD ws]), .no, .no, .no]) rfl ?_
  have at0 : ∀ env : List Sl, env[0]? = some (.dat (.tuple [.str (txt l), wishesD ws])) → EvD K Tb (tOp (rIxT K) (tVar 0) (tC (.int 0))) env (.str (txt l)) := fun env h => d_op (d_var h) d_int (r_ixT (d := .str (txt l)) rfl)
  have at1 : ∀ env : List Sl, env[0]? = some (.dat (.tuple [.str (txt l), wishesD ws])) → EvD K Tb (tOp (rIxT K) (tVar 0) (tC (.int 1))) env (wishesD ws) := fun env h => d_op (d_var h) d_int (r_ixT (d := wishesD ws) rfl)
  have len0 : ∀ env : List Sl, env[0]? = some (.dat (.tuple [.str (txt l), wishesD ws])) → EvD K Tb (tCB (fun xs H Q => ∃ z, xs = [V.str z] ∧ z.length ≤ sizeLine ∧ Q (.int z.length) H) (tCons (tOp (rIxT K) (tVar 0) (tC (.int 0))) tNil)) env (.int (l.length : Nat)) := fun env h => d_is (d_cb (a_cons (at0 _ h) a_nil) (r_lenS (z := txt l) big)) (by rw [txt_len])
  have bad1 : ∀ c ∈ l, foB c = false → PyData.bool false = .bool (goodG l ws) := fun c hc h => by
    unfold goodG
    rw [show l.all foB = false from List.all_eq_false.mpr ⟨c, hc, by rw [h]; decide⟩]
    rfl
  have bad2 : ∀ w ∈ ws, goodW l.length w = false → PyData.bool false = .bool (goodG l ws) := fun w hw h => by
    unfold goodG
    rw [show ws.all (goodW l.length) = false from List.all_eq_false.mpr ⟨w, hw, by rw [h]; decide⟩, Bool.and_false, Bool.false_and]
  refine s_seq (s_forS (z := txt l) (at0 _ rfl) (fun k e => ∃ y, e = [.dat (.tuple [.str (txt l), wishesD ws]), y, .no, .no] ∧ (l.take k).all foB = true) ⟨.no, rfl, rfl⟩ ?_ ?_)
  · rintro k c _ hc ⟨y, rfl, ha⟩
    rw [txt_at] at hc
    refine s_if (b := !foB c) (t_is (t_test (d_op (d_var rfl) (d_tup (xs := (["f", "o"] : List Str).map PyData.str) (a_cons d_str (a_cons d_str a_nil)) (line_big (by show 2 ≤ 100000; decide))) (r_notinT (ss := (["f", "o"] : List Str))))) ?_) (fun h2 => s_ret d_bl (bad1 c (List.mem_of_getElem? hc) (by simpa using h2))) fun h2 => s_next ⟨.dat (.str ⟨#[c]⟩), rfl, ?_⟩
    · congr 1
      unfold foB
      rw [Bool.eq_iff_iff, Bool.or_eq_true, decide_eq_true_iff, decide_eq_true_iff, decide_eq_true_iff]
      show (⟨#[c]⟩ : Str) ∈ [Str.ofString "f", Str.ofString "o"] ↔ _
      rw [str_f, str_o, List.mem_cons, List.mem_singleton, txt_one]
      constructor
      · rintro (h | h)
        · exact .inl (by have := txt_inj h; simpa using this)
        · exact .inr (by have := txt_inj h; simpa using this)
      · rintro (rfl | rfl)
        · exact .inl rfl
        · exact .inr rfl
    · rw [List.take_add_one, hc, List.all_append, ha]
      show (true && (foB c && true)) = true
      rw [show foB c = true by simpa using h2]
      rfl
  rintro _ ⟨y, rfl, ha⟩
  rw [txt_size, List.take_length] at ha
  refine s_seq (s_forL (at1 _ rfl) (fun k e => ∃ y2 y3, e = [.dat (.tuple [.str (txt l), wishesD ws]), y, y2, y3] ∧ (ws.take k).all (goodW l.length) = true) ⟨.no, .no, rfl, rfl⟩ ?_ ?_)
  · rintro k d _ hk ⟨y2, y3, rfl, hb⟩
    obtain ⟨w, hw, rfl⟩ := map_at hk
    refine s_seq (s_forL (d_var rfl) (fun i e => ∃ y3, e = [.dat (.tuple [.str (txt l), wishesD ws]), y, .dat (dInts w), y3] ∧ ((w.take i).all fun n => decide (lampN n ≤ l.length)) = true) ⟨y3, rfl, rfl⟩ ?_ ?_)
    · rintro i d _ hi ⟨y3, rfl, hc⟩
      obtain ⟨n, hn, rfl⟩ := map_at hi
      refine s_if (b := !decide (lampN n ≤ l.length)) (t_is (t_test (d_op (d_cb (a_cons (d_var rfl) (a_cons (d_un (d_var rfl) r_neg) a_nil)) r_max2) (len0 _ rfl) r_bool)) ?_) (fun h => ?_) fun h => s_next ⟨.dat (.int n), rfl, ?_⟩
      · rw [← decide_not]
        refine decide_eq_decide.mpr ?_
        unfold lampN
        split <;> omega
      · refine s_ret d_bl (bad2 w (List.mem_of_getElem? hw) ?_)
        unfold goodW
        rw [show (w.all fun n => decide (lampN n ≤ l.length)) = false from List.all_eq_false.mpr ⟨n, List.mem_of_getElem? hn, by simpa using h⟩]
        rfl
      · rw [List.take_add_one, hn, List.all_append, hc]
        show (true && (decide (lampN n ≤ l.length) && true)) = true
        rw [show decide (lampN n ≤ l.length) = true by simpa using h]
        rfl
    rintro _ ⟨y3, rfl, hc⟩
    rw [List.length_map, List.take_length] at hc
    refine s_if (b := decide (10 < w.length)) (t_is (t_test (d_op (d_cb (a_cons (d_var rfl) a_nil) r_lenL) d_int r_bool)) ?_) (fun h => ?_) fun h => s_next ⟨.dat (dInts w), y3, rfl, ?_⟩
    · rw [List.length_map]
      exact decide_eq_decide.mpr (by omega)
    · refine s_ret d_bl (bad2 w (List.mem_of_getElem? hw) ?_)
      unfold goodW
      rw [decide_eq_false (show ¬ w.length ≤ 10 by have := of_decide_eq_true h; omega), Bool.and_false]
    · rw [List.take_add_one, hw, List.all_append, hb]
      show (true && (goodW l.length w && true)) = true
      unfold goodW
      rw [hc, decide_eq_true (show w.length ≤ 10 by have := of_decide_eq_false h; omega)]
      rfl
  rintro _ ⟨y2, y3, rfl, hb⟩
  rw [List.length_map, List.take_length] at hb
  refine s_ret (d_andV (a := decide (l.length ≤ 10)) (b := decide (ws.length ≤ 20)) (d_is (d_op (len0 _ rfl) d_int r_bool) ?_) fun _ => d_is (d_op (d_cb (a_cons (at1 _ rfl) a_nil) r_lenL) d_int r_bool) ?_) ?_
  · exact congrArg PyData.bool (decide_eq_decide.mpr (by omega))
  · rw [List.length_map]
    exact congrArg PyData.bool (decide_eq_decide.mpr (by omega))
  · show _ = PyData.bool (goodG l ws)
    unfold goodG
    rw [ha, hb]
    rfl
/-! _law_refused -/
abbrev g_L_refused : List D → D → Prop := GF (fun x : List Nat × Bool => [.str (txt x.1), .bool x.2]) (fun x => x.1.length ≤ 999 ∧ Asc x.1 ∧ ((x.2 = false ∧ gameX x.1 = none) ∨ (x.2 = true ∧ ∃ s ws, gameX x.1 = some (s, ws) ∧ okG s ws = false))) fun _ => .bool true
theorem ok_L_refused (T : Txt K mg a fd c ec) (TB : ∀ i, i < 1 → GxR.TabB base mg (c i) (p i)) (hT : ∀ i, i < 1 → p i ∈ Tb) : FnOk P w K mg base CX0 5 (a 17) (fd 17) ["_law_text_here", "_law_by_game"] (PrD K Tb g_L_refused) := by
  have G_read : FnOk P w K mg base (L2.CX P w) _ _ _ _ (PrX K Tb (g_read (ec := ec))) := ok_read T TB hT
  refine fn_gf T.F_L_refused sc_L_refused (fun _ => rfl) (fun cdv A outer s H E hr => ⟨_, (pss_cons (TC.ps_try_cl (tb := fun W => tDrop (tCallS (PrX K Tb (g_read (ec := ec))) (WE W) (tCons (tVar 0) tNil))) rfl rfl
        (fun W pn xe tk => pss_one (ps_expr (pe_callS G_read hr (by rfl) T.g_read T.F_read.kp T.b_read (fun σ => passAt tk σ) (pa_cons (pv 0) pa_nil))))
        (TC.cl_as (i := 2) rfl sc_L_refused.nd rfl rfl ⟨rfl, by decide, .inl T.gc_BadGame⟩ (fun a oe cls d pn hz hf => (pss_one (ps_ret (pe_and (pv 1) (pe_and (pe_callB (call_isG T.ec_BadGame hz hf) (by rfl) T.m_isinstance (by decide +kernel) (pa_cons (pv 2) (pa_cons (pe_glob (v := .ref (ec 0)) rfl T.gc_WishError rfl) pa_nil))) (pe_one (pe_not (pe_callB (call_isG T.ec_BadGame hz hf) (by rfl) T.m_isinstance (by decide +kernel) (pa_cons (pv 2) (pa_cons (pe_glob (v := .ref (ec 3)) rfl T.gc_BadText rfl) pa_nil))))))))))
        (TC.cl_as (i := 2) rfl sc_L_refused.nd rfl rfl ⟨rfl, by decide, .inl T.gc_BadText⟩ (fun a oe cls d pn hz hf => (pss_one (ps_ret (pe_and (pe_not (pv 1)) (pe_and (pe_callB (call_isG T.ec_BadText hz hf) (by rfl) T.m_isinstance (by decide +kernel) (pa_cons (pv 2) (pa_cons (pe_glob (v := .ref (ec 0)) rfl T.gc_WishError rfl) pa_nil))) (pe_one (pe_not (pe_callB (call_isG T.ec_BadText hz hf) (by rfl) T.m_isinstance (by decide +kernel) (pa_cons (pv 2) (pa_cons (pe_glob (v := .ref (ec 2)) rfl T.gc_BadRow rfl) pa_nil))))))))))
        (TC.cl_nil (Wout := fun _ _ _ _ => False) rfl rfl takes0))))
      (pss_one (ps_ret pe_bl))), fun F0 H0 x hp => ?_⟩)
  obtain ⟨l, b⟩ := x
  obtain ⟨hl, ha, hc⟩ : l.length ≤ 999 ∧ Asc l ∧ ((b = false ∧ gameX l = none) ∨ (b = true ∧ ∃ s ws, gameX l = some (s, ws) ∧ okG s ws = false)) := hp
  refine s_env (env' := [.dat (.str (txt l)), .dat (.bool b), .no]) rfl ?_
  refine s_seq (s_try2 (a_cons (d_var rfl) a_nil) ⟨l, rfl, ⟨hl, ha⟩, rfl⟩ (fun d e => ?_) fun cl e => ?_)
  · exfalso
    have e : readR (ec 3) (ec 1) (gameX l) = Res.ok d := e
    rcases hc with ⟨_, h⟩ | ⟨_, s, ws, h, no⟩
    · rw [h] at e
      cases e
    · rw [h] at e
      have e : (if okG s ws then Res.ok (.tuple [.str (txt s), wishesD ws]) else .bad (ec 1)) = Res.ok d := e
      rw [no] at e
      cases e
  · have e : readR (ec 3) (ec 1) (gameX l) = Res.bad cl := e
    rcases hc with ⟨rfl, h⟩ | ⟨rfl, s, ws, h, no⟩
    · rw [h] at e
      cases e
      refine .inr ⟨exm_own T.bc_BadGame T.ic_BadGame T.tc_BadGame T.su_BadText_BadGame, exm_own T.bc_BadText T.ic_BadText T.tc_BadText T.su_BadText_BadText, fun a' => ?_⟩
      exact s_ret (d_andV (a := true) (d_notV (a := false) (d_var rfl)) fun _ => d_andV (a := true) (d_isG rfl (kit_own T.ic_WishError T.tc_WishError T.su_BadText_WishError T.su_BadText_BadText) fun _ z => z) fun _ =>
        d_notV (d_isG (b := false) rfl (kit_own T.ic_BadRow T.tc_BadRow T.su_BadText_BadRow T.su_BadText_BadText) fun _ z => z)) rfl
    · rw [h] at e
      have e : (if okG s ws then Res.ok (.tuple [.str (txt s), wishesD ws]) else .bad (ec 1)) = Res.bad cl := e
      rw [no] at e
      cases e
      refine .inl ⟨exm_own T.bc_BadGame T.ic_BadGame T.tc_BadGame T.su_BadGame_BadGame, fun a' => ?_⟩
      exact s_ret (d_andV (a := true) (d_var rfl) fun _ => d_andV (a := true) (d_isG rfl (kit_own T.ic_WishError T.tc_WishError T.su_BadGame_WishError T.su_BadGame_BadGame) fun _ z => z) fun _ =>
        d_notV (d_isG (b := false) rfl (kit_own T.ic_BadText T.tc_BadText T.su_BadGame_BadText T.su_BadGame_BadGame) fun _ z => z)) rfl
/-! _law_alike -/
abbrev g_L_alike : List D → D → Prop := GF (fun x : List Nat × List (List Int) => [.tuple [.str (txt x.1), wishesD x.2], .tuple [.str (txt x.1), wishesD x.2]]) (fun x => Asc x.1) fun _ => .bool true
theorem ok_L_alike (T : Txt K mg a fd c ec) (TB : ∀ i, i < 1 → GxR.TabB base mg (c i) (p i)) (hT : ∀ i, i < 1 → p i ∈ Tb) : FnOk P w K mg base CX0 1 (a 18) (fd 18) ["_law_found", "_law_due"] (PrD K Tb g_L_alike) := by
  refine fn_gf T.F_L_alike sc_L_alike (fun _ => rfl) (fun cdv A outer s H E hr => ⟨_, (pss_cons (ps_if (PW.pt (pw_or (pt_not (pt_val (pe_callB call_isi (by rfl) T.m_isinstance (by decide +kernel) (pa_cons (pv 0) (pa_cons (pe_bltn (v := .ty "tuple") (by rfl) T.m_tuple (by decide +kernel) rfl) pa_nil))))) (pw_or1 (pt_cmpR op_ne (pe_callB call_len_seq (by rfl) T.m_len (by decide +kernel) (pa_cons (pv 0) pa_nil)) pe_int (nomark _)))))
        (pss_one (ps_ret pe_bl))
        pss_nil)
      (pss_cons (ps_if (PW.pt (pw_or (pt_not (pt_val (pe_callB call_isi (by rfl) T.m_isinstance (by decide +kernel) (pa_cons (pe_ix ix_tup (pv 0) pe_int (fun _ _ => rfl)) (pa_cons (pe_bltn (v := .ty "str") (by rfl) T.m_str (by decide +kernel) rfl) pa_nil))))) (pw_or1 (pt_not (pt_val (pe_callB call_isi (by rfl) T.m_isinstance (by decide +kernel) (pa_cons (pe_ix ix_tup (pv 0) pe_int (fun _ _ => rfl)) (pa_cons (pe_bltn (v := .ty "list") (by rfl) T.m_list (by decide +kernel) rfl) pa_nil))))))))
        (pss_one (ps_ret pe_bl))
        pss_nil)
      (pss_cons (ps_for PassesOwn.never rfl (pi_list (pe_ix ix_tup (pv 0) pe_int (fun _ _ => rfl))) (pg_name (i := 2) sc_L_alike.nd rfl (.inl rfl))
        (pss_cons (ps_if (pt_not (pt_val (pe_callB call_isi (by rfl) T.m_isinstance (by decide +kernel) (pa_cons (pv 2) (pa_cons (pe_bltn (v := .ty "list") (by rfl) T.m_list (by decide +kernel) rfl) pa_nil)))))
        (pss_one (ps_ret pe_bl))
        pss_nil)
      (pss_one (ps_for PassesOwn.never rfl (pi_list (pv 2)) (pg_name (i := 3) sc_L_alike.nd rfl (.inl rfl))
        (pss_one (ps_if (PW.pt (pw_or (pt_not (pt_val (pe_callB call_isi (by rfl) T.m_isinstance (by decide +kernel) (pa_cons (pv 3) (pa_cons (pe_bltn (v := .ty "int") (by rfl) T.m_int (by decide +kernel) rfl) pa_nil))))) (pw_or1 (pt_val (pe_callB call_isi (by rfl) T.m_isinstance (by decide +kernel) (pa_cons (pv 3) (pa_cons (pe_bltn (v := .ty "bool") (by rfl) T.m_bool (by decide +kernel) rfl) pa_nil)))))))
        (pss_one (ps_ret pe_bl))
        pss_nil))))))
      (pss_one (ps_ret (pe_cmpR (op_eqD hr.units) (pv 0) (pv 1) (nomark _))))))), fun F0 H0 x hp => ?_⟩)
  obtain ⟨l, ws⟩ := x
  obtain ⟨G, hG⟩ : ∃ G, PyData.tuple [.str (txt l), wishesD ws] = G := ⟨_, rfl⟩
  refine s_env (env' := [.dat (.tuple [.str (txt l), wishesD ws]), .dat (.tuple [.str (txt l), wishesD ws]), .no, .no]) rfl ?_
  have at0 : ∀ env : List Sl, env[0]? = some (.dat (.tuple [.str (txt l), wishesD ws])) → EvD K Tb (tOp (rIxT K) (tVar 0) (tC (.int 0))) env (.str (txt l)) := fun env h => d_op (d_var h) d_int (r_ixT (d := .str (txt l)) rfl)
  have at1 : ∀ env : List Sl, env[0]? = some (.dat (.tuple [.str (txt l), wishesD ws])) → EvD K Tb (tOp (rIxT K) (tVar 0) (tC (.int 1))) env (wishesD ws) := fun env h => d_op (d_var h) d_int (r_ixT (d := wishesD ws) rfl)
  refine s_seq (s_if (b := false) (t_is (t_or (t_not (t_test (d_isi (b := true) (d_var rfl) (kit_ty (a := "tuple") (by decide +kernel))))) fun _ => t_test (d_op (d_cb (a_cons (d_var rfl) a_nil) r_lenT) d_int r_neI)) rfl) (fun z => nomatch z) fun _ => s_next ?_)
  refine s_seq (s_if (b := false) (t_is (t_or (t_not (t_test (d_isi (b := true) (at0 _ rfl) (kit_ty (a := "str") (by decide +kernel))))) fun _ => t_not (t_test (d_isi (b := true) (at1 _ rfl) (kit_ty (a := "list") (by decide +kernel))))) rfl) (fun z => nomatch z) fun _ => s_next ?_)
  refine s_seq (s_forL (at1 _ rfl) (fun k e => ∃ y3 y4, e = [.dat (.tuple [.str (txt l), wishesD ws]), .dat (.tuple [.str (txt l), wishesD ws]), y3, y4]) ⟨.no, .no, rfl⟩ ?_ ?_)
  · rintro k d _ hk ⟨y3, y4, rfl⟩
    obtain ⟨w, hw, rfl⟩ := map_at hk
    refine s_seq (s_if (b := false) (t_is (t_not (t_test (d_isi (b := true) (d_var rfl) (kit_ty (a := "list") (by decide +kernel))))) rfl) (fun z => nomatch z) fun _ => s_next ?_)
    refine s_forL (d_var rfl) (fun i e => ∃ y4, e = [.dat (.tuple [.str (txt l), wishesD ws]), .dat (.tuple [.str (txt l), wishesD ws]), .dat (dInts w), y4]) ⟨y4, rfl⟩ ?_ fun e ⟨y4, he⟩ => ⟨.dat (dInts w), y4, he⟩
    rintro i d _ hi ⟨y4, rfl⟩
    obtain ⟨n, hn, rfl⟩ := map_at hi
    exact s_if (b := false) (t_is (t_or (t_not (t_test (d_isi (b := true) (d_var rfl) (kit_ty (a := "int") (by decide +kernel))))) fun _ => t_test (d_isi (b := false) (d_var rfl) (kit_ty (a := "int") (by decide +kernel)))) rfl) (fun z => nomatch z) fun _ => s_next ⟨_, rfl⟩
  · rintro _ ⟨y3, y4, rfl⟩
    refine s_ret (d_op (d_var rfl) (d_var rfl) (r_eqD (shaped_text hp ws) (shaped_text hp ws))) ?_
    rw [eqv_self (shaped_text hp ws)]
/-! law -/
abbrev g_law : List D → D → Prop := GF (fun ns : List Int => [dInts ns]) (fun ns => ns.length ≤ 63) fun _ => .bool true
theorem ok_law (T : Txt K mg a fd c ec) (TB : ∀ i, i < 1 → GxR.TabB base mg (c i) (p i)) (hT : ∀ i, i < 1 → p i ∈ Tb) : FnOk P w K mg base CX0 6 (a 19) (fd 19) ["_law_script"] (PrD K Tb g_law) := by
  have G_L_alike : FnOk P w K mg base CX0 _ _ _ _ (PrD K Tb g_L_alike) := ok_L_alike T TB hT
  have G_L_game : FnOk P w K mg base CX0 _ _ _ _ (PrD K Tb g_L_game) := ok_L_game T TB hT
  have G_L_good : FnOk P w K mg base CX0 _ _ _ _ (PrD K Tb g_L_good) := ok_L_good T TB hT
  have G_L_refused : FnOk P w K mg base CX0 _ _ _ _ (PrD K Tb g_L_refused) := ok_L_refused T TB hT
  have G_L_text : FnOk P w K mg base CX0 _ _ _ _ (PrR K Tb (RP arg_L_text pre_L_text) (RQ arg_L_text pre_L_text post_L_text)) := ok_L_text T TB hT
  have G_read : FnOk P w K mg base (L2.CX P w) _ _ _ _ (PrX K Tb (g_read (ec := ec))) := ok_read T TB hT
  refine fn_gf T.F_law sc_law (fun _ => rfl) (fun cdv A outer s H E hr => ⟨_, (pss_cons (ps_set (i := 1) sc_law.nd rfl (.inl rfl) (pe_call G_L_text (hr.mono (by decide)) (by rfl) T.g_L_text T.F_L_text.kp T.b_L_text .nil pass0 (pa_cons (pv 0) pa_nil)))
      (pss_cons (ps_set (i := 2) sc_law.nd rfl (.inl rfl) (pe_call G_L_game (hr.mono (by decide)) (by rfl) T.g_L_game T.F_L_game.kp T.b_L_game .nil pass0 (pa_cons (pv 1) pa_nil)))
      (pss_cons (ps_if (pt_cmpR op_isN (pv 2) pe_non (nomark _))
        (pss_one (ps_ret (pe_call G_L_refused hr (by rfl) T.g_L_refused T.F_L_refused.kp T.b_L_refused .nil pass0 (pa_cons (pv 1) (pa_cons pe_bl pa_nil)))))
        pss_nil)
      (pss_cons (ps_if (pt_not (pt_val (pe_call G_L_good (hr.mono (by decide)) (by rfl) T.g_L_good T.F_L_good.kp T.b_L_good .nil pass0 (pa_cons (pv 2) pa_nil))))
        (pss_one (ps_ret (pe_call G_L_refused hr (by rfl) T.g_L_refused T.F_L_refused.kp T.b_L_refused .nil pass0 (pa_cons (pv 1) (pa_cons pe_bl pa_nil)))))
        pss_nil)
      (pss_one (ps_ret (pe_call G_L_alike (hr.mono (by decide)) (by rfl) T.g_L_alike T.F_L_alike.kp T.b_L_alike .nil pass0 (pa_cons (pe_call G_read (hr.mono (by decide)) (by rfl) T.g_read T.F_read.kp T.b_read .nil passL (pa_cons (pv 1) pa_nil)) (pa_cons (pv 2) pa_nil))))))))), fun F0 H0 x hp => ?_⟩)
  refine s_env (env' := [.dat (dInts x), .no, .no]) rfl ?_
  refine s_seq (s_asgR (x := x) (a_cons (d_var rfl) a_nil) trivial fun d hd => ?_)
  obtain ⟨l, rfl, hl, ha⟩ := hd
  refine s_seq (s_asg (d := optG (gameX l)) (d_call (a_cons (d_var rfl) a_nil) ⟨l, rfl, hl, rfl⟩) ?_)
  cases hg : gameX l with
  | none =>
    refine s_seq (s_if (t_test (d_op (d_var rfl) d_non r_isN)) (fun _ => ?_) fun z => nomatch z)
    exact s_ret (d_call (a_cons (d_var rfl) (a_cons d_bl a_nil)) ⟨(l, false), rfl, ⟨hl, ha, .inl ⟨rfl, hg⟩⟩, rfl⟩) rfl
  | some g =>
    obtain ⟨s, ws⟩ := g
    obtain ⟨g1, g2, g3, g4⟩ := game_ok hg
    refine s_seq (s_if (t_test (d_op (d_var rfl) d_non r_isN)) (fun z => nomatch z) fun _ => s_next ?_)
    have gk := good_ok (l := s) g4
    refine s_seq (s_if (b := !goodG s ws) (t_not (t_B (d_call (a_cons (d_var rfl) a_nil) ⟨(s, ws), rfl, (by show s.length ≤ 1000; omega), rfl⟩))) (fun h => ?_) fun h => s_next ?_)
    · have no : okG s ws = false := by rw [← gk]; simpa using h
      exact s_ret (d_call (a_cons (d_var rfl) (a_cons d_bl a_nil)) ⟨(l, true), rfl, ⟨hl, ha, .inr ⟨rfl, s, ws, hg, no⟩⟩, rfl⟩) rfl
    · have ok : okG s ws = true := by rw [← gk]; simpa using h
      refine s_ret (d_call (a_cons (d_callX (z := .tuple [.str (txt s), wishesD ws]) (a_cons (d_var rfl) a_nil) ⟨l, rfl, ⟨hl, ha⟩, ?_⟩) (a_cons (d_var rfl) a_nil)) ⟨(s, ws), rfl, asc_sub ha g1, rfl⟩) rfl
      show Res.ok _ = readR _ _ (gameX l)
      rw [hg]
      show _ = (if okG s ws then _ else _)
      rw [if_pos ok]
end
theorem all_mk {l : PySem.W.OpenLaw} {q : Program} {w : World} {K : PySem.W.Frag} {h : Heap} {mg : Str → Option Value} {fa : Addr} (X : K.In h) (G : h.Ns mainGlobals mg) (hfa : mg "law" = some (.ref fa))
    (tabs : ∀ (y : Str) (e : DefRec) (c P : Addr), (recsOf q).find? (fun e => e.name == y) = some e → PySem.W.tabIn K y = some (c, P) → PySem.W.CodeHd h c P ∧ h.get? P = some (PySem.W.tabObj #[]))
    {f0 f1 f2 f3 f4 f5 f6 f7 f8 f9 f10 f11 f12 f13 f14 f15 f16 f17 f18 f19 : Addr} {oc0 kV0 dc0 pm0 ct0 cd0 oc1 kV1 dc1 pm1 ct1 cd1 oc2 kV2 dc2 pm2 ct2 cd2 oc3 kV3 dc3 pm3 ct3 cd3 oc4 kV4 dc4 pm4 ct4 cd4 oc5 kV5 dc5 pm5 ct5 cd5 oc6 kV6 dc6 pm6 ct6 oc7 kV7 dc7 pm7 ct7 cd7 oc8 kV8 dc8 pm8 ct8 cd8 oc9 kV9 dc9 pm9 ct9 cd9 oc10 kV10 dc10 pm10 ct10 cd10 oc11 kV11 dc11 pm11 ct11 cd11 oc12 kV12 dc12 pm12 ct12 cd12 oc13 kV13 dc13 pm13 ct13 cd13 oc14 kV14 dc14 pm14 ct14 cd14 oc15 kV15 dc15 pm15 ct15 cd15 oc16 kV16 dc16 pm16 ct16 cd16 oc17 kV17 dc17 pm17 ct17 cd17 oc18 kV18 dc18 pm18 ct18 cd18 oc19 kV19 dc19 pm19 ct19 cd19 : Value} {od0 an0 od1 an1 od2 an2 od3 an3 od4 an4 od5 an5 od6 an6 od7 an7 od8 an8 od9 an9 od10 an10 od11 an11 od12 an12 od13 an13 od14 an14 od15 an15 od16 an16 od17 an17 od18 an18 od19 an19 : Option Addr} {sl0 sl1 sl2 sl3 sl4 sl5 sl6 sl7 sl8 sl9 sl10 sl11 sl12 sl13 sl14 sl15 sl16 sl17 sl18 sl19 : Array (Option Value)}
    {c6 P6 : Addr} {occ6 : Value} {odc6 : Option Addr} {vs6 : Array Value} {slc6 : Array (Option Value)} {rec6 : DefRec}
    {tk_MOST_LAMPS tk_MOST_WISHES tk_MOST_NUMBERS tk_FIGURES tk_MOST_FIGURES : Tok}
    {e0 e1 e2 e3 : Addr}
    (a0 : PySem.W.nsIn K mainGlobals "check" = some (some (.ref f0)))
    (l0 : K.lookup f0 = some ⟨oc0, od0, .func (PySem.W.fnOf "check" "check" (defArgs s_check) (defBody s_check) (defScope s_check) .none kV0 dc0 pm0 an0 cd0 ct0), sl0⟩)
    (c0_ : PySem.W.codeIn K cd0 "check" = true)
    (k0 : PySem.W.keepIn K (.ref f0) = true)
    (a1 : PySem.W.nsIn K mainGlobals "check_setters" = some (some (.ref f1)))
    (l1 : K.lookup f1 = some ⟨oc1, od1, .func (PySem.W.fnOf "check_setters" "check_setters" (defArgs s_check_setters) (defBody s_check_setters) (defScope s_check_setters) .none kV1 dc1 pm1 an1 cd1 ct1), sl1⟩)
    (c1_ : PySem.W.codeIn K cd1 "check_setters" = true)
    (k1 : PySem.W.keepIn K (.ref f1) = true)
    (a2 : PySem.W.nsIn K mainGlobals "check_wish" = some (some (.ref f2)))
    (l2 : K.lookup f2 = some ⟨oc2, od2, .func (PySem.W.fnOf "check_wish" "check_wish" (defArgs s_check_wish) (defBody s_check_wish) (defScope s_check_wish) .none kV2 dc2 pm2 an2 cd2 ct2), sl2⟩)
    (c2_ : PySem.W.codeIn K cd2 "check_wish" = true)
    (k2 : PySem.W.keepIn K (.ref f2) = true)
    (a3 : PySem.W.nsIn K mainGlobals "read" = some (some (.ref f3)))
    (l3 : K.lookup f3 = some ⟨oc3, od3, .func (PySem.W.fnOf "read" "read" (defArgs s_read) (defBody s_read) (defScope s_read) .none kV3 dc3 pm3 an3 cd3 ct3), sl3⟩)
    (c3_ : PySem.W.codeIn K cd3 "read" = true)
    (k3 : PySem.W.keepIn K (.ref f3) = true)
    (a4 : PySem.W.nsIn K mainGlobals "read_setters" = some (some (.ref f4)))
    (l4 : K.lookup f4 = some ⟨oc4, od4, .func (PySem.W.fnOf "read_setters" "read_setters" (defArgs s_read_setters) (defBody s_read_setters) (defScope s_read_setters) .none kV4 dc4 pm4 an4 cd4 ct4), sl4⟩)
    (c4_ : PySem.W.codeIn K cd4 "read_setters" = true)
    (k4 : PySem.W.keepIn K (.ref f4) = true)
    (a5 : PySem.W.nsIn K mainGlobals "read_wish" = some (some (.ref f5)))
    (l5 : K.lookup f5 = some ⟨oc5, od5, .func (PySem.W.fnOf "read_wish" "read_wish" (defArgs s_read_wish) (defBody s_read_wish) (defScope s_read_wish) .none kV5 dc5 pm5 an5 cd5 ct5), sl5⟩)
    (c5_ : PySem.W.codeIn K cd5 "read_wish" = true)
    (k5 : PySem.W.keepIn K (.ref f5) = true)
    (a6 : PySem.W.nsIn K mainGlobals "read_number" = some (some (.ref f6)))
    (l6 : K.lookup f6 = some ⟨oc6, od6, .func (PySem.W.fnOf "read_number" "read_number" (defArgs s_read_number) (defBody s_read_number) (defScope s_read_number) .none kV6 dc6 pm6 an6 (.ref c6) ct6), sl6⟩)
    (c6_ : PySem.W.codeIn K (.ref c6) "read_number" = true)
    (k6 : PySem.W.keepIn K (.ref f6) = true)
    (lc6 : K.lookup c6 = some ⟨occ6, odc6, .fields vs6, slc6⟩)
    (hv6 : vs6[11]? = some (.ref P6))
    (rc6 : (recsOf q).find? (fun e => e.name == ("read_number" : Str)) = some rec6)
    (a7 : PySem.W.nsIn K mainGlobals "_law_cell_at" = some (some (.ref f7)))
    (l7 : K.lookup f7 = some ⟨oc7, od7, .func (PySem.W.fnOf "_law_cell_at" "_law_cell_at" (defArgs s_L_cell_at) (defBody s_L_cell_at) (defScope s_L_cell_at) .none kV7 dc7 pm7 an7 cd7 ct7), sl7⟩)
    (c7_ : PySem.W.codeIn K cd7 "_law_cell_at" = true)
    (k7 : PySem.W.keepIn K (.ref f7) = true)
    (a8 : PySem.W.nsIn K mainGlobals "_law_first" = some (some (.ref f8)))
    (l8 : K.lookup f8 = some ⟨oc8, od8, .func (PySem.W.fnOf "_law_first" "_law_first" (defArgs s_L_first) (defBody s_L_first) (defScope s_L_first) .none kV8 dc8 pm8 an8 cd8 ct8), sl8⟩)
    (c8_ : PySem.W.codeIn K cd8 "_law_first" = true)
    (k8 : PySem.W.keepIn K (.ref f8) = true)
    (a9 : PySem.W.nsIn K mainGlobals "_law_next" = some (some (.ref f9)))
    (l9 : K.lookup f9 = some ⟨oc9, od9, .func (PySem.W.fnOf "_law_next" "_law_next" (defArgs s_L_next) (defBody s_L_next) (defScope s_L_next) .none kV9 dc9 pm9 an9 cd9 ct9), sl9⟩)
    (c9_ : PySem.W.codeIn K cd9 "_law_next" = true)
    (k9 : PySem.W.keepIn K (.ref f9) = true)
    (a10 : PySem.W.nsIn K mainGlobals "_law_sign_by" = some (some (.ref f10)))
    (l10 : K.lookup f10 = some ⟨oc10, od10, .func (PySem.W.fnOf "_law_sign_by" "_law_sign_by" (defArgs s_L_sign_by) (defBody s_L_sign_by) (defScope s_L_sign_by) .none kV10 dc10 pm10 an10 cd10 ct10), sl10⟩)
    (c10_ : PySem.W.codeIn K cd10 "_law_sign_by" = true)
    (k10 : PySem.W.keepIn K (.ref f10) = true)
    (a11 : PySem.W.nsIn K mainGlobals "_law_great" = some (some (.ref f11)))
    (l11 : K.lookup f11 = some ⟨oc11, od11, .func (PySem.W.fnOf "_law_great" "_law_great" (defArgs s_L_great) (defBody s_L_great) (defScope s_L_great) .none kV11 dc11 pm11 an11 cd11 ct11), sl11⟩)
    (c11_ : PySem.W.codeIn K cd11 "_law_great" = true)
    (k11 : PySem.W.keepIn K (.ref f11) = true)
    (a12 : PySem.W.nsIn K mainGlobals "_law_text" = some (some (.ref f12)))
    (l12 : K.lookup f12 = some ⟨oc12, od12, .func (PySem.W.fnOf "_law_text" "_law_text" (defArgs s_L_text) (defBody s_L_text) (defScope s_L_text) .none kV12 dc12 pm12 an12 cd12 ct12), sl12⟩)
    (c12_ : PySem.W.codeIn K cd12 "_law_text" = true)
    (k12 : PySem.W.keepIn K (.ref f12) = true)
    (a13 : PySem.W.nsIn K mainGlobals "_law_number" = some (some (.ref f13)))
    (l13 : K.lookup f13 = some ⟨oc13, od13, .func (PySem.W.fnOf "_law_number" "_law_number" (defArgs s_L_number) (defBody s_L_number) (defScope s_L_number) .none kV13 dc13 pm13 an13 cd13 ct13), sl13⟩)
    (c13_ : PySem.W.codeIn K cd13 "_law_number" = true)
    (k13 : PySem.W.keepIn K (.ref f13) = true)
    (a14 : PySem.W.nsIn K mainGlobals "_law_wish" = some (some (.ref f14)))
    (l14 : K.lookup f14 = some ⟨oc14, od14, .func (PySem.W.fnOf "_law_wish" "_law_wish" (defArgs s_L_wish) (defBody s_L_wish) (defScope s_L_wish) .none kV14 dc14 pm14 an14 cd14 ct14), sl14⟩)
    (c14_ : PySem.W.codeIn K cd14 "_law_wish" = true)
    (k14 : PySem.W.keepIn K (.ref f14) = true)
    (a15 : PySem.W.nsIn K mainGlobals "_law_game" = some (some (.ref f15)))
    (l15 : K.lookup f15 = some ⟨oc15, od15, .func (PySem.W.fnOf "_law_game" "_law_game" (defArgs s_L_game) (defBody s_L_game) (defScope s_L_game) .none kV15 dc15 pm15 an15 cd15 ct15), sl15⟩)
    (c15_ : PySem.W.codeIn K cd15 "_law_game" = true)
    (k15 : PySem.W.keepIn K (.ref f15) = true)
    (a16 : PySem.W.nsIn K mainGlobals "_law_good" = some (some (.ref f16)))
    (l16 : K.lookup f16 = some ⟨oc16, od16, .func (PySem.W.fnOf "_law_good" "_law_good" (defArgs s_L_good) (defBody s_L_good) (defScope s_L_good) .none kV16 dc16 pm16 an16 cd16 ct16), sl16⟩)
    (c16_ : PySem.W.codeIn K cd16 "_law_good" = true)
    (k16 : PySem.W.keepIn K (.ref f16) = true)
    (a17 : PySem.W.nsIn K mainGlobals "_law_refused" = some (some (.ref f17)))
    (l17 : K.lookup f17 = some ⟨oc17, od17, .func (PySem.W.fnOf "_law_refused" "_law_refused" (defArgs s_L_refused) (defBody s_L_refused) (defScope s_L_refused) .none kV17 dc17 pm17 an17 cd17 ct17), sl17⟩)
    (c17_ : PySem.W.codeIn K cd17 "_law_refused" = true)
    (k17 : PySem.W.keepIn K (.ref f17) = true)
    (a18 : PySem.W.nsIn K mainGlobals "_law_alike" = some (some (.ref f18)))
    (l18 : K.lookup f18 = some ⟨oc18, od18, .func (PySem.W.fnOf "_law_alike" "_law_alike" (defArgs s_L_alike) (defBody s_L_alike) (defScope s_L_alike) .none kV18 dc18 pm18 an18 cd18 ct18), sl18⟩)
    (c18_ : PySem.W.codeIn K cd18 "_law_alike" = true)
    (k18 : PySem.W.keepIn K (.ref f18) = true)
    (a19 : PySem.W.nsIn K mainGlobals "law" = some (some (.ref f19)))
    (l19 : K.lookup f19 = some ⟨oc19, od19, .func (PySem.W.fnOf "law" "law" (defArgs s_law) (defBody s_law) (defScope s_law) .none kV19 dc19 pm19 an19 cd19 ct19), sl19⟩)
    (c19_ : PySem.W.codeIn K cd19 "law" = true)
    (k19 : PySem.W.keepIn K (.ref f19) = true)
    (v_MOST_LAMPS : PySem.W.nsIn K mainGlobals "MOST_LAMPS" = some (some (.int 10 tk_MOST_LAMPS)))
    (v_MOST_WISHES : PySem.W.nsIn K mainGlobals "MOST_WISHES" = some (some (.int 20 tk_MOST_WISHES)))
    (v_MOST_NUMBERS : PySem.W.nsIn K mainGlobals "MOST_NUMBERS" = some (some (.int 10 tk_MOST_NUMBERS)))
    (v_FIGURES : PySem.W.nsIn K mainGlobals "FIGURES" = some (some (.str "0123456789" tk_FIGURES)))
    (v_MOST_FIGURES : PySem.W.nsIn K mainGlobals "MOST_FIGURES" = some (some (.int 60 tk_MOST_FIGURES)))
    (z_abs : PySem.W.nsIn K mainGlobals "abs" = some none)
    (z_len : PySem.W.nsIn K mainGlobals "len" = some none)
    (z_range : PySem.W.nsIn K mainGlobals "range" = some none)
    (z_max : PySem.W.nsIn K mainGlobals "max" = some none)
    (z_list : PySem.W.nsIn K mainGlobals "list" = some none)
    (z_isinstance : PySem.W.nsIn K mainGlobals "isinstance" = some none)
    (z_bool : PySem.W.nsIn K mainGlobals "bool" = some none)
    (z_all : PySem.W.nsIn K mainGlobals "all" = some none)
    (z_sorted : PySem.W.nsIn K mainGlobals "sorted" = some none)
    (z_tuple : PySem.W.nsIn K mainGlobals "tuple" = some none)
    (z_int : PySem.W.nsIn K mainGlobals "int" = some none)
    (z_reversed : PySem.W.nsIn K mainGlobals "reversed" = some none)
    (z_ValueError : PySem.W.nsIn K mainGlobals "ValueError" = some none)
    (z_str : PySem.W.nsIn K mainGlobals "str" = some none)
    (z_min : PySem.W.nsIn K mainGlobals "min" = some none)
    (gc_WishError : PySem.W.nsIn K mainGlobals "WishError" = some (some (.ref e0)))
    (bc_WishError : PySem.W.subIn K (.ref e0) (.type "BaseException") = some true)
    (tc_WishError : PySem.W.typeIn K (.ref e0) = some (.type "type"))
    (ic_WishError : PySem.W.isClsIn K e0 = true)
    (gc_BadGame : PySem.W.nsIn K mainGlobals "BadGame" = some (some (.ref e1)))
    (bc_BadGame : PySem.W.subIn K (.ref e1) (.type "BaseException") = some true)
    (tc_BadGame : PySem.W.typeIn K (.ref e1) = some (.type "type"))
    (ic_BadGame : PySem.W.isClsIn K e1 = true)
    (gc_BadRow : PySem.W.nsIn K mainGlobals "BadRow" = some (some (.ref e2)))
    (bc_BadRow : PySem.W.subIn K (.ref e2) (.type "BaseException") = some true)
    (tc_BadRow : PySem.W.typeIn K (.ref e2) = some (.type "type"))
    (ic_BadRow : PySem.W.isClsIn K e2 = true)
    (gc_BadText : PySem.W.nsIn K mainGlobals "BadText" = some (some (.ref e3)))
    (bc_BadText : PySem.W.subIn K (.ref e3) (.type "BaseException") = some true)
    (tc_BadText : PySem.W.typeIn K (.ref e3) = some (.type "type"))
    (ic_BadText : PySem.W.isClsIn K e3 = true)
    (xc_BadGame : PySem.W.excIn K e1 [.type "ValueError", .type "Exception", .type "BaseException", .type "object"] "ValueError.__new__" = true)
    (kc_BadGame : PySem.W.keepIn K (.ref e1) = true)
    (su_BadGame_WishError : PySem.W.subIn K (.ref e1) (.ref e0) = some true)
    (su_BadGame_BadGame : PySem.W.subIn K (.ref e1) (.ref e1) = some true)
    (su_BadGame_BadRow : PySem.W.subIn K (.ref e1) (.ref e2) = some false)
    (su_BadGame_BadText : PySem.W.subIn K (.ref e1) (.ref e3) = some false)
    (sv_BadGame : PySem.W.subIn K (.ref e1) (.type "ValueError") = some true)
    (ehg_BadGame : PySem.W.findIn K (.ref e1) "__getattribute__" = some (some (.builtin "BaseException.__getattribute__")))
    (ehk_BadGame : PySem.W.findIn K (.ref e1) "__getattr__" = some none)
    (ehs_BadGame : PySem.W.subIn K (.ref e1) (.type "BaseException") = some true)
    (ehd_BadGame : PySem.W.hasDictIn K e1 = true)
    (eha_BadGame : PySem.W.findIn K (.ref e1) "__class__" = some (some (.builtin "object.__class__")))
    (ehn_BadGame : PySem.W.specialIn K (.builtin "object.__class__") "__get__" = some (some (.builtin "getset_descriptor.__get__")))
    (eht_BadGame : PySem.W.takesIn K (.builtin "object.__class__") = some true)
    (ehm_BadGame : PySem.W.mroIn K e1 (.type "object") = some true)
    (xc_BadText : PySem.W.excIn K e3 [.type "ValueError", .type "Exception", .type "BaseException", .type "object"] "ValueError.__new__" = true)
    (kc_BadText : PySem.W.keepIn K (.ref e3) = true)
    (su_BadText_WishError : PySem.W.subIn K (.ref e3) (.ref e0) = some true)
    (su_BadText_BadGame : PySem.W.subIn K (.ref e3) (.ref e1) = some false)
    (su_BadText_BadRow : PySem.W.subIn K (.ref e3) (.ref e2) = some false)
    (su_BadText_BadText : PySem.W.subIn K (.ref e3) (.ref e3) = some true)
    (sv_BadText : PySem.W.subIn K (.ref e3) (.type "ValueError") = some true)
    (ehg_BadText : PySem.W.findIn K (.ref e3) "__getattribute__" = some (some (.builtin "BaseException.__getattribute__")))
    (ehk_BadText : PySem.W.findIn K (.ref e3) "__getattr__" = some none)
    (ehs_BadText : PySem.W.subIn K (.ref e3) (.type "BaseException") = some true)
    (ehd_BadText : PySem.W.hasDictIn K e3 = true)
    (eha_BadText : PySem.W.findIn K (.ref e3) "__class__" = some (some (.builtin "object.__class__")))
    (ehn_BadText : PySem.W.specialIn K (.builtin "object.__class__") "__get__" = some (some (.builtin "getset_descriptor.__get__")))
    (eht_BadText : PySem.W.takesIn K (.builtin "object.__class__") = some true)
    (ehm_BadText : PySem.W.mroIn K e3 (.type "object") = some true)
    (nt : PySem.W.noTabs K = true)
    : LamX.LawAtS l w K CX0 6 63 "_law_script" mg fa h := by
  obtain rfl : f19 = fa := by
    have e := (PySem.W.mg_of X G a19).symm.trans hfa
    injection e with e
    injection e
  have F0 := fun_mk (st := s_check) l0 c0_ k0
  have b0 := F0.binds (ps := ["setters", "wishes"]) fun _ _ _ _ _ _ us hl => match us, hl with | [_, _], _ => rfl
  have F1 := fun_mk (st := s_check_setters) l1 c1_ k1
  have b1 := F1.binds (ps := ["setters"]) fun _ _ _ _ _ _ us hl => match us, hl with | [_], _ => rfl
  have F2 := fun_mk (st := s_check_wish) l2 c2_ k2
  have b2 := F2.binds (ps := ["wish", "lamps"]) fun _ _ _ _ _ _ us hl => match us, hl with | [_, _], _ => rfl
  have F3 := fun_mk (st := s_read) l3 c3_ k3
  have b3 := F3.binds (ps := ["text"]) fun _ _ _ _ _ _ us hl => match us, hl with | [_], _ => rfl
  have F4 := fun_mk (st := s_read_setters) l4 c4_ k4
  have b4 := F4.binds (ps := ["row"]) fun _ _ _ _ _ _ us hl => match us, hl with | [_], _ => rfl
  have F5 := fun_mk (st := s_read_wish) l5 c5_ k5
  have b5 := F5.binds (ps := ["row"]) fun _ _ _ _ _ _ us hl => match us, hl with | [_], _ => rfl
  have F6 := fun_mk (st := s_read_number) l6 c6_ k6
  have b6 := F6.binds (ps := ["word"]) fun _ _ _ _ _ _ us hl => match us, hl with | [_], _ => rfl
  have F7 := fun_mk (st := s_L_cell_at) l7 c7_ k7
  have b7 := F7.binds (ps := ["_law_script", "_law_k"]) fun _ _ _ _ _ _ us hl => match us, hl with | [_, _], _ => rfl
  have F8 := fun_mk (st := s_L_first) l8 c8_ k8
  have b8 := F8.binds (ps := ["_law_cell"]) fun _ _ _ _ _ _ us hl => match us, hl with | [_], _ => rfl
  have F9 := fun_mk (st := s_L_next) l9 c9_ k9
  have b9 := F9.binds (ps := ["_law_cell"]) fun _ _ _ _ _ _ us hl => match us, hl with | [_], _ => rfl
  have F10 := fun_mk (st := s_L_sign_by) l10 c10_ k10
  have b10 := F10.binds (ps := ["_law_cell"]) fun _ _ _ _ _ _ us hl => match us, hl with | [_], _ => rfl
  have F11 := fun_mk (st := s_L_great) l11 c11_ k11
  have b11 := F11.binds (ps := ["_law_cell"]) fun _ _ _ _ _ _ us hl => match us, hl with | [_], _ => rfl
  have F12 := fun_mk (st := s_L_text) l12 c12_ k12
  have b12 := F12.binds (ps := ["_law_script"]) fun _ _ _ _ _ _ us hl => match us, hl with | [_], _ => rfl
  have F13 := fun_mk (st := s_L_number) l13 c13_ k13
  have b13 := F13.binds (ps := ["_law_word"]) fun _ _ _ _ _ _ us hl => match us, hl with | [_], _ => rfl
  have F14 := fun_mk (st := s_L_wish) l14 c14_ k14
  have b14 := F14.binds (ps := ["_law_row"]) fun _ _ _ _ _ _ us hl => match us, hl with | [_], _ => rfl
  have F15 := fun_mk (st := s_L_game) l15 c15_ k15
  have b15 := F15.binds (ps := ["_law_text_here"]) fun _ _ _ _ _ _ us hl => match us, hl with | [_], _ => rfl
  have F16 := fun_mk (st := s_L_good) l16 c16_ k16
  have b16 := F16.binds (ps := ["_law_game_here"]) fun _ _ _ _ _ _ us hl => match us, hl with | [_], _ => rfl
  have F17 := fun_mk (st := s_L_refused) l17 c17_ k17
  have b17 := F17.binds (ps := ["_law_text_here", "_law_by_game"]) fun _ _ _ _ _ _ us hl => match us, hl with | [_, _], _ => rfl
  have F18 := fun_mk (st := s_L_alike) l18 c18_ k18
  have b18 := F18.binds (ps := ["_law_found", "_law_due"]) fun _ _ _ _ _ _ us hl => match us, hl with | [_, _], _ => rfl
  have F19 := fun_mk (st := s_law) l19 c19_ k19
  have b19 := F19.binds (ps := ["_law_script"]) fun _ _ _ _ _ _ us hl => match us, hl with | [_], _ => rfl
  obtain ⟨C6, T6⟩ := tabs _ _ _ _ rc6 (tabIn_of a6 l6 rfl lc6 hv6)
  have T : Txt K mg (fun i => [f0, f1, f2, f3, f4, f5, f6, f7, f8, f9, f10, f11, f12, f13, f14, f15, f16, f17, f18, f19].getD i 0) (fun i => [PySem.W.fnOf "check" "check" (defArgs s_check) (defBody s_check) (defScope s_check) .none kV0 dc0 pm0 an0 cd0 ct0, PySem.W.fnOf "check_setters" "check_setters" (defArgs s_check_setters) (defBody s_check_setters) (defScope s_check_setters) .none kV1 dc1 pm1 an1 cd1 ct1, PySem.W.fnOf "check_wish" "check_wish" (defArgs s_check_wish) (defBody s_check_wish) (defScope s_check_wish) .none kV2 dc2 pm2 an2 cd2 ct2, PySem.W.fnOf "read" "read" (defArgs s_read) (defBody s_read) (defScope s_read) .none kV3 dc3 pm3 an3 cd3 ct3, PySem.W.fnOf "read_setters" "read_setters" (defArgs s_read_setters) (defBody s_read_setters) (defScope s_read_setters) .none kV4 dc4 pm4 an4 cd4 ct4, PySem.W.fnOf "read_wish" "read_wish" (defArgs s_read_wish) (defBody s_read_wish) (defScope s_read_wish) .none kV5 dc5 pm5 an5 cd5 ct5, PySem.W.fnOf "read_number" "read_number" (defArgs s_read_number) (defBody s_read_number) (defScope s_read_number) .none kV6 dc6 pm6 an6 (.ref c6) ct6, PySem.W.fnOf "_law_cell_at" "_law_cell_at" (defArgs s_L_cell_at) (defBody s_L_cell_at) (defScope s_L_cell_at) .none kV7 dc7 pm7 an7 cd7 ct7, PySem.W.fnOf "_law_first" "_law_first" (defArgs s_L_first) (defBody s_L_first) (defScope s_L_first) .none kV8 dc8 pm8 an8 cd8 ct8, PySem.W.fnOf "_law_next" "_law_next" (defArgs s_L_next) (defBody s_L_next) (defScope s_L_next) .none kV9 dc9 pm9 an9 cd9 ct9, PySem.W.fnOf "_law_sign_by" "_law_sign_by" (defArgs s_L_sign_by) (defBody s_L_sign_by) (defScope s_L_sign_by) .none kV10 dc10 pm10 an10 cd10 ct10, PySem.W.fnOf "_law_great" "_law_great" (defArgs s_L_great) (defBody s_L_great) (defScope s_L_great) .none kV11 dc11 pm11 an11 cd11 ct11, PySem.W.fnOf "_law_text" "_law_text" (defArgs s_L_text) (defBody s_L_text) (defScope s_L_text) .none kV12 dc12 pm12 an12 cd12 ct12, PySem.W.fnOf "_law_number" "_law_number" (defArgs s_L_number) (defBody s_L_number) (defScope s_L_number) .none kV13 dc13 pm13 an13 cd13 ct13, PySem.W.fnOf "_law_wish" "_law_wish" (defArgs s_L_wish) (defBody s_L_wish) (defScope s_L_wish) .none kV14 dc14 pm14 an14 cd14 ct14, PySem.W.fnOf "_law_game" "_law_game" (defArgs s_L_game) (defBody s_L_game) (defScope s_L_game) .none kV15 dc15 pm15 an15 cd15 ct15, PySem.W.fnOf "_law_good" "_law_good" (defArgs s_L_good) (defBody s_L_good) (defScope s_L_good) .none kV16 dc16 pm16 an16 cd16 ct16, PySem.W.fnOf "_law_refused" "_law_refused" (defArgs s_L_refused) (defBody s_L_refused) (defScope s_L_refused) .none kV17 dc17 pm17 an17 cd17 ct17, PySem.W.fnOf "_law_alike" "_law_alike" (defArgs s_L_alike) (defBody s_L_alike) (defScope s_L_alike) .none kV18 dc18 pm18 an18 cd18 ct18, PySem.W.fnOf "law" "law" (defArgs s_law) (defBody s_law) (defScope s_law) .none kV19 dc19 pm19 an19 cd19 ct19].getD i (PySem.W.fnOf "check" "check" (defArgs s_check) (defBody s_check) (defScope s_check) .none kV0 dc0 pm0 an0 cd0 ct0)) (fun i => [c6].getD i 0) (fun i => [e0, e1, e2, e3].getD i 0) := {
    F_check := F0, g_check := PySem.W.mg_of X G a0, b_check := b0,
    F_check_setters := F1, g_check_setters := PySem.W.mg_of X G a1, b_check_setters := b1,
    F_check_wish := F2, g_check_wish := PySem.W.mg_of X G a2, b_check_wish := b2,
    F_read := F3, g_read := PySem.W.mg_of X G a3, b_read := b3,
    F_read_setters := F4, g_read_setters := PySem.W.mg_of X G a4, b_read_setters := b4,
    F_read_wish := F5, g_read_wish := PySem.W.mg_of X G a5, b_read_wish := b5,
    F_read_number := F6, g_read_number := PySem.W.mg_of X G a6, b_read_number := b6,
    F_L_cell_at := F7, g_L_cell_at := PySem.W.mg_of X G a7, b_L_cell_at := b7,
    F_L_first := F8, g_L_first := PySem.W.mg_of X G a8, b_L_first := b8,
    F_L_next := F9, g_L_next := PySem.W.mg_of X G a9, b_L_next := b9,
    F_L_sign_by := F10, g_L_sign_by := PySem.W.mg_of X G a10, b_L_sign_by := b10,
    F_L_great := F11, g_L_great := PySem.W.mg_of X G a11, b_L_great := b11,
    F_L_text := F12, g_L_text := PySem.W.mg_of X G a12, b_L_text := b12,
    F_L_number := F13, g_L_number := PySem.W.mg_of X G a13, b_L_number := b13,
    F_L_wish := F14, g_L_wish := PySem.W.mg_of X G a14, b_L_wish := b14,
    F_L_game := F15, g_L_game := PySem.W.mg_of X G a15, b_L_game := b15,
    F_L_good := F16, g_L_good := PySem.W.mg_of X G a16, b_L_good := b16,
    F_L_refused := F17, g_L_refused := PySem.W.mg_of X G a17, b_L_refused := b17,
    F_L_alike := F18, g_L_alike := PySem.W.mg_of X G a18, b_L_alike := b18,
    F_law := F19, g_law := PySem.W.mg_of X G a19, b_law := b19,
    C_read_number := func_mk l6 c6_,
    gc_WishError := PySem.W.mg_of X G gc_WishError,
    bc_WishError := bc_WishError,
    tc_WishError := tc_WishError,
    ic_WishError := ic_WishError,
    gc_BadGame := PySem.W.mg_of X G gc_BadGame,
    bc_BadGame := bc_BadGame,
    tc_BadGame := tc_BadGame,
    ic_BadGame := ic_BadGame,
    gc_BadRow := PySem.W.mg_of X G gc_BadRow,
    bc_BadRow := bc_BadRow,
    tc_BadRow := tc_BadRow,
    ic_BadRow := ic_BadRow,
    gc_BadText := PySem.W.mg_of X G gc_BadText,
    bc_BadText := bc_BadText,
    tc_BadText := tc_BadText,
    ic_BadText := ic_BadText,
    xc_BadGame := xc_BadGame,
    kc_BadGame := kc_BadGame,
    su_BadGame_WishError := su_BadGame_WishError,
    su_BadGame_BadGame := su_BadGame_BadGame,
    su_BadGame_BadRow := su_BadGame_BadRow,
    su_BadGame_BadText := su_BadGame_BadText,
    sv_BadGame := sv_BadGame,
    xc_BadText := xc_BadText,
    kc_BadText := kc_BadText,
    su_BadText_WishError := su_BadText_WishError,
    su_BadText_BadGame := su_BadText_BadGame,
    su_BadText_BadRow := su_BadText_BadRow,
    su_BadText_BadText := su_BadText_BadText,
    sv_BadText := sv_BadText,
    ec_BadGame := ⟨ehg_BadGame, ehk_BadGame, ehs_BadGame, ehd_BadGame, eha_BadGame, ehn_BadGame, eht_BadGame, ehm_BadGame⟩,
    ec_BadText := ⟨ehg_BadText, ehk_BadText, ehs_BadText, ehd_BadText, eha_BadText, ehn_BadText, eht_BadText, ehm_BadText⟩,
    k_MOST_LAMPS := ⟨_, PySem.W.mg_of X G v_MOST_LAMPS⟩,
    k_MOST_WISHES := ⟨_, PySem.W.mg_of X G v_MOST_WISHES⟩,
    k_MOST_NUMBERS := ⟨_, PySem.W.mg_of X G v_MOST_NUMBERS⟩,
    k_FIGURES := ⟨_, PySem.W.mg_of X G v_FIGURES⟩,
    k_MOST_FIGURES := ⟨_, PySem.W.mg_of X G v_MOST_FIGURES⟩,
    m_abs := PySem.W.mg_none_of X G z_abs, m_len := PySem.W.mg_none_of X G z_len, m_range := PySem.W.mg_none_of X G z_range, m_max := PySem.W.mg_none_of X G z_max, m_list := PySem.W.mg_none_of X G z_list, m_isinstance := PySem.W.mg_none_of X G z_isinstance, m_bool := PySem.W.mg_none_of X G z_bool, m_all := PySem.W.mg_none_of X G z_all, m_sorted := PySem.W.mg_none_of X G z_sorted, m_tuple := PySem.W.mg_none_of X G z_tuple, m_int := PySem.W.mg_none_of X G z_int, m_reversed := PySem.W.mg_none_of X G z_reversed, m_ValueError := PySem.W.mg_none_of X G z_ValueError, m_str := PySem.W.mg_none_of X G z_str, m_min := PySem.W.mg_none_of X G z_min }
  refine ⟨PySem.W.fnOf "law" "law" (defArgs s_law) (defBody s_law) (defScope s_law) .none kV19 dc19 pm19 an19 cd19 ct19, [(c6, P6)], PrD K ([(c6, P6)].map (·.2)) g_law, fun p hp => ?_, fun p hp => ?_, fun p hp => ?_, fun s v => .of_eq rfl, fun H a ns hl _ ht hs => law_sp hl ht hs, fun base _ _ tb => ?_⟩
  · simp only [List.mem_cons, List.not_mem_nil, or_false] at hp
    rcases hp with rfl
    · exact T6
  · simp only [List.mem_cons, List.not_mem_nil, or_false] at hp
    rcases hp with rfl
    · exact noTab X nt T6
  · simp only [List.mem_cons, List.not_mem_nil, or_false] at hp
    rcases hp with rfl
    · exact C6
  · exact ok_law (P := l.prog) (p := fun i => [P6].getD i 0) T (fun i hi => match i, hi with | 0, _ => tab_glob (tb (c6, P6) (by simp))) (fun i hi => match i, hi with | 0, _ => by simp)
end K07
open PySem PySem.W PyProof.Rows
set_option maxRecDepth 100000 in
set_option maxHeartbeats 0 in
theorem PySem.Challenge.cw_everywish_k07_texts_refused_holds : PySem.Challenge.rw_everywish_k07_texts_refused.Holds := by
  w_on; o_law; k_head; (case hw => w_witness2)
  k_fill
  refine DL.walk_dl (l := PySem.Challenge.rw_everywish_k07_texts_refused) (n := 63) (k := 6) (x := "_law_script") (CX := fun _ => L2.CX0) rfl (by decide) rfl ⟨rfl, by decide, by decide⟩ (fun w h Y => PySem.W.kIn_of Y) ?F (fun _ _ _ _ _ h => h)
  case F =>
    intro w mg fa h KX G hmg tabs
    refine' K07.all_mk KX G hmg tabs  ?a0 ?l0 ?c0_ ?k0 ?a1 ?l1 ?c1_ ?k1 ?a2 ?l2 ?c2_ ?k2 ?a3 ?l3 ?c3_ ?k3 ?a4 ?l4 ?c4_ ?k4 ?a5 ?l5 ?c5_ ?k5 ?a6 ?l6 ?c6_ ?k6 ?lc6 ?hv6 ?rc6 ?a7 ?l7 ?c7_ ?k7 ?a8 ?l8 ?c8_ ?k8 ?a9 ?l9 ?c9_ ?k9 ?a10 ?l10 ?c10_ ?k10 ?a11 ?l11 ?c11_ ?k11 ?a12 ?l12 ?c12_ ?k12 ?a13 ?l13 ?c13_ ?k13 ?a14 ?l14 ?c14_ ?k14 ?a15 ?l15 ?c15_ ?k15 ?a16 ?l16 ?c16_ ?k16 ?a17 ?l17 ?c17_ ?k17 ?a18 ?l18 ?c18_ ?k18 ?a19 ?l19 ?c19_ ?k19 ?v_MOST_LAMPS ?v_MOST_WISHES ?v_MOST_NUMBERS ?v_FIGURES ?v_MOST_FIGURES ?z_abs ?z_len ?z_range ?z_max ?z_list ?z_isinstance ?z_bool ?z_all ?z_sorted ?z_tuple ?z_int ?z_reversed ?z_ValueError ?z_str ?z_min ?gc_WishError ?bc_WishError ?tc_WishError ?ic_WishError ?gc_BadGame ?bc_BadGame ?tc_BadGame ?ic_BadGame ?gc_BadRow ?bc_BadRow ?tc_BadRow ?ic_BadRow ?gc_BadText ?bc_BadText ?tc_BadText ?ic_BadText ?xc_BadGame ?kc_BadGame ?su_BadGame_WishError ?su_BadGame_BadGame ?su_BadGame_BadRow ?su_BadGame_BadText ?sv_BadGame ?ehg_BadGame ?ehk_BadGame ?ehs_BadGame ?ehd_BadGame ?eha_BadGame ?ehn_BadGame ?eht_BadGame ?ehm_BadGame ?xc_BadText ?kc_BadText ?su_BadText_WishError ?su_BadText_BadGame ?su_BadText_BadRow ?su_BadText_BadText ?sv_BadText ?ehg_BadText ?ehk_BadText ?ehs_BadText ?ehd_BadText ?eha_BadText ?ehn_BadText ?eht_BadText ?ehm_BadText ?nt
    (case a0 => k_is); (case l0 => k_is); (case c0_ => k_is); (case k0 => k_is); (case a1 => k_is); (case l1 => k_is); (case c1_ => k_is); (case k1 => k_is); (case a2 => k_is); (case l2 => k_is); (case c2_ => k_is); (case k2 => k_is); (case a3 => k_is); (case l3 => k_is); (case c3_ => k_is); (case k3 => k_is); (case a4 => k_is); (case l4 => k_is); (case c4_ => k_is); (case k4 => k_is); (case a5 => k_is); (case l5 => k_is); (case c5_ => k_is); (case k5 => k_is); (case a6 => k_is); (case l6 => k_is); (case c6_ => k_is); (case k6 => k_is); (case lc6 => k_is); (case hv6 => rfl); (case rc6 => rfl); (case a7 => k_is); (case l7 => k_is); (case c7_ => k_is); (case k7 => k_is); (case a8 => k_is); (case l8 => k_is); (case c8_ => k_is); (case k8 => k_is); (case a9 => k_is); (case l9 => k_is); (case c9_ => k_is); (case k9 => k_is); (case a10 => k_is); (case l10 => k_is); (case c10_ => k_is); (case k10 => k_is); (case a11 => k_is); (case l11 => k_is); (case c11_ => k_is); (case k11 => k_is); (case a12 => k_is); (case l12 => k_is); (case c12_ => k_is); (case k12 => k_is); (case a13 => k_is); (case l13 => k_is); (case c13_ => k_is); (case k13 => k_is); (case a14 => k_is); (case l14 => k_is); (case c14_ => k_is); (case k14 => k_is); (case a15 => k_is); (case l15 => k_is); (case c15_ => k_is); (case k15 => k_is); (case a16 => k_is); (case l16 => k_is); (case c16_ => k_is); (case k16 => k_is); (case a17 => k_is); (case l17 => k_is); (case c17_ => k_is); (case k17 => k_is); (case a18 => k_is); (case l18 => k_is); (case c18_ => k_is); (case k18 => k_is); (case a19 => k_is); (case l19 => k_is); (case c19_ => k_is); (case k19 => k_is); (case v_MOST_LAMPS => k_is); (case v_MOST_WISHES => k_is); (case v_MOST_NUMBERS => k_is); (case v_FIGURES => k_is); (case v_MOST_FIGURES => k_is); (case z_abs => k_is); (case z_len => k_is); (case z_range => k_is); (case z_max => k_is); (case z_list => k_is); (case z_isinstance => k_is); (case z_bool => k_is); (case z_all => k_is); (case z_sorted => k_is); (case z_tuple => k_is); (case z_int => k_is); (case z_reversed => k_is); (case z_ValueError => k_is); (case z_str => k_is); (case z_min => k_is); (case gc_WishError => k_is); (case bc_WishError => k_is); (case tc_WishError => k_is); (case ic_WishError => k_is); (case gc_BadGame => k_is); (case bc_BadGame => k_is); (case tc_BadGame => k_is); (case ic_BadGame => k_is); (case gc_BadRow => k_is); (case bc_BadRow => k_is); (case tc_BadRow => k_is); (case ic_BadRow => k_is); (case gc_BadText => k_is); (case bc_BadText => k_is); (case tc_BadText => k_is); (case ic_BadText => k_is); (case xc_BadGame => k_exc); (case kc_BadGame => k_is); (case su_BadGame_WishError => k_is); (case su_BadGame_BadGame => k_is); (case su_BadGame_BadRow => k_is); (case su_BadGame_BadText => k_is); (case sv_BadGame => k_is); (case ehg_BadGame => k_is); (case ehk_BadGame => k_is); (case ehs_BadGame => k_is); (case ehd_BadGame => k_is); (case eha_BadGame => k_is); (case ehn_BadGame => k_is); (case eht_BadGame => k_is); (case ehm_BadGame => k_is); (case xc_BadText => k_exc); (case kc_BadText => k_is); (case su_BadText_WishError => k_is); (case su_BadText_BadGame => k_is); (case su_BadText_BadRow => k_is); (case su_BadText_BadText => k_is); (case sv_BadText => k_is); (case ehg_BadText => k_is); (case ehk_BadText => k_is); (case ehs_BadText => k_is); (case ehd_BadText => k_is); (case eha_BadText => k_is); (case ehn_BadText => k_is); (case eht_BadText => k_is); (case ehm_BadText => k_is); (case nt => kernel_rfl)
