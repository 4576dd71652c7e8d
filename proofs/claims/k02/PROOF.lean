import PyProof.Rows.All
import Wide.All
import OpenK.AllK
import Wide.FinOn
import HandS.ForMost
import HandS.IsInst
import HandS.TupAny
import HandS.Walk
import HandS.Codes
import HandS.DictComp
import HandS.Zip
import HandS.WideBits
import HandS.TupLe
import HandS.Deep
import HandS.Flow
import PySem.Challenge.RW_askedthen_k02_octets_bits_in_order
set_option Elab.async false
set_option linter.all false
set_option maxRecDepth 100000
set_option maxHeartbeats 2000000
/-! HF: readings over pure data, the heap hidden. -/
namespace HF
open PySem L2 PySem.Spec PyProof.Rows

abbrev D := PyData
abbrev Fg := PySem.W.Frag
/-- H without the addresses of A -/
def hide (A : Addr → Bool) (H : Hp) : Hp := fun a => if A a = true then none else H a
theorem hide_out {A : Addr → Bool} {H : Hp} {a : Addr} (h : A a = false) : hide A H a = H a := by
  unfold hide; rw [if_neg (by rw [h]; decide)]
theorem hide_some {A : Addr → Bool} {H : Hp} {a : Addr} {o : HO} (h : hide A H a = some o) : A a = false ∧ H a = some o := by
  unfold hide at h
  cases e : A a with
  | true => rw [if_pos e] at h; cases h
  | false => rw [if_neg (by rw [e]; decide)] at h; exact ⟨rfl, h⟩
theorem hide_sub {A : Addr → Bool} {H : Hp} : Same (hide A H) H := fun _ _ h => (hide_some h).2
def adda (A : Addr → Bool) (p : Addr) : Addr → Bool := fun a => A a || a == p
def dela (A : Addr → Bool) (p : Addr) : Addr → Bool := fun a => A a && !(a == p)
theorem adda_self {A : Addr → Bool} {p : Addr} : adda A p p = true := by simp [adda]
theorem adda_of {A : Addr → Bool} {p a : Addr} (h : A a = true) : adda A p a = true := by simp [adda, h]
theorem adda_ne {A : Addr → Bool} {p a : Addr} (h : a ≠ p) : adda A p a = A a := by simp [adda, h]
theorem adda_false {A : Addr → Bool} {p a : Addr} (h : adda A p a = false) : A a = false ∧ a ≠ p := by simpa [adda] using h
theorem dela_self {A : Addr → Bool} {p : Addr} : dela A p p = false := by simp [dela]
theorem dela_ne {A : Addr → Bool} {p a : Addr} (h : a ≠ p) : dela A p a = A a := by simp [dela, h]
theorem dela_true {A : Addr → Bool} {p a : Addr} (h : dela A p a = true) : A a = true ∧ a ≠ p := by simpa [dela] using h

/-- all that A protects stands -/
def Live (A : Addr → Bool) (H : Hp) : Prop := ∀ p, A p = true → H p ≠ none
structure Grow (A : Addr → Bool) (H H' : Hp) : Prop where
  ex : Same (hide A H) (hide A H')
  eq : ∀ p, A p = true → H' p = H p
theorem Grow.refl {A : Addr → Bool} (H : Hp) : Grow A H H := ⟨Same.refl _, fun _ _ => rfl⟩
theorem Grow.trans {A : Addr → Bool} {H H1 H2 : Hp} (a : Grow A H H1) (b : Grow A H1 H2) : Grow A H H2 :=
  ⟨a.ex.trans b.ex, fun p h => (b.eq p h).trans (a.eq p h)⟩
theorem Grow.live {A : Addr → Bool} {H H' : Hp} (g : Grow A H H') (l : Live A H) : Live A H' := fun p h => by rw [g.eq p h]; exact l p h
theorem Grow.same {A : Addr → Bool} {H H' : Hp} (g : Grow A H H') : Same H H' := fun a o h => by
  cases e : A a with
  | true => rw [g.eq a e]; exact h
  | false => exact (hide_some (g.ex a o (by rw [hide_out e]; exact h))).2
theorem Live.out {A : Addr → Bool} {H : Hp} (l : Live A H) {p : Addr} (h : H p = none) : A p = false := by
  cases e : A p with
  | false => rfl
  | true => exact absurd h (l p e)
theorem same_upd {H : Hp} {p : Addr} {o : HO} (h : H p = none) : Same H (upd H p o) := fun a u e => by
  rw [upd_ne (ne_of_none e h)]; exact e
theorem Grow.new {A : Addr → Bool} {H : Hp} (l : Live A H) {p : Addr} {o : HO} (h : H p = none) : Grow A H (upd H p o) := by
  refine ⟨fun a u e => ?_, fun q hq => ?_⟩
  · obtain ⟨h1, h2⟩ := hide_some e
    rw [hide_out h1]; exact same_upd h a u h2
  · have : q ≠ p := fun e => l q hq (by rw [e]; exact h)
    exact upd_ne this
theorem hide_new {A : Addr → Bool} {H : Hp} (l : Live A H) {p : Addr} {o : HO} (h : H p = none) : hide A (upd H p o) p = some o := by
  rw [hide_out (l.out h)]; exact upd_same

/-! ### data that is held -/
mutual
/-- a value is this data; lists are tracked -/
inductive Dq (K : Fg) (H : Hp) : V → D → Prop
  | non : Dq K H .non .none
  | bl (b : Bool) : Dq K H (.bl b) (.bool b)
  | int (i : Int) : Dq K H (.int i) (.int i)
  | str (x : Str) : Dq K H (.str x) (.str x)
  | lst {a : Addr} {xs : List V} {ds : List D} : Rd H a (.lst xs) → DqAll K H xs ds → Dq K H (.ref a) (.list ds)
  | tup {a : Addr} {xs : List V} {ds : List D} : SqT K H a xs → DqAll K H xs ds → Dq K H (.ref a) (.tuple ds)
inductive DqAll (K : Fg) (H : Hp) : List V → List D → Prop
  | nil : DqAll K H [] []
  | cons {v : V} {vs : List V} {d : D} {ds : List D} : Dq K H v d → DqAll K H vs ds → DqAll K H (v :: vs) (d :: ds)
end
section
variable {K : Fg} {H H' : Hp}
theorem rd_mono {a : Addr} {u : HO} (e : Same H H') (h : Rd H a u) : Rd H' a u := by
  rcases h with h | ⟨o, h⟩
  · exact Or.inl (e a _ h)
  · exact Or.inr ⟨o, e a _ h⟩
theorem sl_mono {a : Addr} {xs : List V} (e : Same H H') (h : SqL K H a xs) : SqL K H' a xs := by
  rcases h with h | h
  · exact Or.inl (rd_mono e h)
  · exact Or.inr h
theorem st_mono {a : Addr} {xs : List V} (e : Same H H') (h : SqT K H a xs) : SqT K H' a xs := by
  rcases h with h | h
  · exact Or.inl (rd_mono e h)
  · exact Or.inr h
mutual
theorem dp_mono (e : Same H H') : ∀ {v : V} {d : D}, Dq K H v d → Dq K H' v d
  | _, _, .non => .non
  | _, _, .bl b => .bl b
  | _, _, .int i => .int i
  | _, _, .str x => .str x
  | _, _, .lst h a => .lst (rd_mono e h) (dpa_mono e a)
  | _, _, .tup h a => .tup (st_mono e h) (dpa_mono e a)
theorem dpa_mono (e : Same H H') : ∀ {vs : List V} {ds : List D}, DqAll K H vs ds → DqAll K H' vs ds
  | _, _, .nil => .nil
  | _, _, .cons h t => .cons (dp_mono e h) (dpa_mono e t)
end
mutual
theorem dq_dp : ∀ {v : V} {d : D}, Dq K H v d → Dp K H v d
  | _, _, .non => .non
  | _, _, .bl b => .bl b
  | _, _, .int i => .int i
  | _, _, .str x => .str x
  | _, _, .lst h a => .lst (.inl h) (dqa_dpa a)
  | _, _, .tup h a => .tup h (dqa_dpa a)
theorem dqa_dpa : ∀ {vs : List V} {ds : List D}, DqAll K H vs ds → DpAll K H vs ds
  | _, _, .nil => .nil
  | _, _, .cons h t => .cons (dq_dp h) (dqa_dpa t)
end
theorem dpa_len : ∀ {vs : List V} {ds : List D}, DqAll K H vs ds → vs.length = ds.length
  | _, _, .nil => rfl
  | _, _, .cons _ t => congrArg (· + 1) (dpa_len t)
theorem dpa_get : ∀ {vs : List V} {ds : List D} {i : Nat} {d : D}, DqAll K H vs ds → ds[i]? = some d → ∃ v, vs[i]? = some v ∧ Dq K H v d
  | _, _, _, _, .nil, e => by simp at e
  | _, _, 0, _, .cons h _, e => by
    cases (Option.some.inj e)
    exact ⟨_, rfl, h⟩
  | _, _, i + 1, d, .cons _ t, e => by
    obtain ⟨v, h1, h2⟩ := dpa_get (i := i) (d := d) t (by simpa using e)
    exact ⟨v, by simpa using h1, h2⟩
theorem dpa_get' : ∀ {vs : List V} {ds : List D} {i : Nat} {v : V}, DqAll K H vs ds → vs[i]? = some v → ∃ d, ds[i]? = some d ∧ Dq K H v d
  | _, _, _, _, .nil, e => by simp at e
  | _, _, 0, _, .cons h _, e => by
    cases (Option.some.inj e)
    exact ⟨_, rfl, h⟩
  | _, _, i + 1, d, .cons _ t, e => by
    obtain ⟨v, h1, h2⟩ := dpa_get' (i := i) t (by simpa using e)
    exact ⟨v, by simpa using h1, h2⟩
theorem dpa_append : ∀ {vs ws : List V} {ds es : List D}, DqAll K H vs ds → DqAll K H ws es → DqAll K H (vs ++ ws) (ds ++ es)
  | _, _, _, _, .nil, s => s
  | _, _, _, _, .cons h t, s => .cons h (dpa_append t s)
theorem dpa_take : ∀ {vs : List V} {ds : List D} (n : Nat), DqAll K H vs ds → DqAll K H (vs.take n) (ds.take n)
  | _, _, 0, _ => .nil
  | _, _, _ + 1, .nil => .nil
  | _, _, n + 1, .cons h t => .cons h (dpa_take n t)
theorem dpa_drop : ∀ {vs : List V} {ds : List D} (n : Nat), DqAll K H vs ds → DqAll K H (vs.drop n) (ds.drop n)
  | _, _, 0, r => r
  | _, _, _ + 1, .nil => .nil
  | _, _, n + 1, .cons _ t => dpa_drop n t
theorem dpa_set : ∀ {vs : List V} {ds : List D} {v : V} {d : D} (i : Nat), DqAll K H vs ds → Dq K H v d → DqAll K H (vs.set i v) (ds.set i d)
  | _, _, _, _, _, .nil, _ => .nil
  | _, _, _, _, 0, .cons _ t, h => .cons h t
  | _, _, _, _, i + 1, .cons q t, h => .cons q (dpa_set i t h)
theorem dpa_cut {vs : List V} {ds : List D} (h : DqAll K H vs ds) (lo hi : Option Int) :
    DqAll K H (cutV vs lo hi) ((ds.drop (HT.sIx ds.length 0 lo)).take (HT.sIx ds.length ds.length hi - HT.sIx ds.length 0 lo)) := by
  unfold cutV
  rw [dpa_len h]
  exact dpa_take _ (dpa_drop _ h)
theorem dp_int {v : V} {i : Int} (h : Dq K H v (.int i)) : v = .int i := by cases h; rfl
theorem dp_bl {v : V} {b : Bool} (h : Dq K H v (.bool b)) : v = .bl b := by cases h; rfl
theorem dp_str {v : V} {x : Str} (h : Dq K H v (.str x)) : v = .str x := by cases h; rfl
theorem dp_non {v : V} (h : Dq K H v .none) : v = .non := by cases h; rfl
theorem dp_lst {v : V} {ds : List D} (h : Dq K H v (.list ds)) : ∃ a xs, v = .ref a ∧ Rd H a (.lst xs) ∧ DqAll K H xs ds := by
  cases h with | lst h1 h2 => exact ⟨_, _, rfl, h1, h2⟩
theorem dp_tup {v : V} {ds : List D} (h : Dq K H v (.tuple ds)) : ∃ a xs, v = .ref a ∧ SqT K H a xs ∧ DqAll K H xs ds := by
  cases h with | tup h1 h2 => exact ⟨_, _, rfl, h1, h2⟩
theorem dpa_ints : ∀ {vs : List V} {ns : List Int}, DqAll K H vs (ns.map .int) → vs = ns.map V.int
  | _, [], .nil => rfl
  | _, n :: ns, .cons h t => by rw [dp_int h, dpa_ints t]; rfl
theorem dpa_bls : ∀ {vs : List V} {ns : List Bool}, DqAll K H vs (ns.map .bool) → vs = ns.map V.bl
  | _, [], .nil => rfl
  | _, n :: ns, .cons h t => by rw [dp_bl h, dpa_bls t]; rfl
theorem dpa_strs : ∀ {vs : List V} {ns : List Str}, DqAll K H vs (ns.map .str) → vs = ns.map V.str
  | _, [], .nil => rfl
  | _, n :: ns, .cons h t => by rw [dp_str h, dpa_strs t]; rfl
theorem ints_dpa : ∀ (ns : List Int), DqAll K H (ns.map V.int) (ns.map .int)
  | [] => .nil
  | n :: ns => .cons (.int n) (ints_dpa ns)
theorem strs_dpa : ∀ (ns : List Str), DqAll K H (ns.map V.str) (ns.map .str)
  | [] => .nil
  | n :: ns => .cons (.str n) (strs_dpa ns)
end

/-! ### the slots -/
/-- what a slot holds: data that is shared; a list, a dict of its own -/
inductive Sl where
  | sh (d : D)
  | ol (ds : List D)
  | od (kvs : List (Key × D))
  | kl (ds : List D)
abbrev En := List (Option Sl)
def Sl.own : Sl → Bool
  | .sh _ => false
  | .kl _ => false
  | _ => true
def KvAll (K : Fg) (H : Hp) (vs : List (Key × V)) (ds : List (Key × D)) : Prop := Paired (fun p q => p.1 = q.1 ∧ Dq K H p.2 q.2) vs ds
theorem kv_mono {K : Fg} {H H' : Hp} (e : Same H H') {vs : List (Key × V)} {ds : List (Key × D)} (h : KvAll K H vs ds) : KvAll K H' vs ds :=
  Paired.mapP h fun _ _ q => ⟨q.1, dp_mono e q.2⟩
def SlOk (K : Fg) (A0 A : Addr → Bool) (H : Hp) (v : V) : Sl → Prop
  | .sh d => Dq K (hide A H) v d
  | .ol ds => ∃ p vs, v = .ref p ∧ A p = true ∧ A0 p = false ∧ H p = some (.lst vs) ∧ DqAll K (hide A H) vs ds
  | .od kvs => ∃ p vs, v = .ref p ∧ A p = true ∧ A0 p = false ∧ H p = some (.dK vs) ∧ KvAll K (hide A H) vs kvs
  | .kl ds => ∃ p vs, v = .ref p ∧ SqL K (hide A H) p vs ∧ DqAll K (hide A H) vs ds
structure EnvOk (K : Fg) (A0 : Addr → Bool) (Hs : Hp) (A : Addr → Bool) (H : Hp) (σ : L2.St) (en : En) : Prop where
  base : Same (hide A0 Hs) (hide A H)
  keep : ∀ p, A0 p = true → H p = Hs p
  sub : ∀ p, A0 p = true → A p = true
  live : Live A H
  len : σ.length = en.length
  slot : ∀ (i : Nat) (s : Sl), en[i]? = some (some s) → ∃ v, σ[i]? = some (some v) ∧ SlOk K A0 A H v s
  uniq : ∀ (i j : Nat) (s t : Sl) (p : Addr), i ≠ j → en[i]? = some (some s) → en[j]? = some (some t) → s.own = true → t.own = true → σ[i]? = some (some (.ref p)) → σ[j]? = some (some (.ref p)) → False
section
variable {K : Fg} {A0 A : Addr → Bool} {Hs H H' : Hp} {σ : L2.St} {en : En}
theorem EnvOk.grow (I : EnvOk K A0 Hs A H σ en) (g : Grow A H H') : EnvOk K A0 Hs A H' σ en where
  base := I.base.trans g.ex
  keep := fun p h => (g.eq p (I.sub p h)).trans (I.keep p h)
  sub := I.sub
  live := g.live I.live
  len := I.len
  slot := fun i s e => by
    obtain ⟨v, h1, h2⟩ := I.slot i s e
    refine ⟨v, h1, ?_⟩
    cases s with
    | sh d => exact dp_mono g.ex h2
    | kl ds =>
      obtain ⟨p, vs, e1, e2, e3⟩ := h2
      exact ⟨p, vs, e1, sl_mono g.ex e2, dpa_mono g.ex e3⟩
    | ol ds =>
      obtain ⟨p, vs, e1, e2, e3, e4, e5⟩ := h2
      exact ⟨p, vs, e1, e2, e3, by rw [g.eq p e2]; exact e4, dpa_mono g.ex e5⟩
    | od ds =>
      obtain ⟨p, vs, e1, e2, e3, e4, e5⟩ := h2
      exact ⟨p, vs, e1, e2, e3, by rw [g.eq p e2]; exact e4, kv_mono g.ex e5⟩
  uniq := I.uniq
theorem getS {α : Type} {l : List α} {i j : Nat} {x y : α} (h : (l.set i x)[j]? = some y) : (i = j ∧ y = x ∧ i < l.length) ∨ (i ≠ j ∧ l[j]? = some y) := by
  by_cases e : i = j
  · subst e
    by_cases hl : i < l.length
    · rw [List.getElem?_set_self hl] at h; exact .inl ⟨rfl, (Option.some.inj h).symm, hl⟩
    · rw [List.getElem?_eq_none (by simpa using hl)] at h; cases h
  · rw [List.getElem?_set_ne e] at h; exact .inr ⟨e, h⟩
theorem EnvOk.set (I : EnvOk K A0 Hs A H σ en) {i : Nat} {v : V} {d : D} (h : Dq K (hide A H) v d) : EnvOk K A0 Hs A H (σ.set i (some v)) (en.set i (some (.sh d))) where
  base := I.base
  keep := I.keep
  sub := I.sub
  live := I.live
  len := by simpa using I.len
  slot := fun j s e => by
    rcases getS e with ⟨rfl, e, hl⟩ | ⟨hne, e⟩
    · cases e
      exact ⟨v, List.getElem?_set_self (by rw [I.len]; exact hl), h⟩
    · obtain ⟨u, h1, h2⟩ := I.slot j s e
      exact ⟨u, by rw [List.getElem?_set_ne hne]; exact h1, h2⟩
  uniq := fun a b s t p hab ha hb os ot pa pb => by
    rcases getS ha with ⟨rfl, e, _⟩ | ⟨na, ha⟩
    · cases e; cases os
    · rcases getS hb with ⟨rfl, e, _⟩ | ⟨nb, hb⟩
      · cases e; cases ot
      · rw [List.getElem?_set_ne na] at pa
        rw [List.getElem?_set_ne nb] at pb
        exact I.uniq a b s t p hab ha hb os ot pa pb
theorem EnvOk.unset (I : EnvOk K A0 Hs A H σ en) {i : Nat} {x : Option V} (hx : i < σ.length) : EnvOk K A0 Hs A H (σ.set i x) (en.set i none) where
  base := I.base
  keep := I.keep
  sub := I.sub
  live := I.live
  len := by simpa using I.len
  slot := fun j s e => by
    rcases getS e with ⟨rfl, e, hl⟩ | ⟨hne, e⟩
    · cases e
    · obtain ⟨u, h1, h2⟩ := I.slot j s e
      exact ⟨u, by rw [List.getElem?_set_ne hne]; exact h1, h2⟩
  uniq := fun a b s t p hab ha hb os ot pa pb => by
    rcases getS ha with ⟨rfl, e, _⟩ | ⟨na, ha⟩
    · cases e
    · rcases getS hb with ⟨rfl, e, _⟩ | ⟨nb, hb⟩
      · cases e
      · rw [List.getElem?_set_ne na] at pa
        rw [List.getElem?_set_ne nb] at pb
        exact I.uniq a b s t p hab ha hb os ot pa pb
/-- a slot for a new list or dict at p: SlOk at the new A -/
theorem EnvOk.setNew (I : EnvOk K A0 Hs A H σ en) {i : Nat} {p : Addr} {s : Sl} (hp : H p = none) (g : Grow A H H') (h : SlOk K A0 (adda A p) H' (.ref p) s) (hn : H' p ≠ none) (hs : s.own = true) : EnvOk K A0 Hs (adda A p) H' (σ.set i (some (.ref p))) (en.set i (some s)) := by
  have hA : A p = false := I.live.out hp
  have hA0 : A0 p = false := by
    cases e : A0 p with
    | false => rfl
    | true => rw [I.sub p e] at hA; cases hA
  have sm : Same (hide A H) (hide (adda A p) H') := fun a o e => by
    obtain ⟨h1, h2⟩ := hide_some e
    have hne : a ≠ p := ne_of_none h2 hp
    have := g.ex a o e
    rw [hide_out (by rw [adda_ne hne]; exact h1)]
    exact (hide_some this).2
  have np : ∀ (j : Nat) (u : Sl), en[j]? = some (some u) → u.own = true → σ[j]? ≠ some (some (V.ref p)) := fun j u e o q => by
    obtain ⟨v, h1, h2⟩ := I.slot j u e
    rw [q] at h1
    cases h1
    cases u with
    | sh d => cases o
    | kl d => cases o
    | ol ds =>
      obtain ⟨p', vs, e1, e2, _⟩ := h2
      cases e1
      rw [hA] at e2; cases e2
    | od ds =>
      obtain ⟨p', vs, e1, e2, _⟩ := h2
      cases e1
      rw [hA] at e2; cases e2
  refine ⟨I.base.trans sm, fun q hq => (g.eq q (I.sub q hq)).trans (I.keep q hq), fun q hq => adda_of (I.sub q hq), fun q hq => ?_, by simpa using I.len, fun j t e => ?_, fun a b t u q hab ha hb ot ou pa pb => ?_⟩
  · by_cases e : q = p
    · rw [e]; exact hn
    · rw [adda_ne e] at hq
      rw [g.eq q hq]; exact I.live q hq
  · rcases getS e with ⟨rfl, e, hl⟩ | ⟨hne, e⟩
    · cases e
      exact ⟨_, List.getElem?_set_self (by rw [I.len]; exact hl), h⟩
    · obtain ⟨v, h1, h2⟩ := I.slot j t e
      refine ⟨v, by rw [List.getElem?_set_ne hne]; exact h1, ?_⟩
      cases t with
      | sh d => exact dp_mono sm h2
      | kl ds =>
        obtain ⟨p, vs, e1, e2, e3⟩ := h2
        exact ⟨p, vs, e1, sl_mono sm e2, dpa_mono sm e3⟩
      | ol ds =>
        obtain ⟨q, vs, e1, e2, e3, e4, e5⟩ := h2
        exact ⟨q, vs, e1, adda_of e2, e3, by rw [g.eq q e2]; exact e4, dpa_mono sm e5⟩
      | od ds =>
        obtain ⟨q, vs, e1, e2, e3, e4, e5⟩ := h2
        exact ⟨q, vs, e1, adda_of e2, e3, by rw [g.eq q e2]; exact e4, kv_mono sm e5⟩
  · rcases getS ha with ⟨rfl, e, la⟩ | ⟨na, ha⟩
    · rcases getS hb with ⟨rfl, e, _⟩ | ⟨nb, hb⟩
      · exact hab rfl
      · rw [List.getElem?_set_self (by rw [I.len]; exact la)] at pa
        rw [List.getElem?_set_ne nb] at pb
        cases pa
        exact np b u hb ou pb
    · rcases getS hb with ⟨rfl, e, lb⟩ | ⟨nb, hb⟩
      · rw [List.getElem?_set_self (by rw [I.len]; exact lb)] at pb
        rw [List.getElem?_set_ne na] at pa
        cases pb
        exact np a t ha ot pa
      · rw [List.getElem?_set_ne na] at pa
        rw [List.getElem?_set_ne nb] at pb
        exact I.uniq a b t u q hab ha hb ot ou pa pb
/-- an own slot's object is changed -/
theorem EnvOk.write (I : EnvOk K A0 Hs A H σ en) {i : Nat} {p : Addr} {s t : Sl} {o : HO} (hi : en[i]? = some (some s)) (os : s.own = true) (hv : σ[i]? = some (some (.ref p))) (hA : A p = true) (hA0 : A0 p = false)
    (ot : t.own = true) (h : SlOk K A0 A (upd H p o) (.ref p) t) : EnvOk K A0 Hs A (upd H p o) σ (en.set i (some t)) := by
  have sm : Same (hide A H) (hide A (upd H p o)) := fun a u e => by
    obtain ⟨h1, h2⟩ := hide_some e
    have hne : a ≠ p := fun z => by rw [z, hA] at h1; cases h1
    rw [hide_out h1, upd_ne hne]; exact h2
  refine ⟨I.base.trans sm, fun q hq => ?_, I.sub, fun q hq => ?_, by simpa using I.len, fun j u e => ?_, fun a b u w q hab ha hb ou ow pa pb => ?_⟩
  · rw [upd_ne (fun z => by rw [z, hA0] at hq; cases hq)]; exact I.keep q hq
  · by_cases e : q = p
    · rw [e, upd_same]; exact fun z => by cases z
    · rw [upd_ne e]; exact I.live q hq
  · rcases getS e with ⟨rfl, e, hl⟩ | ⟨hne, e⟩
    · cases e
      exact ⟨_, hv, h⟩
    · obtain ⟨v, h1, h2⟩ := I.slot j u e
      refine ⟨v, h1, ?_⟩
      cases u with
      | sh d => exact dp_mono sm h2
      | kl ds =>
        obtain ⟨p, vs, e1, e2, e3⟩ := h2
        exact ⟨p, vs, e1, sl_mono sm e2, dpa_mono sm e3⟩
      | ol ds =>
        obtain ⟨q, vs, e1, e2, e3, e4, e5⟩ := h2
        subst e1
        have hq : q ≠ p := fun z => I.uniq i j s _ p hne hi e os rfl hv (by rw [← z]; exact h1)
        exact ⟨q, vs, rfl, e2, e3, by rw [upd_ne hq]; exact e4, dpa_mono sm e5⟩
      | od ds =>
        obtain ⟨q, vs, e1, e2, e3, e4, e5⟩ := h2
        subst e1
        have hq : q ≠ p := fun z => I.uniq i j s _ p hne hi e os rfl hv (by rw [← z]; exact h1)
        exact ⟨q, vs, rfl, e2, e3, by rw [upd_ne hq]; exact e4, kv_mono sm e5⟩
  · have go : ∀ {c : Nat} {x : Sl}, (en.set i (some t))[c]? = some (some x) → x.own = true → ∃ y : Sl, en[c]? = some (some y) ∧ y.own = true := fun {c x} hc ox => by
      rcases getS hc with ⟨rfl, e, _⟩ | ⟨nc, hc⟩
      · exact ⟨s, hi, os⟩
      · exact ⟨x, hc, ox⟩
    obtain ⟨y, hy, oy⟩ := go ha ou
    obtain ⟨z, hz, oz⟩ := go hb ow
    exact I.uniq a b y z q hab hy hz oy oz pa pb
/-- an own list is shared from now on -/
theorem EnvOk.freeze (I : EnvOk K A0 Hs A H σ en) {i : Nat} {ds : List D} (hi : en[i]? = some (some (.ol ds))) : ∃ A', EnvOk K A0 Hs A' H σ (en.set i (some (.sh (.list ds)))) := by
  obtain ⟨v, hv, p, vs, rfl, hA, hA0, hp, hd⟩ := I.slot i _ hi
  have sm : Same (hide A H) (hide (dela A p) H) := fun a u e => by
    obtain ⟨h1, h2⟩ := hide_some e
    have hne : a ≠ p := fun z => by rw [z, hA] at h1; cases h1
    rw [hide_out (by rw [dela_ne hne]; exact h1)]; exact h2
  have il : i < en.length := (List.getElem?_eq_some_iff.mp hi).1
  refine ⟨dela A p, I.base.trans sm, I.keep, fun q hq => ?_, fun q hq => I.live q (dela_true hq).1, by simpa using I.len, fun j u e => ?_, fun a b u w q hab ha hb ou ow pa pb => ?_⟩
  · have : q ≠ p := fun z => by rw [z, hA0] at hq; cases hq
    rw [dela_ne this]; exact I.sub q hq
  · rcases getS e with ⟨rfl, e, hl⟩ | ⟨hne, e⟩
    · cases e
      refine ⟨_, hv, .lst (.inl ?_) (dpa_mono sm hd)⟩
      rw [hide_out dela_self]; exact hp
    · obtain ⟨v, h1, h2⟩ := I.slot j u e
      refine ⟨v, h1, ?_⟩
      cases u with
      | sh d => exact dp_mono sm h2
      | kl ds =>
        obtain ⟨p, vs, e1, e2, e3⟩ := h2
        exact ⟨p, vs, e1, sl_mono sm e2, dpa_mono sm e3⟩
      | ol ds' =>
        obtain ⟨q, vs', e1, e2, e3, e4, e5⟩ := h2
        subst e1
        have hq : q ≠ p := fun z => I.uniq i j _ _ p hne hi e rfl rfl hv (by rw [← z]; exact h1)
        exact ⟨q, vs', rfl, by rw [dela_ne hq]; exact e2, e3, e4, dpa_mono sm e5⟩
      | od ds' =>
        obtain ⟨q, vs', e1, e2, e3, e4, e5⟩ := h2
        subst e1
        have hq : q ≠ p := fun z => I.uniq i j _ _ p hne hi e rfl rfl hv (by rw [← z]; exact h1)
        exact ⟨q, vs', rfl, by rw [dela_ne hq]; exact e2, e3, e4, kv_mono sm e5⟩
  · have go : ∀ {c : Nat} {x : Sl}, (en.set i (some (.sh (.list ds))))[c]? = some (some x) → x.own = true → en[c]? = some (some x) := fun {c x} hc ox => by
      rcases getS hc with ⟨rfl, e, _⟩ | ⟨nc, hc⟩
      · cases e; cases ox
      · exact hc
    exact I.uniq a b u w q hab (go ha ou) (go hb ow) ou ow pa pb
/-- what stands now is the base from here on -/
def reb (A0 A : Addr → Bool) (Hs H : Hp) : Hp := fun a => if A0 a = true then Hs a else hide A H a
theorem EnvOk.rebase (I : EnvOk K A0 Hs A H σ en) : EnvOk K A0 (reb A0 A Hs H) A H σ en := by
  refine ⟨fun a o e => ?_, fun p h => ?_, I.sub, I.live, I.len, I.slot, I.uniq⟩
  · obtain ⟨h1, h2⟩ := hide_some e
    unfold reb at h2
    rw [if_neg (by rw [h1]; decide)] at h2
    exact h2
  · unfold reb; rw [if_pos h]; exact I.keep p h
theorem reb_sub (I : EnvOk K A0 Hs A H σ en) {A' : Addr → Bool} {H' : Hp} {σ' : L2.St} {en' : En} (J : EnvOk K A0 (reb A0 A Hs H) A' H' σ' en') : Same (hide A H) (hide A' H') := fun a o e => by
  refine J.base a o ?_
  obtain ⟨h1, h2⟩ := hide_some e
  have h0 : A0 a = false := by
    cases q : A0 a with
    | false => rfl
    | true => rw [I.sub a q] at h1; cases h1
  rw [hide_out h0]
  unfold reb
  rw [if_neg (by rw [h0]; decide)]
  exact e
theorem EnvOk.unrebase (I : EnvOk K A0 Hs A H σ en) {A' : Addr → Bool} {H' : Hp} {σ' : L2.St} {en' : En} (J : EnvOk K A0 (reb A0 A Hs H) A' H' σ' en') : EnvOk K A0 Hs A' H' σ' en' := by
  refine ⟨I.base.trans (reb_sub I J), fun p h => ?_, J.sub, J.live, J.len, J.slot, J.uniq⟩
  rw [J.keep p h]
  unfold reb; rw [if_pos h]
end

/-! ### judgements over data -/
section
variable {K : Fg}
def EvD (K : Fg) (te : TE) (en : En) (d : D) : Prop := ∀ A0 Hs A H σ, EnvOk K A0 Hs A H σ en → ∀ Q : VK, (∀ v H', Grow A H H' → Dq K (hide A H') v d → Q v H') → te σ H Q
def EvA (K : Fg) (ta : TA) (en : En) (ds : List D) : Prop := ∀ A0 Hs A H σ, EnvOk K A0 Hs A H σ en → ∀ Q : List V → Hp → Prop, (∀ vs H', Grow A H H' → DqAll K (hide A H') vs ds → Q vs H') → ta σ H Q
def EvT (K : Fg) (tt : TT) (en : En) (b : Bool) : Prop := ∀ A0 Hs A H σ, EnvOk K A0 Hs A H σ en → ∀ Q : Bool → Hp → Prop, (∀ H', Grow A H H' → Q b H') → tt σ H Q
/-- a new list, a new dict -/
def EvN (K : Fg) (te : TE) (en : En) (ds : List D) : Prop := ∀ A0 Hs A H σ, EnvOk K A0 Hs A H σ en → ∀ Q : VK, (∀ p H' vs, H p = none → Grow A H H' → H' p = some (.lst vs) → DqAll K (hide (adda A p) H') vs ds → Q (.ref p) H') → te σ H Q
def EvK (K : Fg) (te : TE) (en : En) (kvs : List (Key × D)) : Prop := ∀ A0 Hs A H σ, EnvOk K A0 Hs A H σ en → ∀ Q : VK, (∀ p H' vs, H p = none → Grow A H H' → H' p = some (.dK vs) → KvAll K (hide (adda A p) H') vs kvs → Q (.ref p) H') → te σ H Q
/-- an operation on values -/
def RD2 (K : Fg) (r : R2) (x y z : D) : Prop := ∀ A H v w, Live A H → Dq K (hide A H) v x → Dq K (hide A H) w y → ∀ Q : VK, (∀ u H', Grow A H H' → Dq K (hide A H') u z → Q u H') → r v w H Q
def RD1 (K : Fg) (r : V → Hp → VK → Prop) (x z : D) : Prop := ∀ A H v, Live A H → Dq K (hide A H) v x → ∀ Q : VK, (∀ u H', Grow A H H' → Dq K (hide A H') u z → Q u H') → r v H Q
def RDC (K : Fg) (r : List V → Hp → VK → Prop) (xs : List D) (z : D) : Prop := ∀ A H vs, Live A H → DqAll K (hide A H) vs xs → ∀ Q : VK, (∀ u H', Grow A H H' → Dq K (hide A H') u z → Q u H') → r vs H Q
def RDCN (K : Fg) (r : List V → Hp → VK → Prop) (xs : List D) (zs : List D) : Prop := ∀ A H vs, Live A H → DqAll K (hide A H) vs xs → ∀ Q : VK, (∀ p H' ws, H p = none → Grow A H H' → H' p = some (.lst ws) → DqAll K (hide (adda A p) H') ws zs → Q (.ref p) H') → r vs H Q
def RDM (K : Fg) (r : V → List V → Hp → VK → Prop) (x : D) (xs : List D) (z : D) : Prop := ∀ A H v vs, Live A H → Dq K (hide A H) v x → DqAll K (hide A H) vs xs → ∀ Q : VK, (∀ u H', Grow A H H' → Dq K (hide A H') u z → Q u H') → r v vs H Q

variable {te ta tb tc : TE} {tt tu : TT} {en : En} {d x y z : D} {r r' : R2} {i : Nat}
theorem EvD.eq {d' : D} (h : EvD K te en d) (e : d = d') : EvD K te en d' := e ▸ h
theorem EvT.eq {b b' : Bool} (h : EvT K tt en b) (e : b = b') : EvT K tt en b' := e ▸ h
theorem EvN.eq {d d' : List D} (h : EvN K te en d) (e : d = d') : EvN K te en d' := e ▸ h
theorem ev_new {ds : List D} (h : EvN K te en ds) : EvD K te en (.list ds) := fun A0 Hs A H σ I Q k => h A0 Hs A H σ I Q fun p H' vs hp g e hd => by
  have hA : A p = false := I.live.out hp
  refine k _ H' g (.lst (.inl (by rw [hide_out hA]; exact e)) (dpa_mono (fun a o q => ?_) hd))
  obtain ⟨h1, h2⟩ := hide_some q
  rw [hide_out (adda_false h1).1]; exact h2
theorem ev_var (h : en[i]? = some (some (.sh d))) : EvD K (tVar i) en d := fun A0 Hs A H σ I Q k => by
  obtain ⟨v, h1, h2⟩ := I.slot i _ h
  exact ⟨v, h1, k v H (Grow.refl H) h2⟩
theorem ev_int {n : Int} : EvD K (tC (.int n)) en (.int n) := fun _ _ _ H _ _ Q k => k _ H (Grow.refl H) (.int n)
theorem ev_str {n : Str} : EvD K (tC (.str n)) en (.str n) := fun _ _ _ H _ _ Q k => k _ H (Grow.refl H) (.str n)
theorem ev_bl {n : Bool} : EvD K (tC (.bl n)) en (.bool n) := fun _ _ _ H _ _ Q k => k _ H (Grow.refl H) (.bl n)
theorem ev_non : EvD K (tC .non) en .none := fun _ _ _ H _ _ Q k => k _ H (Grow.refl H) .non
theorem ev_op (ha : EvD K ta en x) (hb : EvD K tb en y) (hr : RD2 K r x y z) : EvD K (tOp r ta tb) en z := fun A0 Hs A H σ I Q k =>
  ha A0 Hs A H σ I _ fun v H1 g1 d1 => hb A0 Hs A H1 σ (I.grow g1) _ fun w H2 g2 d2 =>
    hr A H2 v w ((g1.trans g2).live I.live) (dp_mono g2.ex d1) d2 Q fun u H3 g3 d3 => k u H3 ((g1.trans g2).trans g3) d3
theorem ev_un {r : V → Hp → VK → Prop} (ha : EvD K ta en x) (hr : RD1 K r x z) : EvD K (tUn r ta) en z := fun A0 Hs A H σ I Q k =>
  ha A0 Hs A H σ I _ fun v H1 g1 d1 => hr A H1 v (g1.live I.live) d1 Q fun u H3 g3 d3 => k u H3 (g1.trans g3) d3
theorem ea_nil : EvA K tNil en [] := fun _ _ _ H _ _ Q k => k [] H (Grow.refl H) .nil
theorem ea_cons {tr : TA} {ds : List D} (ha : EvD K ta en d) (hr : EvA K tr en ds) : EvA K (tCons ta tr) en (d :: ds) := fun A0 Hs A H σ I Q k =>
  ha A0 Hs A H σ I _ fun v H1 g1 d1 => hr A0 Hs A H1 σ (I.grow g1) _ fun vs H2 g2 d2 => k _ H2 (g1.trans g2) (.cons (dp_mono g2.ex d1) d2)
theorem ev_tup {tr : TA} {ds : List D} (h : EvA K tr en ds) (hl : ds.length ≤ sizeLine) : EvD K (tTup tr) en (.tuple ds) := fun A0 Hs A H σ I Q k =>
  h A0 Hs A H σ I _ fun vs H1 g1 d1 => ⟨by rw [dpa_len d1]; exact hl, fun p hp => by
    have g2 : Grow A H1 (upd H1 p (.tup vs)) := Grow.new (g1.live I.live) hp
    exact k _ _ (g1.trans g2) (.tup (.inl (.inl (hide_new (g1.live I.live) hp))) (dpa_mono g2.ex d1))⟩
theorem grow_newl {A : Addr → Bool} {H : Hp} {vs : List V} {ds : List D} {p : Addr} {o : HO} (hp : H p = none) (h : DqAll K (hide A H) vs ds) : DqAll K (hide (adda A p) (upd H p o)) vs ds := dpa_mono (fun a u e => by
  obtain ⟨h1, h2⟩ := hide_some e
  have hne := ne_of_none h2 hp
  rw [hide_out (by rw [adda_ne hne]; exact h1), upd_ne hne]; exact h2) h
theorem en_lst {tr : TA} {ds : List D} (h : EvA K tr en ds) (hl : ds.length ≤ sizeLine) : EvN K (tLst tr) en ds := fun A0 Hs A H σ I Q k =>
  h A0 Hs A H σ I _ fun vs H1 g1 d1 => ⟨by rw [dpa_len d1]; exact hl, fun p hp => by
    have g2 : Grow A H1 (upd H1 p (.lst vs)) := Grow.new (g1.live I.live) hp
    have hp0 : H p = none := by
      cases e : H p with
      | none => rfl
      | some o => rw [g1.same p o e] at hp; cases hp
    exact k _ _ vs hp0 (g1.trans g2) upd_same (grow_newl hp d1)⟩
theorem ev_call {rc : List V → Hp → VK → Prop} {tr : TA} {ds : List D} (h : EvA K tr en ds) (hr : RDC K rc ds z) : EvD K (tCB rc tr) en z := fun A0 Hs A H σ I Q k =>
  h A0 Hs A H σ I _ fun vs H1 g1 d1 => hr A H1 vs (g1.live I.live) d1 Q fun u H2 g2 d2 => k u H2 (g1.trans g2) d2
theorem en_call {rc : List V → Hp → VK → Prop} {tr : TA} {ds zs : List D} (h : EvA K tr en ds) (hr : RDCN K rc ds zs) : EvN K (tCB rc tr) en zs := fun A0 Hs A H σ I Q k =>
  h A0 Hs A H σ I _ fun vs H1 g1 d1 => hr A H1 vs (g1.live I.live) d1 Q fun p H2 ws hp g2 e d2 => k p H2 ws (by
    cases e : H p with
    | none => rfl
    | some o => rw [g1.same p o e] at hp; cases hp) (g1.trans g2) e d2
theorem ev_and {a b : Bool} (h1 : EvD K ta en (.bool a)) (h2 : a = true → EvD K tb en (.bool b)) : EvD K (tAndV ta tb) en (.bool (a && b)) := fun A0 Hs A H σ I Q k =>
  h1 A0 Hs A H σ I _ fun v H1 g1 d1 => ⟨a, dp_bl d1, by
    cases a with
    | true => exact h2 rfl A0 Hs A H1 σ (I.grow g1) Q fun u H2 g2 d2 => k u H2 (g1.trans g2) d2
    | false => exact k _ H1 g1 (.bl false)⟩
theorem ev_or {a b : Bool} (h1 : EvD K ta en (.bool a)) (h2 : a = false → EvD K tb en (.bool b)) : EvD K (tOrV ta tb) en (.bool (a || b)) := fun A0 Hs A H σ I Q k =>
  h1 A0 Hs A H σ I _ fun v H1 g1 d1 => ⟨a, dp_bl d1, by
    cases a with
    | false => exact h2 rfl A0 Hs A H1 σ (I.grow g1) Q fun u H2 g2 d2 => k u H2 (g1.trans g2) d2
    | true => exact k _ H1 g1 (.bl true)⟩
theorem ev_not {a : Bool} (h1 : EvD K ta en (.bool a)) : EvD K (tNotV ta) en (.bool (!a)) := fun A0 Hs A H σ I Q k =>
  h1 A0 Hs A H σ I _ fun v H1 g1 d1 => ⟨a, dp_bl d1, k _ H1 g1 (.bl _)⟩
theorem ev_if {b : Bool} (h : EvT K tt en b) (h1 : b = true → EvD K ta en d) (h2 : b = false → EvD K tb en d) : EvD K (tIf tt ta tb) en d := fun A0 Hs A H σ I Q k =>
  h A0 Hs A H σ I _ fun H1 g1 => by
    cases b with
    | true => exact h1 rfl A0 Hs A H1 σ (I.grow g1) Q fun u H2 g2 d2 => k u H2 (g1.trans g2) d2
    | false => exact h2 rfl A0 Hs A H1 σ (I.grow g1) Q fun u H2 g2 d2 => k u H2 (g1.trans g2) d2
theorem ev_chain {a b : Bool} (ha : EvD K ta en x) (hb : EvD K tb en y) (hc : a = true → EvD K tc en z) (h1 : RD2 K r x y (.bool a)) (h2 : a = true → RD2 K r' y z (.bool b)) : EvD K (tChain r r' ta tb tc) en (.bool (a && b)) := fun A0 Hs A H σ I Q k =>
  ha A0 Hs A H σ I _ fun v H1 g1 d1 => hb A0 Hs A H1 σ (I.grow g1) _ fun w H2 g2 d2 => h1 A H2 v w ((g1.trans g2).live I.live) (dp_mono g2.ex d1) d2 _ fun u H3 g3 d3 => ⟨a, dp_bl d3, by
    have g : Grow A H H3 := (g1.trans g2).trans g3
    cases a with
    | false => exact k _ H3 g (.bl false)
    | true => exact hc rfl A0 Hs A H3 σ (I.grow g) _ fun w' H4 g4 d4 => h2 rfl A H4 w w' ((g.trans g4).live I.live) (dp_mono (g3.trans g4).ex d2) d4 Q fun u' H5 g5 d5 => k u' H5 ((g.trans g4).trans g5) d5⟩
theorem et_test {b : Bool} (h : EvD K te en (.bool b)) : EvT K (tTest te) en b := fun A0 Hs A H σ I Q k =>
  h A0 Hs A H σ I _ fun v H1 g1 d1 => ⟨b, dp_bl d1, k H1 g1⟩
theorem et_B {b : Bool} (h : EvD K te en (.bool b)) : EvT K (tB te) en b := fun A0 Hs A H σ I Q k =>
  h A0 Hs A H σ I _ fun v H1 g1 d1 => ⟨b, dp_bl d1, k H1 g1⟩
theorem et_yes : EvT K tYes en true := fun _ _ _ H _ _ Q k => k H (Grow.refl H)
theorem et_and {a b : Bool} (h1 : EvT K tt en a) (h2 : a = true → EvT K tu en b) : EvT K (tAnd tt tu) en (a && b) := fun A0 Hs A H σ I Q k =>
  h1 A0 Hs A H σ I _ fun H1 g1 => by
    cases a with
    | true => exact h2 rfl A0 Hs A H1 σ (I.grow g1) Q fun H2 g2 => k H2 (g1.trans g2)
    | false => exact k H1 g1
theorem et_or {a b : Bool} (h1 : EvT K tt en a) (h2 : a = false → EvT K tu en b) : EvT K (tOr tt tu) en (a || b) := fun A0 Hs A H σ I Q k =>
  h1 A0 Hs A H σ I _ fun H1 g1 => by
    cases a with
    | false => exact h2 rfl A0 Hs A H1 σ (I.grow g1) Q fun H2 g2 => k H2 (g1.trans g2)
    | true => exact k H1 g1
theorem et_not {a : Bool} (h1 : EvT K tt en a) : EvT K (tNot tt) en (!a) := fun A0 Hs A H σ I Q k =>
  h1 A0 Hs A H σ I _ fun H1 g1 => k H1 g1
end

/-! ### what is walked -/
/-- the items are xs, wherever what stood at H' under A stands -/
structure WalkD (K : Fg) (A : Addr → Bool) (H : Hp) (J : It) (xs : List D) : Prop where
  goes : ∀ A1 H1 (i : Nat), Live A1 H1 → Same (hide A H) (hide A1 H1) → i < xs.length → J.go i H1
  stops : ∀ A1 H1, Live A1 H1 → Same (hide A H) (hide A1 H1) → J.stop xs.length H1
  yields : ∀ A1 H1 (i : Nat) d x H2, Live A1 H1 → Same (hide A H) (hide A1 H1) → xs[i]? = some d → J.yld i H1 x H2 → Grow A1 H1 H2 ∧ Dq K (hide A1 H2) x d
def EvI (K : Fg) (wi : TI) (en : En) (xs : List D) : Prop := ∀ A0 Hs A H σ, EnvOk K A0 Hs A H σ en → ∀ R : It → Hp → Prop, (∀ J H', Grow A H H' → WalkD K A H' J xs → R J H') → wi σ H R
section
variable {K : Fg} {te ta tb : TE} {en : En} {xs ys : List D}
theorem EvI.eq {wi : TI} {xs' : List D} (h : EvI K wi en xs) (e : xs = xs') : EvI K wi en xs' := e ▸ h
theorem ei_list (h : EvD K te en (.list xs)) : EvI K (iList K te) en xs := fun A0 Hs A H σ I R k =>
  h A0 Hs A H σ I _ fun v H1 g1 d1 => by
    obtain ⟨a, vs, rfl, hs', hd⟩ := dp_lst d1
    have hs : SqL K (hide A H1) a vs := .inl hs'
    have W := @walk_list K a vs
    have hl := dpa_len hd
    refine ⟨a, rfl, ⟨vs, sl_mono hide_sub hs⟩, k _ H1 g1 ⟨fun A1 H2 i l sm hi => W.goes i H2 (by rw [hl]; exact hi) (sl_mono hide_sub (sl_mono sm hs)), fun A1 H2 l sm => by rw [← hl]; exact W.stops H2 (sl_mono hide_sub (sl_mono sm hs)), fun A1 H2 i d x H3 l sm hi y => ?_⟩⟩
    obtain ⟨u, hu, hd'⟩ := dpa_get hd hi
    obtain ⟨rfl, hx⟩ := W.yields i H2 x H3 (List.getElem?_eq_some_iff.mp hu).1 (sl_mono hide_sub (sl_mono sm hs)) y
    rw [hu] at hx
    cases hx
    exact ⟨Grow.refl _, dp_mono sm hd'⟩
theorem ei_tup (h : EvD K te en (.tuple xs)) : EvI K (iTup K te) en xs := fun A0 Hs A H σ I R k =>
  h A0 Hs A H σ I _ fun v H1 g1 d1 => by
    obtain ⟨a, vs, rfl, hs, hd⟩ := dp_tup d1
    have W := @walk_tup K a vs
    have hl := dpa_len hd
    refine ⟨a, rfl, ⟨vs, st_mono hide_sub hs⟩, k _ H1 g1 ⟨fun A1 H2 i l sm hi => W.goes i H2 (by rw [hl]; exact hi) (st_mono hide_sub (st_mono sm hs)), fun A1 H2 l sm => by rw [← hl]; exact W.stops H2 (st_mono hide_sub (st_mono sm hs)), fun A1 H2 i d x H3 l sm hi y => ?_⟩⟩
    obtain ⟨u, hu, hd'⟩ := dpa_get hd hi
    obtain ⟨rfl, hx⟩ := W.yields i H2 x H3 (List.getElem?_eq_some_iff.mp hu).1 (st_mono hide_sub (st_mono sm hs)) y
    rw [hu] at hx
    cases hx
    exact ⟨Grow.refl _, dp_mono sm hd'⟩
/-- ints from lo, n of them -/
def rngD (lo : Int) (n : Nat) : List D := (List.range n).map fun i : Nat => .int (lo + (i : Int))
theorem rngD_len {lo : Int} {n : Nat} : (rngD lo n).length = n := by simp [rngD]
theorem rngD_get {lo : Int} {n i : Nat} {d : D} (h : (rngD lo n)[i]? = some d) : i < n ∧ d = .int (lo + (i : Int)) := by
  have hi : i < n := by
    have := (List.getElem?_eq_some_iff.mp h).1
    rw [rngD_len] at this; exact this
  unfold rngD at h
  rw [List.getElem?_map, List.getElem?_range hi] at h
  exact ⟨hi, (Option.some.inj h).symm⟩
theorem walkd_range {A : Addr → Bool} {H : Hp} {lo : Int} {n : Nat} : WalkD K A H (Itr lo n) (rngD lo n) := by
  have W := @walk_range lo n
  refine ⟨fun A1 H2 i l sm hi => W.goes i H2 (by rw [rngD_len] at hi; exact hi) trivial, fun A1 H2 l sm => by rw [rngD_len]; exact W.stops H2 trivial, fun A1 H2 i d x H3 l sm hi y => ?_⟩
  obtain ⟨hn, rfl⟩ := rngD_get hi
  obtain ⟨rfl, rfl⟩ := W.yields i H2 x H3 hn trivial y
  exact ⟨Grow.refl _, .int _⟩
theorem ei_rng1 {t : TA} {n : Int} (h : EvA K t en [.int n]) (hn : -1000000 ≤ n ∧ n ≤ 1000000) : EvI K (iRng1 t) en (rngD 0 n.toNat) := fun A0 Hs A H σ I R k =>
  h A0 Hs A H σ I _ fun vs H1 g1 d1 => by
    have e := dpa_ints (ns := [n]) d1
    exact ⟨n, e, by omega, by omega, k _ H1 g1 walkd_range⟩
theorem ei_rng2 {t : TA} {m n : Int} (h : EvA K t en [.int m, .int n]) (hm : -1000000 ≤ m ∧ m ≤ 1000000) (hn : -1000000 ≤ n ∧ n ≤ 1000000) : EvI K (iRng2 t) en (rngD m (n - m).toNat) := fun A0 Hs A H σ I R k =>
  h A0 Hs A H σ I _ fun vs H1 g1 d1 => by
    have e := dpa_ints (ns := [m, n]) d1
    exact ⟨m, n, e, ⟨by omega, by omega, by omega, by omega⟩, k _ H1 g1 walkd_range⟩
/-- a text's signs -/
def signsD (z : Str) : List D := z.cps.toList.map fun c => .str ⟨#[c]⟩
theorem ei_str {z : Str} (h : EvD K te en (.str z)) : EvI K (iStr te) en (signsD z) := fun A0 Hs A H σ I R k =>
  h A0 Hs A H σ I _ fun v H1 g1 d1 => by
    have W := @walk_str z
    have hl : (signsD z).length = z.cps.size := by simp [signsD]
    refine ⟨z, dp_str d1, k _ H1 g1 ⟨fun A1 H2 i l sm hi => W.goes i H2 (by rw [hl] at hi; exact hi) trivial, fun A1 H2 l sm => by rw [hl]; exact W.stops H2 trivial, fun A1 H2 i d x H3 l sm hi y => ?_⟩⟩
    have hi' : i < z.cps.size := by rw [← hl]; exact (List.getElem?_eq_some_iff.mp hi).1
    obtain ⟨rfl, c, hc, rfl⟩ := W.yields i H2 x H3 hi' trivial y
    unfold signsD at hi
    rw [List.getElem?_map, Array.getElem?_toList, hc] at hi
    cases hi
    exact ⟨Grow.refl _, .str _⟩
/-- pairs -/
def pairsD (xs ys : List D) : List D := List.zipWith (fun x y => .tuple [x, y]) xs ys
def enumD (xs : List D) : List D := pairsD (rngD 0 xs.length) xs
theorem walkd_pair {A : Addr → Bool} {H : Hp} {J : It} {n : Nat} {G : Hp → Prop} {f g : Nat → Option V} (W : Walk J n G (YPair f g)) (hn : n = min xs.length ys.length) (hG : ∀ A1 H1, Same (hide A H) (hide A1 H1) → G H1)
    (hf : ∀ (i : Nat) v, i < n → f i = some v → ∃ d, xs[i]? = some d ∧ Dq K (hide A H) v d) (hg : ∀ (i : Nat) v, i < n → g i = some v → ∃ d, ys[i]? = some d ∧ Dq K (hide A H) v d) : WalkD K A H J (pairsD xs ys) := by
  have hl : (pairsD xs ys).length = n := by simp [pairsD, hn]
  refine ⟨fun A1 H2 i l sm hi => W.goes i H2 (by rw [hl] at hi; exact hi) (hG A1 H2 sm), fun A1 H2 l sm => by rw [hl]; exact W.stops H2 (hG A1 H2 sm), fun A1 H2 i d x H3 l sm hi y => ?_⟩
  have hi' : i < n := by rw [← hl]; exact (List.getElem?_eq_some_iff.mp hi).1
  obtain ⟨T, u, w, rfl, hT, rfl, h1, h2⟩ := W.yields i H2 x H3 hi' (hG A1 H2 sm) y
  obtain ⟨d1, e1, q1⟩ := hf i u hi' h1
  obtain ⟨d2, e2, q2⟩ := hg i w hi' h2
  have e : (pairsD xs ys)[i]? = some (.tuple [d1, d2]) := by
    unfold pairsD
    rw [List.getElem?_zipWith, e1, e2]
  rw [e] at hi
  cases hi
  have g := Grow.new (o := .tup [u, w]) l hT
  exact ⟨g, .tup (.inl (.inl (hide_new l hT))) (.cons (dp_mono (sm.trans g.ex) q1) (.cons (dp_mono (sm.trans g.ex) q2) .nil))⟩
theorem rngD_at {lo : Int} {n i : Nat} (h : i < n) : (rngD lo n)[i]? = some (.int (lo + (i : Int))) := by
  unfold rngD
  rw [List.getElem?_map, List.getElem?_range h]; rfl
theorem ei_enum {t : TA} (h : EvA K t en [.list xs]) : EvI K (iEnum K t) en (enumD xs) := fun A0 Hs A H σ I R k =>
  h A0 Hs A H σ I _ fun ws H1 g1 d1 => by
    cases d1 with
    | cons q t =>
      cases t
      obtain ⟨a, vs, rfl, hs', hd⟩ := dp_lst q
      have hs : SqL K (hide A H1) a vs := .inl hs'
      have hl := dpa_len hd
      refine ⟨a, vs, rfl, sl_mono hide_sub hs, k _ H1 g1 (walkd_pair (@walk_enum K a vs) (by rw [rngD_len, hl]; simp) (fun A1 H2 sm => sl_mono hide_sub (sl_mono sm hs)) (fun i v hi e => ?_) (fun i v hi e => ?_))⟩
      · cases e
        refine ⟨_, rngD_at (by rw [← hl]; exact hi), ?_⟩
        rw [Int.zero_add]
        exact .int _
      · exact dpa_get' hd e
theorem ei_zip {t : TA} (h : EvA K t en [.list xs, .list ys]) : EvI K (iZip K t) en (pairsD xs ys) := fun A0 Hs A H σ I R k =>
  h A0 Hs A H σ I _ fun ws H1 g1 d1 => by
    cases d1 with
    | cons q t =>
      cases t with
      | cons q2 t =>
        cases t
        obtain ⟨a, vs, rfl, hs', hd⟩ := dp_lst q
        obtain ⟨b, us, rfl, hs2', hd2⟩ := dp_lst q2
        have hs : SqL K (hide A H1) a vs := .inl hs'
        have hs2 : SqL K (hide A H1) b us := .inl hs2'
        refine ⟨a, b, vs, us, rfl, sl_mono hide_sub hs, sl_mono hide_sub hs2, k _ H1 g1 (walkd_pair (walk_zip rfl) (by rw [dpa_len hd, dpa_len hd2]) (fun A1 H2 sm => ⟨sl_mono hide_sub (sl_mono sm hs), sl_mono hide_sub (sl_mono sm hs2)⟩) (fun i v hi e => dpa_get' hd e) (fun i v hi e => dpa_get' hd2 e))⟩
end

/-! ### statements -/
structure DE where
  nx : En → Prop
  rt : D → Prop
  bk : En → Prop := fun _ => False
  ct : En → Prop := fun _ => False
structure Fits (K : Fg) (A0 : Addr → Bool) (Hs : Hp) (E : DE) (F : Ends) : Prop where
  nx : ∀ A H σ en, EnvOk K A0 Hs A H σ en → E.nx en → F.nx σ H
  rt : ∀ A H σ en v d, EnvOk K A0 Hs A H σ en → Dq K (hide A H) v d → E.rt d → F.rt v H
  bk : ∀ A H σ en, EnvOk K A0 Hs A H σ en → E.bk en → F.bk σ H
  ct : ∀ A H σ en, EnvOk K A0 Hs A H σ en → E.ct en → F.ct σ H
def SD (K : Fg) (ts : TS) (E : DE) (en : En) : Prop := ∀ A0 Hs A H σ, EnvOk K A0 Hs A H σ en → ∀ F : Ends, Fits K A0 Hs E F → ts F σ H
/-- a target -/
def GD (K : Fg) (g : TG) (d : D) (en en' : En) : Prop := ∀ A0 Hs A H σ x, EnvOk K A0 Hs A H σ en → Dq K (hide A H) x d → ∀ Q : L2.St → Hp → Prop, (∀ σ' H', Grow A H H' → EnvOk K A0 Hs A H' σ' en' → Q σ' H') → g x σ H Q
def GDs (K : Fg) (g : TGs) (ds : List D) (en en' : En) : Prop := ∀ A0 Hs A H σ xs, EnvOk K A0 Hs A H σ en → DqAll K (hide A H) xs ds → ∀ Q : L2.St → Hp → Prop, (∀ σ' H', Grow A H H' → EnvOk K A0 Hs A H' σ' en' → Q σ' H') → g xs σ H Q
section
variable {K : Fg} {te ta tb : TE} {tt : TT} {ts tu tz : TS} {en en' en2 : En} {d : D} {E : DE} {i : Nat} {g : TG}
theorem gd_name : GD K (gName i) d en (en.set i (some (.sh d))) := fun A0 Hs A H σ x I h Q k => k _ _ (Grow.refl H) (I.set h)
theorem gds_nil : GDs K gNil [] en en := fun A0 Hs A H σ xs I h Q k => by
  cases h
  exact ⟨rfl, k _ _ (Grow.refl H) I⟩
theorem gds_cons {gs : TGs} {ds : List D} (h1 : GD K g d en en') (h2 : GDs K gs ds en' en2) : GDs K (gCons g gs) (d :: ds) en en2 := fun A0 Hs A H σ xs I h Q k => by
  cases h with
  | cons q t =>
    exact ⟨_, _, rfl, h1 A0 Hs A H σ _ I q _ fun σ1 H1 g1 I1 => h2 A0 Hs A H1 σ1 _ I1 (dpa_mono g1.ex t) Q fun σ2 H2 g2 I2 => k σ2 H2 (g1.trans g2) I2⟩
theorem gd_tup {gs : TGs} {ds : List D} {n : Nat} (h : GDs K gs ds en en') (hn : ds.length = n) : GD K (gTup K n gs) (.tuple ds) en en' := fun A0 Hs A H σ x I hd Q k => by
  obtain ⟨a, xs, rfl, hs, hx⟩ := dp_tup hd
  exact ⟨a, xs, rfl, st_mono hide_sub hs, (dpa_len hx).trans hn, h A0 Hs A H σ xs I hx Q k⟩
theorem s_nx (h : E.nx en) : SD K tNext E en := fun A0 Hs A H σ I F f => f.nx A H σ en I h
theorem s_seq (h : SD K ts { E with nx := fun en' => SD K tu E en' } en) : SD K (tSeq ts tu) E en := fun A0 Hs A H σ I F f =>
  h A0 Hs A H σ I _ ⟨fun A H σ en I q => q A0 Hs A H σ I F f, f.rt, f.bk, f.ct⟩
theorem s_asg (h : EvD K te en d) (k : E.nx (en.set i (some (.sh d)))) : SD K (tAsg te (gName i)) E en := fun A0 Hs A H σ I F f =>
  h A0 Hs A H σ I _ fun v H1 g1 d1 => f.nx A H1 _ _ ((I.grow g1).set d1) k
theorem s_asgG (h : EvD K te en d) (hg : GD K g d en en') (k : E.nx en') : SD K (tAsg te g) E en := fun A0 Hs A H σ I F f =>
  h A0 Hs A H σ I _ fun v H1 g1 d1 => hg A0 Hs A H1 σ v (I.grow g1) d1 _ fun σ2 H2 g2 I2 => f.nx A H2 _ _ I2 k
theorem s_asgN {ds : List D} (h : EvN K te en ds) (k : E.nx (en.set i (some (.ol ds)))) : SD K (tAsg te (gName i)) E en := fun A0 Hs A H σ I F f =>
  h A0 Hs A H σ I _ fun p H1 vs hp g1 e1 d1 => by
    have hA : A p = false := I.live.out hp
    have hA0 : A0 p = false := by
      cases e : A0 p with
      | false => rfl
      | true => rw [I.sub p e] at hA; cases hA
    exact f.nx _ H1 _ _ (I.setNew (s := .ol ds) hp g1 ⟨p, vs, rfl, adda_self, hA0, e1, d1⟩ (by rw [e1]; exact fun z => by cases z) rfl) k
theorem s_asgK {kvs : List (Key × D)} (h : EvK K te en kvs) (k : E.nx (en.set i (some (.od kvs)))) : SD K (tAsg te (gName i)) E en := fun A0 Hs A H σ I F f =>
  h A0 Hs A H σ I _ fun p H1 vs hp g1 e1 d1 => by
    have hA : A p = false := I.live.out hp
    have hA0 : A0 p = false := by
      cases e : A0 p with
      | false => rfl
      | true => rw [I.sub p e] at hA; cases hA
    exact f.nx _ H1 _ _ (I.setNew (s := .od kvs) hp g1 ⟨p, vs, rfl, adda_self, hA0, e1, d1⟩ (by rw [e1]; exact fun z => by cases z) rfl) k
theorem s_ret (h : EvD K te en d) (k : E.rt d) : SD K (tRet te) E en := fun A0 Hs A H σ I F f =>
  h A0 Hs A H σ I _ fun v H1 g1 d1 => f.rt A H1 σ en v d (I.grow g1) d1 k
theorem s_retN (k : E.rt .none) : SD K tRetN E en := fun A0 Hs A H σ I F f => f.rt A H σ en _ _ I .non k
theorem s_if {b : Bool} (h : EvT K tt en b) (h1 : b = true → SD K ts E en) (h2 : b = false → SD K tu E en) : SD K (tIfS tt ts tu) E en := fun A0 Hs A H σ I F f =>
  h A0 Hs A H σ I _ fun H1 g1 => by
    cases b with
    | true => exact h1 rfl A0 Hs A H1 σ (I.grow g1) F f
    | false => exact h2 rfl A0 Hs A H1 σ (I.grow g1) F f
theorem s_drop (h : EvD K te en d) (k : E.nx en) : SD K (tDrop te) E en := fun A0 Hs A H σ I F f =>
  h A0 Hs A H σ I _ fun v H1 g1 d1 => f.nx A H1 σ en (I.grow g1) k
theorem s_break (k : E.bk en) : SD K tBreak E en := fun A0 Hs A H σ I F f => f.bk A H σ en I k
theorem s_cont (k : E.ct en) : SD K tCont E en := fun A0 Hs A H σ I F f => f.ct A H σ en I k
theorem s_freeze {ds : List D} (h : en[i]? = some (some (.ol ds))) (k : SD K ts E (en.set i (some (.sh (.list ds))))) : SD K ts E en := fun A0 Hs A H σ I F f => by
  obtain ⟨A', I'⟩ := I.freeze h
  exact k A0 Hs A' H σ I' F f
/-- what is wanted, weaker -/
theorem s_mono {E' : DE} (h : SD K ts E en) (h1 : ∀ e, E.nx e → E'.nx e) (h2 : ∀ d, E.rt d → E'.rt d) (h3 : ∀ e, E.bk e → E'.bk e) (h4 : ∀ e, E.ct e → E'.ct e) : SD K ts E' en := fun A0 Hs A H σ I F f =>
  h A0 Hs A H σ I F ⟨fun A H σ en I q => f.nx A H σ en I (h1 _ q), fun A H σ en v d I q r => f.rt A H σ en v d I q (h2 _ r), fun A H σ en I q => f.bk A H σ en I (h3 _ q), fun A H σ en I q => f.ct A H σ en I (h4 _ q)⟩
/-- xs.append(e), xs an own list -/
theorem s_app {ds : List D} (hi : en[i]? = some (some (.ol ds))) (h : EvD K te en d) (hz : ds.length < 16000000) (k : E.nx (en.set i (some (.ol (ds ++ [d]))))) :
    SD K (tDrop (tBM K "list" rAppend (tVar i) (tCons te tNil))) E en := fun A0 Hs A H σ I F f => by
  obtain ⟨v, hv, p, vs, rfl, hA, hA0, hp, hd⟩ := I.slot i _ hi
  refine ⟨_, hv, .inl ⟨rfl, _, SqL.of hp⟩, h A0 Hs A H σ I _ fun u H1 g1 d1 => ?_⟩
  have hl := dpa_len hd
  have hp1 : H1 p = some (.lst vs) := by rw [g1.eq p hA]; exact hp
  refine ⟨p, vs, u, rfl, rfl, hp1, Nat.lt_of_lt_of_le (by omega : vs.length < 16000000) (by rw [sizeLine_eq]; decide), ?_⟩
  have sm : Same (hide A H1) (hide A (upd H1 p (.lst (vs ++ [u])))) := fun a o e => by
    obtain ⟨h1, h2⟩ := hide_some e
    have hne : a ≠ p := fun z => by rw [z, hA] at h1; cases h1
    rw [hide_out h1, upd_ne hne]; exact h2
  exact f.nx A _ σ _ ((I.grow g1).write hi rfl hv hA hA0 (t := .ol (ds ++ [d])) rfl ⟨p, _, rfl, hA, hA0, upd_same, dpa_mono sm (dpa_append (dpa_mono g1.ex hd) (.cons d1 .nil))⟩) k
/-- a loop: I by the turn -/
theorem s_for {wi : TI} {xs : List D} (hw : EvI K wi en xs) (P : Nat → En → Prop) (h0 : P 0 en)
    (hs : ∀ (j : Nat) (x : D) (e : En), xs[j]? = some x → P j e → ∃ e', GD K g x e e' ∧ SD K ts { E with nx := P (j + 1), ct := P (j + 1), bk := E.nx } e') (hd : ∀ e, P xs.length e → E.nx e) : SD K (tFor wi g ts) E en := fun A0 Hs A H σ I F f =>
  hw A0 Hs A H σ I _ fun J H1 g1 W => by
    have I1 := (I.grow g1).rebase
    refine ⟨fun j m σ' H' => m = xs.length - j ∧ j ≤ xs.length ∧ ∃ A' e, EnvOk K A0 (reb A0 A Hs H1) A' H' σ' e ∧ P j e, ⟨xs.length, by simp, Nat.zero_le _, A, en, I1, h0⟩, ?_⟩
    rintro j m σ' H' ⟨rfl, hj, A', e, I', p⟩
    have sm : Same (hide A H1) (hide A' H') := reb_sub (I.grow g1) I'
    have unre : ∀ {A2 : Addr → Bool} {H2 : Hp} {σ2 : L2.St} {e2 : En}, EnvOk K A0 (reb A0 A Hs H1) A2 H2 σ2 e2 → EnvOk K A0 Hs A2 H2 σ2 e2 := fun J => (I.grow g1).unrebase J
    by_cases hlt : j < xs.length
    · refine .inr ⟨W.goes A' H' j I'.live sm hlt, fun σ2 H2 => ∃ A2 e2, EnvOk K A0 (reb A0 A Hs H1) A2 H2 σ2 e2 ∧ P (j + 1) e2, fun σ2 H2 ⟨A2, e2, I2, p2⟩ => ⟨xs.length - (j + 1), by omega, rfl, hlt, A2, e2, I2, p2⟩, fun x H2 y => ?_⟩
      have hx : xs[j]? = some xs[j] := by simp [hlt]
      obtain ⟨g2, dx⟩ := W.yields A' H' j _ x H2 I'.live sm hx y
      obtain ⟨e', hg, hb⟩ := hs j _ e hx p
      exact hg A0 _ A' H2 σ' x (I'.grow g2) dx _ fun σ3 H3 g3 I3 => hb A0 _ A' H3 σ3 I3 _ ⟨fun A4 H4 σ4 e4 I4 q => ⟨A4, e4, I4, q⟩, fun A4 H4 σ4 e4 v d I4 dv q => f.rt A4 H4 σ4 e4 v d (unre I4) dv q, fun A4 H4 σ4 e4 I4 q => f.nx A4 H4 σ4 e4 (unre I4) q, fun A4 H4 σ4 e4 I4 q => ⟨A4, e4, I4, q⟩⟩
    · have ej : j = xs.length := by omega
      subst ej
      exact .inl ⟨W.stops A' H' I'.live sm, f.nx A' H' σ' e (unre I') (hd e p)⟩
theorem s_forA {α : Type} {wi : TI} {as : List α} (enc : α → D) (hw : EvI K wi en (as.map enc)) (P : Nat → En → Prop) (h0 : P 0 en)
    (hs : ∀ (j : Nat) (a : α) (e : En), as[j]? = some a → P j e → ∃ e', GD K g (enc a) e e' ∧ SD K ts { E with nx := P (j + 1), ct := P (j + 1), bk := E.nx } e') (hd : ∀ e, P as.length e → E.nx e) : SD K (tFor wi g ts) E en :=
  s_for hw P h0 (fun j x e hx p => by
    rw [List.getElem?_map] at hx
    obtain ⟨a, ha, rfl⟩ := Option.map_eq_some_iff.mp hx
    exact hs j a e ha p) (by rw [List.length_map]; exact hd)
/-- while -/
theorem s_while (W : Nat → En → Prop) (m0 : Nat) (h0 : W m0 en)
    (hs : ∀ m e, W m e → ∃ b, EvT K tt e b ∧ (b = true → ∃ N : En → Prop, (∀ e', N e' → ∃ m', m' < m ∧ W m' e') ∧ SD K ts { E with nx := N, ct := N, bk := E.nx } e) ∧ (b = false → E.nx e)) : SD K (tWhile tt ts) E en := fun A0 Hs A H σ I F f => by
  refine ⟨fun m σ H => ∃ A e, EnvOk K A0 Hs A H σ e ∧ W m e, ⟨m0, A, en, I, h0⟩, ?_⟩
  rintro m σ1 H1 ⟨A1, e, I1, w⟩
  obtain ⟨b, hb, h1, h2⟩ := hs m e w
  refine hb A0 Hs A1 H1 σ1 I1 _ fun H2 g2 => ?_
  cases b with
  | true =>
    obtain ⟨N, hN, hbd⟩ := h1 rfl
    refine ⟨fun σ' H' => ∃ A' e', EnvOk K A0 Hs A' H' σ' e' ∧ N e', fun σ' H' ⟨A', e', I', n⟩ => ?_, ?_⟩
    · obtain ⟨m', hm, w'⟩ := hN e' n
      exact ⟨m', hm, A', e', I', w'⟩
    · exact hbd A0 Hs A1 H2 σ1 (I1.grow g2) _ ⟨fun A4 H4 σ4 e4 I4 q => ⟨A4, e4, I4, q⟩, f.rt, f.nx, fun A4 H4 σ4 e4 I4 q => ⟨A4, e4, I4, q⟩⟩
  | false => exact f.nx A1 H2 σ1 e (I1.grow g2) (h2 rfl)
end

/-! ### comprehensions -/
def wipeE (en : En) : List Nat → En
  | [] => en
  | v :: vs => (wipeE en vs).set v none
theorem wipe_ok {K : Fg} {A0 A : Addr → Bool} {Hs H : Hp} {σ : L2.St} {en : En} (I : EnvOk K A0 Hs A H σ en) : ∀ vs : List Nat, (∀ v ∈ vs, v < en.length) → EnvOk K A0 Hs A H (wipe σ vs) (wipeE en vs)
  | [], _ => I
  | v :: vs, h => (wipe_ok I vs fun x hx => h x (List.mem_cons_of_mem _ hx)).unset (by rw [wipe_length, I.len]; exact h v List.mem_cons_self)
/-- a new object at p, held apart -/
theorem EnvOk.apart {K : Fg} {A0 A : Addr → Bool} {Hs H : Hp} {σ : L2.St} {en : En} (I : EnvOk K A0 Hs A H σ en) {p : Addr} {o : HO} (hp : H p = none) : EnvOk K A0 Hs (adda A p) (upd H p o) σ en := by
  have hA : A p = false := I.live.out hp
  have sm : Same (hide A H) (hide (adda A p) (upd H p o)) := fun a u e => by
    obtain ⟨h1, h2⟩ := hide_some e
    have hne : a ≠ p := ne_of_none h2 hp
    rw [hide_out (by rw [adda_ne hne]; exact h1), upd_ne hne]
    exact h2
  have nA : ∀ q, A q = true → q ≠ p := fun q hq z => by rw [z, hA] at hq; cases hq
  refine ⟨I.base.trans sm, fun q hq => ?_, fun q hq => adda_of (I.sub q hq), fun q hq => ?_, I.len, fun j t e => ?_, I.uniq⟩
  · rw [upd_ne (nA q (I.sub q hq))]; exact I.keep q hq
  · by_cases e : q = p
    · rw [e, upd_same]; exact fun z => by cases z
    · rw [adda_ne e] at hq
      rw [upd_ne e]; exact I.live q hq
  · obtain ⟨v, h1, h2⟩ := I.slot j t e
    refine ⟨v, h1, ?_⟩
    cases t with
    | sh d => exact dp_mono sm h2
    | kl ds =>
      obtain ⟨p, vs, e1, e2, e3⟩ := h2
      exact ⟨p, vs, e1, sl_mono sm e2, dpa_mono sm e3⟩
    | ol ds =>
      obtain ⟨q, vs, e1, e2, e3, e4, e5⟩ := h2
      exact ⟨q, vs, e1, adda_of e2, e3, by rw [upd_ne (nA q e2)]; exact e4, dpa_mono sm e5⟩
    | od ds =>
      obtain ⟨q, vs, e1, e2, e3, e4, e5⟩ := h2
      exact ⟨q, vs, e1, adda_of e2, e3, by rw [upd_ne (nA q e2)]; exact e4, kv_mono sm e5⟩
/-- the object that is held apart changes -/
theorem EnvOk.apartW {K : Fg} {A0 A : Addr → Bool} {Hs H : Hp} {σ : L2.St} {en : En} {p : Addr} (hA : A p = false) (hA0 : A0 p = false) (I : EnvOk K A0 Hs (adda A p) H σ en) (no : ∀ (i : Nat) (s : Sl), en[i]? = some (some s) → s.own = true → σ[i]? ≠ some (some (V.ref p))) {o : HO} : EnvOk K A0 Hs (adda A p) (upd H p o) σ en := by
  have sm : Same (hide (adda A p) H) (hide (adda A p) (upd H p o)) := fun a u e => by
    obtain ⟨h1, h2⟩ := hide_some e
    rw [hide_out h1, upd_ne (adda_false h1).2]; exact h2
  refine ⟨I.base.trans sm, fun q hq => ?_, I.sub, fun q hq => ?_, I.len, fun j t e => ?_, I.uniq⟩
  · rw [upd_ne (fun z => by rw [z, hA0] at hq; cases hq)]; exact I.keep q hq
  · by_cases e : q = p
    · rw [e, upd_same]; exact fun z => by cases z
    · rw [upd_ne e]; exact I.live q hq
  · obtain ⟨v, h1, h2⟩ := I.slot j t e
    refine ⟨v, h1, ?_⟩
    cases t with
    | sh d => exact dp_mono sm h2
    | kl ds =>
      obtain ⟨p, vs, e1, e2, e3⟩ := h2
      exact ⟨p, vs, e1, sl_mono sm e2, dpa_mono sm e3⟩
    | ol ds =>
      obtain ⟨q, vs, e1, e2, e3, e4, e5⟩ := h2
      subst e1
      have hq : q ≠ p := fun z => no j _ e rfl (by rw [← z]; exact h1)
      exact ⟨q, vs, rfl, e2, e3, by rw [upd_ne hq]; exact e4, dpa_mono sm e5⟩
    | od ds =>
      obtain ⟨q, vs, e1, e2, e3, e4, e5⟩ := h2
      subst e1
      have hq : q ≠ p := fun z => no j _ e rfl (by rw [← z]; exact h1)
      exact ⟨q, vs, rfl, e2, e3, by rw [upd_ne hq]; exact e4, kv_mono sm e5⟩
section
variable {K : Fg} {te : TE} {tt : TT} {en : En} {g : TG} {wi : TI} {vs : List Nat}
/-- what the comprehension's turns give -/
def lcD {α : Type} (f : α → Bool) (h : α → D) (xs : List α) : List D := (xs.filter f).map h
theorem lcD_yes {α : Type} {f : α → Bool} {h : α → D} {xs : List α} {n : Nat} {x : α} (e : xs[n]? = some x) (hf : f x = true) : lcD f h (xs.take (n + 1)) = lcD f h (xs.take n) ++ [h x] := by
  unfold lcD
  rw [List.take_add_one, e, List.filter_append, List.map_append]
  simp [hf]
theorem lcD_no {α : Type} {f : α → Bool} {h : α → D} {xs : List α} {n : Nat} {x : α} (e : xs[n]? = some x) (hf : f x = false) : lcD f h (xs.take (n + 1)) = lcD f h (xs.take n) := by
  unfold lcD
  rw [List.take_add_one, e, List.filter_append, List.map_append]
  simp [hf]
theorem lcD_len {α : Type} {f : α → Bool} {h : α → D} {xs : List α} : (lcD f h xs).length ≤ xs.length := by
  unfold lcD
  rw [List.length_map]
  exact List.length_filter_le f xs
theorem el_lc {α : Type} {xs : List α} (enc : α → D) (f : α → Bool) (h : α → D) (hw : EvI K wi en (xs.map enc)) (hz : xs.length < 16000000) (hv : ∀ v ∈ vs, v < en.length)
    (hwipe : ∀ (σ : L2.St) (v : V) (H : Hp) (Q : L2.St → Hp → Prop), g v (wipe σ vs) H Q → g v (wipe σ vs) H fun σ2 H2 => wipe σ2 vs = wipe σ vs ∧ Q σ2 H2)
    (hs : ∀ (j : Nat) (x : α), xs[j]? = some x → ∃ e', GD K g (enc x) (wipeE en vs) e' ∧ EvT K tt e' (f x) ∧ (f x = true → EvD K te e' (h x))) : EvN K (tLc wi g tt te vs) en (lcD f h xs) := fun A0 Hs A H σ I Q k =>
  hw A0 Hs A H σ I _ fun J H1 g1 W Dl hD => by
    have I1 := I.grow g1
    have hA : A Dl = false := I1.live.out hD
    have hA0 : A0 Dl = false := by
      cases e : A0 Dl with
      | false => rfl
      | true => rw [I.sub Dl e] at hA; cases hA
    have hD0 : H Dl = none := by
      cases e : H Dl with
      | none => rfl
      | some o => rw [g1.same Dl o e] at hD; cases hD
    -- the invariant: grown under the list held apart
    let A' := adda A Dl
    have hsub : ∀ {H' : Hp}, Same (hide A H1) (hide A' H') → Same (hide A H1) (hide A H') := fun {H'} s a o e => by
      obtain ⟨h1, h2⟩ := hide_some (s a o e)
      rw [hide_out (adda_false h1).1]; exact h2
    have hle : xs.length ≤ sizeLine := Nat.le_of_lt (Nat.lt_of_lt_of_le hz (by rw [sizeLine_eq]; decide))
    let Pv : Nat → Hp → Prop := fun j H' => Same (hide A H1) (hide A' H') ∧ (∀ p, A p = true → H' p = H1 p) ∧ ∃ ws, H' Dl = some (.lst ws) ∧ DqAll K (hide A' H') ws (lcD f h (xs.take j))
    have IA : ∀ {j : Nat} {H' : Hp}, Pv j H' → EnvOk K A0 Hs A' H' σ en := fun {j H'} ⟨s, q, ws, e, _⟩ => by
      have J0 := I1.apart (o := .lst ws) hD
      refine J0.grow ⟨fun a o ea => ?_, fun p hp => ?_⟩
      · obtain ⟨h1, h2⟩ := hide_some ea
        have hne : a ≠ Dl := (adda_false h1).2
        rw [upd_ne hne] at h2
        exact s a o (by rw [hide_out (adda_false h1).1]; exact h2)
      · by_cases hp' : p = Dl
        · rw [hp', upd_same]; exact e
        · rw [upd_ne hp']
          have hp2 : A p = true := by
            have : adda A Dl p = true := hp
            rw [adda_ne hp'] at this; exact this
          exact q p hp2
    refine ⟨fun j m H' => m = xs.length - j ∧ j ≤ xs.length ∧ Pv j H', ⟨xs.length, by simp, Nat.zero_le _, fun a o e => ?_, fun p hp => ?_, [], upd_same, ?_⟩, ?_⟩
    · obtain ⟨h1, h2⟩ := hide_some e
      have hne : a ≠ Dl := ne_of_none h2 hD
      show hide (adda A Dl) _ a = _
      rw [hide_out (by rw [adda_ne hne]; exact h1), upd_ne hne]; exact h2
    · exact upd_ne fun z => by rw [z, hA] at hp; cases hp
    · exact .nil
    rintro j m H' ⟨rfl, hj, p⟩
    have IJ := IA p
    obtain ⟨s, q, ws, e, dw⟩ := p
    by_cases hlt : j < xs.length
    · refine .inr ⟨W.goes A' H' j IJ.live s (by rw [List.length_map]; exact hlt), fun H2 => Pv (j + 1) H2, fun H2 p2 => ⟨xs.length - (j + 1), by omega, rfl, hlt, p2⟩, fun x H2 y => ?_⟩
      have hx : xs[j]? = some xs[j] := by simp [hlt]
      obtain ⟨g2, dx⟩ := W.yields A' H' j (enc xs[j]) x H2 IJ.live s (by rw [List.getElem?_map, hx]; rfl) y
      obtain ⟨e', hg, ht, hb⟩ := hs j _ hx
      refine hwipe σ x H2 _ (hg A0 Hs A' H2 _ x (wipe_ok (IJ.grow g2) vs hv) dx _ fun σ3 H3 g3 I3 => ?_)
      refine ht A0 Hs A' H3 σ3 I3 _ fun H4 g4 => ?_
      have I4 := I3.grow g4
      have gg : Grow A' H' H4 := (g2.trans g3).trans g4
      cases hf : f xs[j] with
      | false =>
        show Pv (j + 1) H4
        refine ⟨s.trans gg.ex, fun p hp => (gg.eq p (adda_of hp)).trans (q p hp), ws, by rw [gg.eq Dl adda_self]; exact e, ?_⟩
        rw [lcD_no hx hf]
        exact dpa_mono gg.ex dw
      | true =>
        show te σ3 H4 fun y H5 => ∃ acc, H5 Dl = some (.lst acc) ∧ acc.length < sizeLine ∧ Pv (j + 1) (upd H5 Dl (.lst (acc ++ [y])))
        refine hb hf A0 Hs A' H4 σ3 I4 _ fun u H5 g5 du => ?_
        have g6 := gg.trans g5
        have sm : Same (hide A' H5) (hide A' (upd H5 Dl (.lst (ws ++ [u])))) := fun a o ea => by
          obtain ⟨h1, h2⟩ := hide_some ea
          rw [hide_out h1, upd_ne (adda_false h1).2]; exact h2
        refine ⟨ws, by rw [g6.eq Dl adda_self]; exact e, ?_, (s.trans g6.ex).trans sm, fun p hp => ?_, ws ++ [u], upd_same, ?_⟩
        · have h1 := dpa_len dw
          have h2 := lcD_len (f := f) (h := h) (xs := xs.take j)
          have h3 : (xs.take j).length ≤ j := by simp; omega
          omega
        · rw [upd_ne (fun z => by rw [z, hA] at hp; cases hp)]
          exact (g6.eq p (adda_of hp)).trans (q p hp)
        · rw [lcD_yes hx hf]
          exact dpa_mono sm (dpa_append (dpa_mono g6.ex dw) (.cons du .nil))
    · have ej : j = xs.length := by omega
      subst ej
      refine .inl ⟨by have q := W.stops A' H' IJ.live s; rw [List.length_map] at q; exact q, k Dl H' ws hD0 (g1.trans ⟨hsub s, q⟩) e ?_⟩
      rw [List.take_length] at dw
      exact dw
end
end HF

set_option Elab.async false
set_option linter.all false
set_option maxRecDepth 100000
set_option maxHeartbeats 2000000
namespace HF
open PySem L2 PySem.Spec PyProof.Rows

/-! ### a def's promise -/
def spD (K : Fg) (R : List D → D → Prop) : Sp := fun vs H Q _ => ∃ A ds d, Live A H ∧ DqAll K (hide A H) vs ds ∧ R ds d ∧ ∀ v H', Grow A H H' → Dq K (hide A H') v d → Q v H'
def startE (N : List Str) (ds : List D) : En := ds.map (fun d => some (.sh d)) ++ List.replicate (N.length - ds.length) none
section
variable {K : Fg} {P : Program} {w : World} {mg : Str → Option Value} {base : Heap}
theorem start_ok {A : Addr → Bool} {H : Hp} {vs : List V} {ds : List D} (N : List Str) (l : Live A H) (h : DqAll K (hide A H) vs ds) : EnvOk K A H A H (L2.start N vs) (startE N ds) := by
  have hl := dpa_len h
  have own : ∀ (i : Nat) (s : Sl), (startE N ds)[i]? = some (some s) → ∃ d, ds[i]? = some d ∧ s = .sh d := fun i s e => by
    unfold startE at e
    by_cases hi : i < ds.length
    · rw [List.getElem?_append_left (by simpa using hi), List.getElem?_map] at e
      cases q : ds[i]? with
      | none => rw [q] at e; cases e
      | some d => rw [q] at e; cases e; exact ⟨d, rfl, rfl⟩
    · rw [List.getElem?_append_right (by simpa using hi)] at e
      have := List.mem_of_getElem? e
      have := List.eq_of_mem_replicate this
      cases this
  refine ⟨Same.refl _, fun _ _ => rfl, fun _ h => h, l, by simp [L2.start, startE, hl], fun i s e => ?_, fun i j s t p _ e _ o _ _ _ => ?_⟩
  · obtain ⟨d, hd, rfl⟩ := own i s e
    obtain ⟨v, hv, q⟩ := dpa_get h hd
    refine ⟨v, ?_, q⟩
    unfold L2.start
    have hi : i < vs.length := (List.getElem?_eq_some_iff.mp hv).1
    rw [List.getElem?_append_left (by simpa using hi), List.getElem?_map, hv]; rfl
  · obtain ⟨d, _, rfl⟩ := own i s e
    cases o
theorem fnD {x qual : Str} {st : Stmt} {f : Addr} {fd : FuncData} {N ps : List Str} {k : Nat} {R : List D → D → Prop} (F : Fun K x qual st f fd) (S : FnScope N ps (defScope st)) (len : ∀ ds d, R ds d → ds.length = ps.length)
    (hbody : ∀ (cdv : Value) (A : Around) (outer : List Env) (s : Shared) (H : Hp) (E : XK), Room k (A.deeper (envOfC qual (defScope st) s.heap.objs.size f cdv)) →
      ∃ t, PSs (cxOf CX0 P w K mg base N qual (defScope st) f cdv A outer s H E).nox (defBody st) t ∧ ∀ ds d, R ds d → SD K t { nx := fun _ => d = .none, rt := fun r => r = d } (startE N ds)) : FnOk P w K mg base CX0 (k + 1) f fd ps (spD K R) :=
  F.ok S (fun vs H Q E h => by
    obtain ⟨A, ds, d, _, hd, hR, _⟩ := h
    rw [dpa_len hd]; exact len ds d hR) fun cdv A outer s H vs Q E hr h => by
    obtain ⟨A1, ds, d, l, hd, hR, k⟩ := h
    obtain ⟨t, ht, hs⟩ := hbody cdv A outer s H E hr
    refine ⟨t, ht, hs ds d hR A1 H A1 H _ (start_ok N l hd) _ ?_⟩
    have out : ∀ {A' : Addr → Bool} {H' : Hp} {σ' : L2.St} {en' : En}, EnvOk K A1 H A' H' σ' en' → Grow A1 H H' ∧ Same (hide A' H') (hide A1 H') := fun {A' H' σ' en'} I => by
      have sm : Same (hide A' H') (hide A1 H') := fun a o e => by
        obtain ⟨h1, h2⟩ := hide_some e
        have : A1 a = false := by
          cases q : A1 a with
          | false => rfl
          | true => rw [I.sub a q] at h1; cases h1
        rw [hide_out this]; exact h2
      exact ⟨⟨I.base.trans sm, I.keep⟩, sm⟩
    refine ⟨fun A' H' σ' en' I e => ?_, fun A' H' σ' en' v d' I dv e => ?_, fun A' H' σ' en' I e => False.elim e, fun A' H' σ' en' I e => False.elim e⟩
    · obtain ⟨g, _⟩ := out I
      have e : d = .none := e
      rw [e] at k
      exact k _ H' g .non
    · obtain ⟨g, sm⟩ := out I
      have e : d' = d := e
      rw [e] at dv
      exact k v H' g (dp_mono sm dv)
/-- the law itself: its script is a list that is only read -/
def spL (K : Fg) (R : List Int → Prop) : Sp := fun vs H Q _ => ∃ (a : Addr) (ns : List Int), vs = [.ref a] ∧ SqL K H a (ns.map V.int) ∧ R ns ∧ ∀ H', Q (.bl true) H'
theorem fnL {x qual : Str} {st : Stmt} {f : Addr} {fd : FuncData} {N : List Str} {p : Str} {k : Nat} {R : List Int → Prop} (F : Fun K x qual st f fd) (S : FnScope N [p] (defScope st))
    (hbody : ∀ (cdv : Value) (A : Around) (outer : List Env) (s : Shared) (H : Hp) (E : XK), Room k (A.deeper (envOfC qual (defScope st) s.heap.objs.size f cdv)) →
      ∃ t, PSs (cxOf CX0 P w K mg base N qual (defScope st) f cdv A outer s H E).nox (defBody st) t ∧ ∀ ns, R ns → SD K t { nx := fun _ => False, rt := fun r => r = .bool true } (some (.kl (ns.map .int)) :: List.replicate (N.length - 1) none)) : FnOk P w K mg base CX0 (k + 1) f fd [p] (spL K R) :=
  F.ok S (fun vs H Q E h => by
    obtain ⟨a, ns, rfl, _⟩ := h
    rfl) fun cdv A outer s H vs Q E hr h => by
    obtain ⟨a, ns, rfl, hS, hR, k⟩ := h
    obtain ⟨t, ht, hs⟩ := hbody cdv A outer s H E hr
    let A1 : Addr → Bool := fun _ => false
    have e1 : hide A1 H = H := funext fun b => hide_out rfl
    have own : ∀ (i : Nat) (s : Sl), (some (Sl.kl (ns.map .int)) :: List.replicate (N.length - 1) none : En)[i]? = some (some s) → i = 0 ∧ s = .kl (ns.map .int) := fun i s e => by
      cases i with
      | zero => cases e; exact ⟨rfl, rfl⟩
      | succ i =>
        have e : (List.replicate (N.length - 1) (none : Option Sl))[i]? = some (some s) := e
        have := List.eq_of_mem_replicate (List.mem_of_getElem? e)
        cases this
    have I : EnvOk K A1 H A1 H (L2.start N [.ref a]) (some (.kl (ns.map .int)) :: List.replicate (N.length - 1) none) := by
      refine ⟨Same.refl _, fun _ _ => rfl, fun _ h => h, fun _ h => (by cases h), by simp [L2.start], fun i s e => ?_, fun i j s t p _ e _ o _ _ _ => ?_⟩
      · obtain ⟨rfl, rfl⟩ := own i s e
        exact ⟨.ref a, rfl, a, _, rfl, by rw [e1]; exact hS, ints_dpa ns⟩
      · obtain ⟨rfl, rfl⟩ := own i s e
        cases o
    refine ⟨t, ht, hs ns hR A1 H A1 H _ I _ ⟨fun A' H' σ' en' I e => False.elim e, fun A' H' σ' en' v d' I dv e => ?_, fun A' H' σ' en' I e => False.elim e, fun A' H' σ' en' I e => False.elim e⟩⟩
    have e : d' = .bool true := e
    rw [e] at dv
    rw [dp_bl dv]
    exact k H'
/-- a def of the module, ready to be called by its name -/
structure Cal (P : Program) (w : World) (K : Fg) (mg : Str → Option Value) (base : Heap) (x : Str) (k : Nat) (R : List D → D → Prop) : Prop where
  ex : ∃ (f : Addr) (fd : FuncData) (ps : List Str), FnOk P w K mg base CX0 k f fd ps (spD K R) ∧ mg x = some (.ref f) ∧ PySem.W.keepIn K (.ref f) = true ∧ Binds K fd ps []
theorem Cal.mono {x : Str} {j k : Nat} {R : List D → D → Prop} (c : Cal P w K mg base x j R) (h : j ≤ k) : Cal P w K mg base x k R := by
  obtain ⟨f, fd, ps, F, q⟩ := c.ex
  exact ⟨f, fd, ps, F.mono h, q⟩
theorem Cal.imp {x : Str} {k : Nat} {R R' : List D → D → Prop} (c : Cal P w K mg base x k R) (h : ∀ ds d, R' ds d → R ds d) : Cal P w K mg base x k R' := by
  obtain ⟨f, fd, ps, F, q⟩ := c.ex
  exact ⟨f, fd, ps, F.imp fun vs H Q E ⟨A, ds, d, l, hd, hR, k⟩ => ⟨A, ds, d, l, hd, h ds d hR, k⟩, q⟩
def tFn (K : Fg) (R : List D → D → Prop) (t : TA) : TE := tCall (spD K R) [] E0 t
end
section
variable {X : Cx}
theorem pe_fun {x : Str} {j k : Nat} {R : List D → D → Prop} {p pos : Pos} {e : Expr} {es : List Expr} {t : TA} (c : Cal X.prog X.w X.K X.mg X.base x j R) (hr : Room k X.A) (hg : Gl X x) (ha : PA X (e :: es) t) (hj : j ≤ k := by decide)
    (hdb : (x == ("__debug__" : Str)) = false := by decide) (he : starEach (e :: es) X.env = (false, eval e X.env) :: starEach es X.env := by rfl) (hpl : (backTo pos (starEach es X.env)).any (·.1) = false := by rfl) : PE X (.Call (.Name x p) (e :: es) [] pos) (tFn X.K R t) := by
  obtain ⟨f, fd, ps, F, hm, hk, hb⟩ := c.ex
  exact pe_call F (hr.mono hj) hg hm hk hb .nil pass0 ha hdb he hpl
theorem pe_fun0 {x : Str} {j k : Nat} {R : List D → D → Prop} {p pos : Pos} (c : Cal X.prog X.w X.K X.mg X.base x j R) (hr : Room k X.A) (hg : Gl X x) (hj : j ≤ k := by decide)
    (hdb : (x == ("__debug__" : Str)) = false := by decide) : PE X (.Call (.Name x p) [] [] pos) (tFn X.K R tNil) := by
  obtain ⟨f, fd, ps, F, hm, hk, hb⟩ := c.ex
  exact pe_call0 F (hr.mono hj) hg hm hk hb .nil pass0 hdb
end
section
variable {K : Fg} {en : En}
theorem ev_fn {R : List D → D → Prop} {t : TA} {ds : List D} {d : D} (h : EvA K t en ds) (hR : R ds d) : EvD K (tFn K R t) en d := fun A0 Hs A H σ I Q k =>
  h A0 Hs A H σ I _ fun vs H1 g1 d1 => ⟨A, ds, d, g1.live I.live, by rw [List.append_nil]; exact d1, hR, fun v H2 g2 d2 => k v H2 (g1.trans g2) d2⟩
end

/-! ### operators of any kind of data -/
/-- list + list, tracked or locked -/
def rCatRU : R2 := fun x y H Q => ∃ l b xs zs, x = .ref l ∧ y = .ref b ∧ Rd H l (.lst xs) ∧ Rd H b (.lst zs) ∧ xs.length + zs.length ≤ sizeLine ∧ ∀ p, H p = none → Q (.ref p) (upd H p (.lst (xs ++ zs)))
section
variable {X : Cx}
theorem lst_rd {pins : List (Addr × Obj)} {σ : L2.St} {H : Hp} {s : Shared} {l : Addr} {xs : List V} (I : Inv X pins σ H s) (h : Rd H l (.lst xs)) : xs.length ≤ sizeLine ∧ ∃ (its : List Value) (n : Nat), Vals xs its ∧ xs.length = its.length ∧ s.heap.get? l = some { cls := .type "list", data := .seq its.toArray n } := by
  obtain ⟨z, its, n, r, e⟩ := h.ok I.hok
  exact ⟨z, its, n, r, r.length, e⟩
theorem op_catR : OpR X (binaryOp .Add) rCatRU := by
  intro pins s σ H x y v u Q I rx ry h
  obtain ⟨l, b, xs, zs, rfl, rfl, hH, hB, hz, q⟩ := h
  cases rx
  cases ry
  obtain ⟨z, its, n, r, hl, e⟩ := lst_rd I hH
  obtain ⟨z2, its2, n2, r2, hl2, e2⟩ := lst_rd I hB
  refine PySem.P.add_list e e2 ?_ (by rw [List.size_toArray, List.size_toArray]; omega)
  have ea : its.toArray ++ its2.toArray = (its ++ its2).toArray := by simp
  rw [ea]
  exact ⟨.ref _, _, I.lnew (t' := s.toks) (r.append r2) (by rw [List.length_append]; omega), rfl, q _ I.fresh⟩
def rOrU (r r' : R2) : R2 := fun x y H Q => r x y H Q ∨ r' x y H Q
theorem op_or2 {f : Value → Value → Sem Value} {r r' : R2} (h : OpR X f r) (h' : OpR X f r') : OpR X f (rOrU r r') := OpR.or h h'
def rAddIU : R2 := rI0 fun i j => .int (i + j)
def rAddSU : R2 := fun x y H Q => ∃ i j, x = .str i ∧ y = .str j ∧ i.length + j.length ≤ sizeLine ∧ Q (.str (i ++ j)) H
def rAddU (K : Fg) : R2 := rOrU rAddIU (rOrU rAddSU (rOrU (rCatA K) rCatRU))
theorem op_addU : OpR X (binaryOp .Add) (rAddU X.K) := op_or2 op_add (op_or2 op_add_str (op_or2 op_catA op_catR))
def rLtI : R2 := rI0 fun i j => .bl (decide (i < j))
def rLeI : R2 := rI0 fun i j => .bl (decide (i ≤ j))
def rGtI : R2 := rI0 fun i j => .bl (decide (j < i))
def rGeI : R2 := rI0 fun i j => .bl (decide (j ≤ i))
def rLtS : R2 := fun x y H Q => ∃ i j, x = .str i ∧ y = .str j ∧ Q (.bl (decide (i.cps.toList < j.cps.toList))) H
def rLeS : R2 := fun x y H Q => ∃ i j, x = .str i ∧ y = .str j ∧ Q (.bl (!decide (j.cps.toList < i.cps.toList))) H
def rGtS : R2 := fun x y H Q => ∃ i j, x = .str i ∧ y = .str j ∧ Q (.bl (decide (j.cps.toList < i.cps.toList))) H
def rGeS : R2 := fun x y H Q => ∃ i j, x = .str i ∧ y = .str j ∧ Q (.bl (!decide (i.cps.toList < j.cps.toList))) H
def rLtU (K : Fg) : R2 := rOrU rLtI (rOrU rLtS (rLtT K))
def rLeU (K : Fg) : R2 := rOrU rLeI (rOrU rLeS (rLeT K))
def rGtU : R2 := rOrU rGtI rGtS
def rGeU : R2 := rOrU rGeI rGeS
theorem op_ltU (hu : X.A.units < cLine) : OpR X (compareOp .Lt) (rLtU X.K) := op_or2 op_lt (op_or2 op_lt_str (op_ltT hu))
theorem op_leU (hu : X.A.units < cLine) : OpR X (compareOp .LtE) (rLeU X.K) := op_or2 op_le (op_or2 op_le_str (op_leT hu))
theorem op_gtU : OpR X (compareOp .Gt) rGtU := op_or2 op_gt op_gt_str
theorem op_geU : OpR X (compareOp .GtE) rGeU := op_or2 op_ge op_ge_str
theorem op_eqU {k : Nat} (hr : Room k X.A) : OpR X (compareOp .Eq) (rEqD X.K) := op_eqD hr.units
theorem op_neU {k : Nat} (hr : Room k X.A) : OpR X (compareOp .NotEq) (rNeD X.K) := op_neD hr.units
def rInU (K : Fg) : R2 := rOrU (rIn K false) (rInD K)
def rNotInU (K : Fg) : R2 := rOrU (rIn K true) (rNotInD K)
theorem op_inU {k : Nat} (hr : Room k X.A) : OpR X (compareOp .In) (rInU X.K) := op_or2 op_in_seq (op_inD (by have := hr.un; omega))
theorem op_notInU {k : Nat} (hr : Room k X.A) : OpR X (compareOp .NotIn) (rNotInU X.K) := op_or2 op_notIn_seq (op_notInD (by have := hr.un; omega))
def rIsNU : R2 := fun x y H Q => y = .non ∧ Q (.bl (decide (x = .non))) H
def rIsNotNU : R2 := fun x y H Q => y = .non ∧ Q (.bl (!decide (x = .non))) H
theorem op_isU : OpR X (compareOp .Is) rIsNU := op_isN
theorem op_isNotU : OpR X (compareOp .IsNot) rIsNotNU := op_notN
end
section
variable {K : Fg}
theorem rd_left {r r' : R2} {x y z : D} (h : RD2 K r x y z) : RD2 K (rOrU r r') x y z := fun A H v w l hx hy Q k => .inl (h A H v w l hx hy Q k)
theorem rd_right {r r' : R2} {x y z : D} (h : RD2 K r' x y z) : RD2 K (rOrU r r') x y z := fun A H v w l hx hy Q k => .inr (h A H v w l hx hy Q k)
theorem rd_I0 {g : Int → Int → V} {h : Int → Int → D} {i j : Int} (e : ∀ K H, Dq K H (g i j) (h i j)) : RD2 K (rI0 g) (.int i) (.int j) (h i j) := fun A H v w l hx hy Q k => ⟨i, j, dp_int hx, dp_int hy, k _ H (Grow.refl H) (e _ _)⟩
theorem rd_I {C : Int → Int → Prop} {g : Int → Int → V} {h : Int → Int → D} {i j : Int} (e : ∀ K H, Dq K H (g i j) (h i j)) (hc : C i j) : RD2 K (rI C g) (.int i) (.int j) (h i j) := fun A H v w l hx hy Q k => ⟨i, j, dp_int hx, dp_int hy, hc, k _ H (Grow.refl H) (e _ _)⟩
theorem rd_addI {i j : Int} : RD2 K (rAddU K) (.int i) (.int j) (.int (i + j)) := rd_left (rd_I0 (h := fun i j => .int (i + j)) fun _ _ => .int _)
theorem rd_addS {a b : Str} (hz : a.length + b.length ≤ sizeLine) : RD2 K (rAddU K) (.str a) (.str b) (.str (a ++ b)) := rd_right (rd_left fun A H v w l hx hy Q k => ⟨a, b, dp_str hx, dp_str hy, hz, k _ H (Grow.refl H) (.str _)⟩)
theorem rd_addT {xs ys : List D} (hz : xs.length + ys.length ≤ sizeLine) : RD2 K (rAddU K) (.tuple xs) (.tuple ys) (.tuple (xs ++ ys)) := rd_right (rd_right (rd_left fun A H v w l hx hy Q k => by
  obtain ⟨a, us, rfl, ha, da⟩ := dp_tup hx
  obtain ⟨b, ws, rfl, hb, db⟩ := dp_tup hy
  have ea := dpa_len da
  have eb := dpa_len db
  refine ⟨a, b, us, ws, rfl, rfl, st_mono hide_sub ha, st_mono hide_sub hb, by omega, fun e => ?_, fun _ e => ?_, fun _ _ p hp => ?_⟩
  · subst e
    cases da
    exact k _ H (Grow.refl H) hy
  · subst e
    cases db
    rw [List.append_nil] at k
    exact k _ H (Grow.refl H) hx
  · have g := Grow.new (o := .tup (us ++ ws)) l hp
    exact k _ _ g (.tup (.inl (.inl (hide_new l hp))) (dpa_mono g.ex (dpa_append da db)))))
theorem en_addL {ta tb : TE} {en : En} {xs ys : List D} (ha : EvD K ta en (.list xs)) (hb : EvD K tb en (.list ys)) (hz : xs.length + ys.length ≤ sizeLine) : EvN K (tOp (rAddU K) ta tb) en (xs ++ ys) := fun A0 Hs A H σ I Q k =>
  ha A0 Hs A H σ I _ fun v H1 g1 d1 => hb A0 Hs A H1 σ (I.grow g1) _ fun w H2 g2 d2 => by
    obtain ⟨a, us, rfl, ha, da⟩ := dp_lst d1
    obtain ⟨b, ws, rfl, hb, db⟩ := dp_lst d2
    have ea := dpa_len da
    have eb := dpa_len db
    refine .inr (.inr (.inr ⟨a, b, us, ws, rfl, rfl, rd_mono g2.same (rd_mono hide_sub ha), rd_mono hide_sub hb, by omega, fun p hp => ?_⟩))
    have l2 := (g1.trans g2).live I.live
    have hp0 : H p = none := by
      cases e : H p with
      | none => rfl
      | some o => rw [(g1.trans g2).same p o e] at hp; cases hp
    exact k p _ (us ++ ws) hp0 ((g1.trans g2).trans (Grow.new l2 hp)) upd_same (grow_newl hp (dpa_append (dpa_mono g2.ex da) db))
theorem rd_subI {i j : Int} : RD2 K (rI0 fun i j => .int (i - j)) (.int i) (.int j) (.int (i - j)) := rd_I0 (h := fun i j => .int (i - j)) fun _ _ => .int _
theorem rd_mulI {i j : Int} (hc : CMul i j) : RD2 K (rI CMul fun i j => .int (i * j)) (.int i) (.int j) (.int (i * j)) := rd_I (h := fun i j => .int (i * j)) (fun _ _ => .int _) hc
theorem rd_fdiv {i j : Int} (hc : CDiv i j) : RD2 K (rI CDiv fun i j => .int (i / j)) (.int i) (.int j) (.int (i / j)) := rd_I (h := fun i j => .int (i / j)) (fun _ _ => .int _) hc
theorem rd_mod {i j : Int} (hc : 0 < j) : RD2 K (rI (fun _ j => 0 < j) fun i j => .int (i % j)) (.int i) (.int j) (.int (i % j)) := rd_I (C := fun _ j => 0 < j) (h := fun i j => .int (i % j)) (fun _ _ => .int _) hc
theorem rd_pow {i j : Int} (hc : CPow i j) : RD2 K (rI CPow fun i j => .int (i ^ j.toNat)) (.int i) (.int j) (.int (i ^ j.toNat)) := rd_I (h := fun i j => .int (i ^ j.toNat)) (fun _ _ => .int _) hc
theorem rd_shl {i j : Int} (hc : CPow i j) : RD2 K (rI CPow fun i j => .int (i * 2 ^ j.toNat)) (.int i) (.int j) (.int (i * 2 ^ j.toNat)) := rd_I (h := fun i j => .int (i * 2 ^ j.toNat)) (fun _ _ => .int _) hc
theorem rd_shr {i j : Int} (hc : 0 ≤ j) : RD2 K (rI (fun _ j => 0 ≤ j) fun i j => .int (i / 2 ^ j.toNat)) (.int i) (.int j) (.int (i / 2 ^ j.toNat)) := rd_I (C := fun _ j => 0 ≤ j) (h := fun i j => .int (i / 2 ^ j.toNat)) (fun _ _ => .int _) hc
theorem rd_band {i j : Int} : RD2 K (rI0 fun i j => .int (Builtin.bitAnd i j)) (.int i) (.int j) (.int (Builtin.bitAnd i j)) := rd_I0 (h := fun i j => .int (Builtin.bitAnd i j)) fun _ _ => .int _
theorem rd_bor {i j : Int} : RD2 K (rI0 fun i j => .int (Builtin.bitOr i j)) (.int i) (.int j) (.int (Builtin.bitOr i j)) := rd_I0 (h := fun i j => .int (Builtin.bitOr i j)) fun _ _ => .int _
theorem rd_bxor {i j : Int} : RD2 K (rI0 fun i j => .int (Builtin.bitXor i j)) (.int i) (.int j) (.int (Builtin.bitXor i j)) := rd_I0 (h := fun i j => .int (Builtin.bitXor i j)) fun _ _ => .int _
theorem rd_neg {i : Int} : RD1 K (rU fun i => .int (-i)) (.int i) (.int (-i)) := fun A H v l hx Q k => ⟨i, dp_int hx, k _ H (Grow.refl H) (.int _)⟩
theorem rd_ltI {i j : Int} : RD2 K (rLtU K) (.int i) (.int j) (.bool (decide (i < j))) := rd_left (rd_I0 (h := fun i j => .bool (decide (i < j))) fun _ _ => .bl _)
theorem rd_leI {i j : Int} : RD2 K (rLeU K) (.int i) (.int j) (.bool (decide (i ≤ j))) := rd_left (rd_I0 (h := fun i j => .bool (decide (i ≤ j))) fun _ _ => .bl _)
theorem rd_gtI {i j : Int} : RD2 K rGtU (.int i) (.int j) (.bool (decide (j < i))) := rd_left (rd_I0 (h := fun i j => .bool (decide (j < i))) fun _ _ => .bl _)
theorem rd_geI {i j : Int} : RD2 K rGeU (.int i) (.int j) (.bool (decide (j ≤ i))) := rd_left (rd_I0 (h := fun i j => .bool (decide (j ≤ i))) fun _ _ => .bl _)
theorem rd_ltS {a b : Str} : RD2 K (rLtU K) (.str a) (.str b) (.bool (decide (a.cps.toList < b.cps.toList))) := rd_right (rd_left fun A H v w l hx hy Q k => ⟨a, b, dp_str hx, dp_str hy, k _ H (Grow.refl H) (.bl _)⟩)
theorem rd_leS {a b : Str} : RD2 K (rLeU K) (.str a) (.str b) (.bool (!decide (b.cps.toList < a.cps.toList))) := rd_right (rd_left fun A H v w l hx hy Q k => ⟨a, b, dp_str hx, dp_str hy, k _ H (Grow.refl H) (.bl _)⟩)
theorem rd_gtS {a b : Str} : RD2 K rGtU (.str a) (.str b) (.bool (decide (b.cps.toList < a.cps.toList))) := rd_right fun A H v w l hx hy Q k => ⟨a, b, dp_str hx, dp_str hy, k _ H (Grow.refl H) (.bl _)⟩
theorem rd_geS {a b : Str} : RD2 K rGeU (.str a) (.str b) (.bool (!decide (a.cps.toList < b.cps.toList))) := rd_right fun A H v w l hx hy Q k => ⟨a, b, dp_str hx, dp_str hy, k _ H (Grow.refl H) (.bl _)⟩
theorem rd_ltT {ns ms : List Int} : RD2 K (rLtU K) (.tuple (ns.map .int)) (.tuple (ms.map .int)) (.bool (HT.lexLt ns ms)) := rd_right (rd_right fun A H v w l hx hy Q k => by
  obtain ⟨a, us, rfl, ha, da⟩ := dp_tup hx
  obtain ⟨b, ws, rfl, hb, db⟩ := dp_tup hy
  rw [dpa_ints da] at ha
  rw [dpa_ints db] at hb
  exact ⟨a, b, ns, ms, rfl, rfl, st_mono hide_sub ha, st_mono hide_sub hb, k _ H (Grow.refl H) (.bl _)⟩)
/-- tuples of ints in their order, also equal ones -/
def leB (ns ms : List Int) : Bool := Ob.lexAt (fun j => decide (ns.getD j 0 = ms.getD j 0)) (fun j => decide (ns.getD j 0 ≤ ms.getD j 0)) (decide (ns.length ≤ ms.length)) 0 (min ns.length ms.length)
theorem rd_leT {ns ms : List Int} : RD2 K (rLeU K) (.tuple (ns.map .int)) (.tuple (ms.map .int)) (.bool (leB ns ms)) := rd_right (rd_right fun A H v w l hx hy Q k => by
  obtain ⟨a, us, rfl, ha, da⟩ := dp_tup hx
  obtain ⟨b, ws, rfl, hb, db⟩ := dp_tup hy
  rw [dpa_ints da] at ha
  rw [dpa_ints db] at hb
  exact ⟨a, b, ns, ms, rfl, rfl, st_mono hide_sub ha, st_mono hide_sub hb, k _ H (Grow.refl H) (.bl _)⟩)
theorem rd_eq {x y : D} (hx : SeqAt.shaped x = true) (hy : SeqAt.shaped y = true) : RD2 K (rEqD K) x y (.bool (PyData.eqv x y)) := fun A H v w l dx dy Q k =>
  ⟨x, y, dq_dp (dp_mono hide_sub dx), dq_dp (dp_mono hide_sub dy), hx, hy, k _ H (Grow.refl H) (.bl _)⟩
theorem rd_ne {x y : D} (hx : SeqAt.shaped x = true) (hy : SeqAt.shaped y = true) : RD2 K (rNeD K) x y (.bool (!PyData.eqv x y)) := fun A H v w l dx dy Q k =>
  ⟨x, y, dq_dp (dp_mono hide_sub dx), dq_dp (dp_mono hide_sub dy), hx, hy, k _ H (Grow.refl H) (.bl _)⟩
def isN : D → Bool
  | .none => true
  | _ => false
theorem rd_isN {x : D} : RD2 K rIsNU x .none (.bool (isN x)) := fun A H v w l dx dy Q k => by
  refine ⟨dp_non dy, ?_⟩
  have e : decide (v = V.non) = isN x := by
    cases dx <;> simp [isN]
  rw [e]
  exact k _ H (Grow.refl H) (.bl _)
theorem rd_notN {x : D} : RD2 K rIsNotNU x .none (.bool (!isN x)) := fun A H v w l dx dy Q k => by
  refine ⟨dp_non dy, ?_⟩
  have e : (!decide (v = V.non)) = !isN x := by
    cases dx <;> simp [isN]
  rw [e]
  exact k _ H (Grow.refl H) (.bl _)
/-- x in xs, deep -/
theorem rd_inD {x : D} {xs : List D} (hx : SeqAt.shaped x = true) (hy : SeqAt.shaped (.list xs) = true) : RD2 K (rInU K) x (.list xs) (.bool (xs.any fun z => PyData.eqv z x)) := rd_right fun A H v w l dx dy Q k =>
  ⟨x, xs, dq_dp (dp_mono hide_sub dx), dq_dp (dp_mono hide_sub dy), hx, hy, k _ H (Grow.refl H) (.bl _)⟩
theorem rd_notInD {x : D} {xs : List D} (hx : SeqAt.shaped x = true) (hy : SeqAt.shaped (.list xs) = true) : RD2 K (rNotInU K) x (.list xs) (.bool (!xs.any fun z => PyData.eqv z x)) := rd_right fun A H v w l dx dy Q k =>
  ⟨x, xs, dq_dp (dp_mono hide_sub dx), dq_dp (dp_mono hide_sub dy), hx, hy, k _ H (Grow.refl H) (.bl _)⟩
/-- subscripts -/
theorem rd_ixL {xs : List D} {i : Int} {d : D} (h : atI xs i = some d) : RD2 K (rIx K) (.list xs) (.int i) d := fun A H v w l dx dy Q k => by
  obtain ⟨a, us, rfl, ha, da⟩ := dp_lst dx
  unfold atI at h
  rw [← dpa_len da] at h
  cases e : ixN us.length i with
  | none => rw [e] at h; cases h
  | some j =>
    rw [e] at h
    have h : xs[j]? = some d := h
    obtain ⟨u, hu, du⟩ := dpa_get da h
    exact .inl ⟨a, us, i, u, rfl, dp_int dy, .inl (rd_mono hide_sub ha), by unfold atI; rw [e]; exact hu, k u H (Grow.refl H) du⟩
theorem rd_ixT {xs : List D} {i : Int} {d : D} (h : atI xs i = some d) : RD2 K (rIx K) (.tuple xs) (.int i) d := fun A H v w l dx dy Q k => by
  obtain ⟨a, us, rfl, ha, da⟩ := dp_tup dx
  unfold atI at h
  rw [← dpa_len da] at h
  cases e : ixN us.length i with
  | none => rw [e] at h; cases h
  | some j =>
    rw [e] at h
    have h : xs[j]? = some d := h
    obtain ⟨u, hu, du⟩ := dpa_get da h
    exact .inr (.inl ⟨a, us, i, u, rfl, dp_int dy, st_mono hide_sub ha, by unfold atI; rw [e]; exact hu, k u H (Grow.refl H) du⟩)
theorem rd_ixS {z : Str} {i : Int} {c : Nat} (hz : z.length ≤ sizeLine) (h : atI z.cps.toList i = some c) : RD2 K (rIx K) (.str z) (.int i) (.str ⟨#[c]⟩) := fun A H v w l dx dy Q k =>
  .inr (.inr ⟨z, i, c, dp_str dx, dp_int dy, hz, h, k _ H (Grow.refl H) (.str _)⟩)
/-- an item of an own list -/
theorem ev_ixO {en : En} {i : Nat} {tb : TE} {xs : List D} {n : Int} {d : D} (hi : en[i]? = some (some (.ol xs))) (hb : EvD K tb en (.int n)) (h : atI xs n = some d) : EvD K (tOp (rIx K) (tVar i) tb) en d := fun A0 Hs A H σ I Q k => by
  obtain ⟨v, hv, p, vs, rfl, hA, hA0, hp, hd⟩ := I.slot i _ hi
  refine ⟨_, hv, hb A0 Hs A H σ I _ fun w H1 g1 d1 => ?_⟩
  unfold atI at h
  rw [← dpa_len hd] at h
  cases e : ixN vs.length n with
  | none => rw [e] at h; cases h
  | some j =>
    rw [e] at h
    have h : xs[j]? = some d := h
    obtain ⟨u, hu, du⟩ := dpa_get hd h
    exact .inl ⟨p, vs, n, u, rfl, dp_int d1, .inl (.inl (by rw [g1.eq p hA]; exact hp)), by unfold atI; rw [e]; exact hu, k u H1 g1 (dp_mono g1.ex du)⟩
theorem ev_ixK {en : En} {i : Nat} {tb : TE} {xs : List D} {n : Int} {d : D} (hi : en[i]? = some (some (.kl xs))) (hb : EvD K tb en (.int n)) (h : atI xs n = some d) : EvD K (tOp (rIx K) (tVar i) tb) en d := fun A0 Hs A H σ I Q k => by
  obtain ⟨v, hv, p, vs, rfl, hp, hd⟩ := I.slot i _ hi
  refine ⟨_, hv, hb A0 Hs A H σ I _ fun w H1 g1 d1 => ?_⟩
  unfold atI at h
  rw [← dpa_len hd] at h
  cases e : ixN vs.length n with
  | none => rw [e] at h; cases h
  | some j =>
    rw [e] at h
    have h : xs[j]? = some d := h
    obtain ⟨u, hu, du⟩ := dpa_get hd h
    exact .inl ⟨p, vs, n, u, rfl, dp_int d1, sl_mono hide_sub (sl_mono g1.ex hp), by unfold atI; rw [e]; exact hu, k u H1 g1 (dp_mono g1.ex du)⟩
/-! built-in functions -/
def rLenU (K : Fg) : List V → Hp → VK → Prop := fun xs H Q => ∃ x n, xs = [x] ∧ LenV K x H n ∧ Q (.int n) H
theorem rc_lenL {xs : List D} : RDC K (rLenU K) [.list xs] (.int xs.length) := fun A H vs l hd Q k => by
  cases hd with
  | cons h t =>
    cases t
    obtain ⟨a, us, rfl, ha, da⟩ := dp_lst h
    exact ⟨_, us.length, rfl, .inl ⟨us, .inl (rd_mono hide_sub ha), rfl⟩, by rw [dpa_len da]; exact k _ H (Grow.refl H) (.int _)⟩
theorem rc_lenT {xs : List D} : RDC K (rLenU K) [.tuple xs] (.int xs.length) := fun A H vs l hd Q k => by
  cases hd with
  | cons h t =>
    cases t
    obtain ⟨a, us, rfl, ha, da⟩ := dp_tup h
    exact ⟨_, us.length, rfl, .inr ⟨us, st_mono hide_sub ha, rfl⟩, by rw [dpa_len da]; exact k _ H (Grow.refl H) (.int _)⟩
theorem rc_lenS {z : Str} (hz : z.length ≤ sizeLine) : RDC K (rLenU K) [.str z] (.int z.length) := fun A H vs l hd Q k => by
  cases hd with
  | cons h t =>
    cases t
    cases dp_str h
    exact ⟨_, z.length, rfl, ⟨hz, rfl⟩, k _ H (Grow.refl H) (.int _)⟩
theorem ev_lenO {en : En} {i : Nat} {xs : List D} (hi : en[i]? = some (some (.ol xs))) : EvD K (tCB (rLenU K) (tCons (tVar i) tNil)) en (.int xs.length) := fun A0 Hs A H σ I Q k => by
  obtain ⟨v, hv, p, vs, rfl, hA, hA0, hp, hd⟩ := I.slot i _ hi
  exact ⟨_, hv, _, vs.length, rfl, .inl ⟨vs, .inl (.inl hp), rfl⟩, by rw [dpa_len hd]; exact k _ H (Grow.refl H) (.int _)⟩
theorem ev_lenK {en : En} {i : Nat} {xs : List D} (hi : en[i]? = some (some (.kl xs))) : EvD K (tCB (rLenU K) (tCons (tVar i) tNil)) en (.int xs.length) := fun A0 Hs A H σ I Q k => by
  obtain ⟨v, hv, p, vs, rfl, hp, hd⟩ := I.slot i _ hi
  exact ⟨_, hv, _, vs.length, rfl, .inl ⟨vs, sl_mono hide_sub hp, rfl⟩, by rw [dpa_len hd]; exact k _ H (Grow.refl H) (.int _)⟩
theorem ei_listK {en : En} {i : Nat} {xs : List D} (hi : en[i]? = some (some (.kl xs))) : EvI K (iList K (tVar i)) en xs := fun A0 Hs A H σ I R k => by
  obtain ⟨v, hv, a, vs, rfl, hs, hd⟩ := I.slot i _ hi
  have W := @walk_list K a vs
  have hl := dpa_len hd
  refine ⟨_, hv, a, rfl, ⟨vs, sl_mono hide_sub hs⟩, k _ H (Grow.refl H) ⟨fun A1 H2 i l sm hi => W.goes i H2 (by rw [hl]; exact hi) (sl_mono hide_sub (sl_mono sm hs)), fun A1 H2 l sm => by rw [← hl]; exact W.stops H2 (sl_mono hide_sub (sl_mono sm hs)), fun A1 H2 i d x H3 l sm hi y => ?_⟩⟩
  obtain ⟨u, hu, hd'⟩ := dpa_get hd hi
  obtain ⟨rfl, hx⟩ := W.yields i H2 x H3 (List.getElem?_eq_some_iff.mp hu).1 (sl_mono hide_sub (sl_mono sm hs)) y
  rw [hu] at hx
  cases hx
  exact ⟨Grow.refl _, dp_mono sm hd'⟩
theorem ei_enumK {en : En} {i : Nat} {xs : List D} (hi : en[i]? = some (some (.kl xs))) : EvI K (iEnum K (tCons (tVar i) tNil)) en (enumD xs) := fun A0 Hs A H σ I R k => by
  obtain ⟨v, hv, a, vs, rfl, hs, hd⟩ := I.slot i _ hi
  have hl := dpa_len hd
  refine ⟨_, hv, a, vs, rfl, sl_mono hide_sub hs, k _ H (Grow.refl H) (walkd_pair (@walk_enum K a vs) (by rw [rngD_len, hl]; simp) (fun A1 H2 sm => sl_mono hide_sub (sl_mono sm hs)) (fun i v hi e => ?_) (fun i v hi e => ?_))⟩
  · cases e
    refine ⟨_, rngD_at (by rw [← hl]; exact hi), ?_⟩
    rw [Int.zero_add]
    exact .int _
  · exact dpa_get' hd e
def rInt1U : List V → Hp → VK → Prop := fun xs H Q => (∃ i, xs = [.int i] ∧ Q (.int i) H) ∨ ∃ k, xs = [.bl k] ∧ Q (.int (if k then 1 else 0)) H
theorem rc_int {i : Int} : RDC K rInt1U [.int i] (.int i) := fun A H vs l hd Q k => by
  have e := dpa_ints (ns := [i]) hd
  exact .inl ⟨i, e, k _ H (Grow.refl H) (.int _)⟩
theorem rc_intB {b : Bool} : RDC K rInt1U [.bool b] (.int (if b then 1 else 0)) := fun A H vs l hd Q k => by
  have e := dpa_bls (ns := [b]) hd
  exact .inr ⟨b, e, k _ H (Grow.refl H) (.int _)⟩
def rOrdU : List V → Hp → VK → Prop := fun xs H Q => ∃ x, xs = [.str x] ∧ x.length = 1 ∧ Q (.int (x.cps.getD 0 0 : Nat)) H
theorem rc_ord {c : Nat} : RDC K rOrdU [.str ⟨#[c]⟩] (.int (c : Nat)) := fun A H vs l hd Q k => by
  have e := dpa_strs (ns := [⟨#[c]⟩]) hd
  exact ⟨_, e, rfl, k _ H (Grow.refl H) (.int _)⟩
def rTupU (K : Fg) : List V → Hp → VK → Prop := fun xs H Q => ∃ p ys, xs = [.ref p] ∧ ((SqL K H p ys ∧ ∀ l, H l = none → Q (.ref l) (upd H l (.tup ys))) ∨ (SqT K H p ys ∧ Q (.ref p) H))
theorem rc_tupL {xs : List D} : RDC K (rTupU K) [.list xs] (.tuple xs) := fun A H vs l hd Q k => by
  cases hd with
  | cons h t =>
    cases t
    obtain ⟨a, us, rfl, ha, da⟩ := dp_lst h
    refine ⟨a, us, rfl, .inl ⟨.inl (rd_mono hide_sub ha), fun p hp => ?_⟩⟩
    have g := Grow.new (o := .tup us) l hp
    exact k _ _ g (.tup (.inl (.inl (hide_new l hp))) (dpa_mono g.ex da))
theorem rc_tupT {xs : List D} : RDC K (rTupU K) [.tuple xs] (.tuple xs) := fun A H vs l hd Q k => by
  cases hd with
  | cons h t =>
    cases t
    obtain ⟨a, us, rfl, ha, da⟩ := dp_tup h
    exact ⟨a, us, rfl, .inr ⟨st_mono hide_sub ha, k _ H (Grow.refl H) h⟩⟩
def rLstU (K : Fg) : List V → Hp → VK → Prop := fun xs H Q => ∃ p ys, xs = [.ref p] ∧ (SqL K H p ys ∨ SqT K H p ys) ∧ ∀ l, H l = none → Q (.ref l) (upd H l (.lst ys))
theorem rc_lstL {xs : List D} : RDCN K (rLstU K) [.list xs] xs := fun A H vs l hd Q k => by
  cases hd with
  | cons h t =>
    cases t
    obtain ⟨a, us, rfl, ha, da⟩ := dp_lst h
    exact ⟨a, us, rfl, .inl (.inl (rd_mono hide_sub ha)), fun p hp => k p _ us hp (Grow.new l hp) upd_same (grow_newl hp da)⟩
theorem en_lstK {en : En} {i : Nat} {xs : List D} (hi : en[i]? = some (some (.kl xs))) : EvN K (tCB (rLstU K) (tCons (tVar i) tNil)) en xs := fun A0 Hs A H σ I Q k => by
  obtain ⟨v, hv, a, vs, rfl, hs, hd⟩ := I.slot i _ hi
  exact ⟨_, hv, a, vs, rfl, .inl (sl_mono hide_sub hs), fun p hp => k p _ vs hp (Grow.new I.live hp) upd_same (grow_newl hp hd)⟩
theorem rc_lstT {xs : List D} : RDCN K (rLstU K) [.tuple xs] xs := fun A H vs l hd Q k => by
  cases hd with
  | cons h t =>
    cases t
    obtain ⟨a, us, rfl, ha, da⟩ := dp_tup h
    exact ⟨a, us, rfl, .inr (st_mono hide_sub ha), fun p hp => k p _ us hp (Grow.new l hp) upd_same (grow_newl hp da)⟩
def rMax2U : List V → Hp → VK → Prop := fun xs H Q => ∃ i j, xs = [.int i, .int j] ∧ Q (.int (if j > i then j else i)) H
def rMin2U : List V → Hp → VK → Prop := fun xs H Q => ∃ i j, xs = [.int i, .int j] ∧ Q (.int (if j < i then j else i)) H
theorem rc_max2 {i j : Int} : RDC K rMax2U [.int i, .int j] (.int (max i j)) := fun A H vs l hd Q k => by
  have e := dpa_ints (ns := [i, j]) hd
  refine ⟨i, j, e, ?_⟩
  have q : (if j > i then j else i) = max i j := by split <;> omega
  rw [q]
  exact k _ H (Grow.refl H) (.int _)
theorem rc_min2 {i j : Int} : RDC K rMin2U [.int i, .int j] (.int (min i j)) := fun A H vs l hd Q k => by
  have e := dpa_ints (ns := [i, j]) hd
  refine ⟨i, j, e, ?_⟩
  have q : (if j < i then j else i) = min i j := by split <;> omega
  rw [q]
  exact k _ H (Grow.refl H) (.int _)
/-- the name of a value's type -/
def tyD : D → String
  | .none => "NoneType"
  | .bool _ => "bool"
  | .int _ => "int"
  | .str _ => "str"
  | .list _ => "list"
  | .tuple _ => "tuple"
  | .dict _ => "dict"
theorem tyX_of {A : Addr → Bool} {H : Hp} {v : V} {x : D} (h : Dq K (hide A H) v x) : TyX K H v (.type (tyD x)) := by
  cases h with
  | non => exact .base .non
  | bl b => exact .base (.bl b)
  | int i => exact .base (.int i)
  | str i => exact .base (.str i)
  | lst h _ =>
    rcases rd_mono hide_sub h with h | ⟨o, h⟩
    · exact .base (.lst h)
    · exact .base (.frz h)
  | tup h _ =>
    rcases st_mono hide_sub h with (h | ⟨o, h⟩) | ⟨o, its, n, h1, h2, _⟩
    · exact .base (.tup h)
    · exact .fTuple h
    · exact .kTuple h1 h2
theorem ev_isi {en : En} {ta : TE} {T : String} {x : D} {b : Bool} (h : EvD K ta en x) (hb : kitB (tyD x) T = some b) : EvD K (tCB (rIsi K) (tCons ta (tCons (tC (.ty T)) tNil))) en (.bool b) := fun A0 Hs A H σ I Q k =>
  h A0 Hs A H σ I _ fun v H1 g1 d1 => ⟨v, .ty T, _, _, b, rfl, .ty T, tyX_of d1, kit_ty hb, k _ H1 g1 (.bl b)⟩
/-! truth -/
def tTruU (K : Fg) (ta : TE) : TT := fun σ H Q => ta σ H fun x H' => ∃ k, TruV K x H' k ∧ Q k H'
def truD : D → Bool
  | .none => false
  | .bool b => b
  | .int i => i != 0
  | .str z => (z.length : Int) != 0
  | .list xs => !xs.isEmpty
  | .tuple xs => !xs.isEmpty
  | .dict _ => false
def truOk : D → Prop
  | .str z => z.length ≤ sizeLine
  | _ => True
theorem isEmpty_len {xs : List V} {ds : List D} (h : xs.length = ds.length) : xs.isEmpty = ds.isEmpty := by
  cases xs <;> cases ds <;> simp_all
theorem et_tru {en : En} {ta : TE} {x : D} (h : EvD K ta en x) (ho : truOk x) : EvT K (tTruU K ta) en (truD x) := fun A0 Hs A H σ I Q k =>
  h A0 Hs A H σ I _ fun v H1 g1 d1 => ⟨truD x, by
    cases d1 with
    | non => rfl
    | bl b => rfl
    | int i => rfl
    | str z => exact ⟨ho, rfl⟩
    | lst h' a => exact .inl ⟨_, .inl (rd_mono hide_sub h'), by rw [isEmpty_len (dpa_len a)]; rfl⟩
    | tup h' a => exact .inr (.inl ⟨_, st_mono hide_sub h', by rw [isEmpty_len (dpa_len a)]; rfl⟩), k H1 g1⟩
theorem et_truO {en : En} {i : Nat} {xs : List D} (hi : en[i]? = some (some (.ol xs))) : EvT K (tTruU K (tVar i)) en (!xs.isEmpty) := fun A0 Hs A H σ I Q k => by
  obtain ⟨v, hv, p, vs, rfl, hA, hA0, hp, hd⟩ := I.slot i _ hi
  exact ⟨_, hv, _, .inl ⟨vs, .inl (.inl hp), rfl⟩, by rw [isEmpty_len (dpa_len hd)]; exact k H (Grow.refl H)⟩
end
section
variable {X : Cx}
theorem pt_tru {a : Expr} {ta : TE} (ha : PE X a ta) (he : ∀ whole, isTrue a X.env whole = (do let v ← whole; standAt a.pos; holding [v] (truthy v)) := by intro _; rfl) : PT X a (tTruU X.K ta) := pt_truth ha he
theorem ce_len : CallR X (.builtin "len") (rLenU X.K) := call_len
theorem ce_int : CallR X (.type "int") rInt1U := call_int1
theorem ce_ord : CallR X (.builtin "ord") rOrdU := call_ord
theorem ce_tup : CallR X (.type "tuple") (rTupU X.K) := call_tuple_of
theorem ce_lst : CallR X (.type "list") (rLstU X.K) := call_list_of
theorem ce_max2 (hc : X.calm = true := by rfl) : CallR X (.builtin "max") rMax2U := call_max2 hc
theorem ce_min2 (hc : X.calm = true := by rfl) : CallR X (.builtin "min") rMin2U := call_min2 hc
end
/-! ### slices -/
section
variable {K : Fg} {en : En}
def EvO (K : Fg) (to : TO) (en : En) (o : Option Int) : Prop := ∀ A0 Hs A H σ, EnvOk K A0 Hs A H σ en → ∀ Q : Option Int → Hp → Prop, (∀ H', Grow A H H' → Q o H') → to σ H Q
theorem eo_none : EvO K tNoPart en none := fun _ _ _ H _ _ Q k => k H (Grow.refl H)
theorem eo_some {te : TE} {i : Int} (h : EvD K te en (.int i)) : EvO K (tPart te) en (some i) := fun A0 Hs A H σ I Q k =>
  h A0 Hs A H σ I _ fun v H1 g1 d1 => ⟨i, dp_int d1, k H1 g1⟩
def rSlU (K : Fg) : V → Option Int → Option Int → Hp → VK → Prop := fun x lo hi H Q => rSlL K x lo hi H Q ∨ rSlA K x lo hi H Q ∨ rSlS x lo hi H Q
def cutD (xs : List D) (lo hi : Option Int) : List D := (xs.drop (HT.sIx xs.length 0 lo)).take (HT.sIx xs.length xs.length hi - HT.sIx xs.length 0 lo)
theorem cut_whole {xs : List D} {lo hi : Option Int} (h1 : HT.sIx xs.length 0 lo = 0) (h2 : HT.sIx xs.length xs.length hi = xs.length) : cutD xs lo hi = xs := by
  unfold cutD
  rw [h1, h2]
  simp
theorem ev_slT {te : TE} {tl th : TO} {xs : List D} {lo hi : Option Int} (h : EvD K te en (.tuple xs)) (hl : EvO K tl en lo) (hh : EvO K th en hi) : EvD K (tSl (rSlU K) te tl th) en (.tuple (cutD xs lo hi)) := fun A0 Hs A H σ I Q k =>
  h A0 Hs A H σ I _ fun v H1 g1 d1 => hl A0 Hs A H1 σ (I.grow g1) _ fun H2 g2 => hh A0 Hs A H2 σ (I.grow (g1.trans g2)) _ fun H3 g3 => by
    have g := (g1.trans g2).trans g3
    have d3 := dp_mono (g2.trans g3).ex d1
    obtain ⟨a, us, rfl, ha, da⟩ := dp_tup d3
    have e := dpa_len da
    refine .inr (.inl ⟨a, us, rfl, st_mono hide_sub ha, fun q => ?_, fun q p hp => ?_⟩)
    · rw [e] at q
      refine k _ H3 g ?_
      rw [cut_whole q.1 q.2]; exact d3
    · have l := g.live I.live
      have g4 := Grow.new (o := .tup (cutV us lo hi)) l hp
      exact k _ _ (g.trans g4) (.tup (.inl (.inl (hide_new l hp))) (dpa_mono g4.ex (dpa_cut da lo hi)))
theorem en_slL {te : TE} {tl th : TO} {xs : List D} {lo hi : Option Int} (h : EvD K te en (.list xs)) (hl : EvO K tl en lo) (hh : EvO K th en hi) : EvN K (tSl (rSlU K) te tl th) en (cutD xs lo hi) := fun A0 Hs A H σ I Q k =>
  h A0 Hs A H σ I _ fun v H1 g1 d1 => hl A0 Hs A H1 σ (I.grow g1) _ fun H2 g2 => hh A0 Hs A H2 σ (I.grow (g1.trans g2)) _ fun H3 g3 => by
    have g := (g1.trans g2).trans g3
    obtain ⟨a, us, rfl, ha, da⟩ := dp_lst (dp_mono (g2.trans g3).ex d1)
    refine .inl ⟨a, us, rfl, .inl (rd_mono hide_sub ha), fun p hp => ?_⟩
    have hp0 : H p = none := by
      cases e : H p with
      | none => rfl
      | some o => rw [g.same p o e] at hp; cases hp
    exact k p _ _ hp0 (g.trans (Grow.new (g.live I.live) hp)) upd_same (grow_newl hp (dpa_cut da lo hi))
theorem ev_slS {te : TE} {tl th : TO} {z : Str} {lo hi : Option Int} (h : EvD K te en (.str z)) (hz : z.length ≤ sizeLine) (hl : EvO K tl en lo) (hh : EvO K th en hi) : EvD K (tSl (rSlU K) te tl th) en (.str (cutS z lo hi)) := fun A0 Hs A H σ I Q k =>
  h A0 Hs A H σ I _ fun v H1 g1 d1 => hl A0 Hs A H1 σ (I.grow g1) _ fun H2 g2 => hh A0 Hs A H2 σ (I.grow (g1.trans g2)) _ fun H3 g3 =>
    .inr (.inr ⟨z, dp_str d1, hz, k _ H3 ((g1.trans g2).trans g3) (.str _)⟩)
end
section
variable {X : Cx}
theorem sl_U : SlR X (rSlU X.K) := SlR.or sl_list (SlR.or sl_tupA sl_str)
end
end HF

set_option Elab.async false
set_option linter.all false
set_option maxRecDepth 100000
set_option maxHeartbeats 2000000
namespace HF
open PySem L2 PySem.Spec PyProof.Rows

def rSubU : R2 := rI0 fun i j => .int (i - j)
def rMulU : R2 := rI CMul fun i j => .int (i * j)
def rDivU : R2 := rI CDiv fun i j => .int (i / j)
def rModU : R2 := rI (fun _ j => 0 < j) fun i j => .int (i % j)
def rPowU : R2 := rI CPow fun i j => .int (i ^ j.toNat)
def rShlU : R2 := rI CPow fun i j => .int (i * 2 ^ j.toNat)
def rShrU : R2 := rI (fun _ j => 0 ≤ j) fun i j => .int (i / 2 ^ j.toNat)
def rBandU : R2 := rI0 fun i j => .int (Builtin.bitAnd i j)
def rBorU : R2 := rI0 fun i j => .int (Builtin.bitOr i j)
def rBxorU : R2 := rI0 fun i j => .int (Builtin.bitXor i j)
def rNegU : V → Hp → VK → Prop := rU fun i => .int (-i)
section
variable {X : Cx}
theorem op_subU : OpR X (binaryOp .Sub) rSubU := op_sub
theorem op_mulU : OpR X (binaryOp .Mult) rMulU := op_mul
theorem op_divU : OpR X (binaryOp .FloorDiv) rDivU := op_fdiv
theorem op_modU : OpR X (binaryOp .Mod) rModU := op_mod
theorem op_powU : OpR X (binaryOp .Pow) rPowU := op_pow
theorem op_shlU : OpR X (binaryOp .LShift) rShlU := op_shl
theorem op_shrU : OpR X (binaryOp .RShift) rShrU := op_shr
theorem op_bandU : OpR X (binaryOp .BitAnd) rBandU := op_and
theorem op_borU : OpR X (binaryOp .BitOr) rBorU := op_or
theorem op_bxorU : OpR X (binaryOp .BitXor) rBxorU := op_xor
theorem un_negU : UnR X (unaryOp .USub) rNegU := un_neg
theorem pe_gi {x : Str} {n : Int} {pos : Pos} (hg : Gl X x) (h : ∃ t, X.mg x = some (.int n t)) (hd : (x == ("__debug__" : Str)) = false := by decide) : PE X (.Name x pos) (tC (.int n)) := by
  obtain ⟨t, h⟩ := h
  exact pe_glob hg h ⟨t, rfl⟩ hd
theorem pe_gs {x : Str} {n : Str} {pos : Pos} (hg : Gl X x) (h : ∃ t, X.mg x = some (.str n t)) (hd : (x == ("__debug__" : Str)) = false := by decide) : PE X (.Name x pos) (tC (.str n)) := by
  obtain ⟨t, h⟩ := h
  exact pe_glob hg h ⟨t, rfl⟩ hd
/-- a text times a number, 2 or more -/
def repS (z : Str) (n : Nat) : Str := ⟨(List.replicate n z.cps).foldl (· ++ ·) #[]⟩
def rMulS : R2 := fun x y H Q => ∃ (z : Str) (n : Nat), x = .str z ∧ y = .int n ∧ 2 ≤ n ∧ n ≤ 1000 ∧ 1 ≤ z.length ∧ z.length ≤ 1000 ∧ (repS z n).length ≤ sizeLine ∧ Q (.str (repS z n)) H
theorem op_mulS : OpR X (binaryOp .Mult) rMulS := by
  intro pins s σ H x y v u Q I rx ry h
  obtain ⟨z, n, rfl, rfl, h2, h3, h4, h5, h6, q⟩ := h
  obtain ⟨t, rfl⟩ := rx
  obtain ⟨t', rfl⟩ := ry
  have c1 : ¬ ((n : Nat) : Int) < 1 := by omega
  have c2 : (((n : Nat) : Int) == 1 || z.length == 0) = false := by
    rw [Bool.or_eq_false_iff]
    exact ⟨beq_eq_false_iff_ne.mpr (by omega), beq_eq_false_iff_ne.mpr (by omega)⟩
  have hz : z.length * n ≤ 1000000 := Nat.le_trans (Nat.mul_le_mul h5 h3) (by decide)
  refine PySem.P.mul_str (by
    have a1 : ¬ ((n : Nat) : Int) < -(2 ^ 63 : Int) := by omega
    have a2 : ¬ ((n : Nat) : Int) ≥ 2 ^ 63 := by omega
    rw [decide_eq_false a1, decide_eq_false a2]; rfl) (fun _ _ => ?_) (fun _ _ => ?_) ?_
  · have : (((2 : Int) ^ 63 - 1) / ((n : Nat) : Int)) ≥ 1000 := by
      refine Int.le_ediv_of_mul_le (by omega) ?_
      omega
    omega
  · have e : (((n : Nat) : Int)).toNat = n := by omega
    rw [e]
    unfold Builtin.Str.tooLong
    have hs : sizeLine = 16777216 := sizeLine_eq
    exact decide_eq_false (by omega)
  · rw [if_neg c1, if_neg (by rw [c2]; decide)]
    exact ⟨by
      have e : (((n : Nat) : Int)).toNat = n := by omega
      rw [e]
      show (repS z n).length ≤ _
      exact h6, .str _, H, I.tok _, ⟨_, rfl⟩, by
      have e : (((n : Nat) : Int)).toNat = n := by omega
      rw [e]
      exact q⟩
end
section
variable {K : Fg} {en : En}
theorem rd_mulS {z : Str} {n : Nat} (h2 : 2 ≤ n) (h3 : n ≤ 1000) (h4 : 1 ≤ z.length) (h5 : z.length ≤ 1000) (h6 : (repS z n).length ≤ sizeLine) : RD2 K rMulS (.str z) (.int n) (.str (repS z n)) := fun A H v w l dx dy Q k =>
  ⟨z, n, dp_str dx, dp_int dy, h2, h3, h4, h5, h6, k _ H (Grow.refl H) (.str _)⟩
theorem ev_notT {ta : TE} {x : D} (h : EvD K ta en x) (ho : truOk x) : EvD K (tNotT K ta) en (.bool (!truD x)) := fun A0 Hs A H σ I Q k =>
  et_tru h ho A0 Hs A H σ I (fun b H1 => Q (.bl (!b)) H1) fun H1 g1 => k _ H1 g1 (.bl _)
theorem rd_subU {i j : Int} : RD2 K rSubU (.int i) (.int j) (.int (i - j)) := rd_subI
theorem rd_mulU {i j : Int} (hc : CMul i j) : RD2 K rMulU (.int i) (.int j) (.int (i * j)) := rd_mulI hc
theorem rd_divU {i j : Int} (hc : CDiv i j) : RD2 K rDivU (.int i) (.int j) (.int (i / j)) := rd_fdiv hc
theorem rd_modU {i j : Int} (hc : 0 < j) : RD2 K rModU (.int i) (.int j) (.int (i % j)) := rd_mod hc
theorem rd_powU {i j : Int} (hc : CPow i j) : RD2 K rPowU (.int i) (.int j) (.int (i ^ j.toNat)) := rd_pow hc
theorem rd_shlU {i j : Int} (hc : CPow i j) : RD2 K rShlU (.int i) (.int j) (.int (i * 2 ^ j.toNat)) := rd_shl hc
theorem rd_shrU {i j : Int} (hc : 0 ≤ j) : RD2 K rShrU (.int i) (.int j) (.int (i / 2 ^ j.toNat)) := rd_shr hc
theorem rd_bandU {i j : Int} : RD2 K rBandU (.int i) (.int j) (.int (Builtin.bitAnd i j)) := rd_band
theorem rd_borU {i j : Int} : RD2 K rBorU (.int i) (.int j) (.int (Builtin.bitOr i j)) := rd_bor
theorem rd_bxorU {i j : Int} : RD2 K rBxorU (.int i) (.int j) (.int (Builtin.bitXor i j)) := rd_bxor
theorem rd_negU {i : Int} : RD1 K rNegU (.int i) (.int (-i)) := rd_neg
/-! steps of a block -/
variable {te : TE} {tt : TT} {ts tu tz : TS} {d : D} {E : DE} {i : Nat} {g : TG} {en' : En}
theorem q_asg (h : EvD K te en d) (k : SD K tz E (en.set i (some (.sh d)))) : SD K (tSeq (tAsg te (gName i)) tz) E en := s_seq (s_asg h k)
theorem q_asgN {ds : List D} (h : EvN K te en ds) (k : SD K tz E (en.set i (some (.ol ds)))) : SD K (tSeq (tAsg te (gName i)) tz) E en := s_seq (s_asgN h k)
theorem q_asgK {ds : List (Key × D)} (h : EvK K te en ds) (k : SD K tz E (en.set i (some (.od ds)))) : SD K (tSeq (tAsg te (gName i)) tz) E en := s_seq (s_asgK h k)
theorem q_asgG (h : EvD K te en d) (hg : GD K g d en en') (k : SD K tz E en') : SD K (tSeq (tAsg te g) tz) E en := s_seq (s_asgG h hg k)
theorem q_if {b : Bool} (h : EvT K tt en b) (h1 : b = true → SD K ts { E with nx := fun e => SD K tz E e } en) (h2 : b = false → SD K tu { E with nx := fun e => SD K tz E e } en) : SD K (tSeq (tIfS tt ts tu) tz) E en := s_seq (s_if h h1 h2)
/-- if without else -/
theorem q_when {b : Bool} (h : EvT K tt en b) (h1 : b = true → SD K ts { E with nx := fun e => SD K tz E e } en) (h2 : b = false → SD K tz E en) : SD K (tSeq (tIfS tt ts tNext) tz) E en := s_seq (s_if h h1 fun hb => s_nx (h2 hb))
theorem s_when {b : Bool} (h : EvT K tt en b) (h1 : b = true → SD K ts E en) (h2 : b = false → E.nx en) : SD K (tIfS tt ts tNext) E en := s_if h h1 fun hb => s_nx (h2 hb)
theorem q_app {ds : List D} (hi : en[i]? = some (some (.ol ds))) (h : EvD K te en d) (hz : ds.length < 16000000) (k : SD K tz E (en.set i (some (.ol (ds ++ [d]))))) : SD K (tSeq (tDrop (tBM K "list" rAppend (tVar i) (tCons te tNil))) tz) E en := s_seq (s_app hi h hz k)
theorem q_for {wi : TI} {xs : List D} (hw : EvI K wi en xs) (P : Nat → En → Prop) (h0 : P 0 en)
    (hs : ∀ (j : Nat) (x : D) (e : En), xs[j]? = some x → P j e → ∃ e', GD K g x e e' ∧ SD K ts { E with nx := P (j + 1), ct := P (j + 1), bk := fun e => SD K tz E e } e') (hd : ∀ e, P xs.length e → SD K tz E e) : SD K (tSeq (tFor wi g ts) tz) E en :=
  s_seq (s_for (E := { E with nx := fun e => SD K tz E e }) hw P h0 hs hd)
theorem q_forA {α : Type} {wi : TI} {as : List α} (enc : α → D) (hw : EvI K wi en (as.map enc)) (P : Nat → En → Prop) (h0 : P 0 en)
    (hs : ∀ (j : Nat) (a : α) (e : En), as[j]? = some a → P j e → ∃ e', GD K g (enc a) e e' ∧ SD K ts { E with nx := P (j + 1), ct := P (j + 1), bk := fun e => SD K tz E e } e') (hd : ∀ e, P as.length e → SD K tz E e) : SD K (tSeq (tFor wi g ts) tz) E en :=
  s_seq (s_forA (E := { E with nx := fun e => SD K tz E e }) enc hw P h0 hs hd)
theorem q_while (W : Nat → En → Prop) (m0 : Nat) (h0 : W m0 en)
    (hs : ∀ m e, W m e → ∃ b, EvT K tt e b ∧ (b = true → ∃ N : En → Prop, (∀ e', N e' → ∃ m', m' < m ∧ W m' e') ∧ SD K ts { E with nx := N, ct := N, bk := fun e => SD K tz E e } e) ∧ (b = false → SD K tz E e)) : SD K (tSeq (tWhile tt ts) tz) E en :=
  s_seq (s_while (E := { E with nx := fun e => SD K tz E e }) W m0 h0 hs)
theorem q_mid (M : En → Prop) (h : SD K ts { E with nx := M } en) (k : ∀ e, M e → SD K tz E e) : SD K (tSeq ts tz) E en := s_seq (s_mono h k (fun _ h => h) (fun _ h => h) (fun _ h => h))
theorem q_freeze {ds : List D} (h : en[i]? = some (some (.ol ds))) (k : SD K tz E (en.set i (some (.sh (.list ds))))) : SD K tz E en := s_freeze h k
/-- lists made of two sources -/
def lc2D (ys : D → List D) (h : D → D → D) (xs : List D) : List D := xs.flatMap fun x => (ys x).map (h x)
end
/-! comprehensions: what the target stores is wiped -/
def WipeOk (g : TG) (vs : List Nat) : Prop := ∀ (v : V) (σ : L2.St) (H : Hp) (Q : L2.St → Hp → Prop), g v σ H Q → g v σ H fun σ2 H2 => wipe σ2 vs = wipe σ vs ∧ Q σ2 H2
def WipesOk (g : TGs) (vs : List Nat) : Prop := ∀ (v : List V) (σ : L2.St) (H : Hp) (Q : L2.St → Hp → Prop), g v σ H Q → g v σ H fun σ2 H2 => wipe σ2 vs = wipe σ vs ∧ Q σ2 H2
theorem wipe_set {j : Nat} {x : Option V} : ∀ {vs : List Nat} {σ : L2.St}, j ∈ vs → wipe (σ.set j x) vs = wipe σ vs
  | v :: vs, σ, h => by
    show (wipe (σ.set j x) vs).set v none = (wipe σ vs).set v none
    by_cases hj : j ∈ vs
    · rw [wipe_set hj]
    · have e : j = v := by
        rcases List.mem_cons.mp h with h | h
        · exact h
        · exact absurd h hj
      subst e
      have go : ∀ (ws : List Nat) (σ : L2.St), j ∉ ws → wipe (σ.set j x) ws = (wipe σ ws).set j x := by
        intro ws
        induction ws with
        | nil => intro σ _; rfl
        | cons w ws ih =>
          intro σ hn
          show (wipe (σ.set j x) ws).set w none = ((wipe σ ws).set w none).set j x
          rw [ih σ (fun q => hn (List.mem_cons_of_mem _ q)), List.set_comm _ _ (fun q => hn (by rw [q]; exact List.mem_cons_self))]
      rw [go vs σ hj, List.set_set]
theorem wipe_idem : ∀ (vs : List Nat) (σ : L2.St), wipe (wipe σ vs) vs = wipe σ vs := by
  intro vs
  have go : ∀ (ws : List Nat), (∀ w ∈ ws, w ∈ vs) → ∀ σ : L2.St, wipe (wipe σ ws) vs = wipe σ vs := by
    intro ws
    induction ws with
    | nil => intro _ σ; rfl
    | cons w ws ih =>
      intro h σ
      show wipe ((wipe σ ws).set w none) vs = wipe σ vs
      rw [wipe_set (h w List.mem_cons_self), ih (fun x hx => h x (List.mem_cons_of_mem _ hx))]
  exact go vs fun _ h => h
theorem wo_name {j : Nat} {vs : List Nat} (h : j ∈ vs) : WipeOk (gName j) vs := fun v σ H Q q => ⟨wipe_set h, q⟩
theorem wos_nil {vs : List Nat} : WipesOk gNil vs := fun v σ H Q q => ⟨q.1, rfl, q.2⟩
theorem wos_cons {g : TG} {gs : TGs} {vs : List Nat} (mono : ∀ v σ H (Q Q' : L2.St → Hp → Prop), (∀ σ2 H2, Q σ2 H2 → Q' σ2 H2) → g v σ H Q → g v σ H Q') (monos : ∀ v σ H (Q Q' : L2.St → Hp → Prop), (∀ σ2 H2, Q σ2 H2 → Q' σ2 H2) → gs v σ H Q → gs v σ H Q')
    (h : WipeOk g vs) (hs : WipesOk gs vs) : WipesOk (gCons g gs) vs := fun v σ H Q q => by
  obtain ⟨x, r, e, q⟩ := q
  refine ⟨x, r, e, mono _ _ _ _ _ (fun σ2 H2 z => ?_) (h _ _ _ _ q)⟩
  exact monos _ _ _ _ _ (fun σ3 H3 y => ⟨y.1.trans z.1, y.2⟩) (hs _ _ _ _ z.2)
theorem mono_name {j : Nat} : ∀ v σ H (Q Q' : L2.St → Hp → Prop), (∀ σ2 H2, Q σ2 H2 → Q' σ2 H2) → gName j v σ H Q → gName j v σ H Q' := fun v σ H Q Q' f q => f _ _ q
theorem mono_nil : ∀ v σ H (Q Q' : L2.St → Hp → Prop), (∀ σ2 H2, Q σ2 H2 → Q' σ2 H2) → gNil v σ H Q → gNil v σ H Q' := fun v σ H Q Q' f q => ⟨q.1, f _ _ q.2⟩
theorem mono_cons {g : TG} {gs : TGs} (m1 : ∀ v σ H (Q Q' : L2.St → Hp → Prop), (∀ σ2 H2, Q σ2 H2 → Q' σ2 H2) → g v σ H Q → g v σ H Q') (m2 : ∀ v σ H (Q Q' : L2.St → Hp → Prop), (∀ σ2 H2, Q σ2 H2 → Q' σ2 H2) → gs v σ H Q → gs v σ H Q') :
    ∀ v σ H (Q Q' : L2.St → Hp → Prop), (∀ σ2 H2, Q σ2 H2 → Q' σ2 H2) → gCons g gs v σ H Q → gCons g gs v σ H Q' := fun v σ H Q Q' f q => by
  obtain ⟨x, r, e, q⟩ := q
  exact ⟨x, r, e, m1 _ _ _ _ _ (fun σ2 H2 z => m2 _ _ _ _ _ f z) q⟩
theorem wo_tup {K : Fg} {n : Nat} {gs : TGs} {vs : List Nat} (h : WipesOk gs vs) : WipeOk (gTup K n gs) vs := fun v σ H Q q => by
  obtain ⟨a, xs, e, hs, hn, q⟩ := q
  exact ⟨a, xs, e, hs, hn, h _ _ _ _ q⟩
theorem wo_pair {K : Fg} {i j : Nat} {vs : List Nat} (hi : i ∈ vs) (hj : j ∈ vs) : WipeOk (gTup K 2 (gCons (gName i) (gCons (gName j) gNil))) vs :=
  wo_tup (wos_cons mono_name (mono_cons mono_name mono_nil) (wo_name hi) (wos_cons mono_name mono_nil (wo_name hj) wos_nil))
section
variable {K : Fg} {te : TE} {tt : TT} {en : En} {g : TG} {wi : TI} {vs : List Nat}
theorem en_lc {α : Type} {xs : List α} (enc : α → D) (f : α → Bool) (h : α → D) (hw : EvI K wi en (xs.map enc)) (ho : WipeOk g vs) (hz : xs.length < 16000000) (hv : (vs.all fun v => decide (v < en.length)) = true)
    (hs : ∀ (j : Nat) (x : α), xs[j]? = some x → ∃ e', GD K g (enc x) (wipeE en vs) e' ∧ EvT K tt e' (f x) ∧ (f x = true → EvD K te e' (h x))) : EvN K (tLc wi g tt te vs) en ((xs.filter f).map h) :=
  el_lc enc f h hw hz (fun v hx => of_decide_eq_true (List.all_eq_true.mp hv v hx)) (fun σ v H Q q => by
    have z := ho v (wipe σ vs) H Q q
    rw [wipe_idem] at z
    exact z) hs
/-- no test -/
theorem en_map {α : Type} {xs : List α} (enc : α → D) (h : α → D) (hw : EvI K wi en (xs.map enc)) (ho : WipeOk g vs) (hz : xs.length < 16000000) (hv : (vs.all fun v => decide (v < en.length)) = true)
    (hs : ∀ (j : Nat) (x : α), xs[j]? = some x → ∃ e', GD K g (enc x) (wipeE en vs) e' ∧ EvD K te e' (h x)) : EvN K (tLc wi g tYes te vs) en (xs.map h) := by
  have q := en_lc (te := te) (tt := tYes) enc (fun _ => true) h hw ho hz hv fun j x e => by
    obtain ⟨e', h1, h2⟩ := hs j x e
    exact ⟨e', h1, et_yes, fun _ => h2⟩
  refine q.eq ?_
  rw [List.filter_eq_self.mpr (by intros; rfl)]
end
end HF

set_option Elab.async false
set_option linter.all false
set_option maxRecDepth 100000
set_option maxHeartbeats 2000000
namespace HF
open PySem L2 PySem.Spec PyProof.Rows
section
variable {K : Fg} {te : TE} {tt tt1 : TT} {en : En} {g g1 : TG} {wi wi1 : TI} {vs vs1 : List Nat}
/-- the list at Dl, apart from what A hides, is ds -/
structure Heldl (K : Fg) (A : Addr → Bool) (Dl : Addr) (H1 H : Hp) (ds : List D) : Prop where
  sm : Same (hide A H1) (hide (adda A Dl) H)
  eq : ∀ p, A p = true → H p = H1 p
  has : ∃ ws, H Dl = some (.lst ws) ∧ DqAll K (hide (adda A Dl) H) ws ds
theorem Heldl.grow {A : Addr → Bool} {Dl : Addr} {H1 H H' : Hp} {ds : List D} (h : Heldl K A Dl H1 H ds) (g : Grow (adda A Dl) H H') : Heldl K A Dl H1 H' ds := by
  obtain ⟨s, q, ws, e, d⟩ := h
  exact ⟨s.trans g.ex, fun p hp => (g.eq p (adda_of hp)).trans (q p hp), ws, by rw [g.eq Dl adda_self]; exact e, dpa_mono g.ex d⟩
theorem Heldl.push {A : Addr → Bool} {Dl : Addr} {H1 H : Hp} {ds : List D} {d : D} {u : V} (hA : A Dl = false) (h : Heldl K A Dl H1 H ds) (hu : Dq K (hide (adda A Dl) H) u d) (hz : ds.length < 16000000) :
    ∃ acc, H Dl = some (.lst acc) ∧ acc.length < sizeLine ∧ Heldl K A Dl H1 (upd H Dl (.lst (acc ++ [u]))) (ds ++ [d]) ∧ Same (hide (adda A Dl) H) (hide (adda A Dl) (upd H Dl (.lst (acc ++ [u])))) := by
  obtain ⟨s, q, ws, e, dw⟩ := h
  have sm : Same (hide (adda A Dl) H) (hide (adda A Dl) (upd H Dl (.lst (ws ++ [u])))) := fun a o ea => by
    obtain ⟨h1, h2⟩ := hide_some ea
    rw [hide_out h1, upd_ne (adda_false h1).2]; exact h2
  have hl := dpa_len dw
  refine ⟨ws, e, Nat.lt_of_lt_of_le (by omega : ws.length < 16000000) (by rw [sizeLine_eq]; decide), ⟨s.trans sm, fun p hp => ?_, ws ++ [u], upd_same, dpa_mono sm (dpa_append dw (.cons hu .nil))⟩, sm⟩
  rw [upd_ne (fun z => by rw [z, hA] at hp; cases hp)]
  exact q p hp
theorem Heldl.start {A : Addr → Bool} {Dl : Addr} {H1 : Hp} (hA : A Dl = false) (hD : H1 Dl = none) : Heldl K A Dl H1 (upd H1 Dl (.lst [])) [] := by
  refine ⟨fun a o e => ?_, fun p hp => upd_ne fun z => (by rw [z, hA] at hp; cases hp), ⟨[], upd_same, DqAll.nil⟩⟩
  obtain ⟨h1, h2⟩ := hide_some e
  have hne : a ≠ Dl := ne_of_none h2 hD
  rw [hide_out (by rw [adda_ne hne]; exact h1), upd_ne hne]; exact h2
/-- the same slots at a later heap, the list at Dl protected -/
theorem EnvOk.move {A0 A A' : Addr → Bool} {Dl : Addr} {Hs H H' : Hp} {σ : L2.St} {en : En} (I : EnvOk K A0 Hs A H σ en) (hA : A Dl = false ∨ A0 Dl = true) (hs : A' = adda A Dl) (sm : Same (hide A H) (hide A' H')) (eq : ∀ p, A p = true → p ≠ Dl → H' p = H p) (hD : H' Dl ≠ none) :
    EnvOk K (adda A0 Dl) (reb (adda A0 Dl) A' H' H') A' H' σ en := by
  subst hs
  have nD : ∀ p, A p = true → A0 p = false → p ≠ Dl := fun p h1 h2 z => by
    subst z
    rcases hA with h | h
    · rw [h] at h1; cases h1
    · rw [h] at h2; cases h2
  refine ⟨fun a o e => ?_, fun p h => ?_, fun p h => ?_, fun p h => ?_, I.len, fun i s e => ?_, I.uniq⟩
  · obtain ⟨h1, h2⟩ := hide_some e
    unfold reb at h2
    rw [if_neg (by rw [h1]; decide)] at h2
    exact h2
  · unfold reb
    rw [if_pos h]
  · by_cases e : p = Dl
    · rw [e]; exact adda_self
    · rw [adda_ne e] at h ⊢
      exact I.sub p h
  · by_cases e : p = Dl
    · rw [e]; exact hD
    · rw [adda_ne e] at h
      rw [eq p h e]; exact I.live p h
  · obtain ⟨v, h1, h2⟩ := I.slot i s e
    refine ⟨v, h1, ?_⟩
    cases s with
    | sh d => exact dp_mono sm h2
    | kl ds =>
      obtain ⟨p, vs, e1, e2, e3⟩ := h2
      exact ⟨p, vs, e1, sl_mono sm e2, dpa_mono sm e3⟩
    | ol ds =>
      obtain ⟨q, vs, e1, e2, e3, e4, e5⟩ := h2
      have hq := nD q e2 e3
      exact ⟨q, vs, e1, adda_of e2, by rw [adda_ne hq]; exact e3, by rw [eq q e2 hq]; exact e4, dpa_mono sm e5⟩
    | od ds =>
      obtain ⟨q, vs, e1, e2, e3, e4, e5⟩ := h2
      have hq := nD q e2 e3
      exact ⟨q, vs, e1, adda_of e2, by rw [adda_ne hq]; exact e3, by rw [eq q e2 hq]; exact e4, kv_mono sm e5⟩
theorem adda_idem {A : Addr → Bool} {p : Addr} : adda (adda A p) p = adda A p := by
  funext a
  simp [adda, Bool.or_assoc]
theorem Heldl.env {A0 A : Addr → Bool} {Dl : Addr} {Hs H1 H : Hp} {σ : L2.St} {en : En} {ds : List D} (I1 : EnvOk K A0 Hs A H1 σ en) (hA : A Dl = false) (h : Heldl K A Dl H1 H ds) : EnvOk K (adda A0 Dl) (reb (adda A0 Dl) (adda A Dl) H H) (adda A Dl) H σ en := by
  obtain ⟨s, q, ws, e, _⟩ := h
  exact I1.move (.inl hA) rfl s (fun p hp _ => q p hp) (by rw [e]; exact fun z => by cases z)
def lcD2 {α β : Type} (f : α → Bool) (ys : α → List β) (f1 : α → β → Bool) (h : α → β → D) (xs : List α) : List D := xs.flatMap fun x => if f x = true then lcD (f1 x) (h x) (ys x) else []
theorem lcD2_step {α β : Type} {f : α → Bool} {ys : α → List β} {f1 : α → β → Bool} {h : α → β → D} {xs : List α} {j : Nat} {x : α} (e : xs[j]? = some x) :
    lcD2 f ys f1 h (xs.take (j + 1)) = lcD2 f ys f1 h (xs.take j) ++ (if f x = true then lcD (f1 x) (h x) (ys x) else []) := by
  unfold lcD2
  rw [List.take_add_one, e, List.flatMap_append]
  simp
/-- [elt for tg in iter if .. for tg1 in iter1 if ..] -/
theorem en_lc2 {α β : Type} {xs : List α} (enc : α → D) (enc1 : β → D) (f : α → Bool) (ys : α → List β) (f1 : α → β → Bool) (h : α → β → D) (hw : EvI K wi en (xs.map enc)) (ho : WipeOk g vs) (ho1 : WipeOk g1 vs1) (hvb : (vs.all fun v => decide (v < en.length)) = true) (hvb1 : (vs1.all fun v => decide (v < en.length)) = true)
    (hz : (lcD2 f ys f1 h xs).length < 16000000)
    (hs : ∀ (j : Nat) (x : α), xs[j]? = some x → ∃ e1, GD K g (enc x) (wipeE en vs) e1 ∧ e1.length = en.length ∧ EvT K tt e1 (f x) ∧ (f x = true → EvI K wi1 e1 ((ys x).map enc1) ∧
      ∀ (j1 : Nat) (y : β), (ys x)[j1]? = some y → ∃ e2, GD K g1 (enc1 y) (wipeE e1 vs1) e2 ∧ EvT K tt1 e2 (f1 x y) ∧ (f1 x y = true → EvD K te e2 (h x y)))) : EvN K (tLc2 wi g tt wi1 g1 tt1 te vs vs1) en (lcD2 f ys f1 h xs) := fun A0 Hs A H σ I Q k =>
  hw A0 Hs A H σ I _ fun J H1 gr W Dl hD => by
    have hv : ∀ v ∈ vs, v < en.length := fun v hx => of_decide_eq_true (List.all_eq_true.mp hvb v hx)
    have hv1 : ∀ v ∈ vs1, v < en.length := fun v hx => of_decide_eq_true (List.all_eq_true.mp hvb1 v hx)
    have I1 := I.grow gr
    have hA : A Dl = false := I1.live.out hD
    have hD0 : H Dl = none := by
      cases e : H Dl with
      | none => rfl
      | some o => rw [gr.same Dl o e] at hD; cases hD
    have lenT : ∀ j, (lcD2 f ys f1 h (xs.take j)).length ≤ (lcD2 f ys f1 h xs).length := fun j => by
      have : lcD2 f ys f1 h xs = lcD2 f ys f1 h (xs.take j) ++ lcD2 f ys f1 h (xs.drop j) := by
        unfold lcD2
        rw [← List.flatMap_append, List.take_append_drop]
      rw [this, List.length_append]; omega
    refine ⟨fun j m H' => m = xs.length - j ∧ j ≤ xs.length ∧ Heldl K A Dl H1 H' (lcD2 f ys f1 h (xs.take j)), ⟨xs.length, by simp, Nat.zero_le _, Heldl.start hA hD⟩, ?_⟩
    rintro j m H' ⟨rfl, hj, p⟩
    have IJ := p.env I1 hA
    by_cases hlt : j < xs.length
    · refine .inr ⟨W.goes _ H' j IJ.live p.sm (by rw [List.length_map]; exact hlt), fun H2 => Heldl K A Dl H1 H2 (lcD2 f ys f1 h (xs.take (j + 1))), fun H2 p2 => ⟨xs.length - (j + 1), by omega, rfl, hlt, p2⟩, fun x H2 y => ?_⟩
      have hx : xs[j]? = some xs[j] := by simp [hlt]
      obtain ⟨g2, dx⟩ := W.yields _ H' j (enc xs[j]) x H2 IJ.live p.sm (by rw [List.getElem?_map, hx]; rfl) y
      obtain ⟨e1, hg, hle, ht, hb⟩ := hs j _ hx
      have store : ∀ Q : L2.St → Hp → Prop, (∀ σ3 H3, Grow (adda A Dl) H2 H3 → EnvOk K (adda A0 Dl) (reb (adda A0 Dl) (adda A Dl) H' H') (adda A Dl) H3 σ3 e1 → Q σ3 H3) → g x (wipe σ vs) H2 fun σ2 H3 => wipe σ2 vs = wipe σ vs ∧ Q σ2 H3 := fun Q hQ => by
        have := ho x (wipe σ vs) H2 _ (hg _ _ _ H2 _ x (wipe_ok (IJ.grow g2) vs hv) dx Q hQ)
        rw [wipe_idem] at this
        exact this
      refine store _ fun σ3 H3 g3 I3 => ?_
      refine ht _ _ _ H3 σ3 I3 _ fun H4 g4 => ?_
      have I4 := I3.grow g4
      have p4 := ((p.grow g2).grow g3).grow g4
      cases hf : f xs[j] with
      | false =>
        show Heldl K A Dl H1 H4 (lcD2 f ys f1 h (xs.take (j + 1)))
        rw [lcD2_step hx, hf, if_neg (by decide), List.append_nil]
        exact p4
      | true =>
        obtain ⟨hw1, hb1⟩ := hb hf
        rw [if_pos rfl]
        refine hw1 _ _ _ H4 σ3 I4 _ fun J1 H5 g5 W1 => ?_
        have I5 := I4.grow g5
        have p5 := p4.grow g5
        let Ai := adda A Dl
        let pre : List D := lcD2 f ys f1 h (xs.take j)
        let part : Nat → List D := fun n => lcD (f1 xs[j]) (h xs[j]) ((ys xs[j]).take n)
        have lenP : ∀ n, (pre ++ part n).length < 16000000 := fun n => by
          have h1 := lenT (j + 1)
          rw [lcD2_step hx, hf, if_pos rfl, List.length_append] at h1
          have h2 : (part n).length ≤ (lcD (f1 xs[j]) (h xs[j]) (ys xs[j])).length := by
            have : lcD (f1 xs[j]) (h xs[j]) (ys xs[j]) = part n ++ lcD (f1 xs[j]) (h xs[j]) ((ys xs[j]).drop n) := by
              show _ = lcD _ _ _ ++ _
              unfold lcD
              rw [← List.map_append, ← List.filter_append, List.take_append_drop]
            rw [this, List.length_append]; omega
          rw [List.length_append]
          show (lcD2 f ys f1 h (xs.take j)).length + _ < _
          omega
        refine ⟨fun n k H' => k = (ys xs[j]).length - n ∧ n ≤ (ys xs[j]).length ∧ Heldl K A Dl H1 H' (pre ++ part n) ∧ Same (hide Ai H5) (hide Ai H') ∧ (∀ p, A p = true → H' p = H5 p), ⟨(ys xs[j]).length, by simp, Nat.zero_le _, ?_, Same.refl _, fun _ _ => rfl⟩, ?_⟩
        · have e0 : pre ++ part 0 = pre := by
            show pre ++ lcD _ _ _ = pre
            rw [List.take_zero]
            unfold lcD
            simp
          rw [e0]
          exact p5
        rintro n k H6 ⟨rfl, hn, p6, s6, q6⟩
        have hD6 : H6 Dl ≠ none := by
          obtain ⟨_, _, ws, ew, _⟩ := p6
          rw [ew]; exact fun z => by cases z
        have I6 := I5.move (A' := Ai) (Dl := Dl) (.inr adda_self) adda_idem.symm s6 (fun p hp hne => q6 p (by rw [adda_ne hne] at hp; exact hp)) hD6
        by_cases hl2 : n < (ys xs[j]).length
        · refine .inr ⟨W1.goes Ai H6 n I6.live s6 (by rw [List.length_map]; exact hl2), fun H7 => Heldl K A Dl H1 H7 (pre ++ part (n + 1)) ∧ Same (hide Ai H5) (hide Ai H7) ∧ (∀ p, A p = true → H7 p = H5 p), fun H7 p7 => ⟨(ys xs[j]).length - (n + 1), by omega, rfl, hl2, p7⟩, fun z H7 yz => ?_⟩
          have hy : (ys xs[j])[n]? = some (ys xs[j])[n] := by simp [hl2]
          obtain ⟨g7, dz⟩ := W1.yields Ai H6 n (enc1 (ys xs[j])[n]) z H7 I6.live s6 (by rw [List.getElem?_map, hy]; rfl) yz
          obtain ⟨e2, hg1, ht1, he1⟩ := hb1 n _ hy
          have store1 : ∀ Q : L2.St → Hp → Prop, (∀ σ8 H8, Grow Ai H7 H8 → EnvOk K (adda (adda A0 Dl) Dl) (reb (adda (adda A0 Dl) Dl) Ai H6 H6) Ai H8 σ8 e2 → Q σ8 H8) → g1 z (wipe σ3 vs1) H7 fun σ8 H8 => wipe σ8 vs1 = wipe σ3 vs1 ∧ Q σ8 H8 := fun Q hQ => by
            have := ho1 z (wipe σ3 vs1) H7 _ (hg1 _ _ Ai H7 _ z (wipe_ok (I6.grow g7) vs1 (by rw [hle]; exact hv1)) dz Q hQ)
            rw [wipe_idem] at this
            exact this
          refine store1 _ fun σ8 H8 g8 I8 => ?_
          refine ht1 _ _ _ H8 σ8 I8 _ fun H9 g9 => ?_
          have I9 := I8.grow g9
          have gg := (g7.trans g8).trans g9
          have p9 := p6.grow gg
          have step : pre ++ part (n + 1) = if f1 xs[j] (ys xs[j])[n] = true then (pre ++ part n) ++ [h xs[j] (ys xs[j])[n]] else pre ++ part n := by
            show pre ++ lcD _ _ _ = _
            cases hf1 : f1 xs[j] (ys xs[j])[n] with
            | true => rw [lcD_yes hy hf1, if_pos rfl, List.append_assoc]
            | false => rw [lcD_no hy hf1, if_neg (by decide)]
          cases hf1 : f1 xs[j] (ys xs[j])[n] with
          | false =>
            show Heldl K A Dl H1 H9 (pre ++ part (n + 1)) ∧ _
            rw [step, hf1, if_neg (by decide)]
            exact ⟨p9, s6.trans gg.ex, fun p hp => (gg.eq p (adda_of hp)).trans (q6 p hp)⟩
          | true =>
            rw [if_pos rfl]
            refine he1 hf1 _ _ _ H9 σ8 I9 _ fun u H10 g10 du => ?_
            have g11 := gg.trans g10
            obtain ⟨acc, ea, la, ph, sh⟩ := (p6.grow g11).push hA du (lenP n)
            refine ⟨acc, ea, la, ?_, (s6.trans g11.ex).trans sh, fun p hp => ?_⟩
            · rw [step, hf1, if_pos rfl]; exact ph
            · rw [upd_ne (fun z => by rw [z, hA] at hp; cases hp)]
              exact (g11.eq p (adda_of hp)).trans (q6 p hp)
        · have en' : n = (ys xs[j]).length := by omega
          subst en'
          refine .inl ⟨by have q := W1.stops Ai H6 I6.live s6; rw [List.length_map] at q; exact q, ?_⟩
          show Heldl K A Dl H1 H6 (lcD2 f ys f1 h (xs.take (j + 1)))
          rw [lcD2_step hx, hf, if_pos rfl]
          have : part (ys xs[j]).length = lcD (f1 xs[j]) (h xs[j]) (ys xs[j]) := by
            show lcD _ _ _ = _
            rw [List.take_length]
          rw [← this]
          exact p6
    · have ej : j = xs.length := by omega
      subst ej
      obtain ⟨s, q, ws, e, dw⟩ := id p
      rw [List.take_length] at dw
      refine .inl ⟨by have q := W.stops _ H' IJ.live s; rw [List.length_map] at q; exact q, k Dl H' ws hD0 (gr.trans ⟨fun a o ea => ?_, q⟩) e dw⟩
      obtain ⟨h1, h2⟩ := hide_some (s a o ea)
      rw [hide_out (adda_false h1).1]; exact h2
end
end HF

set_option Elab.async false
set_option linter.all false
set_option maxRecDepth 100000
set_option maxHeartbeats 2000000
namespace HF
open PySem L2 PySem.Spec PyProof.Rows
/-! ### slots that are forgotten -/
def Weak : En → En → Prop
  | [], [] => True
  | a :: e, b :: f => (b = none ∨ b = a) ∧ Weak e f
  | _, _ => False
theorem Weak.len : ∀ {e f : En}, Weak e f → e.length = f.length
  | [], [], _ => rfl
  | _ :: e, _ :: f, h => congrArg (· + 1) (Weak.len (e := e) (f := f) h.2)
theorem Weak.get : ∀ {e f : En} {i : Nat} {s : Sl}, Weak e f → f[i]? = some (some s) → e[i]? = some (some s)
  | [], [], _, _, _, h => by simp at h
  | a :: e, b :: f, 0, s, h, q => by
    have q : b = some s := by simpa using q
    rcases h.1 with h1 | h1
    · rw [h1] at q; cases q
    · rw [← h1, q]; rfl
  | a :: e, b :: f, i + 1, s, h, q => by
    have := Weak.get (i := i) (s := s) h.2 (by simpa using q)
    simpa using this
theorem Weak.trans : ∀ {e f g : En}, Weak e f → Weak f g → Weak e g
  | [], [], [], _, _ => trivial
  | a :: e, b :: f, c :: g, h, k => ⟨by
      rcases k.1 with k1 | k1
      · exact .inl k1
      · rw [k1]; exact h.1, Weak.trans h.2 k.2⟩
  | [], [], _ :: _, _, k => k.elim
  | [], _ :: _, _, h, _ => h.elim
  | _ :: _, [], _, h, _ => h.elim
  | _ :: _, _ :: _, [], _, k => k.elim
theorem Weak.refl : ∀ e : En, Weak e e
  | [] => trivial
  | _ :: e => ⟨.inr rfl, Weak.refl e⟩
section
variable {K : Fg} {A0 A : Addr → Bool} {Hs H : Hp} {σ : L2.St} {en en' : En} {ts tz : TS} {E : DE} {g : TG}
theorem EnvOk.weak (I : EnvOk K A0 Hs A H σ en) (w : Weak en en') : EnvOk K A0 Hs A H σ en' :=
  ⟨I.base, I.keep, I.sub, I.live, I.len.trans w.len, fun i s e => I.slot i s (w.get e), fun i j s t p n e f => I.uniq i j s t p n (w.get e) (w.get f)⟩
/-- forget, then go on -/
theorem s_forget (w : Weak en en') (h : SD K ts E en') : SD K ts E en := fun A0 Hs A H σ I F f => h A0 Hs A H σ (I.weak w) F f
theorem s_forW {α : Type} {wi : TI} {as : List α} (enc : α → D) (P : Nat → En) (hw : EvI K wi en (as.map enc)) (h0 : Weak en (P 0))
    (hs : ∀ (j : Nat) (a : α), as[j]? = some a → ∃ e', GD K g (enc a) (P j) e' ∧ SD K ts { E with nx := fun e => Weak e (P (j + 1)), ct := fun e => Weak e (P (j + 1)), bk := E.nx } e') (hd : E.nx (P as.length)) (hn : ∀ e e', Weak e e' → E.nx e' → E.nx e) : SD K (tFor wi g ts) E en :=
  s_forA enc hw (fun j e => Weak e (P j)) h0 (fun j a e ha p => by
    obtain ⟨e', hg, hb⟩ := hs j a ha
    exact ⟨e', fun A0 Hs A H σ x I hd Q k => hg A0 Hs A H σ x (I.weak p) hd Q k, hb⟩) fun e p => hn e _ p hd
theorem q_forW {α : Type} {wi : TI} {as : List α} (enc : α → D) (P : Nat → En) (hw : EvI K wi en (as.map enc)) (h0 : Weak en (P 0))
    (hs : ∀ (j : Nat) (a : α), as[j]? = some a → ∃ e', GD K g (enc a) (P j) e' ∧ SD K ts { E with nx := fun e => Weak e (P (j + 1)), ct := fun e => Weak e (P (j + 1)), bk := fun e => SD K tz E e } e') (hd : SD K tz E (P as.length)) : SD K (tSeq (tFor wi g ts) tz) E en :=
  s_seq (s_forW (E := { E with nx := fun e => SD K tz E e }) enc P hw h0 hs hd fun e e' w q => s_forget w q)
theorem q_whileW {tt : TT} (W : Nat → En) (b : Nat → Bool) (m0 : Nat) (h0 : Weak en (W m0))
    (hs : ∀ m, EvT K tt (W m) (b m) ∧ (b m = true → SD K ts { E with nx := fun e => ∃ m', m' < m ∧ Weak e (W m'), ct := fun e => ∃ m', m' < m ∧ Weak e (W m'), bk := fun e => SD K tz E e } (W m)) ∧ (b m = false → SD K tz E (W m))) : SD K (tSeq (tWhile tt ts) tz) E en :=
  q_while (fun m e => Weak e (W m)) m0 h0 fun m e w => by
    obtain ⟨h1, h2, h3⟩ := hs m
    exact ⟨b m, fun A0 Hs A H σ I Q k => h1 A0 Hs A H σ (I.weak w) Q k, fun hb => ⟨fun e => ∃ m', m' < m ∧ Weak e (W m'), fun e' q => q, s_forget w (h2 hb)⟩, fun hb => s_forget w (h3 hb)⟩
end
/-! items of several lists -/
theorem enumD_map {α : Type} (as : List α) (enc : α → D) : enumD (as.map enc) = as.zipIdx.map fun p => .tuple [.int (p.2 : Int), enc p.1] := by
  unfold enumD pairsD
  apply List.ext_getElem?
  intro i
  rw [List.getElem?_zipWith, List.getElem?_map, List.getElem?_map, List.getElem?_zipIdx]
  by_cases h : i < as.length
  · rw [List.getElem?_eq_getElem h, rngD_at (by rw [List.length_map]; exact h)]
    simp
  · rw [show as[i]? = none from List.getElem?_eq_none (by omega)]
    cases (rngD 0 (as.map enc).length)[i]? <;> rfl
theorem pairsD_map {α β : Type} (as : List α) (bs : List β) (e1 : α → D) (e2 : β → D) : pairsD (as.map e1) (bs.map e2) = (as.zip bs).map fun p => .tuple [e1 p.1, e2 p.2] := by
  unfold pairsD
  rw [List.zipWith_map, List.zip, List.map_zipWith]
theorem cut_take {xs : List D} {n : Nat} : cutD xs none (some (n : Int)) = xs.take n := by
  unfold cutD
  rw [HT.sIx_nat]
  show (xs.drop 0).take (min n xs.length - 0) = _
  rw [List.drop_zero, Nat.sub_zero]
  by_cases h : n ≤ xs.length
  · rw [Nat.min_eq_left h]
  · rw [Nat.min_eq_right (by omega), List.take_length, List.take_of_length_le (by omega)]
theorem cut_drop {xs : List D} {n : Nat} : cutD xs (some (n : Int)) none = xs.drop n := by
  unfold cutD
  rw [HT.sIx_nat]
  show (xs.drop (min n xs.length)).take (xs.length - min n xs.length) = _
  by_cases h : n ≤ xs.length
  · rw [Nat.min_eq_left h, List.take_of_length_le (by rw [List.length_drop]; omega)]
  · rw [Nat.min_eq_right (by omega), List.drop_length, List.drop_of_length_le (by omega)]
    simp
theorem cut_mid {xs : List D} {m n : Nat} : cutD xs (some (m : Int)) (some (n : Int)) = (xs.drop m).take (n - m) := by
  unfold cutD
  rw [HT.sIx_nat, HT.sIx_nat]
  apply List.ext_getElem?
  intro i
  rw [List.getElem?_take, List.getElem?_take, List.getElem?_drop, List.getElem?_drop]
  by_cases h : m ≤ xs.length
  · rw [Nat.min_eq_left h]
    by_cases h2 : i < n - m
    · rw [if_pos h2]
      by_cases h3 : m + i < xs.length
      · rw [if_pos (by omega)]
      · rw [if_neg (by omega), List.getElem?_eq_none (by omega)]
    · rw [if_neg h2, if_neg (by omega)]
  · have e1 : xs[m + i]? = none := List.getElem?_eq_none (by omega)
    have e2 : xs[min m xs.length + i]? = none := List.getElem?_eq_none (by omega)
    rw [e1, e2]
    split <;> split <;> rfl
theorem cutS_take {z : Str} {n : Nat} : (cutS z none (some (n : Int))).cps.toList = z.cps.toList.take n := by
  unfold cutS
  rw [HT.sIx_nat]
  show (z.cps.toList.drop 0).take (min n z.length - 0) = _
  rw [List.drop_zero, Nat.sub_zero]
  have e : z.length = z.cps.toList.length := by simp; rfl
  by_cases h : n ≤ z.length
  · rw [Nat.min_eq_left h]
  · rw [Nat.min_eq_right (by omega), e, List.take_length, List.take_of_length_le (by omega)]
/-- a cut of any list -/
def cutL {α : Type} (xs : List α) (lo hi : Option Int) : List α := (xs.drop (HT.sIx xs.length 0 lo)).take (HT.sIx xs.length xs.length hi - HT.sIx xs.length 0 lo)
theorem cutD_map {α : Type} (xs : List α) (enc : α → D) (lo hi : Option Int) : cutD (xs.map enc) lo hi = (cutL xs lo hi).map enc := by
  unfold cutD cutL
  rw [List.length_map, List.map_take, List.map_drop]
theorem cutL_mem {α : Type} {xs : List α} {lo hi : Option Int} {x : α} (h : x ∈ cutL xs lo hi) : x ∈ xs := List.mem_of_mem_drop (List.mem_of_mem_take h)
theorem cutL_len {α : Type} {xs : List α} {lo hi : Option Int} : (cutL xs lo hi).length ≤ xs.length := by
  unfold cutL
  rw [List.length_take, List.length_drop]; omega
/-! ### data that can be compared -/
def Sh (n : Nat) (d : D) : Prop := d.canLay0 = true ∧ d.depth ≤ n
theorem Sh.mono {m n : Nat} {d : D} (h : Sh m d) (hn : m ≤ n) : Sh n d := ⟨h.1, Nat.le_trans h.2 hn⟩
theorem Sh.ok {n : Nat} {d : D} (h : Sh n d) (hn : n ≤ 64 := by decide) : SeqAt.shaped d = true := by
  unfold SeqAt.shaped
  rw [h.1, decide_eq_true (Nat.le_trans h.2 hn)]; rfl
theorem sh_non {n : Nat} : Sh n .none := ⟨by simp only [PyData.canLay0], by simp only [PyData.depth]; omega⟩
theorem sh_bool {n : Nat} {b : Bool} : Sh n (.bool b) := ⟨by simp only [PyData.canLay0], by simp only [PyData.depth]; omega⟩
theorem sh_int {n : Nat} {i : Int} : Sh n (.int i) := ⟨by simp only [PyData.canLay0], by simp only [PyData.depth]; omega⟩
theorem sh_str {n : Nat} {s : Str} (h : PyData.strOk s = true) : Sh n (.str s) := ⟨by simp only [PyData.canLay0, h], by simp only [PyData.depth]; omega⟩
theorem shAll {n : Nat} : ∀ {xs : List D}, (∀ x ∈ xs, Sh n x) → PyData.canLayAll0 xs = true ∧ PyData.depthAll xs ≤ n
  | [], _ => ⟨by simp only [PyData.canLayAll0], by simp only [PyData.depthAll]; omega⟩
  | x :: xs, h => by
    obtain ⟨h1, h2⟩ := h x List.mem_cons_self
    obtain ⟨h3, h4⟩ := shAll (xs := xs) fun y hy => h y (List.mem_cons_of_mem _ hy)
    exact ⟨by simp only [PyData.canLayAll0, h1, h3, Bool.and_self], by simp only [PyData.depthAll]; omega⟩
theorem sh_list {n : Nat} {xs : List D} (h : ∀ x ∈ xs, Sh n x) : Sh (n + 1) (.list xs) := by
  obtain ⟨h1, h2⟩ := shAll h
  exact ⟨by simp only [PyData.canLay0, h1], by simp only [PyData.depth]; omega⟩
theorem sh_tup {n : Nat} {xs : List D} (h : ∀ x ∈ xs, Sh n x) : Sh (n + 1) (.tuple xs) := by
  obtain ⟨h1, h2⟩ := shAll h
  exact ⟨by simp only [PyData.canLay0, h1], by simp only [PyData.depth]; omega⟩
theorem sh_map {α : Type} {n : Nat} {as : List α} {enc : α → D} (h : ∀ a ∈ as, Sh n (enc a)) : ∀ x ∈ as.map enc, Sh n x := fun x hx => by
  obtain ⟨a, ha, rfl⟩ := List.mem_map.mp hx
  exact h a ha
theorem sh_ints {n : Nat} {as : List Int} : ∀ x ∈ as.map PyData.int, Sh n x := sh_map fun _ _ => sh_int
/-! equality -/
theorem eqv_int {a b : Int} : PyData.eqv (.int a) (.int b) = decide (a = b) := by rw [PyData.eqv, Bool.beq_eq_decide_eq]
theorem eqv_str {a b : Str} : PyData.eqv (.str a) (.str b) = decide (a = b) := by rw [PyData.eqv, Bool.beq_eq_decide_eq]
theorem eqv_bool {a b : Bool} : PyData.eqv (.bool a) (.bool b) = decide (a = b) := by rw [PyData.eqv, Bool.beq_eq_decide_eq]
theorem eqv_list {xs ys : List D} : PyData.eqv (.list xs) (.list ys) = PyData.eqvAll xs ys := by rw [PyData.eqv]
theorem eqv_tup {xs ys : List D} : PyData.eqv (.tuple xs) (.tuple ys) = PyData.eqvAll xs ys := by rw [PyData.eqv]
theorem eqv_all {α : Type} [DecidableEq α] {enc : α → D} (h : ∀ a b, PyData.eqv (enc a) (enc b) = decide (a = b)) : ∀ as bs : List α, PyData.eqvAll (as.map enc) (bs.map enc) = decide (as = bs)
  | [], [] => by simp [PyData.eqvAll]
  | [], b :: bs => by simp [PyData.eqvAll]
  | a :: as, [] => by simp [PyData.eqvAll]
  | a :: as, b :: bs => by
    rw [List.map_cons, List.map_cons, PyData.eqvAll, h, eqv_all h as bs]
    by_cases h1 : a = b <;> by_cases h2 : as = bs <;> simp [h1, h2]
theorem eqv_tints {as bs : List Int} : PyData.eqv (.tuple (as.map .int)) (.tuple (bs.map .int)) = decide (as = bs) := by rw [eqv_tup, eqv_all fun _ _ => eqv_int]
theorem eqv_lints {as bs : List Int} : PyData.eqv (.list (as.map .int)) (.list (bs.map .int)) = decide (as = bs) := by rw [eqv_list, eqv_all fun _ _ => eqv_int]
/-- two that are the same data are equal -/
theorem eqv_same {d : D} (h : SeqAt.shaped d = true) : PyData.eqv d d = true := SeqAt.eqv_refl d (SeqAt.canLay_of_shaped h)
theorem et_eq_same {K : Fg} {en : En} {ta tb : TE} {d : D} (ha : EvD K ta en d) (hb : EvD K tb en d) (h : SeqAt.shaped d = true) : EvT K (tTest (tOp (rEqD K) ta tb)) en true :=
  EvT.eq (et_test (ev_op ha hb (rd_eq h h))) (eqv_same h)
theorem et_ne_same {K : Fg} {en : En} {ta tb : TE} {d : D} (ha : EvD K ta en d) (hb : EvD K tb en d) (h : SeqAt.shaped d = true) : EvT K (tTest (tOp (rNeD K) ta tb)) en false :=
  EvT.eq (et_test (ev_op ha hb (rd_ne h h))) (by rw [eqv_same h]; rfl)
theorem sh_pair {n : Nat} {a b : D} (ha : Sh n a) (hb : Sh n b) : Sh (n + 1) (.tuple [a, b]) := sh_tup fun x hx => by
  rcases List.mem_cons.mp hx with rfl | hx
  · exact ha
  · rw [List.mem_singleton.mp hx]; exact hb
theorem sh_tints {a : List Int} : Sh 1 (.tuple (a.map .int)) := sh_tup sh_ints
/-! places -/
theorem at_nat {α : Type} {xs : List α} {n : Nat} {i : Int} (e : i = (n : Int)) {x : α} (h : xs[n]? = some x) : atI xs i = some x := by
  have hn := (List.getElem?_eq_some_iff.mp h).1
  unfold atI ixN
  rw [if_pos (by omega), if_pos (by omega), e, Int.toNat_natCast]
  exact h
theorem at_map {α : Type} {xs : List α} {enc : α → D} {i : Int} {dflt : α} (h0 : 0 ≤ i) (h1 : i < xs.length) : atI (xs.map enc) i = some (enc (xs.getD i.toNat dflt)) := by
  refine at_nat (n := i.toNat) (by omega) ?_
  rw [List.getElem?_map, List.getD_eq_getElem?_getD]
  have : xs[i.toNat]? = some (xs[i.toNat]'(by omega)) := List.getElem?_eq_getElem (by omega)
  rw [this]; rfl
/-! the order of tuples of ints -/
theorem lex_app_nil : ∀ (a b : List Int), HT.lexLt (a ++ b) a = false
  | [], [] => rfl
  | [], _ :: _ => rfl
  | x :: a, b => by
    show (if x = x then HT.lexLt (a ++ b) a else _) = _
    rw [if_pos rfl]; exact lex_app_nil a b
theorem lex_app : ∀ (a b c : List Int), HT.lexLt (a ++ b) (a ++ c) = HT.lexLt b c
  | [], _, _ => rfl
  | x :: a, b, c => by
    show (if x = x then HT.lexLt (a ++ b) (a ++ c) else _) = _
    rw [if_pos rfl]; exact lex_app a b c
/-- between a and a with c behind it: a, and something that begins below c -/
theorem lex_mid : ∀ (a x : List Int) (c : Int), (HT.lexLt x a = false ∧ HT.lexLt x (a ++ [c]) = true) ↔ ∃ y, x = a ++ y ∧ ∀ z ∈ y.head?, z < c
  | [], [], c => by simp [HT.lexLt]
  | [], z :: x, c => by
    constructor
    · rintro ⟨_, h⟩
      refine ⟨z :: x, rfl, fun w hw => ?_⟩
      have hw : w = z := by simpa using hw.symm
      subst hw
      have h : (if w = c then HT.lexLt x [] else decide (w < c)) = true := h
      split at h
      · cases x <;> cases h
      · exact of_decide_eq_true h
    · rintro ⟨y, rfl, h⟩
      have h := h z (by simp)
      refine ⟨rfl, ?_⟩
      show (if z = c then _ else decide (z < c)) = true
      rw [if_neg (by omega), decide_eq_true h]
  | w :: a, [], c => by
    constructor
    · rintro ⟨h, _⟩
      cases h
    · rintro ⟨y, h, _⟩
      cases h
  | w :: a, z :: x, c => by
    have ih := lex_mid a x c
    constructor
    · rintro ⟨h1, h2⟩
      have h1 : (if z = w then HT.lexLt x a else decide (z < w)) = false := h1
      have h2 : (if z = w then HT.lexLt x (a ++ [c]) else decide (z < w)) = true := h2
      by_cases e : z = w
      · rw [if_pos e] at h1 h2
        obtain ⟨y, hy, hh⟩ := ih.mp ⟨h1, h2⟩
        exact ⟨y, by rw [hy, e]; rfl, hh⟩
      · rw [if_neg e] at h1 h2
        rw [h1] at h2; cases h2
    · rintro ⟨y, hy, hh⟩
      have hy : z :: x = w :: (a ++ y) := hy
      injection hy with hy1 hy2
      subst hy1
      subst hy2
      obtain ⟨h1, h2⟩ := ih.mpr ⟨y, rfl, hh⟩
      refine ⟨?_, ?_⟩
      · show (if z = z then HT.lexLt (a ++ y) a else _) = _
        rw [if_pos rfl]; exact h1
      · show (if z = z then HT.lexLt (a ++ y) (a ++ [c]) else _) = _
        rw [if_pos rfl]; exact h2
/-- ≤ is: the other one isn't less -/
theorem leB_eq : ∀ (a b : List Int), leB a b = !HT.lexLt b a := by
  have shift : ∀ (k i : Nat) (x y : Int) (a b : List Int) (z : Bool), Ob.lexAt (fun j => decide ((x :: a).getD j 0 = (y :: b).getD j 0)) (fun j => decide ((x :: a).getD j 0 ≤ (y :: b).getD j 0)) z (i + 1) k =
      Ob.lexAt (fun j => decide (a.getD j 0 = b.getD j 0)) (fun j => decide (a.getD j 0 ≤ b.getD j 0)) z i k := by
    intro k
    induction k with
    | zero => intros; rfl
    | succ k ih =>
      intro i x y a b z
      rw [Ob.lexAt_succ, Ob.lexAt_succ, ih]
      rfl
  intro a
  induction a with
  | nil =>
    intro b
    cases b with
    | nil => rfl
    | cons y b => rfl
  | cons x a ih =>
    intro b
    cases b with
    | nil => rfl
    | cons y b =>
      unfold leB
      have e : min (x :: a).length (y :: b).length = min a.length b.length + 1 := by simp
      rw [e, Ob.lexAt_succ, shift]
      have e2 : decide ((x :: a).length ≤ (y :: b).length) = decide (a.length ≤ b.length) := by simp
      rw [e2]
      show (if decide (x = y) = true then leB a b else decide (x ≤ y)) = !(if y = x then HT.lexLt b a else decide (y < x))
      by_cases h : x = y
      · rw [if_pos (decide_eq_true h), if_pos h.symm, ih]
      · rw [if_neg (by rw [decide_eq_false h]; decide), if_neg (fun q => h q.symm)]
        by_cases h2 : y < x
        · rw [decide_eq_true h2, decide_eq_false (by omega)]; rfl
        · rw [decide_eq_false h2, decide_eq_true (by omega)]; rfl
end HF

set_option Elab.async false
set_option linter.all false
set_option maxRecDepth 100000
set_option maxHeartbeats 2000000
/-! HF6: enumerate(zip(a, b)) of two tuples. -/
namespace HF
open PySem L2 PySem.Spec PyProof.Rows RZ
abbrev ZipF (h : Heap) (z TI TO : Addr) (f0 : Value) (f1 : Bool) : Prop :=
  h.get? z = some { cls := .type "zip", dict := none, data := .fields #[f0, .bool f1, .bool false, .ref TI, .ref TO], slots := #[] }
/-- a zip, with or without a tuple out -/
def ZipAny (h : Heap) (z TI TO : Addr) : Prop := ∃ f0 f1, ZipF h z TI TO f0 f1 ∧ (f0 = .none ∨ ∃ T : Addr, f0 = rawInt T)
theorem ZipAny.lt {h : Heap} {z TI TO : Addr} (Z : ZipAny h z TI TO) : z < h.objs.size := by
  obtain ⟨_, _, q, _⟩ := Z
  exact Heap.lt_size q
theorem ZipAny.ty {s : Shared} {z TI TO : Addr} (Z : ZipAny s.heap z TI TO) : s.TypeIs (.ref z) "zip" := by
  obtain ⟨_, _, q, _⟩ := Z
  exact ⟨_, q, rfl⟩
section
variable {P : Program} {w : World} {A : Around} {E : Value → Shared → Prop} {s : Shared}
theorem alive_any {a : Addr} {Q : Option Obj → Shared → Prop} (h : Q (s.heap.get? a) s) : wpAny (model P w) A (loadIfAlive a) Q E s := fun _ _ _ => h
theorem zip_free {z TI TO : Addr} {Q : Bool → Shared → Prop} (Z : ZipAny s.heap z TI TO) (h0 : Q true s) (h1 : ∀ h', ZipAny h' z TI TO → Heap.SameBut z s.heap h' → Q false { s with heap := h' }) :
    wpAny (model P w) A (Builtin.SmallTypes.ownedTupleIsFree (.ref z)) Q E s := by
  obtain ⟨f0, f1, hq, hf⟩ := Z
  unfold Builtin.SmallTypes.ownedTupleIsFree
  rcases hf with rfl | ⟨T, rfl⟩
  · exact wpAny_bind (wpAny_field hq rfl (x := .none) rfl (wpAny_pure h0))
  · refine wpAny_bind (wpAny_field hq rfl (x := rawInt T) rfl ?_)
    show wpAny _ _ (loadIfAlive ((T : Int).toNat) >>= _) _ _ _
    rw [Int.toNat_natCast]
    refine wpAny_bind (alive_any ?_)
    cases s.heap.get? T with
    | none =>
      simp only [Option.isNone_none, if_true]
      exact wpAny_pure h0
    | some o =>
      simp only [Option.isNone_some, Bool.false_eq_true, if_false]
      refine wpAny_bind (wpAny_field hq rfl (x := .bool f1) rfl ?_)
      cases f1 with
      | true =>
        rw [if_neg (by decide)]
        exact wpAny_pure (h1 s.heap ⟨_, _, hq, .inr ⟨T, rfl⟩⟩ (Heap.SameBut.refl _ _))
      | false =>
        rw [if_pos (by decide)]
        exact wpAny_bind (wpAny_setField_rec hq (by simp) fun g1 q1 b1 => wpAny_pure (h1 g1 ⟨_, true, q1, .inr ⟨T, rfl⟩⟩ b1))
/-- the next pair of a zip of tuples -/
theorem zipAny_item {z TI TO i1 i2 l1 l2 : Addr} {k1 k2 : Nat} {xs ys : Array Value} {x y a b : Value} {Q : Value → Shared → Prop} (D : ZipApart z TI TO i1 i2 l1 l2) (Z : ZipAny s.heap z TI TO)
    (pI : IsPair s.heap TI (.ref i1) (.ref i2)) (pO : IsPair s.heap TO a b) (w1 : s.heap.IsTupleIter i1 l1 k1) (w2 : s.heap.IsTupleIter i2 l2 k2) (t1 : s.heap.IsTuple l1 xs) (t2 : s.heap.IsTuple l2 ys) (hx : xs[k1]? = some x) (hy : ys[k2]? = some y)
    (hQ : ∀ h', ZipAny h' z TI TO → (∃ a b, IsPair h' TO a b) → h'.IsTupleIter i1 l1 (k1 + 1) → h'.IsTupleIter i2 l2 (k2 + 1) → IsPair h' s.heap.objs.size x y → h'.objs.size = s.heap.objs.size + 1 →
      (∀ c o, c ≠ z → c ≠ TO → c ≠ i1 → c ≠ i2 → s.heap.get? c = some o → h'.get? c = some o) → Q (.ref s.heap.objs.size) { s with heap := h' }) :
    wpAny (model P w) A (Builtin.«zip.__next__» ⟨[.ref z], []⟩) (fun fin s' => ∃ v, fin = .done (.ret v) ∧ Q v s') E s := by
  obtain ⟨f0, f1, hq, hf⟩ := _root_.id Z
  show wpAny _ _ (field (.ref z) 2 >>= _) _ _ _
  refine wpAny_bind (wpAny_field hq rfl (x := .bool false) rfl ?_)
  show wpAny _ _ (field (.ref z) 3 >>= _) _ _ _
  refine wpAny_bind (wpAny_field hq rfl (x := .ref TI) rfl ?_)
  refine wpAny_bind (wpAny_seqItems pI rfl ?_)
  show wpAny _ _ (Builtin.SmallTypes.ownedTupleIsFree (.ref z) >>= _) _ _ _
  refine wpAny_bind (zip_free Z ?_ fun g1 Z1 b1 => ?_)
  · simp only [if_true]
    refine wpAny_bind (wpAny_rule ?_)
    refine wpAny_bind (wpAny_field hq rfl (x := .ref TO) rfl ?_)
    refine wpAny_bind (wpAny_setField_rec hq (by simp) fun g1 q1 b1 => ?_)
    replace q1 : ZipF g1 z TI TO .ellipsis f1 := q1
    refine wpAny_bind ?_
    simp only [List.zipIdx_cons, List.zipIdx_nil, List.forIn_cons, List.forIn_nil]
    refine wpAny_bind (wpAny_bind (wpAny_onRaise ?_))
    show wpAny _ _ (Builtin.SmallTypes.nextOf (.ref i1) >>= _) _ _ _
    refine wpAny_bind (nextOf_tuple_item (w1.extBut b1.extBut D.i1z) (t1.extBut b1.extBut D.l1z) hx fun g2 v1 b2 => wpAny_pure ?_)
    have pO2 : IsPair g2 TO a b := b2.extBut _ _ D.TOi1 (b1.extBut _ _ D.TOz pO)
    refine wpAny_bind (wpAny_seqItems pO2 rfl ?_)
    refine wpAny_bind (wpAny_updateSeq_pair pO2 fun g3 pO3 b3 => ?_)
    replace pO3 : IsPair g3 TO x b := pO3
    refine wpAny_bind (wpAny_letGo (wpAny_pure ?_))
    refine wpAny_bind (wpAny_bind (wpAny_onRaise ?_))
    show wpAny _ _ (Builtin.SmallTypes.nextOf (.ref i2) >>= _) _ _ _
    refine wpAny_bind (nextOf_tuple_item (((w2.extBut b1.extBut D.i2z).extBut b2.extBut D.i12.symm).extBut b3.extBut D.TOi2.symm)
      (((t2.extBut b1.extBut D.l2z).extBut b2.extBut D.l2i1).extBut b3.extBut D.l2TO) hy fun g4 v2 b4 => wpAny_pure ?_)
    have pO4 : IsPair g4 TO x b := b4.extBut _ _ D.TOi2 pO3
    refine wpAny_bind (wpAny_seqItems pO4 rfl ?_)
    refine wpAny_bind (wpAny_updateSeq_pair pO4 fun g5 pO5 b5 => ?_)
    replace pO5 : IsPair g5 TO x y := pO5
    refine wpAny_bind (wpAny_letGo (wpAny_pure (wpAny_pure ?_)))
    refine wpAny_bind (wpAny_seqItems pO5 rfl ?_)
    refine wpAny_bind (wpAny_newTuple ?_)
    have hsz : g5.objs.size = s.heap.objs.size := by rw [b5.1, b4.1, b3.1, b2.1, b1.1]
    have q5 : ZipF g5 z TI TO .ellipsis f1 := b5.extBut _ _ D.TOz.symm (b4.extBut _ _ D.i2z.symm (b3.extBut _ _ D.TOz.symm (b2.extBut _ _ D.i1z.symm q1)))
    have keep5 : ∀ c o, c ≠ z → c ≠ TO → c ≠ i1 → c ≠ i2 → s.heap.get? c = some o → g5.get? c = some o := fun c o c1 c2 c3 c4 e =>
      b5.extBut _ _ c2 (b4.extBut _ _ c4 (b3.extBut _ _ c2 (b2.extBut _ _ c3 (b1.extBut _ _ c1 e))))
    have v15 : g5.IsTupleIter i1 l1 (k1 + 1) := ((v1.extBut b3.extBut D.TOi1.symm).extBut b4.extBut D.i12).extBut b5.extBut D.TOi1.symm
    have v25 : g5.IsTupleIter i2 l2 (k2 + 1) := v2.extBut b5.extBut D.TOi2.symm
    have zlt : z < g5.objs.size := Heap.lt_size q5
    show wpAny _ _ (Builtin.SmallTypes.ownedTupleHandOut (.ref z) (.ref g5.objs.size) >>= _) _ _ _
    refine wpAny_bind ?_
    unfold Builtin.SmallTypes.ownedTupleHandOut
    have q6 : ZipF (g5.push { cls := .type "tuple", data := .seq #[x, y] }) z TI TO .ellipsis f1 := Heap.get?_push_of_some _ q5
    refine wpAny_bind (wpAny_setField_rec q6 (by simp) fun g7 q7 b7 => ?_)
    replace q7 : ZipF g7 z TI TO (rawInt g5.objs.size) f1 := q7
    refine wpAny_setField_rec q7 (by simp) fun g8 q8 b8 => ?_
    replace q8 : ZipF g8 z TI TO (rawInt g5.objs.size) false := q8
    have up : ∀ c o, c ≠ z → g5.get? c = some o → g8.get? c = some o := fun c o c1 e => b8.extBut _ _ c1 (b7.extBut _ _ c1 (Heap.get?_push_of_some _ e))
    have pT : IsPair g8 g5.objs.size x y := b8.extBut _ _ (Nat.ne_of_gt zlt) (b7.extBut _ _ (Nat.ne_of_gt zlt) (Heap.get?_push_size _ rfl))
    have z8 : g8.objs.size = g5.objs.size + 1 := by rw [b8.1, b7.1, Heap.size_push]
    rw [hsz] at q8 pT z8
    refine wpAny_pure ⟨_, rfl, ?_⟩
    show Q (.ref g5.objs.size) _
    rw [hsz]
    exact hQ g8 ⟨_, _, q8, .inr ⟨_, rfl⟩⟩ ⟨_, _, up _ _ D.TOz pO5⟩ (v15.at fun o e => up _ o D.i1z e) (v25.at fun o e => up _ o D.i2z e) pT z8 fun c o c1 c2 c3 c4 e => up c o c1 (keep5 c o c1 c2 c3 c4 e)
  · simp only [Bool.false_eq_true, if_false]
    refine wpAny_bind ?_
    rw [← Array.forIn_toList]
    simp only [List.forIn_cons, List.forIn_nil]
    refine wpAny_bind (wpAny_bind (wpAny_holding ?_))
    show wpAny _ _ (Builtin.SmallTypes.nextOf (.ref i1) >>= _) _ _ _
    refine wpAny_bind (nextOf_tuple_item (s := { s with heap := g1 }) (w1.extBut b1.extBut D.i1z) (t1.extBut b1.extBut D.l1z) hx fun g2 v1 b2 => wpAny_pure ?_)
    refine wpAny_pure ?_
    refine wpAny_bind (wpAny_bind (wpAny_holding ?_))
    show wpAny _ _ (Builtin.SmallTypes.nextOf (.ref i2) >>= _) _ _ _
    refine wpAny_bind (nextOf_tuple_item (s := { s with heap := g2 }) ((w2.extBut b1.extBut D.i2z).extBut b2.extBut D.i12.symm) ((t2.extBut b1.extBut D.l2z).extBut b2.extBut D.l2i1) hy fun g3 v2 b3 => wpAny_pure ?_)
    refine wpAny_pure (wpAny_pure ?_)
    show wpAny _ _ (newTuple [x, y] >>= _) _ _ _
    refine wpAny_bind (wpAny_newTuple ?_)
    have hsz : g3.objs.size = s.heap.objs.size := by rw [b3.1, b2.1, b1.1]
    have keep3 : ∀ c o, c ≠ z → c ≠ i1 → c ≠ i2 → s.heap.get? c = some o → g3.get? c = some o := fun c o c1 c2 c3 e => b3.extBut _ _ c3 (b2.extBut _ _ c2 (b1.extBut _ _ c1 e))
    have v13 : g3.IsTupleIter i1 l1 (k1 + 1) := v1.extBut b3.extBut D.i12
    have pO3 : IsPair g3 TO a b := b3.extBut _ _ D.TOi2 (b2.extBut _ _ D.TOi1 (b1.extBut _ _ D.TOz pO))
    obtain ⟨e0, e1, q1, r1⟩ := Z1
    have q3 : ZipF g3 z TI TO e0 e1 := b3.extBut _ _ D.i2z.symm (b2.extBut _ _ D.i1z.symm q1)
    refine wpAny_pure ⟨_, rfl, ?_⟩
    show Q (.ref g3.objs.size) _
    have pT : IsPair (g3.push { cls := .type "tuple", data := .seq #[x, y] }) g3.objs.size x y := Heap.get?_push_size _ rfl
    have z4 : (g3.push { cls := .type "tuple", data := .seq #[x, y] }).objs.size = g3.objs.size + 1 := Heap.size_push ..
    rw [hsz] at pT z4 ⊢
    exact hQ _ ⟨_, _, Heap.get?_push_of_some _ q3, r1⟩ ⟨_, _, Heap.get?_push_of_some _ pO3⟩ (v13.at fun o e => Heap.get?_push_of_some _ e) (v2.at fun o e => Heap.get?_push_of_some _ e) pT z4 fun c o c1 c2 c3 c4 e => Heap.get?_push_of_some _ (keep3 c o c1 c3 c4 e)
/-- no pair is left -/
theorem zipAny_end {z TI TO i1 i2 l1 l2 : Addr} {k1 k2 : Nat} {xs ys : Array Value} {a b : Value} {Q : Fin → Shared → Prop} (hh : A.handled = none) (D : ZipApart z TI TO i1 i2 l1 l2) (Z : ZipAny s.heap z TI TO)
    (pI : IsPair s.heap TI (.ref i1) (.ref i2)) (pO : IsPair s.heap TO a b) (w1 : s.heap.IsTupleIter i1 l1 k1) (w2 : s.heap.IsTupleIter i2 l2 k2) (t1 : s.heap.IsTuple l1 xs) (t2 : s.heap.IsTuple l2 ys) (he : xs[k1]? = none ∨ ys[k2]? = none)
    (hE : ∀ h' e, (∀ c o, c ≠ z → c ≠ TO → c ≠ i1 → c ≠ i2 → s.heap.get? c = some o → h'.get? c = some o) → (∃ o, h'.get? e = some o ∧ o.cls = .type "StopIteration") → E (.ref e) { s with heap := h' }) :
    wpAny (model P w) A (Builtin.«zip.__next__» ⟨[.ref z], []⟩) Q E s := by
  obtain ⟨f0, f1, hq, hf⟩ := _root_.id Z
  show wpAny _ _ (field (.ref z) 2 >>= _) _ _ _
  refine wpAny_bind (wpAny_field hq rfl (x := .bool false) rfl ?_)
  show wpAny _ _ (field (.ref z) 3 >>= _) _ _ _
  refine wpAny_bind (wpAny_field hq rfl (x := .ref TI) rfl ?_)
  refine wpAny_bind (wpAny_seqItems pI rfl ?_)
  show wpAny _ _ (Builtin.SmallTypes.ownedTupleIsFree (.ref z) >>= _) _ _ _
  refine wpAny_bind (zip_free Z ?_ fun g1 Z1 b1 => ?_)
  · simp only [if_true]
    refine wpAny_bind (wpAny_rule ?_)
    refine wpAny_bind (wpAny_field hq rfl (x := .ref TO) rfl ?_)
    refine wpAny_bind (wpAny_setField_rec hq (by simp) fun g1 q1 b1 => ?_)
    replace q1 : ZipF g1 z TI TO .ellipsis f1 := q1
    refine wpAny_bind ?_
    simp only [List.zipIdx_cons, List.zipIdx_nil, List.forIn_cons, List.forIn_nil]
    refine wpAny_bind (wpAny_bind (wpAny_onRaise ?_))
    show wpAny _ _ (Builtin.SmallTypes.nextOf (.ref i1) >>= _) _ _ _
    cases hx : xs[k1]? with
    | none =>
      refine wpAny_bind (nextOf_tuple_end hh (w1.extBut b1.extBut D.i1z) (t1.extBut b1.extBut D.l1z) hx fun g2 e b2 st => ?_)
      obtain ⟨oe, se, ce⟩ := st
      have q2 : ZipF g2 z TI TO .ellipsis f1 := b2 _ _ D.i1z.symm q1
      have ez : e ≠ z := fun x => by subst x; rw [q2] at se; cases se; simp at ce
      refine wpAny_setField_rec q2 (by simp) fun g3 _ b3 => hE g3 e (fun c o c1 _ c3 _ x => b3.extBut _ _ c1 (b2 _ _ c3 (b1.extBut _ _ c1 x))) ⟨oe, b3.extBut _ _ ez se, ce⟩
    | some x =>
      have hy : ys[k2]? = none := by
        rcases he with h | h
        · rw [hx] at h; cases h
        · exact h
      refine wpAny_bind (nextOf_tuple_item (w1.extBut b1.extBut D.i1z) (t1.extBut b1.extBut D.l1z) hx fun g2 v1 b2 => wpAny_pure ?_)
      have pO2 : IsPair g2 TO a b := b2.extBut _ _ D.TOi1 (b1.extBut _ _ D.TOz pO)
      refine wpAny_bind (wpAny_seqItems pO2 rfl ?_)
      refine wpAny_bind (wpAny_updateSeq_pair pO2 fun g3 pO3 b3 => ?_)
      refine wpAny_bind (wpAny_letGo (wpAny_pure ?_))
      refine wpAny_bind (wpAny_bind (wpAny_onRaise ?_))
      show wpAny _ _ (Builtin.SmallTypes.nextOf (.ref i2) >>= _) _ _ _
      refine wpAny_bind (nextOf_tuple_end hh (((w2.extBut b1.extBut D.i2z).extBut b2.extBut D.i12.symm).extBut b3.extBut D.TOi2.symm)
        (((t2.extBut b1.extBut D.l2z).extBut b2.extBut D.l2i1).extBut b3.extBut D.l2TO) hy fun g4 e b4 st => ?_)
      obtain ⟨oe, se, ce⟩ := st
      have q4 : ZipF g4 z TI TO .ellipsis f1 := b4 _ _ D.i2z.symm (b3.extBut _ _ D.TOz.symm (b2.extBut _ _ D.i1z.symm q1))
      have ez : e ≠ z := fun x => by subst x; rw [q4] at se; cases se; simp at ce
      refine wpAny_setField_rec q4 (by simp) fun g5 _ b5 => hE g5 e (fun c o c1 c2 c3 c4 x => b5.extBut _ _ c1 (b4 _ _ c4 (b3.extBut _ _ c2 (b2.extBut _ _ c3 (b1.extBut _ _ c1 x))))) ⟨oe, b5.extBut _ _ ez se, ce⟩
  · simp only [Bool.false_eq_true, if_false]
    refine wpAny_bind ?_
    rw [← Array.forIn_toList]
    simp only [List.forIn_cons, List.forIn_nil]
    refine wpAny_bind (wpAny_bind (wpAny_holding ?_))
    show wpAny _ _ (Builtin.SmallTypes.nextOf (.ref i1) >>= _) _ _ _
    cases hx : xs[k1]? with
    | none =>
      exact wpAny_bind (nextOf_tuple_end (s := { s with heap := g1 }) hh (w1.extBut b1.extBut D.i1z) (t1.extBut b1.extBut D.l1z) hx fun g2 e b2 st => hE g2 e (fun c o c1 _ c3 _ x => b2 _ _ c3 (b1.extBut _ _ c1 x)) st)
    | some x =>
      have hy : ys[k2]? = none := by
        rcases he with h | h
        · rw [hx] at h; cases h
        · exact h
      refine wpAny_bind (nextOf_tuple_item (s := { s with heap := g1 }) (w1.extBut b1.extBut D.i1z) (t1.extBut b1.extBut D.l1z) hx fun g2 v1 b2 => wpAny_pure ?_)
      refine wpAny_pure ?_
      refine wpAny_bind (wpAny_bind (wpAny_holding ?_))
      show wpAny _ _ (Builtin.SmallTypes.nextOf (.ref i2) >>= _) _ _ _
      exact wpAny_bind (nextOf_tuple_end (s := { s with heap := g2 }) hh ((w2.extBut b1.extBut D.i2z).extBut b2.extBut D.i12.symm) ((t2.extBut b1.extBut D.l2z).extBut b2.extBut D.l2i1) hy fun g3 e b3 st => hE g3 e (fun c o c1 _ c3 c4 x => b3 _ _ c4 (b2.extBut _ _ c3 (b1.extBut _ _ c1 x))) st)
/-- nextOf of a zip -/
theorem nextOf_zipAny {z TI TO i1 i2 l1 l2 : Addr} {k1 k2 : Nat} {xs ys : Array Value} {x y a b : Value} {Q : Value → Shared → Prop} (D : ZipApart z TI TO i1 i2 l1 l2) (Z : ZipAny s.heap z TI TO)
    (pI : IsPair s.heap TI (.ref i1) (.ref i2)) (pO : IsPair s.heap TO a b) (w1 : s.heap.IsTupleIter i1 l1 k1) (w2 : s.heap.IsTupleIter i2 l2 k2) (t1 : s.heap.IsTuple l1 xs) (t2 : s.heap.IsTuple l2 ys) (hx : xs[k1]? = some x) (hy : ys[k2]? = some y)
    (hQ : ∀ h', ZipAny h' z TI TO → (∃ a b, IsPair h' TO a b) → h'.IsTupleIter i1 l1 (k1 + 1) → h'.IsTupleIter i2 l2 (k2 + 1) → IsPair h' s.heap.objs.size x y → h'.objs.size = s.heap.objs.size + 1 →
      (∀ c o, c ≠ z → c ≠ TO → c ≠ i1 → c ≠ i2 → s.heap.get? c = some o → h'.get? c = some o) → Q (.ref s.heap.objs.size) { s with heap := h' }) :
    wpAny (model P w) A (Builtin.SmallTypes.nextOf (.ref z)) Q E s := by
  unfold Builtin.SmallTypes.nextOf
  exact wpAny_bind (wpAny_callSpecial?_slot (name := Str.ofString "__next__") Z.ty F.slot_zip_next
    (wpAny_call_entry F.slot_zip_next Z.ty F.entry_zip_next (zipAny_item D Z pI pO w1 w2 t1 t2 hx hy fun h' a1 a2 a3 a4 a5 a6 a7 => wpAny_pure (hQ h' a1 a2 a3 a4 a5 a6 a7)) (F.args_zip_next_1 _)))
theorem nextOf_zipAny_end {z TI TO i1 i2 l1 l2 : Addr} {k1 k2 : Nat} {xs ys : Array Value} {a b : Value} {Q : Value → Shared → Prop} (hh : A.handled = none) (D : ZipApart z TI TO i1 i2 l1 l2) (Z : ZipAny s.heap z TI TO)
    (pI : IsPair s.heap TI (.ref i1) (.ref i2)) (pO : IsPair s.heap TO a b) (w1 : s.heap.IsTupleIter i1 l1 k1) (w2 : s.heap.IsTupleIter i2 l2 k2) (t1 : s.heap.IsTuple l1 xs) (t2 : s.heap.IsTuple l2 ys) (he : xs[k1]? = none ∨ ys[k2]? = none)
    (hE : ∀ h' e, (∀ c o, c ≠ z → c ≠ TO → c ≠ i1 → c ≠ i2 → s.heap.get? c = some o → h'.get? c = some o) → (∃ o, h'.get? e = some o ∧ o.cls = .type "StopIteration") → E (.ref e) { s with heap := h' }) :
    wpAny (model P w) A (Builtin.SmallTypes.nextOf (.ref z)) Q E s := by
  unfold Builtin.SmallTypes.nextOf
  exact wpAny_bind (wpAny_callSpecial?_slot (name := Str.ofString "__next__") Z.ty F.slot_zip_next
    (wpAny_call_entry F.slot_zip_next Z.ty F.entry_zip_next (zipAny_end hh D Z pI pO w1 w2 t1 t2 he hE) (F.args_zip_next_1 _)))
/-- the records of enumerate(zip(a, b)) -/
structure EzAt (h : Heap) (e z TI TO i1 i2 l1 l2 : Addr) (i : Nat) : Prop where
  en : ∃ old, IsEnum h e z ((i : Nat) : Int) old
  zp : ZipAny h z TI TO
  pI : IsPair h TI (.ref i1) (.ref i2)
  pO : ∃ a b, IsPair h TO a b
  w1 : h.IsTupleIter i1 l1 i
  w2 : h.IsTupleIter i2 l2 i
structure EzApart (e z TI TO i1 i2 : Addr) : Prop where
  z : e ≠ z
  TI : e ≠ TI
  TO : e ≠ TO
  i1 : e ≠ i1
  i2 : e ≠ i2
/-- the pair at T1 is out of the zip, the tuple at T2 out of enumerate -/
structure EzOut (h : Heap) (e z TI TO i1 i2 l1 l2 : Addr) (i : Nat) (T1 T2 : Addr) (t : Tok) (x y : Value) : Prop where
  en : ∃ u, IsEnumOut h e z (((i + 1 : Nat)) : Int) u T2
  zp : ZipAny h z TI TO
  pI : IsPair h TI (.ref i1) (.ref i2)
  pO : ∃ a b, IsPair h TO a b
  w1 : h.IsTupleIter i1 l1 (i + 1)
  w2 : h.IsTupleIter i2 l2 (i + 1)
  p1 : IsPair h T1 x y
  p2 : IsPair h T2 (.int i t) (.ref T1)
theorem ez_item {e z TI TO i1 i2 l1 l2 : Addr} {i : Nat} {xs ys : Array Value} {x y : Value} {Q : Value → Shared → Prop} (B : EzApart e z TI TO i1 i2) (D : ZipApart z TI TO i1 i2 l1 l2) (S : EzAt s.heap e z TI TO i1 i2 l1 l2 i)
    (t1 : s.heap.IsTuple l1 xs) (t2 : s.heap.IsTuple l2 ys) (hx : xs[i]? = some x) (hy : ys[i]? = some y)
    (hQ : ∀ h' tk, EzOut h' e z TI TO i1 i2 l1 l2 i s.heap.objs.size (s.heap.objs.size + 1) s.toks x y → h'.objs.size = s.heap.objs.size + 2 →
      (∀ c o, c ≠ e → c ≠ z → c ≠ TO → c ≠ i1 → c ≠ i2 → s.heap.get? c = some o → h'.get? c = some o) → Q (.ref (s.heap.objs.size + 1)) { s with heap := h', toks := tk }) :
    wpAny (model P w) A (Builtin.«enumerate.__next__» ⟨[.ref e], []⟩) (fun fin s' => ∃ v, fin = .done (.ret v) ∧ Q v s') E s := by
  obtain ⟨hp, g, d, tk, os⟩ := s
  obtain ⟨⟨old, he⟩, hz, hI, ⟨a, b, hO⟩, w1, w2⟩ := S
  replace he : IsEnum hp e z ((i : Nat) : Int) old := he
  show wpAny _ _ (field (.ref e) 2 >>= _) _ _ _
  refine wpAny_bind (wpAny_field he rfl (x := .ref z) rfl ?_)
  refine wpAny_bind (nextOf_zipAny D hz hI hO w1 w2 t1 t2 hx hy fun h1 z1 o1 v1 v2 p1 s1 k1 => ?_)
  replace s1 : h1.objs.size = hp.objs.size + 1 := s1
  replace p1 : IsPair h1 hp.objs.size x y := p1
  have he1 : IsEnum h1 e z ((i : Nat) : Int) old := k1 e _ B.z B.TO B.i1 B.i2 he
  have hI1 : IsPair h1 TI (.ref i1) (.ref i2) := k1 TI _ D.TIz D.TITO D.TIi1 D.TIi2 hI
  show wpAny _ _ (field (.ref e) 3 >>= _) _ _ ⟨h1, g, d, tk, os⟩
  refine wpAny_bind (wpAny_field he1 rfl (x := rawInt i) rfl ?_)
  show wpAny _ _ (field (.ref e) 4 >>= _) _ _ ⟨h1, g, d, tk, os⟩
  refine wpAny_bind (wpAny_field he1 rfl (x := .none) rfl ?_)
  show wpAny _ _ (mkInt i >>= _) _ _ ⟨h1, g, d, tk, os⟩
  refine wpAny_bind (wpAny_mkInt ?_)
  show wpAny _ _ (setField (.ref e) 3 (rawInt ((i : Int) + 1)) >>= _) _ _ ⟨h1, g, d, tk + 1, os⟩
  refine wpAny_bind (wpAny_setField_rec he1 (by simp) fun h2 he2 b2 => ?_)
  replace b2 : Heap.SameBut e h1 h2 := b2
  replace he2 : IsEnum h2 e z ((i : Int) + 1) old := he2
  show wpAny _ _ (setField (.ref e) 4 .none >>= _) _ _ ⟨h2, g, d, tk + 1, os⟩
  refine wpAny_bind (wpAny_setField_rec he2 (by simp) fun h3 he3 b3 => ?_)
  replace b3 : Heap.SameBut e h2 h3 := b3
  replace he3 : IsEnum h3 e z ((i : Int) + 1) old := he3
  show wpAny _ _ (newTuple [.int i tk, .ref hp.objs.size] >>= _) _ _ ⟨h3, g, d, tk + 1, os⟩
  refine wpAny_bind (wpAny_newTuple ?_)
  have s3 : h3.objs.size = hp.objs.size + 1 := by rw [b3.1, b2.1, s1]
  have elt : e < hp.objs.size := Heap.lt_size he
  have ne2 : hp.objs.size + 1 ≠ e := Nat.ne_of_gt (Nat.lt_succ_of_lt elt)
  have up3 : ∀ c o, c ≠ e → h1.get? c = some o → h3.get? c = some o := fun c o c1 q => b3.extBut c o c1 (b2.extBut c o c1 q)
  have he4 : IsEnum (h3.push { cls := .type "tuple", data := .seq #[.int i tk, .ref hp.objs.size] }) e z ((i : Int) + 1) old := Heap.get?_push_of_some _ he3
  have pT : IsPair (h3.push { cls := .type "tuple", data := .seq #[.int i tk, .ref hp.objs.size] }) (hp.objs.size + 1) (.int i tk) (.ref hp.objs.size) := by
    rw [← s3]; exact Heap.get?_push_size _ rfl
  have s4 : (h3.push { cls := .type "tuple", data := .seq #[.int i tk, .ref hp.objs.size] }).objs.size = hp.objs.size + 2 := by rw [Heap.size_push, s3]
  have up4 : ∀ c o, c ≠ e → h1.get? c = some o → (h3.push { cls := .type "tuple", data := .seq #[.int i tk, .ref hp.objs.size] }).get? c = some o := fun c o c1 q => Heap.get?_push_of_some _ (up3 c o c1 q)
  show wpAny _ _ (Builtin.SmallTypes.ownedTupleIsFree (.ref e) >>= _) _ _ ⟨_, g, d, tk + 1, os⟩
  rw [s3]
  generalize h3.push { cls := .type "tuple", data := .seq #[.int i tk, .ref hp.objs.size] } = h4 at he4 pT s4 up4
  clear he3 b3 he2 b2 up3 s3 h3 h2
  refine wpAny_bind ?_
  unfold Builtin.SmallTypes.ownedTupleIsFree
  refine wpAny_bind (wpAny_field he4 rfl (x := .none) rfl (wpAny_pure ?_))
  simp only [if_true]
  refine wpAny_bind (wpAny_rule ?_)
  refine wpAny_bind (wpAny_field he4 rfl (x := old) rfl ?_)
  refine wpAny_bind (wpAny_setField_rec he4 (by simp) fun h5 he5 b5 => ?_)
  replace b5 : Heap.SameBut e h4 h5 := b5
  replace he5 : IsEnum h5 e z ((i : Int) + 1) (.ref hp.objs.size) := he5
  show wpAny _ _ (Builtin.SmallTypes.ownedTupleHandOut (.ref e) (.ref (hp.objs.size + 1)) >>= _) _ _ ⟨h5, g, d, tk + 1, os⟩
  refine wpAny_bind ?_
  unfold Builtin.SmallTypes.ownedTupleHandOut
  refine wpAny_bind (wpAny_setField_rec he5 (by simp) fun h6 he6 b6 => ?_)
  replace b6 : Heap.SameBut e h5 h6 := b6
  replace he6 : IsEnumOut h6 e z ((i : Int) + 1) (.ref hp.objs.size) (hp.objs.size + 1) := he6
  refine wpAny_setField_rec he6 (by simp) fun h7 he7 b7 => ?_
  replace b7 : Heap.SameBut e h6 h7 := b7
  replace he7 : IsEnumOut h7 e z ((i : Int) + 1) (.ref hp.objs.size) (hp.objs.size + 1) := he7
  have up7 : ∀ c o, c ≠ e → h4.get? c = some o → h7.get? c = some o := fun c o c1 q => b7.extBut c o c1 (b6.extBut c o c1 (b5.extBut c o c1 q))
  have up : ∀ c o, c ≠ e → h1.get? c = some o → h7.get? c = some o := fun c o c1 q => up7 c o c1 (up4 c o c1 q)
  have out : EzOut h7 e z TI TO i1 i2 l1 l2 i hp.objs.size (hp.objs.size + 1) tk x y := by
    refine ⟨⟨.ref hp.objs.size, ?_⟩, ?_, up _ _ B.TI.symm hI1, ?_, v1.at fun o q => up _ o B.i1.symm q, v2.at fun o q => up _ o B.i2.symm q, up _ _ (Nat.ne_of_gt elt) p1, up7 _ _ ne2 pT⟩
    · rw [Int.natCast_succ]; exact he7
    · obtain ⟨f0, f1, q, r⟩ := z1
      exact ⟨f0, f1, up _ _ B.z.symm q, r⟩
    · obtain ⟨a', b', q⟩ := o1
      exact ⟨a', b', up _ _ B.TO.symm q⟩
  have s7 : h7.objs.size = hp.objs.size + 2 := by rw [b7.1, b6.1, b5.1, s4]
  exact wpAny_bind (wpAny_letGo (wpAny_pure ⟨_, rfl, hQ h7 (tk + 1) out s7 fun c o c0 c1 c2 c3 c4 q => up c o c0 (k1 c o c1 c2 c3 c4 q)⟩))
theorem ez_end {e z TI TO i1 i2 l1 l2 : Addr} {i : Nat} {xs ys : Array Value} {Q : Option Value → Shared → Prop} (hh : A.handled = none) (B : EzApart e z TI TO i1 i2) (D : ZipApart z TI TO i1 i2 l1 l2) (S : EzAt s.heap e z TI TO i1 i2 l1 l2 i)
    (t1 : s.heap.IsTuple l1 xs) (t2 : s.heap.IsTuple l2 ys) (hn : xs[i]? = none ∨ ys[i]? = none)
    (hQ : ∀ h', (∀ c o, c ≠ z → c ≠ TO → c ≠ i1 → c ≠ i2 → s.heap.get? c = some o → h'.get? c = some o) → Q none { s with heap := h' }) : wpAny (model P w) A (pyNext (.ref e)) Q E s := by
  obtain ⟨⟨old, he⟩, hz, hI, ⟨a, b, hO⟩, w1, w2⟩ := S
  have ht : s.TypeIs (.ref e) "enumerate" := ⟨_, he, rfl⟩
  unfold pyNext
  refine wpAny_bind (wpAny_attempt (wpAny_callSpecial?_slot (name := Str.ofString "__next__") ht F.slot_enumerate_next
    (wpAny_call_entry F.slot_enumerate_next ht F.entry_enumerate_next ?_ (F.args_enumerate_next_1 _))))
  show wpAny _ _ (field (.ref e) 2 >>= _) _ _ _
  refine wpAny_bind (wpAny_field he rfl (x := .ref z) rfl ?_)
  refine wpAny_bind (nextOf_zipAny_end hh D hz hI hO w1 w2 t1 t2 hn fun h' u k st => ?_)
  obtain ⟨o, so, co⟩ := st
  refine wpAny_bind (wpAny_isInstance (T := "StopIteration") (b := true) ⟨o, so, co⟩ isSubtype_stop ?_)
  exact wpAny_pure (hQ _ k)
theorem ez_next {e z TI TO i1 i2 l1 l2 : Addr} {i : Nat} {xs ys : Array Value} {x y : Value} {Q : Option Value → Shared → Prop} (B : EzApart e z TI TO i1 i2) (D : ZipApart z TI TO i1 i2 l1 l2) (S : EzAt s.heap e z TI TO i1 i2 l1 l2 i)
    (t1 : s.heap.IsTuple l1 xs) (t2 : s.heap.IsTuple l2 ys) (hx : xs[i]? = some x) (hy : ys[i]? = some y)
    (hQ : ∀ h' tk, EzOut h' e z TI TO i1 i2 l1 l2 i s.heap.objs.size (s.heap.objs.size + 1) s.toks x y → h'.objs.size = s.heap.objs.size + 2 →
      (∀ c o, c ≠ e → c ≠ z → c ≠ TO → c ≠ i1 → c ≠ i2 → s.heap.get? c = some o → h'.get? c = some o) → Q (some (.ref (s.heap.objs.size + 1))) { s with heap := h', toks := tk }) :
    wpAny (model P w) A (pyNext (.ref e)) Q E s := by
  have ht : s.TypeIs (.ref e) "enumerate" := by
    obtain ⟨old, he⟩ := S.en
    exact ⟨_, he, rfl⟩
  unfold pyNext
  exact wpAny_bind (wpAny_attempt (wpAny_callSpecial?_slot (name := Str.ofString "__next__") ht F.slot_enumerate_next
    (wpAny_call_entry F.slot_enumerate_next ht F.entry_enumerate_next (ez_item B D S t1 t2 hx hy fun h' tk a b c => wpAny_pure (hQ h' tk a b c)) (F.args_enumerate_next_1 _))))
theorem meets_enumZ (z TI TO : Addr) :
    Meets (Builtin.«enumerate.__new__» ⟨[.type "enumerate", .ref z], []⟩) (fun _ R s => IsZip s.heap z TI TO .none ∧
      R (.ok (.ret (.ref s.heap.objs.size))) { s with heap := s.heap.push { cls := .type "enumerate", data := .fields #[.none, .bool false, .ref z, rawInt 0, .none, .none] } }) :=
  .of_wp fun prog w A R s h => by
    obtain ⟨hp, g, d, tk, os⟩ := s
    obtain ⟨hz, h⟩ := h
    have sub := sub_enumerate
    have Z : IsZip (Shared.heap ⟨hp, g, d, tk, os⟩) z TI TO .none := hz
    wp_walk using AutoSeq1.wpAny_loadPart' hz
    refine wpAny_stack_any fun st => wpAny_pure ?_
    split
    · rename_i c _ _ _ _ _
      cases (c == Value.type "enumerate") <;> (wp_walk using AutoSeq1.wpAny_loadPart' hz, wpAny_pyIter_zip Z; exact ⟨_, rfl, h⟩)
    · wp_walk using AutoSeq1.wpAny_loadPart' hz, wpAny_pyIter_zip Z
      exact ⟨_, rfl, h⟩
theorem call_enumZ {z TI TO : Addr} {Q : Value → Shared → Prop} (hz : IsZip s.heap z TI TO .none)
    (h : ∀ h', IsEnum h' s.heap.objs.size z 0 .none → h'.objs.size = s.heap.objs.size + 1 → (∀ b o, s.heap.get? b = some o → h'.get? b = some o) → Q (.ref s.heap.objs.size) { s with heap := h' }) :
    wpAny (model P w) A (call (.type "enumerate") [.ref z]) Q E s := by
  refine callType_new F.called_enumerate (by decide) (F.typeCall_enumerate_1 _) (F.newCall_enumerate_1 _) (fun obj => F.args_object_init_2 obj _) F.entry_enumerate_new (meets_enumZ z TI TO) ⟨hz, ?_⟩
  have q : IsEnum (s.heap.push { cls := .type "enumerate", data := .fields #[.none, .bool false, .ref z, rawInt 0, .none, .none] }) s.heap.objs.size z 0 .none := Heap.get?_push_size _ rfl
  exact ⟨⟨_, q, rfl⟩, h _ q (Heap.size_push ..) fun b o x => Heap.get?_push_of_some _ x⟩
end
theorem push_old {h : Heap} {c : Addr} {o o' : Obj} (lt : c < h.objs.size) (q : (h.push o).get? c = some o') : h.get? c = some o' := by
  have e : (h.push o).get? c = h.get? c := by
    cases h
    have n : c ≠ _ := Nat.ne_of_lt lt
    unfold Heap.get? Heap.push
    simp only [Array.getElem?_push, if_neg n]
  exact e.symm.trans q
/-- two tuples as they stand at each turn: place and pair in new tuples -/
def ItEz (K : PySem.W.Frag) (a b : Addr) : It :=
  ⟨fun i H => ∃ (xs ys : List V) (x y : V), SqT K H a xs ∧ SqT K H b ys ∧ xs[i]? = some x ∧ ys[i]? = some y,
    fun i H v H' => ∃ T1 T2 x y, v = .ref T2 ∧ H T1 = none ∧ H T2 = none ∧ T2 ≠ T1 ∧ H' = upd (upd H T1 (.tup [x, y])) T2 (.tup [.int (i : Nat), .ref T1]) ∧ (∀ xs, SqT K H a xs → xs[i]? = some x) ∧ ∀ ys, SqT K H b ys → ys[i]? = some y,
    fun i H => ∃ xs ys : List V, SqT K H a xs ∧ SqT K H b ys ∧ (xs.length ≤ i ∨ ys.length ≤ i)⟩
theorem fp_upd {X : Cx} {pins : List (Addr × Obj)} {H : Hp} {b T : Addr} {o : HO} (f : FpOk X pins H b) (h : b ≠ T) : FpOk X pins (upd H T o) b := ⟨(upd_ne h).trans f.1, f.2⟩
theorem turn_ez {P : Program} {w : World} {K : PySem.W.Frag} {elts : List Expr} {kk : Nat} {tpos : Pos} {a b e z TI TO i1 i2 : Addr} (B : EzApart e z TI TO i1 i2) (D : ZipApart z TI TO i1 i2 a b) :
    Turn P w K (.Tuple elts kk tpos) (ItEz K a b) [e, z, TI, TO, i1, i2] e (fun i h => EzAt h e z TI TO i1 i2 a b i) where
  mem := by simp
  obj := fun i h st c hc => by
    obtain ⟨⟨old, he⟩, ⟨f0, f1, hz, _⟩, hI, ⟨_, _, hO⟩, ⟨o1, e1, _, d1⟩, ⟨o2, e2, _, d2⟩⟩ := st
    simp only [List.mem_cons, List.not_mem_nil, or_false] at hc
    rcases hc with rfl | rfl | rfl | rfl | rfl | rfl
    · exact ⟨_, he, fun v q => nomatch q⟩
    · exact ⟨_, hz, fun v q => nomatch q⟩
    · exact ⟨_, hI, fun v q => nomatch q⟩
    · exact ⟨_, hO, fun v q => nomatch q⟩
    · exact ⟨o1, e1, fun v q => by rw [d1] at q; cases q⟩
    · exact ⟨o2, e2, fun v q => by rw [d2] at q; cases q⟩
  keep := fun i h h' st k => by
    obtain ⟨⟨old, he⟩, ⟨f0, f1, hz, r⟩, hI, ⟨_, _, hO⟩, w1, w2⟩ := st
    exact ⟨⟨old, k e (by simp) _ he⟩, ⟨f0, f1, k z (by simp) _ hz, r⟩, k TI (by simp) _ hI, ⟨_, _, k TO (by simp) _ hO⟩, w1.at fun o q => k i1 (by simp) o q, w2.at fun o q => k i2 (by simp) o q⟩
  item := by
    intro X hP hw hK hc i pins s σ H E I hf st hg
    subst hP hw hK
    obtain ⟨xs, ys, x, y, hqx, hqy, hx, hy⟩ := hg
    obtain ⟨its, rv, p, _⟩ := I.tuple hqx
    obtain ⟨its2, rv2, p2, _⟩ := I.tuple hqy
    obtain ⟨u, hu, ru⟩ := rv.get hx
    obtain ⟨u2, hu2, ru2⟩ := rv2.get hy
    refine ez_next B D st p p2 (x := u) (y := u2) (by simpa using hu) (by simpa using hu2) fun h' tk out hsz keep => ?_
    have old : ∀ c ∈ [e, z, TI, TO, i1, i2], c < s.heap.objs.size := fun c hcm => by
      obtain ⟨⟨_, he⟩, hz, hI, ⟨_, _, hO⟩, ⟨_, e1, _⟩, ⟨_, e2, _⟩⟩ := st
      simp only [List.mem_cons, List.not_mem_nil, or_false] at hcm
      rcases hcm with rfl | rfl | rfl | rfl | rfl | rfl
      · exact Heap.lt_size he
      · exact hz.lt
      · exact Heap.lt_size hI
      · exact Heap.lt_size hO
      · exact Heap.lt_size e1
      · exact Heap.lt_size e2
    obtain ⟨⟨uu, he⟩, hz, hI, ⟨_, _, hO⟩, w1, w2, q1, q2⟩ := out
    refine ⟨_, rfl, wpAny_letOwnedTupleGo_enum (s := { s with heap := h', toks := tk }) he fun h2 he2 sb => ?_⟩
    have up : ∀ c o, c ≠ e → h'.get? c = some o → h2.get? c = some o := fun c o ce q => (sb.2 c ce).trans q
    have elt := old e (by simp)
    have n1 : s.heap.objs.size ≠ e := Nat.ne_of_gt elt
    have n2 : s.heap.objs.size + 1 ≠ e := Nat.ne_of_gt (Nat.lt_succ_of_lt elt)
    -- the pair alone
    have I1 : Inv X pins σ (upd H s.heap.objs.size (.tup [x, y])) { s with heap := s.heap.push { cls := .type "tuple", data := .seq #[u, u2] } } :=
      I.laid (t' := s.toks) (fun c o q => Heap.get?_push_of_some _ q) (Nat.le_refl _) ⟨by show 2 ≤ sizeLine; decide, [u, u2], .cons ru (.cons ru2 .nil), ⟨_, Heap.get?_push_size s.heap rfl, rfl, _, rfl⟩⟩
    have I2 : Inv X pins σ (upd (upd H s.heap.objs.size (.tup [x, y])) (s.heap.objs.size + 1) (.tup [.int (i : Nat), .ref s.heap.objs.size])) { s with heap := h2, toks := tk } := by
      refine I1.turnedNew (t' := tk) (ch := [e, z, TI, TO, i1, i2]) (fun c o hcm q => ?_) (fun c hcm => fp_upd (hf c hcm) (Nat.ne_of_lt (old c hcm))) ?_ ?_
      · have hc0 : c ≠ e := fun q => hcm (by simp [q])
        by_cases hcn : c = s.heap.objs.size
        · subst hcn
          have q' := Heap.get?_push_size s.heap (o := { cls := .type "tuple", data := .seq #[u, u2] }) rfl
          rw [q'] at q
          cases q
          exact up _ _ hc0 q1
        · refine up _ _ hc0 (keep c o hc0 (fun q => hcm (by simp [q])) (fun q => hcm (by simp [q])) (fun q => hcm (by simp [q])) (fun q => hcm (by simp [q])) ?_)
          have lt : c < s.heap.objs.size := by
            have := Heap.lt_size q
            rw [Heap.size_push] at this
            exact Nat.lt_of_le_of_ne (Nat.le_of_lt_succ this) hcn
          exact push_old lt q
      · show (s.heap.push _).objs.size ≤ _
        rw [Heap.size_push]
        exact Nat.le_refl _
      · exact ⟨by show 2 ≤ sizeLine; decide, [.int i s.toks, .ref s.heap.objs.size], .cons ⟨_, rfl⟩ (.cons rfl .nil), ⟨_, up _ _ n2 q2, rfl, _, rfl⟩⟩
    have f1 : H s.heap.objs.size = none := I.hok.fresh (Nat.le_refl _)
    have f2 : H (s.heap.objs.size + 1) = none := I.hok.fresh (Nat.le_succ _)
    refine ⟨.ref (s.heap.objs.size + 1), _, I2, rfl, ⟨_, _, x, y, rfl, f1, f2, Nat.succ_ne_self _, rfl, fun l hl => by rw [I.tuple_inj hl hqx]; exact hx, fun l hl => by rw [I.tuple_inj hl hqy]; exact hy⟩, ?_, fun c hcm => ?_⟩
    · refine ⟨⟨uu, he2⟩, ?_, up _ _ B.TI.symm hI, ⟨_, _, up _ _ B.TO.symm hO⟩, w1.at fun o q => up _ o B.i1.symm q, w2.at fun o q => up _ o B.i2.symm q⟩
      obtain ⟨f0, f1, q, r⟩ := hz
      exact ⟨f0, f1, up _ _ B.z.symm q, r⟩
    · have lt := old c hcm
      rw [upd_ne (Nat.ne_of_lt (Nat.lt_succ_of_lt lt)), upd_ne (Nat.ne_of_lt lt)]
      exact (hf c hcm).1
  done := by
    intro X hP hw hK hc i pins s σ H E I hf st hg
    subst hP hw hK
    obtain ⟨xs, ys, hqx, hqy, hend⟩ := hg
    obtain ⟨its, rv, p, _⟩ := I.tuple hqx
    obtain ⟨its2, rv2, p2, _⟩ := I.tuple hqy
    have l1 := rv.length
    have l2 := rv2.length
    refine ez_end (I.ok.hd hc) B D st p p2 ?_ fun h' hk => ⟨rfl, I.turnedL (t' := s.toks) (ch := [e, z, TI, TO, i1, i2]) (fun c o hb q =>
      hk c o (fun r => hb (by simp [r])) (fun r => hb (by simp [r])) (fun r => hb (by simp [r])) (fun r => hb (by simp [r])) q) hf⟩
    rcases hend with q | q
    · exact .inl (by simp; omega)
    · exact .inr (by simp; omega)
  self := fun A i s Q E st h => by
    obtain ⟨old, he⟩ := st.en
    exact wpAny_pyIter_enum he h
def iEz (K : PySem.W.Frag) (ta : TA) : TI := fun σ H R => ta σ H fun vs H1 => ∃ a b xs ys, vs = [.ref a, .ref b] ∧ SqT K H1 a xs ∧ SqT K H1 b ys ∧ R (ItEz K a b) H1
theorem pi_ez {X : Cx} {e1 e2 : Expr} {ta : TA} {p p2 pos pos2 tpos : Pos} {elts : List Expr} {kk : Nat} (hg : Gl X "enumerate") (hm : X.mg "enumerate" = none) (hg2 : Gl X "zip") (hm2 : X.mg "zip" = none) (ha : PA X [e1, e2] ta)
    (hs0 : starEach [.Call (.Name "zip" p2) [e1, e2] [] pos2] X.env = [(false, eval (.Call (.Name "zip" p2) [e1, e2] [] pos2) X.env)] := by rfl)
    (hs : starEach [e1, e2] X.env = (false, eval e1 X.env) :: starEach [e2] X.env := by rfl) (hpl : (backTo pos2 (starEach [e2] X.env)).any (·.1) = false := by rfl) :
    PI X (.Tuple elts kk tpos) (.Call (.Name "enumerate" p) [.Call (.Name "zip" p2) [e1, e2] [] pos2] [] pos) (iEz X.K ta) := by
  refine ⟨fun pins s σ H R I h => ?_⟩
  refine Call_ (ld_blt I hg hm boot_enumerate (PyProof.Rows.callWith_type1 (PyProof.Rows.args_cons ?_ hs0) hs0 rfl))
  refine Call_ (ld_blt I hg2 hm2 PyProof.Rows.boot_zip (PyProof.Rows.callWith_type1 (thn (ha.run pos2 pins s σ H _ I h) fun us s1 ⟨vs, H1, I1, r1, q1⟩ => ?_) hs hpl))
  obtain ⟨a, b, xs, ys, ex, hqx, hqy, q⟩ := q1
  subst ex
  cases r1 with
  | cons r rr =>
    cases rr with
    | cons r' rr =>
      cases rr
      cases r
      cases r'
      obtain ⟨its, rv, p1, _⟩ := I1.tuple hqx
      obtain ⟨its2, rv2, p2, _⟩ := I1.tuple hqy
      obtain ⟨o1, so1, _⟩ := id p1
      obtain ⟨o2, so2, _⟩ := id p2
      have la : a < s1.heap.objs.size := Heap.lt_size so1
      have lb : b < s1.heap.objs.size := Heap.lt_size so2
      refine call_zipT (show s1.heap.IsTuple a its.toArray from p1) (show s1.heap.IsTuple b its2.toArray from p2) fun h' hz hTI hTO w1 w2 hsz hk => PyProof.Rows.args_nil ?_
      refine call_enumZ (s := { s1 with heap := h' }) hz fun h2 he hsz2 hk2 => wpAny_pyIter_enum he ?_
      replace hsz2 : h2.objs.size = h'.objs.size + 1 := hsz2
      have k : ∀ c o, s1.heap.get? c = some o → h2.get? c = some o := fun c o q => hk2 c o (hk c o q)
      have I2 : Inv X pins σ H1 { s1 with heap := h2 } := I1.kept (t' := s1.toks) k
      have eN : h'.objs.size = s1.heap.objs.size + 5 := hsz
      replace he : IsEnum h2 (s1.heap.objs.size + 5) (s1.heap.objs.size + 4) 0 .none := by
        have he : IsEnum h2 h'.objs.size (s1.heap.objs.size + 4) 0 .none := he
        rw [eN] at he; exact he
      have D := PySem.W.ktu_apart s1.heap.objs.size a b la lb
      have B : EzApart (s1.heap.objs.size + 5) (s1.heap.objs.size + 4) (s1.heap.objs.size + 2) (s1.heap.objs.size + 3) s1.heap.objs.size (s1.heap.objs.size + 1) := by
        constructor <;> (intro q; have q : (s1.heap.objs.size + 5 : Nat) = _ := q; omega)
      show PIE X pins σ _ R (.ref h'.objs.size) _
      rw [eN]
      refine ⟨s1.heap.objs.size + 5, [s1.heap.objs.size + 5, s1.heap.objs.size + 4, s1.heap.objs.size + 2, s1.heap.objs.size + 3, s1.heap.objs.size, s1.heap.objs.size + 1], _, _, H1, rfl, I2, turn_ez (elts := elts) (kk := kk) (tpos := tpos) B D, ?_, fun c hcm => ?_, q⟩
      · exact ⟨⟨_, he⟩, ⟨_, _, hk2 _ _ hz, .inl rfl⟩, hk2 _ _ hTI, ⟨_, _, hk2 _ _ hTO⟩, w1.at fun o q => hk2 _ o q, w2.at fun o q => hk2 _ o q⟩
      · have le : s1.heap.objs.size ≤ c := by
          simp only [List.mem_cons, List.not_mem_nil, or_false] at hcm
          rcases hcm with rfl | rfl | rfl | rfl | rfl | rfl <;> first | exact Nat.le_add_right _ _ | exact Nat.le_refl _
        exact I1.fpOk le (I1.hok.fresh le)
theorem enumD_at {zs : List D} {i : Nat} {d : D} (h : zs[i]? = some d) : (enumD zs)[i]? = some (.tuple [.int ((i : Nat) : Int), d]) := by
  unfold enumD pairsD
  rw [List.getElem?_zipWith, h, rngD_at (List.getElem?_eq_some_iff.mp h).1, Int.zero_add]
theorem ei_ez {K : Fg} {en : En} {xs ys : List D} {t : TA} (h : EvA K t en [.tuple xs, .tuple ys]) : EvI K (iEz K t) en (enumD (pairsD xs ys)) := fun A0 Hs A H σ I R k =>
  h A0 Hs A H σ I _ fun ws H1 g1 d1 => by
    cases d1 with
    | cons q t =>
      cases t with
      | cons q2 t =>
        cases t
        obtain ⟨a, vs, rfl, hs, hd⟩ := dp_tup q
        obtain ⟨b, us, rfl, hs2, hd2⟩ := dp_tup q2
        have l1 := dpa_len hd
        have l2 := dpa_len hd2
        have ln : (enumD (pairsD xs ys)).length = min xs.length ys.length := by simp [enumD, pairsD, rngD_len]
        refine ⟨a, b, vs, us, rfl, st_mono hide_sub hs, st_mono hide_sub hs2, k _ H1 g1 ⟨fun A1 H2 i l sm hi => ?_, fun A1 H2 l sm => ?_, fun A1 H2 i d x H3 l sm hi y => ?_⟩⟩
        · rw [ln] at hi
          exact ⟨vs, us, _, _, st_mono hide_sub (st_mono sm hs), st_mono hide_sub (st_mono sm hs2), List.getElem?_eq_getElem (by omega), List.getElem?_eq_getElem (by omega)⟩
        · rw [ln]
          refine ⟨vs, us, st_mono hide_sub (st_mono sm hs), st_mono hide_sub (st_mono sm hs2), ?_⟩
          rw [l1, l2]; omega
        · have hi' := (List.getElem?_eq_some_iff.mp hi).1
          rw [ln] at hi'
          obtain ⟨T1, T2, v1, v2, rfl, f1, f2, ne, rfl, h1, h2⟩ := y
          obtain ⟨d1, e1, q1⟩ := dpa_get' hd (h1 vs (st_mono hide_sub (st_mono sm hs)))
          obtain ⟨d2, e2, q2⟩ := dpa_get' hd2 (h2 us (st_mono hide_sub (st_mono sm hs2)))
          have ep : (pairsD xs ys)[i]? = some (.tuple [d1, d2]) := by
            unfold pairsD
            rw [List.getElem?_zipWith, e1, e2]
          have ee : (enumD (pairsD xs ys))[i]? = some (.tuple [.int ((i : Nat) : Int), .tuple [d1, d2]]) := by
            exact enumD_at ep
          rw [ee] at hi
          cases hi
          have g1 := Grow.new (o := .tup [v1, v2]) l f1
          have f2' : upd H2 T1 (.tup [v1, v2]) T2 = none := by rw [upd_ne ne]; exact f2
          have g2 := Grow.new (o := .tup [.int (i : Nat), .ref T1]) (g1.live l) f2'
          have p1 : Dq K (hide A1 (upd H2 T1 (.tup [v1, v2]))) (.ref T1) (.tuple [d1, d2]) :=
            .tup (.inl (.inl (hide_new l f1))) (.cons (dp_mono (sm.trans g1.ex) q1) (.cons (dp_mono (sm.trans g1.ex) q2) .nil))
          exact ⟨g1.trans g2, .tup (.inl (.inl (hide_new (g1.live l) f2'))) (.cons (.int _) (.cons (dp_mono g2.ex p1) .nil))⟩
theorem ev_bits {K : Fg} {en : En} {te : TE} {i : Int} (h : EvD K te en (.int i)) : EvD K (tBits te) en (.int (Builtin.Int.intBits i : Nat)) := fun A0 Hs A H σ I Q k =>
  h A0 Hs A H σ I _ fun v H1 g1 d1 => ⟨i, dp_int d1, k _ H1 g1 (.int _)⟩
theorem gd_weak {K : Fg} {g : TG} {d : D} {e e' f : En} (w : Weak e e') (h : GD K g d e' f) : GD K g d e f := fun A0 Hs A H σ x I hd Q k => h A0 Hs A H σ x (I.weak w) hd Q k
end HF

set_option Elab.async false
set_option linter.all false
set_option maxRecDepth 100000
set_option maxHeartbeats 4000000
namespace My
open PySem L2 PySem.Spec PyProof.Rows HF

/-! values and their octets -/
inductive Vl where
  | n (i : Int)
  | t (s : Str)
def vE : Vl → D
  | .n i => .int i
  | .t s => .str s
def vOk : Vl → Prop
  | .n i => 0 ≤ i ∧ i < 16777216
  | .t s => s.length ≤ 40 ∧ ∀ c ∈ s.cps.toList, 32 ≤ c ∧ c ≤ 126
def cod (s : Str) : List Int := s.cps.toList.map fun c : Nat => (c : Int)
def vo : Vl → List Int
  | .n i => [1, i / 65536, i / 256 % 256, i % 256]
  | .t s => 2 :: (cod s ++ [0])
def vos (vs : List Vl) : List Int := vs.flatMap vo
theorem cod_len {s : Str} : (cod s).length = s.length := by simp [cod]; rfl
theorem vo_len {v : Vl} (h : vOk v) : (vo v).length ≤ 42 := by
  cases v with
  | n i => show 4 ≤ 42; decide
  | t s =>
    have := h.1
    show (2 :: (cod s ++ [0])).length ≤ 42
    rw [List.length_cons, List.length_append, cod_len]
    simp
    omega
theorem vos_len : ∀ {vs : List Vl}, (∀ v ∈ vs, vOk v) → (vos vs).length ≤ 42 * vs.length
  | [], _ => Nat.zero_le _
  | v :: vs, h => by
    have h1 := vo_len (h v List.mem_cons_self)
    have h2 := vos_len (vs := vs) fun x hx => h x (List.mem_cons_of_mem _ hx)
    show (vo v ++ vos vs).length ≤ _
    rw [List.length_append, List.length_cons]
    omega
/-- the size of a list for a step -/
theorem sz16 {n : Nat} (h : n ≤ 16000000) : n ≤ sizeLine := Nat.le_trans h (by decide)

local macro_rules | `(tactic| walk_at "ev") => `(tactic| first
  | ((with_reducible show EvD _ (tVar _) _ _); exact ev_var rfl)
  | ((with_reducible show EvD _ (tC (V.int _)) _ _); exact ev_int)
  | ((with_reducible show EvD _ (tC (V.str _)) _ _); exact ev_str)
  | ((with_reducible show EvD _ (tC (V.bl _)) _ _); exact ev_bl)
  | ((with_reducible show EvD _ (tC V.non) _ _); exact ev_non)
  | ((with_reducible show EvD _ (tCB (rIsi _) _) _ _); refine' ev_isi ?isa ?ise; (case' isa => walk_at "ev"); (case' ise => first | rfl | decide +kernel))
  | ((with_reducible show EvD _ (tCB (rLenU _) (tCons (tVar _) tNil)) _ _); first | exact ev_lenO rfl | exact ev_lenK rfl)
  | ((with_reducible show EvD _ (tOp (rIx _) (tVar _) _) _ _); first | (refine' ev_ixO rfl ?iob ?ioc; (case' iob => walk_at "ev"); (case' ioc => first | walk_at "place" | skip)) | (refine' ev_ixK rfl ?ikb ?ikc; (case' ikb => walk_at "ev"); (case' ikc => first | walk_at "place" | skip)))
  | ((with_reducible show EvD _ (tCB _ _) _ _); refine' ev_call ?cba ?cbr; (case' cba => walk_at "ea"); (case' cbr => walk_at "rc"))
  | ((with_reducible show EvD _ (tFn _ _ _) _ _); refine' ev_fn ?fna ?fnr; (case' fna => walk_at "ea"); (case' fnr => first | walk_at "fn" | skip))
  | ((with_reducible show EvD _ (tTup _) _ _); refine' ev_tup ?tua ?tuz; (case' tua => walk_at "ea"); (case' tuz => first | decide | (simp only [List.length_cons, List.length_nil]; decide) | skip))
  | ((with_reducible show EvD _ (tSl _ _ _ _) _ _); first | (refine' ev_slT ?sta ?stb ?stc; (case' sta => walk_at "ev"); (case' stb => walk_at "eo"); (case' stc => walk_at "eo")) | (refine' ev_slS ?ssa ?ssz ?ssb ?ssc; (case' ssa => walk_at "ev"); (case' ssb => walk_at "eo"); (case' ssc => walk_at "eo"); (case' ssz => first | walk_at "side" | skip)) | (refine' ev_new ?slw; (case' slw => walk_at "en")))
  | ((with_reducible show EvD _ (tOp _ _ _) _ _); first | (refine' ev_op ?opa ?opb ?opr; (case' opa => walk_at "ev"); (case' opb => walk_at "ev"); (case' opr => walk_at "rd")) | (refine' ev_new ?opw; (case' opw => walk_at "en")))
  | ((with_reducible show EvD _ (tBits _) _ _); refine' ev_bits ?bti; (case' bti => walk_at "ev"))
  | ((with_reducible show EvD _ (tUn _ _) _ _); refine' ev_un ?una ?unr; (case' una => walk_at "ev"); (case' unr => walk_at "rd"))
  | ((with_reducible show EvD _ (tChain _ _ _ _ _) _ _); refine' ev_chain ?cha ?chb ?chc ?chr ?chq; (case' cha => walk_at "ev"); (case' chb => walk_at "ev"); (case' chc => (intro hc; walk_at "ev")); (case' chr => walk_at "rd"); (case' chq => (intro hc; walk_at "rd")))
  | ((with_reducible show EvD _ (tAndV _ _) _ _); refine' ev_and ?ana ?anb; (case' ana => walk_at "ev"); (case' anb => (intro hb; walk_at "ev")))
  | ((with_reducible show EvD _ (tOrV _ _) _ _); refine' ev_or ?ora ?orb; (case' ora => walk_at "ev"); (case' orb => (intro hb; walk_at "ev")))
  | ((with_reducible show EvD _ (tNotT _ _) _ _); refine' ev_notT ?noa ?noo; (case' noa => walk_at "ev"); (case' noo => first | trivial | skip))
  | ((with_reducible show EvD _ (tIf _ _ _) _ _); refine' ev_if ?ifc ?ifa ?ifb; (case' ifc => walk_at "et"); (case' ifa => (intro hc; walk_at "ev")); (case' ifb => (intro hc; walk_at "ev")))
  | (refine' ev_new ?neh; (case' neh => walk_at "en")))
local macro_rules | `(tactic| walk_at "ea") => `(tactic| first
  | ((with_reducible show EvA _ tNil _ _); exact ea_nil)
  | ((with_reducible show EvA _ (tCons _ _) _ _); refine' ea_cons ?cna ?cnt; (case' cna => walk_at "ev"); (case' cnt => walk_at "ea")))
local macro_rules | `(tactic| walk_at "eo") => `(tactic| first
  | ((with_reducible show EvO _ tNoPart _ _); exact eo_none)
  | ((with_reducible show EvO _ (tPart _) _ _); refine' eo_some ?eoa; (case' eoa => walk_at "ev")))
local macro_rules | `(tactic| walk_at "en") => `(tactic| first
  | ((with_reducible show EvN _ (tLst _) _ _); refine' en_lst ?lsa ?lsz; (case' lsa => walk_at "ea"); (case' lsz => first | decide | (simp only [List.length_cons, List.length_nil]; decide) | skip))
  | ((with_reducible show EvN _ (tCB (rLstU _) (tCons (tVar _) tNil)) _ _); exact en_lstK rfl)
  | ((with_reducible show EvN _ (tOp _ _ _) _ _); refine' en_addL ?ada ?adb ?adz; (case' ada => walk_at "ev"); (case' adb => walk_at "ev"); (case' adz => first | walk_at "side" | skip))
  | ((with_reducible show EvN _ (tSl _ _ _ _) _ _); refine' en_slL ?sla ?slb ?slc; (case' sla => walk_at "ev"); (case' slb => walk_at "eo"); (case' slc => walk_at "eo"))
  | ((with_reducible show EvN _ (tCB _ _) _ _); refine' en_call ?nca ?ncr; (case' nca => walk_at "ea"); (case' ncr => first | exact rc_lstL | exact rc_lstT | walk_at "rcn")))
local macro_rules | `(tactic| walk_at "rc") => `(tactic| first
  | exact rc_lenL
  | exact rc_lenT
  | exact rc_int
  | exact rc_intB
  | exact rc_ord
  | exact rc_tupL
  | exact rc_tupT
  | exact rc_max2
  | exact rc_min2
  | (refine' rc_lenS ?_; first | walk_at "side" | skip))
local macro_rules | `(tactic| walk_at "rd") => `(tactic| first
  | ((with_reducible show RD2 _ (rAddU _) _ _ _); first | exact rd_addI | (refine' rd_addS ?_; first | walk_at "side" | skip) | (refine' rd_addT ?_; first | walk_at "side" | skip))
  | ((with_reducible show RD2 _ rSubU _ _ _); first | exact rd_subU)
  | ((with_reducible show RD2 _ rBandU _ _ _); first | exact rd_bandU)
  | ((with_reducible show RD2 _ rBorU _ _ _); first | exact rd_borU)
  | ((with_reducible show RD2 _ rBxorU _ _ _); first | exact rd_bxorU)
  | ((with_reducible show RD2 _ (rLtU _) _ _ _); first | exact rd_ltI | exact rd_ltS | exact rd_ltT)
  | ((with_reducible show RD2 _ (rLeU _) _ _ _); first | exact rd_leI | exact rd_leS | exact rd_leT)
  | ((with_reducible show RD2 _ rGtU _ _ _); first | exact rd_gtI | exact rd_gtS)
  | ((with_reducible show RD2 _ rGeU _ _ _); first | exact rd_geI | exact rd_geS)
  | ((with_reducible show RD2 _ rIsNU _ _ _); first | exact rd_isN)
  | ((with_reducible show RD2 _ rIsNotNU _ _ _); first | exact rd_notN)
  | ((with_reducible show RD2 _ rModU _ _ _); first | (refine' rd_modU ?_; first | decide | omega | skip))
  | ((with_reducible show RD2 _ rDivU _ _ _); first | (refine' rd_divU ?_; first | exact ⟨by decide, by decide⟩ | skip))
  | ((with_reducible show RD2 _ rMulU _ _ _); first | (refine' rd_mulU ?_; first | exact Or.inr ⟨by decide, by decide⟩ | exact Or.inl ⟨by decide, by decide⟩ | skip))
  | ((with_reducible show RD2 _ rPowU _ _ _); first | (refine' rd_powU ?_; first | exact ⟨by decide, by decide, by decide⟩ | skip))
  | ((with_reducible show RD2 _ rShrU _ _ _); first | (refine' rd_shrU ?_; first | decide | omega | skip))
  | ((with_reducible show RD2 _ rShlU _ _ _); first | refine' rd_shlU ?_)
  | ((with_reducible show RD2 _ (rEqD _) _ _ _); first | (refine' rd_eq ?_ ?_; all_goals first | walk_at "sh" | skip))
  | ((with_reducible show RD2 _ (rNeD _) _ _ _); first | (refine' rd_ne ?_ ?_; all_goals first | walk_at "sh" | skip))
  | ((with_reducible show RD2 _ (rInU _) _ _ _); first | (refine' rd_inD ?_ ?_; all_goals first | walk_at "sh" | skip))
  | ((with_reducible show RD2 _ (rNotInU _) _ _ _); first | (refine' rd_notInD ?_ ?_; all_goals first | walk_at "sh" | skip))
  | ((with_reducible show RD2 _ (rIx _) _ _ _); first | (refine' rd_ixT ?_; first | walk_at "place" | skip) | (refine' rd_ixL ?_; first | walk_at "place" | skip) | (refine' rd_ixS ?_ ?_; (first | walk_at "side" | skip)))
  | ((with_reducible show RD1 _ rNegU _ _); exact rd_negU))
local macro_rules | `(tactic| walk_at "et") => `(tactic| first
  | ((with_reducible show EvT _ tYes _ _); exact et_yes)
  | ((with_reducible show EvT _ (tTest _) _ _); refine' et_test ?tea; (case' tea => walk_at "ev"))
  | ((with_reducible show EvT _ (tAnd _ _) _ _); refine' et_and ?taa ?tab; (case' taa => walk_at "et"); (case' tab => (intro hb; walk_at "et")))
  | ((with_reducible show EvT _ (tOr _ _) _ _); refine' et_or ?toa ?tob; (case' toa => walk_at "et"); (case' tob => (intro hb; walk_at "et")))
  | ((with_reducible show EvT _ (tNot _) _ _); refine' et_not ?tna; (case' tna => walk_at "et"))
  | ((with_reducible show EvT _ (tTruU _ (tVar _)) _ _); first | exact et_truO rfl | (refine' et_tru (ev_var rfl) ?tvo; first | trivial | skip))
  | ((with_reducible show EvT _ (tTruU _ _) _ _); refine' et_tru ?tra ?tro; (case' tra => walk_at "ev"); (case' tro => first | trivial | skip)))
local macro_rules | `(tactic| walk_at "side") => `(tactic| first
  | assumption | omega
  | (refine' sz16 ?_; simp [cod_len]; omega)
  | (simp [cod_len]; omega))
local macro_rules | `(tactic| walk_at "place") => `(tactic| first
  | assumption
  | exact at_nat (n := 0) rfl rfl | exact at_nat (n := 1) rfl rfl | exact at_nat (n := 2) rfl rfl)
local macro_rules | `(tactic| walk_at "sh") => `(tactic| first | exact (sh_int (n := 0)).ok | exact (sh_bool (n := 0)).ok | exact (sh_non (n := 0)).ok | (with_reducible assumption))
local macro_rules | `(tactic| walk_at "fn") => `(tactic| first | (with_reducible assumption))

def topAt (i : Nat) : Stmt := PySem.Challenge.pw_askedthen_k02_octets_bits_in_order.main.body.getD i (.Pass ⟨0, 0, 0, 0⟩)
structure Gb (mg : Str → Option Value) : Prop where
  b_tuple : mg "tuple" = none
  g_NUMBER : ∃ t, mg "_NUMBER" = some (.int 1 t)
  b_isinstance : mg "isinstance" = none
  b_str : mg "str" = none
  g_TEXT : ∃ t, mg "_TEXT" = some (.int 2 t)
  b_ord : mg "ord" = none
  b_enumerate : mg "enumerate" = none
  b_zip : mg "zip" = none
  b_len : mg "len" = none
  b_range : mg "range" = none
  b_int : mg "int" = none
  b_min : mg "min" = none
abbrev s_key_octets : Stmt := topAt 3
abbrev N_key_octets : List Str := ["key"]
theorem sc_key_octets : FnScope N_key_octets ["key"] (defScope s_key_octets) := ⟨rfl, rfl, rfl, by decide +kernel, rfl, by decide +kernel, by decide +kernel⟩
abbrev s_body : Stmt := topAt 4
abbrev N_body : List Str := ["values", "value", "octet"]
theorem sc_body : FnScope N_body ["values"] (defScope s_body) := ⟨rfl, rfl, rfl, by decide +kernel, rfl, by decide +kernel, by decide +kernel⟩
abbrev s_value_octets : Stmt := topAt 5
abbrev N_value_octets : List Str := ["value"]
theorem sc_value_octets : FnScope N_value_octets ["value"] (defScope s_value_octets) := ⟨rfl, rfl, rfl, by decide +kernel, rfl, by decide +kernel, by decide +kernel⟩
abbrev s_codes : Stmt := topAt 6
abbrev N_codes : List Str := ["text", "sign"]
theorem sc_codes : FnScope N_codes ["text"] (defScope s_codes) := ⟨rfl, rfl, rfl, by decide +kernel, rfl, by decide +kernel, by decide +kernel⟩
abbrev s_first_bit : Stmt := topAt 7
abbrev N_first_bit : List Str := ["one", "other", "place", "first", "second"]
theorem sc_first_bit : FnScope N_first_bit ["one", "other"] (defScope s_first_bit) := ⟨rfl, rfl, rfl, by decide +kernel, rfl, by decide +kernel, by decide +kernel⟩
abbrev s_has_bit : Stmt := topAt 8
abbrev N_has_bit : List Str := ["octets", "number", "place"]
theorem sc_has_bit : FnScope N_has_bit ["octets", "number"] (defScope s_has_bit) := ⟨rfl, rfl, rfl, by decide +kernel, rfl, by decide +kernel, by decide +kernel⟩
abbrev s_law_draws : Stmt := topAt 10
abbrev N_law_draws : List Str := ["cell", "many", "rows", "rest", "state", "k"]
theorem sc_law_draws : FnScope N_law_draws ["cell", "many"] (defScope s_law_draws) := ⟨rfl, rfl, rfl, by decide +kernel, rfl, by decide +kernel, by decide +kernel⟩
abbrev s_law_value : Stmt := topAt 11
abbrev N_law_value : List Str := ["draw", "numbers", "texts"]
theorem sc_law_value : FnScope N_law_value ["draw"] (defScope s_law_value) := ⟨rfl, rfl, rfl, by decide +kernel, rfl, by decide +kernel, by decide +kernel⟩
abbrev s_law_key : Stmt := topAt 12
abbrev N_law_key : List Str := ["draws", "k"]
theorem sc_law_key : FnScope N_law_key ["draws"] (defScope s_law_key) := ⟨rfl, rfl, rfl, by decide +kernel, rfl, by decide +kernel, by decide +kernel⟩
abbrev s_law_bits : Stmt := topAt 14
abbrev N_law_bits : List Str := ["octets", "bits", "octet", "unit"]
theorem sc_law_bits : FnScope N_law_bits ["octets"] (defScope s_law_bits) := ⟨rfl, rfl, rfl, by decide +kernel, rfl, by decide +kernel, by decide +kernel⟩
abbrev s_law : Stmt := topAt 17
abbrev N_law : List Str := ["script", "cell", "draws", "one", "other", "rows", "apart", "told", "number", "k"]
theorem sc_law : FnScope N_law ["script"] (defScope s_law) := ⟨rfl, rfl, rfl, by decide +kernel, rfl, by decide +kernel, by decide +kernel⟩
/-! octets tell their values -/
theorem cod_inj {s t : Str} (h : cod s = cod t) : s = t := by
  have e : s.cps.toList = t.cps.toList := by
    unfold cod at h
    have := congrArg (List.map Int.toNat) h
    rw [List.map_map, List.map_map] at this
    have q : (Int.toNat ∘ fun c : Nat => (c : Int)) = id := by
      funext c
      simp
    rw [q, List.map_id, List.map_id] at this
    exact this
  obtain ⟨a⟩ := s
  obtain ⟨b⟩ := t
  have : a = b := by
    apply Array.ext'
    exact e
  rw [this]
theorem cod_pos {s : Str} (h : vOk (.t s)) : ∀ x ∈ cod s, 32 ≤ x ∧ x ≤ 126 := fun x hx => by
  obtain ⟨c, hc, rfl⟩ := List.mem_map.mp hx
  have := h.2 c hc
  omega
theorem zero_split : ∀ {a b x y : List Int}, (∀ z ∈ a, 32 ≤ z) → (∀ z ∈ b, 32 ≤ z) → a ++ 0 :: x = b ++ 0 :: y → a = b ∧ x = y
  | [], [], x, y, _, _, h => ⟨rfl, (List.cons.inj h).2⟩
  | [], w :: b, x, y, _, hb, h => by
    have := (List.cons.inj h).1
    have := hb w List.mem_cons_self
    omega
  | w :: a, [], x, y, ha, _, h => by
    have := (List.cons.inj h).1
    have := ha w List.mem_cons_self
    omega
  | v :: a, w :: b, x, y, ha, hb, h => by
    obtain ⟨h1, h2⟩ := List.cons.inj h
    obtain ⟨h3, h4⟩ := zero_split (fun z hz => ha z (List.mem_cons_of_mem _ hz)) (fun z hz => hb z (List.mem_cons_of_mem _ hz)) h2
    exact ⟨by rw [h1, h3], h4⟩
theorem vo_inj {v w : Vl} {a b : List Int} (hv : vOk v) (hw : vOk w) (h : vo v ++ a = vo w ++ b) : v = w ∧ a = b := by
  cases v with
  | n i =>
    cases w with
    | n j =>
      have h : 1 :: i / 65536 :: (i / 256 % 256) :: (i % 256) :: a = 1 :: j / 65536 :: (j / 256 % 256) :: (j % 256) :: b := h
      injection h with _ h
      injection h with h1 h
      injection h with h2 h
      injection h with h3 h4
      have : i = j := by omega
      exact ⟨by rw [this], h4⟩
    | t s =>
      have h : (1 : Int) :: _ = (2 : Int) :: _ := h
      injection h with h _
      cases h
  | t s =>
    cases w with
    | n j =>
      have h : (2 : Int) :: _ = (1 : Int) :: _ := h
      injection h with h _
      cases h
    | t u =>
      have h : 2 :: ((cod s ++ [0]) ++ a) = 2 :: ((cod u ++ [0]) ++ b) := h
      injection h with _ h
      rw [List.append_assoc, List.append_assoc] at h
      obtain ⟨h1, h2⟩ := zero_split (fun z hz => (cod_pos hv z hz).1) (fun z hz => (cod_pos hw z hz).1) h
      exact ⟨by rw [cod_inj h1], h2⟩
theorem vo_head {v : Vl} : ∃ h r, vo v = h :: r ∧ (h = 1 ∨ h = 2) := by
  cases v with
  | n i => exact ⟨1, _, rfl, .inl rfl⟩
  | t s => exact ⟨2, _, rfl, .inr rfl⟩
def vsOk (vs : List Vl) : Prop := ∀ v ∈ vs, vOk v
theorem vsOk.tail {v : Vl} {vs : List Vl} (h : vsOk (v :: vs)) : vsOk vs := fun x hx => h x (List.mem_cons_of_mem _ hx)
/-- octets that begin with those of some values -/
theorem vos_pre : ∀ {vs ks : List Vl} {y : List Int}, vsOk vs → vsOk ks → vos ks ++ [0] = vos vs ++ y → ∃ rest, ks = vs ++ rest ∧ y = vos rest ++ [0]
  | [], ks, y, _, _, h => ⟨ks, rfl, h.symm⟩
  | v :: vs, [], y, _, _, h => by
    obtain ⟨a, r, e, ha⟩ := vo_head (v := v)
    have h : [0] = (vo v ++ vos vs) ++ y := h
    rw [e] at h
    have : (0 : Int) = a := (List.cons.inj h).1
    omega
  | v :: vs, k :: ks, y, h1, h2, h => by
    have h : (vo k ++ vos ks) ++ [0] = (vo v ++ vos vs) ++ y := h
    rw [List.append_assoc, List.append_assoc] at h
    obtain ⟨e1, e2⟩ := vo_inj (h2 k List.mem_cons_self) (h1 v List.mem_cons_self) h
    obtain ⟨rest, e3, e4⟩ := vos_pre h1.tail h2.tail e2
    exact ⟨rest, by rw [e1, e3]; rfl, e4⟩
theorem vos_app (a b : List Vl) : vos (a ++ b) = vos a ++ vos b := List.flatMap_append
theorem vos_head {rest : List Vl} : ∀ z ∈ (vos rest ++ [0]).head?, z < 3 := fun z hz => by
  cases rest with
  | nil =>
    have : z = 0 := by simpa [vos] using hz.symm
    omega
  | cons v rest =>
    obtain ⟨a, r, e, ha⟩ := vo_head (v := v)
    have : z = a := by
      have hz : z ∈ ((vo v ++ vos rest) ++ [0]).head? := hz
      rw [e] at hz
      simpa using hz.symm
    omega
theorem vos_inj {a b : List Vl} (ha : vsOk a) (hb : vsOk b) (h : vos a ++ [0] = vos b ++ [0]) : a = b := by
  obtain ⟨rest, e1, e2⟩ := vos_pre hb ha h
  cases rest with
  | nil => rw [e1, List.append_nil]
  | cons v rest =>
    obtain ⟨z, r, e, _⟩ := vo_head (v := v)
    have e2 : [0] = (vo v ++ vos rest) ++ [0] := e2
    rw [e] at e2
    have := congrArg List.length e2
    simp at this
theorem cod_ok {s : Str} (h : vOk (.t s)) : PyData.strOk s = true := by
  unfold PyData.strOk
  rw [Array.all_eq_true]
  intro i hi
  have := h.2 s.cps[i] (by simp)
  simp
  omega
theorem vE_sh {n : Nat} {v : Vl} (h : vOk v) : Sh n (vE v) := by
  cases v with
  | n i => exact sh_int
  | t s => exact sh_str (cod_ok h)
instance vlDec : DecidableEq Vl := fun a b => match a, b with
  | .n i, .n j => if h : i = j then isTrue (by rw [h]) else isFalse fun e => h (Vl.n.inj e)
  | .t u, .t v => if h : u = v then isTrue (by rw [h]) else isFalse fun e => h (Vl.t.inj e)
  | .n _, .t _ => isFalse fun e => by cases e
  | .t _, .n _ => isFalse fun e => by cases e
theorem vE_eqv (v w : Vl) : PyData.eqv (vE v) (vE w) = decide (v = w) := by
  cases v with
  | n i =>
    cases w with
    | n j =>
      show PyData.eqv (.int i) (.int j) = _
      rw [eqv_int]; simp
    | t u => simp [vE, PyData.eqv]
  | t s =>
    cases w with
    | n j => simp [vE, PyData.eqv]
    | t u =>
      show PyData.eqv (.str s) (.str u) = _
      rw [eqv_str]; simp
theorem vs_eqv (a b : List Vl) : PyData.eqv (.tuple (a.map vE)) (.tuple (b.map vE)) = decide (a = b) := by rw [eqv_tup, eqv_all vE_eqv]
theorem vs_sh {vs : List Vl} (h : vsOk vs) : SeqAt.shaped (.tuple (vs.map vE)) = true := (sh_tup (n := 0) (sh_map fun v hv => vE_sh (h v hv))).ok
/-- whether octets lie between -/
def liesB (x a b : List Int) : Bool := leB a x && HT.lexLt x b
theorem lies_iff {x a : List Int} {c : Int} : liesB x a (a ++ [c]) = true ↔ ∃ y, x = a ++ y ∧ ∀ z ∈ y.head?, z < c := by
  unfold liesB
  rw [leB_eq, ← lex_mid]
  simp
theorem lies_values {ks vs : List Vl} (hk : vsOk ks) (hv : vsOk vs) : liesB (vos ks ++ [0]) (vos vs) (vos vs ++ [3]) = decide (ks.take vs.length = vs) := by
  rw [Bool.eq_iff_iff, lies_iff, decide_eq_true_iff]
  constructor
  · rintro ⟨y, h, _⟩
    obtain ⟨rest, e, _⟩ := vos_pre hv hk h
    rw [e]; simp
  · intro h
    have e : ks = vs ++ ks.drop vs.length := by
      conv => lhs; rw [← List.take_append_drop vs.length ks]
      rw [h]
    refine ⟨vos (ks.drop vs.length) ++ [0], ?_, vos_head⟩
    conv => lhs; rw [e]
    rw [vos_app, List.append_assoc]
theorem lies_key {ks vs : List Vl} (hk : vsOk ks) (hv : vsOk vs) (hp : ∀ x ∈ vos ks, 0 ≤ x) : liesB (vos ks ++ [0]) (vos vs ++ [0]) (vos vs ++ [0] ++ [0]) = decide (ks = vs) := by
  rw [Bool.eq_iff_iff, lies_iff, decide_eq_true_iff]
  constructor
  · rintro ⟨y, h, hy⟩
    cases y with
    | nil =>
      rw [List.append_nil] at h
      exact vos_inj hk hv h
    | cons z y =>
      have h1 := hy z (by simp)
      have : z ∈ vos ks ++ [0] := by rw [h]; simp
      rcases List.mem_append.mp this with h2 | h2
      · have := hp z h2; omega
      · have : z = 0 := by simpa using h2
        omega
  · rintro rfl
    exact ⟨[], (List.append_nil _).symm, by simp⟩
theorem vo_pos {v : Vl} (h : vOk v) : ∀ x ∈ vo v, 0 ≤ x := fun x hx => by
  cases v with
  | n i =>
    have h0 := h.1
    have : x = 1 ∨ x = i / 65536 ∨ x = i / 256 % 256 ∨ x = i % 256 := by simpa [vo] using hx
    omega
  | t s =>
    have : x = 2 ∨ x ∈ cod s ∨ x = 0 := by simpa [vo] using hx
    rcases this with h1 | h1 | h1
    · omega
    · have := (cod_pos h x h1).1; omega
    · omega
theorem vos_pos {vs : List Vl} (h : vsOk vs) : ∀ x ∈ vos vs, 0 ≤ x := fun x hx => by
  obtain ⟨v, hv, hx⟩ := List.mem_flatMap.mp hx
  exact vo_pos (h v hv) x hx
/-- the text behind the values begins so -/
def begT (many : Nat) (st : Str) (ks : List Vl) : Bool := match ks[many]? with
  | some (.t u) => decide (u.cps.toList.take st.length = st.cps.toList)
  | _ => false
theorem take_pre : ∀ {a b c : List Int}, (∀ z ∈ b, 32 ≤ z) → a ++ 0 :: c = b ++ (a ++ 0 :: c).drop b.length → b.length ≤ a.length ∧ a.take b.length = b
  | a, [], c, _, _ => ⟨Nat.zero_le _, rfl⟩
  | [], w :: b, c, hb, h => by
    have h1 := (List.cons.inj h).1
    have := hb w List.mem_cons_self
    omega
  | v :: a, w :: b, c, hb, h => by
    obtain ⟨h1, h2⟩ := List.cons.inj h
    obtain ⟨h3, h4⟩ := take_pre (fun z hz => hb z (List.mem_cons_of_mem _ hz)) h2
    exact ⟨Nat.succ_le_succ h3, by show v :: a.take b.length = _; rw [h4, h1]⟩
theorem cod_take {u st : Str} (n : Nat) : (cod u).take n = cod st ↔ u.cps.toList.take n = st.cps.toList := by
  unfold cod
  rw [← List.map_take]
  constructor
  · intro h
    have := congrArg (List.map Int.toNat) h
    rw [List.map_map, List.map_map] at this
    have q : (Int.toNat ∘ fun c : Nat => (c : Int)) = id := by
      funext c
      simp
    rw [q, List.map_id, List.map_id] at this
    exact this
  · intro h
    rw [h]
theorem lies_text {ks vs : List Vl} {st : Str} (hk : vsOk ks) (hv : vsOk vs) (hs : vOk (.t st)) : liesB (vos ks ++ [0]) (vos vs ++ 2 :: cod st) (vos vs ++ 2 :: cod st ++ [127]) = (decide (ks.take vs.length = vs) && begT vs.length st ks) := by
  rw [Bool.eq_iff_iff, lies_iff, Bool.and_eq_true, decide_eq_true_iff]
  constructor
  · rintro ⟨y, h, hy⟩
    rw [List.append_assoc] at h
    obtain ⟨rest, e, e2⟩ := vos_pre hv hk h
    refine ⟨by rw [e]; simp, ?_⟩
    cases rest with
    | nil =>
      have e2 : (2 : Int) :: _ = [(0 : Int)] := e2
      have := (List.cons.inj e2).1
      omega
    | cons v rest =>
      cases v with
      | n i =>
        have e2 : (2 : Int) :: _ = (1 : Int) :: _ := e2
        have := (List.cons.inj e2).1
        omega
      | t u =>
        have e2 : 2 :: (cod st ++ y) = 2 :: ((cod u ++ [0]) ++ vos rest ++ [0]) := e2
        have e3 := (List.cons.inj e2).2
        have e4 : cod u ++ 0 :: (vos rest ++ [0]) = cod st ++ y := by rw [e3]; simp
        obtain ⟨_, h5⟩ := take_pre (a := cod u) (b := cod st) (c := vos rest ++ [0]) (fun z hz => (cod_pos hs z hz).1) (by
          rw [e4]; simp)
        rw [cod_len] at h5
        have h6 := (cod_take st.length).mp h5
        have h7 : ks[vs.length]? = some (.t u) := by
          rw [e, List.getElem?_append_right (Nat.le_refl _)]; simp
        unfold begT
        rw [h7]
        exact decide_eq_true h6
  · rintro ⟨h1, h2⟩
    unfold begT at h2
    cases e : ks[vs.length]? with
    | none => rw [e] at h2; cases h2
    | some v =>
      rw [e] at h2
      cases v with
      | n i => cases h2
      | t u =>
        have h2 := of_decide_eq_true h2
        have h3 := (cod_take (u := u) (st := st) st.length).mpr h2
        have hu : vOk (.t u) := hk _ (List.mem_of_getElem? e)
        have hlt : vs.length < ks.length := (List.getElem?_eq_some_iff.mp e).1
        have ek : ks = vs ++ .t u :: ks.drop (vs.length + 1) := by
          conv => lhs; rw [← List.take_append_drop vs.length ks]
          rw [h1, List.drop_eq_getElem_cons hlt]
          have := (List.getElem?_eq_some_iff.mp e).2
          rw [this]
        have ec : cod u = cod st ++ (cod u).drop st.length := by
          conv => lhs; rw [← List.take_append_drop st.length (cod u)]
          rw [h3]
        refine ⟨(cod u).drop st.length ++ 0 :: (vos (ks.drop (vs.length + 1)) ++ [0]), ?_, fun z hz => ?_⟩
        · conv => lhs; rw [ek]
          rw [vos_app]
          show (vos vs ++ ((2 :: (cod u ++ [0])) ++ vos (ks.drop (vs.length + 1)))) ++ [0] = _
          conv => lhs; rw [ec]
          simp
        · cases q : (cod u).drop st.length with
          | nil =>
            rw [q] at hz
            have : z = 0 := by simpa using hz.symm
            omega
          | cons w r =>
            rw [q] at hz
            have hzw : z = w := by simpa using hz.symm
            have : w ∈ cod u := List.mem_of_mem_drop (by rw [q]; exact List.mem_cons_self)
            have := (cod_pos hu w this).2
            omega

/-! the law's own values -/
def nums : List Int := [0, 1, 2, 7, 255, 256, 65535, 65536, 999999]
def txts : List Str := ["", "a", "ab", "b", "a b", "old mill", "Mill", "te", "tea", "tea-time", "x1", "~", " ", "abc", "mill weir"]
def abab : Str := repS "ab" 20
def valOf (d : Int) : Vl := if d % 3 = 0 then .n (nums.getD (d / 3 % 9).toNat 0) else if d % 100 = 98 then .t abab else .t (txts.getD (d / 3 % 15).toNat "")
theorem nums_ok : ∀ i ∈ nums, 0 ≤ i ∧ i < 16777216 := by decide
theorem txts_ok : ∀ s ∈ txts, s.length ≤ 40 ∧ ∀ c ∈ s.cps.toList, 32 ≤ c ∧ c ≤ 126 := by decide +kernel
theorem abab_ok : abab.length ≤ 40 ∧ ∀ c ∈ abab.cps.toList, 32 ≤ c ∧ c ≤ 126 := by decide +kernel
theorem getD_mem {α : Type} {xs : List α} {d : α} {i : Nat} (h : i < xs.length) : xs.getD i d ∈ xs := by
  rw [List.getD_eq_getElem?_getD, List.getElem?_eq_getElem h]
  exact List.getElem_mem h
theorem valOf_ok (d : Int) : vOk (valOf d) := by
  unfold valOf
  have h9 : (d / 3 % 9).toNat < 9 := by omega
  have h15 : (d / 3 % 15).toNat < 15 := by omega
  split
  · exact nums_ok _ (getD_mem h9)
  · split
    · exact abab_ok
    · exact txts_ok _ (getD_mem h15)
def keyOf (ds : List Int) : List Vl := (List.range (1 + ds.getD 0 0 % 3).toNat).map fun k => valOf (ds.getD (1 + k) 0)
theorem keyOf_ok (ds : List Int) : vsOk (keyOf ds) := fun v hv => by
  obtain ⟨k, _, rfl⟩ := List.mem_map.mp hv
  exact valOf_ok _
theorem keyOf_len (ds : List Int) : (keyOf ds).length ≤ 3 ∧ 1 ≤ (keyOf ds).length := by
  unfold keyOf
  rw [List.length_map, List.length_range]
  omega

/-! the draws -/
def drA : Nat → Int × List Int → Int × List Int
  | 0, p => p
  | n + 1, p => if 0 < (drA n p).1 then ((drA n p).1 / 1000, (drA n p).2 ++ [(drA n p).1 % 1000]) else drA n p
def drT (s : Int) (n : Nat) : Int := (s * 48271 + (n : Int) * 69621 + 7) % 2147483647
def drV (s : Int) : Int := (s * 69621 + 5) % 2147483629 % 1000
def drS (m : Nat) : Nat → Int × List Int → Int × List Int
  | 0, p => p
  | n + 1, p => (drT (drS m n p).1 n, if (drS m n p).2.length < m then (drS m n p).2 ++ [drV (drT (drS m n p).1 n)] else (drS m n p).2)
def drR (c : Int) (m : Nat) : Int × List Int := if 1000000000000000000 ≤ c then drA m (c, []) else (c, [])
def draws (c : Int) (m : Nat) : List Int := (drS m m ((c * 48271 + 11) % 2147483647, (drR c m).2)).2
theorem drA_len (p : Int × List Int) : ∀ n, (drA n p).2.length ≤ p.2.length + n := by
  intro n
  induction n with
  | zero => exact Nat.le_refl _
  | succ n ih =>
    unfold drA
    split
    · rw [List.length_append, List.length_singleton]; omega
    · omega
theorem drA_bd (p : Int × List Int) (h : ∀ x ∈ p.2, 0 ≤ x ∧ x < 1000) : ∀ n, ∀ x ∈ (drA n p).2, 0 ≤ x ∧ x < 1000 := by
  intro n
  induction n with
  | zero => exact h
  | succ n ih =>
    unfold drA
    split
    · intro x hx
      rcases List.mem_append.mp hx with hx | hx
      · exact ih x hx
      · rw [List.mem_singleton.mp hx]
        exact ⟨Int.emod_nonneg _ (by decide), Int.emod_lt_of_pos _ (by decide)⟩
    · exact ih
theorem drS_len (m : Nat) (p : Int × List Int) (hp : p.2.length ≤ m) : ∀ n, (drS m n p).2.length ≤ m ∧ (drS m n p).2.length = min m (p.2.length + n) := by
  intro n
  induction n with
  | zero => exact ⟨hp, by show p.2.length = _; omega⟩
  | succ n ih =>
    unfold drS
    split
    · simp only [List.length_append, List.length_singleton]
      omega
    · simp only []
      omega
theorem drS_bd (m : Nat) (p : Int × List Int) (h : ∀ x ∈ p.2, 0 ≤ x ∧ x < 1000) : ∀ n, ∀ x ∈ (drS m n p).2, 0 ≤ x ∧ x < 1000 := by
  intro n
  induction n with
  | zero => exact h
  | succ n ih =>
    unfold drS
    simp only []
    split
    · intro x hx
      rcases List.mem_append.mp hx with hx | hx
      · exact ih x hx
      · rw [List.mem_singleton.mp hx]
        exact ⟨Int.emod_nonneg _ (by decide), Int.emod_lt_of_pos _ (by decide)⟩
    · exact ih
theorem drR_len (c : Int) (m : Nat) : (drR c m).2.length ≤ m := by
  unfold drR
  split
  · have := drA_len (c, []) m
    simpa using this
  · exact Nat.zero_le _
theorem drR_bd (c : Int) (m : Nat) : ∀ x ∈ (drR c m).2, 0 ≤ x ∧ x < 1000 := by
  unfold drR
  split
  · exact drA_bd _ (by intro x hx; cases hx) m
  · intro x hx; cases hx
theorem draws_len (c : Int) (m : Nat) : (draws c m).length = m := by
  have := (drS_len m ((c * 48271 + 11) % 2147483647, (drR c m).2) (drR_len c m) m).2
  have h2 := drR_len c m
  unfold draws
  omega
theorem draws_bd (c : Int) (m : Nat) : ∀ x ∈ draws c m, 0 ≤ x ∧ x < 1000 := drS_bd m ((c * 48271 + 11) % 2147483647, (drR c m).2) (drR_bd c m) m
theorem rng_get {n j a : Nat} (h : (List.range n)[j]? = some a) : a = j ∧ j < n := by
  obtain ⟨h1, h2⟩ := List.getElem?_eq_some_iff.mp h
  rw [List.length_range] at h1
  rw [List.getElem_range] at h2
  exact ⟨h2.symm, h1⟩

def R_codes : List D → D → Prop := fun ds d => ∃ z : Str, z.length ≤ 40 ∧ ds = [.str z] ∧ d = .list ((cod z).map .int)
def t_codes (K : Fg) : TS := (tRet (tLc (iStr (tVar 0)) (gName 1) tYes (tCB rOrdU (tCons (tVar 1) tNil)) [1]))
theorem der_codes {P : Program} {w : World} {K : Fg} {mg : Str → Option Value} {base : Heap} (G : Gb mg) {f : Addr} (cdv : Value) (A : Around) (outer : List Env) (s : Shared) (H : Hp) (E : XK)
  (hr : Room 0 (A.deeper (envOfC "_codes" (defScope s_codes) s.heap.objs.size f cdv))) :
  PSs (cxOf CX0 P w K mg base N_codes "_codes" (defScope s_codes) f cdv A outer s H E).nox (defBody s_codes) (t_codes K) :=
  (pss_one (ps_ret (pe_lc (own := [("sign", 1)]) (g := (gName 1)) rfl sc_codes.nd (pi_str (pv 0)) (blkOk_by (own := [("sign", 1)]) (N := N_codes) (sc := defScope s_codes) (by decide +kernel)) (fun _ _ _ _ _ => (pg_name (i := 1) sc_codes.nd rfl (by first | exact Or.inl rfl | exact Or.inr rfl))) (fun _ _ _ _ _ => pts_nil) (fun _ _ _ _ _ => (pe_callB ce_ord (by rfl) G.b_ord (by decide +kernel) (pa_cons (pv 1) pa_nil))))))
/-! the program's octets -/
theorem r_codes {z : Str} (hz : z.length ≤ 40) : R_codes [.str z] (.list ((cod z).map .int)) := ⟨z, hz, rfl, rfl⟩
theorem sd_codes {K : Fg} {z : Str} (hz : z.length ≤ 40) {E : DE} (hE : E.rt (.list ((cod z).map .int))) : SD K (t_codes K) E [some (.sh (.str z)), none] := by
  unfold t_codes
  refine s_ret (ev_new (en_map (fun c : Nat => .str ⟨#[c]⟩) (fun c : Nat => .int (c : Int)) (ei_str (by walk_at "ev")) (wo_name (by decide)) ?_ rfl fun j c hj => ⟨_, gd_name, by walk_at "ev"⟩)) ?_
  · have e : z.cps.toList.length = z.length := by simp; rfl
    omega
  · unfold cod at hE
    rw [List.map_map] at hE
    exact hE

theorem ok_codes {P : Program} {w : World} {K : Fg} {mg : Str → Option Value} {base : Heap} {f : Addr} {fd : FuncData} (F : Fun K "_codes" "_codes" s_codes f fd) (G : Gb mg) : FnOk P w K mg base CX0 1 f fd ["text"] (spD K R_codes) :=
  fnD F sc_codes (fun ds d h => by obtain ⟨z, hc, rfl, rfl⟩ := h; rfl) fun cdv A outer s H E hr => ⟨_, der_codes G  cdv A outer s H E hr, fun ds d h => by obtain ⟨z, hc, rfl, rfl⟩ := h; exact sd_codes hc rfl⟩
def R_value_octets : List D → D → Prop := fun ds d => ∃ v : Vl, vOk v ∧ ds = [vE v] ∧ d = .list ((vo v).map .int)
def t_value_octets (K : Fg) : TS := (tSeq (tIfS (tTruU K (tCB (rIsi K) (tCons (tVar 0) (tCons (tC (.ty "str")) tNil)))) (tRet (tOp (rAddU K) (tOp (rAddU K) (tLst (tCons (tC (.int 2)) tNil)) (tFn K R_codes (tCons (tVar 0) tNil))) (tLst (tCons (tC (.int 0)) tNil)))) tNext)
    (tRet (tLst (tCons (tC (.int 1)) (tCons (tOp rShrU (tVar 0) (tC (.int 16))) (tCons (tOp rBandU (tOp rShrU (tVar 0) (tC (.int 8))) (tC (.int 255))) (tCons (tOp rBandU (tVar 0) (tC (.int 255))) tNil)))))))
theorem der_value_octets {P : Program} {w : World} {K : Fg} {mg : Str → Option Value} {base : Heap} (G : Gb mg) (c_codes : Cal P w K mg base "_codes" 1 R_codes) {f : Addr} (cdv : Value) (A : Around) (outer : List Env) (s : Shared) (H : Hp) (E : XK)
  (hr : Room 1 (A.deeper (envOfC "_value_octets" (defScope s_value_octets) s.heap.objs.size f cdv))) :
  PSs (cxOf CX0 P w K mg base N_value_octets "_value_octets" (defScope s_value_octets) f cdv A outer s H E).nox (defBody s_value_octets) (t_value_octets K) :=
  (pss_cons (ps_if (pt_tru (pe_callB call_isi (by rfl) G.b_isinstance (by decide +kernel) (pa_cons (pv 0) (pa_cons (pe_bltn (v := .ty "str") (by rfl) G.b_str (by decide +kernel) rfl) pa_nil)))) (pss_one (ps_ret (pe_op op_addU (pe_op op_addU (pe_lst (pa_cons (pe_gi (by rfl) G.g_TEXT) pa_nil)) (pe_fun c_codes hr (by rfl) (pa_cons (pv 0) pa_nil))) (pe_lst (pa_cons pe_int pa_nil))))) pss_nil)
    (pss_one (ps_ret (pe_lst (pa_cons (pe_gi (by rfl) G.g_NUMBER) (pa_cons (pe_op op_shrU (pv 0) pe_int) (pa_cons (pe_op op_bandU (pe_op op_shrU (pv 0) pe_int) pe_int) (pa_cons (pe_op op_bandU (pv 0) pe_int) pa_nil))))))))
theorem r_value_octets {v : Vl} (h : vOk v) : R_value_octets [vE v] (.list ((vo v).map .int)) := ⟨v, h, rfl, rfl⟩
theorem sd_value_octets {K : Fg} {v : Vl} (h : vOk v) {E : DE} (hE : E.rt (.list ((vo v).map .int))) : SD K (t_value_octets K) E [some (.sh (vE v))] := by
  unfold t_value_octets
  cases v with
  | t s =>
    refine q_when (by walk_at "et") (fun _ => s_ret (d := .list ([.int 2] ++ (cod s).map .int ++ [.int 0])) (ev_new (en_addL (ev_new (en_addL (by walk_at "ev") (ev_fn (by walk_at "ea") (r_codes h.1)) ?_)) (by walk_at "ev") ?_)) ?_) (fun hb => by cases hb)
    · have := h.1
      exact sz16 (by simp [cod_len]; omega)
    · have := h.1
      exact sz16 (by simp [cod_len]; omega)
    · have e : ([.int 2] ++ (cod s).map .int ++ [.int 0] : List D) = (vo (.t s)).map .int := by simp [vo]
      rw [e]
      exact hE
  | n i =>
    refine q_when (by walk_at "et") (fun hb => by cases hb) (fun _ => s_ret (EvD.eq (by walk_at "ev") ?_) hE)
    have h0 := h.1
    show PyData.list [.int 1, .int (i / 65536), .int (Builtin.bitAnd (i / 256) 255), .int (Builtin.bitAnd i 255)] = .list [.int 1, .int (i / 65536), .int (i / 256 % 256), .int (i % 256)]
    have e1 : Builtin.bitAnd (i / 256) 255 = i / 256 % 256 := Bits.bitAnd_mask (x := i / 256) 8 (by omega)
    have e2 : Builtin.bitAnd i 255 = i % 256 := Bits.bitAnd_mask (x := i) 8 h0
    rw [e1, e2]

theorem ok_value_octets {P : Program} {w : World} {K : Fg} {mg : Str → Option Value} {base : Heap} {f : Addr} {fd : FuncData} (F : Fun K "_value_octets" "_value_octets" s_value_octets f fd) (G : Gb mg) (c_codes : Cal P w K mg base "_codes" 1 R_codes) : FnOk P w K mg base CX0 2 f fd ["value"] (spD K R_value_octets) :=
  fnD F sc_value_octets (fun ds d h => by obtain ⟨v, hc, rfl, rfl⟩ := h; rfl) fun cdv A outer s H E hr => ⟨_, der_value_octets G c_codes cdv A outer s H E hr, fun ds d h => by obtain ⟨v, hc, rfl, rfl⟩ := h; exact sd_value_octets hc rfl⟩
def R_body : List D → D → Prop := fun ds d => ∃ vs : List Vl, ((∀ v ∈ vs, vOk v) ∧ vs.length ≤ 1000) ∧ ds = [.tuple (vs.map vE)] ∧ d = .tuple ((vos vs).map .int)
def t_body (K : Fg) : TS := (tRet (tCB (rTupU K) (tCons (tLc2 (iTup K (tVar 0)) (gName 1) tYes (iList K (tFn K R_value_octets (tCons (tVar 1) tNil))) (gName 2) tYes (tVar 2) [1, 2] [2]) tNil)))
theorem der_body {P : Program} {w : World} {K : Fg} {mg : Str → Option Value} {base : Heap} (G : Gb mg) (c_value_octets : Cal P w K mg base "_value_octets" 2 R_value_octets) {f : Addr} (cdv : Value) (A : Around) (outer : List Env) (s : Shared) (H : Hp) (E : XK)
  (hr : Room 2 (A.deeper (envOfC "body" (defScope s_body) s.heap.objs.size f cdv))) :
  PSs (cxOf CX0 P w K mg base N_body "body" (defScope s_body) f cdv A outer s H E).nox (defBody s_body) (t_body K) :=
  (pss_one (ps_ret (pe_callTy ce_tup (by rfl) G.b_tuple (by decide +kernel) (pa_cons (pe_lc2 (own := [("value", 1), ("octet", 2)]) (vs1 := [2]) (g := (gName 1)) (g1 := (gName 2)) rfl sc_body.nd (pi_tup (pv 0)) (blkOk_by (own := [("value", 1), ("octet", 2)]) (N := N_body) (sc := defScope s_body) (by decide +kernel)) (by decide) (fun _ _ _ _ _ => (pg_name (i := 1) sc_body.nd rfl (by first | exact Or.inl rfl | exact Or.inr rfl))) (fun _ _ _ _ _ => pts_nil) (fun _ _ _ _ _ => (pi_list (pe_fun c_value_octets hr (by rfl) (pa_cons (pv 1) pa_nil)))) (fun _ _ _ _ _ => (pg_name (i := 2) sc_body.nd rfl (by first | exact Or.inl rfl | exact Or.inr rfl))) (fun _ _ _ _ _ => pts_nil) (fun _ _ _ _ _ => (pv 2))) pa_nil))))
theorem r_body {vs : List Vl} (h : (∀ v ∈ vs, vOk v) ∧ vs.length ≤ 1000) : R_body [.tuple (vs.map vE)] (.tuple ((vos vs).map .int)) := ⟨vs, h, rfl, rfl⟩
theorem lcD2_all {vs : List Vl} : lcD2 (fun _ : Vl => true) vo (fun _ _ => true) (fun _ (o : Int) => PyData.int o) vs = (vos vs).map .int := by
  unfold lcD2 vos lcD
  rw [List.map_flatMap]
  congr 1
  funext v
  rw [if_pos rfl, List.filter_eq_self.mpr (by intros; rfl)]
theorem sd_body {K : Fg} {vs : List Vl} (h : (∀ v ∈ vs, vOk v) ∧ vs.length ≤ 1000) {E : DE} (hE : E.rt (.tuple ((vos vs).map .int))) : SD K (t_body K) E [some (.sh (.tuple (vs.map vE))), none, none] := by
  unfold t_body
  refine s_ret (ev_call (ea_cons (ev_new (en_lc2 vE (fun o : Int => .int o) (fun _ => true) vo (fun _ _ => true) (fun _ o => .int o) (ei_tup (by walk_at "ev")) (wo_name (by decide)) (wo_name (by decide)) rfl rfl ?_ fun j v hv => ⟨_, gd_name, rfl, et_yes, fun _ => ⟨ei_list (ev_fn (by walk_at "ea") (r_value_octets (h.1 v (List.mem_of_getElem? hv)))), fun j1 o ho => ⟨_, gd_name, et_yes, fun _ => by walk_at "ev"⟩⟩⟩)) ea_nil) rc_tupL) ?_
  · rw [lcD2_all, List.length_map]
    have := vos_len h.1
    omega
  · rw [lcD2_all]
    exact hE

theorem ok_body {P : Program} {w : World} {K : Fg} {mg : Str → Option Value} {base : Heap} {f : Addr} {fd : FuncData} (F : Fun K "body" "body" s_body f fd) (G : Gb mg) (c_value_octets : Cal P w K mg base "_value_octets" 2 R_value_octets) : FnOk P w K mg base CX0 3 f fd ["values"] (spD K R_body) :=
  fnD F sc_body (fun ds d h => by obtain ⟨vs, hc, rfl, rfl⟩ := h; rfl) fun cdv A outer s H E hr => ⟨_, der_body G c_value_octets cdv A outer s H E hr, fun ds d h => by obtain ⟨vs, hc, rfl, rfl⟩ := h; exact sd_body hc rfl⟩
def R_key_octets : List D → D → Prop := fun ds d => ∃ vs : List Vl, ((∀ v ∈ vs, vOk v) ∧ vs.length ≤ 1000) ∧ ds = [.tuple (vs.map vE)] ∧ d = .tuple ((vos vs ++ [0]).map .int)
def t_key_octets (K : Fg) : TS := (tRet (tOp (rAddU K) (tFn K R_body (tCons (tVar 0) tNil)) (tTup (tCons (tC (.int 0)) tNil))))
theorem der_key_octets {P : Program} {w : World} {K : Fg} {mg : Str → Option Value} {base : Heap} (G : Gb mg) (c_body : Cal P w K mg base "body" 3 R_body) {f : Addr} (cdv : Value) (A : Around) (outer : List Env) (s : Shared) (H : Hp) (E : XK)
  (hr : Room 3 (A.deeper (envOfC "key_octets" (defScope s_key_octets) s.heap.objs.size f cdv))) :
  PSs (cxOf CX0 P w K mg base N_key_octets "key_octets" (defScope s_key_octets) f cdv A outer s H E).nox (defBody s_key_octets) (t_key_octets K) :=
  (pss_one (ps_ret (pe_op op_addU (pe_fun c_body hr (by rfl) (pa_cons (pv 0) pa_nil)) (pe_tup (pa_cons pe_int pa_nil)))))
theorem r_key_octets {vs : List Vl} (h : (∀ v ∈ vs, vOk v) ∧ vs.length ≤ 1000) : R_key_octets [.tuple (vs.map vE)] (.tuple ((vos vs ++ [0]).map .int)) := ⟨vs, h, rfl, rfl⟩
theorem sd_key_octets {K : Fg} {vs : List Vl} (h : (∀ v ∈ vs, vOk v) ∧ vs.length ≤ 1000) {E : DE} (hE : E.rt (.tuple ((vos vs ++ [0]).map .int))) : SD K (t_key_octets K) E [some (.sh (.tuple (vs.map vE)))] := by
  unfold t_key_octets
  refine s_ret (EvD.eq (ev_op (ev_fn (by walk_at "ea") (r_body h)) (by walk_at "ev") (rd_addT ?_)) ?_) hE
  · have := vos_len h.1
    exact sz16 (by simp; omega)
  · simp

theorem ok_key_octets {P : Program} {w : World} {K : Fg} {mg : Str → Option Value} {base : Heap} {f : Addr} {fd : FuncData} (F : Fun K "key_octets" "key_octets" s_key_octets f fd) (G : Gb mg) (c_body : Cal P w K mg base "body" 3 R_body) : FnOk P w K mg base CX0 4 f fd ["key"] (spD K R_key_octets) :=
  fnD F sc_key_octets (fun ds d h => by obtain ⟨vs, hc, rfl, rfl⟩ := h; rfl) fun cdv A outer s H E hr => ⟨_, der_key_octets G c_body cdv A outer s H E hr, fun ds d h => by obtain ⟨vs, hc, rfl, rfl⟩ := h; exact sd_key_octets hc rfl⟩
def R_law_draws : List D → D → Prop := fun ds d => ∃ (c : Int) (m : Nat), m ≤ 100 ∧ ds = [.int c, .int (m : Int)] ∧ d = .list ((draws c m).map .int)
def t_law_draws (K : Fg) : TS := (tSeq (tAsg (tLst tNil) (gName 2))
    (tSeq (tAsg (tCB rInt1U (tCons (tVar 0) tNil)) (gName 3))
    (tSeq (tIfS (tTest (tOp rGeU (tVar 3) (tOp rPowU (tC (.int 10)) (tC (.int 18))))) (tFor (iRng1 (tCons (tVar 1) tNil)) (gName 5)
    (tIfS (tTest (tOp rGtU (tVar 3) (tC (.int 0)))) (tSeq (tDrop (tBM K "list" rAppend (tVar 2) (tCons (tOp rModU (tCB rInt1U (tCons (tVar 3) tNil)) (tC (.int 1000))) tNil)))
    (tAsg (tOp rDivU (tVar 3) (tC (.int 1000))) (gName 3))) tNext)) tNext)
    (tSeq (tAsg (tOp rModU (tCB rInt1U (tCons (tOp (rAddU K) (tOp rMulU (tCB rInt1U (tCons (tVar 0) tNil)) (tC (.int 48271))) (tC (.int 11))) tNil)) (tC (.int 2147483647))) (gName 4))
    (tSeq (tFor (iRng1 (tCons (tVar 1) tNil)) (gName 5)
    (tSeq (tAsg (tOp rModU (tCB rInt1U (tCons (tOp (rAddU K) (tOp (rAddU K) (tOp rMulU (tVar 4) (tC (.int 48271))) (tOp rMulU (tVar 5) (tC (.int 69621)))) (tC (.int 7))) tNil)) (tC (.int 2147483647))) (gName 4))
    (tIfS (tTest (tOp (rLtU K) (tCB (rLenU K) (tCons (tVar 2) tNil)) (tVar 1))) (tDrop (tBM K "list" rAppend (tVar 2) (tCons (tOp rModU (tCB rInt1U (tCons (tOp rModU (tCB rInt1U (tCons (tOp (rAddU K) (tOp rMulU (tVar 4) (tC (.int 69621))) (tC (.int 5))) tNil)) (tC (.int 2147483629))) tNil)) (tC (.int 1000))) tNil))) tNext)))
    (tRet (tVar 2)))))))
theorem der_law_draws {P : Program} {w : World} {K : Fg} {mg : Str → Option Value} {base : Heap} (G : Gb mg) {f : Addr} (cdv : Value) (A : Around) (outer : List Env) (s : Shared) (H : Hp) (E : XK)
  (hr : Room 0 (A.deeper (envOfC "_law_draws" (defScope s_law_draws) s.heap.objs.size f cdv))) :
  PSs (cxOf CX0 P w K mg base N_law_draws "_law_draws" (defScope s_law_draws) f cdv A outer s H E).nox (defBody s_law_draws) (t_law_draws K) :=
  (pss_cons (ps_set (i := 2) sc_law_draws.nd rfl (by first | exact Or.inl rfl | exact Or.inr rfl) (pe_lst pa_nil))
    (pss_cons (ps_set (i := 3) sc_law_draws.nd rfl (by first | exact Or.inl rfl | exact Or.inr rfl) (pe_callTy ce_int (by rfl) G.b_int (by decide +kernel) (pa_cons (pv 0) pa_nil)))
    (pss_cons (ps_if (pt_cmpR op_geU (pv 3) (pe_op op_powU pe_int pe_int) (nomark _)) (pss_one (ps_for PassesOwn.never rfl (pi_range1 (by rfl) G.b_range (pa_cons (pv 1) pa_nil)) (pg_name (i := 5) sc_law_draws.nd rfl (by first | exact Or.inl rfl | exact Or.inr rfl))
    (pss_one (ps_if (pt_cmpR op_gtU (pv 3) pe_int (nomark _)) (pss_cons (ps_expr (pe_bm PySem.F.plainAttrs_list PySem.F.slot_list_append PySem.F.type_list_append mt_append (pv 2) (pa_cons (pe_op op_modU (pe_callTy ce_int (by rfl) G.b_int (by decide +kernel) (pa_cons (pv 3) pa_nil)) pe_int) pa_nil)))
    (pss_one (ps_set (i := 3) sc_law_draws.nd rfl (by first | exact Or.inl rfl | exact Or.inr rfl) (pe_op op_divU (pv 3) pe_int)))) pss_nil)))) pss_nil)
    (pss_cons (ps_set (i := 4) sc_law_draws.nd rfl (by first | exact Or.inl rfl | exact Or.inr rfl) (pe_op op_modU (pe_callTy ce_int (by rfl) G.b_int (by decide +kernel) (pa_cons (pe_op op_addU (pe_op op_mulU (pe_callTy ce_int (by rfl) G.b_int (by decide +kernel) (pa_cons (pv 0) pa_nil)) pe_int) pe_int) pa_nil)) pe_int))
    (pss_cons (ps_for PassesOwn.never rfl (pi_range1 (by rfl) G.b_range (pa_cons (pv 1) pa_nil)) (pg_name (i := 5) sc_law_draws.nd rfl (by first | exact Or.inl rfl | exact Or.inr rfl))
    (pss_cons (ps_set (i := 4) sc_law_draws.nd rfl (by first | exact Or.inl rfl | exact Or.inr rfl) (pe_op op_modU (pe_callTy ce_int (by rfl) G.b_int (by decide +kernel) (pa_cons (pe_op op_addU (pe_op op_addU (pe_op op_mulU (pv 4) pe_int) (pe_op op_mulU (pv 5) pe_int)) pe_int) pa_nil)) pe_int))
    (pss_one (ps_if (pt_cmpR (op_ltU hr.units0) (pe_callB ce_len (by rfl) G.b_len (by decide +kernel) (pa_cons (pv 2) pa_nil)) (pv 1) (nomark _)) (pss_one (ps_expr (pe_bm PySem.F.plainAttrs_list PySem.F.slot_list_append PySem.F.type_list_append mt_append (pv 2) (pa_cons (pe_op op_modU (pe_callTy ce_int (by rfl) G.b_int (by decide +kernel) (pa_cons (pe_op op_modU (pe_callTy ce_int (by rfl) G.b_int (by decide +kernel) (pa_cons (pe_op op_addU (pe_op op_mulU (pv 4) pe_int) pe_int) pa_nil)) pe_int) pa_nil)) pe_int) pa_nil)))) pss_nil))))
    (pss_one (ps_ret (pv 2))))))))
theorem sd_draws {K : Fg} {c : Int} {m : Nat} (hm : m ≤ 100) {E : DE} (hE : E.rt (.list ((draws c m).map .int))) : SD K (t_law_draws K) E [some (.sh (.int c)), some (.sh (.int m)), none, none, none, none] := by
  unfold t_law_draws
  refine q_asgN (by walk_at "en") ?_
  refine q_asg (by walk_at "ev") ?_
  refine q_mid (fun e => ∃ r k, e = [some (.sh (.int c)), some (.sh (.int m)), some (.ol ((drR c m).2.map .int)), some (.sh (.int r)), none, k]) (s_when (by walk_at "et") (fun hb => ?_) (fun hb => ?_)) ?_
  · have hc : (1000000000000000000 : Int) ≤ c := by
      have := of_decide_eq_true hb
      exact this
    refine s_forA (fun i : Nat => .int (0 + (i : Int))) (ei_rng1 (n := (m : Int)) (by walk_at "ea") (by omega)) (fun j e => ∃ k, e = [some (.sh (.int c)), some (.sh (.int m)), some (.ol ((drA j (c, [])).2.map .int)), some (.sh (.int (drA j (c, [])).1)), none, k]) ⟨none, rfl⟩ (fun j a e hj he => ?_) (fun e he => ?_)
    · obtain ⟨rfl, hjm⟩ := rng_get hj
      obtain ⟨k, rfl⟩ := he
      refine ⟨_, gd_name, s_when (by walk_at "et") (fun hb => ?_) (fun hb => ?_)⟩
      · have h0 := of_decide_eq_true hb
        refine q_app rfl (by walk_at "ev") ?_ (s_asg (by walk_at "ev") ?_)
        · have := drA_len (c, []) a
          simp at this ⊢
          omega
        · refine ⟨some (.sh (.int (0 + (a : Int)))), ?_⟩
          show [_, _, some (Sl.ol (List.map PyData.int (drA a (c, [])).2 ++ [.int ((drA a (c, [])).1 % 1000)])), some (Sl.sh (.int ((drA a (c, [])).1 / 1000))), _, _] = _
          rw [show drA (a + 1) (c, []) = ((drA a (c, [])).1 / 1000, (drA a (c, [])).2 ++ [(drA a (c, [])).1 % 1000]) from by
            show (if _ then _ else _) = _
            rw [if_pos h0], List.map_append]
          rfl
      · have h0 := of_decide_eq_false hb
        refine ⟨some (.sh (.int (0 + (a : Int)))), ?_⟩
        show [_, _, some (Sl.ol (List.map PyData.int (drA a (c, [])).2)), some (Sl.sh (.int ((drA a (c, [])).1))), _, _] = _
        rw [show drA (a + 1) (c, []) = drA a (c, []) from by
          show (if _ then _ else _) = _
          rw [if_neg h0]]
    · obtain ⟨k, rfl⟩ := he
      refine ⟨(drA m (c, [])).1, k, ?_⟩
      unfold drR
      rw [if_pos hc, List.length_range, Int.toNat_natCast]
  · have hc : ¬ (1000000000000000000 : Int) ≤ c := of_decide_eq_false hb
    refine ⟨c, none, ?_⟩
    unfold drR
    rw [if_neg hc]
    rfl
  · rintro e ⟨r, k, rfl⟩
    refine q_asg (by walk_at "ev") ?_
    refine q_forA (fun i : Nat => .int (0 + (i : Int))) (ei_rng1 (n := (m : Int)) (by walk_at "ea") (by omega)) (fun j e => ∃ k, e = [some (.sh (.int c)), some (.sh (.int m)), some (.ol ((drS m j ((c * 48271 + 11) % 2147483647, (drR c m).2)).2.map .int)), some (.sh (.int r)), some (.sh (.int (drS m j ((c * 48271 + 11) % 2147483647, (drR c m).2)).1)), k]) ⟨k, rfl⟩ (fun j a e hj he => ?_) (fun e he => ?_)
    · obtain ⟨rfl, hjm⟩ := rng_get hj
      obtain ⟨k, rfl⟩ := he
      generalize hq : ((c * 48271 + 11) % 2147483647, (drR c m).2) = p0
      have hl : (drS m a p0).2.length ≤ m := by
        rw [← hq]
        exact (drS_len m ((c * 48271 + 11) % 2147483647, (drR c m).2) (drR_len c m) a).1
      refine ⟨_, gd_name, q_asg (by walk_at "ev") (s_when (by walk_at "et") (fun hb => ?_) (fun hb => ?_))⟩
      · have h0 := of_decide_eq_true hb
        rw [List.length_map] at h0
        refine s_app rfl (by walk_at "ev") (by rw [List.length_map]; omega) ?_
        refine ⟨some (.sh (.int (0 + (a : Int)))), ?_⟩
        have e1 : (drS m (a + 1) p0) = (drT (drS m a p0).1 a, (drS m a p0).2 ++ [drV (drT (drS m a p0).1 a)]) := by
          show (_, if _ then _ else _) = _
          rw [if_pos (by omega)]
        rw [e1]
        show [_, _, some (Sl.ol (List.map PyData.int (drS m a p0).2 ++ [_])), _, _, _] = _
        rw [List.map_append]
        simp only [drT, drV, Int.zero_add]
        rfl
      · have h0 := of_decide_eq_false hb
        rw [List.length_map] at h0
        refine ⟨some (.sh (.int (0 + (a : Int)))), ?_⟩
        have e1 : (drS m (a + 1) p0) = (drT (drS m a p0).1 a, (drS m a p0).2) := by
          show (_, if _ then _ else _) = _
          rw [if_neg (by omega)]
        rw [e1]
        simp only [drT, Int.zero_add]
        rfl
    · obtain ⟨k, rfl⟩ := he
      rw [List.length_range, Int.toNat_natCast]
      refine q_freeze (i := 2) rfl (s_ret (by walk_at "ev") ?_)
      exact hE
theorem r_draws {c : Int} {m : Nat} (h : m ≤ 100) : R_law_draws [.int c, .int (m : Int)] (.list ((draws c m).map .int)) := ⟨c, m, h, rfl, rfl⟩

theorem ok_law_draws {P : Program} {w : World} {K : Fg} {mg : Str → Option Value} {base : Heap} {f : Addr} {fd : FuncData} (F : Fun K "_law_draws" "_law_draws" s_law_draws f fd) (G : Gb mg) : FnOk P w K mg base CX0 1 f fd ["cell", "many"] (spD K R_law_draws) :=
  fnD F sc_law_draws (fun ds d h => by obtain ⟨c, m, hc, rfl, rfl⟩ := h; rfl) fun cdv A outer s H E hr => ⟨_, der_law_draws G  cdv A outer s H E hr, fun ds d h => by obtain ⟨c, m, hc, rfl, rfl⟩ := h; exact sd_draws hc rfl⟩
def R_law_value : List D → D → Prop := fun ds d => ∃ n : Int, ds = [.int n] ∧ d = vE (valOf n)
def t_law_value (K : Fg) : TS := (tSeq (tAsg (tLst (tCons (tC (.int 0)) (tCons (tC (.int 1)) (tCons (tC (.int 2)) (tCons (tC (.int 7)) (tCons (tC (.int 255)) (tCons (tC (.int 256)) (tCons (tC (.int 65535)) (tCons (tC (.int 65536)) (tCons (tC (.int 999999)) tNil)))))))))) (gName 1))
    (tSeq (tAsg (tLst (tCons (tC (.str "")) (tCons (tC (.str "a")) (tCons (tC (.str "ab")) (tCons (tC (.str "b")) (tCons (tC (.str "a b")) (tCons (tC (.str "old mill")) (tCons (tC (.str "Mill")) (tCons (tC (.str "te")) (tCons (tC (.str "tea")) (tCons (tC (.str "tea-time")) (tCons (tC (.str "x1")) (tCons (tC (.str "~")) (tCons (tC (.str " ")) (tCons (tC (.str "abc")) (tCons (tC (.str "mill weir")) tNil)))))))))))))))) (gName 2))
    (tSeq (tIfS (tTest (tOp (rEqD K) (tOp rModU (tCB rInt1U (tCons (tVar 0) tNil)) (tC (.int 3))) (tC (.int 0)))) (tRet (tOp (rIx K) (tVar 1) (tOp rModU (tOp rDivU (tCB rInt1U (tCons (tVar 0) tNil)) (tC (.int 3))) (tC (.int 9))))) tNext)
    (tSeq (tIfS (tTest (tOp (rEqD K) (tOp rModU (tCB rInt1U (tCons (tVar 0) tNil)) (tC (.int 100))) (tC (.int 98)))) (tRet (tOp rMulS (tC (.str "ab")) (tC (.int 20)))) tNext)
    (tRet (tOp (rIx K) (tVar 2) (tOp rModU (tOp rDivU (tCB rInt1U (tCons (tVar 0) tNil)) (tC (.int 3))) (tC (.int 15)))))))))
theorem der_law_value {P : Program} {w : World} {K : Fg} {mg : Str → Option Value} {base : Heap} (G : Gb mg) {f : Addr} (cdv : Value) (A : Around) (outer : List Env) (s : Shared) (H : Hp) (E : XK)
  (hr : Room 0 (A.deeper (envOfC "_law_value" (defScope s_law_value) s.heap.objs.size f cdv))) :
  PSs (cxOf CX0 P w K mg base N_law_value "_law_value" (defScope s_law_value) f cdv A outer s H E).nox (defBody s_law_value) (t_law_value K) :=
  (pss_cons (ps_set (i := 1) sc_law_value.nd rfl (by first | exact Or.inl rfl | exact Or.inr rfl) (pe_lst (pa_cons pe_int (pa_cons pe_int (pa_cons pe_int (pa_cons pe_int (pa_cons pe_int (pa_cons pe_int (pa_cons pe_int (pa_cons pe_int (pa_cons pe_int pa_nil)))))))))))
    (pss_cons (ps_set (i := 2) sc_law_value.nd rfl (by first | exact Or.inl rfl | exact Or.inr rfl) (pe_lst (pa_cons pe_str (pa_cons pe_str (pa_cons pe_str (pa_cons pe_str (pa_cons pe_str (pa_cons pe_str (pa_cons pe_str (pa_cons pe_str (pa_cons pe_str (pa_cons pe_str (pa_cons pe_str (pa_cons pe_str (pa_cons pe_str (pa_cons pe_str (pa_cons pe_str pa_nil)))))))))))))))))
    (pss_cons (ps_if (pt_cmpR (op_eqU hr) (pe_op op_modU (pe_callTy ce_int (by rfl) G.b_int (by decide +kernel) (pa_cons (pv 0) pa_nil)) pe_int) pe_int (nomark _)) (pss_one (ps_ret (pe_ix ix_seq (pv 1) (pe_op op_modU (pe_op op_divU (pe_callTy ce_int (by rfl) G.b_int (by decide +kernel) (pa_cons (pv 0) pa_nil)) pe_int) pe_int) (fun _ _ => rfl)))) pss_nil)
    (pss_cons (ps_if (pt_cmpR (op_eqU hr) (pe_op op_modU (pe_callTy ce_int (by rfl) G.b_int (by decide +kernel) (pa_cons (pv 0) pa_nil)) pe_int) pe_int (nomark _)) (pss_one (ps_ret (pe_op op_mulS pe_str pe_int))) pss_nil)
    (pss_one (ps_ret (pe_ix ix_seq (pv 2) (pe_op op_modU (pe_op op_divU (pe_callTy ce_int (by rfl) G.b_int (by decide +kernel) (pa_cons (pv 0) pa_nil)) pe_int) pe_int) (fun _ _ => rfl))))))))
theorem sd_law_value {K : Fg} {n : Int} {E : DE} (hE : E.rt (vE (valOf n))) : SD K (t_law_value K) E [some (.sh (.int n)), none, none] := by
  unfold t_law_value
  refine q_asgN (ds := nums.map .int) (by walk_at "en") (q_asgN (ds := txts.map .str) (by walk_at "en") ?_)
  have sh0 : ∀ i : Int, SeqAt.shaped (.int i) = true := fun i => (sh_int (n := 0)).ok
  refine q_when (EvT.eq (b' := decide (n % 3 = 0)) (et_test (ev_op (by walk_at "ev") (by walk_at "ev") (rd_eq (sh0 _) (sh0 _)))) eqv_int) (fun hb => ?_) (fun hb => ?_)
  · have hb := of_decide_eq_true hb
    refine s_ret (d := .int (nums.getD (n / 3 % 9).toNat 0)) (ev_ixO (xs := nums.map .int) rfl (n := n / 3 % 9) (by walk_at "ev") (at_map (by omega) (by show _ < (9 : Int); omega))) ?_
    have e : vE (valOf n) = .int (nums.getD (n / 3 % 9).toNat 0) := by unfold valOf; rw [if_pos hb]; rfl
    rw [← e]; exact hE
  · have hb := of_decide_eq_false hb
    refine q_when (EvT.eq (b' := decide (n % 100 = 98)) (et_test (ev_op (by walk_at "ev") (by walk_at "ev") (rd_eq (sh0 _) (sh0 _)))) eqv_int) (fun hc => ?_) (fun hc => ?_)
    · have hc := of_decide_eq_true hc
      refine s_ret (d := .str abab) (ev_op (by walk_at "ev") ev_int (rd_mulS (n := 20) (by decide) (by decide) (by decide) (by decide) (by decide +kernel))) ?_
      have e : vE (valOf n) = .str abab := by unfold valOf; rw [if_neg hb, if_pos hc]; rfl
      rw [← e]; exact hE
    · have hc := of_decide_eq_false hc
      refine s_ret (d := .str (txts.getD (n / 3 % 15).toNat "")) (ev_ixO (xs := txts.map .str) rfl (n := n / 3 % 15) (by walk_at "ev") (at_map (by omega) (by show _ < (15 : Int); omega))) ?_
      have e : vE (valOf n) = .str (txts.getD (n / 3 % 15).toNat "") := by unfold valOf; rw [if_neg hb, if_neg hc]; rfl
      rw [← e]; exact hE
theorem r_law_value {n : Int} : R_law_value [.int n] (vE (valOf n)) := ⟨n, rfl, rfl⟩

theorem ok_law_value {P : Program} {w : World} {K : Fg} {mg : Str → Option Value} {base : Heap} {f : Addr} {fd : FuncData} (F : Fun K "_law_value" "_law_value" s_law_value f fd) (G : Gb mg) : FnOk P w K mg base CX0 1 f fd ["draw"] (spD K R_law_value) :=
  fnD F sc_law_value (fun ds d h => by obtain ⟨n, rfl, rfl⟩ := h; rfl) fun cdv A outer s H E hr => ⟨_, der_law_value G  cdv A outer s H E hr, fun ds d h => by obtain ⟨n, rfl, rfl⟩ := h; exact sd_law_value rfl⟩
def R_law_key : List D → D → Prop := fun ds d => ∃ xs : List Int, 4 ≤ xs.length ∧ ds = [.list (xs.map .int)] ∧ d = .tuple ((keyOf xs).map vE)
def t_law_key (K : Fg) : TS := (tRet (tCB (rTupU K) (tCons (tLc (iRng1 (tCons (tOp (rAddU K) (tC (.int 1)) (tOp rModU (tCB rInt1U (tCons (tOp (rIx K) (tVar 0) (tC (.int 0))) tNil)) (tC (.int 3)))) tNil)) (gName 1) tYes (tFn K R_law_value (tCons (tOp (rIx K) (tVar 0) (tOp (rAddU K) (tC (.int 1)) (tVar 1))) tNil)) [1]) tNil)))
theorem der_law_key {P : Program} {w : World} {K : Fg} {mg : Str → Option Value} {base : Heap} (G : Gb mg) (c_law_value : Cal P w K mg base "_law_value" 1 R_law_value) {f : Addr} (cdv : Value) (A : Around) (outer : List Env) (s : Shared) (H : Hp) (E : XK)
  (hr : Room 1 (A.deeper (envOfC "_law_key" (defScope s_law_key) s.heap.objs.size f cdv))) :
  PSs (cxOf CX0 P w K mg base N_law_key "_law_key" (defScope s_law_key) f cdv A outer s H E).nox (defBody s_law_key) (t_law_key K) :=
  (pss_one (ps_ret (pe_callTy ce_tup (by rfl) G.b_tuple (by decide +kernel) (pa_cons (pe_lc (own := [("k", 1)]) (g := (gName 1)) rfl sc_law_key.nd (pi_range1 (by rfl) G.b_range (pa_cons (pe_op op_addU pe_int (pe_op op_modU (pe_callTy ce_int (by rfl) G.b_int (by decide +kernel) (pa_cons (pe_ix ix_seq (pv 0) pe_int (fun _ _ => rfl)) pa_nil)) pe_int)) pa_nil)) (blkOk_by (own := [("k", 1)]) (N := N_law_key) (sc := defScope s_law_key) (by decide +kernel)) (fun _ _ _ _ _ => (pg_name (i := 1) sc_law_key.nd rfl (by first | exact Or.inl rfl | exact Or.inr rfl))) (fun _ _ _ _ _ => pts_nil) (fun _ _ _ _ _ => (pe_fun c_law_value hr (by rfl) (pa_cons (pe_ix ix_seq (pv 0) (pe_op op_addU pe_int (pv 1)) (fun _ _ => rfl)) pa_nil)))) pa_nil))))
theorem r_law_key {ds : List Int} (h : 4 ≤ ds.length) : R_law_key [.list (ds.map .int)] (.tuple ((keyOf ds).map vE)) := ⟨ds, h, rfl, rfl⟩
theorem sd_law_key {K : Fg} {ds : List Int} (h : 4 ≤ ds.length) {E : DE} (hE : E.rt (.tuple ((keyOf ds).map vE))) : SD K (t_law_key K) E [some (.sh (.list (ds.map .int))), none] := by
  unfold t_law_key
  have e0 : atI (ds.map PyData.int) 0 = some (.int (ds.getD 0 0)) := at_map (by omega) (by omega)
  refine s_ret (ev_call (ea_cons (ev_new (en_map (fun k : Nat => .int (0 + (k : Int))) (fun k : Nat => vE (valOf (ds.getD (1 + k) 0))) (ei_rng1 (n := 1 + ds.getD 0 0 % 3) (ea_cons (ev_op ev_int (ev_op (ev_call (ea_cons (ev_op (ev_var rfl) ev_int (rd_ixL e0)) ea_nil) rc_int) ev_int (rd_modU (by decide))) rd_addI) ea_nil) (by omega)) (wo_name (by decide)) ?_ rfl fun j k hk => ⟨_, gd_name, ev_fn (ea_cons (ev_op (ev_var rfl) (ev_op ev_int (ev_var rfl) rd_addI) (rd_ixL (d := .int (ds.getD (1 + k) 0)) ?_)) ea_nil) r_law_value⟩)) ea_nil) rc_tupL) ?_
  · rw [List.length_range]; omega
  · obtain ⟨rfl, hj⟩ := rng_get hk
    have : k < 3 := by omega
    have e : (1 + (0 + (k : Int))).toNat = 1 + k := by omega
    have q : atI (ds.map PyData.int) (1 + (0 + (k : Int))) = some (.int (ds.getD (1 + (0 + (k : Int))).toNat 0)) := at_map (by omega) (by omega)
    rw [e] at q
    exact q
  · unfold keyOf at hE
    rw [List.map_map] at hE
    exact hE

theorem ok_law_key {P : Program} {w : World} {K : Fg} {mg : Str → Option Value} {base : Heap} {f : Addr} {fd : FuncData} (F : Fun K "_law_key" "_law_key" s_law_key f fd) (G : Gb mg) (c_law_value : Cal P w K mg base "_law_value" 1 R_law_value) : FnOk P w K mg base CX0 2 f fd ["draws"] (spD K R_law_key) :=
  fnD F sc_law_key (fun ds d h => by obtain ⟨xs, hc, rfl, rfl⟩ := h; rfl) fun cdv A outer s H E hr => ⟨_, der_law_key G c_law_value cdv A outer s H E hr, fun ds d h => by obtain ⟨xs, hc, rfl, rfl⟩ := h; exact sd_law_key hc rfl⟩
end My
set_option Elab.async false
set_option linter.all false
set_option maxRecDepth 100000
set_option maxHeartbeats 1000000
namespace My
open PySem L2 PySem.Spec PyProof.Rows HF
local macro_rules | `(tactic| walk_at "ev") => `(tactic| first
  | ((with_reducible show EvD _ (tVar _) _ _); exact ev_var rfl)
  | ((with_reducible show EvD _ (tC (V.int _)) _ _); exact ev_int)
  | ((with_reducible show EvD _ (tC (V.str _)) _ _); exact ev_str)
  | ((with_reducible show EvD _ (tC (V.bl _)) _ _); exact ev_bl)
  | ((with_reducible show EvD _ (tC V.non) _ _); exact ev_non)
  | ((with_reducible show EvD _ (tCB (rIsi _) _) _ _); refine' ev_isi ?isa ?ise; (case' isa => walk_at "ev"); (case' ise => first | rfl | decide +kernel))
  | ((with_reducible show EvD _ (tCB (rLenU _) (tCons (tVar _) tNil)) _ _); first | exact ev_lenO rfl | exact ev_lenK rfl)
  | ((with_reducible show EvD _ (tOp (rIx _) (tVar _) _) _ _); first | (refine' ev_ixO rfl ?iob ?ioc; (case' iob => walk_at "ev"); (case' ioc => first | walk_at "place" | skip)) | (refine' ev_ixK rfl ?ikb ?ikc; (case' ikb => walk_at "ev"); (case' ikc => first | walk_at "place" | skip)))
  | ((with_reducible show EvD _ (tCB _ _) _ _); refine' ev_call ?cba ?cbr; (case' cba => walk_at "ea"); (case' cbr => walk_at "rc"))
  | ((with_reducible show EvD _ (tFn _ _ _) _ _); refine' ev_fn ?fna ?fnr; (case' fna => walk_at "ea"); (case' fnr => first | walk_at "fn" | skip))
  | ((with_reducible show EvD _ (tTup _) _ _); refine' ev_tup ?tua ?tuz; (case' tua => walk_at "ea"); (case' tuz => first | decide | (simp only [List.length_cons, List.length_nil]; decide) | skip))
  | ((with_reducible show EvD _ (tSl _ _ _ _) _ _); first | (refine' ev_slT ?sta ?stb ?stc; (case' sta => walk_at "ev"); (case' stb => walk_at "eo"); (case' stc => walk_at "eo")) | (refine' ev_slS ?ssa ?ssz ?ssb ?ssc; (case' ssa => walk_at "ev"); (case' ssb => walk_at "eo"); (case' ssc => walk_at "eo"); (case' ssz => first | walk_at "side" | skip)) | (refine' ev_new ?slw; (case' slw => walk_at "en")))
  | ((with_reducible show EvD _ (tOp _ _ _) _ _); first | (refine' ev_op ?opa ?opb ?opr; (case' opa => walk_at "ev"); (case' opb => walk_at "ev"); (case' opr => walk_at "rd")) | (refine' ev_new ?opw; (case' opw => walk_at "en")))
  | ((with_reducible show EvD _ (tBits _) _ _); refine' ev_bits ?bti; (case' bti => walk_at "ev"))
  | ((with_reducible show EvD _ (tUn _ _) _ _); refine' ev_un ?una ?unr; (case' una => walk_at "ev"); (case' unr => walk_at "rd"))
  | ((with_reducible show EvD _ (tChain _ _ _ _ _) _ _); refine' ev_chain ?cha ?chb ?chc ?chr ?chq; (case' cha => walk_at "ev"); (case' chb => walk_at "ev"); (case' chc => (intro hc; walk_at "ev")); (case' chr => walk_at "rd"); (case' chq => (intro hc; walk_at "rd")))
  | ((with_reducible show EvD _ (tAndV _ _) _ _); refine' ev_and ?ana ?anb; (case' ana => walk_at "ev"); (case' anb => (intro hb; walk_at "ev")))
  | ((with_reducible show EvD _ (tOrV _ _) _ _); refine' ev_or ?ora ?orb; (case' ora => walk_at "ev"); (case' orb => (intro hb; walk_at "ev")))
  | ((with_reducible show EvD _ (tNotT _ _) _ _); refine' ev_notT ?noa ?noo; (case' noa => walk_at "ev"); (case' noo => first | trivial | skip))
  | ((with_reducible show EvD _ (tIf _ _ _) _ _); refine' ev_if ?ifc ?ifa ?ifb; (case' ifc => walk_at "et"); (case' ifa => (intro hc; walk_at "ev")); (case' ifb => (intro hc; walk_at "ev")))
  | (refine' ev_new ?neh; (case' neh => walk_at "en")))
local macro_rules | `(tactic| walk_at "ea") => `(tactic| first
  | ((with_reducible show EvA _ tNil _ _); exact ea_nil)
  | ((with_reducible show EvA _ (tCons _ _) _ _); refine' ea_cons ?cna ?cnt; (case' cna => walk_at "ev"); (case' cnt => walk_at "ea")))
local macro_rules | `(tactic| walk_at "eo") => `(tactic| first
  | ((with_reducible show EvO _ tNoPart _ _); exact eo_none)
  | ((with_reducible show EvO _ (tPart _) _ _); refine' eo_some ?eoa; (case' eoa => walk_at "ev")))
local macro_rules | `(tactic| walk_at "en") => `(tactic| first
  | ((with_reducible show EvN _ (tLst _) _ _); refine' en_lst ?lsa ?lsz; (case' lsa => walk_at "ea"); (case' lsz => first | decide | (simp only [List.length_cons, List.length_nil]; decide) | skip))
  | ((with_reducible show EvN _ (tCB (rLstU _) (tCons (tVar _) tNil)) _ _); exact en_lstK rfl)
  | ((with_reducible show EvN _ (tOp _ _ _) _ _); refine' en_addL ?ada ?adb ?adz; (case' ada => walk_at "ev"); (case' adb => walk_at "ev"); (case' adz => first | walk_at "side" | skip))
  | ((with_reducible show EvN _ (tSl _ _ _ _) _ _); refine' en_slL ?sla ?slb ?slc; (case' sla => walk_at "ev"); (case' slb => walk_at "eo"); (case' slc => walk_at "eo"))
  | ((with_reducible show EvN _ (tCB _ _) _ _); refine' en_call ?nca ?ncr; (case' nca => walk_at "ea"); (case' ncr => first | exact rc_lstL | exact rc_lstT | walk_at "rcn")))
local macro_rules | `(tactic| walk_at "rc") => `(tactic| first
  | exact rc_lenL
  | exact rc_lenT
  | exact rc_int
  | exact rc_intB
  | exact rc_ord
  | exact rc_tupL
  | exact rc_tupT
  | exact rc_max2
  | exact rc_min2
  | (refine' rc_lenS ?_; first | walk_at "side" | skip))
local macro_rules | `(tactic| walk_at "rd") => `(tactic| first
  | ((with_reducible show RD2 _ (rAddU _) _ _ _); first | exact rd_addI | (refine' rd_addS ?_; first | walk_at "side" | skip) | (refine' rd_addT ?_; first | walk_at "side" | skip))
  | ((with_reducible show RD2 _ rSubU _ _ _); first | exact rd_subU)
  | ((with_reducible show RD2 _ rBandU _ _ _); first | exact rd_bandU)
  | ((with_reducible show RD2 _ rBorU _ _ _); first | exact rd_borU)
  | ((with_reducible show RD2 _ rBxorU _ _ _); first | exact rd_bxorU)
  | ((with_reducible show RD2 _ (rLtU _) _ _ _); first | exact rd_ltI | exact rd_ltS | exact rd_ltT)
  | ((with_reducible show RD2 _ (rLeU _) _ _ _); first | exact rd_leI | exact rd_leS | exact rd_leT)
  | ((with_reducible show RD2 _ rGtU _ _ _); first | exact rd_gtI | exact rd_gtS)
  | ((with_reducible show RD2 _ rGeU _ _ _); first | exact rd_geI | exact rd_geS)
  | ((with_reducible show RD2 _ rIsNU _ _ _); first | exact rd_isN)
  | ((with_reducible show RD2 _ rIsNotNU _ _ _); first | exact rd_notN)
  | ((with_reducible show RD2 _ rModU _ _ _); first | (refine' rd_modU ?_; first | decide | omega | skip))
  | ((with_reducible show RD2 _ rDivU _ _ _); first | (refine' rd_divU ?_; first | exact ⟨by decide, by decide⟩ | skip))
  | ((with_reducible show RD2 _ rMulU _ _ _); first | (refine' rd_mulU ?_; first | exact Or.inr ⟨by decide, by decide⟩ | exact Or.inl ⟨by decide, by decide⟩ | skip))
  | ((with_reducible show RD2 _ rPowU _ _ _); first | (refine' rd_powU ?_; first | exact ⟨by decide, by decide, by decide⟩ | skip))
  | ((with_reducible show RD2 _ rShrU _ _ _); first | (refine' rd_shrU ?_; first | decide | omega | skip))
  | ((with_reducible show RD2 _ rShlU _ _ _); first | refine' rd_shlU ?_)
  | ((with_reducible show RD2 _ (rEqD _) _ _ _); first | (refine' rd_eq ?_ ?_; all_goals first | walk_at "sh" | skip))
  | ((with_reducible show RD2 _ (rNeD _) _ _ _); first | (refine' rd_ne ?_ ?_; all_goals first | walk_at "sh" | skip))
  | ((with_reducible show RD2 _ (rInU _) _ _ _); first | (refine' rd_inD ?_ ?_; all_goals first | walk_at "sh" | skip))
  | ((with_reducible show RD2 _ (rNotInU _) _ _ _); first | (refine' rd_notInD ?_ ?_; all_goals first | walk_at "sh" | skip))
  | ((with_reducible show RD2 _ (rIx _) _ _ _); first | (refine' rd_ixT ?_; first | walk_at "place" | skip) | (refine' rd_ixL ?_; first | walk_at "place" | skip) | (refine' rd_ixS ?_ ?_; (first | walk_at "side" | skip)))
  | ((with_reducible show RD1 _ rNegU _ _); exact rd_negU))
local macro_rules | `(tactic| walk_at "et") => `(tactic| first
  | ((with_reducible show EvT _ tYes _ _); exact et_yes)
  | ((with_reducible show EvT _ (tTest _) _ _); refine' et_test ?tea; (case' tea => walk_at "ev"))
  | ((with_reducible show EvT _ (tAnd _ _) _ _); refine' et_and ?taa ?tab; (case' taa => walk_at "et"); (case' tab => (intro hb; walk_at "et")))
  | ((with_reducible show EvT _ (tOr _ _) _ _); refine' et_or ?toa ?tob; (case' toa => walk_at "et"); (case' tob => (intro hb; walk_at "et")))
  | ((with_reducible show EvT _ (tNot _) _ _); refine' et_not ?tna; (case' tna => walk_at "et"))
  | ((with_reducible show EvT _ (tTruU _ (tVar _)) _ _); first | exact et_truO rfl | (refine' et_tru (ev_var rfl) ?tvo; first | trivial | skip))
  | ((with_reducible show EvT _ (tTruU _ _) _ _); refine' et_tru ?tra ?tro; (case' tra => walk_at "ev"); (case' tro => first | trivial | skip)))
local macro_rules | `(tactic| walk_at "side") => `(tactic| first
  | assumption | omega
  | (refine' sz16 ?_; simp [cod_len]; omega)
  | (simp [cod_len]; omega))
local macro_rules | `(tactic| walk_at "place") => `(tactic| first
  | assumption
  | exact at_nat (n := 0) rfl rfl | exact at_nat (n := 1) rfl rfl | exact at_nat (n := 2) rfl rfl)
local macro_rules | `(tactic| walk_at "sh") => `(tactic| first | exact (sh_int (n := 0)).ok | exact (sh_bool (n := 0)).ok | exact (sh_non (n := 0)).ok | (with_reducible assumption))
local macro_rules | `(tactic| walk_at "fn") => `(tactic| first | (with_reducible assumption))

/-! bits of octets -/
def octs (a : List Int) : Prop := (∀ x ∈ a, 0 ≤ x ∧ x ≤ 255) ∧ a.length ≤ 100000
def units : List Int := [128, 64, 32, 16, 8, 4, 2, 1]
def bitsOf (x : Int) : List Int := units.map fun u => x / u % 2
def bitsL (a : List Int) : List Int := a.flatMap bitsOf
/-- the first place at which both have something, and not the same -/
def fd : List Int → List Int → Option Nat
  | x :: xs, y :: ys => if x = y then (fd xs ys).map (· + 1) else some 0
  | _, _ => none
def xb (x y : Int) : Nat := Builtin.Int.intBits (Builtin.bitXor x y)
def firP : List Int → List Int → Nat → Option Int
  | x :: xs, y :: ys, p => if x = y then firP xs ys (p + 1) else some (8 * (p : Int) + 8 - (xb x y : Int))
  | _, _, _ => none
def fir (a b : List Int) : Option Int := firP a b 0
def firD : Option Int → D
  | none => .none
  | some i => .int i
theorem octs_cons {x : Int} {a : List Int} (h : octs (x :: a)) : (0 ≤ x ∧ x ≤ 255) ∧ octs a := ⟨h.1 x List.mem_cons_self, fun y hy => h.1 y (List.mem_cons_of_mem _ hy), by have := h.2; simp at this; omega⟩
theorem bitsOf_len {x : Int} : (bitsOf x).length = 8 := rfl
theorem bitsL_cons {x : Int} {a : List Int} : bitsL (x :: a) = bitsOf x ++ bitsL a := rfl
theorem bitsL_len : ∀ a : List Int, (bitsL a).length = 8 * a.length
  | [] => rfl
  | x :: a => by rw [bitsL_cons, List.length_append, bitsOf_len, bitsL_len a, List.length_cons]; omega
theorem fd_self : ∀ a : List Int, fd a a = none
  | [] => rfl
  | x :: a => by
    show (if x = x then (fd a a).map (· + 1) else _) = _
    rw [if_pos rfl, fd_self a]; rfl
theorem fd_app : ∀ {xs ys as bs : List Int}, xs.length = ys.length → fd (xs ++ as) (ys ++ bs) = (match fd xs ys with
    | some k => some k
    | none => (fd as bs).map (· + xs.length))
  | [], [], as, bs, _ => by
    show fd as bs = (fd as bs).map (· + 0)
    cases fd as bs <;> rfl
  | x :: xs, y :: ys, as, bs, h => by
    have ih := @fd_app xs ys as bs (by simpa using h)
    show (if x = y then (fd (xs ++ as) (ys ++ bs)).map (· + 1) else some 0) = (match (if x = y then (fd xs ys).map (· + 1) else some 0) with
      | some k => some k
      | none => (fd as bs).map (· + (xs.length + 1)))
    by_cases e : x = y
    · rw [if_pos e, if_pos e, ih]
      cases fd xs ys with
      | some k => rfl
      | none => cases fd as bs <;> simp; omega
    · rw [if_neg e, if_neg e]
  | [], _ :: _, _, _, h => by simp at h
  | _ :: _, [], _, _, h => by simp at h
theorem fd_same {f g h k : Int → Int} : ∀ {us : List Int}, (∀ u ∈ us, f u = g u ↔ h u = k u) → fd (us.map f) (us.map g) = fd (us.map h) (us.map k)
  | [], _ => rfl
  | u :: us, e => by
    have ih := @fd_same f g h k us fun v hv => e v (List.mem_cons_of_mem _ hv)
    show (if f u = g u then (fd (us.map f) (us.map g)).map (· + 1) else some 0) = (if h u = k u then (fd (us.map h) (us.map k)).map (· + 1) else some 0)
    have eu := e u List.mem_cons_self
    by_cases c : f u = g u
    · rw [if_pos c, if_pos (eu.mp c), ih]
    · rw [if_neg c, if_neg fun z => c (eu.mpr z)]
theorem bit_eq (n m k : Nat) : n / 2 ^ k % 2 = m / 2 ^ k % 2 ↔ (n ^^^ m) / 2 ^ k % 2 = 0 := by
  have h := Nat.testBit_xor n m k
  rw [Nat.testBit_eq_decide_div_mod_eq, Nat.testBit_eq_decide_div_mod_eq, Nat.testBit_eq_decide_div_mod_eq] at h
  have a := Nat.mod_lt (n / 2 ^ k) (show 2 > 0 by decide)
  have b := Nat.mod_lt (m / 2 ^ k) (show 2 > 0 by decide)
  have c := Nat.mod_lt ((n ^^^ m) / 2 ^ k) (show 2 > 0 by decide)
  generalize n / 2 ^ k % 2 = p at *
  generalize m / 2 ^ k % 2 = q at *
  generalize (n ^^^ m) / 2 ^ k % 2 = r at *
  have hp : p = 0 ∨ p = 1 := by omega
  have hq : q = 0 ∨ q = 1 := by omega
  have hr : r = 0 ∨ r = 1 := by omega
  rcases hp with rfl | rfl <;> rcases hq with rfl | rfl <;> rcases hr with rfl | rfl <;> simp_all
theorem bit_int {n m z u : Nat} (b : n / u % 2 = m / u % 2 ↔ z / u % 2 = 0) : ((n : Int) / (u : Int) % 2 = (m : Int) / (u : Int) % 2 ↔ (z : Int) / (u : Int) % 2 = 0 / (u : Int) % 2) := by
  rw [Int.zero_ediv]
  have e1 : (n : Int) / (u : Int) % 2 = ((n / u % 2 : Nat) : Int) := by push_cast; rfl
  have e2 : (m : Int) / (u : Int) % 2 = ((m / u % 2 : Nat) : Int) := by push_cast; rfl
  have e3 : (z : Int) / (u : Int) % 2 = ((z / u % 2 : Nat) : Int) := by push_cast; rfl
  rw [e1, e2, e3]
  generalize n / u % 2 = p at *
  generalize m / u % 2 = q at *
  generalize z / u % 2 = r at *
  constructor
  · intro h
    have := b.mp (by omega)
    omega
  · intro h
    have := b.mpr (by omega)
    omega
theorem fz : ∀ z : Fin 256, z.val ≠ 0 → fd (bitsOf (z.val : Int)) (bitsOf 0) = some (8 - (z.val.log2 + 1)) ∧ z.val.log2 + 1 ≤ 8 := by decide +kernel
theorem fd_bits {x y : Int} (hx : 0 ≤ x ∧ x ≤ 255) (hy : 0 ≤ y ∧ y ≤ 255) (h : x ≠ y) : fd (bitsOf x) (bitsOf y) = some (8 - xb x y) ∧ xb x y ≤ 8 := by
  obtain ⟨n, rfl⟩ := Int.eq_ofNat_of_zero_le hx.1
  obtain ⟨m, rfl⟩ := Int.eq_ofNat_of_zero_le hy.1
  have hn : n < 256 := by omega
  have hm : m < 256 := by omega
  have hz : n ^^^ m < 256 := Nat.xor_lt_two_pow (n := 8) hn hm
  have hz0 : n ^^^ m ≠ 0 := fun e => h (by
    have q : n = m := Nat.eq_of_testBit_eq fun i => by
      have := Nat.testBit_xor n m i
      rw [e, Nat.zero_testBit] at this
      cases a : n.testBit i <;> cases b : m.testBit i <;> simp_all
    rw [q])
  have e1 : fd (bitsOf (n : Int)) (bitsOf (m : Int)) = fd (bitsOf ((n ^^^ m : Nat) : Int)) (bitsOf 0) := by
    refine fd_same fun u hu => ?_
    unfold units at hu
    simp only [List.mem_cons, List.not_mem_nil, or_false] at hu
    rcases hu with rfl | rfl | rfl | rfl | rfl | rfl | rfl | rfl
    · exact bit_int (bit_eq n m 7)
    · exact bit_int (bit_eq n m 6)
    · exact bit_int (bit_eq n m 5)
    · exact bit_int (bit_eq n m 4)
    · exact bit_int (bit_eq n m 3)
    · exact bit_int (bit_eq n m 2)
    · exact bit_int (bit_eq n m 1)
    · exact bit_int (bit_eq n m 0)
  have e2 : xb (n : Int) (m : Int) = (n ^^^ m).log2 + 1 := by
    unfold xb
    rw [Bits.bitXor_pp hx.1 hy.1]
    unfold Builtin.Int.intBits
    rw [if_neg (by simpa using hz0)]
    rfl
  obtain ⟨e3, e4⟩ := fz ⟨n ^^^ m, hz⟩ hz0
  rw [e1, e2]
  exact ⟨e3, e4⟩
/-- the place of the first bit, as the program has it -/
theorem fir_bits : ∀ {a b : List Int} {p : Nat}, octs a → octs b → firP a b p = (fd (bitsL a) (bitsL b)).map fun k : Nat => 8 * (p : Int) + (k : Int)
  | [], _, _, _, _ => by cases ‹List Int› <;> rfl
  | x :: a, [], _, _, _ => by
    show none = (fd (bitsL (x :: a)) []).map _
    have : fd (bitsL (x :: a)) [] = none := by rw [bitsL_cons]; rfl
    rw [this]; rfl
  | x :: a, y :: b, p, ha, hb => by
    obtain ⟨hx, ha'⟩ := octs_cons ha
    obtain ⟨hy, hb'⟩ := octs_cons hb
    rw [bitsL_cons, bitsL_cons, fd_app (show (bitsOf x).length = (bitsOf y).length from rfl)]
    show (if x = y then firP a b (p + 1) else some (8 * (p : Int) + 8 - (xb x y : Int))) = _
    by_cases e : x = y
    · subst e
      rw [if_pos rfl, fd_self, fir_bits ha' hb', bitsOf_len]
      cases fd (bitsL a) (bitsL b) with
      | none => rfl
      | some k =>
        show some _ = some _
        congr 1
        push_cast
        omega
    · obtain ⟨e1, e2⟩ := fd_bits hx hy e
      rw [if_neg e, e1]
      show some _ = some (8 * (p : Int) + ((8 - xb x y : Nat) : Int))
      congr 1
      omega
/-- a bit by its number -/
theorem bitsL_get : ∀ (a : List Int) (n : Nat), (bitsL a)[n]? = (a[n / 8]?).map fun x => x / 2 ^ (7 - n % 8) % 2
  | [], n => rfl
  | x :: a, n => by
    rw [bitsL_cons]
    by_cases h : n < 8
    · rw [List.getElem?_append_left (by rw [bitsOf_len]; exact h)]
      have e : n / 8 = 0 := by omega
      rw [e]
      have hn : n = 0 ∨ n = 1 ∨ n = 2 ∨ n = 3 ∨ n = 4 ∨ n = 5 ∨ n = 6 ∨ n = 7 := by omega
      rcases hn with rfl | rfl | rfl | rfl | rfl | rfl | rfl | rfl <;> rfl
    · rw [List.getElem?_append_right (by rw [bitsOf_len]; omega), bitsL_get a, bitsOf_len]
      have e1 : n / 8 = (n - 8) / 8 + 1 := by omega
      have e2 : (n - 8) % 8 = n % 8 := by omega
      rw [e1, e2, List.getElem?_cons_succ]
def hasB (a : List Int) (n : Nat) : Bool := decide ((bitsL a)[n]? = some 1)
theorem fd_some : ∀ {a b : List Int} {k : Nat}, fd a b = some k → ∃ u v, a[k]? = some u ∧ b[k]? = some v ∧ u ≠ v
  | x :: a, y :: b, k, h => by
    have h : (if x = y then (fd a b).map (· + 1) else some 0) = some k := h
    by_cases e : x = y
    · rw [if_pos e] at h
      cases q : fd a b with
      | none => rw [q] at h; cases h
      | some j =>
        rw [q] at h
        cases h
        obtain ⟨u, v, e1, e2, ne⟩ := fd_some q
        exact ⟨u, v, by rw [List.getElem?_cons_succ]; exact e1, by rw [List.getElem?_cons_succ]; exact e2, ne⟩
    · rw [if_neg e] at h
      cases h
      exact ⟨x, y, rfl, rfl, e⟩
  | [], _, _, h => by cases ‹List Int› <;> cases h
  | _ :: _, [], _, h => by cases h
theorem fd_none : ∀ {a b : List Int}, fd a b = none → ∃ c, a = b ++ c ∨ b = a ++ c
  | [], b, _ => ⟨b, .inr rfl⟩
  | x :: a, [], _ => ⟨x :: a, .inl rfl⟩
  | x :: a, y :: b, h => by
    have h : (if x = y then (fd a b).map (· + 1) else some 0) = none := h
    by_cases e : x = y
    · rw [if_pos e] at h
      obtain ⟨c, q | q⟩ := fd_none (a := a) (b := b) (by cases q : fd a b <;> simp_all)
      · exact ⟨c, .inl (by rw [e, q]; rfl)⟩
      · exact ⟨c, .inr (by rw [e, q]; rfl)⟩
    · rw [if_neg e] at h; cases h
theorem bits_none : ∀ {a b : List Int}, octs a → octs b → fd (bitsL a) (bitsL b) = none → fd a b = none
  | [], b, _, _, _ => by cases b <;> rfl
  | _ :: _, [], _, _, _ => rfl
  | x :: a, y :: b, ha, hb, h => by
    obtain ⟨hx, ha'⟩ := octs_cons ha
    obtain ⟨hy, hb'⟩ := octs_cons hb
    rw [bitsL_cons, bitsL_cons, fd_app (show (bitsOf x).length = (bitsOf y).length from rfl)] at h
    show (if x = y then (fd a b).map (· + 1) else some 0) = _
    by_cases e : x = y
    · subst e
      rw [fd_self] at h
      rw [if_pos rfl, bits_none ha' hb' (by cases q : fd (bitsL a) (bitsL b) <;> simp_all)]
      rfl
    · rw [(fd_bits hx hy e).1] at h
      cases h
theorem fd_lt {x y : Int} {k : Nat} (hx : 0 ≤ x ∧ x ≤ 255) (hy : 0 ≤ y ∧ y ≤ 255) (h : fd (bitsOf x) (bitsOf y) = some k) : (bitsOf y)[k]? = some 1 ↔ x < y := by
  unfold bitsOf units at h ⊢
  simp only [List.map_cons, List.map_nil, fd] at h ⊢
  repeat' split at h
  all_goals (simp only [Option.map_some, Option.map_none, Option.some.injEq, Nat.zero_add, Nat.reduceAdd, reduceCtorEq] at h)
  all_goals (subst h)
  all_goals (simp only [List.getElem?_cons_succ, List.getElem?_cons_zero, Option.some.injEq])
  all_goals omega
theorem lex_bits : ∀ {a b : List Int} {k : Nat}, octs a → octs b → fd (bitsL a) (bitsL b) = some k → HT.lexLt a b = hasB b k
  | [], b, _, _, _, h => by cases b <;> cases h
  | x :: a, [], _, _, _, h => by rw [bitsL_cons] at h; cases h
  | x :: a, y :: b, k, ha, hb, h => by
    obtain ⟨hx, ha'⟩ := octs_cons ha
    obtain ⟨hy, hb'⟩ := octs_cons hb
    rw [bitsL_cons, bitsL_cons, fd_app (show (bitsOf x).length = (bitsOf y).length from rfl)] at h
    show (if x = y then HT.lexLt a b else decide (x < y)) = _
    by_cases e : x = y
    · subst e
      rw [fd_self] at h
      cases q : fd (bitsL a) (bitsL b) with
      | none => rw [q] at h; cases h
      | some j =>
        rw [q] at h
        cases h
        rw [if_pos rfl, lex_bits ha' hb' q]
        unfold hasB
        show _ = decide ((bitsL (x :: b))[j + 8]? = some 1)
        rw [bitsL_cons, List.getElem?_append_right (by rw [bitsOf_len]; omega), bitsOf_len]
        rw [Nat.add_sub_cancel]
    · obtain ⟨e1, _⟩ := fd_bits hx hy e
      rw [e1] at h
      cases h
      rw [if_neg e]
      unfold hasB
      rw [bitsL_cons]
      have hl : 8 - xb x y < 8 := by
        obtain ⟨u, v, q, _⟩ := fd_some e1
        have := (List.getElem?_eq_some_iff.mp q).1
        exact this
      rw [List.getElem?_append_left (by rw [bitsOf_len]; exact hl)]
      exact decide_eq_decide.mpr (fd_lt hx hy e1).symm
theorem bitsL_01 {a : List Int} {n : Nat} {u : Int} (h : (bitsL a)[n]? = some u) : u = 0 ∨ u = 1 := by
  rw [bitsL_get] at h
  cases e : a[n / 8]? with
  | none => rw [e] at h; cases h
  | some x =>
    rw [e] at h
    have h : x / 2 ^ (7 - n % 8) % 2 = u := Option.some.inj h
    omega
theorem bits_differ {a b : List Int} {k : Nat} (h : fd (bitsL a) (bitsL b) = some k) : hasB a k = !hasB b k := by
  obtain ⟨u, v, e1, e2, ne⟩ := fd_some h
  unfold hasB
  rw [e1, e2]
  rcases bitsL_01 e1 with rfl | rfl <;> rcases bitsL_01 e2 with rfl | rfl <;> simp_all
/-- the first of the places at which they are apart -/
theorem apart_head : ∀ (xs ys : List Int), ((List.range (min xs.length ys.length)).filter fun k => decide (xs.getD k 0 ≠ ys.getD k 0)).head? = fd xs ys
  | [], ys => by cases ys <;> simp [fd]
  | x :: xs, [] => by simp [fd]
  | x :: xs, y :: ys => by
    have ih := apart_head xs ys
    have e : min (x :: xs).length (y :: ys).length = min xs.length ys.length + 1 := by simp [Nat.succ_min_succ]
    rw [e, List.range_succ_eq_map, List.filter_cons]
    show _ = (if x = y then (fd xs ys).map (· + 1) else some 0)
    by_cases c : x = y
    · rw [if_neg (by simp [c]), if_pos c, ← ih, List.filter_map, List.head?_map]
      rfl
    · rw [if_pos (by simpa using c), if_neg c]
      rfl
theorem vo_oct {v : Vl} (h : vOk v) : ∀ x ∈ vo v, 0 ≤ x ∧ x ≤ 255 := fun x hx => by
  cases v with
  | n i =>
    have h0 := h.1
    have h1 := h.2
    have hx : x ∈ [1, i / 65536, i / 256 % 256, i % 256] := hx
    simp only [List.mem_cons, List.not_mem_nil, or_false] at hx
    omega
  | t s =>
    have hx : x ∈ 2 :: (cod s ++ [0]) := hx
    simp only [List.mem_cons, List.mem_append, List.not_mem_nil, or_false] at hx
    rcases hx with rfl | hx | rfl
    · decide
    · have := cod_pos h x hx
      omega
    · decide
theorem key_octs {vs : List Vl} (h : vsOk vs) (hl : vs.length ≤ 1000) : octs (vos vs ++ [0]) := by
  refine ⟨fun x hx => ?_, ?_⟩
  · rcases List.mem_append.mp hx with hx | hx
    · obtain ⟨v, hv, hx⟩ := List.mem_flatMap.mp hx
      exact vo_oct (h v hv) x hx
    · rw [List.mem_singleton.mp hx]; decide
  · have := vos_len h
    rw [List.length_append, List.length_singleton]
    omega
theorem key_free {ks vs : List Vl} {c : List Int} (hk : vsOk ks) (hv : vsOk vs) (h : vos ks ++ [0] = (vos vs ++ [0]) ++ c) : ks = vs := by
  rw [List.append_assoc] at h
  obtain ⟨rest, e1, e2⟩ := vos_pre hv hk h
  cases rest with
  | nil => rw [e1, List.append_nil]
  | cons v rest =>
    obtain ⟨a, r, e, ha⟩ := vo_head (v := v)
    have e2 : (0 : Int) :: c = (vo v ++ vos rest) ++ [0] := e2
    rw [e] at e2
    have := (List.cons.inj e2).1
    omega
theorem keys_same {ks vs : List Vl} (hk : vsOk ks) (hv : vsOk vs) (hl : ks.length ≤ 1000) (hl2 : vs.length ≤ 1000) : fd (bitsL (vos ks ++ [0])) (bitsL (vos vs ++ [0])) = none ↔ vos ks ++ [0] = vos vs ++ [0] := by
  constructor
  · intro h
    obtain ⟨c, q | q⟩ := fd_none (bits_none (key_octs hk hl) (key_octs hv hl2) h)
    · rw [key_free hk hv q]
    · rw [key_free hv hk q]
  · intro h
    rw [h, fd_self]

def R_first_bit : List D → D → Prop := fun ds d => ∃ (a b : List Int), (octs a ∧ octs b) ∧ ds = [.tuple (a.map .int), .tuple (b.map .int)] ∧ d = firD (fir a b)
def t_first_bit (K : Fg) : TS := (tSeq (tFor (iEz K (tCons (tVar 0) (tCons (tVar 1) tNil))) (gTup K 2 (gCons (gName 2) (gCons (gTup K 2 (gCons (gName 3) (gCons (gName 4) gNil))) gNil)))
    (tIfS (tTest (tOp (rNeD K) (tVar 3) (tVar 4))) (tRet (tOp rSubU (tOp (rAddU K) (tOp rMulU (tC (.int 8)) (tVar 2)) (tC (.int 8))) (tBits (tOp rBxorU (tVar 3) (tVar 4))))) tNext))
    (tRet (tC .non)))
theorem der_first_bit {P : Program} {w : World} {K : Fg} {mg : Str → Option Value} {base : Heap} (G : Gb mg) {f : Addr} (cdv : Value) (A : Around) (outer : List Env) (s : Shared) (H : Hp) (E : XK)
  (hr : Room 0 (A.deeper (envOfC "first_bit" (defScope s_first_bit) s.heap.objs.size f cdv))) :
  PSs (cxOf CX0 P w K mg base N_first_bit "first_bit" (defScope s_first_bit) f cdv A outer s H E).nox (defBody s_first_bit) (t_first_bit K) :=
  (pss_cons (ps_for PassesOwn.never rfl (pi_ez (by rfl) G.b_enumerate (by rfl) G.b_zip (pa_cons (pv 0) (pa_cons (pv 1) pa_nil))) (pg_tup rfl (pgs_cons (pg_name (i := 2) sc_first_bit.nd rfl (by first | exact Or.inl rfl | exact Or.inr rfl)) (pgs_cons (pg_tup rfl (pgs_cons (pg_name (i := 3) sc_first_bit.nd rfl (by first | exact Or.inl rfl | exact Or.inr rfl)) (pgs_cons (pg_name (i := 4) sc_first_bit.nd rfl (by first | exact Or.inl rfl | exact Or.inr rfl)) pgs_nil))) pgs_nil)))
    (pss_one (ps_if (pt_cmpR (op_neU hr) (pv 3) (pv 4) (nomark _)) (pss_one (ps_ret (pe_op op_subU (pe_op op_addU (pe_op op_mulU pe_int (pv 2)) pe_int) (pe_bits (pe_op op_bxorU (pv 3) (pv 4)))))) pss_nil)))
    (pss_one (ps_ret pe_non)))
def ezE (p : (Int × Int) × Nat) : D := .tuple [.int (p.2 : Int), .tuple [.int p.1.1, .int p.1.2]]
theorem sd_first_bit {K : Fg} {a b : List Int} (h : octs a ∧ octs b) {E : DE} (hE : E.rt (firD (fir a b))) : SD K (t_first_bit K) E [some (.sh (.tuple (a.map .int))), some (.sh (.tuple (b.map .int))), none, none, none] := by
  unfold t_first_bit
  refine q_forA (as := (a.zip b).zipIdx) ezE ((ei_ez (by walk_at "ea")).eq (by rw [pairsD_map, enumD_map]; rfl)) (fun j e => Weak e [some (.sh (.tuple (a.map .int))), some (.sh (.tuple (b.map .int))), none, none, none] ∧ firP (a.drop j) (b.drop j) j = fir a b) ⟨Weak.refl _, rfl⟩ (fun j p e hj hp => ?_) (fun e hp => s_forget hp.1 (s_ret ev_non ?_))
  · obtain ⟨hw, hf⟩ := hp
    rw [List.getElem?_zipIdx] at hj
    cases hz : (a.zip b)[j]? with
    | none => rw [hz] at hj; cases hj
    | some q =>
      rw [hz] at hj
      cases hj
      obtain ⟨x, y⟩ := q
      obtain ⟨hx, hy⟩ := List.getElem?_zip_eq_some.mp hz
      have xa := List.drop_eq_getElem_cons (List.getElem?_eq_some_iff.mp hx).1
      have ya := List.drop_eq_getElem_cons (List.getElem?_eq_some_iff.mp hy).1
      rw [(List.getElem?_eq_some_iff.mp hx).2] at xa
      rw [(List.getElem?_eq_some_iff.mp hy).2] at ya
      rw [xa, ya] at hf
      have hf : (if x = y then firP (a.drop (j + 1)) (b.drop (j + 1)) (j + 1) else some (8 * (j : Int) + 8 - (xb x y : Int))) = fir a b := hf
      refine ⟨_, gd_weak hw (gd_tup (gds_cons gd_name (gds_cons (gd_tup (gds_cons gd_name (gds_cons gd_name gds_nil)) rfl) gds_nil)) rfl), ?_⟩
      refine s_when (b := decide (x ≠ y)) (EvT.eq (et_test (ev_op (ev_var rfl) (ev_var rfl) (rd_ne (by walk_at "sh") (by walk_at "sh")))) (by rw [eqv_int]; simp)) (fun hb => ?_) (fun hb => ?_)
      · have ne : x ≠ y := of_decide_eq_true hb
        rw [if_neg ne] at hf
        refine s_ret (d := firD (fir a b)) (EvD.eq (by walk_at "ev") ?_) hE
        rw [← hf]
        show PyData.int _ = PyData.int _
        congr 1
        unfold xb
        simp
      · have e : x = y := by simpa using of_decide_eq_false hb
        rw [if_pos e] at hf
        exact ⟨⟨.inr rfl, .inr rfl, .inl rfl, .inl rfl, .inl rfl, trivial⟩, by simpa using hf⟩
  · have e : fir a b = none := by
      rw [← hp.2]
      have hl : ((a.zip b).zipIdx).length = min a.length b.length := by simp
      rw [hl]
      by_cases c : a.length ≤ b.length
      · rw [Nat.min_eq_left c, List.drop_length]
        cases b.drop a.length <;> rfl
      · rw [Nat.min_eq_right (by omega), List.drop_length]
        cases a.drop b.length <;> rfl
    rw [e] at hE
    exact hE
theorem r_first_bit {a b : List Int} (h : octs a ∧ octs b) : R_first_bit [.tuple (a.map .int), .tuple (b.map .int)] (firD (fir a b)) := ⟨a, b, h, rfl, rfl⟩

theorem ok_first_bit {P : Program} {w : World} {K : Fg} {mg : Str → Option Value} {base : Heap} {f : Addr} {fd : FuncData} (F : Fun K "first_bit" "first_bit" s_first_bit f fd) (G : Gb mg) : FnOk P w K mg base CX0 1 f fd ["one", "other"] (spD K R_first_bit) :=
  fnD F sc_first_bit (fun ds d h => by obtain ⟨a, b, hc, rfl, rfl⟩ := h; rfl) fun cdv A outer s H E hr => ⟨_, der_first_bit G  cdv A outer s H E hr, fun ds d h => by obtain ⟨a, b, hc, rfl, rfl⟩ := h; exact sd_first_bit hc rfl⟩
def R_has_bit : List D → D → Prop := fun ds d => ∃ (a : List Int) (n : Nat), octs a ∧ ds = [.tuple (a.map .int), .int (n : Int)] ∧ d = .bool (hasB a n)
def t_has_bit (K : Fg) : TS := (tSeq (tAsg (tOp rDivU (tVar 1) (tC (.int 8))) (gName 2))
    (tRet (tAndV (tOp (rLtU K) (tVar 2) (tCB (rLenU K) (tCons (tVar 0) tNil))) (tOp (rEqD K) (tOp rBandU (tOp rShrU (tOp (rIx K) (tVar 0) (tVar 2)) (tOp rSubU (tC (.int 7)) (tOp rModU (tVar 1) (tC (.int 8))))) (tC (.int 1))) (tC (.int 1))))))
theorem der_has_bit {P : Program} {w : World} {K : Fg} {mg : Str → Option Value} {base : Heap} (G : Gb mg) {f : Addr} (cdv : Value) (A : Around) (outer : List Env) (s : Shared) (H : Hp) (E : XK)
  (hr : Room 0 (A.deeper (envOfC "has_bit" (defScope s_has_bit) s.heap.objs.size f cdv))) :
  PSs (cxOf CX0 P w K mg base N_has_bit "has_bit" (defScope s_has_bit) f cdv A outer s H E).nox (defBody s_has_bit) (t_has_bit K) :=
  (pss_cons (ps_set (i := 2) sc_has_bit.nd rfl (by first | exact Or.inl rfl | exact Or.inr rfl) (pe_op op_divU (pv 1) pe_int))
    (pss_one (ps_ret (pe_and (pe_cmpR (op_ltU hr.units0) (pv 2) (pe_callB ce_len (by rfl) G.b_len (by decide +kernel) (pa_cons (pv 0) pa_nil)) (nomark _)) (pe_one (pe_cmpR (op_eqU hr) (pe_op op_bandU (pe_op op_shrU (pe_ix ix_seq (pv 0) (pv 2) (fun _ _ => rfl)) (pe_op op_subU pe_int (pe_op op_modU (pv 1) pe_int))) pe_int) pe_int (nomark _)))))))
theorem hasB_out {a : List Int} {n : Nat} (h : ¬ n / 8 < a.length) : hasB a n = false := by
  unfold hasB
  rw [bitsL_get, List.getElem?_eq_none (by omega)]
  rfl
theorem hasB_in {a : List Int} {n : Nat} {x : Int} (h : a[n / 8]? = some x) : hasB a n = decide (x / 2 ^ (7 - n % 8) % 2 = 1) := by
  unfold hasB
  rw [bitsL_get, h]
  simp
theorem sd_has_bit {K : Fg} {a : List Int} {n : Nat} (h : octs a) {E : DE} (hE : E.rt (.bool (hasB a n))) : SD K (t_has_bit K) E [some (.sh (.tuple (a.map .int))), some (.sh (.int (n : Int))), none] := by
  unfold t_has_bit
  refine q_asg (d := .int ((n / 8 : Nat) : Int)) (EvD.eq (ev_op (ev_var rfl) ev_int (rd_divU ⟨by decide, by decide⟩)) (by push_cast; rfl)) ?_
  by_cases hm : n / 8 < a.length
  · have hx : a[n / 8]? = some a[n / 8] := List.getElem?_eq_getElem hm
    have h0 : 0 ≤ a[n / 8] := (h.1 _ (List.getElem_mem hm)).1
    generalize a[n / 8] = x at hx h0
    have hat : atI (a.map PyData.int) ((n / 8 : Nat) : Int) = some (.int x) := at_nat rfl (by rw [List.getElem?_map, hx]; rfl)
    rw [hasB_in hx] at hE
    refine s_ret (d := .bool (true && decide (x / 2 ^ (7 - n % 8) % 2 = 1))) (ev_and (EvD.eq (ev_op (ev_var rfl) (ev_call (ea_cons (ev_var rfl) ea_nil) rc_lenT) rd_ltI) ?_) fun _ => EvD.eq (ev_op (ev_op (ev_op (ev_op (ev_var rfl) (ev_var rfl) (rd_ixT hat)) (ev_op ev_int (ev_op (ev_var rfl) ev_int (rd_modU (by decide))) rd_subU) (rd_shrU (by omega))) ev_int rd_bandU) ev_int (rd_eq (by walk_at "sh") (by walk_at "sh"))) ?_) hE
    · rw [List.length_map, decide_eq_true (by omega)]
    · have e1 : ((7 : Int) - (n : Int) % 8).toNat = 7 - n % 8 := by omega
      have e2 : Builtin.bitAnd (x / 2 ^ (7 - n % 8)) 1 = x / 2 ^ (7 - n % 8) % 2 := Bits.bitAnd_mask (x := x / 2 ^ (7 - n % 8)) 1 (Int.ediv_nonneg h0 (by exact Int.le_of_lt (Int.pow_pos (by decide))))
      rw [e1, e2, eqv_int]
  · rw [hasB_out hm] at hE
    refine s_ret (d := .bool (false && false)) (ev_and (b := false) (EvD.eq (ev_op (ev_var rfl) (ev_call (ea_cons (ev_var rfl) ea_nil) rc_lenT) rd_ltI) ?_) fun hb => by cases hb) hE
    rw [List.length_map, decide_eq_false (by omega)]
theorem r_has_bit {a : List Int} {n : Nat} (h : octs a) : R_has_bit [.tuple (a.map .int), .int (n : Int)] (.bool (hasB a n)) := ⟨a, n, h, rfl, rfl⟩

theorem ok_has_bit {P : Program} {w : World} {K : Fg} {mg : Str → Option Value} {base : Heap} {f : Addr} {fd : FuncData} (F : Fun K "has_bit" "has_bit" s_has_bit f fd) (G : Gb mg) : FnOk P w K mg base CX0 1 f fd ["octets", "number"] (spD K R_has_bit) :=
  fnD F sc_has_bit (fun ds d h => by obtain ⟨a, n, hc, rfl, rfl⟩ := h; rfl) fun cdv A outer s H E hr => ⟨_, der_has_bit G  cdv A outer s H E hr, fun ds d h => by obtain ⟨a, n, hc, rfl, rfl⟩ := h; exact sd_has_bit hc rfl⟩
def R_law_bits : List D → D → Prop := fun ds d => ∃ a : List Int, octs a ∧ ds = [.tuple (a.map .int)] ∧ d = .list ((bitsL a).map .int)
def t_law_bits (K : Fg) : TS := (tSeq (tAsg (tLst tNil) (gName 1))
    (tSeq (tFor (iTup K (tVar 0)) (gName 2)
    (tAsg (tOp (rAddU K) (tVar 1) (tLc (iTup K (tTup (tCons (tC (.int 128)) (tCons (tC (.int 64)) (tCons (tC (.int 32)) (tCons (tC (.int 16)) (tCons (tC (.int 8)) (tCons (tC (.int 4)) (tCons (tC (.int 2)) (tCons (tC (.int 1)) tNil)))))))))) (gName 3) tYes (tOp rModU (tOp rDivU (tCB rInt1U (tCons (tVar 2) tNil)) (tVar 3)) (tC (.int 2))) [3])) (gName 1)))
    (tRet (tVar 1))))
theorem der_law_bits {P : Program} {w : World} {K : Fg} {mg : Str → Option Value} {base : Heap} (G : Gb mg) {f : Addr} (cdv : Value) (A : Around) (outer : List Env) (s : Shared) (H : Hp) (E : XK)
  (hr : Room 0 (A.deeper (envOfC "_law_bits" (defScope s_law_bits) s.heap.objs.size f cdv))) :
  PSs (cxOf CX0 P w K mg base N_law_bits "_law_bits" (defScope s_law_bits) f cdv A outer s H E).nox (defBody s_law_bits) (t_law_bits K) :=
  (pss_cons (ps_set (i := 1) sc_law_bits.nd rfl (by first | exact Or.inl rfl | exact Or.inr rfl) (pe_lst pa_nil))
    (pss_cons (ps_for PassesOwn.never rfl (pi_tup (pv 0)) (pg_name (i := 2) sc_law_bits.nd rfl (by first | exact Or.inl rfl | exact Or.inr rfl))
    (pss_one (ps_set (i := 1) sc_law_bits.nd rfl (by first | exact Or.inl rfl | exact Or.inr rfl) (pe_op op_addU (pv 1) (pe_lc (own := [("unit", 3)]) (g := (gName 3)) rfl sc_law_bits.nd (pi_tup (pe_tup (pa_cons pe_int (pa_cons pe_int (pa_cons pe_int (pa_cons pe_int (pa_cons pe_int (pa_cons pe_int (pa_cons pe_int (pa_cons pe_int pa_nil)))))))))) (blkOk_by (own := [("unit", 3)]) (N := N_law_bits) (sc := defScope s_law_bits) (by decide +kernel)) (fun _ _ _ _ _ => (pg_name (i := 3) sc_law_bits.nd rfl (by first | exact Or.inl rfl | exact Or.inr rfl))) (fun _ _ _ _ _ => pts_nil) (fun _ _ _ _ _ => (pe_op op_modU (pe_op op_divU (pe_callTy ce_int (by rfl) G.b_int (by decide +kernel) (pa_cons (pv 2) pa_nil)) (pv 3)) pe_int)))))))
    (pss_one (ps_ret (pv 1)))))
theorem bitsL_take {a : List Int} {j : Nat} {x : Int} (h : a[j]? = some x) : bitsL (a.take (j + 1)) = bitsL (a.take j) ++ bitsOf x := by
  rw [List.take_add_one, h]
  simp [bitsL]
theorem sd_law_bits {K : Fg} {a : List Int} (h : octs a) {E : DE} (hE : E.rt (.list ((bitsL a).map .int))) : SD K (t_law_bits K) E [some (.sh (.tuple (a.map .int))), none, none, none] := by
  unfold t_law_bits
  have hl := h.2
  refine q_asg (by walk_at "ev") ?_
  refine q_forW PyData.int (fun j => [some (.sh (.tuple (a.map .int))), some (.sh (.list ((bitsL (a.take j)).map .int))), none, none]) (ei_tup (ev_var rfl)) ⟨.inr rfl, .inr rfl, .inr rfl, .inr rfl, trivial⟩ (fun j x hx => ⟨_, gd_name, ?_⟩) ?_
  · have hj : j < a.length := (List.getElem?_eq_some_iff.mp hx).1
    have hb := bitsL_len (a.take j)
    rw [List.length_take] at hb
    refine s_asg (d := .list ((bitsL (a.take j)).map .int ++ units.map (fun u => .int (x / u % 2)))) (ev_new (en_addL (by walk_at "ev") (ev_new (en_map (fun u : Int => .int u) (fun u : Int => .int (x / u % 2)) (ei_tup (xs := units.map fun u : Int => PyData.int u) (by walk_at "ev")) (wo_name (by decide)) (by decide) rfl fun j u hu => ⟨_, gd_name, ev_op (ev_op (by walk_at "ev") (by walk_at "ev") (rd_divU ?_)) ev_int (rd_modU (by decide))⟩)) ?_)) ?_
    · have : u ∈ units := List.mem_of_getElem? hu
      have : u = 128 ∨ u = 64 ∨ u = 32 ∨ u = 16 ∨ u = 8 ∨ u = 4 ∨ u = 2 ∨ u = 1 := by simpa [units] using this
      exact ⟨by omega, by omega⟩
    · refine sz16 ?_
      rw [List.length_map, List.length_map]
      show _ + 8 ≤ _
      omega
    · refine ⟨.inr rfl, .inr ?_, .inl rfl, .inl rfl, trivial⟩
      rw [bitsL_take hx]
      simp [bitsOf]
  · refine s_ret (by walk_at "ev") ?_
    rw [List.take_length]
    exact hE
theorem r_law_bits {a : List Int} (h : octs a) : R_law_bits [.tuple (a.map .int)] (.list ((bitsL a).map .int)) := ⟨a, h, rfl, rfl⟩

theorem ok_law_bits {P : Program} {w : World} {K : Fg} {mg : Str → Option Value} {base : Heap} {f : Addr} {fd : FuncData} (F : Fun K "_law_bits" "_law_bits" s_law_bits f fd) (G : Gb mg) : FnOk P w K mg base CX0 1 f fd ["octets"] (spD K R_law_bits) :=
  fnD F sc_law_bits (fun ds d h => by obtain ⟨a, hc, rfl, rfl⟩ := h; rfl) fun cdv A outer s H E hr => ⟨_, der_law_bits G  cdv A outer s H E hr, fun ds d h => by obtain ⟨a, hc, rfl, rfl⟩ := h; exact sd_law_bits hc rfl⟩
end My
set_option Elab.async false
set_option linter.all false
set_option maxRecDepth 100000
set_option maxHeartbeats 4000000
namespace My
open PySem L2 PySem.Spec PyProof.Rows HF
local macro_rules | `(tactic| walk_at "ev") => `(tactic| first
  | ((with_reducible show EvD _ (tVar _) _ _); exact ev_var rfl)
  | ((with_reducible show EvD _ (tC (V.int _)) _ _); exact ev_int)
  | ((with_reducible show EvD _ (tC (V.str _)) _ _); exact ev_str)
  | ((with_reducible show EvD _ (tC (V.bl _)) _ _); exact ev_bl)
  | ((with_reducible show EvD _ (tC V.non) _ _); exact ev_non)
  | ((with_reducible show EvD _ (tCB (rIsi _) _) _ _); refine' ev_isi ?isa ?ise; (case' isa => walk_at "ev"); (case' ise => first | rfl | decide +kernel))
  | ((with_reducible show EvD _ (tCB (rLenU _) (tCons (tVar _) tNil)) _ _); first | exact ev_lenO rfl | exact ev_lenK rfl)
  | ((with_reducible show EvD _ (tOp (rIx _) (tVar _) _) _ _); first | (refine' ev_ixO rfl ?iob ?ioc; (case' iob => walk_at "ev"); (case' ioc => first | walk_at "place" | skip)) | (refine' ev_ixK rfl ?ikb ?ikc; (case' ikb => walk_at "ev"); (case' ikc => first | walk_at "place" | skip)))
  | ((with_reducible show EvD _ (tCB _ _) _ _); refine' ev_call ?cba ?cbr; (case' cba => walk_at "ea"); (case' cbr => walk_at "rc"))
  | ((with_reducible show EvD _ (tFn _ _ _) _ _); refine' ev_fn ?fna ?fnr; (case' fna => walk_at "ea"); (case' fnr => first | walk_at "fn" | skip))
  | ((with_reducible show EvD _ (tTup _) _ _); refine' ev_tup ?tua ?tuz; (case' tua => walk_at "ea"); (case' tuz => first | decide | (simp only [List.length_cons, List.length_nil]; decide) | skip))
  | ((with_reducible show EvD _ (tSl _ _ _ _) _ _); first | (refine' ev_slT ?sta ?stb ?stc; (case' sta => walk_at "ev"); (case' stb => walk_at "eo"); (case' stc => walk_at "eo")) | (refine' ev_slS ?ssa ?ssz ?ssb ?ssc; (case' ssa => walk_at "ev"); (case' ssb => walk_at "eo"); (case' ssc => walk_at "eo"); (case' ssz => first | walk_at "side" | skip)) | (refine' ev_new ?slw; (case' slw => walk_at "en")))
  | ((with_reducible show EvD _ (tOp _ _ _) _ _); first | (refine' ev_op ?opa ?opb ?opr; (case' opa => walk_at "ev"); (case' opb => walk_at "ev"); (case' opr => walk_at "rd")) | (refine' ev_new ?opw; (case' opw => walk_at "en")))
  | ((with_reducible show EvD _ (tBits _) _ _); refine' ev_bits ?bti; (case' bti => walk_at "ev"))
  | ((with_reducible show EvD _ (tUn _ _) _ _); refine' ev_un ?una ?unr; (case' una => walk_at "ev"); (case' unr => walk_at "rd"))
  | ((with_reducible show EvD _ (tChain _ _ _ _ _) _ _); refine' ev_chain ?cha ?chb ?chc ?chr ?chq; (case' cha => walk_at "ev"); (case' chb => walk_at "ev"); (case' chc => (intro hc; walk_at "ev")); (case' chr => walk_at "rd"); (case' chq => (intro hc; walk_at "rd")))
  | ((with_reducible show EvD _ (tAndV _ _) _ _); refine' ev_and ?ana ?anb; (case' ana => walk_at "ev"); (case' anb => (intro hb; walk_at "ev")))
  | ((with_reducible show EvD _ (tOrV _ _) _ _); refine' ev_or ?ora ?orb; (case' ora => walk_at "ev"); (case' orb => (intro hb; walk_at "ev")))
  | ((with_reducible show EvD _ (tNotT _ _) _ _); refine' ev_notT ?noa ?noo; (case' noa => walk_at "ev"); (case' noo => first | trivial | skip))
  | ((with_reducible show EvD _ (tIf _ _ _) _ _); refine' ev_if ?ifc ?ifa ?ifb; (case' ifc => walk_at "et"); (case' ifa => (intro hc; walk_at "ev")); (case' ifb => (intro hc; walk_at "ev")))
  | (refine' ev_new ?neh; (case' neh => walk_at "en")))
local macro_rules | `(tactic| walk_at "ea") => `(tactic| first
  | ((with_reducible show EvA _ tNil _ _); exact ea_nil)
  | ((with_reducible show EvA _ (tCons _ _) _ _); refine' ea_cons ?cna ?cnt; (case' cna => walk_at "ev"); (case' cnt => walk_at "ea")))
local macro_rules | `(tactic| walk_at "eo") => `(tactic| first
  | ((with_reducible show EvO _ tNoPart _ _); exact eo_none)
  | ((with_reducible show EvO _ (tPart _) _ _); refine' eo_some ?eoa; (case' eoa => walk_at "ev")))
local macro_rules | `(tactic| walk_at "en") => `(tactic| first
  | ((with_reducible show EvN _ (tLst _) _ _); refine' en_lst ?lsa ?lsz; (case' lsa => walk_at "ea"); (case' lsz => first | decide | (simp only [List.length_cons, List.length_nil]; decide) | skip))
  | ((with_reducible show EvN _ (tCB (rLstU _) (tCons (tVar _) tNil)) _ _); exact en_lstK rfl)
  | ((with_reducible show EvN _ (tOp _ _ _) _ _); refine' en_addL ?ada ?adb ?adz; (case' ada => walk_at "ev"); (case' adb => walk_at "ev"); (case' adz => first | walk_at "side" | skip))
  | ((with_reducible show EvN _ (tSl _ _ _ _) _ _); refine' en_slL ?sla ?slb ?slc; (case' sla => walk_at "ev"); (case' slb => walk_at "eo"); (case' slc => walk_at "eo"))
  | ((with_reducible show EvN _ (tCB _ _) _ _); refine' en_call ?nca ?ncr; (case' nca => walk_at "ea"); (case' ncr => first | exact rc_lstL | exact rc_lstT | walk_at "rcn")))
local macro_rules | `(tactic| walk_at "rc") => `(tactic| first
  | exact rc_lenL
  | exact rc_lenT
  | exact rc_int
  | exact rc_intB
  | exact rc_ord
  | exact rc_tupL
  | exact rc_tupT
  | exact rc_max2
  | exact rc_min2
  | (refine' rc_lenS ?_; first | walk_at "side" | skip))
local macro_rules | `(tactic| walk_at "rd") => `(tactic| first
  | ((with_reducible show RD2 _ (rAddU _) _ _ _); first | exact rd_addI | (refine' rd_addS ?_; first | walk_at "side" | skip) | (refine' rd_addT ?_; first | walk_at "side" | skip))
  | ((with_reducible show RD2 _ rSubU _ _ _); first | exact rd_subU)
  | ((with_reducible show RD2 _ rBandU _ _ _); first | exact rd_bandU)
  | ((with_reducible show RD2 _ rBorU _ _ _); first | exact rd_borU)
  | ((with_reducible show RD2 _ rBxorU _ _ _); first | exact rd_bxorU)
  | ((with_reducible show RD2 _ (rLtU _) _ _ _); first | exact rd_ltI | exact rd_ltS | exact rd_ltT)
  | ((with_reducible show RD2 _ (rLeU _) _ _ _); first | exact rd_leI | exact rd_leS | exact rd_leT)
  | ((with_reducible show RD2 _ rGtU _ _ _); first | exact rd_gtI | exact rd_gtS)
  | ((with_reducible show RD2 _ rGeU _ _ _); first | exact rd_geI | exact rd_geS)
  | ((with_reducible show RD2 _ rIsNU _ _ _); first | exact rd_isN)
  | ((with_reducible show RD2 _ rIsNotNU _ _ _); first | exact rd_notN)
  | ((with_reducible show RD2 _ rModU _ _ _); first | (refine' rd_modU ?_; first | decide | omega | skip))
  | ((with_reducible show RD2 _ rDivU _ _ _); first | (refine' rd_divU ?_; first | exact ⟨by decide, by decide⟩ | skip))
  | ((with_reducible show RD2 _ rMulU _ _ _); first | (refine' rd_mulU ?_; first | exact Or.inr ⟨by decide, by decide⟩ | exact Or.inl ⟨by decide, by decide⟩ | skip))
  | ((with_reducible show RD2 _ rPowU _ _ _); first | (refine' rd_powU ?_; first | exact ⟨by decide, by decide, by decide⟩ | skip))
  | ((with_reducible show RD2 _ rShrU _ _ _); first | (refine' rd_shrU ?_; first | decide | omega | skip))
  | ((with_reducible show RD2 _ rShlU _ _ _); first | refine' rd_shlU ?_)
  | ((with_reducible show RD2 _ (rEqD _) _ _ _); first | (refine' rd_eq ?_ ?_; all_goals first | walk_at "sh" | skip))
  | ((with_reducible show RD2 _ (rNeD _) _ _ _); first | (refine' rd_ne ?_ ?_; all_goals first | walk_at "sh" | skip))
  | ((with_reducible show RD2 _ (rInU _) _ _ _); first | (refine' rd_inD ?_ ?_; all_goals first | walk_at "sh" | skip))
  | ((with_reducible show RD2 _ (rNotInU _) _ _ _); first | (refine' rd_notInD ?_ ?_; all_goals first | walk_at "sh" | skip))
  | ((with_reducible show RD2 _ (rIx _) _ _ _); first | (refine' rd_ixT ?_; first | walk_at "place" | skip) | (refine' rd_ixL ?_; first | walk_at "place" | skip) | (refine' rd_ixS ?_ ?_; (first | walk_at "side" | skip)))
  | ((with_reducible show RD1 _ rNegU _ _); exact rd_negU))
local macro_rules | `(tactic| walk_at "et") => `(tactic| first
  | ((with_reducible show EvT _ tYes _ _); exact et_yes)
  | ((with_reducible show EvT _ (tTest _) _ _); refine' et_test ?tea; (case' tea => walk_at "ev"))
  | ((with_reducible show EvT _ (tAnd _ _) _ _); refine' et_and ?taa ?tab; (case' taa => walk_at "et"); (case' tab => (intro hb; walk_at "et")))
  | ((with_reducible show EvT _ (tOr _ _) _ _); refine' et_or ?toa ?tob; (case' toa => walk_at "et"); (case' tob => (intro hb; walk_at "et")))
  | ((with_reducible show EvT _ (tNot _) _ _); refine' et_not ?tna; (case' tna => walk_at "et"))
  | ((with_reducible show EvT _ (tTruU _ (tVar _)) _ _); first | exact et_truO rfl | (refine' et_tru (ev_var rfl) ?tvo; first | trivial | skip))
  | ((with_reducible show EvT _ (tTruU _ _) _ _); refine' et_tru ?tra ?tro; (case' tra => walk_at "ev"); (case' tro => first | trivial | skip)))
local macro_rules | `(tactic| walk_at "side") => `(tactic| first
  | assumption | omega
  | (refine' sz16 ?_; simp [cod_len]; omega)
  | (simp [cod_len]; omega))
local macro_rules | `(tactic| walk_at "place") => `(tactic| first
  | assumption
  | exact at_nat (n := 0) rfl rfl | exact at_nat (n := 1) rfl rfl | exact at_nat (n := 2) rfl rfl)
local macro_rules | `(tactic| walk_at "sh") => `(tactic| first | exact (sh_int (n := 0)).ok | exact (sh_bool (n := 0)).ok | exact (sh_non (n := 0)).ok | (with_reducible assumption))
local macro_rules | `(tactic| walk_at "fn") => `(tactic| first | (with_reducible assumption))

def t_law (K : Fg) : TS := (tSeq (tFor (iList K (tVar 0)) (gName 1)
    (tSeq (tAsg (tFn K R_law_draws (tCons (tVar 1) (tCons (tC (.int 10)) tNil))) (gName 2))
    (tSeq (tAsg (tFn K R_key_octets (tCons (tFn K R_law_key (tCons (tVar 2) tNil)) tNil)) (gName 3))
    (tSeq (tAsg (tFn K R_key_octets (tCons (tFn K R_law_key (tCons (tSl (rSlU K) (tVar 2) (tPart (tC (.int 4))) tNoPart) tNil)) tNil)) (gName 4))
    (tSeq (tAsg (tLst (tCons (tFn K R_law_bits (tCons (tVar 3) tNil)) (tCons (tFn K R_law_bits (tCons (tVar 4) tNil)) tNil))) (gName 5))
    (tSeq (tAsg (tLc (iRng1 (tCons (tCB rMin2U (tCons (tCB (rLenU K) (tCons (tOp (rIx K) (tVar 5) (tC (.int 0))) tNil)) (tCons (tCB (rLenU K) (tCons (tOp (rIx K) (tVar 5) (tC (.int 1))) tNil)) tNil))) tNil)) (gName 9) (tTest (tOp (rNeD K) (tOp (rIx K) (tOp (rIx K) (tVar 5) (tC (.int 0))) (tVar 9)) (tOp (rIx K) (tOp (rIx K) (tVar 5) (tC (.int 1))) (tVar 9)))) (tVar 9) [9]) (gName 6))
    (tSeq (tAsg (tFn K R_first_bit (tCons (tVar 3) (tCons (tVar 4) tNil))) (gName 7))
    (tSeq (tIfS (tOr (tTest (tOp (rNeD K) (tVar 7) (tIf (tTruU K (tVar 6)) (tOp (rIx K) (tVar 6) (tC (.int 0))) (tC .non)))) (tTest (tOp (rNeD K) (tOp (rEqD K) (tVar 3) (tVar 4)) (tOp rIsNU (tVar 7) (tC .non))))) (tRet (tC (.bl false))) tNext)
    (tSeq (tIfS (tAnd (tTest (tOp rIsNotNU (tVar 7) (tC .non))) (tOr (tTest (tOp (rEqD K) (tFn K R_has_bit (tCons (tVar 3) (tCons (tVar 7) tNil))) (tFn K R_has_bit (tCons (tVar 4) (tCons (tVar 7) tNil))))) (tTest (tOp (rNeD K) (tFn K R_has_bit (tCons (tVar 4) (tCons (tVar 7) tNil))) (tOp (rLtU K) (tVar 3) (tVar 4)))))) (tRet (tC (.bl false))) tNext)
    (tSeq (tAsg (tOp rModU (tOp (rIx K) (tVar 2) (tC (.int 8))) (tCB (rLenU K) (tCons (tOp (rIx K) (tVar 5) (tC (.int 0))) tNil))) (gName 8))
    (tIfS (tTest (tOp (rNeD K) (tFn K R_has_bit (tCons (tVar 3) (tCons (tVar 8) tNil))) (tOp (rEqD K) (tOp (rIx K) (tOp (rIx K) (tVar 5) (tC (.int 0))) (tVar 8)) (tC (.int 1))))) (tRet (tC (.bl false))) tNext)))))))))))
    (tRet (tC (.bl true))))
theorem der_law {P : Program} {w : World} {K : Fg} {mg : Str → Option Value} {base : Heap} (G : Gb mg) (c_law_draws : Cal P w K mg base "_law_draws" 1 R_law_draws) (c_key_octets : Cal P w K mg base "key_octets" 4 R_key_octets) (c_first_bit : Cal P w K mg base "first_bit" 1 R_first_bit) (c_law_key : Cal P w K mg base "_law_key" 2 R_law_key) (c_law_bits : Cal P w K mg base "_law_bits" 1 R_law_bits) (c_has_bit : Cal P w K mg base "has_bit" 1 R_has_bit) {f : Addr} (cdv : Value) (A : Around) (outer : List Env) (s : Shared) (H : Hp) (E : XK)
  (hr : Room 4 (A.deeper (envOfC "law" (defScope s_law) s.heap.objs.size f cdv))) :
  PSs (cxOf CX0 P w K mg base N_law "law" (defScope s_law) f cdv A outer s H E).nox (defBody s_law) (t_law K) :=
  (pss_cons (ps_for PassesOwn.never rfl (pi_list (pv 0)) (pg_name (i := 1) sc_law.nd rfl (by first | exact Or.inl rfl | exact Or.inr rfl))
    (pss_cons (ps_set (i := 2) sc_law.nd rfl (by first | exact Or.inl rfl | exact Or.inr rfl) (pe_fun c_law_draws hr (by rfl) (pa_cons (pv 1) (pa_cons pe_int pa_nil))))
    (pss_cons (ps_set (i := 3) sc_law.nd rfl (by first | exact Or.inl rfl | exact Or.inr rfl) (pe_fun c_key_octets hr (by rfl) (pa_cons (pe_fun c_law_key hr (by rfl) (pa_cons (pv 2) pa_nil)) pa_nil)))
    (pss_cons (ps_set (i := 4) sc_law.nd rfl (by first | exact Or.inl rfl | exact Or.inr rfl) (pe_fun c_key_octets hr (by rfl) (pa_cons (pe_fun c_law_key hr (by rfl) (pa_cons (pe_slice sl_U (pv 2) (po_some pe_int) po_none) pa_nil)) pa_nil)))
    (pss_cons (ps_set (i := 5) sc_law.nd rfl (by first | exact Or.inl rfl | exact Or.inr rfl) (pe_lst (pa_cons (pe_fun c_law_bits hr (by rfl) (pa_cons (pv 3) pa_nil)) (pa_cons (pe_fun c_law_bits hr (by rfl) (pa_cons (pv 4) pa_nil)) pa_nil))))
    (pss_cons (ps_setLc (i := 6) (own := [("k", 9)]) (g := (gName 9)) rfl sc_law.nd rfl rfl (sw_true rfl rfl rfl (by decide +kernel)) (pi_range1 (by rfl) G.b_range (pa_cons (pe_callB ce_min2 (by rfl) G.b_min (by decide +kernel) (pa_cons (pe_callB ce_len (by rfl) G.b_len (by decide +kernel) (pa_cons (pe_ix ix_seq (pv 5) pe_int (fun _ _ => rfl)) pa_nil)) (pa_cons (pe_callB ce_len (by rfl) G.b_len (by decide +kernel) (pa_cons (pe_ix ix_seq (pv 5) pe_int (fun _ _ => rfl)) pa_nil)) pa_nil))) pa_nil)) (blkOk_by (own := [("k", 9)]) (N := N_law) (sc := defScope s_law) (by decide +kernel)) (fun _ _ _ _ _ => (pg_name (i := 9) sc_law.nd rfl (by first | exact Or.inl rfl | exact Or.inr rfl))) (fun _ _ _ _ _ => (pts_one (pt_cmpR (op_neU hr) (pe_ix ix_seq (pe_ix ix_seq (pv 5) pe_int (fun _ _ => rfl)) (pv 9) (fun _ _ => rfl)) (pe_ix ix_seq (pe_ix ix_seq (pv 5) pe_int (fun _ _ => rfl)) (pv 9) (fun _ _ => rfl)) (nomark _)))) (fun _ _ _ _ _ => (pv 9)))
    (pss_cons (ps_set (i := 7) sc_law.nd rfl (by first | exact Or.inl rfl | exact Or.inr rfl) (pe_fun c_first_bit hr (by rfl) (pa_cons (pv 3) (pa_cons (pv 4) pa_nil))))
    (pss_cons (ps_if (PW.pt (pw_or (pt_cmpR (op_neU hr) (pv 7) (pe_ifExp (pt_tru (pv 6)) (pe_ix ix_seq (pv 6) pe_int (fun _ _ => rfl)) pe_non) (nomark _)) (pw_or1 (pt_cmpR (op_neU hr) (pe_cmpR (op_eqU hr) (pv 3) (pv 4) (nomark _)) (pe_cmpR op_isU (pv 7) pe_non (nomark _)) (nomark _))))) (pss_one (ps_ret pe_bl)) pss_nil)
    (pss_cons (ps_if (PW.pt (pw_and (pt_cmpR op_isNotU (pv 7) pe_non (nomark _)) (pw_and1 (PW.pt (pw_or (pt_cmpR (op_eqU hr) (pe_fun c_has_bit hr (by rfl) (pa_cons (pv 3) (pa_cons (pv 7) pa_nil))) (pe_fun c_has_bit hr (by rfl) (pa_cons (pv 4) (pa_cons (pv 7) pa_nil))) (nomark _)) (pw_or1 (pt_cmpR (op_neU hr) (pe_fun c_has_bit hr (by rfl) (pa_cons (pv 4) (pa_cons (pv 7) pa_nil))) (pe_cmpR (op_ltU hr.units0) (pv 3) (pv 4) (nomark _)) (nomark _)))))))) (pss_one (ps_ret pe_bl)) pss_nil)
    (pss_cons (ps_set (i := 8) sc_law.nd rfl (by first | exact Or.inl rfl | exact Or.inr rfl) (pe_op op_modU (pe_ix ix_seq (pv 2) pe_int (fun _ _ => rfl)) (pe_callB ce_len (by rfl) G.b_len (by decide +kernel) (pa_cons (pe_ix ix_seq (pv 5) pe_int (fun _ _ => rfl)) pa_nil))))
    (pss_one (ps_if (pt_cmpR (op_neU hr) (pe_fun c_has_bit hr (by rfl) (pa_cons (pv 3) (pa_cons (pv 8) pa_nil))) (pe_cmpR (op_eqU hr) (pe_ix ix_seq (pe_ix ix_seq (pv 5) pe_int (fun _ _ => rfl)) (pv 8) (fun _ _ => rfl)) pe_int (nomark _)) (nomark _)) (pss_one (ps_ret pe_bl)) pss_nil))))))))))))
    (pss_one (ps_ret pe_bl)))
def tlD : Option Nat → D
  | none => .none
  | some k => .int (k : Int)
theorem firD_fd {a b : List Int} (ha : octs a) (hb : octs b) : firD (fir a b) = tlD (fd (bitsL a) (bitsL b)) := by
  unfold fir
  rw [fir_bits ha hb]
  cases fd (bitsL a) (bitsL b) with
  | none => rfl
  | some k =>
    show PyData.int (8 * ((0 : Nat) : Int) + (k : Int)) = PyData.int (k : Int)
    congr 1
    omega
theorem sh_tl {o : Option Nat} : SeqAt.shaped (tlD o) = true := by
  cases o with
  | none => exact (sh_non (n := 0)).ok
  | some k => exact (sh_int (n := 0)).ok
abbrev iE (k : Nat) : D := .int (k : Int)
/-- both rows of bits -/
abbrev twoD (p q : List Int) : D := .list [.list (p.map .int), .list (q.map .int)]
theorem at_two0 {p q : List Int} : atI [PyData.list (p.map .int), .list (q.map .int)] 0 = some (.list (p.map .int)) := at_nat (n := 0) rfl rfl
theorem at_two1 {p q : List Int} : atI [PyData.list (p.map .int), .list (q.map .int)] 1 = some (.list (q.map .int)) := at_nat (n := 1) rfl rfl
theorem at_bit {p : List Int} {k : Nat} (h : k < p.length) : atI (p.map PyData.int) (k : Int) = some (.int (p.getD k 0)) := by
  refine at_nat rfl ?_
  rw [List.getElem?_map, List.getElem?_eq_getElem h, List.getD_eq_getElem?_getD, List.getElem?_eq_getElem h]
  rfl
theorem ne_int {x y : Int} : (!PyData.eqv (.int x) (.int y)) = decide (x ≠ y) := by rw [eqv_int]; simp
theorem ne_bool {x y : Bool} : (!PyData.eqv (.bool x) (.bool y)) = decide (x ≠ y) := by rw [eqv_bool]; simp
theorem tl_head {L : List Nat} {F : Option Nat} (h : L.head? = F) {K : Fg} {en : En} {i : Nat} (hi : en[i]? = some (some (.sh (.list (L.map iE))))) : EvD K (tIf (tTruU K (tVar i)) (tOp (rIx K) (tVar i) (tC (.int 0))) (tC .non)) en (tlD F) := by
  subst h
  cases L with
  | nil => exact ev_if (b := false) (EvT.eq (et_tru (ev_var hi) trivial) rfl) (fun h => by cases h) (fun _ => ev_non)
  | cons k L => exact ev_if (b := true) (EvT.eq (et_tru (ev_var hi) trivial) rfl) (fun _ => ev_op (ev_var hi) ev_int (rd_ixL (at_nat (n := 0) rfl rfl))) (fun h => by cases h)
theorem min_lens {p q : List Int} : PyData.int (min ((p.map PyData.int).length : Int) ((q.map PyData.int).length : Int)) = .int ((min p.length q.length : Nat) : Int) := by
  rw [List.length_map, List.length_map]
  exact congrArg PyData.int (by omega)
theorem rng_cast {n : Nat} : rngD 0 ((n : Int)).toNat = (List.range n).map fun k : Nat => .int (0 + (k : Int)) := by rw [Int.toNat_natCast]; rfl
theorem sd_law {K : Fg} {ns : List Int} (hn : ns.length ≤ 63) : SD K (t_law K) { nx := fun _ => False, rt := fun r => r = .bool true } [some (.kl (ns.map .int)), none, none, none, none, none, none, none, none, none] := by
  unfold t_law
  refine q_forW PyData.int (fun _ => [some (.kl (ns.map .int)), none, none, none, none, none, none, none, none, none]) (ei_listK rfl) (Weak.refl _) (fun j c hc => ⟨_, gd_name, ?_⟩) (s_ret ev_bl rfl)
  refine q_asg (ev_fn (by walk_at "ea") (r_draws (m := 10) (by decide))) ?_
  generalize hd : draws c 10 = ds
  have hl : ds.length = 10 := by rw [← hd, draws_len]
  have e8 : atI (ds.map PyData.int) 8 = some (.int (ds.getD 8 0)) := at_map (by omega) (by omega)
  have k1 := keyOf_ok ds
  have l1 := (keyOf_len ds).1
  have k2 := keyOf_ok (ds.drop 4)
  have l2 := (keyOf_len (ds.drop 4)).1
  have hl4 : 4 ≤ (ds.drop 4).length := by rw [List.length_drop]; omega
  refine q_asg (d := .tuple ((vos (keyOf ds) ++ [0]).map .int)) (ev_fn (ea_cons (ev_fn (ea_cons (ev_var rfl) ea_nil) (r_law_key (by omega))) ea_nil) (r_key_octets ⟨k1, by omega⟩)) ?_
  refine q_asg (d := .tuple ((vos (keyOf (ds.drop 4)) ++ [0]).map .int)) (ev_fn (ea_cons (ev_fn (ea_cons (EvD.eq (d' := .list ((ds.drop 4).map .int)) (ev_new (en_slL (ev_var rfl) (eo_some ev_int) eo_none)) ?_) ea_nil) (r_law_key hl4)) ea_nil) (r_key_octets ⟨k2, by omega⟩)) ?_
  · show PyData.list (cutD (ds.map .int) (some ((4 : Nat) : Int)) none) = _
    rw [cut_drop, ← List.map_drop]
  have same := keys_same k1 k2 (by omega) (by omega)
  have oA := key_octs k1 (by omega)
  have oB := key_octs k2 (by omega)
  have lA : 0 < (vos (keyOf ds) ++ [0]).length := by simp
  generalize vos (keyOf ds) ++ [0] = A at same oA lA
  generalize vos (keyOf (ds.drop 4)) ++ [0] = B at same oB
  have bA := bitsL_len A
  have bB := bitsL_len B
  have sA := oA.2
  have sB := oB.2
  refine q_asg (d := twoD (bitsL A) (bitsL B)) (ev_new (en_lst (ea_cons (ev_fn (ea_cons (ev_var rfl) ea_nil) (r_law_bits oA)) (ea_cons (ev_fn (ea_cons (ev_var rfl) ea_nil) (r_law_bits oB)) ea_nil)) (sz16 (by simp)))) ?_
  -- apart
  have hap := apart_head (bitsL A) (bitsL B)
  refine q_asg (d := .list (((List.range (min (bitsL A).length (bitsL B).length)).filter fun k => decide ((bitsL A).getD k 0 ≠ (bitsL B).getD k 0)).map iE)) (ev_new (en_lc (fun k : Nat => .int (0 + (k : Int))) (fun k => decide ((bitsL A).getD k 0 ≠ (bitsL B).getD k 0)) iE (xs := List.range (min (bitsL A).length (bitsL B).length)) ((ei_rng1 (n := ((min (bitsL A).length (bitsL B).length : Nat) : Int)) (ea_cons (EvD.eq (ev_call (ea_cons (ev_call (ea_cons (ev_op (ev_var rfl) ev_int (rd_ixL at_two0)) ea_nil) rc_lenL) (ea_cons (ev_call (ea_cons (ev_op (ev_var rfl) ev_int (rd_ixL at_two1)) ea_nil) rc_lenL) ea_nil)) rc_min2) ?_) ea_nil) (by omega)).eq ?_) (wo_name (by decide)) ?_ rfl fun j k hk => ⟨_, gd_name, ?_, fun _ => ?_⟩)) ?_
  · exact min_lens
  · exact rng_cast
  · rw [List.length_range]; omega
  · obtain ⟨rfl, hj⟩ := rng_get hk
    refine EvT.eq (et_test (ev_op (ev_op (ev_op (ev_var rfl) ev_int (rd_ixL at_two0)) (ev_var rfl) (rd_ixL (d := .int ((bitsL A).getD k 0)) ?_)) (ev_op (ev_op (ev_var rfl) ev_int (rd_ixL at_two1)) (ev_var rfl) (rd_ixL (d := .int ((bitsL B).getD k 0)) ?_)) (rd_ne (by walk_at "sh") (by walk_at "sh")))) ne_int
    · rw [Int.zero_add]; exact at_bit (by omega)
    · rw [Int.zero_add]; exact at_bit (by omega)
  · exact EvD.eq (ev_var rfl) (by rw [Int.zero_add])
  generalize ((List.range (min (bitsL A).length (bitsL B).length)).filter fun k => decide ((bitsL A).getD k 0 ≠ (bitsL B).getD k 0)) = L at hap
  -- told
  refine q_asg (d := tlD (fd (bitsL A) (bitsL B))) (EvD.eq (ev_fn (ea_cons (ev_var rfl) (ea_cons (ev_var rfl) ea_nil)) (r_first_bit ⟨oA, oB⟩)) (firD_fd oA oB)) ?_
  have dif : ∀ k, fd (bitsL A) (bitsL B) = some k → hasB A k = (!hasB B k) ∧ HT.lexLt A B = hasB B k := fun k h => ⟨bits_differ h, lex_bits oA oB h⟩
  generalize fd (bitsL A) (bitsL B) = F at hap same dif
  refine (show SD K _ _ [some (.kl (ns.map .int)), some (.sh (.int c)), some (.sh (.list (ds.map .int))), some (.sh (.tuple (A.map .int))), some (.sh (.tuple (B.map .int))), some (.sh (twoD (bitsL A) (bitsL B))), some (.sh (.list (L.map iE))), some (.sh (tlD F)), none, none] from ?_)
  have shA : SeqAt.shaped (.tuple (A.map .int)) = true := (sh_tints (a := A)).ok
  have shB : SeqAt.shaped (.tuple (B.map .int)) = true := (sh_tints (a := B)).ok
  have shb : ∀ b : Bool, SeqAt.shaped (.bool b) = true := fun b => (sh_bool (n := 0)).ok
  have isF : isN (tlD F) = decide (A = B) := by
    cases F with
    | none => rw [decide_eq_true (same.mp rfl)]; rfl
    | some k =>
      rw [decide_eq_false fun h => by cases same.mpr h]; rfl
  refine q_when (b := false) (EvT.eq (et_or (b := false) (et_ne_same (d := tlD F) (ev_var rfl) (tl_head hap rfl) sh_tl) (fun _ => EvT.eq (et_test (ev_op (EvD.eq (ev_op (ev_var rfl) (ev_var rfl) (rd_eq shA shB)) (by rw [eqv_tints])) (EvD.eq (ev_op (ev_var rfl) ev_non rd_isN) (by rw [isF])) (rd_ne (shb _) (shb _)))) (by rw [ne_bool]; simp))) rfl) (fun hb => by cases hb) (fun _ => ?_)
  refine q_when (b := false) ?_ (fun hb => by cases hb) (fun _ => ?_)
  · cases F with
    | none => exact EvT.eq (et_and (a := false) (b := false) (EvT.eq (et_test (ev_op (ev_var rfl) ev_non rd_notN)) rfl) (fun h => by cases h)) rfl
    | some k =>
      obtain ⟨d1, d2⟩ := dif k rfl
      refine EvT.eq (et_and (a := true) (b := false) (EvT.eq (et_test (ev_op (ev_var rfl) ev_non rd_notN)) rfl) (fun _ => EvT.eq (et_or (a := false) (b := false) (EvT.eq (et_test (ev_op (ev_fn (ea_cons (ev_var rfl) (ea_cons (ev_var rfl) ea_nil)) (r_has_bit oA)) (ev_fn (ea_cons (ev_var rfl) (ea_cons (ev_var rfl) ea_nil)) (r_has_bit oB)) (rd_eq (shb _) (shb _)))) ?_) (fun _ => EvT.eq (et_test (ev_op (ev_fn (ea_cons (ev_var rfl) (ea_cons (ev_var rfl) ea_nil)) (r_has_bit oB)) (ev_op (ev_var rfl) (ev_var rfl) rd_ltT) (rd_ne (shb _) (shb _)))) ?_)) rfl)) rfl
      · rw [eqv_bool, d1]
        cases hasB B k <;> rfl
      · rw [ne_bool, d2]; simp
  -- number
  have hb : 0 < (bitsL A).length := by omega
  obtain ⟨n, hnn⟩ := Int.eq_ofNat_of_zero_le (Int.emod_nonneg (ds.getD 8 0) (show ((bitsL A).length : Int) ≠ 0 by omega))
  have hlt := Int.emod_lt_of_pos (ds.getD 8 0) (show (0 : Int) < ((bitsL A).length : Int) by omega)
  rw [hnn] at hlt
  have hlt : n < (bitsL A).length := by omega
  refine q_asg (d := .int (n : Int)) (EvD.eq (ev_op (ev_op (ev_var rfl) ev_int (rd_ixL e8)) (ev_call (ea_cons (ev_op (ev_var rfl) ev_int (rd_ixL at_two0)) ea_nil) rc_lenL) (rd_modU ?_)) ?_) ?_
  · rw [List.length_map]; omega
  · rw [List.length_map, hnn]
  refine s_when (b := false) (EvT.eq (et_test (ev_op (ev_fn (ea_cons (ev_var rfl) (ea_cons (ev_var rfl) ea_nil)) (r_has_bit oA)) (ev_op (ev_op (ev_op (ev_var rfl) ev_int (rd_ixL at_two0)) (ev_var rfl) (rd_ixL (at_bit hlt))) ev_int (rd_eq (by walk_at "sh") (by walk_at "sh"))) (rd_ne (shb _) (shb _)))) ?_) (fun hb => by cases hb) (fun _ => ⟨.inr rfl, .inl rfl, .inl rfl, .inl rfl, .inl rfl, .inl rfl, .inl rfl, .inl rfl, .inl rfl, .inl rfl, trivial⟩)
  rw [ne_bool, eqv_int]
  have e : hasB A n = decide ((bitsL A).getD n 0 = 1) := by
    unfold hasB
    rw [List.getD_eq_getElem?_getD, List.getElem?_eq_getElem hlt]
    simp
  rw [e]; simp

theorem ok_law {P : Program} {w : World} {K : Fg} {mg : Str → Option Value} {base : Heap} {f : Addr} {fd : FuncData} (F : Fun K "law" "law" s_law f fd) (G : Gb mg) (c_law_draws : Cal P w K mg base "_law_draws" 1 R_law_draws) (c_key_octets : Cal P w K mg base "key_octets" 4 R_key_octets) (c_first_bit : Cal P w K mg base "first_bit" 1 R_first_bit) (c_law_key : Cal P w K mg base "_law_key" 2 R_law_key) (c_law_bits : Cal P w K mg base "_law_bits" 1 R_law_bits) (c_has_bit : Cal P w K mg base "has_bit" 1 R_has_bit) : FnOk P w K mg base CX0 5 f fd ["script"] (spL K fun ns => ns.length ≤ 63) :=
  fnL F sc_law fun cdv A outer s H E hr => ⟨_, der_law G c_law_draws c_key_octets c_first_bit c_law_key c_law_bits c_has_bit cdv A outer s H E hr, fun ns hns => sd_law hns⟩
theorem all_mk {l : PySem.W.OpenLaw} {w : World} {K : PySem.W.Frag} {h : Heap} {mg : Str → Option Value} {fa : Addr} (X : K.In h) (G : h.Ns mainGlobals mg) (hfa : mg "law" = some (.ref fa))
    {od_key_octets an_key_octets : Option Addr} {sl_key_octets : Array (Option Value)} {oc_key_octets kv_key_octets dc_key_octets pm_key_octets cd_key_octets ct_key_octets : Value} {f_key_octets : Addr}
    {od_body an_body : Option Addr} {sl_body : Array (Option Value)} {oc_body kv_body dc_body pm_body cd_body ct_body : Value} {f_body : Addr}
    {od_value_octets an_value_octets : Option Addr} {sl_value_octets : Array (Option Value)} {oc_value_octets kv_value_octets dc_value_octets pm_value_octets cd_value_octets ct_value_octets : Value} {f_value_octets : Addr}
    {od_codes an_codes : Option Addr} {sl_codes : Array (Option Value)} {oc_codes kv_codes dc_codes pm_codes cd_codes ct_codes : Value} {f_codes : Addr}
    {od_first_bit an_first_bit : Option Addr} {sl_first_bit : Array (Option Value)} {oc_first_bit kv_first_bit dc_first_bit pm_first_bit cd_first_bit ct_first_bit : Value} {f_first_bit : Addr}
    {od_has_bit an_has_bit : Option Addr} {sl_has_bit : Array (Option Value)} {oc_has_bit kv_has_bit dc_has_bit pm_has_bit cd_has_bit ct_has_bit : Value} {f_has_bit : Addr}
    {od_law_draws an_law_draws : Option Addr} {sl_law_draws : Array (Option Value)} {oc_law_draws kv_law_draws dc_law_draws pm_law_draws cd_law_draws ct_law_draws : Value} {f_law_draws : Addr}
    {od_law_value an_law_value : Option Addr} {sl_law_value : Array (Option Value)} {oc_law_value kv_law_value dc_law_value pm_law_value cd_law_value ct_law_value : Value} {f_law_value : Addr}
    {od_law_key an_law_key : Option Addr} {sl_law_key : Array (Option Value)} {oc_law_key kv_law_key dc_law_key pm_law_key cd_law_key ct_law_key : Value} {f_law_key : Addr}
    {od_law_bits an_law_bits : Option Addr} {sl_law_bits : Array (Option Value)} {oc_law_bits kv_law_bits dc_law_bits pm_law_bits cd_law_bits ct_law_bits : Value} {f_law_bits : Addr}
    {od_law an_law : Option Addr} {sl_law : Array (Option Value)} {oc_law kv_law dc_law pm_law cd_law ct_law : Value} {f_law : Addr}
    (a_key_octets : PySem.W.nsIn K mainGlobals "key_octets" = some (some (.ref f_key_octets))) (l_key_octets : K.lookup f_key_octets = some ⟨oc_key_octets, od_key_octets, .func (PySem.W.fnOf "key_octets" "key_octets" (defArgs s_key_octets) (defBody s_key_octets) (defScope s_key_octets) .none kv_key_octets dc_key_octets pm_key_octets an_key_octets cd_key_octets ct_key_octets), sl_key_octets⟩) (k_key_octets : PySem.W.codeIn K cd_key_octets "key_octets" = true) (p_key_octets : PySem.W.keepIn K (.ref f_key_octets) = true)
    (a_body : PySem.W.nsIn K mainGlobals "body" = some (some (.ref f_body))) (l_body : K.lookup f_body = some ⟨oc_body, od_body, .func (PySem.W.fnOf "body" "body" (defArgs s_body) (defBody s_body) (defScope s_body) .none kv_body dc_body pm_body an_body cd_body ct_body), sl_body⟩) (k_body : PySem.W.codeIn K cd_body "body" = true) (p_body : PySem.W.keepIn K (.ref f_body) = true)
    (a_value_octets : PySem.W.nsIn K mainGlobals "_value_octets" = some (some (.ref f_value_octets))) (l_value_octets : K.lookup f_value_octets = some ⟨oc_value_octets, od_value_octets, .func (PySem.W.fnOf "_value_octets" "_value_octets" (defArgs s_value_octets) (defBody s_value_octets) (defScope s_value_octets) .none kv_value_octets dc_value_octets pm_value_octets an_value_octets cd_value_octets ct_value_octets), sl_value_octets⟩) (k_value_octets : PySem.W.codeIn K cd_value_octets "_value_octets" = true) (p_value_octets : PySem.W.keepIn K (.ref f_value_octets) = true)
    (a_codes : PySem.W.nsIn K mainGlobals "_codes" = some (some (.ref f_codes))) (l_codes : K.lookup f_codes = some ⟨oc_codes, od_codes, .func (PySem.W.fnOf "_codes" "_codes" (defArgs s_codes) (defBody s_codes) (defScope s_codes) .none kv_codes dc_codes pm_codes an_codes cd_codes ct_codes), sl_codes⟩) (k_codes : PySem.W.codeIn K cd_codes "_codes" = true) (p_codes : PySem.W.keepIn K (.ref f_codes) = true)
    (a_first_bit : PySem.W.nsIn K mainGlobals "first_bit" = some (some (.ref f_first_bit))) (l_first_bit : K.lookup f_first_bit = some ⟨oc_first_bit, od_first_bit, .func (PySem.W.fnOf "first_bit" "first_bit" (defArgs s_first_bit) (defBody s_first_bit) (defScope s_first_bit) .none kv_first_bit dc_first_bit pm_first_bit an_first_bit cd_first_bit ct_first_bit), sl_first_bit⟩) (k_first_bit : PySem.W.codeIn K cd_first_bit "first_bit" = true) (p_first_bit : PySem.W.keepIn K (.ref f_first_bit) = true)
    (a_has_bit : PySem.W.nsIn K mainGlobals "has_bit" = some (some (.ref f_has_bit))) (l_has_bit : K.lookup f_has_bit = some ⟨oc_has_bit, od_has_bit, .func (PySem.W.fnOf "has_bit" "has_bit" (defArgs s_has_bit) (defBody s_has_bit) (defScope s_has_bit) .none kv_has_bit dc_has_bit pm_has_bit an_has_bit cd_has_bit ct_has_bit), sl_has_bit⟩) (k_has_bit : PySem.W.codeIn K cd_has_bit "has_bit" = true) (p_has_bit : PySem.W.keepIn K (.ref f_has_bit) = true)
    (a_law_draws : PySem.W.nsIn K mainGlobals "_law_draws" = some (some (.ref f_law_draws))) (l_law_draws : K.lookup f_law_draws = some ⟨oc_law_draws, od_law_draws, .func (PySem.W.fnOf "_law_draws" "_law_draws" (defArgs s_law_draws) (defBody s_law_draws) (defScope s_law_draws) .none kv_law_draws dc_law_draws pm_law_draws an_law_draws cd_law_draws ct_law_draws), sl_law_draws⟩) (k_law_draws : PySem.W.codeIn K cd_law_draws "_law_draws" = true) (p_law_draws : PySem.W.keepIn K (.ref f_law_draws) = true)
    (a_law_value : PySem.W.nsIn K mainGlobals "_law_value" = some (some (.ref f_law_value))) (l_law_value : K.lookup f_law_value = some ⟨oc_law_value, od_law_value, .func (PySem.W.fnOf "_law_value" "_law_value" (defArgs s_law_value) (defBody s_law_value) (defScope s_law_value) .none kv_law_value dc_law_value pm_law_value an_law_value cd_law_value ct_law_value), sl_law_value⟩) (k_law_value : PySem.W.codeIn K cd_law_value "_law_value" = true) (p_law_value : PySem.W.keepIn K (.ref f_law_value) = true)
    (a_law_key : PySem.W.nsIn K mainGlobals "_law_key" = some (some (.ref f_law_key))) (l_law_key : K.lookup f_law_key = some ⟨oc_law_key, od_law_key, .func (PySem.W.fnOf "_law_key" "_law_key" (defArgs s_law_key) (defBody s_law_key) (defScope s_law_key) .none kv_law_key dc_law_key pm_law_key an_law_key cd_law_key ct_law_key), sl_law_key⟩) (k_law_key : PySem.W.codeIn K cd_law_key "_law_key" = true) (p_law_key : PySem.W.keepIn K (.ref f_law_key) = true)
    (a_law_bits : PySem.W.nsIn K mainGlobals "_law_bits" = some (some (.ref f_law_bits))) (l_law_bits : K.lookup f_law_bits = some ⟨oc_law_bits, od_law_bits, .func (PySem.W.fnOf "_law_bits" "_law_bits" (defArgs s_law_bits) (defBody s_law_bits) (defScope s_law_bits) .none kv_law_bits dc_law_bits pm_law_bits an_law_bits cd_law_bits ct_law_bits), sl_law_bits⟩) (k_law_bits : PySem.W.codeIn K cd_law_bits "_law_bits" = true) (p_law_bits : PySem.W.keepIn K (.ref f_law_bits) = true)
    (a_law : PySem.W.nsIn K mainGlobals "law" = some (some (.ref f_law))) (l_law : K.lookup f_law = some ⟨oc_law, od_law, .func (PySem.W.fnOf "law" "law" (defArgs s_law) (defBody s_law) (defScope s_law) .none kv_law dc_law pm_law an_law cd_law ct_law), sl_law⟩) (k_law : PySem.W.codeIn K cd_law "law" = true) (p_law : PySem.W.keepIn K (.ref f_law) = true)
    (z_tuple : PySem.W.nsIn K mainGlobals "tuple" = some none)
    {t_NUMBER : Tok} (z_NUMBER : PySem.W.nsIn K mainGlobals "_NUMBER" = some (some (.int 1 t_NUMBER)))
    (z_isinstance : PySem.W.nsIn K mainGlobals "isinstance" = some none)
    (z_str : PySem.W.nsIn K mainGlobals "str" = some none)
    {t_TEXT : Tok} (z_TEXT : PySem.W.nsIn K mainGlobals "_TEXT" = some (some (.int 2 t_TEXT)))
    (z_ord : PySem.W.nsIn K mainGlobals "ord" = some none)
    (z_enumerate : PySem.W.nsIn K mainGlobals "enumerate" = some none)
    (z_zip : PySem.W.nsIn K mainGlobals "zip" = some none)
    (z_len : PySem.W.nsIn K mainGlobals "len" = some none)
    (z_range : PySem.W.nsIn K mainGlobals "range" = some none)
    (z_int : PySem.W.nsIn K mainGlobals "int" = some none)
    (z_min : PySem.W.nsIn K mainGlobals "min" = some none) :
    ∃ fd : FuncData, (∀ (s : Shared) (v : Value), BindsTo s fd ⟨[v], []⟩ [("script", v)]) ∧ ∀ base : Heap, K.In base → base.Ns mainGlobals mg → FnOk l.prog w K mg base CX0 5 fa fd ["script"] (spL K fun ns => ns.length ≤ 63) := by
  have e := hfa.symm.trans (PySem.W.mg_of X G a_law)
  cases e
  have T : Gb mg := ⟨PySem.W.mg_none_of X G z_tuple, ⟨_, PySem.W.mg_of X G z_NUMBER⟩, PySem.W.mg_none_of X G z_isinstance, PySem.W.mg_none_of X G z_str, ⟨_, PySem.W.mg_of X G z_TEXT⟩, PySem.W.mg_none_of X G z_ord, PySem.W.mg_none_of X G z_enumerate, PySem.W.mg_none_of X G z_zip, PySem.W.mg_none_of X G z_len, PySem.W.mg_none_of X G z_range, PySem.W.mg_none_of X G z_int, PySem.W.mg_none_of X G z_min⟩
  refine ⟨PySem.W.fnOf "law" "law" (defArgs s_law) (defBody s_law) (defScope s_law) .none kv_law dc_law pm_law an_law cd_law ct_law, fun s v => .of_eq rfl, fun base _ _ => ?_⟩
  have c_law_draws : Cal l.prog w K mg base "_law_draws" 1 R_law_draws := ⟨f_law_draws, _, _, ok_law_draws (fun_mk (st := s_law_draws) l_law_draws k_law_draws p_law_draws) T , PySem.W.mg_of X G a_law_draws, p_law_draws, (fun_mk (st := s_law_draws) l_law_draws k_law_draws p_law_draws).binds (ps := ["cell", "many"]) fun _ _ _ _ _ _ us hl => match us, hl with | [_, _], _ => rfl⟩
  have c_codes : Cal l.prog w K mg base "_codes" 1 R_codes := ⟨f_codes, _, _, ok_codes (fun_mk (st := s_codes) l_codes k_codes p_codes) T , PySem.W.mg_of X G a_codes, p_codes, (fun_mk (st := s_codes) l_codes k_codes p_codes).binds (ps := ["text"]) fun _ _ _ _ _ _ us hl => match us, hl with | [_], _ => rfl⟩
  have c_value_octets : Cal l.prog w K mg base "_value_octets" 2 R_value_octets := ⟨f_value_octets, _, _, ok_value_octets (fun_mk (st := s_value_octets) l_value_octets k_value_octets p_value_octets) T c_codes, PySem.W.mg_of X G a_value_octets, p_value_octets, (fun_mk (st := s_value_octets) l_value_octets k_value_octets p_value_octets).binds (ps := ["value"]) fun _ _ _ _ _ _ us hl => match us, hl with | [_], _ => rfl⟩
  have c_body : Cal l.prog w K mg base "body" 3 R_body := ⟨f_body, _, _, ok_body (fun_mk (st := s_body) l_body k_body p_body) T c_value_octets, PySem.W.mg_of X G a_body, p_body, (fun_mk (st := s_body) l_body k_body p_body).binds (ps := ["values"]) fun _ _ _ _ _ _ us hl => match us, hl with | [_], _ => rfl⟩
  have c_key_octets : Cal l.prog w K mg base "key_octets" 4 R_key_octets := ⟨f_key_octets, _, _, ok_key_octets (fun_mk (st := s_key_octets) l_key_octets k_key_octets p_key_octets) T c_body, PySem.W.mg_of X G a_key_octets, p_key_octets, (fun_mk (st := s_key_octets) l_key_octets k_key_octets p_key_octets).binds (ps := ["key"]) fun _ _ _ _ _ _ us hl => match us, hl with | [_], _ => rfl⟩
  have c_first_bit : Cal l.prog w K mg base "first_bit" 1 R_first_bit := ⟨f_first_bit, _, _, ok_first_bit (fun_mk (st := s_first_bit) l_first_bit k_first_bit p_first_bit) T , PySem.W.mg_of X G a_first_bit, p_first_bit, (fun_mk (st := s_first_bit) l_first_bit k_first_bit p_first_bit).binds (ps := ["one", "other"]) fun _ _ _ _ _ _ us hl => match us, hl with | [_, _], _ => rfl⟩
  have c_law_value : Cal l.prog w K mg base "_law_value" 1 R_law_value := ⟨f_law_value, _, _, ok_law_value (fun_mk (st := s_law_value) l_law_value k_law_value p_law_value) T , PySem.W.mg_of X G a_law_value, p_law_value, (fun_mk (st := s_law_value) l_law_value k_law_value p_law_value).binds (ps := ["draw"]) fun _ _ _ _ _ _ us hl => match us, hl with | [_], _ => rfl⟩
  have c_law_key : Cal l.prog w K mg base "_law_key" 2 R_law_key := ⟨f_law_key, _, _, ok_law_key (fun_mk (st := s_law_key) l_law_key k_law_key p_law_key) T c_law_value, PySem.W.mg_of X G a_law_key, p_law_key, (fun_mk (st := s_law_key) l_law_key k_law_key p_law_key).binds (ps := ["draws"]) fun _ _ _ _ _ _ us hl => match us, hl with | [_], _ => rfl⟩
  have c_law_bits : Cal l.prog w K mg base "_law_bits" 1 R_law_bits := ⟨f_law_bits, _, _, ok_law_bits (fun_mk (st := s_law_bits) l_law_bits k_law_bits p_law_bits) T , PySem.W.mg_of X G a_law_bits, p_law_bits, (fun_mk (st := s_law_bits) l_law_bits k_law_bits p_law_bits).binds (ps := ["octets"]) fun _ _ _ _ _ _ us hl => match us, hl with | [_], _ => rfl⟩
  have c_has_bit : Cal l.prog w K mg base "has_bit" 1 R_has_bit := ⟨f_has_bit, _, _, ok_has_bit (fun_mk (st := s_has_bit) l_has_bit k_has_bit p_has_bit) T , PySem.W.mg_of X G a_has_bit, p_has_bit, (fun_mk (st := s_has_bit) l_has_bit k_has_bit p_has_bit).binds (ps := ["octets", "number"]) fun _ _ _ _ _ _ us hl => match us, hl with | [_, _], _ => rfl⟩
  exact ok_law (fun_mk (st := s_law) l_law k_law p_law) T c_law_draws c_key_octets c_first_bit c_law_key c_law_bits c_has_bit
theorem walkL {l : PySem.W.OpenLaw} {q : Program} {loose : List Str} {XP : (Str → Option Value) → Heap → Prop} {YP : World → Heap → Prop} {d : DefRec} {K : Params → PySem.W.Frag} (hn : l.most = some 63) (hdf : d.params.defaults = [])
    (hY : ∀ (w : World) (h : Heap), YP w h → (K w.params).In h)
    (F : ∀ (w : World) (mg : Str → Option Value) (fa : Addr) (h : Heap), (K w.params).In h → h.Ns mainGlobals mg → mg d.name = some (.ref fa) → ∃ fd : FuncData, (∀ (s : Shared) (u : Value), BindsTo s fd ⟨[u], []⟩ [("script", u)]) ∧ ∀ base : Heap, (K w.params).In base → base.Ns mainGlobals mg → FnOk l.prog w (K w.params) mg base CX0 5 fa fd ["script"] (spL (K w.params) fun ns => ns.length ≤ 63)) :
    PySem.W.WalkO q loose XP YP l.row.toRowW d [] (fun f vs => PySem.call f vs) :=
  L2.walk_of (n := 63) (k := 5) (x := "script") (CX := fun _ => CX0) (sp := fun w => spL (K w.params) fun ns => ns.length ≤ 63) hn (by decide) hdf ⟨rfl, by decide, by decide⟩ hY F (fun _ _ a ns hl _ hS => ⟨a, ns, rfl, hS, hl, fun _ => rfl⟩) fun _ _ _ _ _ z => z
end My
open PySem PySem.W PyProof.Rows in
set_option maxRecDepth 100000 in
set_option maxHeartbeats 0 in
theorem PySem.Challenge.cw_askedthen_k02_octets_bits_in_order_holds : PySem.Challenge.rw_askedthen_k02_octets_bits_in_order.Holds := by
  w_on; o_law; k_head; (case hw => w_witness2)
  k_fill
  refine My.walkL (l := PySem.Challenge.rw_askedthen_k02_octets_bits_in_order) rfl rfl (fun w h Y => PySem.W.kIn_of Y) ?F
  case F =>
    intro w mg fa h KX G hmg
    refine' My.all_mk KX G hmg ?a_key_octets ?l_key_octets ?k_key_octets ?p_key_octets ?a_body ?l_body ?k_body ?p_body ?a_value_octets ?l_value_octets ?k_value_octets ?p_value_octets ?a_codes ?l_codes ?k_codes ?p_codes ?a_first_bit ?l_first_bit ?k_first_bit ?p_first_bit ?a_has_bit ?l_has_bit ?k_has_bit ?p_has_bit ?a_law_draws ?l_law_draws ?k_law_draws ?p_law_draws ?a_law_value ?l_law_value ?k_law_value ?p_law_value ?a_law_key ?l_law_key ?k_law_key ?p_law_key ?a_law_bits ?l_law_bits ?k_law_bits ?p_law_bits ?a_law ?l_law ?k_law ?p_law ?z_tuple ?z_NUMBER ?z_isinstance ?z_str ?z_TEXT ?z_ord ?z_enumerate ?z_zip ?z_len ?z_range ?z_int ?z_min
    (case a_key_octets => k_is)
    (case l_key_octets => k_is)
    (case k_key_octets => k_is)
    (case p_key_octets => k_is)
    (case a_body => k_is)
    (case l_body => k_is)
    (case k_body => k_is)
    (case p_body => k_is)
    (case a_value_octets => k_is)
    (case l_value_octets => k_is)
    (case k_value_octets => k_is)
    (case p_value_octets => k_is)
    (case a_codes => k_is)
    (case l_codes => k_is)
    (case k_codes => k_is)
    (case p_codes => k_is)
    (case a_first_bit => k_is)
    (case l_first_bit => k_is)
    (case k_first_bit => k_is)
    (case p_first_bit => k_is)
    (case a_has_bit => k_is)
    (case l_has_bit => k_is)
    (case k_has_bit => k_is)
    (case p_has_bit => k_is)
    (case a_law_draws => k_is)
    (case l_law_draws => k_is)
    (case k_law_draws => k_is)
    (case p_law_draws => k_is)
    (case a_law_value => k_is)
    (case l_law_value => k_is)
    (case k_law_value => k_is)
    (case p_law_value => k_is)
    (case a_law_key => k_is)
    (case l_law_key => k_is)
    (case k_law_key => k_is)
    (case p_law_key => k_is)
    (case a_law_bits => k_is)
    (case l_law_bits => k_is)
    (case k_law_bits => k_is)
    (case p_law_bits => k_is)
    (case a_law => k_is)
    (case l_law => k_is)
    (case k_law => k_is)
    (case p_law => k_is)
    (case z_tuple => k_is)
    (case z_NUMBER => k_is)
    (case z_isinstance => k_is)
    (case z_str => k_is)
    (case z_TEXT => k_is)
    (case z_ord => k_is)
    (case z_enumerate => k_is)
    (case z_zip => k_is)
    (case z_len => k_is)
    (case z_range => k_is)
    (case z_int => k_is)
    (case z_min => k_is)