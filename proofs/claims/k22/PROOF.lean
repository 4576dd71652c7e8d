import PyProof.Rows.All
import Wide.All
import OpenK.AllK
import Wide.FinOn
import HandS.ForMost
import HandS.IsInst
import HandS.TupAny
import HandS.Walk
import HandS.Codes
import HandS.DictComp
import HandS.Zip
import HandS.WideBits
import HandS.TupLe
import HandS.Deep
import HandS.AnyAll
import HandS.EndTab
import KE.KDictKeyed
import KE.KDictWalk
import KE.KeyNested
import HandS.Flow
import HandS.GenCall
import HandS.GenList
import HandS.EndOwn
import HandS.Style
import HandS.Nested
import HandS.TupMul
import HandS.Star
import HandS.SortRule
import HandS.SortInts
import HandS.Iter
import HandS.Exc
import HandS.ExcOwn
import HandS.ExcInit
import HandS.ExcField
import HandS.WordsExc
import HandS.CallLocal
import HandS.RevRange
import HandS.Conv
import HandS.Small
import KE.GoesEnum
import KE.DataMinMax
import KE.SortData
import HandS.Text
import KE.KDictSum
import KE.KDictCopyH
import KE.KWords
import PySem.Challenge.RW_askedthen_k22_wishes_are_fulfilled
set_option Elab.async false
set_option linter.all false
set_option maxRecDepth 100000
set_option maxHeartbeats 2000000
/-! HF: readings over pure data, the heap hidden. -/
namespace HF
open PySem L2 PySem.Spec PyProof.Rows

abbrev D := PyData
/-- the fragment, and which tables of code objects are to stand -/
structure Fg where
  fr : PySem.W.Frag
  T : Addr → Prop
  Gv : Str → V
  w : World
instance : Coe Fg PySem.W.Frag := ⟨Fg.fr⟩
/-- what stands keeps standing; tables of code objects may grow -/
def isTab : HO → Bool
  | .tbl _ => true
  | _ => false
structure Same (H H' : Hp) : Prop where
  ob : ∀ a o, isTab o = false → H a = some o → H' a = some o
  tb : ∀ P, GxR.TabG H P → GxR.TabG H' P
  th : ∀ a, H a ≠ none → H' a ≠ none
theorem same_of {H H' : Hp} (h : ∀ a o, H a = some o → H' a = some o) : Same H H' := ⟨fun a o _ e => h a o e, fun P ⟨ps, e, t⟩ => ⟨ps, h _ _ e, t⟩, fun a n z => by
  cases e : H a with
  | none => exact n e
  | some o => rw [h a o e] at z; cases z⟩
theorem Same.refl (H : Hp) : Same H H := same_of fun _ _ e => e
theorem Same.trans {H H1 H2 : Hp} (a : Same H H1) (b : Same H1 H2) : Same H H2 := ⟨fun c o n e => b.ob c o n (a.ob c o n e), fun P t => b.tb P (a.tb P t), fun c n => b.th c (a.th c n)⟩
theorem Same.none {H H' : Hp} (s : Same H H') {a : Addr} (h : H' a = Option.none) : H a = Option.none := by
  cases e : H a with
  | none => rfl
  | some o => exact absurd h (s.th a (by rw [e]; exact fun z => by cases z))
/-- H without the addresses of A -/
def hide (A : Addr → Bool) (H : Hp) : Hp := fun a => if A a = true then none else H a
theorem hide_out {A : Addr → Bool} {H : Hp} {a : Addr} (h : A a = false) : hide A H a = H a := by
  unfold hide; rw [if_neg (by rw [h]; decide)]
theorem hide_some {A : Addr → Bool} {H : Hp} {a : Addr} {o : HO} (h : hide A H a = some o) : A a = false ∧ H a = some o := by
  unfold hide at h
  cases e : A a with
  | true => rw [if_pos e] at h; cases h
  | false => rw [if_neg (by rw [e]; decide)] at h; exact ⟨rfl, h⟩
theorem hide_in {A : Addr → Bool} {H : Hp} {a : Addr} (h : A a = false) (n : H a ≠ none) : hide A H a ≠ none := by rw [hide_out h]; exact n
theorem hide_th {A : Addr → Bool} {H : Hp} {a : Addr} (n : hide A H a ≠ none) : A a = false ∧ H a ≠ none := by
  cases e : hide A H a with
  | none => exact absurd e n
  | some o => exact ⟨(hide_some e).1, by rw [(hide_some e).2]; exact fun z => by cases z⟩
theorem hide_tab {A : Addr → Bool} {H : Hp} {P : Addr} (t : GxR.TabG (hide A H) P) : A P = false ∧ GxR.TabG H P := by
  obtain ⟨ps, e, t⟩ := t
  exact ⟨(hide_some e).1, ps, (hide_some e).2, t⟩
theorem tab_hide {A : Addr → Bool} {H : Hp} {P : Addr} (h : A P = false) (t : GxR.TabG H P) : GxR.TabG (hide A H) P := by
  obtain ⟨ps, e, t⟩ := t
  exact ⟨ps, by rw [hide_out h]; exact e, t⟩
theorem hide_sub {A : Addr → Bool} {H : Hp} : Same (hide A H) H := same_of fun _ _ h => (hide_some h).2

def adda (A : Addr → Bool) (p : Addr) : Addr → Bool := fun a => A a || a == p
def dela (A : Addr → Bool) (p : Addr) : Addr → Bool := fun a => A a && !(a == p)
theorem adda_self {A : Addr → Bool} {p : Addr} : adda A p p = true := by simp [adda]
theorem adda_of {A : Addr → Bool} {p a : Addr} (h : A a = true) : adda A p a = true := by simp [adda, h]
theorem adda_ne {A : Addr → Bool} {p a : Addr} (h : a ≠ p) : adda A p a = A a := by simp [adda, h]
theorem adda_false {A : Addr → Bool} {p a : Addr} (h : adda A p a = false) : A a = false ∧ a ≠ p := by simpa [adda] using h
theorem dela_self {A : Addr → Bool} {p : Addr} : dela A p p = false := by simp [dela]
theorem dela_ne {A : Addr → Bool} {p a : Addr} (h : a ≠ p) : dela A p a = A a := by simp [dela, h]
theorem dela_true {A : Addr → Bool} {p a : Addr} (h : dela A p a = true) : A a = true ∧ a ≠ p := by simpa [dela] using h

/-- all that A protects stands -/
def Live (A : Addr → Bool) (H : Hp) : Prop := ∀ p, A p = true → H p ≠ none
structure Grow (A : Addr → Bool) (H H' : Hp) : Prop where
  ex : Same (hide A H) (hide A H')
  eq : ∀ p, A p = true → H' p = H p
theorem Grow.refl {A : Addr → Bool} (H : Hp) : Grow A H H := ⟨Same.refl _, fun _ _ => rfl⟩
theorem Grow.trans {A : Addr → Bool} {H H1 H2 : Hp} (a : Grow A H H1) (b : Grow A H1 H2) : Grow A H H2 :=
  ⟨a.ex.trans b.ex, fun p h => (b.eq p h).trans (a.eq p h)⟩
theorem Grow.live {A : Addr → Bool} {H H' : Hp} (g : Grow A H H') (l : Live A H) : Live A H' := fun p h => by rw [g.eq p h]; exact l p h
theorem Grow.same {A : Addr → Bool} {H H' : Hp} (g : Grow A H H') : Same H H' where
  ob := fun a o n h => by
    cases e : A a with
    | true => rw [g.eq a e]; exact h
    | false => exact (hide_some (g.ex.ob a o n (by rw [hide_out e]; exact h))).2
  tb := fun P t => by
    cases e : A P with
    | true =>
      obtain ⟨ps, h, t⟩ := t
      exact ⟨ps, by rw [g.eq P e]; exact h, t⟩
    | false => exact (hide_tab (g.ex.tb P (tab_hide e t))).2
  th := fun a n => by
    cases e : A a with
    | true => rw [g.eq a e]; exact n
    | false => exact (hide_th (g.ex.th a (hide_in e n))).2
theorem Live.out {A : Addr → Bool} {H : Hp} (l : Live A H) {p : Addr} (h : H p = none) : A p = false := by
  cases e : A p with
  | false => rfl
  | true => exact absurd h (l p e)
theorem same_upd {H : Hp} {p : Addr} {o : HO} (h : H p = none) : Same H (upd H p o) := same_of fun a u e => by
  rw [upd_ne (ne_of_none e h)]; exact e
theorem Grow.new {A : Addr → Bool} {H : Hp} (l : Live A H) {p : Addr} {o : HO} (h : H p = none) : Grow A H (upd H p o) := by
  refine ⟨same_of fun a u e => ?_, fun q hq => ?_⟩
  · obtain ⟨h1, h2⟩ := hide_some e
    rw [hide_out h1, upd_ne (ne_of_none h2 h)]; exact h2
  · have : q ≠ p := fun e => l q hq (by rw [e]; exact h)
    exact upd_ne this
theorem hide_new {A : Addr → Bool} {H : Hp} (l : Live A H) {p : Addr} {o : HO} (h : H p = none) : hide A (upd H p o) p = some o := by
  rw [hide_out (l.out h)]; exact upd_same

theorem Same.via {X Y X' Y' : Hp} (s : Same X Y) (f : ∀ a, X' a ≠ Option.none → X' a = X a) (g : ∀ a, X' a ≠ Option.none → Y a ≠ Option.none → Y' a = Y a) : Same X' Y' where
  ob := fun a o n e => by
    have h0 : X' a ≠ Option.none := by rw [e]; exact fun z => by cases z
    have h1 := s.ob a o n ((f a h0).symm.trans e)
    rw [g a h0 (by rw [h1]; exact fun z => by cases z)]; exact h1
  tb := fun P ⟨ps, e, t⟩ => by
    have h0 : X' P ≠ Option.none := by rw [e]; exact fun z => by cases z
    obtain ⟨qs, e2, t2⟩ := s.tb P ⟨ps, (f P h0).symm.trans e, t⟩
    exact ⟨qs, by rw [g P h0 (by rw [e2]; exact fun z => by cases z)]; exact e2, t2⟩
  th := fun a n => by
    have h1 := s.th a (by rw [← f a n]; exact n)
    rw [g a n h1]; exact h1
theorem hide_adda_ne {A : Addr → Bool} {H : Hp} {p a : Addr} (h : a ≠ p) : hide (adda A p) H a = hide A H a := by unfold hide; rw [adda_ne h]
/-! ### data that is held -/
def keyD : Key → D
  | .inl i => .int i
  | .inr z => .str z
/-- a list that is tracked, locked or written, its object known whole -/
def SqX (K : PySem.W.Frag) (H : Hp) (a : Addr) (xs : List V) : Prop :=
  Rd H a (.lst xs) ∨ ∃ (its : Array Value) (n : Nat), K.lookup a = some { cls := .type "list", data := .seq its n } ∧ its.size ≤ sizeLine ∧ Vals xs its.toList
theorem SqX.sl {K : PySem.W.Frag} {H : Hp} {a : Addr} {xs : List V} (h : SqX K H a xs) : SqL K H a xs := by
  rcases h with h | ⟨its, n, h, hz, r⟩
  · exact .inl h
  · exact .inr ⟨_, its, n, h, rfl, rfl, rfl, hz, r⟩
/-! keys of dicts: tuples -/
mutual
def keyN : D → Option NestedKey
  | .none => some .none
  | .bool b => some (.num (if b = true then 1 else 0))
  | .int i => some (.num i)
  | .str x => some (.text x)
  | .tuple ds => (keyNs ds).map NestedKey.tup
  | .list _ => none
  | .dict _ => none
def keyNs : List D → Option (List NestedKey)
  | [] => some []
  | d :: ds => match keyN d with
    | some k => (keyNs ds).map (k :: ·)
    | none => none
end
/-- a tuple that may be a key -/
def keyT : D → Option NestedKey
  | .tuple ds => (match keyNs ds with
    | some ks => if (NestedKey.tup ks).depth ≤ 8 then some (.tup ks) else none
    | none => none)
  | _ => none
/-- a dict whose keys are tuples; its object is known -/
def DctO (w : World) (a : Addr) (o : Obj) (es : List (NestedKey × V × V)) : HO := .ext fun h => h.get? a = some o ∧ o.ExactDict ∧ es.length ≤ sizeLine ∧ (a == sysModules) = false ∧ (es.map (·.1)).Nodup ∧
  ∃ (ds : Array DictEntry) (ep : Nat), o.data = .dict ds ep ∧ Paired (fun (e : NestedKey × V × V) (d : DictEntry) => d.hash = e.1.hash w ∧ RelV e.2.1 d.key ∧ RelV e.2.2 d.val) es ds.toList
mutual
/-- a value is this data; lists are tracked -/
inductive Dq (K : Fg) (H : Hp) : V → D → Prop
  | non : Dq K H .non .none
  | bl (b : Bool) : Dq K H (.bl b) (.bool b)
  | int (i : Int) : Dq K H (.int i) (.int i)
  | str (x : Str) : Dq K H (.str x) (.str x)
  | lst {a : Addr} {xs : List V} {ds : List D} : SqX K H a xs → DqAll K H xs ds → Dq K H (.ref a) (.list ds)
  | tup {a : Addr} {xs : List V} {ds : List D} : SqT K H a xs → DqAll K H xs ds → Dq K H (.ref a) (.tuple ds)
  | obj {a C dx : Addr} {nm : Str} {fs : List (Str × V)} {ds : List D} {kd : List (D × D)} : K.Gv nm = .ref C → H a = some (.ins C dx fs) → H dx = some (.own a) → DqAll K H (fs.map (·.2)) ds → kd = (.none, .str nm) :: (fs.map fun f => PyData.str f.1).zip ds → Dq K H (.ref a) (.dict kd)
  | dik {a : Addr} {kvs : List (Key × V)} {ds : List D} {kd : List (D × D)} : Rd H a (.dK kvs) → DqAll K H (kvs.map (·.2)) ds → kd = (kvs.map fun f => keyD f.1).zip ds → Dq K H (.ref a) (.dict kd)
  | dit {a : Addr} {o : Obj} {es : List (NestedKey × V × V)} {kds ds : List D} {kd : List (D × D)} : H a = some (DctO K.w a o es) → DqAll K H (es.map (·.2.1)) kds → DqAll K H (es.map (·.2.2)) ds → kds.map keyT = es.map (fun e => some e.1) → kd = (.bool false, .none) :: kds.zip ds → Dq K H (.ref a) (.dict kd)
  | fn {f : Addr} {nm : Str} : K.Gv nm = .ref f → Dq K H (.ref f) (.dict [(.bool true, .str nm)])
inductive DqAll (K : Fg) (H : Hp) : List V → List D → Prop
  | nil : DqAll K H [] []
  | cons {v : V} {vs : List V} {d : D} {ds : List D} : Dq K H v d → DqAll K H vs ds → DqAll K H (v :: vs) (d :: ds)
end
section
variable {K : Fg} {H H' : Hp}
theorem rd_mono {a : Addr} {u : HO} (e : Same H H') (h : Rd H a u) (n : isTab u = false := by rfl) : Rd H' a u := by
  rcases h with h | ⟨o, h⟩
  · exact Or.inl (e.ob a _ n h)
  · exact Or.inr ⟨o, e.ob a _ rfl h⟩
theorem sl_mono {a : Addr} {xs : List V} (e : Same H H') (h : SqL K H a xs) : SqL K H' a xs := by
  rcases h with h | h
  · exact Or.inl (rd_mono e h)
  · exact Or.inr h
theorem sx_mono {a : Addr} {xs : List V} (e : Same H H') (h : SqX K H a xs) : SqX K H' a xs := by
  rcases h with h | h
  · exact Or.inl (rd_mono e h)
  · exact Or.inr h
theorem st_mono {a : Addr} {xs : List V} (e : Same H H') (h : SqT K H a xs) : SqT K H' a xs := by
  rcases h with h | h
  · exact Or.inl (rd_mono e h)
  · exact Or.inr h
mutual
theorem dp_mono (e : Same H H') : ∀ {v : V} {d : D}, Dq K H v d → Dq K H' v d
  | _, _, .non => .non
  | _, _, .bl b => .bl b
  | _, _, .int i => .int i
  | _, _, .str x => .str x
  | _, _, .lst h a => .lst (sx_mono e h) (dpa_mono e a)
  | _, _, .tup h a => .tup (st_mono e h) (dpa_mono e a)
  | _, _, .obj h0 h1 h2 a q => .obj h0 (e.ob _ _ rfl h1) (e.ob _ _ rfl h2) (dpa_mono e a) q
  | _, _, .dik h a q => .dik (rd_mono e h) (dpa_mono e a) q
  | _, _, .dit h b a k q => .dit (e.ob _ _ rfl h) (dpa_mono e b) (dpa_mono e a) k q
  | _, _, .fn h => .fn h
theorem dpa_mono (e : Same H H') : ∀ {vs : List V} {ds : List D}, DqAll K H vs ds → DqAll K H' vs ds
  | _, _, .nil => .nil
  | _, _, .cons h t => .cons (dp_mono e h) (dpa_mono e t)
end
mutual
theorem dq_dp : ∀ {v : V} {d : D}, Dq K H v d → d.canLay0 = true → Dp K H v d
  | _, _, .non, _ => .non
  | _, _, .bl b, _ => .bl b
  | _, _, .int i, _ => .int i
  | _, _, .str x, _ => .str x
  | _, _, .lst h a, q => .lst h.sl (dqa_dpa a (by simpa only [PyData.canLay0] using q))
  | _, _, .tup h a, q => .tup h (dqa_dpa a (by simpa only [PyData.canLay0] using q))
  | _, _, .obj _ _ _ _ _, q => by simp only [PyData.canLay0] at q; cases q
  | _, _, .dik _ _ _, q => by simp only [PyData.canLay0] at q; cases q
  | _, _, .dit _ _ _ _ _, q => by simp only [PyData.canLay0] at q; cases q
  | _, _, .fn _, q => by simp only [PyData.canLay0] at q; cases q
theorem dqa_dpa : ∀ {vs : List V} {ds : List D}, DqAll K H vs ds → PyData.canLayAll0 ds = true → DpAll K H vs ds
  | _, _, .nil, _ => .nil
  | _, _, .cons h t, q => by
    simp only [PyData.canLayAll0, Bool.and_eq_true] at q
    exact .cons (dq_dp h q.1) (dqa_dpa t q.2)
end
theorem dpa_len : ∀ {vs : List V} {ds : List D}, DqAll K H vs ds → vs.length = ds.length
  | _, _, .nil => rfl
  | _, _, .cons _ t => congrArg (· + 1) (dpa_len t)
theorem dpa_get : ∀ {vs : List V} {ds : List D} {i : Nat} {d : D}, DqAll K H vs ds → ds[i]? = some d → ∃ v, vs[i]? = some v ∧ Dq K H v d
  | _, _, _, _, .nil, e => by simp at e
  | _, _, 0, _, .cons h _, e => by
    cases (Option.some.inj e)
    exact ⟨_, rfl, h⟩
  | _, _, i + 1, d, .cons _ t, e => by
    obtain ⟨v, h1, h2⟩ := dpa_get (i := i) (d := d) t (by simpa using e)
    exact ⟨v, by simpa using h1, h2⟩
theorem dpa_get' : ∀ {vs : List V} {ds : List D} {i : Nat} {v : V}, DqAll K H vs ds → vs[i]? = some v → ∃ d, ds[i]? = some d ∧ Dq K H v d
  | _, _, _, _, .nil, e => by simp at e
  | _, _, 0, _, .cons h _, e => by
    cases (Option.some.inj e)
    exact ⟨_, rfl, h⟩
  | _, _, i + 1, d, .cons _ t, e => by
    obtain ⟨v, h1, h2⟩ := dpa_get' (i := i) t (by simpa using e)
    exact ⟨v, by simpa using h1, h2⟩
theorem dpa_append : ∀ {vs ws : List V} {ds es : List D}, DqAll K H vs ds → DqAll K H ws es → DqAll K H (vs ++ ws) (ds ++ es)
  | _, _, _, _, .nil, s => s
  | _, _, _, _, .cons h t, s => .cons h (dpa_append t s)
theorem dpa_take : ∀ {vs : List V} {ds : List D} (n : Nat), DqAll K H vs ds → DqAll K H (vs.take n) (ds.take n)
  | _, _, 0, _ => .nil
  | _, _, _ + 1, .nil => .nil
  | _, _, n + 1, .cons h t => .cons h (dpa_take n t)
theorem dpa_drop : ∀ {vs : List V} {ds : List D} (n : Nat), DqAll K H vs ds → DqAll K H (vs.drop n) (ds.drop n)
  | _, _, 0, r => r
  | _, _, _ + 1, .nil => .nil
  | _, _, n + 1, .cons _ t => dpa_drop n t
theorem dpa_set : ∀ {vs : List V} {ds : List D} {v : V} {d : D} (i : Nat), DqAll K H vs ds → Dq K H v d → DqAll K H (vs.set i v) (ds.set i d)
  | _, _, _, _, _, .nil, _ => .nil
  | _, _, _, _, 0, .cons _ t, h => .cons h t
  | _, _, _, _, i + 1, .cons q t, h => .cons q (dpa_set i t h)
theorem dpa_cut {vs : List V} {ds : List D} (h : DqAll K H vs ds) (lo hi : Option Int) :
    DqAll K H (cutV vs lo hi) ((ds.drop (HT.sIx ds.length 0 lo)).take (HT.sIx ds.length ds.length hi - HT.sIx ds.length 0 lo)) := by
  unfold cutV
  rw [dpa_len h]
  exact dpa_take _ (dpa_drop _ h)
theorem dp_int {v : V} {i : Int} (h : Dq K H v (.int i)) : v = .int i := by cases h; rfl
theorem dp_bl {v : V} {b : Bool} (h : Dq K H v (.bool b)) : v = .bl b := by cases h; rfl
theorem dp_str {v : V} {x : Str} (h : Dq K H v (.str x)) : v = .str x := by cases h; rfl
theorem dp_non {v : V} (h : Dq K H v .none) : v = .non := by cases h; rfl
theorem dp_lst {v : V} {ds : List D} (h : Dq K H v (.list ds)) : ∃ a xs, v = .ref a ∧ SqX K H a xs ∧ DqAll K H xs ds := by
  cases h with | lst h1 h2 => exact ⟨_, _, rfl, h1, h2⟩
theorem dp_tup {v : V} {ds : List D} (h : Dq K H v (.tuple ds)) : ∃ a xs, v = .ref a ∧ SqT K H a xs ∧ DqAll K H xs ds := by
  cases h with | tup h1 h2 => exact ⟨_, _, rfl, h1, h2⟩
theorem dpa_ints : ∀ {vs : List V} {ns : List Int}, DqAll K H vs (ns.map .int) → vs = ns.map V.int
  | _, [], .nil => rfl
  | _, n :: ns, .cons h t => by rw [dp_int h, dpa_ints t]; rfl
theorem dpa_bls : ∀ {vs : List V} {ns : List Bool}, DqAll K H vs (ns.map .bool) → vs = ns.map V.bl
  | _, [], .nil => rfl
  | _, n :: ns, .cons h t => by rw [dp_bl h, dpa_bls t]; rfl
theorem dpa_strs : ∀ {vs : List V} {ns : List Str}, DqAll K H vs (ns.map .str) → vs = ns.map V.str
  | _, [], .nil => rfl
  | _, n :: ns, .cons h t => by rw [dp_str h, dpa_strs t]; rfl
theorem ints_dpa : ∀ (ns : List Int), DqAll K H (ns.map V.int) (ns.map .int)
  | [] => .nil
  | n :: ns => .cons (.int n) (ints_dpa ns)
theorem strs_dpa : ∀ (ns : List Str), DqAll K H (ns.map V.str) (ns.map .str)
  | [] => .nil
  | n :: ns => .cons (.str n) (strs_dpa ns)
end

/-! ### exceptions -/
structure Exn where
  cls : Str
  fs : List (Str × D)
/-- H tells of an exception of the class cls, with the dict d, what x says -/
def ExOk (K : Fg) (H : Hp) (x : Exn) (cls : Value) (d : Option Addr) : Prop :=
  ∃ C : Addr, K.Gv x.cls = .ref C ∧ cls = .ref C ∧ ((x.fs = [] ∧ d = Option.none) ∨ ∃ (dx : Addr) (fvs : List (Str × V)) (ds : List D), d = some dx ∧ H dx = some (.xd fvs) ∧ DqAll K H (fvs.map (·.2)) ds ∧ x.fs = (fvs.map (·.1)).zip ds)
theorem ex_mono {K : Fg} {H H' : Hp} {x : Exn} {cls : Value} {d : Option Addr} (e : Same H H') (h : ExOk K H x cls d) : ExOk K H' x cls d := by
  obtain ⟨C, h1, h2, h3⟩ := h
  refine ⟨C, h1, h2, ?_⟩
  rcases h3 with h3 | ⟨dx, fvs, ds, e1, e2, e3, e4⟩
  · exact .inl h3
  · exact .inr ⟨dx, fvs, ds, e1, e.ob _ _ rfl e2, dpa_mono e e3, e4⟩
/-! ### the slots -/
mutual
/-- what a def has made for itself and may change -/
inductive Ow where
  | ls (ds : List D)
  | dk (ks : List Key) (fs : List Fd)
  | dt (kds : List D) (fs : List Fd)
  | ob (nm : Str) (ns : List Str) (fs : List Fd)
/-- what lies in it: data that is shared, or own again -/
inductive Fd where
  | da (d : D)
  | ow (o : Ow)
end
/-- what a slot holds: data that is shared; what is its own -/
inductive Sl where
  | sh (d : D)
  | ow (a : Option Addr) (o : Ow)
  | kl (ds : List D)
  | ex (a : Addr) (d : Option Addr) (x : Exn)
abbrev En := List (Option Sl)
def Sl.own : Sl → Bool
  | .ow _ _ => true
  | _ => false
mutual
/-- at p, of the place pi, stands o; Hh is what is shared; P says which addresses are whose -/
inductive OwOk (K : Fg) (Hh H : Hp) (P : Addr → List Nat → Prop) : List Nat → Addr → Ow → Prop
  | ls {pi : List Nat} {p : Addr} {vs : List V} {ds : List D} : P p pi → H p = some (.lst vs) → DqAll K Hh vs ds → OwOk K Hh H P pi p (.ls ds)
  | dk {pi : List Nat} {p : Addr} {kvs : List (Key × V)} {ks : List Key} {fs : List Fd} : P p pi → H p = some (.dK kvs) → kvs.map (·.1) = ks → FdAll K Hh H P pi 1 (kvs.map (·.2)) fs → OwOk K Hh H P pi p (.dk ks fs)
  | dt {pi : List Nat} {p : Addr} {ob : Obj} {es : List (NestedKey × V × V)} {kds : List D} {fs : List Fd} : P p pi → H p = some (DctO K.w p ob es) → DqAll K Hh (es.map (·.2.1)) kds → kds.map keyT = es.map (fun e => some e.1) → FdAll K Hh H P pi 1 (es.map (·.2.2)) fs → OwOk K Hh H P pi p (.dt kds fs)
  | ob {pi : List Nat} {p dx C : Addr} {nm : Str} {fvs : List (Str × V)} {ns : List Str} {fs : List Fd} : P p pi → P dx (0 :: pi) → K.Gv nm = .ref C → H p = some (.ins C dx fvs) → H dx = some (.own p) → fvs.map (·.1) = ns → FdAll K Hh H P pi 1 (fvs.map (·.2)) fs → OwOk K Hh H P pi p (.ob nm ns fs)
inductive FdAll (K : Fg) (Hh H : Hp) (P : Addr → List Nat → Prop) : List Nat → Nat → List V → List Fd → Prop
  | nil {pi : List Nat} {k : Nat} : FdAll K Hh H P pi k [] []
  | da {pi : List Nat} {k : Nat} {v : V} {vs : List V} {d : D} {fs : List Fd} : Dq K Hh v d → FdAll K Hh H P pi (k + 1) vs fs → FdAll K Hh H P pi k (v :: vs) (.da d :: fs)
  | ow {pi : List Nat} {k : Nat} {q : Addr} {vs : List V} {o : Ow} {fs : List Fd} : OwOk K Hh H P (k :: pi) q o → FdAll K Hh H P pi (k + 1) vs fs → FdAll K Hh H P pi k (.ref q :: vs) (.ow o :: fs)
end
section
variable {K : Fg} {Hh H Hh' H' : Hp} {P P' : Addr → List Nat → Prop}
mutual
/-- what is its own stands where its addresses stand -/
theorem ow_keep (sm : Same Hh Hh') : ∀ {pi : List Nat} {p : Addr} {o : Ow}, (∀ q rh, P q (rh ++ pi) → P' q (rh ++ pi) ∧ H' q = H q) → OwOk K Hh H P pi p o → OwOk K Hh' H' P' pi p o
  | _, _, _, ag, .ls h1 h2 h3 => .ls (ag _ [] h1).1 ((ag _ [] h1).2.trans h2) (dpa_mono sm h3)
  | _, _, _, ag, .dk h1 h2 h3 h4 => .dk (ag _ [] h1).1 ((ag _ [] h1).2.trans h2) h3 (fd_keep sm ag h4)
  | _, _, _, ag, .dt h1 h2 h3 h4 h5 => .dt (ag _ [] h1).1 ((ag _ [] h1).2.trans h2) (dpa_mono sm h3) h4 (fd_keep sm ag h5)
  | _, _, _, ag, .ob h1 h2 h3 h4 h5 h6 h7 => .ob (ag _ [] h1).1 (ag _ [0] h2).1 h3 ((ag _ [] h1).2.trans h4) ((ag _ [0] h2).2.trans h5) h6 (fd_keep sm ag h7)
theorem fd_keep (sm : Same Hh Hh') : ∀ {pi : List Nat} {k : Nat} {vs : List V} {fs : List Fd}, (∀ q rh, P q (rh ++ pi) → P' q (rh ++ pi) ∧ H' q = H q) → FdAll K Hh H P pi k vs fs → FdAll K Hh' H' P' pi k vs fs
  | _, _, _, _, ag, .nil => .nil
  | _, _, _, _, ag, .da h t => .da (dp_mono sm h) (fd_keep sm ag t)
  | pi, k, _, _, ag, .ow h t => .ow (ow_keep sm (fun q rh hq => by
      have := ag q (rh ++ [k]) (by rw [List.append_assoc]; exact hq)
      rw [List.append_assoc] at this
      exact this) h) (fd_keep sm ag t)
end
end
/-- whose an address is -/
def Mine (A0 A : Addr → Bool) (O : Addr → List Nat) (q : Addr) (pi : List Nat) : Prop := A q = true ∧ A0 q = false ∧ O q = pi
def SlOk (K : Fg) (A0 A : Addr → Bool) (H : Hp) (O : Addr → List Nat) (i : Nat) (v : V) : Sl → Prop
  | .sh d => Dq K (hide A H) v d
  | .ow a o => ∃ p, v = .ref p ∧ (∀ b, a = some b → b = p) ∧ OwOk K (hide A H) H (Mine A0 A O) [i] p o
  | .kl ds => ∃ p vs, v = .ref p ∧ SqL K (hide A H) p vs ∧ DqAll K (hide A H) vs ds
  | .ex a d x => v = .ref a ∧ ∃ cls, ExOk K (hide A H) x cls d
theorem SlOk.keep {K : Fg} {A0 A A0' A' : Addr → Bool} {H H' : Hp} {O O' : Addr → List Nat} {i : Nat} {v : V} {s : Sl} (h : SlOk K A0 A H O i v s) (sm : Same (hide A H) (hide A' H'))
    (ag : s.own = true → ∀ q rh, Mine A0 A O q (rh ++ [i]) → Mine A0' A' O' q (rh ++ [i]) ∧ H' q = H q) : SlOk K A0' A' H' O' i v s := by
  cases s with
  | sh d => exact dp_mono sm h
  | ow a o =>
    obtain ⟨p, e, ha, h⟩ := h
    exact ⟨p, e, ha, ow_keep sm (ag rfl) h⟩
  | kl ds =>
    obtain ⟨p, vs, e1, e2, e3⟩ := h
    exact ⟨p, vs, e1, sl_mono sm e2, dpa_mono sm e3⟩
  | ex a d x =>
    obtain ⟨e, cls, h⟩ := h
    exact ⟨e, cls, ex_mono sm h⟩
/-- the tables stand -/
def Tabs (K : Fg) (H : Hp) : Prop := ∀ P, K.T P → GxR.TabG H P
theorem Tabs.same {K : Fg} {H H' : Hp} (t : Tabs K H) (s : Same H H') : Tabs K H' := fun P h => s.tb P (t P h)
structure Base (K : Fg) (A0 : Addr → Bool) (Hs : Hp) (A : Addr → Bool) (H : Hp) : Prop where
  tabs : Tabs K (hide A0 Hs)
  same : Same (hide A0 Hs) (hide A H)
theorem Base.trans {K : Fg} {A0 A A' : Addr → Bool} {Hs H H' : Hp} (b : Base K A0 Hs A H) (s : Same (hide A H) (hide A' H')) : Base K A0 Hs A' H' := ⟨b.tabs, b.same.trans s⟩
def Owns (K : Fg) (A0 A : Addr → Bool) (H : Hp) (O : Addr → List Nat) (σ : L2.St) (en : En) : Prop := ∀ (i : Nat) (s : Sl), en[i]? = some (some s) → ∃ v, σ[i]? = some (some v) ∧ SlOk K A0 A H O i v s
structure EnvOk (K : Fg) (A0 : Addr → Bool) (Hs : Hp) (A : Addr → Bool) (H : Hp) (σ : L2.St) (en : En) : Prop where
  base : Base K A0 Hs A H
  keep : ∀ p, A0 p = true → H p = Hs p
  sub : ∀ p, A0 p = true → A p = true
  live : Live A H
  len : σ.length = en.length
  own : ∃ O : Addr → List Nat, Owns K A0 A H O σ en
section
variable {K : Fg} {A0 A : Addr → Bool} {Hs H H' : Hp} {σ : L2.St} {en : En}
theorem EnvOk.tabs (I : EnvOk K A0 Hs A H σ en) : Tabs K (hide A H) := I.base.tabs.same I.base.same
theorem EnvOk.grow (I : EnvOk K A0 Hs A H σ en) (g : Grow A H H') : EnvOk K A0 Hs A H' σ en where
  base := I.base.trans g.ex
  keep := fun p h => (g.eq p (I.sub p h)).trans (I.keep p h)
  sub := I.sub
  live := g.live I.live
  len := I.len
  own := by
    obtain ⟨O, hO⟩ := I.own
    refine ⟨O, fun i s e => ?_⟩
    obtain ⟨v, h1, h2⟩ := hO i s e
    exact ⟨v, h1, h2.keep g.ex fun _ q rh m => ⟨m, g.eq q m.1⟩⟩
theorem EnvOk.shd (I : EnvOk K A0 Hs A H σ en) {i : Nat} {d : D} (hi : en[i]? = some (some (.sh d))) : ∃ v, σ[i]? = some (some v) ∧ Dq K (hide A H) v d := by
  obtain ⟨O, hO⟩ := I.own
  exact hO i _ hi
theorem EnvOk.kls (I : EnvOk K A0 Hs A H σ en) {i : Nat} {ds : List D} (hi : en[i]? = some (some (.kl ds))) : ∃ v, σ[i]? = some (some v) ∧ ∃ p vs, v = .ref p ∧ SqL K (hide A H) p vs ∧ DqAll K (hide A H) vs ds := by
  obtain ⟨O, hO⟩ := I.own
  exact hO i _ hi
theorem EnvOk.ols (I : EnvOk K A0 Hs A H σ en) {i : Nat} {ds : List D} (hi : en[i]? = some (some (.ow none (.ls ds)))) : ∃ v, σ[i]? = some (some v) ∧ ∃ p vs, v = .ref p ∧ A p = true ∧ A0 p = false ∧ H p = some (.lst vs) ∧ DqAll K (hide A H) vs ds := by
  obtain ⟨O, hO⟩ := I.own
  obtain ⟨v, hv, p, rfl, _, h⟩ := hO i _ hi
  cases h with
  | ls h1 h2 h3 => exact ⟨_, hv, p, _, rfl, h1.1, h1.2.1, h2, h3⟩
theorem getS {α : Type} {l : List α} {i j : Nat} {x y : α} (h : (l.set i x)[j]? = some y) : (i = j ∧ y = x ∧ i < l.length) ∨ (i ≠ j ∧ l[j]? = some y) := by
  by_cases e : i = j
  · subst e
    by_cases hl : i < l.length
    · rw [List.getElem?_set_self hl] at h; exact .inl ⟨rfl, (Option.some.inj h).symm, hl⟩
    · rw [List.getElem?_eq_none (by simpa using hl)] at h; cases h
  · rw [List.getElem?_set_ne e] at h; exact .inr ⟨e, h⟩
theorem EnvOk.set (I : EnvOk K A0 Hs A H σ en) {i : Nat} {v : V} {d : D} (h : Dq K (hide A H) v d) : EnvOk K A0 Hs A H (σ.set i (some v)) (en.set i (some (.sh d))) where
  base := I.base
  keep := I.keep
  sub := I.sub
  live := I.live
  len := by simpa using I.len
  own := by
    obtain ⟨O, hO⟩ := I.own
    refine ⟨O, fun j s e => ?_⟩
    rcases getS e with ⟨rfl, e, hl⟩ | ⟨hne, e⟩
    · cases e
      exact ⟨v, List.getElem?_set_self (by rw [I.len]; exact hl), h⟩
    · obtain ⟨u, h1, h2⟩ := hO j s e
      exact ⟨u, by rw [List.getElem?_set_ne hne]; exact h1, h2⟩
theorem EnvOk.unset (I : EnvOk K A0 Hs A H σ en) {i : Nat} {x : Option V} (hx : i < σ.length) : EnvOk K A0 Hs A H (σ.set i x) (en.set i none) where
  base := I.base
  keep := I.keep
  sub := I.sub
  live := I.live
  len := by simpa using I.len
  own := by
    obtain ⟨O, hO⟩ := I.own
    refine ⟨O, fun j s e => ?_⟩
    rcases getS e with ⟨rfl, e, hl⟩ | ⟨hne, e⟩
    · cases e
    · obtain ⟨u, h1, h2⟩ := hO j s e
      exact ⟨u, by rw [List.getElem?_set_ne hne]; exact h1, h2⟩
/-- the own thing of a slot is changed, by whatever means: the others stand -/
theorem EnvOk.change (I : EnvOk K A0 Hs A H σ en) {A' : Addr → Bool} {i : Nat} {σ' : L2.St} {s : Sl} (hσ : σ'.length = σ.length) (hσ2 : ∀ j, j ≠ i → σ'[j]? = σ[j]?) (sm : Same (hide A H) (hide A' H')) (lv : Live A' H') (k0 : ∀ q, A0 q = true → A' q = true ∧ H' q = H q)
    (own : ∀ O, Owns K A0 A H O σ en → ∃ O', (∀ q j rh, j ≠ i → Mine A0 A O q (rh ++ [j]) → Mine A0 A' O' q (rh ++ [j]) ∧ H' q = H q) ∧ (i < en.length → ∃ v, σ'[i]? = some (some v) ∧ SlOk K A0 A' H' O' i v s)) : EnvOk K A0 Hs A' H' σ' (en.set i (some s)) where
  base := I.base.trans sm
  keep := fun q h => (k0 q h).2.trans (I.keep q h)
  sub := fun q h => (k0 q h).1
  live := lv
  len := by rw [hσ, List.length_set]; exact I.len
  own := by
    obtain ⟨O, hO⟩ := I.own
    obtain ⟨O', h1, h2⟩ := own O hO
    refine ⟨O', fun j t e => ?_⟩
    rcases getS e with ⟨rfl, e, hl⟩ | ⟨hne, e⟩
    · cases e
      exact h2 hl
    · obtain ⟨v, g1, g2⟩ := hO j t e
      exact ⟨v, (hσ2 j (fun z => hne z.symm)).trans g1, g2.keep sm fun _ q rh m => h1 q j rh (fun z => hne z.symm) m⟩
theorem last_ne {i j : Nat} {a b : List Nat} (h : j ≠ i) : a ++ [j] ≠ b ++ [i] := fun e => h (by
  have := congrArg List.getLast? e
  simpa using this)
/-- a slot for a new thing at p -/
theorem EnvOk.setNew (I : EnvOk K A0 Hs A H σ en) {i : Nat} {p : Addr} {s : Sl} (hp : H p = none) (g : Grow A H H') (h : ∀ O, Mine A0 (adda A p) O p [i] → SlOk K A0 (adda A p) H' O i (.ref p) s) (hn : H' p ≠ none) : EnvOk K A0 Hs (adda A p) H' (σ.set i (some (.ref p))) (en.set i (some s)) := by
  have hA : A p = false := I.live.out hp
  have hA0 : A0 p = false := by
    cases e : A0 p with
    | false => rfl
    | true => rw [I.sub p e] at hA; cases hA
  have np : ∀ q, A q = true → q ≠ p := fun q hq z => by rw [z, hA] at hq; cases hq
  have sm : Same (hide A H) (hide (adda A p) H') := g.ex.via (fun _ _ => rfl) fun a n _ => hide_adda_ne fun z => (hide_th n).2 (by rw [z]; exact hp)
  refine I.change (by simp) (fun j hj => List.getElem?_set_ne (fun z => hj z.symm)) sm (fun q hq => ?_) (fun q hq => ⟨adda_of (I.sub q hq), g.eq q (I.sub q hq)⟩) fun O hO => ?_
  · by_cases e : q = p
    · rw [e]; exact hn
    · rw [adda_ne e] at hq
      rw [g.eq q hq]; exact I.live q hq
  · refine ⟨fun q => if q = p then [i] else O q, fun q j rh hj m => ?_, fun hl => ⟨_, List.getElem?_set_self (by rw [I.len]; exact hl), h _ ⟨adda_self, hA0, by simp⟩⟩⟩
    have hq := np q m.1
    exact ⟨⟨adda_of m.1, m.2.1, by simp only [if_neg hq]; exact m.2.2⟩, g.eq q m.1⟩
/-- an own list is changed -/
theorem EnvOk.writeL (I : EnvOk K A0 Hs A H σ en) {i : Nat} {p : Addr} {ds ds' : List D} {vs' : List V} (hi : en[i]? = some (some (.ow none (.ls ds)))) (hv : σ[i]? = some (some (.ref p)))
    (h : DqAll K (hide A H) vs' ds') : EnvOk K A0 Hs A (upd H p (.lst vs')) σ (en.set i (some (.ow none (.ls ds')))) := by
  obtain ⟨v, hv', p', vs, rfl, hA, hA0, hp, hd⟩ := I.ols hi
  rw [hv] at hv'
  cases hv'
  have sm : Same (hide A H) (hide A (upd H p (.lst vs'))) := same_of fun a u e => by
    obtain ⟨h1, h2⟩ := hide_some e
    have hne : a ≠ p := fun z => by rw [z, hA] at h1; cases h1
    rw [hide_out h1, upd_ne hne]; exact h2
  refine I.change rfl (fun _ _ => rfl) sm (fun q hq => ?_) (fun q hq => ⟨I.sub q hq, upd_ne (fun z => by rw [z, hA0] at hq; cases hq)⟩) fun O hO => ?_
  · by_cases e : q = p
    · rw [e, upd_same]; exact fun z => by cases z
    · rw [upd_ne e]; exact I.live q hq
  · obtain ⟨v, g1, p2, rfl, ga, g2⟩ := hO i _ hi
    rw [hv] at g1
    cases g1
    cases g2 with
    | ls m e1 e2 =>
      refine ⟨O, fun q j rh hj mq => ⟨mq, upd_ne fun z => ?_⟩, fun hl => ⟨_, hv, p, rfl, ga, .ls m upd_same (dpa_mono sm h)⟩⟩
      have := mq.2.2
      rw [z, m.2.2] at this
      exact last_ne (a := rh) (b := []) hj this.symm
/-- an own list is shared from now on -/
theorem EnvOk.freezeAt (I : EnvOk K A0 Hs A H σ en) {i : Nat} {ds : List D} (hi : en[i]? = some (some (.ow none (.ls ds)))) : ∃ p vs, σ[i]? = some (some (.ref p)) ∧ A p = true ∧ H p = some (.lst vs) ∧ EnvOk K A0 Hs (dela A p) H σ (en.set i (some (.sh (.list ds)))) := by
  obtain ⟨v, hv, p, vs, rfl, hA, hA0, hp, hd⟩ := I.ols hi
  refine ⟨p, vs, hv, hA, hp, ?_⟩
  have sm : Same (hide A H) (hide (dela A p) H) := same_of fun a u e => by
    obtain ⟨h1, h2⟩ := hide_some e
    have hne : a ≠ p := fun z => by rw [z, hA] at h1; cases h1
    rw [hide_out (by rw [dela_ne hne]; exact h1)]; exact h2
  have n0 : ∀ q, A0 q = true → q ≠ p := fun q hq z => by rw [z, hA0] at hq; cases hq
  refine I.change rfl (fun _ _ => rfl) sm (fun q hq => I.live q (dela_true hq).1) (fun q hq => ⟨by rw [dela_ne (n0 q hq)]; exact I.sub q hq, rfl⟩) fun O hO => ?_
  obtain ⟨v, g1, p2, rfl, ga, g2⟩ := hO i _ hi
  rw [hv] at g1
  cases g1
  cases g2 with
  | ls m e1 e2 =>
    refine ⟨O, fun q j rh hj mq => ⟨⟨?_, mq.2⟩, rfl⟩, fun hl => ⟨_, hv, .lst (.inl (.inl ?_)) (dpa_mono sm hd)⟩⟩
    · have hq : q ≠ p := fun z => by
        have := mq.2.2
        rw [z, m.2.2] at this
        exact last_ne (a := rh) (b := []) hj this.symm
      rw [dela_ne hq]; exact mq.1
    · rw [hide_out dela_self]; exact hp
theorem EnvOk.freeze (I : EnvOk K A0 Hs A H σ en) {i : Nat} {ds : List D} (hi : en[i]? = some (some (.ow none (.ls ds)))) : ∃ A', EnvOk K A0 Hs A' H σ (en.set i (some (.sh (.list ds)))) := by
  obtain ⟨p, vs, _, _, _, I'⟩ := I.freezeAt hi
  exact ⟨_, I'⟩
/-- what stands now is the base from here on -/
def reb (A0 A : Addr → Bool) (Hs H : Hp) : Hp := fun a => if A0 a = true then Hs a else hide A H a
theorem EnvOk.rebase (I : EnvOk K A0 Hs A H σ en) : EnvOk K A0 (reb A0 A Hs H) A H σ en := by
  refine ⟨⟨fun P h => ?_, same_of fun a o e => ?_⟩, fun p h => ?_, I.sub, I.live, I.len, I.own⟩
  · obtain ⟨h1, t⟩ := hide_tab (I.tabs P h)
    have h0 : A0 P = false := by
      cases q : A0 P with
      | false => rfl
      | true => rw [I.sub P q] at h1; cases h1
    refine tab_hide h0 ?_
    obtain ⟨ps, e, t⟩ := t
    exact ⟨ps, by unfold reb; rw [if_neg (by rw [h0]; decide), hide_out h1]; exact e, t⟩
  · obtain ⟨h1, h2⟩ := hide_some e
    unfold reb at h2
    rw [if_neg (by rw [h1]; decide)] at h2
    exact h2
  · unfold reb; rw [if_pos h]; exact I.keep p h
theorem reb_sub (I : EnvOk K A0 Hs A H σ en) {A' : Addr → Bool} {H' : Hp} {σ' : L2.St} {en' : En} (J : EnvOk K A0 (reb A0 A Hs H) A' H' σ' en') : Same (hide A H) (hide A' H') := J.base.same.via (fun a n => by
  have h1 := (hide_th n).1
  have h0 : A0 a = false := by
    cases q : A0 a with
    | false => rfl
    | true => rw [I.sub a q] at h1; cases h1
  rw [hide_out h0]
  unfold reb
  rw [if_neg (by rw [h0]; decide)]) fun _ _ _ => rfl
theorem EnvOk.unrebase (I : EnvOk K A0 Hs A H σ en) {A' : Addr → Bool} {H' : Hp} {σ' : L2.St} {en' : En} (J : EnvOk K A0 (reb A0 A Hs H) A' H' σ' en') : EnvOk K A0 Hs A' H' σ' en' := by
  refine ⟨I.base.trans (reb_sub I J), fun p h => ?_, J.sub, J.live, J.len, J.own⟩
  rw [J.keep p h]
  unfold reb; rw [if_pos h]
end

/-! ### judgements over data -/
section
variable {K : Fg}
def EvD (K : Fg) (te : TE) (en : En) (d : D) : Prop := ∀ A0 Hs A H σ, EnvOk K A0 Hs A H σ en → ∀ Q : VK, (∀ v H', Grow A H H' → Dq K (hide A H') v d → Q v H') → te σ H Q
def EvA (K : Fg) (ta : TA) (en : En) (ds : List D) : Prop := ∀ A0 Hs A H σ, EnvOk K A0 Hs A H σ en → ∀ Q : List V → Hp → Prop, (∀ vs H', Grow A H H' → DqAll K (hide A H') vs ds → Q vs H') → ta σ H Q
def EvT (K : Fg) (tt : TT) (en : En) (b : Bool) : Prop := ∀ A0 Hs A H σ, EnvOk K A0 Hs A H σ en → ∀ Q : Bool → Hp → Prop, (∀ H', Grow A H H' → Q b H') → tt σ H Q
/-- a new list -/
def EvN (K : Fg) (te : TE) (en : En) (ds : List D) : Prop := ∀ A0 Hs A H σ, EnvOk K A0 Hs A H σ en → ∀ Q : VK, (∀ p H' vs, H p = none → Grow A H H' → H' p = some (.lst vs) → DqAll K (hide (adda A p) H') vs ds → Q (.ref p) H') → te σ H Q
/-- an operation on values -/
def RD2 (K : Fg) (r : R2) (x y z : D) : Prop := ∀ A H v w, Live A H → Dq K (hide A H) v x → Dq K (hide A H) w y → ∀ Q : VK, (∀ u H', Grow A H H' → Dq K (hide A H') u z → Q u H') → r v w H Q
def RD1 (K : Fg) (r : V → Hp → VK → Prop) (x z : D) : Prop := ∀ A H v, Live A H → Dq K (hide A H) v x → ∀ Q : VK, (∀ u H', Grow A H H' → Dq K (hide A H') u z → Q u H') → r v H Q
def RDC (K : Fg) (r : List V → Hp → VK → Prop) (xs : List D) (z : D) : Prop := ∀ A H vs, Live A H → DqAll K (hide A H) vs xs → ∀ Q : VK, (∀ u H', Grow A H H' → Dq K (hide A H') u z → Q u H') → r vs H Q
def RDCN (K : Fg) (r : List V → Hp → VK → Prop) (xs : List D) (zs : List D) : Prop := ∀ A H vs, Live A H → DqAll K (hide A H) vs xs → ∀ Q : VK, (∀ p H' ws, H p = none → Grow A H H' → H' p = some (.lst ws) → DqAll K (hide (adda A p) H') ws zs → Q (.ref p) H') → r vs H Q
def RDM (K : Fg) (r : V → List V → Hp → VK → Prop) (x : D) (xs : List D) (z : D) : Prop := ∀ A H v vs, Live A H → Dq K (hide A H) v x → DqAll K (hide A H) vs xs → ∀ Q : VK, (∀ u H', Grow A H H' → Dq K (hide A H') u z → Q u H') → r v vs H Q

variable {te ta tb tc : TE} {tt tu : TT} {en : En} {d x y z : D} {r r' : R2} {i : Nat}
theorem EvD.eq {d' : D} (h : EvD K te en d) (e : d = d') : EvD K te en d' := e ▸ h
theorem EvT.eq {b b' : Bool} (h : EvT K tt en b) (e : b = b') : EvT K tt en b' := e ▸ h
theorem EvN.eq {d d' : List D} (h : EvN K te en d) (e : d = d') : EvN K te en d' := e ▸ h
theorem ev_new {ds : List D} (h : EvN K te en ds) : EvD K te en (.list ds) := fun A0 Hs A H σ I Q k => h A0 Hs A H σ I Q fun p H' vs hp g e hd => by
  have hA : A p = false := I.live.out hp
  refine k _ H' g (.lst (.inl (.inl (by rw [hide_out hA]; exact e))) (dpa_mono (same_of fun a o q => ?_) hd))
  obtain ⟨h1, h2⟩ := hide_some q
  rw [hide_out (adda_false h1).1]; exact h2
theorem ev_var (h : en[i]? = some (some (.sh d))) : EvD K (tVar i) en d := fun A0 Hs A H σ I Q k => by
  obtain ⟨v, h1, h2⟩ := I.shd h
  exact ⟨v, h1, k v H (Grow.refl H) h2⟩
theorem ev_int {n : Int} : EvD K (tC (.int n)) en (.int n) := fun _ _ _ H _ _ Q k => k _ H (Grow.refl H) (.int n)
theorem ev_str {n : Str} : EvD K (tC (.str n)) en (.str n) := fun _ _ _ H _ _ Q k => k _ H (Grow.refl H) (.str n)
theorem ev_bl {n : Bool} : EvD K (tC (.bl n)) en (.bool n) := fun _ _ _ H _ _ Q k => k _ H (Grow.refl H) (.bl n)
theorem ev_non : EvD K (tC .non) en .none := fun _ _ _ H _ _ Q k => k _ H (Grow.refl H) .non
theorem ev_op (ha : EvD K ta en x) (hb : EvD K tb en y) (hr : RD2 K r x y z) : EvD K (tOp r ta tb) en z := fun A0 Hs A H σ I Q k =>
  ha A0 Hs A H σ I _ fun v H1 g1 d1 => hb A0 Hs A H1 σ (I.grow g1) _ fun w H2 g2 d2 =>
    hr A H2 v w ((g1.trans g2).live I.live) (dp_mono g2.ex d1) d2 Q fun u H3 g3 d3 => k u H3 ((g1.trans g2).trans g3) d3
theorem ev_un {r : V → Hp → VK → Prop} (ha : EvD K ta en x) (hr : RD1 K r x z) : EvD K (tUn r ta) en z := fun A0 Hs A H σ I Q k =>
  ha A0 Hs A H σ I _ fun v H1 g1 d1 => hr A H1 v (g1.live I.live) d1 Q fun u H3 g3 d3 => k u H3 (g1.trans g3) d3
theorem ea_nil : EvA K tNil en [] := fun _ _ _ H _ _ Q k => k [] H (Grow.refl H) .nil
theorem ea_cons {tr : TA} {ds : List D} (ha : EvD K ta en d) (hr : EvA K tr en ds) : EvA K (tCons ta tr) en (d :: ds) := fun A0 Hs A H σ I Q k =>
  ha A0 Hs A H σ I _ fun v H1 g1 d1 => hr A0 Hs A H1 σ (I.grow g1) _ fun vs H2 g2 d2 => k _ H2 (g1.trans g2) (.cons (dp_mono g2.ex d1) d2)
theorem ev_tup {tr : TA} {ds : List D} (h : EvA K tr en ds) (hl : ds.length ≤ sizeLine) : EvD K (tTup tr) en (.tuple ds) := fun A0 Hs A H σ I Q k =>
  h A0 Hs A H σ I _ fun vs H1 g1 d1 => ⟨by rw [dpa_len d1]; exact hl, fun p hp => by
    have g2 : Grow A H1 (upd H1 p (.tup vs)) := Grow.new (g1.live I.live) hp
    exact k _ _ (g1.trans g2) (.tup (.inl (.inl (hide_new (g1.live I.live) hp))) (dpa_mono g2.ex d1))⟩
theorem grow_newl {A : Addr → Bool} {H : Hp} {vs : List V} {ds : List D} {p : Addr} {o : HO} (hp : H p = none) (h : DqAll K (hide A H) vs ds) : DqAll K (hide (adda A p) (upd H p o)) vs ds := dpa_mono (same_of fun a u e => by
  obtain ⟨h1, h2⟩ := hide_some e
  have hne := ne_of_none h2 hp
  rw [hide_out (by rw [adda_ne hne]; exact h1), upd_ne hne]; exact h2) h
theorem en_lst {tr : TA} {ds : List D} (h : EvA K tr en ds) (hl : ds.length ≤ sizeLine) : EvN K (tLst tr) en ds := fun A0 Hs A H σ I Q k =>
  h A0 Hs A H σ I _ fun vs H1 g1 d1 => ⟨by rw [dpa_len d1]; exact hl, fun p hp => by
    have g2 : Grow A H1 (upd H1 p (.lst vs)) := Grow.new (g1.live I.live) hp
    have hp0 : H p = none := g1.same.none hp
    exact k _ _ vs hp0 (g1.trans g2) upd_same (grow_newl hp d1)⟩
theorem ev_call {rc : List V → Hp → VK → Prop} {tr : TA} {ds : List D} (h : EvA K tr en ds) (hr : RDC K rc ds z) : EvD K (tCB rc tr) en z := fun A0 Hs A H σ I Q k =>
  h A0 Hs A H σ I _ fun vs H1 g1 d1 => hr A H1 vs (g1.live I.live) d1 Q fun u H2 g2 d2 => k u H2 (g1.trans g2) d2
theorem en_call {rc : List V → Hp → VK → Prop} {tr : TA} {ds zs : List D} (h : EvA K tr en ds) (hr : RDCN K rc ds zs) : EvN K (tCB rc tr) en zs := fun A0 Hs A H σ I Q k =>
  h A0 Hs A H σ I _ fun vs H1 g1 d1 => hr A H1 vs (g1.live I.live) d1 Q fun p H2 ws hp g2 e d2 => k p H2 ws (g1.same.none hp) (g1.trans g2) e d2
theorem ev_and {a b : Bool} (h1 : EvD K ta en (.bool a)) (h2 : a = true → EvD K tb en (.bool b)) : EvD K (tAndV ta tb) en (.bool (a && b)) := fun A0 Hs A H σ I Q k =>
  h1 A0 Hs A H σ I _ fun v H1 g1 d1 => ⟨a, dp_bl d1, by
    cases a with
    | true => exact h2 rfl A0 Hs A H1 σ (I.grow g1) Q fun u H2 g2 d2 => k u H2 (g1.trans g2) d2
    | false => exact k _ H1 g1 (.bl false)⟩
theorem ev_or {a b : Bool} (h1 : EvD K ta en (.bool a)) (h2 : a = false → EvD K tb en (.bool b)) : EvD K (tOrV ta tb) en (.bool (a || b)) := fun A0 Hs A H σ I Q k =>
  h1 A0 Hs A H σ I _ fun v H1 g1 d1 => ⟨a, dp_bl d1, by
    cases a with
    | false => exact h2 rfl A0 Hs A H1 σ (I.grow g1) Q fun u H2 g2 d2 => k u H2 (g1.trans g2) d2
    | true => exact k _ H1 g1 (.bl true)⟩
theorem ev_not {a : Bool} (h1 : EvD K ta en (.bool a)) : EvD K (tNotV ta) en (.bool (!a)) := fun A0 Hs A H σ I Q k =>
  h1 A0 Hs A H σ I _ fun v H1 g1 d1 => ⟨a, dp_bl d1, k _ H1 g1 (.bl _)⟩
theorem ev_if {b : Bool} (h : EvT K tt en b) (h1 : b = true → EvD K ta en d) (h2 : b = false → EvD K tb en d) : EvD K (tIf tt ta tb) en d := fun A0 Hs A H σ I Q k =>
  h A0 Hs A H σ I _ fun H1 g1 => by
    cases b with
    | true => exact h1 rfl A0 Hs A H1 σ (I.grow g1) Q fun u H2 g2 d2 => k u H2 (g1.trans g2) d2
    | false => exact h2 rfl A0 Hs A H1 σ (I.grow g1) Q fun u H2 g2 d2 => k u H2 (g1.trans g2) d2
theorem ev_chain {a b : Bool} (ha : EvD K ta en x) (hb : EvD K tb en y) (hc : a = true → EvD K tc en z) (h1 : RD2 K r x y (.bool a)) (h2 : a = true → RD2 K r' y z (.bool b)) : EvD K (tChain r r' ta tb tc) en (.bool (a && b)) := fun A0 Hs A H σ I Q k =>
  ha A0 Hs A H σ I _ fun v H1 g1 d1 => hb A0 Hs A H1 σ (I.grow g1) _ fun w H2 g2 d2 => h1 A H2 v w ((g1.trans g2).live I.live) (dp_mono g2.ex d1) d2 _ fun u H3 g3 d3 => ⟨a, dp_bl d3, by
    have g : Grow A H H3 := (g1.trans g2).trans g3
    cases a with
    | false => exact k _ H3 g (.bl false)
    | true => exact hc rfl A0 Hs A H3 σ (I.grow g) _ fun w' H4 g4 d4 => h2 rfl A H4 w w' ((g.trans g4).live I.live) (dp_mono (g3.trans g4).ex d2) d4 Q fun u' H5 g5 d5 => k u' H5 ((g.trans g4).trans g5) d5⟩
theorem et_test {b : Bool} (h : EvD K te en (.bool b)) : EvT K (tTest te) en b := fun A0 Hs A H σ I Q k =>
  h A0 Hs A H σ I _ fun v H1 g1 d1 => ⟨b, dp_bl d1, k H1 g1⟩
theorem et_B {b : Bool} (h : EvD K te en (.bool b)) : EvT K (tB te) en b := fun A0 Hs A H σ I Q k =>
  h A0 Hs A H σ I _ fun v H1 g1 d1 => ⟨b, dp_bl d1, k H1 g1⟩
theorem et_yes : EvT K tYes en true := fun _ _ _ H _ _ Q k => k H (Grow.refl H)
theorem et_and {a b : Bool} (h1 : EvT K tt en a) (h2 : a = true → EvT K tu en b) : EvT K (tAnd tt tu) en (a && b) := fun A0 Hs A H σ I Q k =>
  h1 A0 Hs A H σ I _ fun H1 g1 => by
    cases a with
    | true => exact h2 rfl A0 Hs A H1 σ (I.grow g1) Q fun H2 g2 => k H2 (g1.trans g2)
    | false => exact k H1 g1
theorem et_or {a b : Bool} (h1 : EvT K tt en a) (h2 : a = false → EvT K tu en b) : EvT K (tOr tt tu) en (a || b) := fun A0 Hs A H σ I Q k =>
  h1 A0 Hs A H σ I _ fun H1 g1 => by
    cases a with
    | false => exact h2 rfl A0 Hs A H1 σ (I.grow g1) Q fun H2 g2 => k H2 (g1.trans g2)
    | true => exact k H1 g1
theorem et_not {a : Bool} (h1 : EvT K tt en a) : EvT K (tNot tt) en (!a) := fun A0 Hs A H σ I Q k =>
  h1 A0 Hs A H σ I _ fun H1 g1 => k H1 g1
end

/-! ### what is walked -/
/-- the items are xs, wherever what stood at H' under A stands -/
structure WalkD (K : Fg) (A : Addr → Bool) (H : Hp) (J : It) (xs : List D) : Prop where
  goes : ∀ A1 H1 (i : Nat), Live A1 H1 → Same (hide A H) (hide A1 H1) → i < xs.length → J.go i H1
  stops : ∀ A1 H1, Live A1 H1 → Same (hide A H) (hide A1 H1) → J.stop xs.length H1
  yields : ∀ A1 H1 (i : Nat) d x H2, Live A1 H1 → Same (hide A H) (hide A1 H1) → xs[i]? = some d → J.yld i H1 x H2 → Grow A1 H1 H2 ∧ Dq K (hide A1 H2) x d
def EvI (K : Fg) (wi : TI) (en : En) (xs : List D) : Prop := ∀ A0 Hs A H σ, EnvOk K A0 Hs A H σ en → ∀ R : It → Hp → Prop, (∀ J H', Grow A H H' → WalkD K A H' J xs → R J H') → wi σ H R
section
variable {K : Fg} {te ta tb : TE} {en : En} {xs ys : List D}
theorem EvI.eq {wi : TI} {xs' : List D} (h : EvI K wi en xs) (e : xs = xs') : EvI K wi en xs' := e ▸ h
theorem ei_list (h : EvD K te en (.list xs)) : EvI K (iList K te) en xs := fun A0 Hs A H σ I R k =>
  h A0 Hs A H σ I _ fun v H1 g1 d1 => by
    obtain ⟨a, vs, rfl, hs', hd⟩ := dp_lst d1
    have hs : SqL K (hide A H1) a vs := hs'.sl
    have W := @walk_list K a vs
    have hl := dpa_len hd
    refine ⟨a, rfl, ⟨vs, sl_mono hide_sub hs⟩, k _ H1 g1 ⟨fun A1 H2 i l sm hi => W.goes i H2 (by rw [hl]; exact hi) (sl_mono hide_sub (sl_mono sm hs)), fun A1 H2 l sm => by rw [← hl]; exact W.stops H2 (sl_mono hide_sub (sl_mono sm hs)), fun A1 H2 i d x H3 l sm hi y => ?_⟩⟩
    obtain ⟨u, hu, hd'⟩ := dpa_get hd hi
    obtain ⟨rfl, hx⟩ := W.yields i H2 x H3 (List.getElem?_eq_some_iff.mp hu).1 (sl_mono hide_sub (sl_mono sm hs)) y
    rw [hu] at hx
    cases hx
    exact ⟨Grow.refl _, dp_mono sm hd'⟩
theorem ei_tup (h : EvD K te en (.tuple xs)) : EvI K (iTup K te) en xs := fun A0 Hs A H σ I R k =>
  h A0 Hs A H σ I _ fun v H1 g1 d1 => by
    obtain ⟨a, vs, rfl, hs, hd⟩ := dp_tup d1
    have W := @walk_tup K a vs
    have hl := dpa_len hd
    refine ⟨a, rfl, ⟨vs, st_mono hide_sub hs⟩, k _ H1 g1 ⟨fun A1 H2 i l sm hi => W.goes i H2 (by rw [hl]; exact hi) (st_mono hide_sub (st_mono sm hs)), fun A1 H2 l sm => by rw [← hl]; exact W.stops H2 (st_mono hide_sub (st_mono sm hs)), fun A1 H2 i d x H3 l sm hi y => ?_⟩⟩
    obtain ⟨u, hu, hd'⟩ := dpa_get hd hi
    obtain ⟨rfl, hx⟩ := W.yields i H2 x H3 (List.getElem?_eq_some_iff.mp hu).1 (st_mono hide_sub (st_mono sm hs)) y
    rw [hu] at hx
    cases hx
    exact ⟨Grow.refl _, dp_mono sm hd'⟩
/-- ints from lo, n of them -/
def rngD (lo : Int) (n : Nat) : List D := (List.range n).map fun i : Nat => .int (lo + (i : Int))
theorem rngD_len {lo : Int} {n : Nat} : (rngD lo n).length = n := by simp [rngD]
theorem rngD_get {lo : Int} {n i : Nat} {d : D} (h : (rngD lo n)[i]? = some d) : i < n ∧ d = .int (lo + (i : Int)) := by
  have hi : i < n := by
    have := (List.getElem?_eq_some_iff.mp h).1
    rw [rngD_len] at this; exact this
  unfold rngD at h
  rw [List.getElem?_map, List.getElem?_range hi] at h
  exact ⟨hi, (Option.some.inj h).symm⟩
theorem walkd_range {A : Addr → Bool} {H : Hp} {lo : Int} {n : Nat} : WalkD K A H (Itr lo n) (rngD lo n) := by
  have W := @walk_range lo n
  refine ⟨fun A1 H2 i l sm hi => W.goes i H2 (by rw [rngD_len] at hi; exact hi) trivial, fun A1 H2 l sm => by rw [rngD_len]; exact W.stops H2 trivial, fun A1 H2 i d x H3 l sm hi y => ?_⟩
  obtain ⟨hn, rfl⟩ := rngD_get hi
  obtain ⟨rfl, rfl⟩ := W.yields i H2 x H3 hn trivial y
  exact ⟨Grow.refl _, .int _⟩
theorem ei_rng1 {t : TA} {n : Int} (h : EvA K t en [.int n]) (hn : -1000000 ≤ n ∧ n ≤ 1000000) : EvI K (iRng1 t) en (rngD 0 n.toNat) := fun A0 Hs A H σ I R k =>
  h A0 Hs A H σ I _ fun vs H1 g1 d1 => by
    have e := dpa_ints (ns := [n]) d1
    exact ⟨n, e, by omega, by omega, k _ H1 g1 walkd_range⟩
theorem ei_rng2 {t : TA} {m n : Int} (h : EvA K t en [.int m, .int n]) (hm : -1000000 ≤ m ∧ m ≤ 1000000) (hn : -1000000 ≤ n ∧ n ≤ 1000000) : EvI K (iRng2 t) en (rngD m (n - m).toNat) := fun A0 Hs A H σ I R k =>
  h A0 Hs A H σ I _ fun vs H1 g1 d1 => by
    have e := dpa_ints (ns := [m, n]) d1
    exact ⟨m, n, e, ⟨by omega, by omega, by omega, by omega⟩, k _ H1 g1 walkd_range⟩
/-- a text's signs -/
def signsD (z : Str) : List D := z.cps.toList.map fun c => .str ⟨#[c]⟩
theorem ei_str {z : Str} (h : EvD K te en (.str z)) : EvI K (iStr te) en (signsD z) := fun A0 Hs A H σ I R k =>
  h A0 Hs A H σ I _ fun v H1 g1 d1 => by
    have W := @walk_str z
    have hl : (signsD z).length = z.cps.size := by simp [signsD]
    refine ⟨z, dp_str d1, k _ H1 g1 ⟨fun A1 H2 i l sm hi => W.goes i H2 (by rw [hl] at hi; exact hi) trivial, fun A1 H2 l sm => by rw [hl]; exact W.stops H2 trivial, fun A1 H2 i d x H3 l sm hi y => ?_⟩⟩
    have hi' : i < z.cps.size := by rw [← hl]; exact (List.getElem?_eq_some_iff.mp hi).1
    obtain ⟨rfl, c, hc, rfl⟩ := W.yields i H2 x H3 hi' trivial y
    unfold signsD at hi
    rw [List.getElem?_map, Array.getElem?_toList, hc] at hi
    cases hi
    exact ⟨Grow.refl _, .str _⟩
/-- pairs -/
def pairsD (xs ys : List D) : List D := List.zipWith (fun x y => .tuple [x, y]) xs ys
def enumD (xs : List D) : List D := pairsD (rngD 0 xs.length) xs
theorem walkd_pair {A : Addr → Bool} {H : Hp} {J : It} {n : Nat} {G : Hp → Prop} {f g : Nat → Option V} (W : Walk J n G (YPair f g)) (hn : n = min xs.length ys.length) (hG : ∀ A1 H1, Same (hide A H) (hide A1 H1) → G H1)
    (hf : ∀ (i : Nat) v, i < n → f i = some v → ∃ d, xs[i]? = some d ∧ Dq K (hide A H) v d) (hg : ∀ (i : Nat) v, i < n → g i = some v → ∃ d, ys[i]? = some d ∧ Dq K (hide A H) v d) : WalkD K A H J (pairsD xs ys) := by
  have hl : (pairsD xs ys).length = n := by simp [pairsD, hn]
  refine ⟨fun A1 H2 i l sm hi => W.goes i H2 (by rw [hl] at hi; exact hi) (hG A1 H2 sm), fun A1 H2 l sm => by rw [hl]; exact W.stops H2 (hG A1 H2 sm), fun A1 H2 i d x H3 l sm hi y => ?_⟩
  have hi' : i < n := by rw [← hl]; exact (List.getElem?_eq_some_iff.mp hi).1
  obtain ⟨T, u, w, rfl, hT, rfl, h1, h2⟩ := W.yields i H2 x H3 hi' (hG A1 H2 sm) y
  obtain ⟨d1, e1, q1⟩ := hf i u hi' h1
  obtain ⟨d2, e2, q2⟩ := hg i w hi' h2
  have e : (pairsD xs ys)[i]? = some (.tuple [d1, d2]) := by
    unfold pairsD
    rw [List.getElem?_zipWith, e1, e2]
  rw [e] at hi
  cases hi
  have g := Grow.new (o := .tup [u, w]) l hT
  exact ⟨g, .tup (.inl (.inl (hide_new l hT))) (.cons (dp_mono (sm.trans g.ex) q1) (.cons (dp_mono (sm.trans g.ex) q2) .nil))⟩
theorem rngD_at {lo : Int} {n i : Nat} (h : i < n) : (rngD lo n)[i]? = some (.int (lo + (i : Int))) := by
  unfold rngD
  rw [List.getElem?_map, List.getElem?_range h]; rfl
theorem ei_enum {t : TA} (h : EvA K t en [.list xs]) : EvI K (iEnum K t) en (enumD xs) := fun A0 Hs A H σ I R k =>
  h A0 Hs A H σ I _ fun ws H1 g1 d1 => by
    cases d1 with
    | cons q t =>
      cases t
      obtain ⟨a, vs, rfl, hs', hd⟩ := dp_lst q
      have hs : SqL K (hide A H1) a vs := hs'.sl
      have hl := dpa_len hd
      refine ⟨a, vs, rfl, sl_mono hide_sub hs, k _ H1 g1 (walkd_pair (@walk_enum K a vs) (by rw [rngD_len, hl]; simp) (fun A1 H2 sm => sl_mono hide_sub (sl_mono sm hs)) (fun i v hi e => ?_) (fun i v hi e => ?_))⟩
      · cases e
        refine ⟨_, rngD_at (by rw [← hl]; exact hi), ?_⟩
        rw [Int.zero_add]
        exact .int _
      · exact dpa_get' hd e
theorem ei_zip {t : TA} (h : EvA K t en [.list xs, .list ys]) : EvI K (iZip K t) en (pairsD xs ys) := fun A0 Hs A H σ I R k =>
  h A0 Hs A H σ I _ fun ws H1 g1 d1 => by
    cases d1 with
    | cons q t =>
      cases t with
      | cons q2 t =>
        cases t
        obtain ⟨a, vs, rfl, hs', hd⟩ := dp_lst q
        obtain ⟨b, us, rfl, hs2', hd2⟩ := dp_lst q2
        have hs : SqL K (hide A H1) a vs := hs'.sl
        have hs2 : SqL K (hide A H1) b us := hs2'.sl
        refine ⟨a, b, vs, us, rfl, sl_mono hide_sub hs, sl_mono hide_sub hs2, k _ H1 g1 (walkd_pair (walk_zip rfl) (by rw [dpa_len hd, dpa_len hd2]) (fun A1 H2 sm => ⟨sl_mono hide_sub (sl_mono sm hs), sl_mono hide_sub (sl_mono sm hs2)⟩) (fun i v hi e => dpa_get' hd e) (fun i v hi e => dpa_get' hd2 e))⟩
end

/-! ### statements -/
structure DE where
  nx : En → Prop
  rt : D → Prop
  bk : En → Prop := fun _ => False
  ct : En → Prop := fun _ => False
structure Fits (K : Fg) (A0 : Addr → Bool) (Hs : Hp) (E : DE) (F : Ends) : Prop where
  nx : ∀ A H σ en, EnvOk K A0 Hs A H σ en → E.nx en → F.nx σ H
  rt : ∀ A H σ en v d, EnvOk K A0 Hs A H σ en → Dq K (hide A H) v d → E.rt d → F.rt v H
  bk : ∀ A H σ en, EnvOk K A0 Hs A H σ en → E.bk en → F.bk σ H
  ct : ∀ A H σ en, EnvOk K A0 Hs A H σ en → E.ct en → F.ct σ H
def SD (K : Fg) (ts : TS) (E : DE) (en : En) : Prop := ∀ A0 Hs A H σ, EnvOk K A0 Hs A H σ en → ∀ F : Ends, Fits K A0 Hs E F → ts F σ H
/-- a target -/
def GD (K : Fg) (g : TG) (d : D) (en en' : En) : Prop := ∀ A0 Hs A H σ x, EnvOk K A0 Hs A H σ en → Dq K (hide A H) x d → ∀ Q : L2.St → Hp → Prop, (∀ σ' H', Grow A H H' → EnvOk K A0 Hs A H' σ' en' → Q σ' H') → g x σ H Q
def GDs (K : Fg) (g : TGs) (ds : List D) (en en' : En) : Prop := ∀ A0 Hs A H σ xs, EnvOk K A0 Hs A H σ en → DqAll K (hide A H) xs ds → ∀ Q : L2.St → Hp → Prop, (∀ σ' H', Grow A H H' → EnvOk K A0 Hs A H' σ' en' → Q σ' H') → g xs σ H Q
section
variable {K : Fg} {te ta tb : TE} {tt : TT} {ts tu tz : TS} {en en' en2 : En} {d : D} {E : DE} {i : Nat} {g : TG}
theorem gd_name : GD K (gName i) d en (en.set i (some (.sh d))) := fun A0 Hs A H σ x I h Q k => k _ _ (Grow.refl H) (I.set h)
theorem gds_nil : GDs K gNil [] en en := fun A0 Hs A H σ xs I h Q k => by
  cases h
  exact ⟨rfl, k _ _ (Grow.refl H) I⟩
theorem gds_cons {gs : TGs} {ds : List D} (h1 : GD K g d en en') (h2 : GDs K gs ds en' en2) : GDs K (gCons g gs) (d :: ds) en en2 := fun A0 Hs A H σ xs I h Q k => by
  cases h with
  | cons q t =>
    exact ⟨_, _, rfl, h1 A0 Hs A H σ _ I q _ fun σ1 H1 g1 I1 => h2 A0 Hs A H1 σ1 _ I1 (dpa_mono g1.ex t) Q fun σ2 H2 g2 I2 => k σ2 H2 (g1.trans g2) I2⟩
theorem gd_tup {gs : TGs} {ds : List D} {n : Nat} (h : GDs K gs ds en en') (hn : ds.length = n) : GD K (gTup K n gs) (.tuple ds) en en' := fun A0 Hs A H σ x I hd Q k => by
  obtain ⟨a, xs, rfl, hs, hx⟩ := dp_tup hd
  exact ⟨a, xs, rfl, st_mono hide_sub hs, (dpa_len hx).trans hn, h A0 Hs A H σ xs I hx Q k⟩
theorem s_nx (h : E.nx en) : SD K tNext E en := fun A0 Hs A H σ I F f => f.nx A H σ en I h
theorem s_seq (h : SD K ts { E with nx := fun en' => SD K tu E en' } en) : SD K (tSeq ts tu) E en := fun A0 Hs A H σ I F f =>
  h A0 Hs A H σ I _ ⟨fun A H σ en I q => q A0 Hs A H σ I F f, f.rt, f.bk, f.ct⟩
theorem s_asg (h : EvD K te en d) (k : E.nx (en.set i (some (.sh d)))) : SD K (tAsg te (gName i)) E en := fun A0 Hs A H σ I F f =>
  h A0 Hs A H σ I _ fun v H1 g1 d1 => f.nx A H1 _ _ ((I.grow g1).set d1) k
theorem s_asgG (h : EvD K te en d) (hg : GD K g d en en') (k : E.nx en') : SD K (tAsg te g) E en := fun A0 Hs A H σ I F f =>
  h A0 Hs A H σ I _ fun v H1 g1 d1 => hg A0 Hs A H1 σ v (I.grow g1) d1 _ fun σ2 H2 g2 I2 => f.nx A H2 _ _ I2 k
theorem s_asgN {ds : List D} (h : EvN K te en ds) (k : E.nx (en.set i (some (.ow none (.ls ds))))) : SD K (tAsg te (gName i)) E en := fun A0 Hs A H σ I F f =>
  h A0 Hs A H σ I _ fun p H1 vs hp g1 e1 d1 => f.nx _ H1 _ _ (I.setNew (s := .ow none (.ls ds)) hp g1 (fun O m => ⟨p, rfl, (fun _ z => by cases z), .ls m e1 d1⟩) (by rw [e1]; exact fun z => by cases z)) k
theorem s_ret (h : EvD K te en d) (k : E.rt d) : SD K (tRet te) E en := fun A0 Hs A H σ I F f =>
  h A0 Hs A H σ I _ fun v H1 g1 d1 => f.rt A H1 σ en v d (I.grow g1) d1 k
theorem s_retN (k : E.rt .none) : SD K tRetN E en := fun A0 Hs A H σ I F f => f.rt A H σ en _ _ I .non k
theorem s_if {b : Bool} (h : EvT K tt en b) (h1 : b = true → SD K ts E en) (h2 : b = false → SD K tu E en) : SD K (tIfS tt ts tu) E en := fun A0 Hs A H σ I F f =>
  h A0 Hs A H σ I _ fun H1 g1 => by
    cases b with
    | true => exact h1 rfl A0 Hs A H1 σ (I.grow g1) F f
    | false => exact h2 rfl A0 Hs A H1 σ (I.grow g1) F f
theorem s_drop (h : EvD K te en d) (k : E.nx en) : SD K (tDrop te) E en := fun A0 Hs A H σ I F f =>
  h A0 Hs A H σ I _ fun v H1 g1 d1 => f.nx A H1 σ en (I.grow g1) k
theorem s_break (k : E.bk en) : SD K tBreak E en := fun A0 Hs A H σ I F f => f.bk A H σ en I k
theorem s_cont (k : E.ct en) : SD K tCont E en := fun A0 Hs A H σ I F f => f.ct A H σ en I k
theorem s_freeze {ds : List D} (h : en[i]? = some (some (.ow none (.ls ds)))) (k : SD K ts E (en.set i (some (.sh (.list ds))))) : SD K ts E en := fun A0 Hs A H σ I F f => by
  obtain ⟨A', I'⟩ := I.freeze h
  exact k A0 Hs A' H σ I' F f
/-- what is wanted, weaker -/
theorem s_mono {E' : DE} (h : SD K ts E en) (h1 : ∀ e, E.nx e → E'.nx e) (h2 : ∀ d, E.rt d → E'.rt d) (h3 : ∀ e, E.bk e → E'.bk e) (h4 : ∀ e, E.ct e → E'.ct e) : SD K ts E' en := fun A0 Hs A H σ I F f =>
  h A0 Hs A H σ I F ⟨fun A H σ en I q => f.nx A H σ en I (h1 _ q), fun A H σ en v d I q r => f.rt A H σ en v d I q (h2 _ r), fun A H σ en I q => f.bk A H σ en I (h3 _ q), fun A H σ en I q => f.ct A H σ en I (h4 _ q)⟩
/-- xs.append(e), xs an own list -/
theorem s_app {ds : List D} (hi : en[i]? = some (some (.ow none (.ls ds)))) (h : EvD K te en d) (hz : ds.length < 16000000) (k : E.nx (en.set i (some (.ow none (.ls (ds ++ [d])))))) :
    SD K (tDrop (tBM K "list" rAppend (tVar i) (tCons te tNil))) E en := fun A0 Hs A H σ I F f => by
  obtain ⟨v, hv, p, vs, rfl, hA, hA0, hp, hd⟩ := I.ols hi
  refine ⟨_, hv, .inl ⟨rfl, _, SqL.of hp⟩, h A0 Hs A H σ I _ fun u H1 g1 d1 => ?_⟩
  have hl := dpa_len hd
  have hp1 : H1 p = some (.lst vs) := by rw [g1.eq p hA]; exact hp
  refine ⟨p, vs, u, rfl, rfl, hp1, Nat.lt_of_lt_of_le (by omega : vs.length < 16000000) (by rw [sizeLine_eq]; decide), ?_⟩
  exact f.nx A _ σ _ ((I.grow g1).writeL (ds' := ds ++ [d]) hi hv (dpa_append (dpa_mono g1.ex hd) (.cons d1 .nil))) k
/-- a loop: I by the turn -/
theorem s_for {wi : TI} {xs : List D} (hw : EvI K wi en xs) (P : Nat → En → Prop) (h0 : P 0 en)
    (hs : ∀ (j : Nat) (x : D) (e : En), xs[j]? = some x → P j e → ∃ e', GD K g x e e' ∧ SD K ts { E with nx := P (j + 1), ct := P (j + 1), bk := E.nx } e') (hd : ∀ e, P xs.length e → E.nx e) : SD K (tFor wi g ts) E en := fun A0 Hs A H σ I F f =>
  hw A0 Hs A H σ I _ fun J H1 g1 W => by
    have I1 := (I.grow g1).rebase
    refine ⟨fun j m σ' H' => m = xs.length - j ∧ j ≤ xs.length ∧ ∃ A' e, EnvOk K A0 (reb A0 A Hs H1) A' H' σ' e ∧ P j e, ⟨xs.length, by simp, Nat.zero_le _, A, en, I1, h0⟩, ?_⟩
    rintro j m σ' H' ⟨rfl, hj, A', e, I', p⟩
    have sm : Same (hide A H1) (hide A' H') := reb_sub (I.grow g1) I'
    have unre : ∀ {A2 : Addr → Bool} {H2 : Hp} {σ2 : L2.St} {e2 : En}, EnvOk K A0 (reb A0 A Hs H1) A2 H2 σ2 e2 → EnvOk K A0 Hs A2 H2 σ2 e2 := fun J => (I.grow g1).unrebase J
    by_cases hlt : j < xs.length
    · refine .inr ⟨W.goes A' H' j I'.live sm hlt, fun σ2 H2 => ∃ A2 e2, EnvOk K A0 (reb A0 A Hs H1) A2 H2 σ2 e2 ∧ P (j + 1) e2, fun σ2 H2 ⟨A2, e2, I2, p2⟩ => ⟨xs.length - (j + 1), by omega, rfl, hlt, A2, e2, I2, p2⟩, fun x H2 y => ?_⟩
      have hx : xs[j]? = some xs[j] := by simp [hlt]
      obtain ⟨g2, dx⟩ := W.yields A' H' j _ x H2 I'.live sm hx y
      obtain ⟨e', hg, hb⟩ := hs j _ e hx p
      exact hg A0 _ A' H2 σ' x (I'.grow g2) dx _ fun σ3 H3 g3 I3 => hb A0 _ A' H3 σ3 I3 _ ⟨fun A4 H4 σ4 e4 I4 q => ⟨A4, e4, I4, q⟩, fun A4 H4 σ4 e4 v d I4 dv q => f.rt A4 H4 σ4 e4 v d (unre I4) dv q, fun A4 H4 σ4 e4 I4 q => f.nx A4 H4 σ4 e4 (unre I4) q, fun A4 H4 σ4 e4 I4 q => ⟨A4, e4, I4, q⟩⟩
    · have ej : j = xs.length := by omega
      subst ej
      exact .inl ⟨W.stops A' H' I'.live sm, f.nx A' H' σ' e (unre I') (hd e p)⟩
theorem s_forA {α : Type} {wi : TI} {as : List α} (enc : α → D) (hw : EvI K wi en (as.map enc)) (P : Nat → En → Prop) (h0 : P 0 en)
    (hs : ∀ (j : Nat) (a : α) (e : En), as[j]? = some a → P j e → ∃ e', GD K g (enc a) e e' ∧ SD K ts { E with nx := P (j + 1), ct := P (j + 1), bk := E.nx } e') (hd : ∀ e, P as.length e → E.nx e) : SD K (tFor wi g ts) E en :=
  s_for hw P h0 (fun j x e hx p => by
    rw [List.getElem?_map] at hx
    obtain ⟨a, ha, rfl⟩ := Option.map_eq_some_iff.mp hx
    exact hs j a e ha p) (by rw [List.length_map]; exact hd)
/-- while -/
theorem s_while (W : Nat → En → Prop) (m0 : Nat) (h0 : W m0 en)
    (hs : ∀ m e, W m e → ∃ b, EvT K tt e b ∧ (b = true → ∃ N : En → Prop, (∀ e', N e' → ∃ m', m' < m ∧ W m' e') ∧ SD K ts { E with nx := N, ct := N, bk := E.nx } e) ∧ (b = false → E.nx e)) : SD K (tWhile tt ts) E en := fun A0 Hs A H σ I F f => by
  refine ⟨fun m σ H => ∃ A e, EnvOk K A0 Hs A H σ e ∧ W m e, ⟨m0, A, en, I, h0⟩, ?_⟩
  rintro m σ1 H1 ⟨A1, e, I1, w⟩
  obtain ⟨b, hb, h1, h2⟩ := hs m e w
  refine hb A0 Hs A1 H1 σ1 I1 _ fun H2 g2 => ?_
  cases b with
  | true =>
    obtain ⟨N, hN, hbd⟩ := h1 rfl
    refine ⟨fun σ' H' => ∃ A' e', EnvOk K A0 Hs A' H' σ' e' ∧ N e', fun σ' H' ⟨A', e', I', n⟩ => ?_, ?_⟩
    · obtain ⟨m', hm, w'⟩ := hN e' n
      exact ⟨m', hm, A', e', I', w'⟩
    · exact hbd A0 Hs A1 H2 σ1 (I1.grow g2) _ ⟨fun A4 H4 σ4 e4 I4 q => ⟨A4, e4, I4, q⟩, f.rt, f.nx, fun A4 H4 σ4 e4 I4 q => ⟨A4, e4, I4, q⟩⟩
  | false => exact f.nx A1 H2 σ1 e (I1.grow g2) (h2 rfl)
end

/-! ### comprehensions -/
def wipeE (en : En) : List Nat → En
  | [] => en
  | v :: vs => (wipeE en vs).set v none
theorem wipe_ok {K : Fg} {A0 A : Addr → Bool} {Hs H : Hp} {σ : L2.St} {en : En} (I : EnvOk K A0 Hs A H σ en) : ∀ vs : List Nat, (∀ v ∈ vs, v < en.length) → EnvOk K A0 Hs A H (wipe σ vs) (wipeE en vs)
  | [], _ => I
  | v :: vs, h => (wipe_ok I vs fun x hx => h x (List.mem_cons_of_mem _ hx)).unset (by rw [wipe_length, I.len]; exact h v List.mem_cons_self)
/-- a new object at p, held apart -/
theorem EnvOk.apart {K : Fg} {A0 A : Addr → Bool} {Hs H : Hp} {σ : L2.St} {en : En} (I : EnvOk K A0 Hs A H σ en) {p : Addr} {o : HO} (hp : H p = none) : EnvOk K A0 Hs (adda A p) (upd H p o) σ en := by
  have hA : A p = false := I.live.out hp
  have sm : Same (hide A H) (hide (adda A p) (upd H p o)) := same_of fun a u e => by
    obtain ⟨h1, h2⟩ := hide_some e
    have hne : a ≠ p := ne_of_none h2 hp
    rw [hide_out (by rw [adda_ne hne]; exact h1), upd_ne hne]
    exact h2
  have nA : ∀ q, A q = true → q ≠ p := fun q hq z => by rw [z, hA] at hq; cases hq
  refine ⟨I.base.trans sm, fun q hq => ?_, fun q hq => adda_of (I.sub q hq), fun q hq => ?_, I.len, ?_⟩
  · rw [upd_ne (nA q (I.sub q hq))]; exact I.keep q hq
  · by_cases e : q = p
    · rw [e, upd_same]; exact fun z => by cases z
    · rw [adda_ne e] at hq
      rw [upd_ne e]; exact I.live q hq
  · obtain ⟨O, hO⟩ := I.own
    refine ⟨O, fun j t e => ?_⟩
    obtain ⟨v, h1, h2⟩ := hO j t e
    exact ⟨v, h1, h2.keep sm fun _ q rh m => ⟨⟨adda_of m.1, m.2⟩, upd_ne (nA q m.1)⟩⟩
section
variable {K : Fg} {te : TE} {tt : TT} {en : En} {g : TG} {wi : TI} {vs : List Nat}
/-- what the comprehension's turns give -/
def lcD {α : Type} (f : α → Bool) (h : α → D) (xs : List α) : List D := (xs.filter f).map h
theorem lcD_yes {α : Type} {f : α → Bool} {h : α → D} {xs : List α} {n : Nat} {x : α} (e : xs[n]? = some x) (hf : f x = true) : lcD f h (xs.take (n + 1)) = lcD f h (xs.take n) ++ [h x] := by
  unfold lcD
  rw [List.take_add_one, e, List.filter_append, List.map_append]
  simp [hf]
theorem lcD_no {α : Type} {f : α → Bool} {h : α → D} {xs : List α} {n : Nat} {x : α} (e : xs[n]? = some x) (hf : f x = false) : lcD f h (xs.take (n + 1)) = lcD f h (xs.take n) := by
  unfold lcD
  rw [List.take_add_one, e, List.filter_append, List.map_append]
  simp [hf]
theorem lcD_len {α : Type} {f : α → Bool} {h : α → D} {xs : List α} : (lcD f h xs).length ≤ xs.length := by
  unfold lcD
  rw [List.length_map]
  exact List.length_filter_le f xs
theorem el_lc {α : Type} {xs : List α} (enc : α → D) (f : α → Bool) (h : α → D) (hw : EvI K wi en (xs.map enc)) (hz : xs.length < 16000000) (hv : ∀ v ∈ vs, v < en.length)
    (hwipe : ∀ (σ : L2.St) (v : V) (H : Hp) (Q : L2.St → Hp → Prop), g v (wipe σ vs) H Q → g v (wipe σ vs) H fun σ2 H2 => wipe σ2 vs = wipe σ vs ∧ Q σ2 H2)
    (hs : ∀ (j : Nat) (x : α), xs[j]? = some x → ∃ e', GD K g (enc x) (wipeE en vs) e' ∧ EvT K tt e' (f x) ∧ (f x = true → EvD K te e' (h x))) : EvN K (tLc wi g tt te vs) en (lcD f h xs) := fun A0 Hs A H σ I Q k =>
  hw A0 Hs A H σ I _ fun J H1 g1 W Dl hD => by
    have I1 := I.grow g1
    have hA : A Dl = false := I1.live.out hD
    have hA0 : A0 Dl = false := by
      cases e : A0 Dl with
      | false => rfl
      | true => rw [I.sub Dl e] at hA; cases hA
    have hD0 : H Dl = none := g1.same.none hD
    -- the invariant: grown under the list held apart
    let A' := adda A Dl
    have hsub : ∀ {H' : Hp}, Same (hide A H1) (hide A' H') → Same (hide A H1) (hide A H') := fun {H'} s => s.via (fun _ _ => rfl) fun a _ m => (hide_adda_ne (adda_false (hide_th m).1).2).symm
    have hle : xs.length ≤ sizeLine := Nat.le_of_lt (Nat.lt_of_lt_of_le hz (by rw [sizeLine_eq]; decide))
    let Pv : Nat → Hp → Prop := fun j H' => Same (hide A H1) (hide A' H') ∧ (∀ p, A p = true → H' p = H1 p) ∧ ∃ ws, H' Dl = some (.lst ws) ∧ DqAll K (hide A' H') ws (lcD f h (xs.take j))
    have IA : ∀ {j : Nat} {H' : Hp}, Pv j H' → EnvOk K A0 Hs A' H' σ en := fun {j H'} ⟨s, q, ws, e, _⟩ => by
      have J0 := I1.apart (o := .lst ws) hD
      refine J0.grow ⟨s.via (fun a n => ?_) (fun _ _ _ => rfl), fun p hp => ?_⟩
      · have hne : a ≠ Dl := (adda_false (hide_th n).1).2
        rw [hide_adda_ne hne]
        unfold hide
        rw [upd_ne hne]
      · by_cases hp' : p = Dl
        · rw [hp', upd_same]; exact e
        · rw [upd_ne hp']
          have hp2 : A p = true := by
            have : adda A Dl p = true := hp
            rw [adda_ne hp'] at this; exact this
          exact q p hp2
    refine ⟨fun j m H' => m = xs.length - j ∧ j ≤ xs.length ∧ Pv j H', ⟨xs.length, by simp, Nat.zero_le _, same_of fun a o e => ?_, fun p hp => ?_, [], upd_same, ?_⟩, ?_⟩
    · obtain ⟨h1, h2⟩ := hide_some e
      have hne : a ≠ Dl := ne_of_none h2 hD
      show hide (adda A Dl) _ a = _
      rw [hide_out (by rw [adda_ne hne]; exact h1), upd_ne hne]; exact h2
    · exact upd_ne fun z => by rw [z, hA] at hp; cases hp
    · exact .nil
    rintro j m H' ⟨rfl, hj, p⟩
    have IJ := IA p
    obtain ⟨s, q, ws, e, dw⟩ := p
    by_cases hlt : j < xs.length
    · refine .inr ⟨W.goes A' H' j IJ.live s (by rw [List.length_map]; exact hlt), fun H2 => Pv (j + 1) H2, fun H2 p2 => ⟨xs.length - (j + 1), by omega, rfl, hlt, p2⟩, fun x H2 y => ?_⟩
      have hx : xs[j]? = some xs[j] := by simp [hlt]
      obtain ⟨g2, dx⟩ := W.yields A' H' j (enc xs[j]) x H2 IJ.live s (by rw [List.getElem?_map, hx]; rfl) y
      obtain ⟨e', hg, ht, hb⟩ := hs j _ hx
      refine hwipe σ x H2 _ (hg A0 Hs A' H2 _ x (wipe_ok (IJ.grow g2) vs hv) dx _ fun σ3 H3 g3 I3 => ?_)
      refine ht A0 Hs A' H3 σ3 I3 _ fun H4 g4 => ?_
      have I4 := I3.grow g4
      have gg : Grow A' H' H4 := (g2.trans g3).trans g4
      cases hf : f xs[j] with
      | false =>
        show Pv (j + 1) H4
        refine ⟨s.trans gg.ex, fun p hp => (gg.eq p (adda_of hp)).trans (q p hp), ws, by rw [gg.eq Dl adda_self]; exact e, ?_⟩
        rw [lcD_no hx hf]
        exact dpa_mono gg.ex dw
      | true =>
        show te σ3 H4 fun y H5 => ∃ acc, H5 Dl = some (.lst acc) ∧ acc.length < sizeLine ∧ Pv (j + 1) (upd H5 Dl (.lst (acc ++ [y])))
        refine hb hf A0 Hs A' H4 σ3 I4 _ fun u H5 g5 du => ?_
        have g6 := gg.trans g5
        have sm : Same (hide A' H5) (hide A' (upd H5 Dl (.lst (ws ++ [u])))) := same_of fun a o ea => by
          obtain ⟨h1, h2⟩ := hide_some ea
          rw [hide_out h1, upd_ne (adda_false h1).2]; exact h2
        refine ⟨ws, by rw [g6.eq Dl adda_self]; exact e, ?_, (s.trans g6.ex).trans sm, fun p hp => ?_, ws ++ [u], upd_same, ?_⟩
        · have h1 := dpa_len dw
          have h2 := lcD_len (f := f) (h := h) (xs := xs.take j)
          have h3 : (xs.take j).length ≤ j := by simp; omega
          omega
        · rw [upd_ne (fun z => by rw [z, hA] at hp; cases hp)]
          exact (g6.eq p (adda_of hp)).trans (q p hp)
        · rw [lcD_yes hx hf]
          exact dpa_mono sm (dpa_append (dpa_mono g6.ex dw) (.cons du .nil))
    · have ej : j = xs.length := by omega
      subst ej
      refine .inl ⟨by have q := W.stops A' H' IJ.live s; rw [List.length_map] at q; exact q, k Dl H' ws hD0 (g1.trans ⟨hsub s, q⟩) e ?_⟩
      rw [List.take_length] at dw
      exact dw
end
end HF

set_option Elab.async false
set_option linter.all false
set_option maxRecDepth 100000
set_option maxHeartbeats 2000000
namespace HF
open PySem L2 PySem.Spec PyProof.Rows

/-! ### a def's promise -/
def spD (K : Fg) (R : List D → D → Prop) : Sp := fun vs H Q _ => ∃ A ds d, (Live A H ∧ Tabs K (hide A H)) ∧ DqAll K (hide A H) vs ds ∧ R ds d ∧ ∀ v H', Grow A H H' → Dq K (hide A H') v d → Q v H'
def startE (N : List Str) (ds : List D) : En := ds.map (fun d => some (.sh d)) ++ List.replicate (N.length - ds.length) none
section
variable {K : Fg} {P : Program} {w : World} {mg : Str → Option Value} {base : Heap}
theorem start_ok {A : Addr → Bool} {H : Hp} {vs : List V} {ds : List D} (N : List Str) (l : Live A H ∧ Tabs K (hide A H)) (h : DqAll K (hide A H) vs ds) : EnvOk K A H A H (L2.start N vs) (startE N ds) := by
  have hl := dpa_len h
  have own : ∀ (i : Nat) (s : Sl), (startE N ds)[i]? = some (some s) → ∃ d, ds[i]? = some d ∧ s = .sh d := fun i s e => by
    unfold startE at e
    by_cases hi : i < ds.length
    · rw [List.getElem?_append_left (by simpa using hi), List.getElem?_map] at e
      cases q : ds[i]? with
      | none => rw [q] at e; cases e
      | some d => rw [q] at e; cases e; exact ⟨d, rfl, rfl⟩
    · rw [List.getElem?_append_right (by simpa using hi)] at e
      have := List.mem_of_getElem? e
      have := List.eq_of_mem_replicate this
      cases this
  refine ⟨⟨l.2, Same.refl _⟩, fun _ _ => rfl, fun _ h => h, l.1, by simp [L2.start, startE, hl], fun _ => [], fun i s e => ?_⟩
  · obtain ⟨d, hd, rfl⟩ := own i s e
    obtain ⟨v, hv, q⟩ := dpa_get h hd
    refine ⟨v, ?_, q⟩
    unfold L2.start
    have hi : i < vs.length := (List.getElem?_eq_some_iff.mp hv).1
    rw [List.getElem?_append_left (by simpa using hi), List.getElem?_map, hv]; rfl
theorem fnD {x qual : Str} {st : Stmt} {f : Addr} {fd : FuncData} {N ps : List Str} {k : Nat} {R : List D → D → Prop} (F : Fun K x qual st f fd) (S : FnScope N ps (defScope st)) (len : ∀ ds d, R ds d → ds.length = ps.length)
    (hbody : ∀ (cdv : Value) (A : Around) (outer : List Env) (s : Shared) (H : Hp) (E : XK), Room k (A.deeper (envOfC qual (defScope st) s.heap.objs.size f cdv)) →
      ∃ t, PSs (cxOf CX0 P w K mg base N qual (defScope st) f cdv A outer s H E).nox (defBody st) t ∧ ∀ ds d, R ds d → SD K t { nx := fun _ => d = .none, rt := fun r => r = d } (startE N ds)) : FnOk P w K mg base CX0 (k + 1) f fd ps (spD K R) :=
  F.ok S (fun vs H Q E h => by
    obtain ⟨A, ds, d, _, hd, hR, _⟩ := h
    rw [dpa_len hd]; exact len ds d hR) fun cdv A outer s H vs Q E hr h => by
    obtain ⟨A1, ds, d, l, hd, hR, k⟩ := h
    obtain ⟨t, ht, hs⟩ := hbody cdv A outer s H E hr
    refine ⟨t, ht, hs ds d hR A1 H A1 H _ (start_ok N l hd) _ ?_⟩
    have out : ∀ {A' : Addr → Bool} {H' : Hp} {σ' : L2.St} {en' : En}, EnvOk K A1 H A' H' σ' en' → Grow A1 H H' ∧ Same (hide A' H') (hide A1 H') := fun {A' H' σ' en'} I => by
      have sm : Same (hide A' H') (hide A1 H') := same_of fun a o e => by
        obtain ⟨h1, h2⟩ := hide_some e
        have : A1 a = false := by
          cases q : A1 a with
          | false => rfl
          | true => rw [I.sub a q] at h1; cases h1
        rw [hide_out this]; exact h2
      exact ⟨⟨I.base.same.trans sm, I.keep⟩, sm⟩
    refine ⟨fun A' H' σ' en' I e => ?_, fun A' H' σ' en' v d' I dv e => ?_, fun A' H' σ' en' I e => False.elim e, fun A' H' σ' en' I e => False.elim e⟩
    · obtain ⟨g, _⟩ := out I
      have e : d = .none := e
      rw [e] at k
      exact k _ H' g .non
    · obtain ⟨g, sm⟩ := out I
      have e : d' = d := e
      rw [e] at dv
      exact k v H' g (dp_mono sm dv)
/-- the law itself: its script is a list that is only read -/
def spL (K : Fg) (R : List Int → Prop) : Sp := fun vs H Q _ => ∃ (a : Addr) (ns : List Int), vs = [.ref a] ∧ SqL K H a (ns.map V.int) ∧ (R ns ∧ Tabs K H) ∧ ∀ H', Q (.bl true) H'
theorem fnL {x qual : Str} {st : Stmt} {f : Addr} {fd : FuncData} {N : List Str} {p : Str} {k : Nat} {R : List Int → Prop} (F : Fun K x qual st f fd) (S : FnScope N [p] (defScope st))
    (hbody : ∀ (cdv : Value) (A : Around) (outer : List Env) (s : Shared) (H : Hp) (E : XK), Room k (A.deeper (envOfC qual (defScope st) s.heap.objs.size f cdv)) →
      ∃ t, PSs (cxOf CX0 P w K mg base N qual (defScope st) f cdv A outer s H E).nox (defBody st) t ∧ ∀ ns, R ns → SD K t { nx := fun _ => False, rt := fun r => r = .bool true } (some (.kl (ns.map .int)) :: List.replicate (N.length - 1) none)) : FnOk P w K mg base CX0 (k + 1) f fd [p] (spL K R) :=
  F.ok S (fun vs H Q E h => by
    obtain ⟨a, ns, rfl, _⟩ := h
    rfl) fun cdv A outer s H vs Q E hr h => by
    obtain ⟨a, ns, rfl, hS, hR, k⟩ := h
    obtain ⟨t, ht, hs⟩ := hbody cdv A outer s H E hr
    let A1 : Addr → Bool := fun _ => false
    have e1 : hide A1 H = H := funext fun b => hide_out rfl
    have own : ∀ (i : Nat) (s : Sl), (some (Sl.kl (ns.map .int)) :: List.replicate (N.length - 1) none : En)[i]? = some (some s) → i = 0 ∧ s = .kl (ns.map .int) := fun i s e => by
      cases i with
      | zero => cases e; exact ⟨rfl, rfl⟩
      | succ i =>
        have e : (List.replicate (N.length - 1) (none : Option Sl))[i]? = some (some s) := e
        have := List.eq_of_mem_replicate (List.mem_of_getElem? e)
        cases this
    have I : EnvOk K A1 H A1 H (L2.start N [.ref a]) (some (.kl (ns.map .int)) :: List.replicate (N.length - 1) none) := by
      refine ⟨⟨by rw [e1]; exact hR.2, Same.refl _⟩, fun _ _ => rfl, fun _ h => h, fun _ h => (by cases h), by simp [L2.start], fun _ => [], fun i s e => ?_⟩
      · obtain ⟨rfl, rfl⟩ := own i s e
        exact ⟨.ref a, rfl, a, _, rfl, by rw [e1]; exact hS, ints_dpa ns⟩
    refine ⟨t, ht, hs ns hR.1 A1 H A1 H _ I _ ⟨fun A' H' σ' en' I e => False.elim e, fun A' H' σ' en' v d' I dv e => ?_, fun A' H' σ' en' I e => False.elim e, fun A' H' σ' en' I e => False.elim e⟩⟩
    have e : d' = .bool true := e
    rw [e] at dv
    rw [dp_bl dv]
    exact k H'
/-- a def of the module, ready to be called by its name -/
structure Cal (P : Program) (w : World) (K : Fg) (mg : Str → Option Value) (base : Heap) (x : Str) (k : Nat) (R : List D → D → Prop) : Prop where
  ex : ∃ (f : Addr) (fd : FuncData) (ps : List Str), FnOk P w K mg base CX0 k f fd ps (spD K R) ∧ mg x = some (.ref f) ∧ PySem.W.keepIn K (.ref f) = true ∧ Binds K fd ps []
theorem Cal.mono {x : Str} {j k : Nat} {R : List D → D → Prop} (c : Cal P w K mg base x j R) (h : j ≤ k) : Cal P w K mg base x k R := by
  obtain ⟨f, fd, ps, F, q⟩ := c.ex
  exact ⟨f, fd, ps, F.mono h, q⟩
theorem Cal.imp {x : Str} {k : Nat} {R R' : List D → D → Prop} (c : Cal P w K mg base x k R) (h : ∀ ds d, R' ds d → R ds d) : Cal P w K mg base x k R' := by
  obtain ⟨f, fd, ps, F, q⟩ := c.ex
  exact ⟨f, fd, ps, F.imp fun vs H Q E ⟨A, ds, d, l, hd, hR, k⟩ => ⟨A, ds, d, l, hd, h ds d hR, k⟩, q⟩
def tFn (K : Fg) (R : List D → D → Prop) (t : TA) : TE := tCall (spD K R) [] E0 t
end
section
variable {X : Cx}
theorem pe_fun {x : Str} {j k : Nat} {R : List D → D → Prop} {p pos : Pos} {e : Expr} {es : List Expr} {t : TA} {T : Addr → Prop} {Gv : Str → V} (c : Cal X.prog X.w ⟨X.K, T, Gv, X.w⟩ X.mg X.base x j R) (hr : Room k X.A) (hg : Gl X x) (ha : PA X (e :: es) t) (hj : j ≤ k := by decide)
    (hdb : (x == ("__debug__" : Str)) = false := by decide) (he : starEach (e :: es) X.env = (false, eval e X.env) :: starEach es X.env := by rfl) (hpl : (backTo pos (starEach es X.env)).any (·.1) = false := by rfl) : PE X (.Call (.Name x p) (e :: es) [] pos) (tFn ⟨X.K, T, Gv, X.w⟩ R t) := by
  obtain ⟨f, fd, ps, F, hm, hk, hb⟩ := c.ex
  exact pe_call F (hr.mono hj) hg hm hk hb .nil pass0 ha hdb he hpl
theorem pe_fun0 {x : Str} {j k : Nat} {R : List D → D → Prop} {p pos : Pos} {T : Addr → Prop} {Gv : Str → V} (c : Cal X.prog X.w ⟨X.K, T, Gv, X.w⟩ X.mg X.base x j R) (hr : Room k X.A) (hg : Gl X x) (hj : j ≤ k := by decide)
    (hdb : (x == ("__debug__" : Str)) = false := by decide) : PE X (.Call (.Name x p) [] [] pos) (tFn ⟨X.K, T, Gv, X.w⟩ R tNil) := by
  obtain ⟨f, fd, ps, F, hm, hk, hb⟩ := c.ex
  exact pe_call0 F (hr.mono hj) hg hm hk hb .nil pass0 hdb
end
section
variable {K : Fg} {en : En}
theorem ev_fn {R : List D → D → Prop} {t : TA} {ds : List D} {d : D} (h : EvA K t en ds) (hR : R ds d) : EvD K (tFn K R t) en d := fun A0 Hs A H σ I Q k =>
  h A0 Hs A H σ I _ fun vs H1 g1 d1 => ⟨A, ds, d, ⟨g1.live I.live, I.tabs.same g1.ex⟩, by rw [List.append_nil]; exact d1, hR, fun v H2 g2 d2 => k v H2 (g1.trans g2) d2⟩
end

/-! ### operators of any kind of data -/
/-- list + list, tracked or locked -/
def rCatRU (K : PySem.W.Frag) : R2 := fun x y H Q => ∃ l b xs zs, x = .ref l ∧ y = .ref b ∧ SqX K H l xs ∧ SqX K H b zs ∧ xs.length + zs.length ≤ sizeLine ∧ ∀ p, H p = none → Q (.ref p) (upd H p (.lst (xs ++ zs)))
section
variable {X : Cx}
theorem lst_rd {pins : List (Addr × Obj)} {σ : L2.St} {H : Hp} {s : Shared} {l : Addr} {xs : List V} (I : Inv X pins σ H s) (h : SqX X.K H l xs) : xs.length ≤ sizeLine ∧ ∃ (its : List Value) (n : Nat), Vals xs its ∧ xs.length = its.length ∧ s.heap.get? l = some { cls := .type "list", data := .seq its.toArray n } := by
  rcases h with h | ⟨its, n, hk, hz, r⟩
  · obtain ⟨z, its, n, r, e⟩ := h.ok I.hok
    exact ⟨z, its, n, r, r.length, e⟩
  · have e := r.length
    simp only [Array.length_toList] at e
    exact ⟨by omega, its.toList, n, r, r.length, by simpa using I.kIn l _ hk⟩
theorem op_catR : OpR X (binaryOp .Add) (rCatRU X.K) := by
  intro pins s σ H x y v u Q I rx ry h
  obtain ⟨l, b, xs, zs, rfl, rfl, hH, hB, hz, q⟩ := h
  cases rx
  cases ry
  obtain ⟨z, its, n, r, hl, e⟩ := lst_rd I hH
  obtain ⟨z2, its2, n2, r2, hl2, e2⟩ := lst_rd I hB
  refine PySem.P.add_list e e2 ?_ (by rw [List.size_toArray, List.size_toArray]; omega)
  have ea : its.toArray ++ its2.toArray = (its ++ its2).toArray := by simp
  rw [ea]
  exact ⟨.ref _, _, I.lnew (t' := s.toks) (r.append r2) (by rw [List.length_append]; omega), rfl, q _ I.fresh⟩
def rOrU (r r' : R2) : R2 := fun x y H Q => r x y H Q ∨ r' x y H Q
theorem op_or2 {f : Value → Value → Sem Value} {r r' : R2} (h : OpR X f r) (h' : OpR X f r') : OpR X f (rOrU r r') := OpR.or h h'
def rAddIU : R2 := rI0 fun i j => .int (i + j)
def rAddSU : R2 := fun x y H Q => ∃ i j, x = .str i ∧ y = .str j ∧ i.length + j.length ≤ sizeLine ∧ Q (.str (i ++ j)) H
def rAddU (K : PySem.W.Frag) : R2 := rOrU rAddIU (rOrU rAddSU (rOrU (rCatA K) (rCatRU K)))
theorem op_addU : OpR X (binaryOp .Add) (rAddU X.K) := op_or2 op_add (op_or2 op_add_str (op_or2 op_catA op_catR))
def rLtI : R2 := rI0 fun i j => .bl (decide (i < j))
def rLeI : R2 := rI0 fun i j => .bl (decide (i ≤ j))
def rGtI : R2 := rI0 fun i j => .bl (decide (j < i))
def rGeI : R2 := rI0 fun i j => .bl (decide (j ≤ i))
def rLtS : R2 := fun x y H Q => ∃ i j, x = .str i ∧ y = .str j ∧ Q (.bl (decide (i.cps.toList < j.cps.toList))) H
def rLeS : R2 := fun x y H Q => ∃ i j, x = .str i ∧ y = .str j ∧ Q (.bl (!decide (j.cps.toList < i.cps.toList))) H
def rGtS : R2 := fun x y H Q => ∃ i j, x = .str i ∧ y = .str j ∧ Q (.bl (decide (j.cps.toList < i.cps.toList))) H
def rGeS : R2 := fun x y H Q => ∃ i j, x = .str i ∧ y = .str j ∧ Q (.bl (!decide (i.cps.toList < j.cps.toList))) H
def rLtU (K : PySem.W.Frag) : R2 := rOrU rLtI (rOrU rLtS (rLtT K))
def rLeU (K : PySem.W.Frag) : R2 := rOrU rLeI (rOrU rLeS (rLeT K))
def rGtU : R2 := rOrU rGtI rGtS
def rGeU : R2 := rOrU rGeI rGeS
theorem op_ltU (hu : X.A.units < cLine) : OpR X (compareOp .Lt) (rLtU X.K) := op_or2 op_lt (op_or2 op_lt_str (op_ltT hu))
theorem op_leU (hu : X.A.units < cLine) : OpR X (compareOp .LtE) (rLeU X.K) := op_or2 op_le (op_or2 op_le_str (op_leT hu))
theorem op_gtU : OpR X (compareOp .Gt) rGtU := op_or2 op_gt op_gt_str
theorem op_geU : OpR X (compareOp .GtE) rGeU := op_or2 op_ge op_ge_str
theorem op_eqU {k : Nat} (hr : Room k X.A) : OpR X (compareOp .Eq) (rEqD X.K) := op_eqD hr.units
theorem op_neU {k : Nat} (hr : Room k X.A) : OpR X (compareOp .NotEq) (rNeD X.K) := op_neD hr.units
def rInSg : R2 := fun x y H Q => ∃ (c : Nat) (z : Str), x = .str ⟨#[c]⟩ ∧ y = .str z ∧ Q (.bl (decide (c ∈ z.cps.toList))) H
def rNotInSg : R2 := fun x y H Q => ∃ (c : Nat) (z : Str), x = .str ⟨#[c]⟩ ∧ y = .str z ∧ Q (.bl (!decide (c ∈ z.cps.toList))) H
def rInU (K : PySem.W.Frag) : R2 := rOrU (rIn K false) (rOrU (rInD K) rInSg)
def rNotInU (K : PySem.W.Frag) : R2 := rOrU (rIn K true) (rOrU (rNotInD K) rNotInSg)
theorem op_inU {k : Nat} (hr : Room k X.A) : OpR X (compareOp .In) (rInU X.K) := op_or2 op_in_seq (op_or2 (op_inD (by have := hr.un; omega)) op_in_sign)
theorem op_notInU {k : Nat} (hr : Room k X.A) : OpR X (compareOp .NotIn) (rNotInU X.K) := op_or2 op_notIn_seq (op_or2 (op_notInD (by have := hr.un; omega)) op_notIn_sign)
def rIsNU : R2 := fun x y H Q => y = .non ∧ Q (.bl (decide (x = .non))) H
def rIsNotNU : R2 := fun x y H Q => y = .non ∧ Q (.bl (!decide (x = .non))) H
theorem op_isU : OpR X (compareOp .Is) rIsNU := op_isN
theorem op_isNotU : OpR X (compareOp .IsNot) rIsNotNU := op_notN
end
section
variable {K : Fg}
theorem rd_left {r r' : R2} {x y z : D} (h : RD2 K r x y z) : RD2 K (rOrU r r') x y z := fun A H v w l hx hy Q k => .inl (h A H v w l hx hy Q k)
theorem rd_right {r r' : R2} {x y z : D} (h : RD2 K r' x y z) : RD2 K (rOrU r r') x y z := fun A H v w l hx hy Q k => .inr (h A H v w l hx hy Q k)
theorem rd_I0 {g : Int → Int → V} {h : Int → Int → D} {i j : Int} (e : ∀ K H, Dq K H (g i j) (h i j)) : RD2 K (rI0 g) (.int i) (.int j) (h i j) := fun A H v w l hx hy Q k => ⟨i, j, dp_int hx, dp_int hy, k _ H (Grow.refl H) (e _ _)⟩
theorem rd_I {C : Int → Int → Prop} {g : Int → Int → V} {h : Int → Int → D} {i j : Int} (e : ∀ K H, Dq K H (g i j) (h i j)) (hc : C i j) : RD2 K (rI C g) (.int i) (.int j) (h i j) := fun A H v w l hx hy Q k => ⟨i, j, dp_int hx, dp_int hy, hc, k _ H (Grow.refl H) (e _ _)⟩
theorem rd_addI {i j : Int} : RD2 K (rAddU K) (.int i) (.int j) (.int (i + j)) := rd_left (rd_I0 (h := fun i j => .int (i + j)) fun _ _ => .int _)
theorem rd_addS {a b : Str} (hz : a.length + b.length ≤ sizeLine) : RD2 K (rAddU K) (.str a) (.str b) (.str (a ++ b)) := rd_right (rd_left fun A H v w l hx hy Q k => ⟨a, b, dp_str hx, dp_str hy, hz, k _ H (Grow.refl H) (.str _)⟩)
theorem rd_addT {xs ys : List D} (hz : xs.length + ys.length ≤ sizeLine) : RD2 K (rAddU K) (.tuple xs) (.tuple ys) (.tuple (xs ++ ys)) := rd_right (rd_right (rd_left fun A H v w l hx hy Q k => by
  obtain ⟨a, us, rfl, ha, da⟩ := dp_tup hx
  obtain ⟨b, ws, rfl, hb, db⟩ := dp_tup hy
  have ea := dpa_len da
  have eb := dpa_len db
  refine ⟨a, b, us, ws, rfl, rfl, st_mono hide_sub ha, st_mono hide_sub hb, by omega, fun e => ?_, fun _ e => ?_, fun _ _ p hp => ?_⟩
  · subst e
    cases da
    exact k _ H (Grow.refl H) hy
  · subst e
    cases db
    rw [List.append_nil] at k
    exact k _ H (Grow.refl H) hx
  · have g := Grow.new (o := .tup (us ++ ws)) l hp
    exact k _ _ g (.tup (.inl (.inl (hide_new l hp))) (dpa_mono g.ex (dpa_append da db)))))
theorem en_addL {ta tb : TE} {en : En} {xs ys : List D} (ha : EvD K ta en (.list xs)) (hb : EvD K tb en (.list ys)) (hz : xs.length + ys.length ≤ sizeLine) : EvN K (tOp (rAddU K) ta tb) en (xs ++ ys) := fun A0 Hs A H σ I Q k =>
  ha A0 Hs A H σ I _ fun v H1 g1 d1 => hb A0 Hs A H1 σ (I.grow g1) _ fun w H2 g2 d2 => by
    obtain ⟨a, us, rfl, ha, da⟩ := dp_lst d1
    obtain ⟨b, ws, rfl, hb, db⟩ := dp_lst d2
    have ea := dpa_len da
    have eb := dpa_len db
    refine .inr (.inr (.inr ⟨a, b, us, ws, rfl, rfl, sx_mono g2.same (sx_mono hide_sub ha), sx_mono hide_sub hb, by omega, fun p hp => ?_⟩))
    have l2 := (g1.trans g2).live I.live
    have hp0 : H p = none := (g1.trans g2).same.none hp
    exact k p _ (us ++ ws) hp0 ((g1.trans g2).trans (Grow.new l2 hp)) upd_same (grow_newl hp (dpa_append (dpa_mono g2.ex da) db))
theorem rd_subI {i j : Int} : RD2 K (rI0 fun i j => .int (i - j)) (.int i) (.int j) (.int (i - j)) := rd_I0 (h := fun i j => .int (i - j)) fun _ _ => .int _
theorem rd_mulI {i j : Int} (hc : CMul i j) : RD2 K (rI CMul fun i j => .int (i * j)) (.int i) (.int j) (.int (i * j)) := rd_I (h := fun i j => .int (i * j)) (fun _ _ => .int _) hc
theorem rd_fdiv {i j : Int} (hc : CDiv i j) : RD2 K (rI CDiv fun i j => .int (i / j)) (.int i) (.int j) (.int (i / j)) := rd_I (h := fun i j => .int (i / j)) (fun _ _ => .int _) hc
theorem rd_mod {i j : Int} (hc : 0 < j) : RD2 K (rI (fun _ j => 0 < j) fun i j => .int (i % j)) (.int i) (.int j) (.int (i % j)) := rd_I (C := fun _ j => 0 < j) (h := fun i j => .int (i % j)) (fun _ _ => .int _) hc
theorem rd_pow {i j : Int} (hc : CPow i j) : RD2 K (rI CPow fun i j => .int (i ^ j.toNat)) (.int i) (.int j) (.int (i ^ j.toNat)) := rd_I (h := fun i j => .int (i ^ j.toNat)) (fun _ _ => .int _) hc
theorem rd_shl {i j : Int} (hc : CPow i j) : RD2 K (rI CPow fun i j => .int (i * 2 ^ j.toNat)) (.int i) (.int j) (.int (i * 2 ^ j.toNat)) := rd_I (h := fun i j => .int (i * 2 ^ j.toNat)) (fun _ _ => .int _) hc
theorem rd_shr {i j : Int} (hc : 0 ≤ j) : RD2 K (rI (fun _ j => 0 ≤ j) fun i j => .int (i / 2 ^ j.toNat)) (.int i) (.int j) (.int (i / 2 ^ j.toNat)) := rd_I (C := fun _ j => 0 ≤ j) (h := fun i j => .int (i / 2 ^ j.toNat)) (fun _ _ => .int _) hc
theorem rd_band {i j : Int} : RD2 K (rI0 fun i j => .int (Builtin.bitAnd i j)) (.int i) (.int j) (.int (Builtin.bitAnd i j)) := rd_I0 (h := fun i j => .int (Builtin.bitAnd i j)) fun _ _ => .int _
theorem rd_bor {i j : Int} : RD2 K (rI0 fun i j => .int (Builtin.bitOr i j)) (.int i) (.int j) (.int (Builtin.bitOr i j)) := rd_I0 (h := fun i j => .int (Builtin.bitOr i j)) fun _ _ => .int _
theorem rd_bxor {i j : Int} : RD2 K (rI0 fun i j => .int (Builtin.bitXor i j)) (.int i) (.int j) (.int (Builtin.bitXor i j)) := rd_I0 (h := fun i j => .int (Builtin.bitXor i j)) fun _ _ => .int _
theorem rd_neg {i : Int} : RD1 K (rU fun i => .int (-i)) (.int i) (.int (-i)) := fun A H v l hx Q k => ⟨i, dp_int hx, k _ H (Grow.refl H) (.int _)⟩
theorem rd_ltI {i j : Int} : RD2 K (rLtU K) (.int i) (.int j) (.bool (decide (i < j))) := rd_left (rd_I0 (h := fun i j => .bool (decide (i < j))) fun _ _ => .bl _)
theorem rd_leI {i j : Int} : RD2 K (rLeU K) (.int i) (.int j) (.bool (decide (i ≤ j))) := rd_left (rd_I0 (h := fun i j => .bool (decide (i ≤ j))) fun _ _ => .bl _)
theorem rd_gtI {i j : Int} : RD2 K rGtU (.int i) (.int j) (.bool (decide (j < i))) := rd_left (rd_I0 (h := fun i j => .bool (decide (j < i))) fun _ _ => .bl _)
theorem rd_geI {i j : Int} : RD2 K rGeU (.int i) (.int j) (.bool (decide (j ≤ i))) := rd_left (rd_I0 (h := fun i j => .bool (decide (j ≤ i))) fun _ _ => .bl _)
theorem rd_ltS {a b : Str} : RD2 K (rLtU K) (.str a) (.str b) (.bool (decide (a.cps.toList < b.cps.toList))) := rd_right (rd_left fun A H v w l hx hy Q k => ⟨a, b, dp_str hx, dp_str hy, k _ H (Grow.refl H) (.bl _)⟩)
theorem rd_leS {a b : Str} : RD2 K (rLeU K) (.str a) (.str b) (.bool (!decide (b.cps.toList < a.cps.toList))) := rd_right (rd_left fun A H v w l hx hy Q k => ⟨a, b, dp_str hx, dp_str hy, k _ H (Grow.refl H) (.bl _)⟩)
theorem rd_gtS {a b : Str} : RD2 K rGtU (.str a) (.str b) (.bool (decide (b.cps.toList < a.cps.toList))) := rd_right fun A H v w l hx hy Q k => ⟨a, b, dp_str hx, dp_str hy, k _ H (Grow.refl H) (.bl _)⟩
theorem rd_geS {a b : Str} : RD2 K rGeU (.str a) (.str b) (.bool (!decide (a.cps.toList < b.cps.toList))) := rd_right fun A H v w l hx hy Q k => ⟨a, b, dp_str hx, dp_str hy, k _ H (Grow.refl H) (.bl _)⟩
theorem rd_ltT {ns ms : List Int} : RD2 K (rLtU K) (.tuple (ns.map .int)) (.tuple (ms.map .int)) (.bool (HT.lexLt ns ms)) := rd_right (rd_right fun A H v w l hx hy Q k => by
  obtain ⟨a, us, rfl, ha, da⟩ := dp_tup hx
  obtain ⟨b, ws, rfl, hb, db⟩ := dp_tup hy
  rw [dpa_ints da] at ha
  rw [dpa_ints db] at hb
  exact ⟨a, b, ns, ms, rfl, rfl, st_mono hide_sub ha, st_mono hide_sub hb, k _ H (Grow.refl H) (.bl _)⟩)
/-- tuples of ints in their order, also equal ones -/
def leB (ns ms : List Int) : Bool := Ob.lexAt (fun j => decide (ns.getD j 0 = ms.getD j 0)) (fun j => decide (ns.getD j 0 ≤ ms.getD j 0)) (decide (ns.length ≤ ms.length)) 0 (min ns.length ms.length)
theorem rd_leT {ns ms : List Int} : RD2 K (rLeU K) (.tuple (ns.map .int)) (.tuple (ms.map .int)) (.bool (leB ns ms)) := rd_right (rd_right fun A H v w l hx hy Q k => by
  obtain ⟨a, us, rfl, ha, da⟩ := dp_tup hx
  obtain ⟨b, ws, rfl, hb, db⟩ := dp_tup hy
  rw [dpa_ints da] at ha
  rw [dpa_ints db] at hb
  exact ⟨a, b, ns, ms, rfl, rfl, st_mono hide_sub ha, st_mono hide_sub hb, k _ H (Grow.refl H) (.bl _)⟩)
theorem rd_eq {x y : D} (hx : SeqAt.shaped x = true) (hy : SeqAt.shaped y = true) : RD2 K (rEqD K) x y (.bool (PyData.eqv x y)) := fun A H v w l dx dy Q k =>
  ⟨x, y, dq_dp (dp_mono hide_sub dx) (SeqAt.canLay_of_shaped hx), dq_dp (dp_mono hide_sub dy) (SeqAt.canLay_of_shaped hy), hx, hy, k _ H (Grow.refl H) (.bl _)⟩
theorem rd_ne {x y : D} (hx : SeqAt.shaped x = true) (hy : SeqAt.shaped y = true) : RD2 K (rNeD K) x y (.bool (!PyData.eqv x y)) := fun A H v w l dx dy Q k =>
  ⟨x, y, dq_dp (dp_mono hide_sub dx) (SeqAt.canLay_of_shaped hx), dq_dp (dp_mono hide_sub dy) (SeqAt.canLay_of_shaped hy), hx, hy, k _ H (Grow.refl H) (.bl _)⟩
def isN : D → Bool
  | .none => true
  | _ => false
theorem rd_isN {x : D} : RD2 K rIsNU x .none (.bool (isN x)) := fun A H v w l dx dy Q k => by
  refine ⟨dp_non dy, ?_⟩
  have e : decide (v = V.non) = isN x := by
    cases dx <;> simp [isN]
  rw [e]
  exact k _ H (Grow.refl H) (.bl _)
theorem rd_notN {x : D} : RD2 K rIsNotNU x .none (.bool (!isN x)) := fun A H v w l dx dy Q k => by
  refine ⟨dp_non dy, ?_⟩
  have e : (!decide (v = V.non)) = !isN x := by
    cases dx <;> simp [isN]
  rw [e]
  exact k _ H (Grow.refl H) (.bl _)
/-- x in xs, deep -/
theorem rd_inD {x : D} {xs : List D} (hx : SeqAt.shaped x = true) (hy : SeqAt.shaped (.list xs) = true) : RD2 K (rInU K) x (.list xs) (.bool (xs.any fun z => PyData.eqv z x)) := rd_right <| rd_left fun A H v w l dx dy Q k =>
  ⟨x, xs, dq_dp (dp_mono hide_sub dx) (SeqAt.canLay_of_shaped hx), dq_dp (dp_mono hide_sub dy) (SeqAt.canLay_of_shaped hy), hx, hy, k _ H (Grow.refl H) (.bl _)⟩
theorem rd_notInD {x : D} {xs : List D} (hx : SeqAt.shaped x = true) (hy : SeqAt.shaped (.list xs) = true) : RD2 K (rNotInU K) x (.list xs) (.bool (!xs.any fun z => PyData.eqv z x)) := rd_right <| rd_left fun A H v w l dx dy Q k =>
  ⟨x, xs, dq_dp (dp_mono hide_sub dx) (SeqAt.canLay_of_shaped hx), dq_dp (dp_mono hide_sub dy) (SeqAt.canLay_of_shaped hy), hx, hy, k _ H (Grow.refl H) (.bl _)⟩
/-- subscripts -/
theorem rd_ixL {xs : List D} {i : Int} {d : D} (h : atI xs i = some d) : RD2 K (rIx K) (.list xs) (.int i) d := fun A H v w l dx dy Q k => by
  obtain ⟨a, us, rfl, ha, da⟩ := dp_lst dx
  unfold atI at h
  rw [← dpa_len da] at h
  cases e : ixN us.length i with
  | none => rw [e] at h; cases h
  | some j =>
    rw [e] at h
    have h : xs[j]? = some d := h
    obtain ⟨u, hu, du⟩ := dpa_get da h
    exact .inl ⟨a, us, i, u, rfl, dp_int dy, (sx_mono hide_sub ha).sl, by unfold atI; rw [e]; exact hu, k u H (Grow.refl H) du⟩
theorem rd_ixT {xs : List D} {i : Int} {d : D} (h : atI xs i = some d) : RD2 K (rIx K) (.tuple xs) (.int i) d := fun A H v w l dx dy Q k => by
  obtain ⟨a, us, rfl, ha, da⟩ := dp_tup dx
  unfold atI at h
  rw [← dpa_len da] at h
  cases e : ixN us.length i with
  | none => rw [e] at h; cases h
  | some j =>
    rw [e] at h
    have h : xs[j]? = some d := h
    obtain ⟨u, hu, du⟩ := dpa_get da h
    exact .inr (.inl ⟨a, us, i, u, rfl, dp_int dy, st_mono hide_sub ha, by unfold atI; rw [e]; exact hu, k u H (Grow.refl H) du⟩)
theorem rd_ixS {z : Str} {i : Int} {c : Nat} (hz : z.length ≤ sizeLine) (h : atI z.cps.toList i = some c) : RD2 K (rIx K) (.str z) (.int i) (.str ⟨#[c]⟩) := fun A H v w l dx dy Q k =>
  .inr (.inr ⟨z, i, c, dp_str dx, dp_int dy, hz, h, k _ H (Grow.refl H) (.str _)⟩)
/-- an item of an own list -/
theorem ev_ixO {en : En} {i : Nat} {tb : TE} {xs : List D} {n : Int} {d : D} (hi : en[i]? = some (some (.ow none (.ls xs)))) (hb : EvD K tb en (.int n)) (h : atI xs n = some d) : EvD K (tOp (rIx K) (tVar i) tb) en d := fun A0 Hs A H σ I Q k => by
  obtain ⟨v, hv, p, vs, rfl, hA, hA0, hp, hd⟩ := I.ols hi
  refine ⟨_, hv, hb A0 Hs A H σ I _ fun w H1 g1 d1 => ?_⟩
  unfold atI at h
  rw [← dpa_len hd] at h
  cases e : ixN vs.length n with
  | none => rw [e] at h; cases h
  | some j =>
    rw [e] at h
    have h : xs[j]? = some d := h
    obtain ⟨u, hu, du⟩ := dpa_get hd h
    exact .inl ⟨p, vs, n, u, rfl, dp_int d1, .inl (.inl (by rw [g1.eq p hA]; exact hp)), by unfold atI; rw [e]; exact hu, k u H1 g1 (dp_mono g1.ex du)⟩
theorem ev_ixK {en : En} {i : Nat} {tb : TE} {xs : List D} {n : Int} {d : D} (hi : en[i]? = some (some (.kl xs))) (hb : EvD K tb en (.int n)) (h : atI xs n = some d) : EvD K (tOp (rIx K) (tVar i) tb) en d := fun A0 Hs A H σ I Q k => by
  obtain ⟨v, hv, p, vs, rfl, hp, hd⟩ := I.kls hi
  refine ⟨_, hv, hb A0 Hs A H σ I _ fun w H1 g1 d1 => ?_⟩
  unfold atI at h
  rw [← dpa_len hd] at h
  cases e : ixN vs.length n with
  | none => rw [e] at h; cases h
  | some j =>
    rw [e] at h
    have h : xs[j]? = some d := h
    obtain ⟨u, hu, du⟩ := dpa_get hd h
    exact .inl ⟨p, vs, n, u, rfl, dp_int d1, sl_mono hide_sub (sl_mono g1.ex hp), by unfold atI; rw [e]; exact hu, k u H1 g1 (dp_mono g1.ex du)⟩
/-! built-in functions -/
def rLenU (K : PySem.W.Frag) : List V → Hp → VK → Prop := fun xs H Q => ∃ x n, xs = [x] ∧ LenV K x H n ∧ Q (.int n) H
theorem rc_lenL {xs : List D} : RDC K (rLenU K) [.list xs] (.int xs.length) := fun A H vs l hd Q k => by
  cases hd with
  | cons h t =>
    cases t
    obtain ⟨a, us, rfl, ha, da⟩ := dp_lst h
    exact ⟨_, us.length, rfl, .inl ⟨us, (sx_mono hide_sub ha).sl, rfl⟩, by rw [dpa_len da]; exact k _ H (Grow.refl H) (.int _)⟩
theorem rc_lenT {xs : List D} : RDC K (rLenU K) [.tuple xs] (.int xs.length) := fun A H vs l hd Q k => by
  cases hd with
  | cons h t =>
    cases t
    obtain ⟨a, us, rfl, ha, da⟩ := dp_tup h
    exact ⟨_, us.length, rfl, .inr ⟨us, st_mono hide_sub ha, rfl⟩, by rw [dpa_len da]; exact k _ H (Grow.refl H) (.int _)⟩
theorem rc_lenS {z : Str} (hz : z.length ≤ sizeLine) : RDC K (rLenU K) [.str z] (.int z.length) := fun A H vs l hd Q k => by
  cases hd with
  | cons h t =>
    cases t
    cases dp_str h
    exact ⟨_, z.length, rfl, ⟨hz, rfl⟩, k _ H (Grow.refl H) (.int _)⟩
theorem ev_lenO {en : En} {i : Nat} {xs : List D} (hi : en[i]? = some (some (.ow none (.ls xs)))) : EvD K (tCB (rLenU K) (tCons (tVar i) tNil)) en (.int xs.length) := fun A0 Hs A H σ I Q k => by
  obtain ⟨v, hv, p, vs, rfl, hA, hA0, hp, hd⟩ := I.ols hi
  exact ⟨_, hv, _, vs.length, rfl, .inl ⟨vs, .inl (.inl hp), rfl⟩, by rw [dpa_len hd]; exact k _ H (Grow.refl H) (.int _)⟩
theorem ev_lenK {en : En} {i : Nat} {xs : List D} (hi : en[i]? = some (some (.kl xs))) : EvD K (tCB (rLenU K) (tCons (tVar i) tNil)) en (.int xs.length) := fun A0 Hs A H σ I Q k => by
  obtain ⟨v, hv, p, vs, rfl, hp, hd⟩ := I.kls hi
  exact ⟨_, hv, _, vs.length, rfl, .inl ⟨vs, sl_mono hide_sub hp, rfl⟩, by rw [dpa_len hd]; exact k _ H (Grow.refl H) (.int _)⟩
theorem ei_listK {en : En} {i : Nat} {xs : List D} (hi : en[i]? = some (some (.kl xs))) : EvI K (iList K (tVar i)) en xs := fun A0 Hs A H σ I R k => by
  obtain ⟨v, hv, a, vs, rfl, hs, hd⟩ := I.kls hi
  have W := @walk_list K a vs
  have hl := dpa_len hd
  refine ⟨_, hv, a, rfl, ⟨vs, sl_mono hide_sub hs⟩, k _ H (Grow.refl H) ⟨fun A1 H2 i l sm hi => W.goes i H2 (by rw [hl]; exact hi) (sl_mono hide_sub (sl_mono sm hs)), fun A1 H2 l sm => by rw [← hl]; exact W.stops H2 (sl_mono hide_sub (sl_mono sm hs)), fun A1 H2 i d x H3 l sm hi y => ?_⟩⟩
  obtain ⟨u, hu, hd'⟩ := dpa_get hd hi
  obtain ⟨rfl, hx⟩ := W.yields i H2 x H3 (List.getElem?_eq_some_iff.mp hu).1 (sl_mono hide_sub (sl_mono sm hs)) y
  rw [hu] at hx
  cases hx
  exact ⟨Grow.refl _, dp_mono sm hd'⟩
theorem ei_enumK {en : En} {i : Nat} {xs : List D} (hi : en[i]? = some (some (.kl xs))) : EvI K (iEnum K (tCons (tVar i) tNil)) en (enumD xs) := fun A0 Hs A H σ I R k => by
  obtain ⟨v, hv, a, vs, rfl, hs, hd⟩ := I.kls hi
  have hl := dpa_len hd
  refine ⟨_, hv, a, vs, rfl, sl_mono hide_sub hs, k _ H (Grow.refl H) (walkd_pair (@walk_enum K a vs) (by rw [rngD_len, hl]; simp) (fun A1 H2 sm => sl_mono hide_sub (sl_mono sm hs)) (fun i v hi e => ?_) (fun i v hi e => ?_))⟩
  · cases e
    refine ⟨_, rngD_at (by rw [← hl]; exact hi), ?_⟩
    rw [Int.zero_add]
    exact .int _
  · exact dpa_get' hd e
def rInt1U : List V → Hp → VK → Prop := fun xs H Q => (∃ i, xs = [.int i] ∧ Q (.int i) H) ∨ ∃ k, xs = [.bl k] ∧ Q (.int (if k then 1 else 0)) H
theorem rc_int {i : Int} : RDC K rInt1U [.int i] (.int i) := fun A H vs l hd Q k => by
  have e := dpa_ints (ns := [i]) hd
  exact .inl ⟨i, e, k _ H (Grow.refl H) (.int _)⟩
theorem rc_intB {b : Bool} : RDC K rInt1U [.bool b] (.int (if b then 1 else 0)) := fun A H vs l hd Q k => by
  have e := dpa_bls (ns := [b]) hd
  exact .inr ⟨b, e, k _ H (Grow.refl H) (.int _)⟩
def rOrdU : List V → Hp → VK → Prop := fun xs H Q => ∃ x, xs = [.str x] ∧ x.length = 1 ∧ Q (.int (x.cps.getD 0 0 : Nat)) H
theorem rc_ord {c : Nat} : RDC K rOrdU [.str ⟨#[c]⟩] (.int (c : Nat)) := fun A H vs l hd Q k => by
  have e := dpa_strs (ns := [⟨#[c]⟩]) hd
  exact ⟨_, e, rfl, k _ H (Grow.refl H) (.int _)⟩
def rTupU (K : PySem.W.Frag) : List V → Hp → VK → Prop := fun xs H Q => ∃ p ys, xs = [.ref p] ∧ ((SqL K H p ys ∧ ∀ l, H l = none → Q (.ref l) (upd H l (.tup ys))) ∨ (SqT K H p ys ∧ Q (.ref p) H))
theorem rc_tupL {xs : List D} : RDC K (rTupU K) [.list xs] (.tuple xs) := fun A H vs l hd Q k => by
  cases hd with
  | cons h t =>
    cases t
    obtain ⟨a, us, rfl, ha, da⟩ := dp_lst h
    refine ⟨a, us, rfl, .inl ⟨(sx_mono hide_sub ha).sl, fun p hp => ?_⟩⟩
    have g := Grow.new (o := .tup us) l hp
    exact k _ _ g (.tup (.inl (.inl (hide_new l hp))) (dpa_mono g.ex da))
theorem rc_tupT {xs : List D} : RDC K (rTupU K) [.tuple xs] (.tuple xs) := fun A H vs l hd Q k => by
  cases hd with
  | cons h t =>
    cases t
    obtain ⟨a, us, rfl, ha, da⟩ := dp_tup h
    exact ⟨a, us, rfl, .inr ⟨st_mono hide_sub ha, k _ H (Grow.refl H) h⟩⟩
def rLstU (K : PySem.W.Frag) : List V → Hp → VK → Prop := fun xs H Q => ∃ p ys, xs = [.ref p] ∧ (SqL K H p ys ∨ SqT K H p ys) ∧ ∀ l, H l = none → Q (.ref l) (upd H l (.lst ys))
theorem rc_lstL {xs : List D} : RDCN K (rLstU K) [.list xs] xs := fun A H vs l hd Q k => by
  cases hd with
  | cons h t =>
    cases t
    obtain ⟨a, us, rfl, ha, da⟩ := dp_lst h
    exact ⟨a, us, rfl, .inl (sx_mono hide_sub ha).sl, fun p hp => k p _ us hp (Grow.new l hp) upd_same (grow_newl hp da)⟩
theorem en_lstK {en : En} {i : Nat} {xs : List D} (hi : en[i]? = some (some (.kl xs))) : EvN K (tCB (rLstU K) (tCons (tVar i) tNil)) en xs := fun A0 Hs A H σ I Q k => by
  obtain ⟨v, hv, a, vs, rfl, hs, hd⟩ := I.kls hi
  exact ⟨_, hv, a, vs, rfl, .inl (sl_mono hide_sub hs), fun p hp => k p _ vs hp (Grow.new I.live hp) upd_same (grow_newl hp hd)⟩
theorem rc_lstT {xs : List D} : RDCN K (rLstU K) [.tuple xs] xs := fun A H vs l hd Q k => by
  cases hd with
  | cons h t =>
    cases t
    obtain ⟨a, us, rfl, ha, da⟩ := dp_tup h
    exact ⟨a, us, rfl, .inr (st_mono hide_sub ha), fun p hp => k p _ us hp (Grow.new l hp) upd_same (grow_newl hp da)⟩
def rMax2U : List V → Hp → VK → Prop := fun xs H Q => ∃ i j, xs = [.int i, .int j] ∧ Q (.int (if j > i then j else i)) H
def rMin2U : List V → Hp → VK → Prop := fun xs H Q => ∃ i j, xs = [.int i, .int j] ∧ Q (.int (if j < i then j else i)) H
theorem rc_max2 {i j : Int} : RDC K rMax2U [.int i, .int j] (.int (max i j)) := fun A H vs l hd Q k => by
  have e := dpa_ints (ns := [i, j]) hd
  refine ⟨i, j, e, ?_⟩
  have q : (if j > i then j else i) = max i j := by split <;> omega
  rw [q]
  exact k _ H (Grow.refl H) (.int _)
theorem rc_min2 {i j : Int} : RDC K rMin2U [.int i, .int j] (.int (min i j)) := fun A H vs l hd Q k => by
  have e := dpa_ints (ns := [i, j]) hd
  refine ⟨i, j, e, ?_⟩
  have q : (if j < i then j else i) = min i j := by split <;> omega
  rw [q]
  exact k _ H (Grow.refl H) (.int _)
/-- the name of a value's type -/
def tyD : D → String
  | .none => "NoneType"
  | .bool _ => "bool"
  | .int _ => "int"
  | .str _ => "str"
  | .list _ => "list"
  | .tuple _ => "tuple"
  | .dict _ => "dict"
def isDic : D → Bool
  | .dict _ => true
  | _ => false
theorem tyX_of {A : Addr → Bool} {H : Hp} {v : V} {x : D} (h : Dq K (hide A H) v x) (nd : isDic x = false) : TyX K H v (.type (tyD x)) := by
  cases h with
  | non => exact .base .non
  | bl b => exact .base (.bl b)
  | int i => exact .base (.int i)
  | str i => exact .base (.str i)
  | lst h _ =>
    rcases sx_mono hide_sub h with (h | ⟨o, h⟩) | ⟨its, n, h, _, _⟩
    · exact .base (.lst h)
    · exact .base (.frz h)
    · exact .kList h rfl
  | tup h _ =>
    rcases st_mono hide_sub h with (h | ⟨o, h⟩) | ⟨o, its, n, h1, h2, _⟩
    · exact .base (.tup h)
    · exact .fTuple h
    · exact .kTuple h1 h2
  | obj _ _ _ _ => cases nd
  | dik _ _ _ => cases nd
  | dit _ _ _ _ _ => cases nd
  | fn _ => cases nd
theorem ev_isi {en : En} {ta : TE} {T : String} {x : D} {b : Bool} (h : EvD K ta en x) (hb : kitB (tyD x) T = some b) (nd : isDic x = false) : EvD K (tCB (rIsi K) (tCons ta (tCons (tC (.ty T)) tNil))) en (.bool b) := fun A0 Hs A H σ I Q k =>
  h A0 Hs A H σ I _ fun v H1 g1 d1 => ⟨v, .ty T, _, _, b, rfl, .ty T, tyX_of d1 nd, kit_ty hb, k _ H1 g1 (.bl b)⟩
/-! truth -/
def tTruU (K : PySem.W.Frag) (ta : TE) : TT := fun σ H Q => ta σ H fun x H' => ∃ k, TruV K x H' k ∧ Q k H'
def truD : D → Bool
  | .none => false
  | .bool b => b
  | .int i => i != 0
  | .str z => (z.length : Int) != 0
  | .list xs => !xs.isEmpty
  | .tuple xs => !xs.isEmpty
  | .dict _ => false
def truOk : D → Prop
  | .str z => z.length ≤ sizeLine
  | .dict _ => False
  | _ => True
theorem isEmpty_len {xs : List V} {ds : List D} (h : xs.length = ds.length) : xs.isEmpty = ds.isEmpty := by
  cases xs <;> cases ds <;> simp_all
theorem et_tru {en : En} {ta : TE} {x : D} (h : EvD K ta en x) (ho : truOk x) : EvT K (tTruU K ta) en (truD x) := fun A0 Hs A H σ I Q k =>
  h A0 Hs A H σ I _ fun v H1 g1 d1 => ⟨truD x, by
    cases d1 with
    | non => rfl
    | bl b => rfl
    | int i => rfl
    | str z => exact ⟨ho, rfl⟩
    | lst h' a => exact .inl ⟨_, (sx_mono hide_sub h').sl, by rw [isEmpty_len (dpa_len a)]; rfl⟩
    | tup h' a => exact .inr (.inl ⟨_, st_mono hide_sub h', by rw [isEmpty_len (dpa_len a)]; rfl⟩)
    | obj _ _ _ _ => exact ho.elim
    | dik _ _ _ => exact ho.elim
    | dit _ _ _ _ _ => exact ho.elim
    | fn _ => exact ho.elim, k H1 g1⟩
theorem et_truO {en : En} {i : Nat} {xs : List D} (hi : en[i]? = some (some (.ow none (.ls xs)))) : EvT K (tTruU K (tVar i)) en (!xs.isEmpty) := fun A0 Hs A H σ I Q k => by
  obtain ⟨v, hv, p, vs, rfl, hA, hA0, hp, hd⟩ := I.ols hi
  exact ⟨_, hv, _, .inl ⟨vs, .inl (.inl hp), rfl⟩, by rw [isEmpty_len (dpa_len hd)]; exact k H (Grow.refl H)⟩
end
section
variable {X : Cx}
theorem pt_tru {a : Expr} {ta : TE} (ha : PE X a ta) (he : ∀ whole, isTrue a X.env whole = (do let v ← whole; standAt a.pos; holding [v] (truthy v)) := by intro _; rfl) : PT X a (tTruU X.K ta) := pt_truth ha he
theorem ce_len : CallR X (.builtin "len") (rLenU X.K) := call_len
theorem ce_int : CallR X (.type "int") rInt1U := call_int1
theorem ce_ord : CallR X (.builtin "ord") rOrdU := call_ord
theorem ce_tup : CallR X (.type "tuple") (rTupU X.K) := call_tuple_of
theorem ce_lst : CallR X (.type "list") (rLstU X.K) := call_list_of
theorem ce_max2 (hc : X.calm = true := by rfl) : CallR X (.builtin "max") rMax2U := call_max2 hc
theorem ce_min2 (hc : X.calm = true := by rfl) : CallR X (.builtin "min") rMin2U := call_min2 hc
end
/-! ### slices -/
section
variable {K : Fg} {en : En}
def EvO (K : Fg) (to : TO) (en : En) (o : Option Int) : Prop := ∀ A0 Hs A H σ, EnvOk K A0 Hs A H σ en → ∀ Q : Option Int → Hp → Prop, (∀ H', Grow A H H' → Q o H') → to σ H Q
theorem eo_none : EvO K tNoPart en none := fun _ _ _ H _ _ Q k => k H (Grow.refl H)
theorem eo_some {te : TE} {i : Int} (h : EvD K te en (.int i)) : EvO K (tPart te) en (some i) := fun A0 Hs A H σ I Q k =>
  h A0 Hs A H σ I _ fun v H1 g1 d1 => ⟨i, dp_int d1, k H1 g1⟩
def rSlU (K : PySem.W.Frag) : V → Option Int → Option Int → Hp → VK → Prop := fun x lo hi H Q => rSlL K x lo hi H Q ∨ rSlA K x lo hi H Q ∨ rSlS x lo hi H Q
def cutD (xs : List D) (lo hi : Option Int) : List D := (xs.drop (HT.sIx xs.length 0 lo)).take (HT.sIx xs.length xs.length hi - HT.sIx xs.length 0 lo)
theorem cut_whole {xs : List D} {lo hi : Option Int} (h1 : HT.sIx xs.length 0 lo = 0) (h2 : HT.sIx xs.length xs.length hi = xs.length) : cutD xs lo hi = xs := by
  unfold cutD
  rw [h1, h2]
  simp
theorem ev_slT {te : TE} {tl th : TO} {xs : List D} {lo hi : Option Int} (h : EvD K te en (.tuple xs)) (hl : EvO K tl en lo) (hh : EvO K th en hi) : EvD K (tSl (rSlU K) te tl th) en (.tuple (cutD xs lo hi)) := fun A0 Hs A H σ I Q k =>
  h A0 Hs A H σ I _ fun v H1 g1 d1 => hl A0 Hs A H1 σ (I.grow g1) _ fun H2 g2 => hh A0 Hs A H2 σ (I.grow (g1.trans g2)) _ fun H3 g3 => by
    have g := (g1.trans g2).trans g3
    have d3 := dp_mono (g2.trans g3).ex d1
    obtain ⟨a, us, rfl, ha, da⟩ := dp_tup d3
    have e := dpa_len da
    refine .inr (.inl ⟨a, us, rfl, st_mono hide_sub ha, fun q => ?_, fun q p hp => ?_⟩)
    · rw [e] at q
      refine k _ H3 g ?_
      rw [cut_whole q.1 q.2]; exact d3
    · have l := g.live I.live
      have g4 := Grow.new (o := .tup (cutV us lo hi)) l hp
      exact k _ _ (g.trans g4) (.tup (.inl (.inl (hide_new l hp))) (dpa_mono g4.ex (dpa_cut da lo hi)))
theorem en_slL {te : TE} {tl th : TO} {xs : List D} {lo hi : Option Int} (h : EvD K te en (.list xs)) (hl : EvO K tl en lo) (hh : EvO K th en hi) : EvN K (tSl (rSlU K) te tl th) en (cutD xs lo hi) := fun A0 Hs A H σ I Q k =>
  h A0 Hs A H σ I _ fun v H1 g1 d1 => hl A0 Hs A H1 σ (I.grow g1) _ fun H2 g2 => hh A0 Hs A H2 σ (I.grow (g1.trans g2)) _ fun H3 g3 => by
    have g := (g1.trans g2).trans g3
    obtain ⟨a, us, rfl, ha, da⟩ := dp_lst (dp_mono (g2.trans g3).ex d1)
    refine .inl ⟨a, us, rfl, (sx_mono hide_sub ha).sl, fun p hp => ?_⟩
    have hp0 : H p = none := g.same.none hp
    exact k p _ _ hp0 (g.trans (Grow.new (g.live I.live) hp)) upd_same (grow_newl hp (dpa_cut da lo hi))
theorem ev_slS {te : TE} {tl th : TO} {z : Str} {lo hi : Option Int} (h : EvD K te en (.str z)) (hz : z.length ≤ sizeLine) (hl : EvO K tl en lo) (hh : EvO K th en hi) : EvD K (tSl (rSlU K) te tl th) en (.str (cutS z lo hi)) := fun A0 Hs A H σ I Q k =>
  h A0 Hs A H σ I _ fun v H1 g1 d1 => hl A0 Hs A H1 σ (I.grow g1) _ fun H2 g2 => hh A0 Hs A H2 σ (I.grow (g1.trans g2)) _ fun H3 g3 =>
    .inr (.inr ⟨z, dp_str d1, hz, k _ H3 ((g1.trans g2).trans g3) (.str _)⟩)
end
section
variable {X : Cx}
theorem sl_U : SlR X (rSlU X.K) := SlR.or sl_list (SlR.or sl_tupA sl_str)
end
end HF

set_option Elab.async false
set_option linter.all false
set_option maxRecDepth 100000
set_option maxHeartbeats 2000000
namespace HF
open PySem L2 PySem.Spec PyProof.Rows

def rSubU : R2 := rI0 fun i j => .int (i - j)
def rMulU : R2 := rI CMul fun i j => .int (i * j)
def rDivU : R2 := rI CDiv fun i j => .int (i / j)
def rModU : R2 := rI (fun _ j => 0 < j) fun i j => .int (i % j)
def rPowU : R2 := rI CPow fun i j => .int (i ^ j.toNat)
def rShlU : R2 := rI CPow fun i j => .int (i * 2 ^ j.toNat)
def rShrU : R2 := rI (fun _ j => 0 ≤ j) fun i j => .int (i / 2 ^ j.toNat)
def rBandU : R2 := rI0 fun i j => .int (Builtin.bitAnd i j)
def rBorU : R2 := rI0 fun i j => .int (Builtin.bitOr i j)
def rBxorU : R2 := rI0 fun i j => .int (Builtin.bitXor i j)
def rNegU : V → Hp → VK → Prop := rU fun i => .int (-i)
section
variable {X : Cx}
theorem op_subU : OpR X (binaryOp .Sub) rSubU := op_sub
theorem op_mulU : OpR X (binaryOp .Mult) rMulU := op_mul
theorem op_divU : OpR X (binaryOp .FloorDiv) rDivU := op_fdiv
theorem op_modU : OpR X (binaryOp .Mod) rModU := op_mod
theorem op_powU : OpR X (binaryOp .Pow) rPowU := op_pow
theorem op_shlU : OpR X (binaryOp .LShift) rShlU := op_shl
theorem op_shrU : OpR X (binaryOp .RShift) rShrU := op_shr
theorem op_bandU : OpR X (binaryOp .BitAnd) rBandU := op_and
theorem op_borU : OpR X (binaryOp .BitOr) rBorU := op_or
theorem op_bxorU : OpR X (binaryOp .BitXor) rBxorU := op_xor
theorem un_negU : UnR X (unaryOp .USub) rNegU := un_neg
theorem pe_gi {x : Str} {n : Int} {pos : Pos} (hg : Gl X x) (h : ∃ t, X.mg x = some (.int n t)) (hd : (x == ("__debug__" : Str)) = false := by decide) : PE X (.Name x pos) (tC (.int n)) := by
  obtain ⟨t, h⟩ := h
  exact pe_glob hg h ⟨t, rfl⟩ hd
theorem pe_gs {x : Str} {n : Str} {pos : Pos} (hg : Gl X x) (h : ∃ t, X.mg x = some (.str n t)) (hd : (x == ("__debug__" : Str)) = false := by decide) : PE X (.Name x pos) (tC (.str n)) := by
  obtain ⟨t, h⟩ := h
  exact pe_glob hg h ⟨t, rfl⟩ hd
/-- a text times a number, 2 or more -/
def repS (z : Str) (n : Nat) : Str := ⟨(List.replicate n z.cps).foldl (· ++ ·) #[]⟩
def rMulS : R2 := fun x y H Q => ∃ (z : Str) (n : Nat), x = .str z ∧ y = .int n ∧ 2 ≤ n ∧ n ≤ 1000 ∧ 1 ≤ z.length ∧ z.length ≤ 1000 ∧ (repS z n).length ≤ sizeLine ∧ Q (.str (repS z n)) H
theorem op_mulS : OpR X (binaryOp .Mult) rMulS := by
  intro pins s σ H x y v u Q I rx ry h
  obtain ⟨z, n, rfl, rfl, h2, h3, h4, h5, h6, q⟩ := h
  obtain ⟨t, rfl⟩ := rx
  obtain ⟨t', rfl⟩ := ry
  have c1 : ¬ ((n : Nat) : Int) < 1 := by omega
  have c2 : (((n : Nat) : Int) == 1 || z.length == 0) = false := by
    rw [Bool.or_eq_false_iff]
    exact ⟨beq_eq_false_iff_ne.mpr (by omega), beq_eq_false_iff_ne.mpr (by omega)⟩
  have hz : z.length * n ≤ 1000000 := Nat.le_trans (Nat.mul_le_mul h5 h3) (by decide)
  refine PySem.P.mul_str (by
    have a1 : ¬ ((n : Nat) : Int) < -(2 ^ 63 : Int) := by omega
    have a2 : ¬ ((n : Nat) : Int) ≥ 2 ^ 63 := by omega
    rw [decide_eq_false a1, decide_eq_false a2]; rfl) (fun _ _ => ?_) (fun _ _ => ?_) ?_
  · have : (((2 : Int) ^ 63 - 1) / ((n : Nat) : Int)) ≥ 1000 := by
      refine Int.le_ediv_of_mul_le (by omega) ?_
      omega
    omega
  · have e : (((n : Nat) : Int)).toNat = n := by omega
    rw [e]
    unfold Builtin.Str.tooLong
    have hs : sizeLine = 16777216 := sizeLine_eq
    exact decide_eq_false (by omega)
  · rw [if_neg c1, if_neg (by rw [c2]; decide)]
    exact ⟨by
      have e : (((n : Nat) : Int)).toNat = n := by omega
      rw [e]
      show (repS z n).length ≤ _
      exact h6, .str _, H, I.tok _, ⟨_, rfl⟩, by
      have e : (((n : Nat) : Int)).toNat = n := by omega
      rw [e]
      exact q⟩
end
section
variable {K : Fg} {en : En}
theorem rd_mulS {z : Str} {n : Nat} (h2 : 2 ≤ n) (h3 : n ≤ 1000) (h4 : 1 ≤ z.length) (h5 : z.length ≤ 1000) (h6 : (repS z n).length ≤ sizeLine) : RD2 K rMulS (.str z) (.int n) (.str (repS z n)) := fun A H v w l dx dy Q k =>
  ⟨z, n, dp_str dx, dp_int dy, h2, h3, h4, h5, h6, k _ H (Grow.refl H) (.str _)⟩
theorem ev_notT {ta : TE} {x : D} (h : EvD K ta en x) (ho : truOk x) : EvD K (tNotT K ta) en (.bool (!truD x)) := fun A0 Hs A H σ I Q k =>
  et_tru h ho A0 Hs A H σ I (fun b H1 => Q (.bl (!b)) H1) fun H1 g1 => k _ H1 g1 (.bl _)
theorem rd_subU {i j : Int} : RD2 K rSubU (.int i) (.int j) (.int (i - j)) := rd_subI
theorem rd_mulU {i j : Int} (hc : CMul i j) : RD2 K rMulU (.int i) (.int j) (.int (i * j)) := rd_mulI hc
theorem rd_divU {i j : Int} (hc : CDiv i j) : RD2 K rDivU (.int i) (.int j) (.int (i / j)) := rd_fdiv hc
theorem rd_modU {i j : Int} (hc : 0 < j) : RD2 K rModU (.int i) (.int j) (.int (i % j)) := rd_mod hc
theorem rd_powU {i j : Int} (hc : CPow i j) : RD2 K rPowU (.int i) (.int j) (.int (i ^ j.toNat)) := rd_pow hc
theorem rd_shlU {i j : Int} (hc : CPow i j) : RD2 K rShlU (.int i) (.int j) (.int (i * 2 ^ j.toNat)) := rd_shl hc
theorem rd_shrU {i j : Int} (hc : 0 ≤ j) : RD2 K rShrU (.int i) (.int j) (.int (i / 2 ^ j.toNat)) := rd_shr hc
theorem rd_bandU {i j : Int} : RD2 K rBandU (.int i) (.int j) (.int (Builtin.bitAnd i j)) := rd_band
theorem rd_borU {i j : Int} : RD2 K rBorU (.int i) (.int j) (.int (Builtin.bitOr i j)) := rd_bor
theorem rd_bxorU {i j : Int} : RD2 K rBxorU (.int i) (.int j) (.int (Builtin.bitXor i j)) := rd_bxor
theorem rd_negU {i : Int} : RD1 K rNegU (.int i) (.int (-i)) := rd_neg
/-! steps of a block -/
variable {te : TE} {tt : TT} {ts tu tz : TS} {d : D} {E : DE} {i : Nat} {g : TG} {en' : En}
theorem q_asg (h : EvD K te en d) (k : SD K tz E (en.set i (some (.sh d)))) : SD K (tSeq (tAsg te (gName i)) tz) E en := s_seq (s_asg h k)
theorem q_asgN {ds : List D} (h : EvN K te en ds) (k : SD K tz E (en.set i (some (.ow none (.ls ds))))) : SD K (tSeq (tAsg te (gName i)) tz) E en := s_seq (s_asgN h k)
theorem q_asgG (h : EvD K te en d) (hg : GD K g d en en') (k : SD K tz E en') : SD K (tSeq (tAsg te g) tz) E en := s_seq (s_asgG h hg k)
theorem q_if {b : Bool} (h : EvT K tt en b) (h1 : b = true → SD K ts { E with nx := fun e => SD K tz E e } en) (h2 : b = false → SD K tu { E with nx := fun e => SD K tz E e } en) : SD K (tSeq (tIfS tt ts tu) tz) E en := s_seq (s_if h h1 h2)
/-- if without else -/
theorem q_when {b : Bool} (h : EvT K tt en b) (h1 : b = true → SD K ts { E with nx := fun e => SD K tz E e } en) (h2 : b = false → SD K tz E en) : SD K (tSeq (tIfS tt ts tNext) tz) E en := s_seq (s_if h h1 fun hb => s_nx (h2 hb))
theorem s_when {b : Bool} (h : EvT K tt en b) (h1 : b = true → SD K ts E en) (h2 : b = false → E.nx en) : SD K (tIfS tt ts tNext) E en := s_if h h1 fun hb => s_nx (h2 hb)
theorem q_app {ds : List D} (hi : en[i]? = some (some (.ow none (.ls ds)))) (h : EvD K te en d) (hz : ds.length < 16000000) (k : SD K tz E (en.set i (some (.ow none (.ls (ds ++ [d])))))) : SD K (tSeq (tDrop (tBM K "list" rAppend (tVar i) (tCons te tNil))) tz) E en := s_seq (s_app hi h hz k)
theorem q_for {wi : TI} {xs : List D} (hw : EvI K wi en xs) (P : Nat → En → Prop) (h0 : P 0 en)
    (hs : ∀ (j : Nat) (x : D) (e : En), xs[j]? = some x → P j e → ∃ e', GD K g x e e' ∧ SD K ts { E with nx := P (j + 1), ct := P (j + 1), bk := fun e => SD K tz E e } e') (hd : ∀ e, P xs.length e → SD K tz E e) : SD K (tSeq (tFor wi g ts) tz) E en :=
  s_seq (s_for (E := { E with nx := fun e => SD K tz E e }) hw P h0 hs hd)
theorem q_forA {α : Type} {wi : TI} {as : List α} (enc : α → D) (hw : EvI K wi en (as.map enc)) (P : Nat → En → Prop) (h0 : P 0 en)
    (hs : ∀ (j : Nat) (a : α) (e : En), as[j]? = some a → P j e → ∃ e', GD K g (enc a) e e' ∧ SD K ts { E with nx := P (j + 1), ct := P (j + 1), bk := fun e => SD K tz E e } e') (hd : ∀ e, P as.length e → SD K tz E e) : SD K (tSeq (tFor wi g ts) tz) E en :=
  s_seq (s_forA (E := { E with nx := fun e => SD K tz E e }) enc hw P h0 hs hd)
theorem q_while (W : Nat → En → Prop) (m0 : Nat) (h0 : W m0 en)
    (hs : ∀ m e, W m e → ∃ b, EvT K tt e b ∧ (b = true → ∃ N : En → Prop, (∀ e', N e' → ∃ m', m' < m ∧ W m' e') ∧ SD K ts { E with nx := N, ct := N, bk := fun e => SD K tz E e } e) ∧ (b = false → SD K tz E e)) : SD K (tSeq (tWhile tt ts) tz) E en :=
  s_seq (s_while (E := { E with nx := fun e => SD K tz E e }) W m0 h0 hs)
theorem q_mid (M : En → Prop) (h : SD K ts { E with nx := M } en) (k : ∀ e, M e → SD K tz E e) : SD K (tSeq ts tz) E en := s_seq (s_mono h k (fun _ h => h) (fun _ h => h) (fun _ h => h))
theorem q_freeze {ds : List D} (h : en[i]? = some (some (.ow none (.ls ds)))) (k : SD K tz E (en.set i (some (.sh (.list ds))))) : SD K tz E en := s_freeze h k
/-- lists made of two sources -/
def lc2D (ys : D → List D) (h : D → D → D) (xs : List D) : List D := xs.flatMap fun x => (ys x).map (h x)
end
/-! comprehensions: what the target stores is wiped -/
def WipeOk (g : TG) (vs : List Nat) : Prop := ∀ (v : V) (σ : L2.St) (H : Hp) (Q : L2.St → Hp → Prop), g v σ H Q → g v σ H fun σ2 H2 => wipe σ2 vs = wipe σ vs ∧ Q σ2 H2
def WipesOk (g : TGs) (vs : List Nat) : Prop := ∀ (v : List V) (σ : L2.St) (H : Hp) (Q : L2.St → Hp → Prop), g v σ H Q → g v σ H fun σ2 H2 => wipe σ2 vs = wipe σ vs ∧ Q σ2 H2
theorem wipe_set {j : Nat} {x : Option V} : ∀ {vs : List Nat} {σ : L2.St}, j ∈ vs → wipe (σ.set j x) vs = wipe σ vs
  | v :: vs, σ, h => by
    show (wipe (σ.set j x) vs).set v none = (wipe σ vs).set v none
    by_cases hj : j ∈ vs
    · rw [wipe_set hj]
    · have e : j = v := by
        rcases List.mem_cons.mp h with h | h
        · exact h
        · exact absurd h hj
      subst e
      have go : ∀ (ws : List Nat) (σ : L2.St), j ∉ ws → wipe (σ.set j x) ws = (wipe σ ws).set j x := by
        intro ws
        induction ws with
        | nil => intro σ _; rfl
        | cons w ws ih =>
          intro σ hn
          show (wipe (σ.set j x) ws).set w none = ((wipe σ ws).set w none).set j x
          rw [ih σ (fun q => hn (List.mem_cons_of_mem _ q)), List.set_comm _ _ (fun q => hn (by rw [q]; exact List.mem_cons_self))]
      rw [go vs σ hj, List.set_set]
theorem wipe_idem : ∀ (vs : List Nat) (σ : L2.St), wipe (wipe σ vs) vs = wipe σ vs := by
  intro vs
  have go : ∀ (ws : List Nat), (∀ w ∈ ws, w ∈ vs) → ∀ σ : L2.St, wipe (wipe σ ws) vs = wipe σ vs := by
    intro ws
    induction ws with
    | nil => intro _ σ; rfl
    | cons w ws ih =>
      intro h σ
      show wipe ((wipe σ ws).set w none) vs = wipe σ vs
      rw [wipe_set (h w List.mem_cons_self), ih (fun x hx => h x (List.mem_cons_of_mem _ hx))]
  exact go vs fun _ h => h
theorem wo_name {j : Nat} {vs : List Nat} (h : j ∈ vs) : WipeOk (gName j) vs := fun v σ H Q q => ⟨wipe_set h, q⟩
theorem wos_nil {vs : List Nat} : WipesOk gNil vs := fun v σ H Q q => ⟨q.1, rfl, q.2⟩
theorem wos_cons {g : TG} {gs : TGs} {vs : List Nat} (mono : ∀ v σ H (Q Q' : L2.St → Hp → Prop), (∀ σ2 H2, Q σ2 H2 → Q' σ2 H2) → g v σ H Q → g v σ H Q') (monos : ∀ v σ H (Q Q' : L2.St → Hp → Prop), (∀ σ2 H2, Q σ2 H2 → Q' σ2 H2) → gs v σ H Q → gs v σ H Q')
    (h : WipeOk g vs) (hs : WipesOk gs vs) : WipesOk (gCons g gs) vs := fun v σ H Q q => by
  obtain ⟨x, r, e, q⟩ := q
  refine ⟨x, r, e, mono _ _ _ _ _ (fun σ2 H2 z => ?_) (h _ _ _ _ q)⟩
  exact monos _ _ _ _ _ (fun σ3 H3 y => ⟨y.1.trans z.1, y.2⟩) (hs _ _ _ _ z.2)
theorem mono_name {j : Nat} : ∀ v σ H (Q Q' : L2.St → Hp → Prop), (∀ σ2 H2, Q σ2 H2 → Q' σ2 H2) → gName j v σ H Q → gName j v σ H Q' := fun v σ H Q Q' f q => f _ _ q
theorem mono_nil : ∀ v σ H (Q Q' : L2.St → Hp → Prop), (∀ σ2 H2, Q σ2 H2 → Q' σ2 H2) → gNil v σ H Q → gNil v σ H Q' := fun v σ H Q Q' f q => ⟨q.1, f _ _ q.2⟩
theorem mono_cons {g : TG} {gs : TGs} (m1 : ∀ v σ H (Q Q' : L2.St → Hp → Prop), (∀ σ2 H2, Q σ2 H2 → Q' σ2 H2) → g v σ H Q → g v σ H Q') (m2 : ∀ v σ H (Q Q' : L2.St → Hp → Prop), (∀ σ2 H2, Q σ2 H2 → Q' σ2 H2) → gs v σ H Q → gs v σ H Q') :
    ∀ v σ H (Q Q' : L2.St → Hp → Prop), (∀ σ2 H2, Q σ2 H2 → Q' σ2 H2) → gCons g gs v σ H Q → gCons g gs v σ H Q' := fun v σ H Q Q' f q => by
  obtain ⟨x, r, e, q⟩ := q
  exact ⟨x, r, e, m1 _ _ _ _ _ (fun σ2 H2 z => m2 _ _ _ _ _ f z) q⟩
theorem wo_tup {K : Fg} {n : Nat} {gs : TGs} {vs : List Nat} (h : WipesOk gs vs) : WipeOk (gTup K n gs) vs := fun v σ H Q q => by
  obtain ⟨a, xs, e, hs, hn, q⟩ := q
  exact ⟨a, xs, e, hs, hn, h _ _ _ _ q⟩
theorem wo_pair {K : Fg} {i j : Nat} {vs : List Nat} (hi : i ∈ vs) (hj : j ∈ vs) : WipeOk (gTup K 2 (gCons (gName i) (gCons (gName j) gNil))) vs :=
  wo_tup (wos_cons mono_name (mono_cons mono_name mono_nil) (wo_name hi) (wos_cons mono_name mono_nil (wo_name hj) wos_nil))
section
variable {K : Fg} {te : TE} {tt : TT} {en : En} {g : TG} {wi : TI} {vs : List Nat}
theorem en_lc {α : Type} {xs : List α} (enc : α → D) (f : α → Bool) (h : α → D) (hw : EvI K wi en (xs.map enc)) (ho : WipeOk g vs) (hz : xs.length < 16000000) (hv : (vs.all fun v => decide (v < en.length)) = true)
    (hs : ∀ (j : Nat) (x : α), xs[j]? = some x → ∃ e', GD K g (enc x) (wipeE en vs) e' ∧ EvT K tt e' (f x) ∧ (f x = true → EvD K te e' (h x))) : EvN K (tLc wi g tt te vs) en ((xs.filter f).map h) :=
  el_lc enc f h hw hz (fun v hx => of_decide_eq_true (List.all_eq_true.mp hv v hx)) (fun σ v H Q q => by
    have z := ho v (wipe σ vs) H Q q
    rw [wipe_idem] at z
    exact z) hs
/-- no test -/
theorem en_map {α : Type} {xs : List α} (enc : α → D) (h : α → D) (hw : EvI K wi en (xs.map enc)) (ho : WipeOk g vs) (hz : xs.length < 16000000) (hv : (vs.all fun v => decide (v < en.length)) = true)
    (hs : ∀ (j : Nat) (x : α), xs[j]? = some x → ∃ e', GD K g (enc x) (wipeE en vs) e' ∧ EvD K te e' (h x)) : EvN K (tLc wi g tYes te vs) en (xs.map h) := by
  have q := en_lc (te := te) (tt := tYes) enc (fun _ => true) h hw ho hz hv fun j x e => by
    obtain ⟨e', h1, h2⟩ := hs j x e
    exact ⟨e', h1, et_yes, fun _ => h2⟩
  refine q.eq ?_
  rw [List.filter_eq_self.mpr (by intros; rfl)]
end
end HF

set_option Elab.async false
set_option linter.all false
set_option maxRecDepth 100000
set_option maxHeartbeats 2000000
namespace HF
open PySem L2 PySem.Spec PyProof.Rows
section
variable {K : Fg} {te : TE} {tt tt1 : TT} {en : En} {g g1 : TG} {wi wi1 : TI} {vs vs1 : List Nat}
/-- the list at Dl, apart from what A hides, is ds -/
structure Heldl (K : Fg) (A : Addr → Bool) (Dl : Addr) (H1 H : Hp) (ds : List D) : Prop where
  sm : Same (hide A H1) (hide (adda A Dl) H)
  eq : ∀ p, A p = true → H p = H1 p
  has : ∃ ws, H Dl = some (.lst ws) ∧ DqAll K (hide (adda A Dl) H) ws ds
theorem Heldl.grow {A : Addr → Bool} {Dl : Addr} {H1 H H' : Hp} {ds : List D} (h : Heldl K A Dl H1 H ds) (g : Grow (adda A Dl) H H') : Heldl K A Dl H1 H' ds := by
  obtain ⟨s, q, ws, e, d⟩ := h
  exact ⟨s.trans g.ex, fun p hp => (g.eq p (adda_of hp)).trans (q p hp), ws, by rw [g.eq Dl adda_self]; exact e, dpa_mono g.ex d⟩
theorem Heldl.push {A : Addr → Bool} {Dl : Addr} {H1 H : Hp} {ds : List D} {d : D} {u : V} (hA : A Dl = false) (h : Heldl K A Dl H1 H ds) (hu : Dq K (hide (adda A Dl) H) u d) (hz : ds.length < 16000000) :
    ∃ acc, H Dl = some (.lst acc) ∧ acc.length < sizeLine ∧ Heldl K A Dl H1 (upd H Dl (.lst (acc ++ [u]))) (ds ++ [d]) ∧ Same (hide (adda A Dl) H) (hide (adda A Dl) (upd H Dl (.lst (acc ++ [u])))) := by
  obtain ⟨s, q, ws, e, dw⟩ := h
  have sm : Same (hide (adda A Dl) H) (hide (adda A Dl) (upd H Dl (.lst (ws ++ [u])))) := same_of fun a o ea => by
    obtain ⟨h1, h2⟩ := hide_some ea
    rw [hide_out h1, upd_ne (adda_false h1).2]; exact h2
  have hl := dpa_len dw
  refine ⟨ws, e, Nat.lt_of_lt_of_le (by omega : ws.length < 16000000) (by rw [sizeLine_eq]; decide), ⟨s.trans sm, fun p hp => ?_, ws ++ [u], upd_same, dpa_mono sm (dpa_append dw (.cons hu .nil))⟩, sm⟩
  rw [upd_ne (fun z => by rw [z, hA] at hp; cases hp)]
  exact q p hp
theorem Heldl.start {A : Addr → Bool} {Dl : Addr} {H1 : Hp} (hA : A Dl = false) (hD : H1 Dl = none) : Heldl K A Dl H1 (upd H1 Dl (.lst [])) [] := by
  refine ⟨same_of fun a o e => ?_, fun p hp => upd_ne fun z => (by rw [z, hA] at hp; cases hp), ⟨[], upd_same, DqAll.nil⟩⟩
  obtain ⟨h1, h2⟩ := hide_some e
  have hne : a ≠ Dl := ne_of_none h2 hD
  rw [hide_out (by rw [adda_ne hne]; exact h1), upd_ne hne]; exact h2
/-- the same slots at a later heap, the list at Dl protected -/
theorem EnvOk.move {A0 A A' : Addr → Bool} {Dl : Addr} {Hs H H' : Hp} {σ : L2.St} {en : En} (I : EnvOk K A0 Hs A H σ en) (hA : A Dl = false ∨ A0 Dl = true) (hs : A' = adda A Dl) (sm : Same (hide A H) (hide A' H')) (eq : ∀ p, A p = true → p ≠ Dl → H' p = H p) (hD : H' Dl ≠ none) :
    EnvOk K (adda A0 Dl) (reb (adda A0 Dl) A' H' H') A' H' σ en := by
  subst hs
  have nD : ∀ p, A p = true → A0 p = false → p ≠ Dl := fun p h1 h2 z => by
    subst z
    rcases hA with h | h
    · rw [h] at h1; cases h1
    · rw [h] at h2; cases h2
  refine ⟨⟨fun P h => ?_, same_of fun a o e => ?_⟩, fun p h => ?_, fun p h => ?_, fun p h => ?_, I.len, ?_⟩
  · obtain ⟨h1, t⟩ := hide_tab (sm.tb P (I.tabs P h))
    have hne : P ≠ Dl := (adda_false h1).2
    have h0 : adda A0 Dl P = false := by
      rw [adda_ne hne]
      cases q : A0 P with
      | false => rfl
      | true => rw [adda_ne hne, I.sub P q] at h1; cases h1
    refine tab_hide h0 ?_
    obtain ⟨ps, e, t⟩ := t
    exact ⟨ps, by unfold reb; rw [if_neg (by rw [h0]; decide), hide_out h1]; exact e, t⟩
  · obtain ⟨h1, h2⟩ := hide_some e
    unfold reb at h2
    rw [if_neg (by rw [h1]; decide)] at h2
    exact h2
  · unfold reb
    rw [if_pos h]
  · by_cases e : p = Dl
    · rw [e]; exact adda_self
    · rw [adda_ne e] at h ⊢
      exact I.sub p h
  · by_cases e : p = Dl
    · rw [e]; exact hD
    · rw [adda_ne e] at h
      rw [eq p h e]; exact I.live p h
  · obtain ⟨O, hO⟩ := I.own
    refine ⟨O, fun i s e => ?_⟩
    obtain ⟨v, h1, h2⟩ := hO i s e
    exact ⟨v, h1, h2.keep sm fun _ q rh m => ⟨⟨adda_of m.1, by rw [adda_ne (nD q m.1 m.2.1)]; exact m.2.1, m.2.2⟩, eq q m.1 (nD q m.1 m.2.1)⟩⟩
theorem adda_idem {A : Addr → Bool} {p : Addr} : adda (adda A p) p = adda A p := by
  funext a
  simp [adda, Bool.or_assoc]
theorem Heldl.env {A0 A : Addr → Bool} {Dl : Addr} {Hs H1 H : Hp} {σ : L2.St} {en : En} {ds : List D} (I1 : EnvOk K A0 Hs A H1 σ en) (hA : A Dl = false) (h : Heldl K A Dl H1 H ds) : EnvOk K (adda A0 Dl) (reb (adda A0 Dl) (adda A Dl) H H) (adda A Dl) H σ en := by
  obtain ⟨s, q, ws, e, _⟩ := h
  exact I1.move (.inl hA) rfl s (fun p hp _ => q p hp) (by rw [e]; exact fun z => by cases z)
def lcD2 {α β : Type} (f : α → Bool) (ys : α → List β) (f1 : α → β → Bool) (h : α → β → D) (xs : List α) : List D := xs.flatMap fun x => if f x = true then lcD (f1 x) (h x) (ys x) else []
theorem lcD2_step {α β : Type} {f : α → Bool} {ys : α → List β} {f1 : α → β → Bool} {h : α → β → D} {xs : List α} {j : Nat} {x : α} (e : xs[j]? = some x) :
    lcD2 f ys f1 h (xs.take (j + 1)) = lcD2 f ys f1 h (xs.take j) ++ (if f x = true then lcD (f1 x) (h x) (ys x) else []) := by
  unfold lcD2
  rw [List.take_add_one, e, List.flatMap_append]
  simp
/-- [elt for tg in iter if .. for tg1 in iter1 if ..] -/
theorem en_lc2 {α β : Type} {xs : List α} (enc : α → D) (enc1 : β → D) (f : α → Bool) (ys : α → List β) (f1 : α → β → Bool) (h : α → β → D) (hw : EvI K wi en (xs.map enc)) (ho : WipeOk g vs) (ho1 : WipeOk g1 vs1) (hvb : (vs.all fun v => decide (v < en.length)) = true) (hvb1 : (vs1.all fun v => decide (v < en.length)) = true)
    (hz : (lcD2 f ys f1 h xs).length < 16000000)
    (hs : ∀ (j : Nat) (x : α), xs[j]? = some x → ∃ e1, GD K g (enc x) (wipeE en vs) e1 ∧ e1.length = en.length ∧ EvT K tt e1 (f x) ∧ (f x = true → EvI K wi1 e1 ((ys x).map enc1) ∧
      ∀ (j1 : Nat) (y : β), (ys x)[j1]? = some y → ∃ e2, GD K g1 (enc1 y) (wipeE e1 vs1) e2 ∧ EvT K tt1 e2 (f1 x y) ∧ (f1 x y = true → EvD K te e2 (h x y)))) : EvN K (tLc2 wi g tt wi1 g1 tt1 te vs vs1) en (lcD2 f ys f1 h xs) := fun A0 Hs A H σ I Q k =>
  hw A0 Hs A H σ I _ fun J H1 gr W Dl hD => by
    have hv : ∀ v ∈ vs, v < en.length := fun v hx => of_decide_eq_true (List.all_eq_true.mp hvb v hx)
    have hv1 : ∀ v ∈ vs1, v < en.length := fun v hx => of_decide_eq_true (List.all_eq_true.mp hvb1 v hx)
    have I1 := I.grow gr
    have hA : A Dl = false := I1.live.out hD
    have hD0 : H Dl = none := gr.same.none hD
    have lenT : ∀ j, (lcD2 f ys f1 h (xs.take j)).length ≤ (lcD2 f ys f1 h xs).length := fun j => by
      have : lcD2 f ys f1 h xs = lcD2 f ys f1 h (xs.take j) ++ lcD2 f ys f1 h (xs.drop j) := by
        unfold lcD2
        rw [← List.flatMap_append, List.take_append_drop]
      rw [this, List.length_append]; omega
    refine ⟨fun j m H' => m = xs.length - j ∧ j ≤ xs.length ∧ Heldl K A Dl H1 H' (lcD2 f ys f1 h (xs.take j)), ⟨xs.length, by simp, Nat.zero_le _, Heldl.start hA hD⟩, ?_⟩
    rintro j m H' ⟨rfl, hj, p⟩
    have IJ := p.env I1 hA
    by_cases hlt : j < xs.length
    · refine .inr ⟨W.goes _ H' j IJ.live p.sm (by rw [List.length_map]; exact hlt), fun H2 => Heldl K A Dl H1 H2 (lcD2 f ys f1 h (xs.take (j + 1))), fun H2 p2 => ⟨xs.length - (j + 1), by omega, rfl, hlt, p2⟩, fun x H2 y => ?_⟩
      have hx : xs[j]? = some xs[j] := by simp [hlt]
      obtain ⟨g2, dx⟩ := W.yields _ H' j (enc xs[j]) x H2 IJ.live p.sm (by rw [List.getElem?_map, hx]; rfl) y
      obtain ⟨e1, hg, hle, ht, hb⟩ := hs j _ hx
      have store : ∀ Q : L2.St → Hp → Prop, (∀ σ3 H3, Grow (adda A Dl) H2 H3 → EnvOk K (adda A0 Dl) (reb (adda A0 Dl) (adda A Dl) H' H') (adda A Dl) H3 σ3 e1 → Q σ3 H3) → g x (wipe σ vs) H2 fun σ2 H3 => wipe σ2 vs = wipe σ vs ∧ Q σ2 H3 := fun Q hQ => by
        have := ho x (wipe σ vs) H2 _ (hg _ _ _ H2 _ x (wipe_ok (IJ.grow g2) vs hv) dx Q hQ)
        rw [wipe_idem] at this
        exact this
      refine store _ fun σ3 H3 g3 I3 => ?_
      refine ht _ _ _ H3 σ3 I3 _ fun H4 g4 => ?_
      have I4 := I3.grow g4
      have p4 := ((p.grow g2).grow g3).grow g4
      cases hf : f xs[j] with
      | false =>
        show Heldl K A Dl H1 H4 (lcD2 f ys f1 h (xs.take (j + 1)))
        rw [lcD2_step hx, hf, if_neg (by decide), List.append_nil]
        exact p4
      | true =>
        obtain ⟨hw1, hb1⟩ := hb hf
        rw [if_pos rfl]
        refine hw1 _ _ _ H4 σ3 I4 _ fun J1 H5 g5 W1 => ?_
        have I5 := I4.grow g5
        have p5 := p4.grow g5
        let Ai := adda A Dl
        let pre : List D := lcD2 f ys f1 h (xs.take j)
        let part : Nat → List D := fun n => lcD (f1 xs[j]) (h xs[j]) ((ys xs[j]).take n)
        have lenP : ∀ n, (pre ++ part n).length < 16000000 := fun n => by
          have h1 := lenT (j + 1)
          rw [lcD2_step hx, hf, if_pos rfl, List.length_append] at h1
          have h2 : (part n).length ≤ (lcD (f1 xs[j]) (h xs[j]) (ys xs[j])).length := by
            have : lcD (f1 xs[j]) (h xs[j]) (ys xs[j]) = part n ++ lcD (f1 xs[j]) (h xs[j]) ((ys xs[j]).drop n) := by
              show _ = lcD _ _ _ ++ _
              unfold lcD
              rw [← List.map_append, ← List.filter_append, List.take_append_drop]
            rw [this, List.length_append]; omega
          rw [List.length_append]
          show (lcD2 f ys f1 h (xs.take j)).length + _ < _
          omega
        refine ⟨fun n k H' => k = (ys xs[j]).length - n ∧ n ≤ (ys xs[j]).length ∧ Heldl K A Dl H1 H' (pre ++ part n) ∧ Same (hide Ai H5) (hide Ai H') ∧ (∀ p, A p = true → H' p = H5 p), ⟨(ys xs[j]).length, by simp, Nat.zero_le _, ?_, Same.refl _, fun _ _ => rfl⟩, ?_⟩
        · have e0 : pre ++ part 0 = pre := by
            show pre ++ lcD _ _ _ = pre
            rw [List.take_zero]
            unfold lcD
            simp
          rw [e0]
          exact p5
        rintro n k H6 ⟨rfl, hn, p6, s6, q6⟩
        have hD6 : H6 Dl ≠ none := by
          obtain ⟨_, _, ws, ew, _⟩ := p6
          rw [ew]; exact fun z => by cases z
        have I6 := I5.move (A' := Ai) (Dl := Dl) (.inr adda_self) adda_idem.symm s6 (fun p hp hne => q6 p (by rw [adda_ne hne] at hp; exact hp)) hD6
        by_cases hl2 : n < (ys xs[j]).length
        · refine .inr ⟨W1.goes Ai H6 n I6.live s6 (by rw [List.length_map]; exact hl2), fun H7 => Heldl K A Dl H1 H7 (pre ++ part (n + 1)) ∧ Same (hide Ai H5) (hide Ai H7) ∧ (∀ p, A p = true → H7 p = H5 p), fun H7 p7 => ⟨(ys xs[j]).length - (n + 1), by omega, rfl, hl2, p7⟩, fun z H7 yz => ?_⟩
          have hy : (ys xs[j])[n]? = some (ys xs[j])[n] := by simp [hl2]
          obtain ⟨g7, dz⟩ := W1.yields Ai H6 n (enc1 (ys xs[j])[n]) z H7 I6.live s6 (by rw [List.getElem?_map, hy]; rfl) yz
          obtain ⟨e2, hg1, ht1, he1⟩ := hb1 n _ hy
          have store1 : ∀ Q : L2.St → Hp → Prop, (∀ σ8 H8, Grow Ai H7 H8 → EnvOk K (adda (adda A0 Dl) Dl) (reb (adda (adda A0 Dl) Dl) Ai H6 H6) Ai H8 σ8 e2 → Q σ8 H8) → g1 z (wipe σ3 vs1) H7 fun σ8 H8 => wipe σ8 vs1 = wipe σ3 vs1 ∧ Q σ8 H8 := fun Q hQ => by
            have := ho1 z (wipe σ3 vs1) H7 _ (hg1 _ _ Ai H7 _ z (wipe_ok (I6.grow g7) vs1 (by rw [hle]; exact hv1)) dz Q hQ)
            rw [wipe_idem] at this
            exact this
          refine store1 _ fun σ8 H8 g8 I8 => ?_
          refine ht1 _ _ _ H8 σ8 I8 _ fun H9 g9 => ?_
          have I9 := I8.grow g9
          have gg := (g7.trans g8).trans g9
          have p9 := p6.grow gg
          have step : pre ++ part (n + 1) = if f1 xs[j] (ys xs[j])[n] = true then (pre ++ part n) ++ [h xs[j] (ys xs[j])[n]] else pre ++ part n := by
            show pre ++ lcD _ _ _ = _
            cases hf1 : f1 xs[j] (ys xs[j])[n] with
            | true => rw [lcD_yes hy hf1, if_pos rfl, List.append_assoc]
            | false => rw [lcD_no hy hf1, if_neg (by decide)]
          cases hf1 : f1 xs[j] (ys xs[j])[n] with
          | false =>
            show Heldl K A Dl H1 H9 (pre ++ part (n + 1)) ∧ _
            rw [step, hf1, if_neg (by decide)]
            exact ⟨p9, s6.trans gg.ex, fun p hp => (gg.eq p (adda_of hp)).trans (q6 p hp)⟩
          | true =>
            rw [if_pos rfl]
            refine he1 hf1 _ _ _ H9 σ8 I9 _ fun u H10 g10 du => ?_
            have g11 := gg.trans g10
            obtain ⟨acc, ea, la, ph, sh⟩ := (p6.grow g11).push hA du (lenP n)
            refine ⟨acc, ea, la, ?_, (s6.trans g11.ex).trans sh, fun p hp => ?_⟩
            · rw [step, hf1, if_pos rfl]; exact ph
            · rw [upd_ne (fun z => by rw [z, hA] at hp; cases hp)]
              exact (g11.eq p (adda_of hp)).trans (q6 p hp)
        · have en' : n = (ys xs[j]).length := by omega
          subst en'
          refine .inl ⟨by have q := W1.stops Ai H6 I6.live s6; rw [List.length_map] at q; exact q, ?_⟩
          show Heldl K A Dl H1 H6 (lcD2 f ys f1 h (xs.take (j + 1)))
          rw [lcD2_step hx, hf, if_pos rfl]
          have : part (ys xs[j]).length = lcD (f1 xs[j]) (h xs[j]) (ys xs[j]) := by
            show lcD _ _ _ = _
            rw [List.take_length]
          rw [← this]
          exact p6
    · have ej : j = xs.length := by omega
      subst ej
      obtain ⟨s, q, ws, e, dw⟩ := id p
      rw [List.take_length] at dw
      refine .inl ⟨by have q := W.stops _ H' IJ.live s; rw [List.length_map] at q; exact q, k Dl H' ws hD0 (gr.trans ⟨s.via (fun _ _ => rfl) fun a _ m => (hide_adda_ne (adda_false (hide_th m).1).2).symm, q⟩) e dw⟩
end
end HF

set_option Elab.async false
set_option linter.all false
set_option maxRecDepth 100000
set_option maxHeartbeats 2000000
namespace HF
open PySem L2 PySem.Spec PyProof.Rows
/-! ### slots that are forgotten -/
def Weak : En → En → Prop
  | [], [] => True
  | a :: e, b :: f => (b = none ∨ b = a) ∧ Weak e f
  | _, _ => False
theorem Weak.len : ∀ {e f : En}, Weak e f → e.length = f.length
  | [], [], _ => rfl
  | _ :: e, _ :: f, h => congrArg (· + 1) (Weak.len (e := e) (f := f) h.2)
theorem Weak.get : ∀ {e f : En} {i : Nat} {s : Sl}, Weak e f → f[i]? = some (some s) → e[i]? = some (some s)
  | [], [], _, _, _, h => by simp at h
  | a :: e, b :: f, 0, s, h, q => by
    have q : b = some s := by simpa using q
    rcases h.1 with h1 | h1
    · rw [h1] at q; cases q
    · rw [← h1, q]; rfl
  | a :: e, b :: f, i + 1, s, h, q => by
    have := Weak.get (i := i) (s := s) h.2 (by simpa using q)
    simpa using this
theorem Weak.trans : ∀ {e f g : En}, Weak e f → Weak f g → Weak e g
  | [], [], [], _, _ => trivial
  | a :: e, b :: f, c :: g, h, k => ⟨by
      rcases k.1 with k1 | k1
      · exact .inl k1
      · rw [k1]; exact h.1, Weak.trans h.2 k.2⟩
  | [], [], _ :: _, _, k => k.elim
  | [], _ :: _, _, h, _ => h.elim
  | _ :: _, [], _, h, _ => h.elim
  | _ :: _, _ :: _, [], _, k => k.elim
theorem Weak.refl : ∀ e : En, Weak e e
  | [] => trivial
  | _ :: e => ⟨.inr rfl, Weak.refl e⟩
section
variable {K : Fg} {A0 A : Addr → Bool} {Hs H : Hp} {σ : L2.St} {en en' : En} {ts tz : TS} {E : DE} {g : TG}
theorem EnvOk.weak (I : EnvOk K A0 Hs A H σ en) (w : Weak en en') : EnvOk K A0 Hs A H σ en' :=
  ⟨I.base, I.keep, I.sub, I.live, I.len.trans w.len, by
    obtain ⟨O, hO⟩ := I.own
    exact ⟨O, fun i s e => hO i s (w.get e)⟩⟩
/-- forget, then go on -/
theorem s_forget (w : Weak en en') (h : SD K ts E en') : SD K ts E en := fun A0 Hs A H σ I F f => h A0 Hs A H σ (I.weak w) F f
theorem s_forW {α : Type} {wi : TI} {as : List α} (enc : α → D) (P : Nat → En) (hw : EvI K wi en (as.map enc)) (h0 : Weak en (P 0))
    (hs : ∀ (j : Nat) (a : α), as[j]? = some a → ∃ e', GD K g (enc a) (P j) e' ∧ SD K ts { E with nx := fun e => Weak e (P (j + 1)), ct := fun e => Weak e (P (j + 1)), bk := E.nx } e') (hd : E.nx (P as.length)) (hn : ∀ e e', Weak e e' → E.nx e' → E.nx e) : SD K (tFor wi g ts) E en :=
  s_forA enc hw (fun j e => Weak e (P j)) h0 (fun j a e ha p => by
    obtain ⟨e', hg, hb⟩ := hs j a ha
    exact ⟨e', fun A0 Hs A H σ x I hd Q k => hg A0 Hs A H σ x (I.weak p) hd Q k, hb⟩) fun e p => hn e _ p hd
theorem q_forW {α : Type} {wi : TI} {as : List α} (enc : α → D) (P : Nat → En) (hw : EvI K wi en (as.map enc)) (h0 : Weak en (P 0))
    (hs : ∀ (j : Nat) (a : α), as[j]? = some a → ∃ e', GD K g (enc a) (P j) e' ∧ SD K ts { E with nx := fun e => Weak e (P (j + 1)), ct := fun e => Weak e (P (j + 1)), bk := fun e => SD K tz E e } e') (hd : SD K tz E (P as.length)) : SD K (tSeq (tFor wi g ts) tz) E en :=
  s_seq (s_forW (E := { E with nx := fun e => SD K tz E e }) enc P hw h0 hs hd fun e e' w q => s_forget w q)
theorem q_whileW {tt : TT} (W : Nat → En) (b : Nat → Bool) (m0 : Nat) (h0 : Weak en (W m0))
    (hs : ∀ m, EvT K tt (W m) (b m) ∧ (b m = true → SD K ts { E with nx := fun e => ∃ m', m' < m ∧ Weak e (W m'), ct := fun e => ∃ m', m' < m ∧ Weak e (W m'), bk := fun e => SD K tz E e } (W m)) ∧ (b m = false → SD K tz E (W m))) : SD K (tSeq (tWhile tt ts) tz) E en :=
  q_while (fun m e => Weak e (W m)) m0 h0 fun m e w => by
    obtain ⟨h1, h2, h3⟩ := hs m
    exact ⟨b m, fun A0 Hs A H σ I Q k => h1 A0 Hs A H σ (I.weak w) Q k, fun hb => ⟨fun e => ∃ m', m' < m ∧ Weak e (W m'), fun e' q => q, s_forget w (h2 hb)⟩, fun hb => s_forget w (h3 hb)⟩
end
/-! items of several lists -/
theorem enumD_map {α : Type} (as : List α) (enc : α → D) : enumD (as.map enc) = as.zipIdx.map fun p => .tuple [.int (p.2 : Int), enc p.1] := by
  unfold enumD pairsD
  apply List.ext_getElem?
  intro i
  rw [List.getElem?_zipWith, List.getElem?_map, List.getElem?_map, List.getElem?_zipIdx]
  by_cases h : i < as.length
  · rw [List.getElem?_eq_getElem h, rngD_at (by rw [List.length_map]; exact h)]
    simp
  · rw [show as[i]? = none from List.getElem?_eq_none (by omega)]
    cases (rngD 0 (as.map enc).length)[i]? <;> rfl
theorem pairsD_map {α β : Type} (as : List α) (bs : List β) (e1 : α → D) (e2 : β → D) : pairsD (as.map e1) (bs.map e2) = (as.zip bs).map fun p => .tuple [e1 p.1, e2 p.2] := by
  unfold pairsD
  rw [List.zipWith_map, List.zip, List.map_zipWith]
theorem cut_take {xs : List D} {n : Nat} : cutD xs none (some (n : Int)) = xs.take n := by
  unfold cutD
  rw [HT.sIx_nat]
  show (xs.drop 0).take (min n xs.length - 0) = _
  rw [List.drop_zero, Nat.sub_zero]
  by_cases h : n ≤ xs.length
  · rw [Nat.min_eq_left h]
  · rw [Nat.min_eq_right (by omega), List.take_length, List.take_of_length_le (by omega)]
theorem cut_drop {xs : List D} {n : Nat} : cutD xs (some (n : Int)) none = xs.drop n := by
  unfold cutD
  rw [HT.sIx_nat]
  show (xs.drop (min n xs.length)).take (xs.length - min n xs.length) = _
  by_cases h : n ≤ xs.length
  · rw [Nat.min_eq_left h, List.take_of_length_le (by rw [List.length_drop]; omega)]
  · rw [Nat.min_eq_right (by omega), List.drop_length, List.drop_of_length_le (by omega)]
    simp
theorem cut_mid {xs : List D} {m n : Nat} : cutD xs (some (m : Int)) (some (n : Int)) = (xs.drop m).take (n - m) := by
  unfold cutD
  rw [HT.sIx_nat, HT.sIx_nat]
  apply List.ext_getElem?
  intro i
  rw [List.getElem?_take, List.getElem?_take, List.getElem?_drop, List.getElem?_drop]
  by_cases h : m ≤ xs.length
  · rw [Nat.min_eq_left h]
    by_cases h2 : i < n - m
    · rw [if_pos h2]
      by_cases h3 : m + i < xs.length
      · rw [if_pos (by omega)]
      · rw [if_neg (by omega), List.getElem?_eq_none (by omega)]
    · rw [if_neg h2, if_neg (by omega)]
  · have e1 : xs[m + i]? = none := List.getElem?_eq_none (by omega)
    have e2 : xs[min m xs.length + i]? = none := List.getElem?_eq_none (by omega)
    rw [e1, e2]
    split <;> split <;> rfl
theorem cutS_take {z : Str} {n : Nat} : (cutS z none (some (n : Int))).cps.toList = z.cps.toList.take n := by
  unfold cutS
  rw [HT.sIx_nat]
  show (z.cps.toList.drop 0).take (min n z.length - 0) = _
  rw [List.drop_zero, Nat.sub_zero]
  have e : z.length = z.cps.toList.length := by simp; rfl
  by_cases h : n ≤ z.length
  · rw [Nat.min_eq_left h]
  · rw [Nat.min_eq_right (by omega), e, List.take_length, List.take_of_length_le (by omega)]
/-- a cut of any list -/
def cutL {α : Type} (xs : List α) (lo hi : Option Int) : List α := (xs.drop (HT.sIx xs.length 0 lo)).take (HT.sIx xs.length xs.length hi - HT.sIx xs.length 0 lo)
theorem cutD_map {α : Type} (xs : List α) (enc : α → D) (lo hi : Option Int) : cutD (xs.map enc) lo hi = (cutL xs lo hi).map enc := by
  unfold cutD cutL
  rw [List.length_map, List.map_take, List.map_drop]
theorem cutL_mem {α : Type} {xs : List α} {lo hi : Option Int} {x : α} (h : x ∈ cutL xs lo hi) : x ∈ xs := List.mem_of_mem_drop (List.mem_of_mem_take h)
theorem cutL_len {α : Type} {xs : List α} {lo hi : Option Int} : (cutL xs lo hi).length ≤ xs.length := by
  unfold cutL
  rw [List.length_take, List.length_drop]; omega
/-! ### data that can be compared -/
def Sh (n : Nat) (d : D) : Prop := d.canLay0 = true ∧ d.depth ≤ n
theorem Sh.mono {m n : Nat} {d : D} (h : Sh m d) (hn : m ≤ n) : Sh n d := ⟨h.1, Nat.le_trans h.2 hn⟩
theorem Sh.ok {n : Nat} {d : D} (h : Sh n d) (hn : n ≤ 64 := by decide) : SeqAt.shaped d = true := by
  unfold SeqAt.shaped
  rw [h.1, decide_eq_true (Nat.le_trans h.2 hn)]; rfl
theorem sh_non {n : Nat} : Sh n .none := ⟨by simp only [PyData.canLay0], by simp only [PyData.depth]; omega⟩
theorem sh_bool {n : Nat} {b : Bool} : Sh n (.bool b) := ⟨by simp only [PyData.canLay0], by simp only [PyData.depth]; omega⟩
theorem sh_int {n : Nat} {i : Int} : Sh n (.int i) := ⟨by simp only [PyData.canLay0], by simp only [PyData.depth]; omega⟩
theorem sh_str {n : Nat} {s : Str} (h : PyData.strOk s = true) : Sh n (.str s) := ⟨by simp only [PyData.canLay0, h], by simp only [PyData.depth]; omega⟩
theorem shAll {n : Nat} : ∀ {xs : List D}, (∀ x ∈ xs, Sh n x) → PyData.canLayAll0 xs = true ∧ PyData.depthAll xs ≤ n
  | [], _ => ⟨by simp only [PyData.canLayAll0], by simp only [PyData.depthAll]; omega⟩
  | x :: xs, h => by
    obtain ⟨h1, h2⟩ := h x List.mem_cons_self
    obtain ⟨h3, h4⟩ := shAll (xs := xs) fun y hy => h y (List.mem_cons_of_mem _ hy)
    exact ⟨by simp only [PyData.canLayAll0, h1, h3, Bool.and_self], by simp only [PyData.depthAll]; omega⟩
theorem sh_list {n : Nat} {xs : List D} (h : ∀ x ∈ xs, Sh n x) : Sh (n + 1) (.list xs) := by
  obtain ⟨h1, h2⟩ := shAll h
  exact ⟨by simp only [PyData.canLay0, h1], by simp only [PyData.depth]; omega⟩
theorem sh_tup {n : Nat} {xs : List D} (h : ∀ x ∈ xs, Sh n x) : Sh (n + 1) (.tuple xs) := by
  obtain ⟨h1, h2⟩ := shAll h
  exact ⟨by simp only [PyData.canLay0, h1], by simp only [PyData.depth]; omega⟩
theorem sh_map {α : Type} {n : Nat} {as : List α} {enc : α → D} (h : ∀ a ∈ as, Sh n (enc a)) : ∀ x ∈ as.map enc, Sh n x := fun x hx => by
  obtain ⟨a, ha, rfl⟩ := List.mem_map.mp hx
  exact h a ha
theorem sh_ints {n : Nat} {as : List Int} : ∀ x ∈ as.map PyData.int, Sh n x := sh_map fun _ _ => sh_int
/-! equality -/
theorem eqv_int {a b : Int} : PyData.eqv (.int a) (.int b) = decide (a = b) := by rw [PyData.eqv, Bool.beq_eq_decide_eq]
theorem eqv_str {a b : Str} : PyData.eqv (.str a) (.str b) = decide (a = b) := by rw [PyData.eqv, Bool.beq_eq_decide_eq]
theorem eqv_bool {a b : Bool} : PyData.eqv (.bool a) (.bool b) = decide (a = b) := by rw [PyData.eqv, Bool.beq_eq_decide_eq]
theorem eqv_list {xs ys : List D} : PyData.eqv (.list xs) (.list ys) = PyData.eqvAll xs ys := by rw [PyData.eqv]
theorem eqv_tup {xs ys : List D} : PyData.eqv (.tuple xs) (.tuple ys) = PyData.eqvAll xs ys := by rw [PyData.eqv]
theorem eqv_all {α : Type} [DecidableEq α] {enc : α → D} (h : ∀ a b, PyData.eqv (enc a) (enc b) = decide (a = b)) : ∀ as bs : List α, PyData.eqvAll (as.map enc) (bs.map enc) = decide (as = bs)
  | [], [] => by simp [PyData.eqvAll]
  | [], b :: bs => by simp [PyData.eqvAll]
  | a :: as, [] => by simp [PyData.eqvAll]
  | a :: as, b :: bs => by
    rw [List.map_cons, List.map_cons, PyData.eqvAll, h, eqv_all h as bs]
    by_cases h1 : a = b <;> by_cases h2 : as = bs <;> simp [h1, h2]
theorem eqv_tints {as bs : List Int} : PyData.eqv (.tuple (as.map .int)) (.tuple (bs.map .int)) = decide (as = bs) := by rw [eqv_tup, eqv_all fun _ _ => eqv_int]
theorem eqv_lints {as bs : List Int} : PyData.eqv (.list (as.map .int)) (.list (bs.map .int)) = decide (as = bs) := by rw [eqv_list, eqv_all fun _ _ => eqv_int]
/-- two that are the same data are equal -/
theorem eqv_same {d : D} (h : SeqAt.shaped d = true) : PyData.eqv d d = true := SeqAt.eqv_refl d (SeqAt.canLay_of_shaped h)
theorem et_eq_same {K : Fg} {en : En} {ta tb : TE} {d : D} (ha : EvD K ta en d) (hb : EvD K tb en d) (h : SeqAt.shaped d = true) : EvT K (tTest (tOp (rEqD K) ta tb)) en true :=
  EvT.eq (et_test (ev_op ha hb (rd_eq h h))) (eqv_same h)
theorem et_ne_same {K : Fg} {en : En} {ta tb : TE} {d : D} (ha : EvD K ta en d) (hb : EvD K tb en d) (h : SeqAt.shaped d = true) : EvT K (tTest (tOp (rNeD K) ta tb)) en false :=
  EvT.eq (et_test (ev_op ha hb (rd_ne h h))) (by rw [eqv_same h]; rfl)
theorem sh_pair {n : Nat} {a b : D} (ha : Sh n a) (hb : Sh n b) : Sh (n + 1) (.tuple [a, b]) := sh_tup fun x hx => by
  rcases List.mem_cons.mp hx with rfl | hx
  · exact ha
  · rw [List.mem_singleton.mp hx]; exact hb
theorem sh_tints {a : List Int} : Sh 1 (.tuple (a.map .int)) := sh_tup sh_ints
/-! places -/
theorem at_nat {α : Type} {xs : List α} {n : Nat} {i : Int} (e : i = (n : Int)) {x : α} (h : xs[n]? = some x) : atI xs i = some x := by
  have hn := (List.getElem?_eq_some_iff.mp h).1
  unfold atI ixN
  rw [if_pos (by omega), if_pos (by omega), e, Int.toNat_natCast]
  exact h
theorem at_map {α : Type} {xs : List α} {enc : α → D} {i : Int} {dflt : α} (h0 : 0 ≤ i) (h1 : i < xs.length) : atI (xs.map enc) i = some (enc (xs.getD i.toNat dflt)) := by
  refine at_nat (n := i.toNat) (by omega) ?_
  rw [List.getElem?_map, List.getD_eq_getElem?_getD]
  have : xs[i.toNat]? = some (xs[i.toNat]'(by omega)) := List.getElem?_eq_getElem (by omega)
  rw [this]; rfl
/-! the order of tuples of ints -/
theorem lex_app_nil : ∀ (a b : List Int), HT.lexLt (a ++ b) a = false
  | [], [] => rfl
  | [], _ :: _ => rfl
  | x :: a, b => by
    show (if x = x then HT.lexLt (a ++ b) a else _) = _
    rw [if_pos rfl]; exact lex_app_nil a b
theorem lex_app : ∀ (a b c : List Int), HT.lexLt (a ++ b) (a ++ c) = HT.lexLt b c
  | [], _, _ => rfl
  | x :: a, b, c => by
    show (if x = x then HT.lexLt (a ++ b) (a ++ c) else _) = _
    rw [if_pos rfl]; exact lex_app a b c
/-- between a and a with c behind it: a, and something that begins below c -/
theorem lex_mid : ∀ (a x : List Int) (c : Int), (HT.lexLt x a = false ∧ HT.lexLt x (a ++ [c]) = true) ↔ ∃ y, x = a ++ y ∧ ∀ z ∈ y.head?, z < c
  | [], [], c => by simp [HT.lexLt]
  | [], z :: x, c => by
    constructor
    · rintro ⟨_, h⟩
      refine ⟨z :: x, rfl, fun w hw => ?_⟩
      have hw : w = z := by simpa using hw.symm
      subst hw
      have h : (if w = c then HT.lexLt x [] else decide (w < c)) = true := h
      split at h
      · cases x <;> cases h
      · exact of_decide_eq_true h
    · rintro ⟨y, rfl, h⟩
      have h := h z (by simp)
      refine ⟨rfl, ?_⟩
      show (if z = c then _ else decide (z < c)) = true
      rw [if_neg (by omega), decide_eq_true h]
  | w :: a, [], c => by
    constructor
    · rintro ⟨h, _⟩
      cases h
    · rintro ⟨y, h, _⟩
      cases h
  | w :: a, z :: x, c => by
    have ih := lex_mid a x c
    constructor
    · rintro ⟨h1, h2⟩
      have h1 : (if z = w then HT.lexLt x a else decide (z < w)) = false := h1
      have h2 : (if z = w then HT.lexLt x (a ++ [c]) else decide (z < w)) = true := h2
      by_cases e : z = w
      · rw [if_pos e] at h1 h2
        obtain ⟨y, hy, hh⟩ := ih.mp ⟨h1, h2⟩
        exact ⟨y, by rw [hy, e]; rfl, hh⟩
      · rw [if_neg e] at h1 h2
        rw [h1] at h2; cases h2
    · rintro ⟨y, hy, hh⟩
      have hy : z :: x = w :: (a ++ y) := hy
      injection hy with hy1 hy2
      subst hy1
      subst hy2
      obtain ⟨h1, h2⟩ := ih.mpr ⟨y, rfl, hh⟩
      refine ⟨?_, ?_⟩
      · show (if z = z then HT.lexLt (a ++ y) a else _) = _
        rw [if_pos rfl]; exact h1
      · show (if z = z then HT.lexLt (a ++ y) (a ++ [c]) else _) = _
        rw [if_pos rfl]; exact h2
/-- ≤ is: the other one isn't less -/
theorem leB_eq : ∀ (a b : List Int), leB a b = !HT.lexLt b a := by
  have shift : ∀ (k i : Nat) (x y : Int) (a b : List Int) (z : Bool), Ob.lexAt (fun j => decide ((x :: a).getD j 0 = (y :: b).getD j 0)) (fun j => decide ((x :: a).getD j 0 ≤ (y :: b).getD j 0)) z (i + 1) k =
      Ob.lexAt (fun j => decide (a.getD j 0 = b.getD j 0)) (fun j => decide (a.getD j 0 ≤ b.getD j 0)) z i k := by
    intro k
    induction k with
    | zero => intros; rfl
    | succ k ih =>
      intro i x y a b z
      rw [Ob.lexAt_succ, Ob.lexAt_succ, ih]
      rfl
  intro a
  induction a with
  | nil =>
    intro b
    cases b with
    | nil => rfl
    | cons y b => rfl
  | cons x a ih =>
    intro b
    cases b with
    | nil => rfl
    | cons y b =>
      unfold leB
      have e : min (x :: a).length (y :: b).length = min a.length b.length + 1 := by simp
      rw [e, Ob.lexAt_succ, shift]
      have e2 : decide ((x :: a).length ≤ (y :: b).length) = decide (a.length ≤ b.length) := by simp
      rw [e2]
      show (if decide (x = y) = true then leB a b else decide (x ≤ y)) = !(if y = x then HT.lexLt b a else decide (y < x))
      by_cases h : x = y
      · rw [if_pos (decide_eq_true h), if_pos h.symm, ih]
      · rw [if_neg (by rw [decide_eq_false h]; decide), if_neg (fun q => h q.symm)]
        by_cases h2 : y < x
        · rw [decide_eq_true h2, decide_eq_false (by omega)]; rfl
        · rw [decide_eq_false h2, decide_eq_true (by omega)]; rfl
end HF

set_option Elab.async false
set_option linter.all false
set_option maxRecDepth 100000
set_option maxHeartbeats 2000000
/-! HF6: enumerate(zip(a, b)) of two tuples. -/
namespace HF
open PySem L2 PySem.Spec PyProof.Rows RZ
abbrev ZipF (h : Heap) (z TI TO : Addr) (f0 : Value) (f1 : Bool) : Prop :=
  h.get? z = some { cls := .type "zip", dict := none, data := .fields #[f0, .bool f1, .bool false, .ref TI, .ref TO], slots := #[] }
/-- a zip, with or without a tuple out -/
def ZipAny (h : Heap) (z TI TO : Addr) : Prop := ∃ f0 f1, ZipF h z TI TO f0 f1 ∧ (f0 = .none ∨ ∃ T : Addr, f0 = rawInt T)
theorem ZipAny.lt {h : Heap} {z TI TO : Addr} (Z : ZipAny h z TI TO) : z < h.objs.size := by
  obtain ⟨_, _, q, _⟩ := Z
  exact Heap.lt_size q
theorem ZipAny.ty {s : Shared} {z TI TO : Addr} (Z : ZipAny s.heap z TI TO) : s.TypeIs (.ref z) "zip" := by
  obtain ⟨_, _, q, _⟩ := Z
  exact ⟨_, q, rfl⟩
section
variable {P : Program} {w : World} {A : Around} {E : Value → Shared → Prop} {s : Shared}
theorem alive_any {a : Addr} {Q : Option Obj → Shared → Prop} (h : Q (s.heap.get? a) s) : wpAny (model P w) A (loadIfAlive a) Q E s := fun _ _ _ => h
theorem zip_free {z TI TO : Addr} {Q : Bool → Shared → Prop} (Z : ZipAny s.heap z TI TO) (h0 : Q true s) (h1 : ∀ h', ZipAny h' z TI TO → Heap.SameBut z s.heap h' → Q false { s with heap := h' }) :
    wpAny (model P w) A (Builtin.SmallTypes.ownedTupleIsFree (.ref z)) Q E s := by
  obtain ⟨f0, f1, hq, hf⟩ := Z
  unfold Builtin.SmallTypes.ownedTupleIsFree
  rcases hf with rfl | ⟨T, rfl⟩
  · exact wpAny_bind (wpAny_field hq rfl (x := .none) rfl (wpAny_pure h0))
  · refine wpAny_bind (wpAny_field hq rfl (x := rawInt T) rfl ?_)
    show wpAny _ _ (loadIfAlive ((T : Int).toNat) >>= _) _ _ _
    rw [Int.toNat_natCast]
    refine wpAny_bind (alive_any ?_)
    cases s.heap.get? T with
    | none =>
      simp only [Option.isNone_none, if_true]
      exact wpAny_pure h0
    | some o =>
      simp only [Option.isNone_some, Bool.false_eq_true, if_false]
      refine wpAny_bind (wpAny_field hq rfl (x := .bool f1) rfl ?_)
      cases f1 with
      | true =>
        rw [if_neg (by decide)]
        exact wpAny_pure (h1 s.heap ⟨_, _, hq, .inr ⟨T, rfl⟩⟩ (Heap.SameBut.refl _ _))
      | false =>
        rw [if_pos (by decide)]
        exact wpAny_bind (wpAny_setField_rec hq (by simp) fun g1 q1 b1 => wpAny_pure (h1 g1 ⟨_, true, q1, .inr ⟨T, rfl⟩⟩ b1))
/-- the next pair of a zip of tuples -/
theorem zipAny_item {z TI TO i1 i2 l1 l2 : Addr} {k1 k2 : Nat} {xs ys : Array Value} {x y a b : Value} {Q : Value → Shared → Prop} (D : ZipApart z TI TO i1 i2 l1 l2) (Z : ZipAny s.heap z TI TO)
    (pI : IsPair s.heap TI (.ref i1) (.ref i2)) (pO : IsPair s.heap TO a b) (w1 : s.heap.IsTupleIter i1 l1 k1) (w2 : s.heap.IsTupleIter i2 l2 k2) (t1 : s.heap.IsTuple l1 xs) (t2 : s.heap.IsTuple l2 ys) (hx : xs[k1]? = some x) (hy : ys[k2]? = some y)
    (hQ : ∀ h', ZipAny h' z TI TO → (∃ a b, IsPair h' TO a b) → h'.IsTupleIter i1 l1 (k1 + 1) → h'.IsTupleIter i2 l2 (k2 + 1) → IsPair h' s.heap.objs.size x y → h'.objs.size = s.heap.objs.size + 1 →
      (∀ c o, c ≠ z → c ≠ TO → c ≠ i1 → c ≠ i2 → s.heap.get? c = some o → h'.get? c = some o) → Q (.ref s.heap.objs.size) { s with heap := h' }) :
    wpAny (model P w) A (Builtin.«zip.__next__» ⟨[.ref z], []⟩) (fun fin s' => ∃ v, fin = .done (.ret v) ∧ Q v s') E s := by
  obtain ⟨f0, f1, hq, hf⟩ := _root_.id Z
  show wpAny _ _ (field (.ref z) 2 >>= _) _ _ _
  refine wpAny_bind (wpAny_field hq rfl (x := .bool false) rfl ?_)
  show wpAny _ _ (field (.ref z) 3 >>= _) _ _ _
  refine wpAny_bind (wpAny_field hq rfl (x := .ref TI) rfl ?_)
  refine wpAny_bind (wpAny_seqItems pI rfl ?_)
  show wpAny _ _ (Builtin.SmallTypes.ownedTupleIsFree (.ref z) >>= _) _ _ _
  refine wpAny_bind (zip_free Z ?_ fun g1 Z1 b1 => ?_)
  · simp only [if_true]
    refine wpAny_bind (wpAny_rule ?_)
    refine wpAny_bind (wpAny_field hq rfl (x := .ref TO) rfl ?_)
    refine wpAny_bind (wpAny_setField_rec hq (by simp) fun g1 q1 b1 => ?_)
    replace q1 : ZipF g1 z TI TO .ellipsis f1 := q1
    refine wpAny_bind ?_
    simp only [List.zipIdx_cons, List.zipIdx_nil, List.forIn_cons, List.forIn_nil]
    refine wpAny_bind (wpAny_bind (wpAny_onRaise ?_))
    show wpAny _ _ (Builtin.SmallTypes.nextOf (.ref i1) >>= _) _ _ _
    refine wpAny_bind (nextOf_tuple_item (w1.extBut b1.extBut D.i1z) (t1.extBut b1.extBut D.l1z) hx fun g2 v1 b2 => wpAny_pure ?_)
    have pO2 : IsPair g2 TO a b := b2.extBut _ _ D.TOi1 (b1.extBut _ _ D.TOz pO)
    refine wpAny_bind (wpAny_seqItems pO2 rfl ?_)
    refine wpAny_bind (wpAny_updateSeq_pair pO2 fun g3 pO3 b3 => ?_)
    replace pO3 : IsPair g3 TO x b := pO3
    refine wpAny_bind (wpAny_letGo (wpAny_pure ?_))
    refine wpAny_bind (wpAny_bind (wpAny_onRaise ?_))
    show wpAny _ _ (Builtin.SmallTypes.nextOf (.ref i2) >>= _) _ _ _
    refine wpAny_bind (nextOf_tuple_item (((w2.extBut b1.extBut D.i2z).extBut b2.extBut D.i12.symm).extBut b3.extBut D.TOi2.symm)
      (((t2.extBut b1.extBut D.l2z).extBut b2.extBut D.l2i1).extBut b3.extBut D.l2TO) hy fun g4 v2 b4 => wpAny_pure ?_)
    have pO4 : IsPair g4 TO x b := b4.extBut _ _ D.TOi2 pO3
    refine wpAny_bind (wpAny_seqItems pO4 rfl ?_)
    refine wpAny_bind (wpAny_updateSeq_pair pO4 fun g5 pO5 b5 => ?_)
    replace pO5 : IsPair g5 TO x y := pO5
    refine wpAny_bind (wpAny_letGo (wpAny_pure (wpAny_pure ?_)))
    refine wpAny_bind (wpAny_seqItems pO5 rfl ?_)
    refine wpAny_bind (wpAny_newTuple ?_)
    have hsz : g5.objs.size = s.heap.objs.size := by rw [b5.1, b4.1, b3.1, b2.1, b1.1]
    have q5 : ZipF g5 z TI TO .ellipsis f1 := b5.extBut _ _ D.TOz.symm (b4.extBut _ _ D.i2z.symm (b3.extBut _ _ D.TOz.symm (b2.extBut _ _ D.i1z.symm q1)))
    have keep5 : ∀ c o, c ≠ z → c ≠ TO → c ≠ i1 → c ≠ i2 → s.heap.get? c = some o → g5.get? c = some o := fun c o c1 c2 c3 c4 e =>
      b5.extBut _ _ c2 (b4.extBut _ _ c4 (b3.extBut _ _ c2 (b2.extBut _ _ c3 (b1.extBut _ _ c1 e))))
    have v15 : g5.IsTupleIter i1 l1 (k1 + 1) := ((v1.extBut b3.extBut D.TOi1.symm).extBut b4.extBut D.i12).extBut b5.extBut D.TOi1.symm
    have v25 : g5.IsTupleIter i2 l2 (k2 + 1) := v2.extBut b5.extBut D.TOi2.symm
    have zlt : z < g5.objs.size := Heap.lt_size q5
    show wpAny _ _ (Builtin.SmallTypes.ownedTupleHandOut (.ref z) (.ref g5.objs.size) >>= _) _ _ _
    refine wpAny_bind ?_
    unfold Builtin.SmallTypes.ownedTupleHandOut
    have q6 : ZipF (g5.push { cls := .type "tuple", data := .seq #[x, y] }) z TI TO .ellipsis f1 := Heap.get?_push_of_some _ q5
    refine wpAny_bind (wpAny_setField_rec q6 (by simp) fun g7 q7 b7 => ?_)
    replace q7 : ZipF g7 z TI TO (rawInt g5.objs.size) f1 := q7
    refine wpAny_setField_rec q7 (by simp) fun g8 q8 b8 => ?_
    replace q8 : ZipF g8 z TI TO (rawInt g5.objs.size) false := q8
    have up : ∀ c o, c ≠ z → g5.get? c = some o → g8.get? c = some o := fun c o c1 e => b8.extBut _ _ c1 (b7.extBut _ _ c1 (Heap.get?_push_of_some _ e))
    have pT : IsPair g8 g5.objs.size x y := b8.extBut _ _ (Nat.ne_of_gt zlt) (b7.extBut _ _ (Nat.ne_of_gt zlt) (Heap.get?_push_size _ rfl))
    have z8 : g8.objs.size = g5.objs.size + 1 := by rw [b8.1, b7.1, Heap.size_push]
    rw [hsz] at q8 pT z8
    refine wpAny_pure ⟨_, rfl, ?_⟩
    show Q (.ref g5.objs.size) _
    rw [hsz]
    exact hQ g8 ⟨_, _, q8, .inr ⟨_, rfl⟩⟩ ⟨_, _, up _ _ D.TOz pO5⟩ (v15.at fun o e => up _ o D.i1z e) (v25.at fun o e => up _ o D.i2z e) pT z8 fun c o c1 c2 c3 c4 e => up c o c1 (keep5 c o c1 c2 c3 c4 e)
  · simp only [Bool.false_eq_true, if_false]
    refine wpAny_bind ?_
    rw [← Array.forIn_toList]
    simp only [List.forIn_cons, List.forIn_nil]
    refine wpAny_bind (wpAny_bind (wpAny_holding ?_))
    show wpAny _ _ (Builtin.SmallTypes.nextOf (.ref i1) >>= _) _ _ _
    refine wpAny_bind (nextOf_tuple_item (s := { s with heap := g1 }) (w1.extBut b1.extBut D.i1z) (t1.extBut b1.extBut D.l1z) hx fun g2 v1 b2 => wpAny_pure ?_)
    refine wpAny_pure ?_
    refine wpAny_bind (wpAny_bind (wpAny_holding ?_))
    show wpAny _ _ (Builtin.SmallTypes.nextOf (.ref i2) >>= _) _ _ _
    refine wpAny_bind (nextOf_tuple_item (s := { s with heap := g2 }) ((w2.extBut b1.extBut D.i2z).extBut b2.extBut D.i12.symm) ((t2.extBut b1.extBut D.l2z).extBut b2.extBut D.l2i1) hy fun g3 v2 b3 => wpAny_pure ?_)
    refine wpAny_pure (wpAny_pure ?_)
    show wpAny _ _ (newTuple [x, y] >>= _) _ _ _
    refine wpAny_bind (wpAny_newTuple ?_)
    have hsz : g3.objs.size = s.heap.objs.size := by rw [b3.1, b2.1, b1.1]
    have keep3 : ∀ c o, c ≠ z → c ≠ i1 → c ≠ i2 → s.heap.get? c = some o → g3.get? c = some o := fun c o c1 c2 c3 e => b3.extBut _ _ c3 (b2.extBut _ _ c2 (b1.extBut _ _ c1 e))
    have v13 : g3.IsTupleIter i1 l1 (k1 + 1) := v1.extBut b3.extBut D.i12
    have pO3 : IsPair g3 TO a b := b3.extBut _ _ D.TOi2 (b2.extBut _ _ D.TOi1 (b1.extBut _ _ D.TOz pO))
    obtain ⟨e0, e1, q1, r1⟩ := Z1
    have q3 : ZipF g3 z TI TO e0 e1 := b3.extBut _ _ D.i2z.symm (b2.extBut _ _ D.i1z.symm q1)
    refine wpAny_pure ⟨_, rfl, ?_⟩
    show Q (.ref g3.objs.size) _
    have pT : IsPair (g3.push { cls := .type "tuple", data := .seq #[x, y] }) g3.objs.size x y := Heap.get?_push_size _ rfl
    have z4 : (g3.push { cls := .type "tuple", data := .seq #[x, y] }).objs.size = g3.objs.size + 1 := Heap.size_push ..
    rw [hsz] at pT z4 ⊢
    exact hQ _ ⟨_, _, Heap.get?_push_of_some _ q3, r1⟩ ⟨_, _, Heap.get?_push_of_some _ pO3⟩ (v13.at fun o e => Heap.get?_push_of_some _ e) (v2.at fun o e => Heap.get?_push_of_some _ e) pT z4 fun c o c1 c2 c3 c4 e => Heap.get?_push_of_some _ (keep3 c o c1 c3 c4 e)
/-- no pair is left -/
theorem zipAny_end {z TI TO i1 i2 l1 l2 : Addr} {k1 k2 : Nat} {xs ys : Array Value} {a b : Value} {Q : Fin → Shared → Prop} (hh : A.handled = none) (D : ZipApart z TI TO i1 i2 l1 l2) (Z : ZipAny s.heap z TI TO)
    (pI : IsPair s.heap TI (.ref i1) (.ref i2)) (pO : IsPair s.heap TO a b) (w1 : s.heap.IsTupleIter i1 l1 k1) (w2 : s.heap.IsTupleIter i2 l2 k2) (t1 : s.heap.IsTuple l1 xs) (t2 : s.heap.IsTuple l2 ys) (he : xs[k1]? = none ∨ ys[k2]? = none)
    (hE : ∀ h' e, (∀ c o, c ≠ z → c ≠ TO → c ≠ i1 → c ≠ i2 → s.heap.get? c = some o → h'.get? c = some o) → (∃ o, h'.get? e = some o ∧ o.cls = .type "StopIteration") → E (.ref e) { s with heap := h' }) :
    wpAny (model P w) A (Builtin.«zip.__next__» ⟨[.ref z], []⟩) Q E s := by
  obtain ⟨f0, f1, hq, hf⟩ := _root_.id Z
  show wpAny _ _ (field (.ref z) 2 >>= _) _ _ _
  refine wpAny_bind (wpAny_field hq rfl (x := .bool false) rfl ?_)
  show wpAny _ _ (field (.ref z) 3 >>= _) _ _ _
  refine wpAny_bind (wpAny_field hq rfl (x := .ref TI) rfl ?_)
  refine wpAny_bind (wpAny_seqItems pI rfl ?_)
  show wpAny _ _ (Builtin.SmallTypes.ownedTupleIsFree (.ref z) >>= _) _ _ _
  refine wpAny_bind (zip_free Z ?_ fun g1 Z1 b1 => ?_)
  · simp only [if_true]
    refine wpAny_bind (wpAny_rule ?_)
    refine wpAny_bind (wpAny_field hq rfl (x := .ref TO) rfl ?_)
    refine wpAny_bind (wpAny_setField_rec hq (by simp) fun g1 q1 b1 => ?_)
    replace q1 : ZipF g1 z TI TO .ellipsis f1 := q1
    refine wpAny_bind ?_
    simp only [List.zipIdx_cons, List.zipIdx_nil, List.forIn_cons, List.forIn_nil]
    refine wpAny_bind (wpAny_bind (wpAny_onRaise ?_))
    show wpAny _ _ (Builtin.SmallTypes.nextOf (.ref i1) >>= _) _ _ _
    cases hx : xs[k1]? with
    | none =>
      refine wpAny_bind (nextOf_tuple_end hh (w1.extBut b1.extBut D.i1z) (t1.extBut b1.extBut D.l1z) hx fun g2 e b2 st => ?_)
      obtain ⟨oe, se, ce⟩ := st
      have q2 : ZipF g2 z TI TO .ellipsis f1 := b2 _ _ D.i1z.symm q1
      have ez : e ≠ z := fun x => by subst x; rw [q2] at se; cases se; simp at ce
      refine wpAny_setField_rec q2 (by simp) fun g3 _ b3 => hE g3 e (fun c o c1 _ c3 _ x => b3.extBut _ _ c1 (b2 _ _ c3 (b1.extBut _ _ c1 x))) ⟨oe, b3.extBut _ _ ez se, ce⟩
    | some x =>
      have hy : ys[k2]? = none := by
        rcases he with h | h
        · rw [hx] at h; cases h
        · exact h
      refine wpAny_bind (nextOf_tuple_item (w1.extBut b1.extBut D.i1z) (t1.extBut b1.extBut D.l1z) hx fun g2 v1 b2 => wpAny_pure ?_)
      have pO2 : IsPair g2 TO a b := b2.extBut _ _ D.TOi1 (b1.extBut _ _ D.TOz pO)
      refine wpAny_bind (wpAny_seqItems pO2 rfl ?_)
      refine wpAny_bind (wpAny_updateSeq_pair pO2 fun g3 pO3 b3 => ?_)
      refine wpAny_bind (wpAny_letGo (wpAny_pure ?_))
      refine wpAny_bind (wpAny_bind (wpAny_onRaise ?_))
      show wpAny _ _ (Builtin.SmallTypes.nextOf (.ref i2) >>= _) _ _ _
      refine wpAny_bind (nextOf_tuple_end hh (((w2.extBut b1.extBut D.i2z).extBut b2.extBut D.i12.symm).extBut b3.extBut D.TOi2.symm)
        (((t2.extBut b1.extBut D.l2z).extBut b2.extBut D.l2i1).extBut b3.extBut D.l2TO) hy fun g4 e b4 st => ?_)
      obtain ⟨oe, se, ce⟩ := st
      have q4 : ZipF g4 z TI TO .ellipsis f1 := b4 _ _ D.i2z.symm (b3.extBut _ _ D.TOz.symm (b2.extBut _ _ D.i1z.symm q1))
      have ez : e ≠ z := fun x => by subst x; rw [q4] at se; cases se; simp at ce
      refine wpAny_setField_rec q4 (by simp) fun g5 _ b5 => hE g5 e (fun c o c1 c2 c3 c4 x => b5.extBut _ _ c1 (b4 _ _ c4 (b3.extBut _ _ c2 (b2.extBut _ _ c3 (b1.extBut _ _ c1 x))))) ⟨oe, b5.extBut _ _ ez se, ce⟩
  · simp only [Bool.false_eq_true, if_false]
    refine wpAny_bind ?_
    rw [← Array.forIn_toList]
    simp only [List.forIn_cons, List.forIn_nil]
    refine wpAny_bind (wpAny_bind (wpAny_holding ?_))
    show wpAny _ _ (Builtin.SmallTypes.nextOf (.ref i1) >>= _) _ _ _
    cases hx : xs[k1]? with
    | none =>
      exact wpAny_bind (nextOf_tuple_end (s := { s with heap := g1 }) hh (w1.extBut b1.extBut D.i1z) (t1.extBut b1.extBut D.l1z) hx fun g2 e b2 st => hE g2 e (fun c o c1 _ c3 _ x => b2 _ _ c3 (b1.extBut _ _ c1 x)) st)
    | some x =>
      have hy : ys[k2]? = none := by
        rcases he with h | h
        · rw [hx] at h; cases h
        · exact h
      refine wpAny_bind (nextOf_tuple_item (s := { s with heap := g1 }) (w1.extBut b1.extBut D.i1z) (t1.extBut b1.extBut D.l1z) hx fun g2 v1 b2 => wpAny_pure ?_)
      refine wpAny_pure ?_
      refine wpAny_bind (wpAny_bind (wpAny_holding ?_))
      show wpAny _ _ (Builtin.SmallTypes.nextOf (.ref i2) >>= _) _ _ _
      exact wpAny_bind (nextOf_tuple_end (s := { s with heap := g2 }) hh ((w2.extBut b1.extBut D.i2z).extBut b2.extBut D.i12.symm) ((t2.extBut b1.extBut D.l2z).extBut b2.extBut D.l2i1) hy fun g3 e b3 st => hE g3 e (fun c o c1 _ c3 c4 x => b3 _ _ c4 (b2.extBut _ _ c3 (b1.extBut _ _ c1 x))) st)
/-- nextOf of a zip -/
theorem nextOf_zipAny {z TI TO i1 i2 l1 l2 : Addr} {k1 k2 : Nat} {xs ys : Array Value} {x y a b : Value} {Q : Value → Shared → Prop} (D : ZipApart z TI TO i1 i2 l1 l2) (Z : ZipAny s.heap z TI TO)
    (pI : IsPair s.heap TI (.ref i1) (.ref i2)) (pO : IsPair s.heap TO a b) (w1 : s.heap.IsTupleIter i1 l1 k1) (w2 : s.heap.IsTupleIter i2 l2 k2) (t1 : s.heap.IsTuple l1 xs) (t2 : s.heap.IsTuple l2 ys) (hx : xs[k1]? = some x) (hy : ys[k2]? = some y)
    (hQ : ∀ h', ZipAny h' z TI TO → (∃ a b, IsPair h' TO a b) → h'.IsTupleIter i1 l1 (k1 + 1) → h'.IsTupleIter i2 l2 (k2 + 1) → IsPair h' s.heap.objs.size x y → h'.objs.size = s.heap.objs.size + 1 →
      (∀ c o, c ≠ z → c ≠ TO → c ≠ i1 → c ≠ i2 → s.heap.get? c = some o → h'.get? c = some o) → Q (.ref s.heap.objs.size) { s with heap := h' }) :
    wpAny (model P w) A (Builtin.SmallTypes.nextOf (.ref z)) Q E s := by
  unfold Builtin.SmallTypes.nextOf
  exact wpAny_bind (wpAny_callSpecial?_slot (name := Str.ofString "__next__") Z.ty F.slot_zip_next
    (wpAny_call_entry F.slot_zip_next Z.ty F.entry_zip_next (zipAny_item D Z pI pO w1 w2 t1 t2 hx hy fun h' a1 a2 a3 a4 a5 a6 a7 => wpAny_pure (hQ h' a1 a2 a3 a4 a5 a6 a7)) (F.args_zip_next_1 _)))
theorem nextOf_zipAny_end {z TI TO i1 i2 l1 l2 : Addr} {k1 k2 : Nat} {xs ys : Array Value} {a b : Value} {Q : Value → Shared → Prop} (hh : A.handled = none) (D : ZipApart z TI TO i1 i2 l1 l2) (Z : ZipAny s.heap z TI TO)
    (pI : IsPair s.heap TI (.ref i1) (.ref i2)) (pO : IsPair s.heap TO a b) (w1 : s.heap.IsTupleIter i1 l1 k1) (w2 : s.heap.IsTupleIter i2 l2 k2) (t1 : s.heap.IsTuple l1 xs) (t2 : s.heap.IsTuple l2 ys) (he : xs[k1]? = none ∨ ys[k2]? = none)
    (hE : ∀ h' e, (∀ c o, c ≠ z → c ≠ TO → c ≠ i1 → c ≠ i2 → s.heap.get? c = some o → h'.get? c = some o) → (∃ o, h'.get? e = some o ∧ o.cls = .type "StopIteration") → E (.ref e) { s with heap := h' }) :
    wpAny (model P w) A (Builtin.SmallTypes.nextOf (.ref z)) Q E s := by
  unfold Builtin.SmallTypes.nextOf
  exact wpAny_bind (wpAny_callSpecial?_slot (name := Str.ofString "__next__") Z.ty F.slot_zip_next
    (wpAny_call_entry F.slot_zip_next Z.ty F.entry_zip_next (zipAny_end hh D Z pI pO w1 w2 t1 t2 he hE) (F.args_zip_next_1 _)))
/-- the records of enumerate(zip(a, b)) -/
structure EzAt (h : Heap) (e z TI TO i1 i2 l1 l2 : Addr) (i : Nat) : Prop where
  en : ∃ old, IsEnum h e z ((i : Nat) : Int) old
  zp : ZipAny h z TI TO
  pI : IsPair h TI (.ref i1) (.ref i2)
  pO : ∃ a b, IsPair h TO a b
  w1 : h.IsTupleIter i1 l1 i
  w2 : h.IsTupleIter i2 l2 i
structure EzApart (e z TI TO i1 i2 : Addr) : Prop where
  z : e ≠ z
  TI : e ≠ TI
  TO : e ≠ TO
  i1 : e ≠ i1
  i2 : e ≠ i2
/-- the pair at T1 is out of the zip, the tuple at T2 out of enumerate -/
structure EzOut (h : Heap) (e z TI TO i1 i2 l1 l2 : Addr) (i : Nat) (T1 T2 : Addr) (t : Tok) (x y : Value) : Prop where
  en : ∃ u, IsEnumOut h e z (((i + 1 : Nat)) : Int) u T2
  zp : ZipAny h z TI TO
  pI : IsPair h TI (.ref i1) (.ref i2)
  pO : ∃ a b, IsPair h TO a b
  w1 : h.IsTupleIter i1 l1 (i + 1)
  w2 : h.IsTupleIter i2 l2 (i + 1)
  p1 : IsPair h T1 x y
  p2 : IsPair h T2 (.int i t) (.ref T1)
theorem ez_item {e z TI TO i1 i2 l1 l2 : Addr} {i : Nat} {xs ys : Array Value} {x y : Value} {Q : Value → Shared → Prop} (B : EzApart e z TI TO i1 i2) (D : ZipApart z TI TO i1 i2 l1 l2) (S : EzAt s.heap e z TI TO i1 i2 l1 l2 i)
    (t1 : s.heap.IsTuple l1 xs) (t2 : s.heap.IsTuple l2 ys) (hx : xs[i]? = some x) (hy : ys[i]? = some y)
    (hQ : ∀ h' tk, EzOut h' e z TI TO i1 i2 l1 l2 i s.heap.objs.size (s.heap.objs.size + 1) s.toks x y → h'.objs.size = s.heap.objs.size + 2 →
      (∀ c o, c ≠ e → c ≠ z → c ≠ TO → c ≠ i1 → c ≠ i2 → s.heap.get? c = some o → h'.get? c = some o) → Q (.ref (s.heap.objs.size + 1)) { s with heap := h', toks := tk }) :
    wpAny (model P w) A (Builtin.«enumerate.__next__» ⟨[.ref e], []⟩) (fun fin s' => ∃ v, fin = .done (.ret v) ∧ Q v s') E s := by
  obtain ⟨hp, g, d, tk, os⟩ := s
  obtain ⟨⟨old, he⟩, hz, hI, ⟨a, b, hO⟩, w1, w2⟩ := S
  replace he : IsEnum hp e z ((i : Nat) : Int) old := he
  show wpAny _ _ (field (.ref e) 2 >>= _) _ _ _
  refine wpAny_bind (wpAny_field he rfl (x := .ref z) rfl ?_)
  refine wpAny_bind (nextOf_zipAny D hz hI hO w1 w2 t1 t2 hx hy fun h1 z1 o1 v1 v2 p1 s1 k1 => ?_)
  replace s1 : h1.objs.size = hp.objs.size + 1 := s1
  replace p1 : IsPair h1 hp.objs.size x y := p1
  have he1 : IsEnum h1 e z ((i : Nat) : Int) old := k1 e _ B.z B.TO B.i1 B.i2 he
  have hI1 : IsPair h1 TI (.ref i1) (.ref i2) := k1 TI _ D.TIz D.TITO D.TIi1 D.TIi2 hI
  show wpAny _ _ (field (.ref e) 3 >>= _) _ _ ⟨h1, g, d, tk, os⟩
  refine wpAny_bind (wpAny_field he1 rfl (x := rawInt i) rfl ?_)
  show wpAny _ _ (field (.ref e) 4 >>= _) _ _ ⟨h1, g, d, tk, os⟩
  refine wpAny_bind (wpAny_field he1 rfl (x := .none) rfl ?_)
  show wpAny _ _ (mkInt i >>= _) _ _ ⟨h1, g, d, tk, os⟩
  refine wpAny_bind (wpAny_mkInt ?_)
  show wpAny _ _ (setField (.ref e) 3 (rawInt ((i : Int) + 1)) >>= _) _ _ ⟨h1, g, d, tk + 1, os⟩
  refine wpAny_bind (wpAny_setField_rec he1 (by simp) fun h2 he2 b2 => ?_)
  replace b2 : Heap.SameBut e h1 h2 := b2
  replace he2 : IsEnum h2 e z ((i : Int) + 1) old := he2
  show wpAny _ _ (setField (.ref e) 4 .none >>= _) _ _ ⟨h2, g, d, tk + 1, os⟩
  refine wpAny_bind (wpAny_setField_rec he2 (by simp) fun h3 he3 b3 => ?_)
  replace b3 : Heap.SameBut e h2 h3 := b3
  replace he3 : IsEnum h3 e z ((i : Int) + 1) old := he3
  show wpAny _ _ (newTuple [.int i tk, .ref hp.objs.size] >>= _) _ _ ⟨h3, g, d, tk + 1, os⟩
  refine wpAny_bind (wpAny_newTuple ?_)
  have s3 : h3.objs.size = hp.objs.size + 1 := by rw [b3.1, b2.1, s1]
  have elt : e < hp.objs.size := Heap.lt_size he
  have ne2 : hp.objs.size + 1 ≠ e := Nat.ne_of_gt (Nat.lt_succ_of_lt elt)
  have up3 : ∀ c o, c ≠ e → h1.get? c = some o → h3.get? c = some o := fun c o c1 q => b3.extBut c o c1 (b2.extBut c o c1 q)
  have he4 : IsEnum (h3.push { cls := .type "tuple", data := .seq #[.int i tk, .ref hp.objs.size] }) e z ((i : Int) + 1) old := Heap.get?_push_of_some _ he3
  have pT : IsPair (h3.push { cls := .type "tuple", data := .seq #[.int i tk, .ref hp.objs.size] }) (hp.objs.size + 1) (.int i tk) (.ref hp.objs.size) := by
    rw [← s3]; exact Heap.get?_push_size _ rfl
  have s4 : (h3.push { cls := .type "tuple", data := .seq #[.int i tk, .ref hp.objs.size] }).objs.size = hp.objs.size + 2 := by rw [Heap.size_push, s3]
  have up4 : ∀ c o, c ≠ e → h1.get? c = some o → (h3.push { cls := .type "tuple", data := .seq #[.int i tk, .ref hp.objs.size] }).get? c = some o := fun c o c1 q => Heap.get?_push_of_some _ (up3 c o c1 q)
  show wpAny _ _ (Builtin.SmallTypes.ownedTupleIsFree (.ref e) >>= _) _ _ ⟨_, g, d, tk + 1, os⟩
  rw [s3]
  generalize h3.push { cls := .type "tuple", data := .seq #[.int i tk, .ref hp.objs.size] } = h4 at he4 pT s4 up4
  clear he3 b3 he2 b2 up3 s3 h3 h2
  refine wpAny_bind ?_
  unfold Builtin.SmallTypes.ownedTupleIsFree
  refine wpAny_bind (wpAny_field he4 rfl (x := .none) rfl (wpAny_pure ?_))
  simp only [if_true]
  refine wpAny_bind (wpAny_rule ?_)
  refine wpAny_bind (wpAny_field he4 rfl (x := old) rfl ?_)
  refine wpAny_bind (wpAny_setField_rec he4 (by simp) fun h5 he5 b5 => ?_)
  replace b5 : Heap.SameBut e h4 h5 := b5
  replace he5 : IsEnum h5 e z ((i : Int) + 1) (.ref hp.objs.size) := he5
  show wpAny _ _ (Builtin.SmallTypes.ownedTupleHandOut (.ref e) (.ref (hp.objs.size + 1)) >>= _) _ _ ⟨h5, g, d, tk + 1, os⟩
  refine wpAny_bind ?_
  unfold Builtin.SmallTypes.ownedTupleHandOut
  refine wpAny_bind (wpAny_setField_rec he5 (by simp) fun h6 he6 b6 => ?_)
  replace b6 : Heap.SameBut e h5 h6 := b6
  replace he6 : IsEnumOut h6 e z ((i : Int) + 1) (.ref hp.objs.size) (hp.objs.size + 1) := he6
  refine wpAny_setField_rec he6 (by simp) fun h7 he7 b7 => ?_
  replace b7 : Heap.SameBut e h6 h7 := b7
  replace he7 : IsEnumOut h7 e z ((i : Int) + 1) (.ref hp.objs.size) (hp.objs.size + 1) := he7
  have up7 : ∀ c o, c ≠ e → h4.get? c = some o → h7.get? c = some o := fun c o c1 q => b7.extBut c o c1 (b6.extBut c o c1 (b5.extBut c o c1 q))
  have up : ∀ c o, c ≠ e → h1.get? c = some o → h7.get? c = some o := fun c o c1 q => up7 c o c1 (up4 c o c1 q)
  have out : EzOut h7 e z TI TO i1 i2 l1 l2 i hp.objs.size (hp.objs.size + 1) tk x y := by
    refine ⟨⟨.ref hp.objs.size, ?_⟩, ?_, up _ _ B.TI.symm hI1, ?_, v1.at fun o q => up _ o B.i1.symm q, v2.at fun o q => up _ o B.i2.symm q, up _ _ (Nat.ne_of_gt elt) p1, up7 _ _ ne2 pT⟩
    · rw [Int.natCast_succ]; exact he7
    · obtain ⟨f0, f1, q, r⟩ := z1
      exact ⟨f0, f1, up _ _ B.z.symm q, r⟩
    · obtain ⟨a', b', q⟩ := o1
      exact ⟨a', b', up _ _ B.TO.symm q⟩
  have s7 : h7.objs.size = hp.objs.size + 2 := by rw [b7.1, b6.1, b5.1, s4]
  exact wpAny_bind (wpAny_letGo (wpAny_pure ⟨_, rfl, hQ h7 (tk + 1) out s7 fun c o c0 c1 c2 c3 c4 q => up c o c0 (k1 c o c1 c2 c3 c4 q)⟩))
theorem ez_end {e z TI TO i1 i2 l1 l2 : Addr} {i : Nat} {xs ys : Array Value} {Q : Option Value → Shared → Prop} (hh : A.handled = none) (B : EzApart e z TI TO i1 i2) (D : ZipApart z TI TO i1 i2 l1 l2) (S : EzAt s.heap e z TI TO i1 i2 l1 l2 i)
    (t1 : s.heap.IsTuple l1 xs) (t2 : s.heap.IsTuple l2 ys) (hn : xs[i]? = none ∨ ys[i]? = none)
    (hQ : ∀ h', (∀ c o, c ≠ z → c ≠ TO → c ≠ i1 → c ≠ i2 → s.heap.get? c = some o → h'.get? c = some o) → Q none { s with heap := h' }) : wpAny (model P w) A (pyNext (.ref e)) Q E s := by
  obtain ⟨⟨old, he⟩, hz, hI, ⟨a, b, hO⟩, w1, w2⟩ := S
  have ht : s.TypeIs (.ref e) "enumerate" := ⟨_, he, rfl⟩
  unfold pyNext
  refine wpAny_bind (wpAny_attempt (wpAny_callSpecial?_slot (name := Str.ofString "__next__") ht F.slot_enumerate_next
    (wpAny_call_entry F.slot_enumerate_next ht F.entry_enumerate_next ?_ (F.args_enumerate_next_1 _))))
  show wpAny _ _ (field (.ref e) 2 >>= _) _ _ _
  refine wpAny_bind (wpAny_field he rfl (x := .ref z) rfl ?_)
  refine wpAny_bind (nextOf_zipAny_end hh D hz hI hO w1 w2 t1 t2 hn fun h' u k st => ?_)
  obtain ⟨o, so, co⟩ := st
  refine wpAny_bind (wpAny_isInstance (T := "StopIteration") (b := true) ⟨o, so, co⟩ isSubtype_stop ?_)
  exact wpAny_pure (hQ _ k)
theorem ez_next {e z TI TO i1 i2 l1 l2 : Addr} {i : Nat} {xs ys : Array Value} {x y : Value} {Q : Option Value → Shared → Prop} (B : EzApart e z TI TO i1 i2) (D : ZipApart z TI TO i1 i2 l1 l2) (S : EzAt s.heap e z TI TO i1 i2 l1 l2 i)
    (t1 : s.heap.IsTuple l1 xs) (t2 : s.heap.IsTuple l2 ys) (hx : xs[i]? = some x) (hy : ys[i]? = some y)
    (hQ : ∀ h' tk, EzOut h' e z TI TO i1 i2 l1 l2 i s.heap.objs.size (s.heap.objs.size + 1) s.toks x y → h'.objs.size = s.heap.objs.size + 2 →
      (∀ c o, c ≠ e → c ≠ z → c ≠ TO → c ≠ i1 → c ≠ i2 → s.heap.get? c = some o → h'.get? c = some o) → Q (some (.ref (s.heap.objs.size + 1))) { s with heap := h', toks := tk }) :
    wpAny (model P w) A (pyNext (.ref e)) Q E s := by
  have ht : s.TypeIs (.ref e) "enumerate" := by
    obtain ⟨old, he⟩ := S.en
    exact ⟨_, he, rfl⟩
  unfold pyNext
  exact wpAny_bind (wpAny_attempt (wpAny_callSpecial?_slot (name := Str.ofString "__next__") ht F.slot_enumerate_next
    (wpAny_call_entry F.slot_enumerate_next ht F.entry_enumerate_next (ez_item B D S t1 t2 hx hy fun h' tk a b c => wpAny_pure (hQ h' tk a b c)) (F.args_enumerate_next_1 _))))
theorem meets_enumZ (z TI TO : Addr) :
    Meets (Builtin.«enumerate.__new__» ⟨[.type "enumerate", .ref z], []⟩) (fun _ R s => IsZip s.heap z TI TO .none ∧
      R (.ok (.ret (.ref s.heap.objs.size))) { s with heap := s.heap.push { cls := .type "enumerate", data := .fields #[.none, .bool false, .ref z, rawInt 0, .none, .none] } }) :=
  .of_wp fun prog w A R s h => by
    obtain ⟨hp, g, d, tk, os⟩ := s
    obtain ⟨hz, h⟩ := h
    have sub := sub_enumerate
    have Z : IsZip (Shared.heap ⟨hp, g, d, tk, os⟩) z TI TO .none := hz
    wp_walk using AutoSeq1.wpAny_loadPart' hz
    refine wpAny_stack_any fun st => wpAny_pure ?_
    split
    · rename_i c _ _ _ _ _
      cases (c == Value.type "enumerate") <;> (wp_walk using AutoSeq1.wpAny_loadPart' hz, wpAny_pyIter_zip Z; exact ⟨_, rfl, h⟩)
    · wp_walk using AutoSeq1.wpAny_loadPart' hz, wpAny_pyIter_zip Z
      exact ⟨_, rfl, h⟩
theorem call_enumZ {z TI TO : Addr} {Q : Value → Shared → Prop} (hz : IsZip s.heap z TI TO .none)
    (h : ∀ h', IsEnum h' s.heap.objs.size z 0 .none → h'.objs.size = s.heap.objs.size + 1 → (∀ b o, s.heap.get? b = some o → h'.get? b = some o) → Q (.ref s.heap.objs.size) { s with heap := h' }) :
    wpAny (model P w) A (call (.type "enumerate") [.ref z]) Q E s := by
  refine callType_new F.called_enumerate (by decide) (F.typeCall_enumerate_1 _) (F.newCall_enumerate_1 _) (fun obj => F.args_object_init_2 obj _) F.entry_enumerate_new (meets_enumZ z TI TO) ⟨hz, ?_⟩
  have q : IsEnum (s.heap.push { cls := .type "enumerate", data := .fields #[.none, .bool false, .ref z, rawInt 0, .none, .none] }) s.heap.objs.size z 0 .none := Heap.get?_push_size _ rfl
  exact ⟨⟨_, q, rfl⟩, h _ q (Heap.size_push ..) fun b o x => Heap.get?_push_of_some _ x⟩
end
theorem push_old {h : Heap} {c : Addr} {o o' : Obj} (lt : c < h.objs.size) (q : (h.push o).get? c = some o') : h.get? c = some o' := by
  have e : (h.push o).get? c = h.get? c := by
    cases h
    have n : c ≠ _ := Nat.ne_of_lt lt
    unfold Heap.get? Heap.push
    simp only [Array.getElem?_push, if_neg n]
  exact e.symm.trans q
/-- two tuples as they stand at each turn: place and pair in new tuples -/
def ItEz (K : PySem.W.Frag) (a b : Addr) : It :=
  ⟨fun i H => ∃ (xs ys : List V) (x y : V), SqT K H a xs ∧ SqT K H b ys ∧ xs[i]? = some x ∧ ys[i]? = some y,
    fun i H v H' => ∃ T1 T2 x y, v = .ref T2 ∧ H T1 = none ∧ H T2 = none ∧ T2 ≠ T1 ∧ H' = upd (upd H T1 (.tup [x, y])) T2 (.tup [.int (i : Nat), .ref T1]) ∧ (∀ xs, SqT K H a xs → xs[i]? = some x) ∧ ∀ ys, SqT K H b ys → ys[i]? = some y,
    fun i H => ∃ xs ys : List V, SqT K H a xs ∧ SqT K H b ys ∧ (xs.length ≤ i ∨ ys.length ≤ i)⟩
theorem fp_upd {X : Cx} {pins : List (Addr × Obj)} {H : Hp} {b T : Addr} {o : HO} (f : FpOk X pins H b) (h : b ≠ T) : FpOk X pins (upd H T o) b := ⟨(upd_ne h).trans f.1, f.2⟩
theorem turn_ez {P : Program} {w : World} {K : PySem.W.Frag} {elts : List Expr} {kk : Nat} {tpos : Pos} {a b e z TI TO i1 i2 : Addr} (B : EzApart e z TI TO i1 i2) (D : ZipApart z TI TO i1 i2 a b) :
    Turn P w K (.Tuple elts kk tpos) (ItEz K a b) [e, z, TI, TO, i1, i2] e (fun i h => EzAt h e z TI TO i1 i2 a b i) where
  mem := by simp
  obj := fun i h st c hc => by
    obtain ⟨⟨old, he⟩, ⟨f0, f1, hz, _⟩, hI, ⟨_, _, hO⟩, ⟨o1, e1, _, d1⟩, ⟨o2, e2, _, d2⟩⟩ := st
    simp only [List.mem_cons, List.not_mem_nil, or_false] at hc
    rcases hc with rfl | rfl | rfl | rfl | rfl | rfl
    · exact ⟨_, he, fun v q => nomatch q⟩
    · exact ⟨_, hz, fun v q => nomatch q⟩
    · exact ⟨_, hI, fun v q => nomatch q⟩
    · exact ⟨_, hO, fun v q => nomatch q⟩
    · exact ⟨o1, e1, fun v q => by rw [d1] at q; cases q⟩
    · exact ⟨o2, e2, fun v q => by rw [d2] at q; cases q⟩
  keep := fun i h h' st k => by
    obtain ⟨⟨old, he⟩, ⟨f0, f1, hz, r⟩, hI, ⟨_, _, hO⟩, w1, w2⟩ := st
    exact ⟨⟨old, k e (by simp) _ he⟩, ⟨f0, f1, k z (by simp) _ hz, r⟩, k TI (by simp) _ hI, ⟨_, _, k TO (by simp) _ hO⟩, w1.at fun o q => k i1 (by simp) o q, w2.at fun o q => k i2 (by simp) o q⟩
  item := by
    intro X hP hw hK hc i pins s σ H E I hf st hg
    subst hP hw hK
    obtain ⟨xs, ys, x, y, hqx, hqy, hx, hy⟩ := hg
    obtain ⟨its, rv, p, _⟩ := I.tuple hqx
    obtain ⟨its2, rv2, p2, _⟩ := I.tuple hqy
    obtain ⟨u, hu, ru⟩ := rv.get hx
    obtain ⟨u2, hu2, ru2⟩ := rv2.get hy
    refine ez_next B D st p p2 (x := u) (y := u2) (by simpa using hu) (by simpa using hu2) fun h' tk out hsz keep => ?_
    have old : ∀ c ∈ [e, z, TI, TO, i1, i2], c < s.heap.objs.size := fun c hcm => by
      obtain ⟨⟨_, he⟩, hz, hI, ⟨_, _, hO⟩, ⟨_, e1, _⟩, ⟨_, e2, _⟩⟩ := st
      simp only [List.mem_cons, List.not_mem_nil, or_false] at hcm
      rcases hcm with rfl | rfl | rfl | rfl | rfl | rfl
      · exact Heap.lt_size he
      · exact hz.lt
      · exact Heap.lt_size hI
      · exact Heap.lt_size hO
      · exact Heap.lt_size e1
      · exact Heap.lt_size e2
    obtain ⟨⟨uu, he⟩, hz, hI, ⟨_, _, hO⟩, w1, w2, q1, q2⟩ := out
    refine ⟨_, rfl, wpAny_letOwnedTupleGo_enum (s := { s with heap := h', toks := tk }) he fun h2 he2 sb => ?_⟩
    have up : ∀ c o, c ≠ e → h'.get? c = some o → h2.get? c = some o := fun c o ce q => (sb.2 c ce).trans q
    have elt := old e (by simp)
    have n1 : s.heap.objs.size ≠ e := Nat.ne_of_gt elt
    have n2 : s.heap.objs.size + 1 ≠ e := Nat.ne_of_gt (Nat.lt_succ_of_lt elt)
    -- the pair alone
    have I1 : Inv X pins σ (upd H s.heap.objs.size (.tup [x, y])) { s with heap := s.heap.push { cls := .type "tuple", data := .seq #[u, u2] } } :=
      I.laid (t' := s.toks) (fun c o q => Heap.get?_push_of_some _ q) (Nat.le_refl _) ⟨by show 2 ≤ sizeLine; decide, [u, u2], .cons ru (.cons ru2 .nil), ⟨_, Heap.get?_push_size s.heap rfl, rfl, _, rfl⟩⟩
    have I2 : Inv X pins σ (upd (upd H s.heap.objs.size (.tup [x, y])) (s.heap.objs.size + 1) (.tup [.int (i : Nat), .ref s.heap.objs.size])) { s with heap := h2, toks := tk } := by
      refine I1.turnedNew (t' := tk) (ch := [e, z, TI, TO, i1, i2]) (fun c o hcm q => ?_) (fun c hcm => fp_upd (hf c hcm) (Nat.ne_of_lt (old c hcm))) ?_ ?_
      · have hc0 : c ≠ e := fun q => hcm (by simp [q])
        by_cases hcn : c = s.heap.objs.size
        · subst hcn
          have q' := Heap.get?_push_size s.heap (o := { cls := .type "tuple", data := .seq #[u, u2] }) rfl
          rw [q'] at q
          cases q
          exact up _ _ hc0 q1
        · refine up _ _ hc0 (keep c o hc0 (fun q => hcm (by simp [q])) (fun q => hcm (by simp [q])) (fun q => hcm (by simp [q])) (fun q => hcm (by simp [q])) ?_)
          have lt : c < s.heap.objs.size := by
            have := Heap.lt_size q
            rw [Heap.size_push] at this
            exact Nat.lt_of_le_of_ne (Nat.le_of_lt_succ this) hcn
          exact push_old lt q
      · show (s.heap.push _).objs.size ≤ _
        rw [Heap.size_push]
        exact Nat.le_refl _
      · exact ⟨by show 2 ≤ sizeLine; decide, [.int i s.toks, .ref s.heap.objs.size], .cons ⟨_, rfl⟩ (.cons rfl .nil), ⟨_, up _ _ n2 q2, rfl, _, rfl⟩⟩
    have f1 : H s.heap.objs.size = none := I.hok.fresh (Nat.le_refl _)
    have f2 : H (s.heap.objs.size + 1) = none := I.hok.fresh (Nat.le_succ _)
    refine ⟨.ref (s.heap.objs.size + 1), _, I2, rfl, ⟨_, _, x, y, rfl, f1, f2, Nat.succ_ne_self _, rfl, fun l hl => by rw [I.tuple_inj hl hqx]; exact hx, fun l hl => by rw [I.tuple_inj hl hqy]; exact hy⟩, ?_, fun c hcm => ?_⟩
    · refine ⟨⟨uu, he2⟩, ?_, up _ _ B.TI.symm hI, ⟨_, _, up _ _ B.TO.symm hO⟩, w1.at fun o q => up _ o B.i1.symm q, w2.at fun o q => up _ o B.i2.symm q⟩
      obtain ⟨f0, f1, q, r⟩ := hz
      exact ⟨f0, f1, up _ _ B.z.symm q, r⟩
    · have lt := old c hcm
      rw [upd_ne (Nat.ne_of_lt (Nat.lt_succ_of_lt lt)), upd_ne (Nat.ne_of_lt lt)]
      exact (hf c hcm).1
  done := by
    intro X hP hw hK hc i pins s σ H E I hf st hg
    subst hP hw hK
    obtain ⟨xs, ys, hqx, hqy, hend⟩ := hg
    obtain ⟨its, rv, p, _⟩ := I.tuple hqx
    obtain ⟨its2, rv2, p2, _⟩ := I.tuple hqy
    have l1 := rv.length
    have l2 := rv2.length
    refine ez_end (I.ok.hd hc) B D st p p2 ?_ fun h' hk => ⟨rfl, I.turnedL (t' := s.toks) (ch := [e, z, TI, TO, i1, i2]) (fun c o hb q =>
      hk c o (fun r => hb (by simp [r])) (fun r => hb (by simp [r])) (fun r => hb (by simp [r])) (fun r => hb (by simp [r])) q) hf⟩
    rcases hend with q | q
    · exact .inl (by simp; omega)
    · exact .inr (by simp; omega)
  self := fun A i s Q E st h => by
    obtain ⟨old, he⟩ := st.en
    exact wpAny_pyIter_enum he h
def iEz (K : PySem.W.Frag) (ta : TA) : TI := fun σ H R => ta σ H fun vs H1 => ∃ a b xs ys, vs = [.ref a, .ref b] ∧ SqT K H1 a xs ∧ SqT K H1 b ys ∧ R (ItEz K a b) H1
theorem pi_ez {X : Cx} {e1 e2 : Expr} {ta : TA} {p p2 pos pos2 tpos : Pos} {elts : List Expr} {kk : Nat} (hg : Gl X "enumerate") (hm : X.mg "enumerate" = none) (hg2 : Gl X "zip") (hm2 : X.mg "zip" = none) (ha : PA X [e1, e2] ta)
    (hs0 : starEach [.Call (.Name "zip" p2) [e1, e2] [] pos2] X.env = [(false, eval (.Call (.Name "zip" p2) [e1, e2] [] pos2) X.env)] := by rfl)
    (hs : starEach [e1, e2] X.env = (false, eval e1 X.env) :: starEach [e2] X.env := by rfl) (hpl : (backTo pos2 (starEach [e2] X.env)).any (·.1) = false := by rfl) :
    PI X (.Tuple elts kk tpos) (.Call (.Name "enumerate" p) [.Call (.Name "zip" p2) [e1, e2] [] pos2] [] pos) (iEz X.K ta) := by
  refine ⟨fun pins s σ H R I h => ?_⟩
  refine Call_ (ld_blt I hg hm boot_enumerate (PyProof.Rows.callWith_type1 (PyProof.Rows.args_cons ?_ hs0) hs0 rfl))
  refine Call_ (ld_blt I hg2 hm2 PyProof.Rows.boot_zip (PyProof.Rows.callWith_type1 (thn (ha.run pos2 pins s σ H _ I h) fun us s1 ⟨vs, H1, I1, r1, q1⟩ => ?_) hs hpl))
  obtain ⟨a, b, xs, ys, ex, hqx, hqy, q⟩ := q1
  subst ex
  cases r1 with
  | cons r rr =>
    cases rr with
    | cons r' rr =>
      cases rr
      cases r
      cases r'
      obtain ⟨its, rv, p1, _⟩ := I1.tuple hqx
      obtain ⟨its2, rv2, p2, _⟩ := I1.tuple hqy
      obtain ⟨o1, so1, _⟩ := id p1
      obtain ⟨o2, so2, _⟩ := id p2
      have la : a < s1.heap.objs.size := Heap.lt_size so1
      have lb : b < s1.heap.objs.size := Heap.lt_size so2
      refine call_zipT (show s1.heap.IsTuple a its.toArray from p1) (show s1.heap.IsTuple b its2.toArray from p2) fun h' hz hTI hTO w1 w2 hsz hk => PyProof.Rows.args_nil ?_
      refine call_enumZ (s := { s1 with heap := h' }) hz fun h2 he hsz2 hk2 => wpAny_pyIter_enum he ?_
      replace hsz2 : h2.objs.size = h'.objs.size + 1 := hsz2
      have k : ∀ c o, s1.heap.get? c = some o → h2.get? c = some o := fun c o q => hk2 c o (hk c o q)
      have I2 : Inv X pins σ H1 { s1 with heap := h2 } := I1.kept (t' := s1.toks) k
      have eN : h'.objs.size = s1.heap.objs.size + 5 := hsz
      replace he : IsEnum h2 (s1.heap.objs.size + 5) (s1.heap.objs.size + 4) 0 .none := by
        have he : IsEnum h2 h'.objs.size (s1.heap.objs.size + 4) 0 .none := he
        rw [eN] at he; exact he
      have D := PySem.W.ktu_apart s1.heap.objs.size a b la lb
      have B : EzApart (s1.heap.objs.size + 5) (s1.heap.objs.size + 4) (s1.heap.objs.size + 2) (s1.heap.objs.size + 3) s1.heap.objs.size (s1.heap.objs.size + 1) := by
        constructor <;> (intro q; have q : (s1.heap.objs.size + 5 : Nat) = _ := q; omega)
      show PIE X pins σ _ R (.ref h'.objs.size) _
      rw [eN]
      refine ⟨s1.heap.objs.size + 5, [s1.heap.objs.size + 5, s1.heap.objs.size + 4, s1.heap.objs.size + 2, s1.heap.objs.size + 3, s1.heap.objs.size, s1.heap.objs.size + 1], _, _, H1, rfl, I2, turn_ez (elts := elts) (kk := kk) (tpos := tpos) B D, ?_, fun c hcm => ?_, q⟩
      · exact ⟨⟨_, he⟩, ⟨_, _, hk2 _ _ hz, .inl rfl⟩, hk2 _ _ hTI, ⟨_, _, hk2 _ _ hTO⟩, w1.at fun o q => hk2 _ o q, w2.at fun o q => hk2 _ o q⟩
      · have le : s1.heap.objs.size ≤ c := by
          simp only [List.mem_cons, List.not_mem_nil, or_false] at hcm
          rcases hcm with rfl | rfl | rfl | rfl | rfl | rfl <;> first | exact Nat.le_add_right _ _ | exact Nat.le_refl _
        exact I1.fpOk le (I1.hok.fresh le)
theorem enumD_at {zs : List D} {i : Nat} {d : D} (h : zs[i]? = some d) : (enumD zs)[i]? = some (.tuple [.int ((i : Nat) : Int), d]) := by
  unfold enumD pairsD
  rw [List.getElem?_zipWith, h, rngD_at (List.getElem?_eq_some_iff.mp h).1, Int.zero_add]
theorem ei_ez {K : Fg} {en : En} {xs ys : List D} {t : TA} (h : EvA K t en [.tuple xs, .tuple ys]) : EvI K (iEz K t) en (enumD (pairsD xs ys)) := fun A0 Hs A H σ I R k =>
  h A0 Hs A H σ I _ fun ws H1 g1 d1 => by
    cases d1 with
    | cons q t =>
      cases t with
      | cons q2 t =>
        cases t
        obtain ⟨a, vs, rfl, hs, hd⟩ := dp_tup q
        obtain ⟨b, us, rfl, hs2, hd2⟩ := dp_tup q2
        have l1 := dpa_len hd
        have l2 := dpa_len hd2
        have ln : (enumD (pairsD xs ys)).length = min xs.length ys.length := by simp [enumD, pairsD, rngD_len]
        refine ⟨a, b, vs, us, rfl, st_mono hide_sub hs, st_mono hide_sub hs2, k _ H1 g1 ⟨fun A1 H2 i l sm hi => ?_, fun A1 H2 l sm => ?_, fun A1 H2 i d x H3 l sm hi y => ?_⟩⟩
        · rw [ln] at hi
          exact ⟨vs, us, _, _, st_mono hide_sub (st_mono sm hs), st_mono hide_sub (st_mono sm hs2), List.getElem?_eq_getElem (by omega), List.getElem?_eq_getElem (by omega)⟩
        · rw [ln]
          refine ⟨vs, us, st_mono hide_sub (st_mono sm hs), st_mono hide_sub (st_mono sm hs2), ?_⟩
          rw [l1, l2]; omega
        · have hi' := (List.getElem?_eq_some_iff.mp hi).1
          rw [ln] at hi'
          obtain ⟨T1, T2, v1, v2, rfl, f1, f2, ne, rfl, h1, h2⟩ := y
          obtain ⟨d1, e1, q1⟩ := dpa_get' hd (h1 vs (st_mono hide_sub (st_mono sm hs)))
          obtain ⟨d2, e2, q2⟩ := dpa_get' hd2 (h2 us (st_mono hide_sub (st_mono sm hs2)))
          have ep : (pairsD xs ys)[i]? = some (.tuple [d1, d2]) := by
            unfold pairsD
            rw [List.getElem?_zipWith, e1, e2]
          have ee : (enumD (pairsD xs ys))[i]? = some (.tuple [.int ((i : Nat) : Int), .tuple [d1, d2]]) := by
            exact enumD_at ep
          rw [ee] at hi
          cases hi
          have g1 := Grow.new (o := .tup [v1, v2]) l f1
          have f2' : upd H2 T1 (.tup [v1, v2]) T2 = none := by rw [upd_ne ne]; exact f2
          have g2 := Grow.new (o := .tup [.int (i : Nat), .ref T1]) (g1.live l) f2'
          have p1 : Dq K (hide A1 (upd H2 T1 (.tup [v1, v2]))) (.ref T1) (.tuple [d1, d2]) :=
            .tup (.inl (.inl (hide_new l f1))) (.cons (dp_mono (sm.trans g1.ex) q1) (.cons (dp_mono (sm.trans g1.ex) q2) .nil))
          exact ⟨g1.trans g2, .tup (.inl (.inl (hide_new (g1.live l) f2'))) (.cons (.int _) (.cons (dp_mono g2.ex p1) .nil))⟩
theorem ev_bits {K : Fg} {en : En} {te : TE} {i : Int} (h : EvD K te en (.int i)) : EvD K (tBits te) en (.int (Builtin.Int.intBits i : Nat)) := fun A0 Hs A H σ I Q k =>
  h A0 Hs A H σ I _ fun v H1 g1 d1 => ⟨i, dp_int d1, k _ H1 g1 (.int _)⟩
theorem gd_weak {K : Fg} {g : TG} {d : D} {e e' f : En} (w : Weak e e') (h : GD K g d e' f) : GD K g d e f := fun A0 Hs A H σ x I hd Q k => h A0 Hs A H σ x (I.weak w) hd Q k
end HF

set_option Elab.async false
set_option linter.all false
set_option maxRecDepth 100000
set_option maxHeartbeats 2000000
/-! HF7: generator expressions whose elements may do anything: told by what stands at each turn. -/
namespace GJ
open PySem PySem.Spec
/-- no exception -/
abbrev noX : Value → Shared → Prop := fun _ _ => False
section
variable {P : Program} {w : World}
/-- n items, St what stands ahead of each, Z what stands behind -/
structure WalksJ (P : Program) (w : World) (A : Around) (I : Addr) (n : Nat) (Fi : Nat → Value → Prop) (St : Nat → Shared → Prop) (Z : Shared → Prop) : Prop where
  item : ∀ i s, i < n → St i s → wpAny (model P w) A (pyNext (.ref I)) (fun r s1 => ∃ v, r = some v ∧ Fi i v ∧ St (i + 1) s1) noX s
  done : ∀ s, St n s → wpAny (model P w) A (pyNext (.ref I)) (fun r s1 => r = none ∧ Z s1) noX s
  left : ∀ i s, St i s → Z s
  self : ∀ i s, St i s → wpAny (model P w) A (pyIter (.ref I)) (fun v s1 => v = .ref I ∧ s1 = s) noX s
theorem all_loopJ {A : Around} {R : Result → Shared → Prop} {I : Addr} {n : Nat} {Fi : Nat → Value → Prop} {St : Nat → Shared → Prop} {Z : Shared → Prop} (W : WalksJ P w A.in1 I n Fi St Z) (tr : Nat → Bool) (htr : TruthOf P w A.in1 Fi tr) :
    ∀ (k i : Nat) (s : Shared), n - i = k → i ≤ n → St i s → (∀ s', Z s' → R (.ok (.ret (.bool (((List.range n).drop i).all tr)))) s') → codeAny (model P w) A (.builtin "all.loop" ⟨[.ref I], []⟩) R s := by
  intro k
  induction k with
  | zero =>
    intro i s hk hi st hR
    obtain rfl : i = n := by omega
    refine codeAny_builtin F.entry_all_loop ?_
    rw [Around.under_plainId F.plain_all_loop _]
    show wpAny _ A.in1 (pyNext (.ref I) >>= _) _ _ s
    refine wpAny_bind (wpAny_mono (W.done s st) (fun r s' h => ?_) fun _ _ e => e.elim)
    obtain ⟨rfl, hz⟩ := h
    refine wpAny_bind (wpAny_rule (wpAny_pure ?_))
    have q := hR s' hz
    rw [List.drop_of_length_le (by simp)] at q
    exact q
  | succ k ih =>
    intro i s hk hi st hR
    have lt : i < n := by omega
    have hd : (List.range n).drop i = i :: (List.range n).drop (i + 1) := by
      rw [List.drop_eq_getElem_cons (by simpa using lt)]; simp
    refine codeAny_builtin F.entry_all_loop ?_
    rw [Around.under_plainId F.plain_all_loop _]
    show wpAny _ A.in1 (pyNext (.ref I) >>= _) _ _ s
    refine wpAny_bind (wpAny_mono (W.item i s lt st) (fun r s' h => ?_) fun _ _ e => e.elim)
    obtain ⟨v, rfl, hF, st'⟩ := h
    refine wpAny_bind (wpAny_holding (htr i v _ _ _ hF ?_))
    refine wpAny_bind (wpAny_letGo ?_)
    cases hb : tr i with
    | true =>
      simp only [if_true]
      refine wpAny_pure ⟨plainId_quiet F.plain_all_loop _, ih (i + 1) _ (by omega) lt st' fun s2 hz => ?_⟩
      have q := hR s2 hz
      rw [hd, List.all_cons, hb, Bool.true_and] at q
      exact q
    | false =>
      simp only [Bool.false_eq_true, if_false]
      refine wpAny_bind (wpAny_rule (wpAny_pure ?_))
      have q := hR s' (W.left _ _ st')
      rw [hd, List.all_cons, hb, Bool.false_and] at q
      exact q
theorem call_allJ {A : Around} {E : Value → Shared → Prop} {s : Shared} {x : Value} {Q : Value → Shared → Prop}
    (h : wpAny (model P w) A.in1 (pyIter x) (fun it s2 => ∃ I n Fi St Z tr, it = .ref I ∧ WalksJ P w A.in1 I n Fi St Z ∧ St 0 s2 ∧ TruthOf P w A.in1 Fi tr ∧ ∀ s', Z s' → Q (.bool ((List.range n).all tr)) s') E s) :
    wpAny (model P w) A (call (.builtin "all") [x]) Q E s := by
  refine call_function_tree F.kind_all F.plain_all F.entry_all (F.args_all1 _) ?_
  unfold Builtin.«all»
  refine wpAny_bind (m := oneArg "all" _) (wpAny_pure ?_)
  refine wpAny_bind (wpAny_mono h (fun it s2 h2 => ?_) fun _ _ e => e)
  obtain ⟨I, n, Fi, St, Z, tr, rfl, W, st, htr, hQ⟩ := h2
  exact wpAny_pure ⟨plainId_quiet F.plain_all_loop _, all_loopJ W tr htr n 0 s2 rfl (Nat.zero_le _) st fun s' hz => by simpa using hQ s' hz⟩
/-- the turns of a generator expression: next item, store, element -/
structure Turns (P : Program) (w : World) (A : Around) (elt tg : Expr) (cenv : Env) (I : Addr) (n : Nat) (Fi : Nat → Value → Prop) (J : Nat → Shared → Prop) (Z : Shared → Prop) (Rel : Shared → Shared → Prop) : Prop where
  rtrans : ∀ a b c, Rel a b → Rel b c → Rel a c
  rrefl : ∀ a, Rel a a
  turn : ∀ (i : Nat) (s : Shared), i < n → J i s →
    wpAny (model P w) (A.deeper cenv) (pyNext (.ref I)) (fun r s1 => ∃ v, r = some v ∧ wpAny (model P w) (A.deeper cenv) (letOwnedTupleGo tg (.ref I) v) (fun _ s2 => wpAny (model P w) (A.deeper cenv) (assign tg cenv v) (fun _ s3 =>
      wpAny (model P w) (A.deeper cenv) (eval elt cenv) (fun y s4 => Fi i y ∧ J (i + 1) s4 ∧ Rel s s4) noX s3) noX s2) noX s1) noX s
  stop : ∀ (s : Shared), J n s → wpAny (model P w) (A.deeper cenv) (pyNext (.ref I)) (fun r s1 => r = none ∧ Z s1 ∧ Rel s s1) noX s
  self : ∀ (s : Shared), J 0 s → wpAny (model P w) (A.deeper cenv) (pyIter (.ref I)) (fun v s1 => v = .ref I ∧ s1 = s) noX s
def prJ (n : Nat) (Fi : Nat → Value → Prop) (J : Nat → Shared → Prop) (Rel : Shared → Shared → Prop) : Protocol := fun m s0 v s kap =>
  Fi (n - 1 - m) v ∧ Rel s0 s ∧ J (n - m) s ∧ ∀ s2 : Shared, J (n - m) s2 → kap (.send .none) s2
def enJ (Z : Shared → Prop) (Rel : Shared → Shared → Prop) : GenEnd := fun m s0 r s1 => r = .ok .next ∧ (m = 0 ∧ Rel s0 s1 ∧ Z s1)
theorem seg_turns {A : Around} {elt tg iter : Expr} {cenv : Env} {scope : Scope} {pos : Pos} {I : Addr} {n : Nat} {Fi : Nat → Value → Prop} {J : Nat → Shared → Prop} {Z : Shared → Prop} {Rel : Shared → Shared → Prop}
    (hh : A.handled = none) (hco : cenv.scope.isCoroutine = false) (T : Turns P w A elt tg cenv I n Fi J Z Rel) :
    ∀ (k i : Nat) (s0 s : Shared), n - i = k → i ≤ n → J i s → Rel s0 s →
      Seg (model P w) A (enJ Z Rel) (prJ n Fi J Rel) (n - i) s0 (.compLoop (.GeneratorExp elt [⟨tg, iter, [], 0⟩] scope pos) 0 (.ref I) .none cenv)
        ((model P w).den (.compLoop (.GeneratorExp elt [⟨tg, iter, [], 0⟩] scope pos) 0 (.ref I) .none cenv)) [] s := by
  intro k
  induction k with
  | zero =>
    intro i s0 s hk hi hJ hr
    obtain rfl : i = n := by omega
    show Seg _ A _ _ _ s0 _ ((compTurn (.GeneratorExp elt [⟨tg, iter, [], 0⟩] scope pos) 0 (.ref I) .none cenv).onRaise (leaving cenv)) [] s
    rw [compTurn_gen, Sem.onRaise_eq_wrap]
    refine seg_bind_wrap (wpAny_standAt ?_)
    refine seg_bind_wrap (wpAny_mono (T.stop s hJ) (fun r s1 h => ?_) fun _ _ e => e.elim)
    obtain ⟨rfl, hz, hr2⟩ := h
    exact seg_end (.ok .next) ⟨rfl, Nat.sub_self _, T.rtrans _ _ _ hr hr2, hz⟩
  | succ k ih =>
    intro i s0 s hk hi hJ hr
    have lt : i < n := by omega
    show Seg _ A _ _ _ s0 _ ((compTurn (.GeneratorExp elt [⟨tg, iter, [], 0⟩] scope pos) 0 (.ref I) .none cenv).onRaise (leaving cenv)) [] s
    rw [compTurn_gen, Sem.onRaise_eq_wrap]
    refine seg_bind_wrap (wpAny_standAt ?_)
    refine seg_bind_wrap (wpAny_mono (T.turn i s lt hJ) (fun r s1 h => ?_) fun _ _ e => e.elim)
    obtain ⟨v, rfl, h⟩ := h
    refine seg_bind_wrap (wpAny_mono h (fun _ s2 h => ?_) fun _ _ e => e.elim)
    refine seg_bind_wrap (wpAny_mono h (fun _ s3 h => ?_) fun _ _ e => e.elim)
    simp only [List.forIn_nil]
    refine seg_bind_wrap (wpAny_pure ?_)
    simp only [if_true]
    have hy : ∀ v, yieldOut cenv v = yieldValue v := fun v => by simp only [yieldOut, hco, Bool.false_eq_true, if_false]
    simp only [hy]
    rw [Sem.bind_eq_wrap', Sem.bind_eq_wrap', Sem.wrap_wrap, Sem.wrap_wrap]
    refine seg_wrap (wpAny_mono h (fun y s4 h => ?_) fun _ _ e => e.elim)
    obtain ⟨hF, hJ4, hr4⟩ := h
    have em : n - i = (n - (i + 1)) + 1 := by omega
    rw [em]
    have e1 : n - 1 - (n - (i + 1)) = i := by omega
    have e2 : n - (n - (i + 1)) = i + 1 := by omega
    refine seg_at (seg_yield rfl rfl rfl ⟨by rw [e1]; exact hF, T.rtrans _ _ _ hr hr4, by rw [e2]; exact hJ4, fun s5 hJ5 => ?_⟩)
    rw [e2] at hJ5
    exact seg_again rfl (ih (i + 1) s5 s5 (by omega) lt hJ5 (T.rrefl _))
theorem seg_startJ {A : Around} {elt tg iter : Expr} {cenv : Env} {scope : Scope} {pos : Pos} {I : Addr} {n : Nat} {Fi : Nat → Value → Prop} {J : Nat → Shared → Prop} {Z : Shared → Prop} {Rel : Shared → Shared → Prop}
    (hh : A.handled = none) (hco : cenv.scope.isCoroutine = false) (T : Turns P w A elt tg cenv I n Fi J Z Rel) (s0 s : Shared) (hJ : J 0 s) (hr : Rel s0 s) :
    Seg (model P w) A (enJ Z Rel) (prJ n Fi J Rel) n s0 (.compStart (.GeneratorExp elt [⟨tg, iter, [], 0⟩] scope pos) 0 (.ref I) .none cenv)
      ((model P w).den (.compStart (.GeneratorExp elt [⟨tg, iter, [], 0⟩] scope pos) 0 (.ref I) .none cenv)) [] s := by
  have loop := seg_turns (iter := iter) (scope := scope) (pos := pos) hh hco T n 0 s0 s (Nat.sub_zero _) (Nat.zero_le _) hJ hr
  show Seg _ A _ _ _ s0 _ ((compStart (.GeneratorExp elt [⟨tg, iter, [], 0⟩] scope pos) 0 (.ref I) .none cenv).onRaise (leaving cenv)) [] s
  unfold compStart
  rw [Sem.onRaise_eq_wrap]
  show Seg _ A _ _ _ s0 _ ((ask >>= _).wrap _ _ _ _) [] s
  refine seg_bind_wrap (wpAny_askSetting ?_)
  split
  · exact seg_again rfl loop
  · refine seg_bind_wrap (wpAny_rule (seg_bind_wrap (wpAny_standAt (seg_bind_wrap (wpAny_mono (T.self s hJ) (fun v s1 h => ?_) fun _ _ e => e.elim)))))
    obtain ⟨rfl, rfl⟩ := h
    exact seg_again rfl loop
/-- what the states told by J stay true under while the generator at a sleeps -/
structure Stays (J : Nat → Shared → Prop) (Z : Shared → Prop) (Rel : Shared → Shared → Prop) (a : Addr) : Prop where
  gen : ∀ j s g x, GenState.bare x = true → J j s → J j (s.setGen g x)
  zgen : ∀ s g x, GenState.bare x = true → Z s → Z (s.setGen g x)
  zheap : ∀ (s : Shared) h', Z s → (∀ b o, s.heap.get? b = some o → h'.get? b = some o) → Z { s with heap := h' }
  jz : ∀ j s, J j s → Z s
  size : ∀ s s', Rel s s' → s.gens.size ≤ s'.gens.size
  obj : ∀ s s' o, Rel s s' → s.heap.get? a = some o → s'.heap.get? a = some o
  lim : ∀ s s', Rel s s' → s.heap.NoLimit → s'.heap.NoLimit
def GenJ (P : Program) (w : World) (A : Around) (a : Addr) (g n : Nat) (Fi : Nat → Value → Prop) (J : Nat → Shared → Prop) (Z : Shared → Prop) (Rel : Shared → Shared → Prop) (j : Nat) (s : Shared) : Prop :=
  s.heap.IsGen a g ∧ s.heap.NoLimit ∧ J j s ∧ ∃ gs, s.gens[g]? = some gs ∧ ∀ s2, J j s2 → gs.Goes (model P w) A.in1 (enJ Z Rel) (prJ n Fi J Rel) (n - j) (.send .none) s2
theorem setGen_in {s : Shared} {g : Nat} {x : GenState} (h : g < s.gens.size) : (s.setGen g x).gens[g]? = some x := setGen_self (gs := s.gens[g]) (Array.getElem?_eq_getElem h)
theorem gens_lt {s : Shared} {g : Nat} {gs : GenState} (h : s.gens[g]? = some gs) : g < s.gens.size := (Array.getElem?_eq_some_iff.mp h).1
theorem setGen_size {s : Shared} {g : Nat} {x : GenState} : (s.setGen g x).gens.size = s.gens.size := by simp [Shared.setGen]
theorem walksJ_gen {A : Around} {a : Addr} {g n : Nat} {Fi : Nat → Value → Prop} {J : Nat → Shared → Prop} {Z : Shared → Prop} {Rel : Shared → Shared → Prop} (hh : A.handled = none) (hroom : A.depth < recursionLimit) (S : Stays J Z Rel a) :
    WalksJ P w A a n Fi (GenJ P w A a g n Fi J Z Rel) Z where
  item := fun i s lt st => by
    obtain ⟨hg, hl, hJ, gs, hgs, hgo⟩ := st
    obtain ⟨m, hm⟩ : ∃ m, n - i = m + 1 := ⟨n - i - 1, by omega⟩
    rw [hm] at hgo
    refine wpAny_pyNext_genexpQ (P := fun m s0 s1 => m = 0 ∧ Rel s0 s1 ∧ Z s1) hh hl hroom hg hgs (hgo _ (S.gen _ _ _ _ rfl hJ)) (fun v s1 gs2 hb hv => ?_) (fun s1 hp h' hk => absurd hp.1 (Nat.succ_ne_zero m))
    obtain ⟨hF, hr, hJ1, hk⟩ := hv
    have e1 : n - 1 - (m + 1 - 1) = i := by omega
    have e2 : n - (m + 1 - 1) = i + 1 := by omega
    have e3 : n - (i + 1) = m := by omega
    rw [e1] at hF
    rw [e2] at hJ1
    have lt2 : g < s1.gens.size := by
      have := S.size _ _ hr
      rw [setGen_size] at this
      exact Nat.lt_of_lt_of_le (gens_lt hgs) this
    refine ⟨v, rfl, hF, ?_, S.lim (s.setGen g .running) s1 hr hl, S.gen _ _ _ _ hb hJ1, gs2, setGen_in lt2, fun s2 h2 => ?_⟩
    · obtain ⟨o, nm, qn, ho, r⟩ := hg
      exact ⟨o, nm, qn, S.obj (s.setGen g .running) s1 _ hr ho, r⟩
    · rw [e3]
      exact hk s2 (by rw [e2]; exact h2)
  done := fun s st => by
    obtain ⟨hg, hl, hJ, gs, hgs, hgo⟩ := st
    rw [Nat.sub_self] at hgo
    refine wpAny_pyNext_genexpQ (P := fun m s0 s1 => m = 0 ∧ Rel s0 s1 ∧ Z s1) hh hl hroom hg hgs (hgo _ (S.gen _ _ _ _ rfl hJ)) (fun v s1 gs2 hb hv => ?_) (fun s1 hp h' hk => ?_)
    · obtain ⟨_, _, hJ1, hk⟩ := hv
      exact (hk s1 hJ1).elim
    · obtain ⟨_, hr, hz⟩ := hp
      exact ⟨rfl, S.zheap _ h' (S.zgen _ _ _ rfl hz) hk⟩
  left := fun i s st => S.jz _ _ st.2.2.1
  self := fun i s st => wpAny_pyIter_gen st.1 ⟨rfl, rfl⟩
theorem WalksJ.of_in1 {A : Around} {I : Addr} {n : Nat} {Fi : Nat → Value → Prop} {St : Nat → Shared → Prop} {Z : Shared → Prop} (W : WalksJ P w A.in1 I n Fi St Z) : WalksJ P w A I n Fi St Z where
  item := fun i s lt st => wpAny_of_in1 (W.item i s lt st)
  done := fun s st => wpAny_of_in1 (W.done s st)
  left := W.left
  self := fun i s st => wpAny_of_in1 (W.self i s st)
theorem isGen_new {h : Heap} {N g : Nat} {u v : Value} (e : h.objs.size = N) : (h.push { cls := .type "generator", data := .fields #[.int g 0, u, v] }).IsGen N g := by
  subst e
  exact ⟨_, u, v, Heap.get?_push_size _ rfl, rfl, rfl, rfl⟩
/-- a generator expression with one for and no test is made -/
theorem make_genJ {A : Around} {E : Value → Shared → Prop} {s : Shared} {env : Env} {elt tg iter : Expr} {scope : Scope} {cl : List (Str × Addr)} {pos : Pos} {Q : Value → Shared → Prop}
    (hh : A.handled = none) (hco : scope.isCoroutine = false) (hclos : closureFor scope env = pure cl) (hcell : ∀ y ∈ scope.names, y.2 ≠ .cell) (h0 : scope.names.lookup (".0" : Str) = some NameKind.local)
    (hkind : scope.kind = .function) (hroom : A.depth < recursionLimit)
    (h : wpAny (model P w) A (eval iter env) (fun xv s1 => wpAny (model P w) A (pyIter xv) (fun it s2 => s2.heap.NoLimit ∧
      wpAny (model P w) A (genexprCode env pos (env.qual ++ "<genexpr>") scope) (fun code s3 => wpAny (model P w) A (builtinsFor env.globals env.builtins) (fun bi s4 => s4.heap.NoLimit ∧
        ∀ (h5 : Heap) (tk : Nat) (g0 : GenState), g0.bare = true → h5.Ns s4.heap.objs.size (fun y => if y = ".0" then some it else none) → (∀ b o, s4.heap.get? b = some o → h5.get? b = some o) → h5.objs.size = s4.heap.objs.size + 2 →
          h5.IsGen (s4.heap.objs.size + 1) s4.gens.size →
          ∃ I n Fi J Z Rel, it = .ref I ∧ Stays J Z Rel (s4.heap.objs.size + 1) ∧ Turns P w A.in4.in1 elt tg (genEnv scope cl s4.heap.objs.size code bi env) I n Fi J Z Rel ∧ J 0 { s4 with gens := s4.gens.push g0, toks := tk, heap := h5 } ∧
            (WalksJ P w A.in4 (s4.heap.objs.size + 1) n Fi (GenJ P w A.in4 (s4.heap.objs.size + 1) s4.gens.size n Fi J Z Rel) Z → GenJ P w A.in4 (s4.heap.objs.size + 1) s4.gens.size n Fi J Z Rel 0 { s4 with gens := s4.gens.push g0, toks := tk, heap := h5 } →
              Q (.ref (s4.heap.objs.size + 1)) { s4 with gens := s4.gens.push g0, toks := tk, heap := h5 })) E s3) E s2) E s1) E s)
    (hs : ∀ x, genFold iter env x = pure x) : wpAny (model P w) A (eval (.GeneratorExp elt [⟨tg, iter, [], 0⟩] scope pos) env) Q E s := by
  refine wpAny_GeneratorExp_make hco hclos hcell h0 hkind hroom (wpAny_mono h (fun xv s1 k1 => wpAny_mono k1 (fun it s2 k2 => ⟨k2.1, wpAny_mono k2.2 (fun code s3 k3 => wpAny_mono k3 (fun bi s4 k4 => ?_)
    fun _ _ e => e) fun _ _ e => e⟩) fun _ _ e => e) fun _ _ e => e) hs
  obtain ⟨hl4, k⟩ := k4
  intro h' hn hs'
  have hsz : h'.objs.size = s4.heap.objs.size + 1 := by rw [hs'.1, Heap.size_push]
  have keep : ∀ b o, s4.heap.get? b = some o → h'.get? b = some o := fun b o e => hs'.extBut b o (Nat.ne_of_lt (Heap.lt_size e)) (Heap.get?_push_of_some _ e)
  rw [hsz]
  obtain ⟨I, n, Fi, J, Z, Rel, rfl, S, T, hJ, hQ⟩ := k _ (s4.toks + 1 + 1 + 1) (.fresh (.compStart (.GeneratorExp elt [⟨tg, iter, [], 0⟩] scope pos) 0 it .none (genEnv scope cl s4.heap.objs.size code bi env))) rfl (hn.push _) (fun b o e => Heap.get?_push_of_some _ (keep b o e)) (by rw [Heap.size_push, hsz])
    (isGen_new hsz)
  refine hQ (walksJ_gen hh hroom S) ⟨?_, ?_, hJ, _, Array.getElem?_push_size .., fun s2 h2 => ⟨rfl, ?_⟩⟩
  · exact isGen_new hsz
  · exact hl4.keeps fun b o e => Heap.get?_push_of_some _ (keep b o e)
  · exact seg_startJ (A := A.in4.in1) hh hco T s2 s2 h2 (T.rrefl _)
end
end GJ

set_option Elab.async false
set_option linter.all false
set_option maxRecDepth 100000
set_option maxHeartbeats 2000000
/-! HF8: all(..), any(..) of tests of a text's signs; defs whose code object is known. -/
namespace HF
open PySem L2 PySem.Spec PyProof.Rows
theorem grow_tabbed {A : Addr → Bool} {H H2 : Hp} {P : Addr} (hA : A P = false) (t : GxR.TabG H P) (b : GxR.Tabbed P H H2) : Grow A H H2 := by
  obtain ⟨ps, e, t⟩ := t
  obtain ⟨t2, q⟩ := b
  refine ⟨⟨fun a o n h => ?_, fun R h => ?_, fun a n => ?_⟩, fun p hp => q p fun z => by rw [z, hA] at hp; cases hp⟩
  · obtain ⟨h1, h2⟩ := hide_some h
    have hne : a ≠ P := fun z => by
      rw [z, e] at h2
      cases h2
      cases n
    rw [hide_out h1, q a hne]; exact h2
  · obtain ⟨h1, h2⟩ := hide_tab h
    refine tab_hide h1 ?_
    by_cases z : R = P
    · rw [z]; exact t2
    · obtain ⟨qs, e3, t3⟩ := h2
      exact ⟨qs, by rw [q R z]; exact e3, t3⟩
  · obtain ⟨h1, h2⟩ := hide_th n
    refine hide_in h1 ?_
    by_cases z : a = P
    · obtain ⟨qs, e3, _⟩ := t2
      rw [z, e3]; exact fun y => by cases y
    · rw [q a z]; exact h2
section
variable {K : Fg} {en : En} {te : TE} {P : Addr} {pb : Nat → Bool} {z : Str}
theorem ev_allS (hT : K.T P) (h : EvD K te en (.str z)) : EvD K (GxR.tAllS P pb te) en (.bool (z.cps.toList.all pb)) := fun A0 Hs A H σ I Q k =>
  h A0 Hs A H σ I _ fun v H1 g1 d1 => by
    obtain ⟨hA, t⟩ := hide_tab ((I.grow g1).tabs P hT)
    exact ⟨z, dp_str d1, t, fun H2 b => k _ H2 (g1.trans (grow_tabbed hA t b)) (.bl _)⟩
theorem ev_anyS (hT : K.T P) (h : EvD K te en (.str z)) : EvD K (GxR.tAnyS P pb te) en (.bool (z.cps.toList.any pb)) := fun A0 Hs A H σ I Q k =>
  h A0 Hs A H σ I _ fun v H1 g1 d1 => by
    obtain ⟨hA, t⟩ := hide_tab ((I.grow g1).tabs P hT)
    exact ⟨z, dp_str d1, t, fun H2 b => k _ H2 (g1.trans (grow_tabbed hA t b)) (.bl _)⟩
end
/-- a def of the module and its code object -/
structure FunC (K : PySem.W.Frag) (x qual : Str) (st : Stmt) (f : Addr) (fd : FuncData) (c : Addr) : Prop where
  ex : ∃ (oc : Value) (od : Option Addr) (kV doc pm : Value) (an : Option Addr) (ct : Value) (osl : Array (Option Value)),
    fd = PySem.W.fnOf x qual (defArgs st) (defBody st) (defScope st) .none kV doc pm an (.ref c) ct ∧ K.lookup f = some ⟨oc, od, .func fd, osl⟩ ∧ PySem.W.codeIn K (.ref c) qual = true
  kp : PySem.W.keepIn K (.ref f) = true
theorem FunC.toFun {K : PySem.W.Frag} {x qual : Str} {st : Stmt} {f : Addr} {fd : FuncData} {c : Addr} (F : FunC K x qual st f fd c) : Fun K x qual st f fd := by
  obtain ⟨oc, od, kV, doc, pm, an, ct, osl, e, l, hc⟩ := F.ex
  exact ⟨⟨oc, od, kV, doc, pm, an, _, ct, osl, e, l, hc⟩, F.kp⟩
section
variable {K : Fg} {P : Program} {w : World} {mg : Str → Option Value} {base : Heap}
theorem fnDc {x qual : Str} {st : Stmt} {f : Addr} {fd : FuncData} {c : Addr} {N ps : List Str} {k : Nat} {R : List D → D → Prop} (F : FunC K x qual st f fd c) (S : FnScope N ps (defScope st)) (len : ∀ ds d, R ds d → ds.length = ps.length)
    (hbody : ∀ (A : Around) (outer : List Env) (s : Shared) (H : Hp) (E : XK), Room k (A.deeper (envOfC qual (defScope st) s.heap.objs.size f (.ref c))) →
      ∃ t, PSs (cxOf CX0 P w K mg base N qual (defScope st) f (.ref c) A outer s H E).nox (defBody st) t ∧ ∀ ds d, R ds d → SD K t { nx := fun _ => d = .none, rt := fun r => r = d } (startE N ds)) : FnOk P w K mg base CX0 (k + 1) f fd ps (spD K R) := by
  obtain ⟨oc, od, kV, doc, pm, an, ct, osl, rfl, lk, hcd⟩ := F.ex
  refine fn_of lk hcd S (fun vs H Q E h => ?_) fun A outer s H vs Q E hr h => ?_
  · obtain ⟨A, ds, d, _, hd, hR, _⟩ := h
    rw [dpa_len hd]; exact len ds d hR
  · obtain ⟨A1, ds, d, l, hd, hR, k⟩ := h
    obtain ⟨t, ht, hs⟩ := hbody A outer s H E hr
    refine ⟨t, ht.nox, hs ds d hR A1 H A1 H _ (start_ok N l hd) _ ?_⟩
    have out : ∀ {A' : Addr → Bool} {H' : Hp} {σ' : L2.St} {en' : En}, EnvOk K A1 H A' H' σ' en' → Grow A1 H H' ∧ Same (hide A' H') (hide A1 H') := fun {A' H' σ' en'} I => by
      have sm : Same (hide A' H') (hide A1 H') := same_of fun a o e => by
        obtain ⟨h1, h2⟩ := hide_some e
        have : A1 a = false := by
          cases q : A1 a with
          | false => rfl
          | true => rw [I.sub a q] at h1; cases h1
        rw [hide_out this]; exact h2
      exact ⟨⟨I.base.same.trans sm, I.keep⟩, sm⟩
    refine ⟨fun A' H' σ' en' I e => ?_, fun A' H' σ' en' v d' I dv e => ?_, fun A' H' σ' en' I e => False.elim e, fun A' H' σ' en' I e => False.elim e⟩
    · obtain ⟨g, _⟩ := out I
      have e : d = .none := e
      rw [e] at k
      exact k _ H' g .non
    · obtain ⟨g, sm⟩ := out I
      have e : d' = d := e
      rw [e] at dv
      exact k v H' g (dp_mono sm dv)
end
end HF

set_option Elab.async false
set_option linter.all false
set_option maxRecDepth 100000
set_option maxHeartbeats 2000000
/-! HF9: the context of a generator expression's own frame. -/
namespace GJ
open PySem PySem.Spec PyProof.Rows L2
/-- the frame's context: env the frame's, s0 and H0 what stood when it was made, ex the iterators that it turns -/
def gcx (P : Program) (w : World) (K : PySem.W.Frag) (mg : Str → Option Value) (base : Heap) (N : List Str) (cenv : Env) (A : Around) (outer : List Env) (s0 : Shared) (H0 : Hp) (ex : List Addr) (pn : List (Addr × Obj)) : Cx :=
  { prog := P, w := w, K := K, mg := mg, base := base, A := A.deeper cenv, N := N, s_0 := s0, H_0 := H0, env := cenv, outer := outer, stack := cenv :: outer, ex := ex, fn := fun _ => false, calm := true, pn := pn, xe := noX }
/-- what the frame is like -/
structure Gfr (cenv : Env) (s0 : Shared) (H0 : Hp) (outer : List Env) (base : Heap) (ex : List Addr) : Prop where
  kind : cenv.scope.kind = .function
  glob : cenv.globals = mainGlobals
  blt : cenv.builtins = builtinsNs
  frame : cenv.frame = some cenv.locals
  above : s0.heap.objs.size ≤ cenv.locals
  inj : ∀ x y c, cenv.cells.lookup x = some c → cenv.cells.lookup y = some c → x = y
  has : ∀ x, (cenv.kindOf x = some .cell ∨ cenv.kindOf x = some .free) → ∃ c, cenv.cells.lookup x = some c
  cell : ∀ x c, cenv.cells.lookup x = some c → (∃ v, s0.heap.IsCell c v) ∧ H0 c = none ∧ c ∉ ex
  exf : ∀ b ∈ ex, b ≠ cenv.locals ∧ b ∉ frs outer ∧ ∀ o, base.get? b ≠ some o
theorem inv_gx {P : Program} {w : World} {K : PySem.W.Frag} {mg : Str → Option Value} {base : Heap} {N : List Str} {cenv : Env} {A A0 : Around} {outer : List Env} {s0 s : Shared} {H0 : Hp} {ex : List Addr}
    (e0 : Env0 P w K mg base A0 outer s0 H0) (fr : A.frames = some outer) (hd : A.handled = none) (G : Gfr cenv s0 H0 outer base ex) {m : Str → Option Value}
    (os : s.os = s0.os) (bare : AllBare s.gens) (keep : ∀ b o, s0.heap.get? b = some o → s.heap.get? b = some o) (ns : s.heap.Ns cenv.locals m) :
    Inv (gcx P w K mg base N cenv A outer s0 H0 ex []) [] (List.replicate N.length none) H0 s := by
  refine ⟨⟨e0.mod, G.kind, G.glob, G.blt, G.above, G.inj, G.has, fun x c h => (by cases h), fun _ => hd, Around.frames_deeper fr, .inr ⟨rfl, G.frame⟩, fun b hb => ⟨(G.exf b hb).1, fun x c h z => (G.cell x c h).2.2 (by rw [z]; exact hb)⟩, e0.bs, e0.bsz,
      fun b o h hb => (G.exf b hb).2.2 o h, fun b hb => (G.exf b hb).2.1, e0.funs, e0.frf⟩,
    os, bare, Un.kept keep, ⟨_, ns, fun i y v h1 h2 h3 => ?_⟩, fun x c h => ?_, ?_, fun x c h => (G.cell x c h).2.1, fun p hp => absurd (show p ∈ ([] : List (Addr × Obj)) from hp) (by simp), e0.hok.kept keep, List.length_replicate ..⟩
  · rw [List.getElem?_replicate] at h2
    split at h2 <;> cases h2
  · obtain ⟨⟨v, q⟩, _, _⟩ := G.cell x c h
    exact ⟨v, by first | exact q.keeps keep | exact q.at fun o e => keep _ o e⟩
  · exact e0.hok.fresh G.above
/-- what stands ahead of the i-th item -/
def Jx (X : Cx) (pins : List (Addr × Obj)) (fp : List Addr) (tn : Nat → Heap → Prop) (Pv : Nat → L2.St → Hp → Prop) (i : Nat) (s : Shared) : Prop :=
  ∃ σ H, Inv X pins σ H s ∧ tn i s.heap ∧ (∀ b ∈ fp, H b = none) ∧ Pv i σ H
def Zx (X : Cx) (pins : List (Addr × Obj)) (Pv : Nat → L2.St → Hp → Prop) (s : Shared) : Prop := ∃ i σ H, Inv X pins σ H s ∧ Pv i σ H
def Rx (a : Addr) (s s' : Shared) : Prop := s.gens.size ≤ s'.gens.size ∧ (∀ o, s.heap.get? a = some o → s'.heap.get? a = some o) ∧ (s.heap.NoLimit → s'.heap.NoLimit)
section
variable {X : Cx} {pins : List (Addr × Obj)} {σ : L2.St} {H : Hp} {s : Shared}
theorem inv_gens (I : Inv X pins σ H s) {g : Array GenState} (hg : AllBare g) : Inv X pins σ H { s with gens := g } := ⟨I.ok, I.os, hg, I.base, I.loc, I.cell, I.free, I.freeC, I.pin, I.hok, I.len⟩
theorem inv_setGen (I : Inv X pins σ H s) {g : Nat} {x : GenState} (hx : x.bare = true) : Inv X pins σ H (s.setGen g x) := inv_gens I (allBare_setGen I.bare hx)
theorem stays_x {fp : List Addr} {tn : Nat → Heap → Prop} {Pv : Nat → L2.St → Hp → Prop} {a : Addr} : Stays (Jx X pins fp tn Pv) (Zx X pins Pv) (Rx a) a where
  gen := fun j s g x hx ⟨σ, H, I, st, f, p⟩ => ⟨σ, H, inv_setGen I hx, st, f, p⟩
  zgen := fun s g x hx ⟨i, σ, H, I, p⟩ => ⟨i, σ, H, inv_setGen I hx, p⟩
  zheap := fun s h' ⟨i, σ, H, I, p⟩ k => ⟨i, σ, H, I.kept (t' := s.toks) k, p⟩
  jz := fun j s ⟨σ, H, I, _, _, p⟩ => ⟨j, σ, H, I, p⟩
  size := fun s s' r => r.1
  obj := fun s s' o r => r.2.1 o
  lim := fun s s' r => r.2.2
theorem turns_x {A : Around} {elt tg : Expr} {it a : Addr} {oa : Obj} {fp : List Addr} {tn : Nat → Heap → Prop} {Jt : It} {g : TG} {te : TE} {n : Nat} {tr : Nat → Bool} {Pv : Nat → L2.St → Hp → Prop}
    (hA : X.A = A.deeper X.env) (hx : X.xe = noX) (hc : X.calm = true) (T : Turn X.prog X.w X.K tg Jt fp it tn) (hg : PG X tg g) (he : PE X elt te) (ha : (a, oa) ∈ pins)
    (f2 : ∀ b ∈ fp, b ≠ X.env.locals ∧ b ∉ X.fs ∧ (b ∈ X.ex ∨ X.s_0.heap.objs.size ≤ b) ∧ (∀ x c, X.env.cells.lookup x = some c → c ≠ b) ∧ ∀ p ∈ X.pn ++ pins, p.1 ≠ b)
    (step : ∀ i σ H, i < n → Pv i σ H → Jt.go i H ∧ ∀ x H', Jt.yld i H x H' → g x σ H' fun σ2 H2 => te σ2 H2 fun y H3 => y = .bl (tr i) ∧ Pv (i + 1) σ2 H3)
    (stop : ∀ σ H, Pv n σ H → Jt.stop n H) :
    Turns X.prog X.w A elt tg X.env it n (fun i v => v = .bool (tr i)) (Jx X pins fp tn Pv) (Zx X pins Pv) (Rx a) where
  rtrans := fun p q r h1 h2 => ⟨Nat.le_trans h1.1 h2.1, fun o e => h2.2.1 o (h1.2.1 o e), fun l => h2.2.2 (h1.2.2 l)⟩
  rrefl := fun p => ⟨Nat.le_refl _, fun _ e => e, fun l => l⟩
  turn := fun i s lt ⟨σ, H, I, st, f1, p⟩ => by
    obtain ⟨go, next⟩ := step i σ H lt p
    have stat : ∀ {H' : Hp}, (∀ b ∈ fp, H' b = none) → ∀ b ∈ fp, FpOk X pins H' b := fun hn b hb => ⟨hn b hb, f2 b hb⟩
    have oaH : ∀ {σ' : L2.St} {H' : Hp} {s' : Shared} {pl : List (Addr × Obj)}, Inv X (pins ++ pl) σ' H' s' → s'.heap.get? a = some oa := fun I' => (I'.pin (a, oa) (List.mem_append_right _ (List.mem_append_left _ ha))).1
    have oa0 : s.heap.get? a = some oa := (I.pin (a, oa) (List.mem_append_right _ ha)).1
    rw [← hA]
    refine GenW.wpAny_gsz (Nat.le_refl s.gens.size) (wpAny_mono (T.item X rfl rfl rfl hc i pins s σ H noX I (stat f1) st go) (fun r s1 h z1 => ?_) fun _ _ e => e.elim)
    obtain ⟨u, rfl, h⟩ := h
    refine ⟨u, rfl, GenW.wpAny_gsz z1 (wpAny_mono h (fun _ s2 h z2 => ?_) fun _ _ e => e.elim)⟩
    obtain ⟨x, H2, I2, r2, y2, st2, fr2⟩ := h
    have I2p := I2.pinned (stat fr2) (T.obj _ _ st2)
    have q := hg.run _ s2 σ H2 x u _ I2p r2 (next x H2 y2)
    rw [hx] at q
    refine GenW.wpAny_gsz z2 (wpAny_mono q (fun _ s3 h z3 => ?_) fun _ _ e => e.elim)
    obtain ⟨σ3, H3, I3, q3⟩ := h
    have q := he.run _ s3 σ3 H3 _ I3 q3
    rw [hx] at q
    refine GenW.wpAny_gsz z3 (wpAny_mono q (fun y s4 h z4 => ?_) fun _ _ e => e.elim)
    obtain ⟨v, H4, I4, r4, rfl, p4⟩ := h
    obtain rfl : y = Value.bool (tr i) := r4
    refine ⟨rfl, ⟨σ3, H4, I4.unpinned, T.keep _ _ _ st2 fun b hb o e => (I4.pin (b, o) (List.mem_append_right _ (List.mem_append_right _ (mem_pinsAt hb e)))).1, fun b hb => ?_, p4⟩, z4, fun o e => ?_, fun _ => I4.nolimit⟩
    · obtain ⟨o, e, d⟩ := T.obj _ _ st2 b hb
      exact (I4.pin (b, o) (List.mem_append_right _ (List.mem_append_right _ (mem_pinsAt hb e)))).2.1
    · rw [oa0] at e
      cases e
      exact oaH I4
  stop := fun s ⟨σ, H, I, st, f1, p⟩ => by
    have oa0 : s.heap.get? a = some oa := (I.pin (a, oa) (List.mem_append_right _ ha)).1
    rw [← hA]
    refine GenW.wpAny_gsz (Nat.le_refl s.gens.size) (wpAny_mono (T.done X rfl rfl rfl hc n pins s σ H noX I (fun b hb => ⟨f1 b hb, f2 b hb⟩) st (stop σ H p)) (fun r s1 h z1 => ?_) fun _ _ e => e.elim)
    obtain ⟨rfl, I1⟩ := h
    refine ⟨rfl, ⟨n, σ, H, I1, p⟩, z1, fun o e => ?_, fun _ => I1.nolimit⟩
    rw [oa0] at e
    cases e
    exact (I1.pin (a, oa) (List.mem_append_right _ ha)).1
  self := fun s ⟨σ, H, I, st, f1, p⟩ => T.self _ 0 s _ _ st ⟨rfl, rfl⟩
end
end GJ

set_option Elab.async false
set_option linter.all false
set_option maxRecDepth 100000
set_option maxHeartbeats 2000000
/-! HF10: all(..) of a generator expression whose element may do anything; no test, no captured name. -/
namespace GJ
open PySem PySem.Spec PyProof.Rows L2
/-- the scope of a generator expression without captured names -/
structure GenN (scope : Scope) : Prop where
  kind : scope.kind = .function
  co : scope.isCoroutine = false
  cell : ∀ y ∈ scope.names, y.2 ≠ .cell
  free : ∀ y ∈ scope.names, y.2 ≠ .free
  dot : scope.names.lookup (".0" : Str) = some NameKind.local
theorem clo_none (cells : List (Str × Addr)) : ∀ (names : List (Str × NameKind)) (acc : List (Str × Addr)), (∀ y ∈ names, y.2 ≠ .free) → cloFrom cells names acc = acc
  | [], _, _ => rfl
  | (n, k) :: r, acc, h => by
    have hk : (k == NameKind.free) = false := by
      have := h (n, k) List.mem_cons_self
      cases k <;> first | rfl | exact absurd rfl this
    show (if (k == .free) = true then _ else cloFrom cells r acc) = acc
    rw [hk]
    exact clo_none cells r acc fun y hy => h y (List.mem_cons_of_mem _ hy)
/-- the frame's env -/
abbrev genC (X : Cx) (scope : Scope) (C : Addr) (code : Value) : Env := genEnv scope [] C code builtinsNs X.env
/-- the frame's context -/
abbrev gxc (X : Cx) (N : List Str) (scope : Scope) (C : Addr) (code : Value) (s0 : Shared) (H0 : Hp) (ex : List Addr) : Cx :=
  gcx X.prog X.w X.K X.mg X.base N (genC X scope C code) X.A.in4.in1 X.stack s0 H0 ex []
/-- all(te for g in wi): nN names in the frame, P the def's table -/
def tAllG (P : Addr) (nN : Nat) (wi : TI) (g : TG) (te : TE) : TE := fun σ H Q => wi σ H fun J H1 => GxR.TabG H1 P ∧ ∃ (n : Nat) (tr : Nat → Bool) (Pv : Nat → L2.St → Hp → Prop),
  (∀ H2, GxR.Tabbed P H1 H2 → Pv 0 (List.replicate nN none) H2) ∧
  (∀ i σ' H', i < n → Pv i σ' H' → J.go i H' ∧ ∀ x H2, J.yld i H' x H2 → g x σ' H2 fun σ2 H3 => te σ2 H3 fun y H4 => y = .bl (tr i) ∧ Pv (i + 1) σ2 H4) ∧ (∀ σ' H', Pv n σ' H' → J.stop n H') ∧
  ∀ i σ' H', Pv i σ' H' → Q (.bl ((List.range n).all tr)) H'
section
variable {X : Cx}
theorem pe_allG {c P : Addr} {elt iter tg : Expr} {p pos gpos : Pos} {scope : Scope} {wi : TI} {g : TG} {te : TE} {k : Nat} {N : List Str}
    (hr : Room (k + 2) X.A) (hg : Gl X "all") (hm : X.mg "all" = none) (hb : bootBuiltins "all" = some (.builtin "all")) (TB : GxR.TabB X.base X.mg c P) (hcode : X.env.code = .ref c) (S : GenN scope)
    (hi : PI X tg iter wi) (ht : ∀ C code s0 H0 ex, PG (gxc X N scope C code s0 H0 ex) tg g) (he : ∀ C code s0 H0 ex, Room k (gxc X N scope C code s0 H0 ex).A → PE (gxc X N scope C code s0 H0 ex) elt te)
    (hs : ∀ v, genFold iter X.env v = pure v)
    (hse : starEach [.GeneratorExp elt [⟨tg, iter, [], 0⟩] scope gpos] X.env = (false, eval (.GeneratorExp elt [⟨tg, iter, [], 0⟩] scope gpos) X.env) :: starEach [] X.env := by rfl) :
    PE X (.Call (.Name "all" p) [.GeneratorExp elt [⟨tg, iter, [], 0⟩] scope gpos] [] pos) (tAllG P N.length wi g te) := by
  refine ⟨fun pins s σ H Q I h => ?_⟩
  refine wpAny_Call_Name_kw (ld_blt I hg hm hb ?_)
  refine PyProof.Rows.callWith_builtin1 ?_ hse (by rfl)
  rw [hse]
  show wpAny _ _ (spliced ((false, eval (.GeneratorExp elt [⟨tg, iter, [], 0⟩] scope gpos) X.env) :: backTo pos (starEach [] X.env))) _ _ s
  have clo : closureFor scope X.env = pure [] := by
    rw [closure_ok (fun y hy e => absurd e (S.free y hy)), clo_none _ _ _ S.free]
  refine Calls.spliced_cons (make_genJ hr.hd S.co clo S.cell S.dot S.kind (by have := hr.dp; omega) ?_ hs)
  refine thn (hi.run pins s σ H _ I h) fun xv s1 h1 => thn h1 fun itv s2 h2 => ?_
  obtain ⟨it, fp, tn, J, H1, rfl, I2, T, st2, f2, ⟨ps, hP, htr⟩, n, tr, Pv, p0, step, stop, fin⟩ := h2
  have hPs : s2.heap.get? P = some { cls := .none, data := .fields ps } := I2.hok P _ hP
  have fpP : ∀ b ∈ fp, b ≠ P := fun b hb z => by
    have := (f2 b hb).1
    rw [z, hP] at this
    cases this
  have cd : PySem.W.CodeHd s2.heap c P := TB.code.keeps fun b u e => I2.bk b u e
  refine ⟨I2.nolimit, ?_⟩
  -- behind the code object
  have cont : ∀ (code : Value) (h3 : Heap) (tk : Nat) (H3 : Hp), Inv X pins σ H3 { s2 with heap := h3, toks := tk } → GxR.Tabbed P H1 H3 → Heap.ExtBut P s2.heap h3 →
      wpAny (model X.prog X.w) X.A (builtinsFor X.env.globals X.env.builtins) (fun bi s4 => s4.heap.NoLimit ∧
        ∀ (h5 : Heap) (tk : Nat) (g0 : GenState), g0.bare = true → h5.Ns s4.heap.objs.size (fun y => if y = ".0" then some (.ref it) else none) → (∀ b o, s4.heap.get? b = some o → h5.get? b = some o) → h5.objs.size = s4.heap.objs.size + 2 →
          h5.IsGen (s4.heap.objs.size + 1) s4.gens.size →
          ∃ I n Fi J Z Rel, Value.ref it = .ref I ∧ Stays J Z Rel (s4.heap.objs.size + 1) ∧ Turns X.prog X.w X.A.in4.in1 elt tg (genEnv scope [] s4.heap.objs.size code bi X.env) I n Fi J Z Rel ∧ J 0 { s4 with gens := s4.gens.push g0, toks := tk, heap := h5 } ∧
            (WalksJ X.prog X.w X.A.in4 (s4.heap.objs.size + 1) n Fi (GenJ X.prog X.w X.A.in4 (s4.heap.objs.size + 1) s4.gens.size n Fi J Z Rel) Z → GenJ X.prog X.w X.A.in4 (s4.heap.objs.size + 1) s4.gens.size n Fi J Z Rel 0 { s4 with gens := s4.gens.push g0, toks := tk, heap := h5 } →
              wpAny (model X.prog X.w) X.A (spliced (backTo pos (starEach [] X.env))) (fun vs s' => wpAny (model X.prog X.w) X.A (call (.builtin "all") (.ref (s4.heap.objs.size + 1) :: vs)) (EP X pins σ Q) X.xe s') X.xe { s4 with gens := s4.gens.push g0, toks := tk, heap := h5 })) X.xe { s2 with heap := h3, toks := tk } := by
    intro code h3 tk H3 I3 tb hx
    obtain ⟨bm, ob, e1, e2, e3, e4, e5, e6, e7, e8⟩ := TB.bm
    refine wpAny_builtinsFor (m := X.mg) (by rw [I3.ok.glob]; exact I3.mod.glob.keeps I3.bk) e1 e2 (I3.bk _ _ e5) e6 e7 e8 ?_
    refine ⟨I3.nolimit, fun h5 tk5 g0 hb0 hns k5 sz5 ig => ?_⟩
    have lt3 : ∀ b ∈ fp, b < h3.objs.size := fun b hb => by
      obtain ⟨o, e, _⟩ := T.obj _ _ st2 b hb
      exact Heap.lt_size (hx b o (fpP b hb) e)
    have st3 : tn 0 h3 := T.keep _ _ _ st2 fun b hb o e => hx b o (fpP b hb) e
    have fp3 : ∀ b ∈ fp, H3 b = none := fun b hb => (tb.2 b (fpP b hb)).trans (f2 b hb).1
    obtain ⟨oa, nm, qn, ia, ib, ic, _⟩ := id ig
    have e0 := I3.env0
    have G : Gfr (genC X scope h3.objs.size code) { s2 with heap := h3, toks := tk } H3 X.stack X.base fp :=
      { kind := S.kind, glob := I3.ok.glob, blt := rfl, frame := rfl, above := Nat.le_refl _, inj := fun x y c h => (by cases h), cell := fun x c h => (by cases h),
        has := fun x hx => by
          rcases hx with hx | hx
          · exact absurd rfl (S.cell _ (PySem.mem_of_lookup hx))
          · exact absurd rfl (S.free _ (PySem.mem_of_lookup hx)),
        exf := fun b hb => ⟨Nat.ne_of_lt (lt3 b hb), fun z => by
          rcases List.mem_cons.mp (I3.stkSub b z) with z | z
          · exact (f2 b hb).2.1 z
          · exact (f2 b hb).2.2.1 z, fun o e => by
          rcases (f2 b hb).2.2.2.1 with z | z
          · exact I3.ok.noex b o e z
          · exact absurd (Nat.lt_of_lt_of_le (Heap.lt_size (I3.ok.bs b o e).1) z) (Nat.lt_irrefl _)⟩ }
    have I5 : Inv (gxc X N scope h3.objs.size code { s2 with heap := h3, toks := tk } H3 fp) [] (List.replicate N.length none) H3 { ({ s2 with heap := h3, toks := tk } : Shared) with gens := s2.gens.push g0, toks := tk5, heap := h5 } :=
      inv_gx (A := X.A.in4.in1) e0 I3.ok.frames hr.hd G rfl (I3.bare.push hb0) k5 hns
    have na : ∀ b o, h3.get? b = some o → b ≠ h3.objs.size + 1 := fun b o e => Nat.ne_of_lt (Nat.lt_succ_of_lt (Heap.lt_size e))
    have I5p : Inv (gxc X N scope h3.objs.size code { s2 with heap := h3, toks := tk } H3 fp) [(h3.objs.size + 1, oa)] (List.replicate N.length none) H3 { ({ s2 with heap := h3, toks := tk } : Shared) with gens := s2.gens.push g0, toks := tk5, heap := h5 } :=
      I5.pins_of fun q hq => by
        rw [List.mem_singleton.mp hq]
        refine ⟨ia, I3.hok.fresh (Nat.le_succ _), Nat.succ_ne_self _, fun z => ?_, fun v z => by rw [ic] at z; cases z⟩
        have hz : h3.objs.size + 1 ∈ frs X.stack := z
        obtain ⟨_, o, e, _⟩ := I3.stack.mem hz
        exact na _ o e rfl
    refine ⟨it, n, fun i v => v = .bool (tr i), Jx (gxc X N scope h3.objs.size code { s2 with heap := h3, toks := tk } H3 fp) [(h3.objs.size + 1, oa)] fp tn Pv, Zx (gxc X N scope h3.objs.size code { s2 with heap := h3, toks := tk } H3 fp) [(h3.objs.size + 1, oa)] Pv, Rx (h3.objs.size + 1), rfl, stays_x, ?_, ?_, fun W gj => ?_⟩
    · exact turns_x (X := gxc X N scope h3.objs.size code { s2 with heap := h3, toks := tk } H3 fp) (A := X.A.in4.in1) rfl rfl rfl T (ht _ _ _ _ _) (he _ _ _ _ _ ⟨hr.hd, by have := hr.dp; show X.A.depth + 1 + 3 * k + 5 < _; omega, by have := hr.un; show X.A.units + 1 + 1 + 1 + 1 + 1 + 3 + 16 * k + 200 < _; omega⟩) List.mem_cons_self
        (fun b hb => ⟨(G.exf b hb).1, (G.exf b hb).2.1, .inl hb, fun x c h => (by cases h), fun q hq => by
          have hq : q ∈ [(h3.objs.size + 1, oa)] := hq
          rw [List.mem_singleton.mp hq]
          exact fun z => Nat.lt_irrefl _ (Nat.lt_of_lt_of_le (show h3.objs.size + 1 < h3.objs.size from by
            have := lt3 b hb
            have z : h3.objs.size + 1 = b := z
            rw [z]; exact this) (Nat.le_succ _))⟩) step stop
    · exact ⟨_, H3, I5p, T.keep _ _ _ st3 fun b hb o e => k5 b o e, fp3, p0 H3 tb⟩
    · refine Calls.spliced_nil ?_
      have W1 : WalksJ X.prog X.w X.A.in1 (h3.objs.size + 1) n (fun i v => v = .bool (tr i)) _ _ := WalksJ.of_in1 (A := X.A.in1) (WalksJ.of_in1 (A := X.A.in1.in1) (WalksJ.of_in1 (A := X.A.in1.in1.in1) W))
      refine call_allJ (wpAny_mono (W1.self 0 _ gj) (fun v s9 h9 => ?_) fun _ _ e => e.elim)
      obtain ⟨rfl, rfl⟩ := h9
      refine ⟨_, n, _, _, _, tr, rfl, W1, gj, fun i v s Q E hv hq => by rw [hv]; exact wpAny_truthy_bool hq, fun s' hz => ?_⟩
      obtain ⟨i, σ', H', I', pv⟩ := hz
      have u := I'.base
      have un : Un (frs X.stack) fp H3 H' h3 s'.heap := u
      have J' : Inv X pins σ H' { ({ s2 with heap := h3, toks := tk } : Shared) with heap := s'.heap, gens := s'.gens, drawn := s'.drawn, toks := s'.toks } := by
        refine I3.step (g' := s'.gens) (d' := s'.drawn) (ch := fp) (fun b hb => ⟨(f2 b hb).2.2.2.1, (f2 b hb).2.1, (f2 b hb).2.2.2.2.1, (f2 b hb).2.2.2.2.2⟩) (fun b o h1 h2 hc e z => un.keep b o e z (fun z2 => ?_) hc) (fun b o h1 h2 hc e z => un.any e z hc) (fun b o hc e z => un.free b o e z hc) (fun b o hc e => un.there b o e hc) un.tups un.frzs un.tbls (fun m hm => ?_) I'.hok I'.bare
        · rcases List.mem_cons.mp (I3.stkSub b z2) with z3 | z3
          · exact h1 z3
          · exact h2 z3
        · obtain ⟨o, es, ep, ho, r⟩ := hm
          obtain ⟨sl, q⟩ := un.any ho I3.free fun z => (f2 _ z).2.1 rfl
          exact ⟨_, es, ep, q, r⟩
      have os' : s'.os = ({ s2 with heap := h3, toks := tk } : Shared).os := I'.os
      rw [GxR.sh_eta _ s' os'] at J'
      exact ⟨.bl _, H', J', rfl, fin i σ' H' pv⟩
  cases hf : codeAmong gpos ps.toList with
  | none =>
    refine wpAny_genexprCodeX hcode (cd.code hPs htr) (cd.tab hPs) hf fun c' h' tk hx hge hlt hco' _ htab' _ => ?_
    obtain ⟨o1, vs, f1, tf, fl, tg', inF, tx, tt, op, _, _, _, _, _, _, _, _, _, htr', _⟩ := hco'
    have I3 : Inv X pins σ (upd H1 P (.tbl (ps ++ #[rawInt gpos.line, rawInt gpos.col, .ref c']))) { s2 with heap := h', gens := s2.gens, drawn := s2.drawn, toks := tk } := GxR.inv_tab I2 hP hx htab'.2 I2.bare
    exact cont _ h' tk _ I3 ⟨⟨_, upd_same, htr'⟩, fun b hb => upd_ne hb⟩ hx
  | some cv =>
    refine wpAny_genexprCode_hit hcode (cd.code hPs htr) hf ?_
    exact cont cv s2.heap s2.toks H1 I2 ⟨⟨ps, hP, htr⟩, fun _ _ => rfl⟩ (Heap.ExtBut.refl _ _)
end
end GJ

set_option Elab.async false
set_option linter.all false
set_option maxRecDepth 100000
set_option maxHeartbeats 2000000
/-! HF11: all(..) of a generator expression, over plain data. -/
namespace HF
open PySem L2 PySem.Spec PyProof.Rows
/-- the frame's slots, nothing known -/
abbrev noEn (n : Nat) : En := List.replicate n none
theorem weak_no : ∀ e : En, Weak e (noEn e.length)
  | [] => trivial
  | _ :: e => ⟨.inl rfl, weak_no e⟩
theorem noEn_get {n i : Nat} {s : Sl} (h : (noEn n)[i]? = some (some s)) : False := by
  have := List.eq_of_mem_replicate (List.mem_of_getElem? h)
  cases this
theorem frame_ok {K : Fg} {A : Addr → Bool} {H : Hp} {n : Nat} (l : Live A H) (t : Tabs K (hide A H)) : EnvOk K A H A H (List.replicate n none) (noEn n) :=
  ⟨⟨t, Same.refl _⟩, fun _ _ => rfl, fun _ h => h, l, by simp, fun _ => [], fun i s e => (noEn_get e).elim⟩
def trAt {α : Type} (f : α → Bool) (as : List α) (i : Nat) : Bool := match as[i]? with
  | some a => f a
  | none => false
theorem all_trAt {α : Type} (f : α → Bool) (as : List α) : (List.range as.length).all (trAt f as) = as.all f := by
  rw [Bool.eq_iff_iff, List.all_eq_true, List.all_eq_true]
  constructor
  · intro h a ha
    obtain ⟨j, hj, e⟩ := List.getElem_of_mem ha
    have q := h j (List.mem_range.mpr hj)
    unfold trAt at q
    rw [List.getElem?_eq_getElem hj, e] at q
    exact q
  · intro h j hj
    have hj := List.mem_range.mp hj
    unfold trAt
    rw [List.getElem?_eq_getElem hj]
    exact h _ (List.getElem_mem hj)
theorem ev_allG {K : Fg} {en : En} {P : Addr} {nN : Nat} {wi : TI} {g : TG} {te : TE} {α : Type} {as : List α} (enc : α → D) (f : α → Bool) (hT : K.T P) (hw : EvI K wi en (as.map enc))
    (hs : ∀ (j : Nat) (a : α), as[j]? = some a → ∃ e', e'.length = nN ∧ GD K g (enc a) (noEn nN) e' ∧ EvD K te e' (.bool (f a))) : EvD K (GJ.tAllG P nN wi g te) en (.bool (as.all f)) := fun A0 Hs A H σ I Q k =>
  hw A0 Hs A H σ I _ fun J H1 g1 W => by
    have I1 := I.grow g1
    obtain ⟨hA, t⟩ := hide_tab (I1.tabs P hT)
    refine ⟨t, as.length, trAt f as, fun i σ' H' => Grow A H1 H' ∧ EnvOk K A H1 A H' σ' (noEn nN), fun H2 tb => ?_, fun i σ' H' lt p => ?_, fun σ' H' p => ?_, fun i σ' H' p => ?_⟩
    · have gr := grow_tabbed hA t tb
      exact ⟨gr, (frame_ok (n := nN) I1.live I1.tabs).grow gr⟩
    · obtain ⟨gr, E⟩ := p
      refine ⟨W.goes A H' i E.live gr.ex (by rw [List.length_map]; exact lt), fun x H2 y => ?_⟩
      have ha : as[i]? = some as[i] := List.getElem?_eq_getElem lt
      obtain ⟨g2, dx⟩ := W.yields A H' i (enc as[i]) x H2 E.live gr.ex (by rw [List.getElem?_map, ha]; rfl) y
      obtain ⟨e', hl, hg, he⟩ := hs i _ ha
      refine hg A H1 A H2 σ' x (E.grow g2) dx _ fun σ3 H3 g3 E3 => ?_
      refine he A H1 A H3 σ3 E3 _ fun u H4 g4 du => ?_
      refine ⟨?_, ((gr.trans g2).trans g3).trans g4, ?_⟩
      · rw [dp_bl du]
        unfold trAt
        rw [ha]
      · have E4 := E3.grow g4
        rw [← hl]
        exact E4.weak (weak_no e')
    · have q := W.stops A H' p.2.live p.1.ex
      rw [List.length_map] at q
      exact q
    · have q := k (.bl ((List.range as.length).all (trAt f as))) H' (g1.trans p.1)
      rw [all_trAt] at q ⊢
      exact q (.bl _)
end HF

set_option Elab.async false
set_option linter.all false
set_option maxRecDepth 100000
set_option maxHeartbeats 2000000
/-! HF12: the end, with the tables of all defs in hand. -/
namespace HF
open PySem PySem.Spec PyProof.Rows L2
/-- each def of the program: its function, its code object, its table, which is empty yet -/
def AllTabs (q : Program) (mg : Str → Option Value) (h : Heap) : Prop := ∀ d ∈ recsOf q, ∃ (a : Addr) (o : Obj) (fd : FuncData) (c T : Addr), mg d.name = some (.ref a) ∧ h.get? a = some o ∧ o.data = .func fd ∧ fd.code = .ref c ∧ PySem.W.CodeHd h c T ∧ h.get? T = some { cls := .none, data := .fields #[] }
theorem walk_all {l : PySem.W.OpenLaw} {n k : Nat} {q : Program} {loose : List Str} {XP : (Str → Option Value) → Heap → Prop} {YP : World → Heap → Prop} {d : DefRec} {K : Params → PySem.W.Frag} {CX : World → CXT} {x : Str}
    (hn : l.most = some n) (hn2 : n ≤ sizeLine) (hdf : d.params.defaults = []) (hr : Room k callerA) (hY : ∀ (w : World) (h : Heap), YP w h → (K w.params).In h)
    (F : ∀ (w : World) (mg : Str → Option Value) (fa : Addr) (h : Heap), YP w h → (K w.params).In h → h.Ns mainGlobals mg → mg d.name = some (.ref fa) → AllTabs q mg h → LamX.LawAtS l w (K w.params) (CX w) k n x mg fa h)
    (hCX : ∀ (w : World) (H : Hp) (s : Shared) (e : Value) (s' : Shared), CX w [] H s (fun _ _ _ => False) e s' → False) :
    PySem.W.WalkO q loose XP YP l.row.toRowW d [] (fun f vs => PySem.call f vs) := by
  refine Att.attach_callB hn hdf fun w s0 s1 mg mb fa o pm cd doc a vs ns G Y ho hd hcd hmg hobj hints hlen hbits hg => ?_
  have KX := hY w _ Y
  have tabs : AllTabs q mg s1.heap := fun d hd => by
    obtain ⟨a, o, fd, c, T, h1, h2, h3, h4, h5, h6⟩ := G.T.tab d hd
    exact ⟨a, o, fd, c, T, h1, h2, h3, h4, PySem.W.CodeHd.of h5 h6, h6.2⟩
  obtain ⟨fd, cs, sp, hT, nT, C, hb, hsp, hF⟩ := F w mg fa _ Y KX G.T.g hmg tabs
  exact LamX.law_callTs KX G.T.g G.T.b G.T.builtins G.T.nolimit hg hT nT C G.T.bmain hobj hints (Nat.le_trans hlen hn2) hr hF hb (fun H hH hS => hsp H a ns hlen hbits hH hS) fun H e s' => hCX w H s1 e s'
end HF

set_option Elab.async false
set_option linter.all false
set_option maxRecDepth 100000
set_option maxHeartbeats 2000000
/-! HF13: a def's table, out of what the fragment holds of the def. -/
namespace HF
open PySem PySem.Spec PyProof.Rows L2
/-- the table of this code object is not itself in the fragment -/
def tabFree (K : PySem.W.Frag) (cd : Value) : Bool := match cd with
  | .ref c => (match K.lookup c with
      | some ⟨_, _, .fields vs, _⟩ => (match (vs : Array Value)[11]? with
          | some (Value.ref T) => (K.lookup T).isNone
          | _ => false)
      | _ => false)
  | _ => false
theorem tab_of {q : Program} {K : PySem.W.Frag} {mg : Str → Option Value} {h : Heap} {x : Str} {f : Addr} {oc : Value} {od : Option Addr} {fd : FuncData} {sl : Array (Option Value)} (t : AllTabs q mg h) (r : ((recsOf q).any fun e => e.name == x) = true) (X : K.In h)
    (hm : mg x = some (.ref f)) (l : K.lookup f = some ⟨oc, od, .func fd, sl⟩) (hq : tabFree K fd.code = true) :
    ∃ c T, fd.code = .ref c ∧ PySem.W.CodeHd h c T ∧ h.get? T = some { cls := .none, data := .fields #[] } ∧ K.lookup T = none := by
  obtain ⟨d, hd, e⟩ := List.any_eq_true.mp r
  have e : d.name = x := beq_iff_eq.mp e
  obtain ⟨a, o, fd', c, T, h1, h2, h3, h4, h5, h6⟩ := t d hd
  rw [e, hm] at h1
  cases h1
  have g := X _ _ l
  rw [h2] at g
  cases g
  cases h3
  refine ⟨c, T, h4, h5, h6, ?_⟩
  rw [h4] at hq
  unfold tabFree at hq
  simp only at hq
  split at hq
  · rename_i vs _ hk
    have g := X _ _ hk
    obtain ⟨o2, vs2, _, _, _, _, _, _, _, e1, _, e3, e4, _⟩ := h5
    rw [e1] at g
    cases g
    cases e3
    rw [e4] at hq
    simpa using hq
  · cases hq
theorem tabG_new {H : Hp} {T : Addr} (h : H T = some (.tbl #[])) : GxR.TabG H T := ⟨#[], h, by first | trivial | simp [TriplesOk]⟩
end HF

set_option Elab.async false
set_option linter.all false
set_option maxRecDepth 100000
set_option maxHeartbeats 2000000
/-! M1: mirrors. Each reading over plain data gets a function that can be run. -/
namespace HF
open PySem L2 PySem.Spec PyProof.Rows
abbrev XE := En → Option D
abbrev XA := En → Option (List D)
abbrev XT := En → Option Bool
abbrev XO := En → Option (Option Int)
abbrev XG := D → En → Option En
abbrev XGs := List D → En → Option En
inductive Out where
  | nx (e : En)
  | rt (d : D)
  | bk (e : En)
  | ct (e : En)
abbrev XS := En → Option Out
def Out.E : Out → DE
  | .nx e => { nx := fun x => x = e, rt := fun _ => False }
  | .rt d => { nx := fun _ => False, rt := fun x => x = d }
  | .bk e => { nx := fun _ => False, rt := fun _ => False, bk := fun x => x = e }
  | .ct e => { nx := fun _ => False, rt := fun _ => False, ct := fun x => x = e }
def ME (K : Fg) (t : TE) (f : XE) : Prop := ∀ en d, f en = some d → EvD K t en d
def MN (K : Fg) (t : TE) (f : XA) : Prop := ∀ en ds, f en = some ds → EvN K t en ds
def MA (K : Fg) (t : TA) (f : XA) : Prop := ∀ en ds, f en = some ds → EvA K t en ds
def MT (K : Fg) (t : TT) (f : XT) : Prop := ∀ en b, f en = some b → EvT K t en b
def MI (K : Fg) (t : TI) (f : XA) : Prop := ∀ en ds, f en = some ds → EvI K t en ds
def MO (K : Fg) (t : TO) (f : XO) : Prop := ∀ en o, f en = some o → EvO K t en o
def MG (K : Fg) (g : TG) (f : XG) : Prop := ∀ d en en', f d en = some en' → GD K g d en en'
def MGs (K : Fg) (g : TGs) (f : XGs) : Prop := ∀ ds en en', f ds en = some en' → GDs K g ds en en'
def MS (K : Fg) (t : TS) (f : XS) : Prop := ∀ en o, f en = some o → SD K t o.E en

/-! ### operators -/
def intsOf : List D → Option (List Int)
  | [] => some []
  | .int i :: ds => (intsOf ds).map (i :: ·)
  | _ :: _ => none
@[simp] theorem intsOf_map : ∀ ns : List Int, intsOf (ns.map .int) = some ns
  | [] => rfl
  | n :: ns => by rw [List.map_cons, intsOf, intsOf_map ns]; rfl
theorem intsOf_eq : ∀ {ds : List D} {ns : List Int}, intsOf ds = some ns → ds = ns.map .int
  | [], ns, h => by cases h; rfl
  | .int i :: ds, ns, h => by
    rw [intsOf] at h
    obtain ⟨ms, h1, rfl⟩ := Option.map_eq_some_iff.mp h
    rw [intsOf_eq h1]; rfl
  | .none :: ds, _, h => by cases h
  | .bool _ :: ds, _, h => by cases h
  | .str _ :: ds, _, h => by cases h
  | .list _ :: ds, _, h => by cases h
  | .tuple _ :: ds, _, h => by cases h
  | .dict _ :: ds, _, h => by cases h
def opAdd : D → D → Option D
  | .int a, .int b => some (.int (a + b))
  | .str a, .str b => if a.length + b.length < 16000000 then some (.str (a ++ b)) else none
  | .tuple a, .tuple b => if a.length + b.length < 16000000 then some (.tuple (a ++ b)) else none
  | .list a, .list b => if a.length + b.length < 16000000 then some (.list (a ++ b)) else none
  | _, _ => none
def opSub : D → D → Option D
  | .int a, .int b => some (.int (a - b))
  | _, _ => none
def opMul : D → D → Option D
  | .int a, .int b => if (-(2 ^ 64) < a ∧ a < 2 ^ 64) ∨ (-(2 ^ 64) < b ∧ b < 2 ^ 64) then some (.int (a * b)) else none
  | _, _ => none
def opDiv : D → D → Option D
  | .int a, .int b => if 0 < b ∧ b < 1073741824 then some (.int (a / b)) else none
  | _, _ => none
def opMod : D → D → Option D
  | .int a, .int b => if 0 < b then some (.int (a % b)) else none
  | _, _ => none
def opPow : D → D → Option D
  | .int a, .int b => if 0 ≤ b ∧ b ≤ 1000000 ∧ a.natAbs < 2 ^ 64 then some (.int (a ^ b.toNat)) else none
  | _, _ => none
def opShl : D → D → Option D
  | .int a, .int b => if 0 ≤ b ∧ b ≤ 1000000 ∧ a.natAbs < 2 ^ 64 then some (.int (a * 2 ^ b.toNat)) else none
  | _, _ => none
def opShr : D → D → Option D
  | .int a, .int b => if 0 ≤ b then some (.int (a / 2 ^ b.toNat)) else none
  | _, _ => none
def opBand : D → D → Option D
  | .int a, .int b => some (.int (Builtin.bitAnd a b))
  | _, _ => none
def opBor : D → D → Option D
  | .int a, .int b => some (.int (Builtin.bitOr a b))
  | _, _ => none
def opBxor : D → D → Option D
  | .int a, .int b => some (.int (Builtin.bitXor a b))
  | _, _ => none
def opMulS : D → D → Option D
  | .str z, .int n => if 2 ≤ n ∧ n ≤ 1000 ∧ 1 ≤ z.length ∧ z.length ≤ 1000 ∧ (repS z n.toNat).length ≤ 16000000 then some (.str (repS z n.toNat)) else none
  | _, _ => none
def opLt : D → D → Option D
  | .int a, .int b => some (.bool (decide (a < b)))
  | .str a, .str b => some (.bool (decide (a.cps.toList < b.cps.toList)))
  | .tuple a, .tuple b => match intsOf a, intsOf b with
    | some a, some b => some (.bool (HT.lexLt a b))
    | _, _ => none
  | _, _ => none
def opLe : D → D → Option D
  | .int a, .int b => some (.bool (decide (a ≤ b)))
  | .str a, .str b => some (.bool (!decide (b.cps.toList < a.cps.toList)))
  | .tuple a, .tuple b => match intsOf a, intsOf b with
    | some a, some b => some (.bool (!HT.lexLt b a))
    | _, _ => none
  | _, _ => none
def opGt : D → D → Option D
  | .int a, .int b => some (.bool (decide (b < a)))
  | .str a, .str b => some (.bool (decide (b.cps.toList < a.cps.toList)))
  | _, _ => none
def opGe : D → D → Option D
  | .int a, .int b => some (.bool (decide (b ≤ a)))
  | .str a, .str b => some (.bool (!decide (a.cps.toList < b.cps.toList)))
  | _, _ => none
def opEq (x y : D) : Option D := if SeqAt.shaped x && SeqAt.shaped y then some (.bool (PyData.eqv x y)) else none
def opNe (x y : D) : Option D := if SeqAt.shaped x && SeqAt.shaped y then some (.bool (!PyData.eqv x y)) else none
def flatD : D → Bool
  | .none => true
  | .bool _ => true
  | .int _ => true
  | .str _ => true
  | _ => false
def inD (x : D) (xs : List D) : Bool := xs.any fun z => PyData.eqv z x
def opIn (neg : Bool) (x : D) : D → Option D
  | .list xs => if SeqAt.shaped x && SeqAt.shaped (.list xs) then some (.bool (if neg then !inD x xs else inD x xs)) else none
  | .tuple xs => if flatD x && xs.all flatD then some (.bool (if neg then !inD x xs else inD x xs)) else none
  | .str z => (match x with
    | .str s => (match s.cps.toList with
      | [c] => some (.bool (if neg then !decide (c ∈ z.cps.toList) else decide (c ∈ z.cps.toList)))
      | _ => none)
    | _ => none)
  | _ => none
def opIsN : D → D → Option D
  | x, .none => some (.bool (isN x))
  | _, _ => none
def opIsNotN : D → D → Option D
  | x, .none => some (.bool (!isN x))
  | _, _ => none
def opIx : D → D → Option D
  | .list xs, .int i => atI xs i
  | .tuple xs, .int i => atI xs i
  | .str z, .int i => if z.length ≤ 16000000 then (atI z.cps.toList i).map fun c => .str ⟨#[c]⟩ else none
  | _, _ => none
def MOp (K : Fg) (r : R2) (f : D → D → Option D) : Prop := ∀ (en : En) (ta tb : TE) (x y z : D), EvD K ta en x → EvD K tb en y → f x y = some z → EvD K (tOp r ta tb) en z
section
variable {K : Fg}
theorem lim_le {n : Nat} (h : n < 16000000) : n ≤ sizeLine := by
  have hs : sizeLine = 16777216 := sizeLine_eq
  omega
theorem lim_le' {n : Nat} (h : n ≤ 16000000) : n ≤ sizeLine := by
  have hs : sizeLine = 16777216 := sizeLine_eq
  omega
theorem mo_of {r : R2} {f : D → D → Option D} (h : ∀ x y z, f x y = some z → RD2 K r x y z) : MOp K r f := fun en ta tb x y z hx hy e => ev_op hx hy (h x y z e)
theorem mo_add : MOp K (rAddU K) opAdd := fun en ta tb x y z hx hy e => by
  unfold opAdd at e
  split at e
  · cases e; exact ev_op hx hy rd_addI
  · split at e
    · cases e; exact ev_op hx hy (rd_addS (lim_le (by assumption)))
    · cases e
  · split at e
    · cases e; exact ev_op hx hy (rd_addT (lim_le (by assumption)))
    · cases e
  · split at e
    · cases e; exact ev_new (en_addL hx hy (lim_le (by assumption)))
    · cases e
  · cases e
theorem mo_sub : MOp K rSubU opSub := mo_of fun x y z e => by
  unfold opSub at e
  split at e
  · cases e; exact rd_subU
  · cases e
theorem mo_mul : MOp K rMulU opMul := mo_of fun x y z e => by
  unfold opMul at e
  split at e
  · split at e
    · cases e; exact rd_mulU (by assumption)
    · cases e
  · cases e
theorem mo_div : MOp K rDivU opDiv := mo_of fun x y z e => by
  unfold opDiv at e
  split at e
  · split at e
    · cases e; exact rd_divU (by assumption)
    · cases e
  · cases e
theorem mo_mod : MOp K rModU opMod := mo_of fun x y z e => by
  unfold opMod at e
  split at e
  · split at e
    · cases e; exact rd_modU (by assumption)
    · cases e
  · cases e
theorem mo_pow : MOp K rPowU opPow := mo_of fun x y z e => by
  unfold opPow at e
  split at e
  · split at e
    · cases e; exact rd_powU (by assumption)
    · cases e
  · cases e
theorem mo_shl : MOp K rShlU opShl := mo_of fun x y z e => by
  unfold opShl at e
  split at e
  · split at e
    · cases e; exact rd_shlU (by assumption)
    · cases e
  · cases e
theorem mo_shr : MOp K rShrU opShr := mo_of fun x y z e => by
  unfold opShr at e
  split at e
  · split at e
    · cases e; exact rd_shrU (by assumption)
    · cases e
  · cases e
theorem mo_band : MOp K rBandU opBand := mo_of fun x y z e => by
  unfold opBand at e
  split at e
  · cases e; exact rd_bandU
  · cases e
theorem mo_bor : MOp K rBorU opBor := mo_of fun x y z e => by
  unfold opBor at e
  split at e
  · cases e; exact rd_borU
  · cases e
theorem mo_bxor : MOp K rBxorU opBxor := mo_of fun x y z e => by
  unfold opBxor at e
  split at e
  · cases e; exact rd_bxorU
  · cases e
theorem mo_mulS : MOp K rMulS opMulS := mo_of fun x y z e => by
  unfold opMulS at e
  split at e
  · rename_i z n
    split at e
    · rename_i h
      cases e
      obtain ⟨h1, h2, h3, h4, h5⟩ := h
      have q := @rd_mulS K z n.toNat (by omega) (by omega) h3 h4 (lim_le' h5)
      have e : ((n.toNat : Nat) : Int) = n := by omega
      rw [e] at q
      exact q
    · cases e
  · cases e
theorem mo_lt : MOp K (rLtU K) opLt := mo_of fun x y z e => by
  unfold opLt at e
  split at e
  · cases e; exact rd_ltI
  · cases e; exact rd_ltS
  · split at e
    · rename_i h1 h2
      cases e
      rw [intsOf_eq h1, intsOf_eq h2]
      exact rd_ltT
    · cases e
  · cases e
theorem mo_le : MOp K (rLeU K) opLe := mo_of fun x y z e => by
  unfold opLe at e
  split at e
  · cases e; exact rd_leI
  · cases e; exact rd_leS
  · split at e
    · rename_i h1 h2
      cases e
      rw [intsOf_eq h1, intsOf_eq h2, ← leB_eq]
      exact rd_leT
    · cases e
  · cases e
theorem mo_gt : MOp K rGtU opGt := mo_of fun x y z e => by
  unfold opGt at e
  split at e
  · cases e; exact rd_gtI
  · cases e; exact rd_gtS
  · cases e
theorem mo_ge : MOp K rGeU opGe := mo_of fun x y z e => by
  unfold opGe at e
  split at e
  · cases e; exact rd_geI
  · cases e; exact rd_geS
  · cases e
theorem mo_eq : MOp K (rEqD K) opEq := mo_of fun x y z e => by
  unfold opEq at e
  split at e
  · rename_i h
    rw [Bool.and_eq_true] at h
    cases e; exact rd_eq h.1 h.2
  · cases e
theorem mo_ne : MOp K (rNeD K) opNe := mo_of fun x y z e => by
  unfold opNe at e
  split at e
  · rename_i h
    rw [Bool.and_eq_true] at h
    cases e; exact rd_ne h.1 h.2
  · cases e
theorem flat_v {H : Hp} {v : V} {d : D} (h : Dq K H v d) (f : flatD d = true) : flatV v = true := by
  cases h <;> first | rfl | cases f
theorem flat_eq {H : Hp} {v w : V} {d e : D} (h : Dq K H v d) (g : Dq K H w e) (f : flatD d = true) (f2 : flatD e = true) : eqV v w = PyData.eqv d e := by
  cases h <;> first | (cases f; done) | (cases g <;> first | (cases f2; done) | simp [eqV, PyData.eqv])
theorem flat_all {H : Hp} : ∀ {vs : List V} {ds : List D}, DqAll K H vs ds → ds.all flatD = true → vs.all flatV = true
  | _, _, .nil, _ => rfl
  | _, _, .cons h t, f => by
    rw [List.all_cons, Bool.and_eq_true] at f
    rw [List.all_cons, flat_v h f.1, flat_all t f.2]; rfl
theorem flat_any {H : Hp} {v : V} {d : D} (hv : Dq K H v d) (fd : flatD d = true) : ∀ {vs : List V} {ds : List D}, DqAll K H vs ds → ds.all flatD = true → inV v vs = inD d ds
  | _, _, .nil, _ => rfl
  | _, _, .cons (v := w) (d := e) h t, f => by
    rw [List.all_cons, Bool.and_eq_true] at f
    unfold inV inD
    rw [List.any_cons, List.any_cons, flat_eq h hv f.1 fd]
    have := flat_any hv fd t f.2
    unfold inV inD at this
    rw [this]
theorem rd_inT {neg : Bool} {x : D} {xs : List D} (fx : flatD x = true) (fs : xs.all flatD = true) : RD2 K (rIn K neg) x (.tuple xs) (.bool (if neg then !inD x xs else inD x xs)) := fun A H v w l dx dy Q k => by
  obtain ⟨a, us, rfl, hs, hd⟩ := dp_tup dy
  have q := k (.bl (if neg then !inD x xs else inD x xs)) H (Grow.refl H) (.bl _)
  rw [← flat_any dx fx hd fs] at q
  exact ⟨a, us, rfl, .inr (st_mono hide_sub hs), flat_v dx fx, flat_all hd fs, q⟩
theorem one_sign {w : Str} {c : Nat} (h : w.cps.toList = [c]) : w = ⟨#[c]⟩ := by
  cases w
  have : (⟨_⟩ : Str).cps = #[c] := Array.toList_inj.mp h
  rw [← this]
theorem rd_inSg {c : Nat} {z : Str} : RD2 K (rInU K) (.str ⟨#[c]⟩) (.str z) (.bool (decide (c ∈ z.cps.toList))) := rd_right <| rd_right fun A H v w l dx dy Q k => ⟨c, z, dp_str dx, dp_str dy, k _ H (Grow.refl H) (.bl _)⟩
theorem rd_notInSg {c : Nat} {z : Str} : RD2 K (rNotInU K) (.str ⟨#[c]⟩) (.str z) (.bool (!decide (c ∈ z.cps.toList))) := rd_right <| rd_right fun A H v w l dx dy Q k => ⟨c, z, dp_str dx, dp_str dy, k _ H (Grow.refl H) (.bl _)⟩
theorem mo_in : MOp K (rInU K) (opIn false) := mo_of fun x y z e => by
  unfold opIn at e
  split at e
  · split at e
    · rename_i h
      rw [Bool.and_eq_true] at h
      cases e; exact rd_inD h.1 h.2
    · cases e
  · split at e
    · rename_i h
      rw [Bool.and_eq_true] at h
      cases e; exact rd_left (rd_inT h.1 h.2)
    · cases e
  · split at e
    · split at e
      · rename_i h
        cases e
        rw [one_sign h]
        exact rd_inSg
      · cases e
    · cases e
  · cases e
theorem mo_notIn : MOp K (rNotInU K) (opIn true) := mo_of fun x y z e => by
  unfold opIn at e
  split at e
  · split at e
    · rename_i h
      rw [Bool.and_eq_true] at h
      cases e; exact rd_notInD h.1 h.2
    · cases e
  · split at e
    · rename_i h
      rw [Bool.and_eq_true] at h
      cases e; exact rd_left (rd_inT h.1 h.2)
    · cases e
  · split at e
    · split at e
      · rename_i h
        cases e
        rw [one_sign h]
        exact rd_notInSg
      · cases e
    · cases e
  · cases e
theorem mo_isN : MOp K rIsNU opIsN := mo_of fun x y z e => by
  unfold opIsN at e
  split at e
  · cases e; exact rd_isN
  · cases e
theorem mo_isNotN : MOp K rIsNotNU opIsNotN := mo_of fun x y z e => by
  unfold opIsNotN at e
  split at e
  · cases e; exact rd_notN
  · cases e
theorem mo_ix : MOp K (rIx K) opIx := mo_of fun x y z e => by
  unfold opIx at e
  split at e
  · exact rd_ixL e
  · exact rd_ixT e
  · split at e
    · rename_i h
      obtain ⟨c, h1, rfl⟩ := Option.map_eq_some_iff.mp e
      exact rd_ixS (lim_le' h) h1
    · cases e
  · cases e
end
end HF

set_option Elab.async false
set_option linter.all false
set_option maxRecDepth 100000
set_option maxHeartbeats 2000000
/-! M2: mirrors of expressions and statements. -/
namespace HF
open PySem L2 PySem.Spec PyProof.Rows
section
variable {K : Fg} {te ta tb tc : TE} {tt tu : TT} {r r' : R2} {fe fa fb fc : XE} {ft fu : XT} {o o' : D → D → Option D}
/-! ### expressions -/
def mC (d : D) : XE := fun _ => some d
theorem me_int {n : Int} : ME K (tC (.int n)) (mC (.int n)) := fun en d e => by cases e; exact ev_int
theorem me_str {n : Str} : ME K (tC (.str n)) (mC (.str n)) := fun en d e => by cases e; exact ev_str
theorem me_bl {n : Bool} : ME K (tC (.bl n)) (mC (.bool n)) := fun en d e => by cases e; exact ev_bl
theorem me_non : ME K (tC .non) (mC .none) := fun en d e => by cases e; exact ev_non
def mVar (i : Nat) : XE := fun en => match en[i]? with
  | some (some (.sh d)) => some d
  | _ => none
theorem me_var {i : Nat} : ME K (tVar i) (mVar i) := fun en d e => by
  unfold mVar at e
  split at e
  · cases e; exact ev_var (by assumption)
  · cases e
def mOp (o : D → D → Option D) (fa fb : XE) : XE := fun en => match fa en with
  | some x => (match fb en with
    | some y => o x y
    | none => none)
  | none => none
theorem me_op (h : MOp K r o) (ha : ME K ta fa) (hb : ME K tb fb) : ME K (tOp r ta tb) (mOp o fa fb) := fun en d e => by
  unfold mOp at e
  split at e
  · split at e
    · exact h en ta tb _ _ _ (ha en _ (by assumption)) (hb en _ (by assumption)) e
    · cases e
  · cases e
def mNeg (fa : XE) : XE := fun en => match fa en with
  | some (.int i) => some (.int (-i))
  | _ => none
theorem me_neg (ha : ME K ta fa) : ME K (tUn rNegU ta) (mNeg fa) := fun en d e => by
  unfold mNeg at e
  split at e
  · cases e; exact ev_un (ha en _ (by assumption)) rd_negU
  · cases e
def truM : D → Option Bool
  | .str z => if z.length ≤ 16000000 then some (truD (.str z)) else none
  | .dict _ => none
  | d => some (truD d)
theorem truM_ok {d : D} {b : Bool} (h : truM d = some b) : truOk d ∧ truD d = b := by
  unfold truM at h
  split at h
  · split at h
    · cases h; exact ⟨lim_le' (by assumption), rfl⟩
    · cases h
  · cases h
  · cases h
    rename_i h1 h2
    refine ⟨?_, rfl⟩
    cases d <;> first | exact True.intro | exact (h1 _ rfl).elim | exact (h2 _ rfl).elim
def mNotT (fa : XE) : XE := fun en => match fa en with
  | some x => (truM x).map fun b => .bool (!b)
  | none => none
theorem me_notT (ha : ME K ta fa) : ME K (tNotT K ta) (mNotT fa) := fun en d e => by
  unfold mNotT at e
  split at e
  · obtain ⟨b, h, rfl⟩ := Option.map_eq_some_iff.mp e
    obtain ⟨h1, h2⟩ := truM_ok h
    rw [← h2]
    exact ev_notT (ha en _ (by assumption)) h1
  · cases e
def mAnd (fa fb : XE) : XE := fun en => match fa en with
  | some (.bool true) => (match fb en with
    | some (.bool b) => some (.bool b)
    | _ => none)
  | some (.bool false) => some (.bool false)
  | _ => none
theorem me_and (ha : ME K ta fa) (hb : ME K tb fb) : ME K (tAndV ta tb) (mAnd fa fb) := fun en d e => by
  unfold mAnd at e
  split at e
  · split at e
    · rename_i b _
      cases e; exact ev_and (a := true) (ha en _ (by assumption)) fun _ => hb en _ (by assumption)
    · cases e
  · cases e; exact ev_and (a := false) (b := false) (ha en _ (by assumption)) fun h => by cases h
  · cases e
def mOr (fa fb : XE) : XE := fun en => match fa en with
  | some (.bool false) => (match fb en with
    | some (.bool b) => some (.bool b)
    | _ => none)
  | some (.bool true) => some (.bool true)
  | _ => none
theorem me_or (ha : ME K ta fa) (hb : ME K tb fb) : ME K (tOrV ta tb) (mOr fa fb) := fun en d e => by
  unfold mOr at e
  split at e
  · split at e
    · rename_i b _
      cases e; exact ev_or (a := false) (ha en _ (by assumption)) fun _ => hb en _ (by assumption)
    · cases e
  · cases e; exact ev_or (a := true) (b := false) (ha en _ (by assumption)) fun h => by cases h
  · cases e
def mNot (fa : XE) : XE := fun en => match fa en with
  | some (.bool b) => some (.bool (!b))
  | _ => none
def mIf (ft : XT) (fa fb : XE) : XE := fun en => match ft en with
  | some true => fa en
  | some false => fb en
  | none => none
theorem me_if (h : MT K tt ft) (ha : ME K ta fa) (hb : ME K tb fb) : ME K (tIf tt ta tb) (mIf ft fa fb) := fun en d e => by
  unfold mIf at e
  split at e
  · exact ev_if (b := true) (h en _ (by assumption)) (fun _ => ha en _ e) fun q => by cases q
  · exact ev_if (b := false) (h en _ (by assumption)) (fun q => by cases q) fun _ => hb en _ e
  · cases e
def mChain (o o' : D → D → Option D) (fa fb fc : XE) : XE := fun en => match fa en with
  | some x => (match fb en with
    | some y => (match o x y with
      | some (.bool true) => (match fc en with
        | some z => (match o' y z with
          | some (.bool b) => some (.bool b)
          | _ => none)
        | none => none)
      | some (.bool false) => some (.bool false)
      | _ => none)
    | none => none)
  | none => none
theorem me_chain (h : ∀ x y z, o x y = some z → RD2 K r x y z) (h' : ∀ x y z, o' x y = some z → RD2 K r' x y z) (ha : ME K ta fa) (hb : ME K tb fb) (hc : ME K tc fc) : ME K (tChain r r' ta tb tc) (mChain o o' fa fb fc) := fun en d e => by
  unfold mChain at e
  split at e
  · rename_i x hx
    split at e
    · rename_i y hy
      split at e
      · rename_i h1
        split at e
        · rename_i z hz
          split at e
          · rename_i b h2
            cases e
            exact ev_chain (a := true) (ha en _ hx) (hb en _ hy) (fun _ => hc en _ hz) (h _ _ _ h1) fun _ => h' _ _ _ h2
          · cases e
        · cases e
      · rename_i h1
        cases e
        exact ev_chain (a := false) (b := false) (z := .none) (ha en _ hx) (hb en _ hy) (fun q => by cases q) (h _ _ _ h1) fun q => by cases q
      · cases e
    · cases e
  · cases e
theorem rdm_lt : ∀ x y z, opLt x y = some z → RD2 K (rLtU K) x y z := fun x y z e => by
  unfold opLt at e
  split at e
  · cases e; exact rd_ltI
  · cases e; exact rd_ltS
  · split at e
    · rename_i h1 h2
      cases e
      rw [intsOf_eq h1, intsOf_eq h2]
      exact rd_ltT
    · cases e
  · cases e
theorem rdm_le : ∀ x y z, opLe x y = some z → RD2 K (rLeU K) x y z := fun x y z e => by
  unfold opLe at e
  split at e
  · cases e; exact rd_leI
  · cases e; exact rd_leS
  · split at e
    · rename_i h1 h2
      cases e
      rw [intsOf_eq h1, intsOf_eq h2, ← leB_eq]
      exact rd_leT
    · cases e
  · cases e
/-! arguments, displays -/
def mNil : XA := fun _ => some []
theorem ma_nil : MA K tNil mNil := fun en ds e => by cases e; exact ea_nil
def mCons (f : XE) (g : XA) : XA := fun en => match f en with
  | some d => (match g en with
    | some ds => some (d :: ds)
    | none => none)
  | none => none
theorem ma_cons {t : TA} {g : XA} (h : ME K ta fa) (hs : MA K t g) : MA K (tCons ta t) (mCons fa g) := fun en ds e => by
  unfold mCons at e
  split at e
  · split at e
    · cases e; exact ea_cons (h en _ (by assumption)) (hs en _ (by assumption))
    · cases e
  · cases e
def mTup (g : XA) : XE := fun en => match g en with
  | some ds => if ds.length < 16000000 then some (.tuple ds) else none
  | none => none
theorem me_tup {t : TA} {g : XA} (h : MA K t g) : ME K (tTup t) (mTup g) := fun en ds e => by
  unfold mTup at e
  split at e
  · split at e
    · cases e; exact ev_tup (h en _ (by assumption)) (lim_le (by assumption))
    · cases e
  · cases e
def mLst (g : XA) : XA := fun en => match g en with
  | some ds => if ds.length < 16000000 then some ds else none
  | none => none
theorem mn_lst {t : TA} {g : XA} (h : MA K t g) : MN K (tLst t) (mLst g) := fun en ds e => by
  unfold mLst at e
  split at e
  · split at e
    · cases e; exact en_lst (h en _ (by assumption)) (lim_le (by assumption))
    · cases e
  · cases e
/-- a new list as a value -/
def mNew (g : XA) : XE := fun en => (g en).map .list
theorem me_new {g : XA} (h : MN K te g) : ME K te (mNew g) := fun en d e => by
  obtain ⟨ds, h1, rfl⟩ := Option.map_eq_some_iff.mp e
  exact ev_new (h en _ h1)
/-- calls of built-ins -/
def MCl (K : Fg) (r : List V → Hp → VK → Prop) (f : List D → Option D) : Prop := ∀ (en : En) (t : TA) (ds : List D) (z : D), EvA K t en ds → f ds = some z → EvD K (tCB r t) en z
def mCall (f : List D → Option D) (g : XA) : XE := fun en => match g en with
  | some ds => f ds
  | none => none
theorem me_call {t : TA} {g : XA} {rc : List V → Hp → VK → Prop} {f : List D → Option D} (h : MCl K rc f) (hs : MA K t g) : ME K (tCB rc t) (mCall f g) := fun en d e => by
  unfold mCall at e
  split at e
  · exact h en t _ _ (hs en _ (by assumption)) e
  · cases e
def clLen : List D → Option D
  | [.list xs] => some (.int xs.length)
  | [.tuple xs] => some (.int xs.length)
  | [.str z] => if z.length ≤ 16000000 then some (.int z.length) else none
  | _ => none
theorem mcl_of {rc : List V → Hp → VK → Prop} {f : List D → Option D} (h : ∀ ds z, f ds = some z → RDC K rc ds z) : MCl K rc f := fun en t ds z hs e => ev_call hs (h ds z e)
theorem mc_len : MCl K (rLenU K) clLen := mcl_of fun ds z e => by
  unfold clLen at e
  split at e
  · cases e; exact rc_lenL
  · cases e; exact rc_lenT
  · split at e
    · cases e; exact rc_lenS (lim_le' (by assumption))
    · cases e
  · cases e
def clInt : List D → Option D
  | [.int i] => some (.int i)
  | [.bool b] => some (.int (if b then 1 else 0))
  | _ => none
theorem mc_int : MCl K rInt1U clInt := mcl_of fun ds z e => by
  unfold clInt at e
  split at e
  · cases e; exact rc_int
  · cases e; exact rc_intB
  · cases e
def clOrd : List D → Option D
  | [.str z] => (match z.cps.toList with
    | [c] => some (.int (c : Nat))
    | _ => none)
  | _ => none
theorem mc_ord : MCl K rOrdU clOrd := mcl_of fun ds z e => by
  unfold clOrd at e
  split at e
  · rename_i w
    split at e
    · rename_i c h
      cases e
      have : w = ⟨#[c]⟩ := by
        cases w
        have : (⟨_⟩ : Str).cps = #[c] := Array.toList_inj.mp h
        rw [← this]
      rw [this]; exact rc_ord
    · cases e
  · cases e
def clTup : List D → Option D
  | [.list xs] => some (.tuple xs)
  | [.tuple xs] => some (.tuple xs)
  | _ => none
theorem mc_tup : MCl K (rTupU K) clTup := mcl_of fun ds z e => by
  unfold clTup at e
  split at e
  · cases e; exact rc_tupL
  · cases e; exact rc_tupT
  · cases e
def clMax : List D → Option D
  | [.int i, .int j] => some (.int (max i j))
  | _ => none
theorem mc_max : MCl K rMax2U clMax := mcl_of fun ds z e => by
  unfold clMax at e
  split at e
  · cases e; exact rc_max2
  · cases e
def clMin : List D → Option D
  | [.int i, .int j] => some (.int (min i j))
  | _ => none
theorem mc_min : MCl K rMin2U clMin := mcl_of fun ds z e => by
  unfold clMin at e
  split at e
  · cases e; exact rc_min2
  · cases e
/-- list(x), new -/
def mLstOf (g : XA) : XA := fun en => match g en with
  | some [.list xs] => some xs
  | some [.tuple xs] => some xs
  | _ => none
theorem mn_lstOf {t : TA} {g : XA} (h : MA K t g) : MN K (tCB (rLstU K) t) (mLstOf g) := fun en ds e => by
  unfold mLstOf at e
  split at e
  · cases e; exact en_call (h en _ (by assumption)) rc_lstL
  · cases e; exact en_call (h en _ (by assumption)) rc_lstT
  · cases e
/-- list + list, new -/
def mCat (fa fb : XE) : XA := fun en => match fa en with
  | some (.list a) => (match fb en with
    | some (.list b) => if a.length + b.length < 16000000 then some (a ++ b) else none
    | _ => none)
  | _ => none
theorem mn_cat (ha : ME K ta fa) (hb : ME K tb fb) : MN K (tOp (rAddU K) ta tb) (mCat fa fb) := fun en d e => by
  unfold mCat at e
  split at e
  · split at e
    · split at e
      · cases e; exact en_addL (ha en _ (by assumption)) (hb en _ (by assumption)) (lim_le (by assumption))
      · cases e
    · cases e
  · cases e
def mIsi (T : String) (fa : XE) : XE := fun en => match fa en with
  | some x => if isDic x then none else (kitB (tyD x) T).map .bool
  | none => none
theorem me_isi {T : String} (ha : ME K ta fa) : ME K (tCB (rIsi K) (tCons ta (tCons (tC (.ty T)) tNil))) (mIsi T fa) := fun en d e => by
  unfold mIsi at e
  split at e
  · split at e
    · cases e
    · rename_i h
      obtain ⟨b, h1, rfl⟩ := Option.map_eq_some_iff.mp e
      exact ev_isi (ha en _ (by assumption)) h1 (by simpa using h)
  · cases e
/-- calls of defs of the module -/
def RM (n : Nat) (m : List D → Option D) : List D → D → Prop := fun ds d => ds.length = n ∧ m ds = some d
def mFn (n : Nat) (m : List D → Option D) (g : XA) : XE := fun en => match g en with
  | some ds => if ds.length = n then m ds else none
  | none => none
theorem me_fn {t : TA} {g : XA} {n : Nat} {m : List D → Option D} (h : MA K t g) : ME K (tFn K (RM n m) t) (mFn n m g) := fun en d e => by
  unfold mFn at e
  split at e
  · split at e
    · exact ev_fn (h en _ (by assumption)) ⟨by assumption, e⟩
    · cases e
  · cases e
/-! slices -/
def mNoPart : XO := fun _ => some none
theorem mo_none : MO K tNoPart mNoPart := fun en o e => by cases e; exact eo_none
def mPart (f : XE) : XO := fun en => match f en with
  | some (.int i) => some (some i)
  | _ => none
theorem mo_some (h : ME K ta fa) : MO K (tPart ta) (mPart fa) := fun en o e => by
  unfold mPart at e
  split at e
  · cases e; exact eo_some (h en _ (by assumption))
  · cases e
def mSl (f : XE) (l h : XO) : XE := fun en => match f en with
  | some d => (match l en with
    | some lo => (match h en with
      | some hi => (match d with
        | .tuple xs => some (.tuple (cutD xs lo hi))
        | .list xs => some (.list (cutD xs lo hi))
        | .str z => if z.length ≤ 16000000 then some (.str (cutS z lo hi)) else none
        | _ => none)
      | none => none)
    | none => none)
  | none => none
theorem me_sl {tl th : TO} {l h : XO} (ha : ME K ta fa) (hl : MO K tl l) (hh : MO K th h) : ME K (tSl (rSlU K) ta tl th) (mSl fa l h) := fun en d e => by
  unfold mSl at e
  split at e
  · split at e
    · split at e
      · split at e
        · cases e; exact ev_slT (ha en _ (by assumption)) (hl en _ (by assumption)) (hh en _ (by assumption))
        · cases e; exact ev_new (en_slL (ha en _ (by assumption)) (hl en _ (by assumption)) (hh en _ (by assumption)))
        · split at e
          · cases e; exact ev_slS (ha en _ (by assumption)) (lim_le' (by assumption)) (hl en _ (by assumption)) (hh en _ (by assumption))
          · cases e
        · cases e
      · cases e
    · cases e
  · cases e
def mSlN (f : XE) (l h : XO) : XA := fun en => match mSl f l h en with
  | some (.list xs) => some xs
  | _ => none
theorem mn_sl {tl th : TO} {l h : XO} (ha : ME K ta fa) (hl : MO K tl l) (hh : MO K th h) : MN K (tSl (rSlU K) ta tl th) (mSlN fa l h) := fun en ds e => by
  unfold mSlN mSl at e
  split at e
  · rename_i xs h1
    cases e
    split at h1
    · split at h1
      · split at h1
        · split at h1
          · cases h1
          · cases h1; exact en_slL (ha en _ (by assumption)) (hl en _ (by assumption)) (hh en _ (by assumption))
          · split at h1 <;> cases h1
          · cases h1
        · cases h1
      · cases h1
    · cases h1
  · cases e
/-! ### tests -/
def mTest (f : XE) : XT := fun en => match f en with
  | some (.bool b) => some b
  | _ => none
theorem mt_test (h : ME K ta fa) : MT K (tTest ta) (mTest fa) := fun en b e => by
  unfold mTest at e
  split at e
  · cases e; exact et_test (h en _ (by assumption))
  · cases e
def mTru (f : XE) : XT := fun en => match f en with
  | some d => truM d
  | none => none
theorem mt_tru (h : ME K ta fa) : MT K (tTruU K ta) (mTru fa) := fun en b e => by
  unfold mTru at e
  split at e
  · obtain ⟨h1, h2⟩ := truM_ok e
    rw [← h2]
    exact et_tru (h en _ (by assumption)) h1
  · cases e
def mYes : XT := fun _ => some true
theorem mt_yes : MT K tYes mYes := fun en b e => by cases e; exact et_yes
def mTAnd (f g : XT) : XT := fun en => match f en with
  | some true => g en
  | some false => some false
  | none => none
theorem mt_and (h : MT K tt ft) (h' : MT K tu fu) : MT K (tAnd tt tu) (mTAnd ft fu) := fun en b e => by
  unfold mTAnd at e
  split at e
  · exact et_and (a := true) (h en _ (by assumption)) fun _ => h' en _ e
  · cases e; exact et_and (a := false) (b := false) (h en _ (by assumption)) fun q => by cases q
  · cases e
def mTOr (f g : XT) : XT := fun en => match f en with
  | some false => g en
  | some true => some true
  | none => none
theorem mt_or (h : MT K tt ft) (h' : MT K tu fu) : MT K (tOr tt tu) (mTOr ft fu) := fun en b e => by
  unfold mTOr at e
  split at e
  · exact et_or (a := false) (h en _ (by assumption)) fun _ => h' en _ e
  · cases e; exact et_or (a := true) (b := false) (h en _ (by assumption)) fun q => by cases q
  · cases e
def mTNot (f : XT) : XT := fun en => (f en).map (!·)
theorem mt_not (h : MT K tt ft) : MT K (tNot tt) (mTNot ft) := fun en b e => by
  obtain ⟨c, h1, rfl⟩ := Option.map_eq_some_iff.mp e
  exact et_not (h en _ h1)
/-! ### what is walked -/
def mItL (f : XE) : XA := fun en => match f en with
  | some (.list xs) => some xs
  | _ => none
theorem mi_list (h : ME K ta fa) : MI K (iList K ta) (mItL fa) := fun en ds e => by
  unfold mItL at e
  split at e
  · cases e; exact ei_list (h en _ (by assumption))
  · cases e
def mItT (f : XE) : XA := fun en => match f en with
  | some (.tuple xs) => some xs
  | _ => none
theorem mi_tup (h : ME K ta fa) : MI K (iTup K ta) (mItT fa) := fun en ds e => by
  unfold mItT at e
  split at e
  · cases e; exact ei_tup (h en _ (by assumption))
  · cases e
def mItS (f : XE) : XA := fun en => match f en with
  | some (.str z) => some (signsD z)
  | _ => none
theorem mi_str (h : ME K ta fa) : MI K (iStr ta) (mItS fa) := fun en ds e => by
  unfold mItS at e
  split at e
  · cases e; exact ei_str (h en _ (by assumption))
  · cases e
def mRng1 (g : XA) : XA := fun en => match g en with
  | some [.int n] => if -1000000 ≤ n ∧ n ≤ 1000000 then some (rngD 0 n.toNat) else none
  | _ => none
theorem mi_rng1 {t : TA} {g : XA} (h : MA K t g) : MI K (iRng1 t) (mRng1 g) := fun en ds e => by
  unfold mRng1 at e
  split at e
  · split at e
    · cases e; exact ei_rng1 (h en _ (by assumption)) (by assumption)
    · cases e
  · cases e
def mRng2 (g : XA) : XA := fun en => match g en with
  | some [.int m, .int n] => if (-1000000 ≤ m ∧ m ≤ 1000000) ∧ (-1000000 ≤ n ∧ n ≤ 1000000) then some (rngD m (n - m).toNat) else none
  | _ => none
theorem mi_rng2 {t : TA} {g : XA} (h : MA K t g) : MI K (iRng2 t) (mRng2 g) := fun en ds e => by
  unfold mRng2 at e
  split at e
  · split at e
    · rename_i q
      cases e; exact ei_rng2 (h en _ (by assumption)) q.1 q.2
    · cases e
  · cases e
def mEnum (g : XA) : XA := fun en => match g en with
  | some [.list xs] => some (enumD xs)
  | _ => none
theorem mi_enum {t : TA} {g : XA} (h : MA K t g) : MI K (iEnum K t) (mEnum g) := fun en ds e => by
  unfold mEnum at e
  split at e
  · cases e; exact ei_enum (h en _ (by assumption))
  · cases e
def mZip (g : XA) : XA := fun en => match g en with
  | some [.list xs, .list ys] => some (pairsD xs ys)
  | _ => none
theorem mi_zip {t : TA} {g : XA} (h : MA K t g) : MI K (iZip K t) (mZip g) := fun en ds e => by
  unfold mZip at e
  split at e
  · cases e; exact ei_zip (h en _ (by assumption))
  · cases e
def mEz (g : XA) : XA := fun en => match g en with
  | some [.tuple xs, .tuple ys] => some (enumD (pairsD xs ys))
  | _ => none
theorem mi_ez {t : TA} {g : XA} (h : MA K t g) : MI K (iEz K t) (mEz g) := fun en ds e => by
  unfold mEz at e
  split at e
  · cases e; exact ei_ez (h en _ (by assumption))
  · cases e
/-! ### targets -/
def mgName (i : Nat) : XG := fun d en => some (en.set i (some (.sh d)))
theorem mg_name {i : Nat} : MG K (gName i) (mgName i) := fun d en en' e => by cases e; exact gd_name
def mgNil : XGs := fun ds en => match ds with
  | [] => some en
  | _ => none
theorem mgs_nil : MGs K gNil mgNil := fun ds en en' e => by
  unfold mgNil at e
  split at e
  · cases e; exact gds_nil
  · cases e
def mgCons (g : XG) (gs : XGs) : XGs := fun ds en => match ds with
  | d :: ds => (match g d en with
    | some e => gs ds e
    | none => none)
  | [] => none
theorem mgs_cons {g : TG} {gs : TGs} {f : XG} {fs : XGs} (h : MG K g f) (hs : MGs K gs fs) : MGs K (gCons g gs) (mgCons f fs) := fun ds en en' e => by
  unfold mgCons at e
  split at e
  · split at e
    · exact gds_cons (h _ _ _ (by assumption)) (hs _ _ _ e)
    · cases e
  · cases e
def mgTup (n : Nat) (gs : XGs) : XG := fun d en => match d with
  | .tuple ds => if ds.length = n then gs ds en else none
  | _ => none
theorem mg_tup {n : Nat} {gs : TGs} {fs : XGs} (h : MGs K gs fs) : MG K (gTup K n gs) (mgTup n fs) := fun d en en' e => by
  unfold mgTup at e
  split at e
  · split at e
    · exact gd_tup (h _ _ _ e) (by assumption)
    · cases e
  · cases e
/-! ### comprehensions -/
def lcGo (xg : XG) (xt : XT) (xe : XE) (e0 : En) : List D → Option (List D)
  | [] => some []
  | x :: xs => match xg x e0 with
    | some e1 => (match xt e1 with
      | some true => (match xe e1 with
        | some y => (lcGo xg xt xe e0 xs).map (y :: ·)
        | none => none)
      | some false => lcGo xg xt xe e0 xs
      | none => none)
    | none => none
def lcF (xg : XG) (xt : XT) (e0 : En) (x : D) : Bool := ((xg x e0).bind xt).getD false
def lcH (xg : XG) (xe : XE) (e0 : En) (x : D) : D := ((xg x e0).bind xe).getD .none
theorem lcGo_ok {xg : XG} {xt : XT} {xe : XE} {e0 : En} : ∀ {xs ys : List D}, lcGo xg xt xe e0 xs = some ys → ys = (xs.filter (lcF xg xt e0)).map (lcH xg xe e0) ∧
    ∀ x ∈ xs, ∃ e1, xg x e0 = some e1 ∧ xt e1 = some (lcF xg xt e0 x) ∧ (lcF xg xt e0 x = true → xe e1 = some (lcH xg xe e0 x))
  | [], ys, h => by cases h; exact ⟨rfl, fun x hx => by cases hx⟩
  | x :: xs, ys, h => by
    unfold lcGo at h
    split at h
    · rename_i e1 h1
      split at h
      · rename_i h2
        split at h
        · rename_i y h3
          obtain ⟨zs, h4, rfl⟩ := Option.map_eq_some_iff.mp h
          obtain ⟨i1, i2⟩ := lcGo_ok h4
          have f : lcF xg xt e0 x = true := by unfold lcF; rw [h1]; show (xt e1).getD false = true; rw [h2]; rfl
          have g : lcH xg xe e0 x = y := by unfold lcH; rw [h1]; show (xe e1).getD .none = y; rw [h3]; rfl
          refine ⟨by rw [List.filter_cons, f, if_pos rfl, List.map_cons, g, ← i1], fun z hz => ?_⟩
          rcases List.mem_cons.mp hz with rfl | hz
          · exact ⟨e1, h1, by rw [f]; exact h2, fun _ => by rw [g]; exact h3⟩
          · exact i2 z hz
        · cases h
      · rename_i h2
        obtain ⟨i1, i2⟩ := lcGo_ok h
        have f : lcF xg xt e0 x = false := by unfold lcF; rw [h1]; show (xt e1).getD false = false; rw [h2]; rfl
        refine ⟨by rw [List.filter_cons, f]; exact i1, fun z hz => ?_⟩
        rcases List.mem_cons.mp hz with rfl | hz
        · exact ⟨e1, h1, by rw [f]; exact h2, fun q => by rw [f] at q; cases q⟩
        · exact i2 z hz
      · cases h
    · cases h
def mLc (xi : XA) (xg : XG) (xt : XT) (xe : XE) (vs : List Nat) : XA := fun en => match xi en with
  | some xs => if (vs.all fun v => decide (v < en.length)) = true ∧ xs.length < 16000000 then lcGo xg xt xe (wipeE en vs) xs else none
  | none => none
theorem mn_lc {wi : TI} {g : TG} {xi : XA} {xg : XG} {vs : List Nat} (hi : MI K wi xi) (hg : MG K g xg) (ht : MT K tt ft) (he : ME K te fe) (ho : WipeOk g vs) : MN K (tLc wi g tt te vs) (mLc xi xg ft fe vs) := fun en ds e => by
  unfold mLc at e
  split at e
  · rename_i xs hx
    split at e
    · rename_i q
      obtain ⟨h1, h2⟩ := lcGo_ok e
      rw [h1]
      refine en_lc (xs := xs) id (lcF xg ft (wipeE en vs)) (lcH xg fe (wipeE en vs)) ((hi en _ hx).eq (by simp)) ho q.2 q.1 fun j x hj => ?_
      obtain ⟨e1, a, b, c⟩ := h2 x (List.mem_of_getElem? hj)
      exact ⟨e1, hg _ _ _ a, ht _ _ b, fun z => he _ _ (c z)⟩
    · cases e
  · cases e
def lc2Go (xg : XG) (xt : XT) (xi1 : XA) (xg1 : XG) (xt1 : XT) (xe : XE) (vs1 : List Nat) (e0 : En) : List D → Option (List D)
  | [] => some []
  | x :: xs => match xg x e0 with
    | some e1 => if e1.length = e0.length then (match xt e1 with
      | some true => (match xi1 e1 with
        | some ys => (match lcGo xg1 xt1 xe (wipeE e1 vs1) ys with
          | some zs => (lc2Go xg xt xi1 xg1 xt1 xe vs1 e0 xs).map (zs ++ ·)
          | none => none)
        | none => none)
      | some false => lc2Go xg xt xi1 xg1 xt1 xe vs1 e0 xs
      | none => none) else none
    | none => none
def lcYs (xg : XG) (xi1 : XA) (e0 : En) (x : D) : List D := ((xg x e0).bind xi1).getD []
def lcE1 (xg : XG) (vs1 : List Nat) (e0 : En) (x : D) : En := wipeE ((xg x e0).getD []) vs1
theorem lc2Go_ok {xg : XG} {xt : XT} {xi1 : XA} {xg1 : XG} {xt1 : XT} {xe : XE} {vs1 : List Nat} {e0 : En} : ∀ {xs zs : List D}, lc2Go xg xt xi1 xg1 xt1 xe vs1 e0 xs = some zs →
    zs = lcD2 (lcF xg xt e0) (lcYs xg xi1 e0) (fun x => lcF xg1 xt1 (lcE1 xg vs1 e0 x)) (fun x => lcH xg1 xe (lcE1 xg vs1 e0 x)) xs ∧
    ∀ x ∈ xs, ∃ e1, xg x e0 = some e1 ∧ e1.length = e0.length ∧ xt e1 = some (lcF xg xt e0 x) ∧ (lcF xg xt e0 x = true → xi1 e1 = some (lcYs xg xi1 e0 x) ∧
      ∀ y ∈ lcYs xg xi1 e0 x, ∃ e2, xg1 y (wipeE e1 vs1) = some e2 ∧ xt1 e2 = some (lcF xg1 xt1 (lcE1 xg vs1 e0 x) y) ∧ (lcF xg1 xt1 (lcE1 xg vs1 e0 x) y = true → xe e2 = some (lcH xg1 xe (lcE1 xg vs1 e0 x) y)))
  | [], zs, h => by cases h; exact ⟨rfl, fun x hx => by cases hx⟩
  | x :: xs, zs, h => by
    unfold lc2Go at h
    split at h
    · rename_i e1 h1
      split at h
      · rename_i hl
        split at h
        · rename_i h2
          split at h
          · rename_i ys h3
            split at h
            · rename_i ws h4
              obtain ⟨us, h5, rfl⟩ := Option.map_eq_some_iff.mp h
              obtain ⟨i1, i2⟩ := lc2Go_ok h5
              obtain ⟨j1, j2⟩ := lcGo_ok h4
              have f : lcF xg xt e0 x = true := by unfold lcF; rw [h1]; show (xt e1).getD false = true; rw [h2]; rfl
              have g : lcYs xg xi1 e0 x = ys := by unfold lcYs; rw [h1]; show (xi1 e1).getD [] = ys; rw [h3]; rfl
              have w : lcE1 xg vs1 e0 x = wipeE e1 vs1 := by unfold lcE1; rw [h1]; rfl
              refine ⟨?_, fun z hz => ?_⟩
              · unfold lcD2
                rw [List.flatMap_cons, if_pos f, g]
                dsimp only
                rw [w]
                unfold lcD2 at i1
                dsimp only at i1
                rw [← i1, j1]; rfl
              · rcases List.mem_cons.mp hz with rfl | hz
                · refine ⟨e1, h1, hl, by rw [f]; exact h2, fun _ => ⟨by rw [g]; exact h3, fun y hy => ?_⟩⟩
                  rw [w]
                  rw [g] at hy
                  exact j2 y hy
                · exact i2 z hz
            · cases h
          · cases h
        · rename_i h2
          obtain ⟨i1, i2⟩ := lc2Go_ok h
          have f : lcF xg xt e0 x = false := by unfold lcF; rw [h1]; show (xt e1).getD false = false; rw [h2]; rfl
          refine ⟨?_, fun z hz => ?_⟩
          · unfold lcD2
            rw [List.flatMap_cons, if_neg (by rw [f]; decide)]
            exact i1
          · rcases List.mem_cons.mp hz with rfl | hz
            · exact ⟨e1, h1, hl, by rw [f]; exact h2, fun q => by rw [f] at q; cases q⟩
            · exact i2 z hz
        · cases h
      · cases h
    · cases h
theorem wipeE_len : ∀ {en : En} {vs : List Nat}, (wipeE en vs).length = en.length
  | _, [] => rfl
  | en, v :: vs => by
    show ((wipeE en vs).set v none).length = _
    rw [List.length_set, wipeE_len]
def mLc2 (xi : XA) (xg : XG) (xt : XT) (xi1 : XA) (xg1 : XG) (xt1 : XT) (xe : XE) (vs vs1 : List Nat) : XA := fun en => match xi en with
  | some xs => if (vs.all fun v => decide (v < en.length)) = true ∧ (vs1.all fun v => decide (v < en.length)) = true then (match lc2Go xg xt xi1 xg1 xt1 xe vs1 (wipeE en vs) xs with
    | some zs => if zs.length < 16000000 then some zs else none
    | none => none) else none
  | none => none
theorem mn_lc2 {wi wi1 : TI} {g g1 : TG} {tt1 : TT} {xi xi1 : XA} {xg xg1 : XG} {xt1 : XT} {vs vs1 : List Nat} (hi : MI K wi xi) (hg : MG K g xg) (ht : MT K tt ft) (hi1 : MI K wi1 xi1) (hg1 : MG K g1 xg1) (ht1 : MT K tt1 xt1) (he : ME K te fe) (ho : WipeOk g vs) (ho1 : WipeOk g1 vs1) :
    MN K (tLc2 wi g tt wi1 g1 tt1 te vs vs1) (mLc2 xi xg ft xi1 xg1 xt1 fe vs vs1) := fun en ds e => by
  unfold mLc2 at e
  split at e
  · rename_i xs hx
    split at e
    · rename_i q
      split at e
      · rename_i zs hz
        split at e
        · rename_i hl
          cases e
          obtain ⟨h1, h2⟩ := lc2Go_ok hz
          rw [h1] at hl ⊢
          refine en_lc2 (xs := xs) id id (lcF xg ft (wipeE en vs)) (lcYs xg xi1 (wipeE en vs)) _ _ ((hi en _ hx).eq (by simp)) ho ho1 q.1 q.2 hl fun j x hj => ?_
          obtain ⟨e1, a, al, b, c⟩ := h2 x (List.mem_of_getElem? hj)
          refine ⟨e1, hg _ _ _ a, al.trans wipeE_len, ht _ _ b, fun z => ?_⟩
          obtain ⟨c1, c2⟩ := c z
          refine ⟨(hi1 _ _ c1).eq (by simp), fun j1 y hy => ?_⟩
          obtain ⟨e2, a2, b2, d2⟩ := c2 y (List.mem_of_getElem? hy)
          exact ⟨e2, hg1 _ _ _ a2, ht1 _ _ b2, fun z => he _ _ (d2 z)⟩
        · cases e
      · cases e
    · cases e
  · cases e
end
end HF

set_option Elab.async false
set_option linter.all false
set_option maxRecDepth 100000
set_option maxHeartbeats 2000000
/-! M3: mirrors of statements. -/
namespace HF
open PySem L2 PySem.Spec PyProof.Rows
section
variable {K : Fg} {te ta tb tc : TE} {tt tu : TT} {ts tz : TS} {g : TG} {fe fa fb fc : XE} {ft fu : XT} {fs fz : XS} {xg : XG} {i : Nat}
theorem out_mono {o : Out} {E : DE} {en : En} (h : SD K ts o.E en) (h1 : ∀ e, o = .nx e → E.nx e) (h2 : ∀ d, o = .rt d → E.rt d) (h3 : ∀ e, o = .bk e → E.bk e) (h4 : ∀ e, o = .ct e → E.ct e) : SD K ts E en := by
  cases o with
  | nx e => exact s_mono h (fun e' q => by cases (show e' = e from q); exact h1 _ rfl) (fun _ q => False.elim q) (fun _ q => False.elim q) (fun _ q => False.elim q)
  | rt d => exact s_mono h (fun _ q => False.elim q) (fun d' q => by cases (show d' = d from q); exact h2 _ rfl) (fun _ q => False.elim q) (fun _ q => False.elim q)
  | bk e => exact s_mono h (fun _ q => False.elim q) (fun _ q => False.elim q) (fun e' q => by cases (show e' = e from q); exact h3 _ rfl) (fun _ q => False.elim q)
  | ct e => exact s_mono h (fun _ q => False.elim q) (fun _ q => False.elim q) (fun _ q => False.elim q) (fun e' q => by cases (show e' = e from q); exact h4 _ rfl)
def mSeq (f g : XS) : XS := fun en => match f en with
  | some (.nx e) => g e
  | o => o
theorem ms_seq (h : MS K ts fs) (h' : MS K tz fz) : MS K (tSeq ts tz) (mSeq fs fz) := fun en o e => by
  unfold mSeq at e
  split at e
  · rename_i e1 h1
    exact s_seq (out_mono (h en _ h1) (fun e' q => by cases q; exact h' _ _ e) (fun _ q => by cases q) (fun _ q => by cases q) (fun _ q => by cases q))
  · rename_i hn
    refine s_seq (out_mono (h en o e) (fun e' q => ?_) (fun d q => by subst q; rfl) (fun e' q => by subst q; rfl) (fun e' q => by subst q; rfl))
    subst q
    exact (hn _ e).elim
def mNext : XS := fun en => some (.nx en)
theorem ms_next : MS K tNext mNext := fun en o e => by cases e; exact s_nx rfl
def mAsg (i : Nat) (f : XE) : XS := fun en => match f en with
  | some d => some (.nx (en.set i (some (.sh d))))
  | none => none
theorem ms_asg (h : ME K te fe) : MS K (tAsg te (gName i)) (mAsg i fe) := fun en o e => by
  unfold mAsg at e
  split at e
  · cases e; exact s_asg (h en _ (by assumption)) rfl
  · cases e
def mAsgN (i : Nat) (f : XA) : XS := fun en => match f en with
  | some d => some (.nx (en.set i (some (.ow none (.ls d)))))
  | none => none
theorem ms_asgN {f : XA} (h : MN K te f) : MS K (tAsg te (gName i)) (mAsgN i f) := fun en o e => by
  unfold mAsgN at e
  split at e
  · cases e; exact s_asgN (h en _ (by assumption)) rfl
  · cases e
def mAsgG (g : XG) (f : XE) : XS := fun en => match f en with
  | some d => (match g d en with
    | some e => some (.nx e)
    | none => none)
  | none => none
theorem ms_asgG (h : ME K te fe) (hg : MG K g xg) : MS K (tAsg te g) (mAsgG xg fe) := fun en o e => by
  unfold mAsgG at e
  split at e
  · split at e
    · cases e; exact s_asgG (h en _ (by assumption)) (hg _ _ _ (by assumption)) rfl
    · cases e
  · cases e
theorem s_aug {x y z : D} {en : En} {E : DE} {ti : TIp} (hi : en[i]? = some (some (.sh x))) (h : EvD K te en y) (hr : ∀ A H v w, Live A H → Dq K (hide A H) v x → Dq K (hide A H) w y → ∀ Q : VK, (∀ u, Dq K (hide A H) u z → Q u H) → ti v w H Q) (k : E.nx (en.set i (some (.sh z)))) : SD K (tAug i te ti) E en := fun A0 Hs A H σ I F f => by
  obtain ⟨v, h1, h2⟩ := I.shd hi
  refine ⟨v, h1, h A0 Hs A H σ I _ fun w H1 g1 d1 => ?_⟩
  have I1 := I.grow g1
  obtain ⟨v', h1', h2'⟩ := I1.shd hi
  rw [h1] at h1'
  cases h1'
  exact hr A H1 v w I1.live h2' d1 _ fun u du => f.nx A H1 _ _ (I1.set du) k
def mAug (o : Int → Int → Int) (i : Nat) (f : XE) : XS := fun en => match en[i]? with
  | some (some (.sh (.int a))) => (match f en with
    | some (.int b) => some (.nx (en.set i (some (.sh (.int (o a b))))))
    | _ => none)
  | _ => none
theorem ms_aug {op : Int → Int → Int} (h : ME K te fe) : MS K (tAug i te (ipI op)) (mAug op i fe) := fun en o e => by
  unfold mAug at e
  split at e
  · rename_i a ha
    split at e
    · rename_i b hb
      cases e
      exact s_aug ha (h en _ hb) (fun A H v w l dv dw Q k => ⟨a, b, dp_int dv, dp_int dw, k _ (.int _)⟩) rfl
    · cases e
  · cases e
def mRet (f : XE) : XS := fun en => match f en with
  | some d => some (.rt d)
  | none => none
theorem ms_ret (h : ME K te fe) : MS K (tRet te) (mRet fe) := fun en o e => by
  unfold mRet at e
  split at e
  · cases e; exact s_ret (h en _ (by assumption)) rfl
  · cases e
def mRetN : XS := fun _ => some (.rt .none)
theorem ms_retN : MS K tRetN mRetN := fun en o e => by cases e; exact s_retN rfl
def mIfS (t : XT) (f g : XS) : XS := fun en => match t en with
  | some true => f en
  | some false => g en
  | none => none
theorem ms_if (h : MT K tt ft) (h1 : MS K ts fs) (h2 : MS K tz fz) : MS K (tIfS tt ts tz) (mIfS ft fs fz) := fun en o e => by
  unfold mIfS at e
  split at e
  · exact s_if (b := true) (h en _ (by assumption)) (fun _ => h1 en o e) fun q => by cases q
  · exact s_if (b := false) (h en _ (by assumption)) (fun q => by cases q) fun _ => h2 en o e
  · cases e
def mDrop (f : XE) : XS := fun en => match f en with
  | some _ => some (.nx en)
  | none => none
theorem ms_drop (h : ME K te fe) : MS K (tDrop te) (mDrop fe) := fun en o e => by
  unfold mDrop at e
  split at e
  · cases e; exact s_drop (h en _ (by assumption)) rfl
  · cases e
def mBreak : XS := fun en => some (.bk en)
theorem ms_break : MS K tBreak mBreak := fun en o e => by cases e; exact s_break rfl
def mCont : XS := fun en => some (.ct en)
theorem ms_cont : MS K tCont mCont := fun en o e => by cases e; exact s_cont rfl
def mApp (i : Nat) (f : XE) : XS := fun en => match en[i]? with
  | some (some (.ow none (.ls ds))) => (match f en with
    | some d => if ds.length < 16000000 then some (.nx (en.set i (some (.ow none (.ls (ds ++ [d])))))) else none
    | none => none)
  | _ => none
theorem ms_app (h : ME K te fe) : MS K (tDrop (tBM K "list" rAppend (tVar i) (tCons te tNil))) (mApp i fe) := fun en o e => by
  unfold mApp at e
  split at e
  · split at e
    · split at e
      · cases e; exact s_app (by assumption) (h en _ (by assumption)) (by assumption) rfl
      · cases e
    · cases e
  · cases e
/-! freezing, forgetting -/
def mFrz (i : Nat) (f : XS) : XS := fun en => match en[i]? with
  | some (some (.ow none (.ls ds))) => f (en.set i (some (.sh (.list ds))))
  | _ => f en
theorem ms_frz (h : MS K ts fs) : MS K ts (mFrz i fs) := fun en o e => by
  unfold mFrz at e
  split at e
  · exact s_freeze (by assumption) (h _ _ e)
  · exact h _ _ e
theorem weak_set : ∀ {e : En} {v : Nat}, Weak e (e.set v none)
  | [], _ => trivial
  | _ :: e, 0 => ⟨.inl rfl, Weak.refl e⟩
  | _ :: e, v + 1 => ⟨.inr rfl, weak_set⟩
theorem weak_wipe : ∀ {vs : List Nat} {e : En}, Weak e (wipeE e vs)
  | [], e => Weak.refl e
  | v :: vs, e => weak_wipe.trans weak_set
def mWipe (vs : List Nat) (f : XS) : XS := fun en => match f en with
  | some (.nx e) => some (.nx (wipeE e vs))
  | some (.ct e) => some (.ct (wipeE e vs))
  | o => o
theorem s_end {E E' : DE} {en : En} (h : SD K ts E en) (h1 : ∀ e, E.nx e → ∃ f, Weak e f ∧ E'.nx f) (h2 : ∀ d, E.rt d → E'.rt d) (h3 : ∀ e, E.bk e → ∃ f, Weak e f ∧ E'.bk f) (h4 : ∀ e, E.ct e → ∃ f, Weak e f ∧ E'.ct f) : SD K ts E' en := fun A0 Hs A H σ I F f =>
  h A0 Hs A H σ I F ⟨fun A H σ en I q => by
    obtain ⟨e', w, q'⟩ := h1 _ q
    exact f.nx A H σ e' (I.weak w) q', fun A H σ en v d I q r => f.rt A H σ en v d I q (h2 _ r), fun A H σ en I q => by
    obtain ⟨e', w, q'⟩ := h3 _ q
    exact f.bk A H σ e' (I.weak w) q', fun A H σ en I q => by
    obtain ⟨e', w, q'⟩ := h4 _ q
    exact f.ct A H σ e' (I.weak w) q'⟩
theorem ms_wipe {vs : List Nat} (h : MS K ts fs) : MS K ts (mWipe vs fs) := fun en o e => by
  unfold mWipe at e
  split at e
  · rename_i e1 h1
    cases e
    exact s_end (h en _ h1) (fun e' q => ⟨_, weak_wipe, by cases (show e' = e1 from q); rfl⟩) (fun _ q => False.elim q) (fun _ q => False.elim q) (fun _ q => False.elim q)
  · rename_i e1 h1
    cases e
    exact s_end (h en _ h1) (fun _ q => False.elim q) (fun _ q => False.elim q) (fun _ q => False.elim q) (fun e' q => ⟨_, weak_wipe, by cases (show e' = e1 from q); rfl⟩)
  · exact h en o e
/-! ### loops -/
def mLoop (xg : XG) (b : XS) : List D → En → Option Out
  | [], en => some (.nx en)
  | x :: xs, en => match xg x en with
    | some e1 => (match b e1 with
      | some (.nx e2) => mLoop xg b xs e2
      | some (.ct e2) => mLoop xg b xs e2
      | some (.bk e2) => some (.nx e2)
      | some (.rt d) => some (.rt d)
      | none => none)
    | none => none
def mFor (xi : XA) (xg : XG) (b : XS) : XS := fun en => match xi en with
  | some xs => mLoop xg b xs en
  | none => none
theorem ms_for {wi : TI} {xi : XA} (hi : MI K wi xi) (hg : MG K g xg) (hb : MS K ts fs) : MS K (tFor wi g ts) (mFor xi xg fs) := fun en o e => by
  unfold mFor at e
  split at e
  · rename_i xs hx
    refine s_for (hi en _ hx) (fun j en' => mLoop xg fs (xs.drop j) en' = some o) e (fun j x en' hj p => ?_) (fun en' p => ?_)
    · have hd : xs.drop j = x :: xs.drop (j + 1) := by
        obtain ⟨lt, rfl⟩ := List.getElem?_eq_some_iff.mp hj
        exact List.drop_eq_getElem_cons lt
      rw [hd] at p
      unfold mLoop at p
      split at p
      · rename_i e1 h1
        refine ⟨e1, hg _ _ _ h1, ?_⟩
        split at p
        · rename_i e2 h2
          exact out_mono (hb e1 _ h2) (fun e' q => by cases q; exact p) (fun _ q => by cases q) (fun _ q => by cases q) (fun _ q => by cases q)
        · rename_i e2 h2
          exact out_mono (hb e1 _ h2) (fun _ q => by cases q) (fun _ q => by cases q) (fun _ q => by cases q) (fun e' q => by cases q; exact p)
        · rename_i e2 h2
          cases p
          exact out_mono (hb e1 _ h2) (fun _ q => by cases q) (fun _ q => by cases q) (fun e' q => by cases q; rfl) (fun _ q => by cases q)
        · rename_i d h2
          cases p
          exact out_mono (hb e1 _ h2) (fun _ q => by cases q) (fun d' q => by cases q; rfl) (fun _ q => by cases q) (fun _ q => by cases q)
        · cases p
      · cases p
    · rw [List.drop_length] at p
      unfold mLoop at p
      cases p
      rfl
  · cases e
def mWhile (ft : XT) (b : XS) : Nat → XS
  | 0, _ => none
  | n + 1, en => match ft en with
    | some true => (match b en with
      | some (.nx e2) => mWhile ft b n e2
      | some (.ct e2) => mWhile ft b n e2
      | some (.bk e2) => some (.nx e2)
      | some (.rt d) => some (.rt d)
      | none => none)
    | some false => some (.nx en)
    | none => none
theorem ms_while {n : Nat} (ht : MT K tt ft) (hb : MS K ts fs) : MS K (tWhile tt ts) (mWhile ft fs n) := fun en o e => by
  refine s_while (fun m en' => mWhile ft fs m en' = some o) n e fun m en' p => ?_
  cases m with
  | zero => cases p
  | succ m =>
    unfold mWhile at p
    split at p
    · rename_i h1
      refine ⟨true, ht _ _ h1, fun _ => ⟨fun e' => mWhile ft fs m e' = some o, fun e' q => ⟨m, Nat.lt_succ_self m, q⟩, ?_⟩, fun q => by cases q⟩
      split at p
      · rename_i e2 h2
        exact out_mono (hb _ _ h2) (fun e' q => by cases q; exact p) (fun _ q => by cases q) (fun _ q => by cases q) (fun _ q => by cases q)
      · rename_i e2 h2
        exact out_mono (hb _ _ h2) (fun _ q => by cases q) (fun _ q => by cases q) (fun _ q => by cases q) (fun e' q => by cases q; exact p)
      · rename_i e2 h2
        cases p
        exact out_mono (hb _ _ h2) (fun _ q => by cases q) (fun _ q => by cases q) (fun e' q => by cases q; rfl) (fun _ q => by cases q)
      · rename_i d h2
        cases p
        exact out_mono (hb _ _ h2) (fun _ q => by cases q) (fun d' q => by cases q; rfl) (fun _ q => by cases q) (fun _ q => by cases q)
      · cases p
    · rename_i h1
      cases p
      exact ⟨false, ht _ _ h1, (fun q => by cases q), fun _ => rfl⟩
    · cases p
/-! ### a def -/
def runM (N : List Str) (b : XS) (ds : List D) : Option D := match b (startE N ds) with
  | some (.rt d) => some d
  | some (.nx _) => some .none
  | _ => none
theorem run_ok {N : List Str} {n : Nat} {ds : List D} {d : D} (hb : MS K ts fs) (h : RM n (runM N fs) ds d) : SD K ts { nx := fun _ => d = .none, rt := fun r => r = d } (startE N ds) := by
  obtain ⟨_, h⟩ := h
  unfold runM at h
  split at h
  · rename_i d' h1
    cases h
    exact out_mono (hb _ _ h1) (fun _ q => by cases q) (fun d' q => by cases q; rfl) (fun _ q => by cases q) (fun _ q => by cases q)
  · rename_i h1
    cases h
    exact out_mono (hb _ _ h1) (fun _ q => rfl) (fun _ q => by cases q) (fun _ q => by cases q) (fun _ q => by cases q)
  · cases h
end
section
variable {K : Fg} {P : Program} {w : World} {mg : Str → Option Value} {base : Heap}
/-- a def keeps its mirror's word -/
theorem fnM {x qual : Str} {st : Stmt} {f : Addr} {fd : FuncData} {N ps : List Str} {k n : Nat} {b : XS} (F : Fun K x qual st f fd) (S : FnScope N ps (defScope st)) (len : n = ps.length)
    (hbody : ∀ (cdv : Value) (A : Around) (outer : List Env) (s : Shared) (H : Hp) (E : XK), Room k (A.deeper (envOfC qual (defScope st) s.heap.objs.size f cdv)) →
      ∃ t, PSs (cxOf CX0 P w K mg base N qual (defScope st) f cdv A outer s H E).nox (defBody st) t ∧ MS K t b) : FnOk P w K mg base CX0 (k + 1) f fd ps (spD K (RM n (runM N b))) :=
  fnD F S (fun ds d h => h.1.trans len) fun cdv A outer s H E hr => by
    obtain ⟨t, h1, h2⟩ := hbody cdv A outer s H E hr
    exact ⟨t, h1, fun ds d h => run_ok h2 h⟩
/-- .. whose body holds a generator expression -/
theorem fnMc {x qual : Str} {st : Stmt} {f : Addr} {fd : FuncData} {c : Addr} {N ps : List Str} {k n : Nat} {b : XS} (F : FunC K x qual st f fd c) (S : FnScope N ps (defScope st)) (len : n = ps.length)
    (hbody : ∀ (A : Around) (outer : List Env) (s : Shared) (H : Hp) (E : XK), Room k (A.deeper (envOfC qual (defScope st) s.heap.objs.size f (.ref c))) →
      ∃ t, PSs (cxOf CX0 P w K mg base N qual (defScope st) f (.ref c) A outer s H E).nox (defBody st) t ∧ MS K t b) : FnOk P w K mg base CX0 (k + 1) f fd ps (spD K (RM n (runM N b))) :=
  fnDc F S (fun ds d h => h.1.trans len) fun A outer s H E hr => by
    obtain ⟨t, h1, h2⟩ := hbody A outer s H E hr
    exact ⟨t, h1, fun ds d h => run_ok h2 h⟩
end
/-- nothing: what is never reached -/
def mStuck : XS := fun _ => none
end HF

set_option Elab.async false
set_option linter.all false
set_option maxRecDepth 100000
set_option maxHeartbeats 2000000
/-! M4: own lists read for a moment; pop; reversed slices. -/
namespace HF
open PySem L2 PySem.Spec PyProof.Rows
mutual
/-- no list, no dict in it -/
def noL : D → Bool
  | .list _ => false
  | .dict _ => false
  | .tuple xs => noLs xs
  | _ => true
def noLs : List D → Bool
  | [] => true
  | x :: xs => noL x && noLs xs
end
section
variable {K : Fg} {A : Addr → Bool} {H H' : Hp} {p : Addr}
theorem dela_hide {a : Addr} (h : a ≠ p) : hide (dela A p) H a = hide A H a := by unfold hide; rw [dela_ne h]
theorem rd_back {a : Addr} {u : HO} {vs : List V} (hp : H p = some (.lst vs)) (h : Rd (hide (dela A p) H) a u) (hu : ∀ xs, u ≠ .lst xs) : Rd (hide A H) a u := by
  rcases h with h | ⟨o, h⟩
  · have hne : a ≠ p := fun z => by
      rw [z, hide_out dela_self, hp] at h
      exact hu _ (Option.some.inj h).symm
    exact .inl (by rw [← dela_hide hne]; exact h)
  · have hne : a ≠ p := fun z => by
      rw [z, hide_out dela_self, hp] at h
      cases h
    exact .inr ⟨o, by rw [← dela_hide hne]; exact h⟩
mutual
theorem dq_back {vs : List V} (hp : H p = some (.lst vs)) : ∀ {v : V} {d : D}, Dq K (hide (dela A p) H) v d → noL d = true → Dq K (hide A H) v d
  | _, _, .non, _ => .non
  | _, _, .bl b, _ => .bl b
  | _, _, .int i, _ => .int i
  | _, _, .str x, _ => .str x
  | _, _, .lst _ _, q => by simp only [noL] at q; cases q
  | _, _, .tup h a, q => .tup (h.elim (fun h => .inl (rd_back hp h fun _ z => by cases z)) .inr) (dqa_back hp a (by simpa only [noL] using q))
  | _, _, .obj _ _ _ _ _, q => by simp only [noL] at q; cases q
  | _, _, .dik _ _ _, q => by simp only [noL] at q; cases q
  | _, _, .dit _ _ _ _ _, q => by simp only [noL] at q; cases q
theorem dqa_back {vs : List V} (hp : H p = some (.lst vs)) : ∀ {us : List V} {ds : List D}, DqAll K (hide (dela A p) H) us ds → noLs ds = true → DqAll K (hide A H) us ds
  | _, _, .nil, _ => .nil
  | _, _, .cons h t, q => by
    simp only [noLs, Bool.and_eq_true] at q
    exact .cons (dq_back hp h q.1) (dqa_back hp t q.2)
end
theorem Grow.back (g : Grow (dela A p) H H') {vs : List V} (hp : H p = some (.lst vs)) : Grow A H H' ∧ H' p = some (.lst vs) := by
  have e : H' p = some (.lst vs) := (hide_some (g.ex.ob p _ rfl (by rw [hide_out dela_self]; exact hp))).2
  refine ⟨⟨g.ex.via (fun a n => ?_) (fun a n _ => ?_), fun q hq => ?_⟩, e⟩
  · have h1 := (hide_th n).1
    have h2 : dela A p a = false := by unfold dela; rw [h1]; rfl
    rw [hide_out h1, hide_out h2]
  · have h1 := (hide_th n).1
    have h2 : dela A p a = false := by unfold dela; rw [h1]; rfl
    rw [hide_out h1, hide_out h2]
  · by_cases z : q = p
    · rw [z, e, hp]
    · exact g.eq q (by rw [dela_ne z]; exact hq)
end
section
variable {K : Fg} {te : TE} {tt : TT} {fe : XE} {ft : XT} {i : Nat}
theorem ev_bor {en : En} {d : D} {ds : List D} (hi : en[i]? = some (some (.ow none (.ls ds)))) (h : EvD K te (en.set i (some (.sh (.list ds)))) d) (hn : noL d = true) : EvD K te en d := fun A0 Hs A H σ I Q k => by
  obtain ⟨p, vs, _, hA, hp, I'⟩ := I.freezeAt hi
  refine h A0 Hs _ H σ I' Q fun v H' g dv => ?_
  obtain ⟨g', hp'⟩ := g.back hp
  exact k v H' g' (dq_back hp' dv hn)
theorem et_bor {en : En} {b : Bool} {ds : List D} (hi : en[i]? = some (some (.ow none (.ls ds)))) (h : EvT K tt (en.set i (some (.sh (.list ds)))) b) : EvT K tt en b := fun A0 Hs A H σ I Q k => by
  obtain ⟨p, vs, _, hA, hp, I'⟩ := I.freezeAt hi
  exact h A0 Hs _ H σ I' Q fun H' g => k H' (g.back hp).1
def mBor (i : Nat) (f : XE) : XE := fun en => match en[i]? with
  | some (some (.ow none (.ls ds))) => (match f (en.set i (some (.sh (.list ds)))) with
    | some d => if noL d = true then some d else none
    | none => none)
  | _ => f en
theorem me_bor (h : ME K te fe) : ME K te (mBor i fe) := fun en d e => by
  unfold mBor at e
  split at e
  · split at e
    · split at e
      · cases e; exact ev_bor (by assumption) (h _ _ (by assumption)) (by assumption)
      · cases e
    · cases e
  · exact h _ _ e
def mBorT (i : Nat) (f : XT) : XT := fun en => match en[i]? with
  | some (some (.ow none (.ls ds))) => f (en.set i (some (.sh (.list ds))))
  | _ => f en
theorem mt_bor (h : MT K tt ft) : MT K tt (mBorT i ft) := fun en d e => by
  unfold mBorT at e
  split at e
  · exact et_bor (by assumption) (h _ _ e)
  · exact h _ _ e
end
/-! ### pop -/
section
variable {K : Fg} {g : TG} {xg : XG} {i : Nat}
/-- xs.pop(), as the readings have it -/
def tPop (K : PySem.W.Frag) (i : Nat) : TE := tBM0 K "list" rPop (tVar i)
theorem pop_run {A0 A : Addr → Bool} {Hs H : Hp} {σ : L2.St} {en : En} {ds : List D} {d : D} (I : EnvOk K A0 Hs A H σ en) (hi : en[i]? = some (some (.ow none (.ls (ds ++ [d]))))) {Q : VK}
    (k : ∀ v H', EnvOk K A0 Hs A H' σ (en.set i (some (.ow none (.ls ds)))) → Dq K (hide A H') v d → Q v H') : tPop K i σ H Q := by
  obtain ⟨v, hv, p, vs, rfl, hA, hA0, hp, hd⟩ := I.ols hi
  have hl := dpa_len hd
  rw [List.length_append, List.length_singleton] at hl
  have hlast : (ds ++ [d])[ds.length]? = some d := by simp
  obtain ⟨u, hu, hdu⟩ := dpa_get hd hlast
  have hdr : DqAll K (hide A H) vs.dropLast ds := by
    have := dpa_take ds.length hd
    rw [List.take_left] at this
    rw [List.dropLast_eq_take, show vs.length - 1 = ds.length by omega]
    exact this
  refine ⟨_, hv, .inl ⟨rfl, _, SqL.of hp⟩, p, vs, u, rfl, rfl, hp, ?_, ?_⟩
  · rw [show vs.length - 1 = ds.length by omega]; exact hu
  have sm : Same (hide A H) (hide A (upd H p (.lst vs.dropLast))) := same_of fun a o e => by
    obtain ⟨h1, h2⟩ := hide_some e
    have hne : a ≠ p := fun z => by rw [z, hA] at h1; cases h1
    rw [hide_out h1, upd_ne hne]; exact h2
  exact k u _ (I.writeL hi hv hdr) (dp_mono sm hdu)
theorem s_popAsg {E : DE} {en en' : En} {ds : List D} {d : D} (hi : en[i]? = some (some (.ow none (.ls (ds ++ [d]))))) (hg : GD K g d (en.set i (some (.ow none (.ls ds)))) en') (k : E.nx en') : SD K (tAsg (tPop K i) g) E en := fun A0 Hs A H σ I F f =>
  pop_run I hi fun v H' I' dv => hg A0 Hs A H' σ v I' dv _ fun σ2 H2 g2 I2 => f.nx A H2 _ _ I2 k
theorem s_popRet {E : DE} {en : En} {ds : List D} {d : D} (hi : en[i]? = some (some (.ow none (.ls (ds ++ [d]))))) (k : E.rt d) : SD K (tRet (tPop K i)) E en := fun A0 Hs A H σ I F f =>
  pop_run I hi fun v H' I' dv => f.rt A H' σ _ v d I' dv k
theorem s_popDrop {E : DE} {en : En} {ds : List D} {d : D} (hi : en[i]? = some (some (.ow none (.ls (ds ++ [d]))))) (k : E.nx (en.set i (some (.ow none (.ls ds))))) : SD K (tDrop (tPop K i)) E en := fun A0 Hs A H σ I F f =>
  pop_run I hi fun v H' I' dv => f.nx A H' σ _ I' k
theorem snoc_of {ds : List D} (h : ds ≠ []) : ds = ds.dropLast ++ [ds.getLast h] := (List.dropLast_concat_getLast h).symm
def mPop (i : Nat) (xg : XG) : XS := fun en => match en[i]? with
  | some (some (.ow none (.ls ds))) => (match ds.getLast? with
    | some d => (match xg d (en.set i (some (.ow none (.ls ds.dropLast)))) with
      | some e => some (.nx e)
      | none => none)
    | none => none)
  | _ => none
theorem last_eq {ds : List D} {d : D} (h : ds.getLast? = some d) : ds = ds.dropLast ++ [d] := by
  cases ds with
  | nil => cases h
  | cons a l =>
    rw [List.getLast?_eq_some_getLast (by simp)] at h
    cases h
    exact snoc_of _
theorem ms_pop (hg : MG K g xg) : MS K (tAsg (tPop K i) g) (mPop i xg) := fun en o e => by
  unfold mPop at e
  split at e
  · rename_i ds hi
    split at e
    · rename_i d hd
      split at e
      · cases e
        rw [last_eq hd] at hi
        exact s_popAsg hi (hg _ _ _ (by assumption)) rfl
      · cases e
    · cases e
  · cases e
def mPopRet (i : Nat) : XS := fun en => match en[i]? with
  | some (some (.ow none (.ls ds))) => (match ds.getLast? with
    | some d => some (.rt d)
    | none => none)
  | _ => none
theorem ms_popRet : MS K (tRet (tPop K i)) (mPopRet i) := fun en o e => by
  unfold mPopRet at e
  split at e
  · rename_i ds hi
    split at e
    · rename_i d hd
      cases e
      rw [last_eq hd] at hi
      exact s_popRet hi rfl
    · cases e
  · cases e
def mPopDrop (i : Nat) : XS := fun en => match en[i]? with
  | some (some (.ow none (.ls ds))) => (match ds.getLast? with
    | some d => some (.nx (en.set i (some (.ow none (.ls ds.dropLast)))))
    | none => none)
  | _ => none
theorem ms_popDrop : MS K (tDrop (tPop K i)) (mPopDrop i) := fun en o e => by
  unfold mPopDrop at e
  split at e
  · rename_i ds hi
    split at e
    · rename_i d hd
      cases e
      rw [last_eq hd] at hi
      exact s_popDrop hi rfl
    · cases e
  · cases e
end
/-! ### xs[::-1] -/
section
variable {prog : Program} {w : World} {A : Around} {E : Value → Shared → Prop} {s : Shared}
theorem rev_adjust (n : Nat) : Builtin.Slice.sliceAdjust none none (-1) (n : Int) = ((n : Int) - 1, -1) := by
  unfold Builtin.Slice.sliceAdjust
  first | rfl | simp | (split <;> simp_all)
theorem rev_places (n : Nat) : Builtin.Slice.slicePlaces ((n : Int) - 1) (-1) (-1) = n := by
  unfold Builtin.Slice.slicePlaces
  by_cases h : n = 0
  · subst h; decide
  · have h1 : ¬ ((-1 : Int) > 0) := by decide
    first
      | (rw [if_neg h1, if_pos (by omega)]; omega)
      | (simp; omega)
end
end HF

set_option Elab.async false
set_option linter.all false
set_option maxRecDepth 100000
set_option maxHeartbeats 2000000
/-! M5: reversed slices of tuples and lists. -/
namespace HF
open PySem L2 PySem.Spec PyProof.Rows HT
section
variable {prog : Program} {w : World} {A : Around} {E : Value → Shared → Prop} {s : Shared}
theorem sliceApplied_rev {sl : Addr} {vl vu vs : Value} {n : Nat} {Q : Int × Int × Nat → Shared → Prop} (hs : s.heap.IsSliceOf sl vl vu vs) (pl : IsPart vl none) (pu : IsPart vu none) (ps : IsPart vs (some (-1)))
    (h : Q ((n : Int) - 1, -1, n) s) : wpAny (model prog w) A (Builtin.Slice.sliceApplied (.ref sl) (pure (n : Int))) Q E s := by
  obtain ⟨os, hos, hcs, hds⟩ := id hs
  unfold Builtin.Slice.sliceApplied Builtin.Slice.sliceFields
  refine wpAny_bind (wpAny_bind (wpAny_field hos hds (x := vl) rfl (wpAny_bind (wpAny_field hos hds (x := vu) rfl (wpAny_bind (wpAny_field hos hds (x := vs) rfl (wpAny_pure ?_)))))))
  refine wpAny_bind (slicePart_ ps ?_)
  show wpAny _ _ (if ((-1 : Int) == 0) = true then _ else _) _ _ s
  rw [if_neg (by decide)]
  refine wpAny_bind (slicePart_ pl (wpAny_bind (slicePart_ pu (wpAny_bind (wpAny_pure ?_)))))
  show wpAny _ _ (match Builtin.Slice.sliceAdjust none none (-1) (n : Int) with | (lo, hi) => pure (lo, (-1 : Int), Builtin.Slice.slicePlaces lo hi (-1))) _ _ s
  rw [rev_adjust]
  show wpAny _ _ (pure ((n : Int) - 1, (-1 : Int), Builtin.Slice.slicePlaces ((n : Int) - 1) (-1) (-1))) _ _ s
  rw [rev_places]
  exact wpAny_pure h
theorem pick_rev (xs : Array Value) : ((List.range xs.size).filterMap fun (m : Nat) => xs[(((xs.size : Int) - 1) + (m : Int) * (-1)).toNat]?).toArray = xs.toList.reverse.toArray := by
  congr 1
  apply List.ext_getElem?
  intro i
  have go : ∀ (k : Nat), k ≤ xs.size → (List.range k).filterMap (fun (m : Nat) => xs[(((xs.size : Int) - 1) + (m : Int) * (-1)).toNat]?) = (xs.toList.reverse).take k := by
    intro k
    induction k with
    | zero => intro _; rfl
    | succ k ih =>
      intro hk
      rw [List.range_succ, List.filterMap_append, ih (by omega), List.take_add_one]
      have e : (((xs.size : Int) - 1) + (k : Int) * (-1)).toNat = xs.size - 1 - k := by omega
      have g : xs.toList.reverse[k]? = xs[xs.size - 1 - k]? := by
        rw [List.getElem?_reverse (by rw [Array.length_toList]; omega)]
        simp
      rw [g]
      simp only [List.filterMap_cons, List.filterMap_nil, e]
      cases xs[xs.size - 1 - k]? <;> rfl
  rw [go xs.size (Nat.le_refl _), List.take_of_length_le (by simp)]
theorem getItem_tuple_rev {t sl : Addr} {items : Array Value} {vl vu vs : Value} {Q : Value → Shared → Prop} (ht : IsTup s.heap t items) (hs : s.heap.IsSliceOf sl vl vu vs) (pl : IsPart vl none) (pu : IsPart vu none) (ps : IsPart vs (some (-1)))
    (h : Q (.ref s.heap.objs.size) { s with heap := s.heap.push { cls := .type "tuple", data := .seq items.toList.reverse.toArray } })
    (hsz : items.size ≤ sizeLine) : wpAny (model prog w) A (getItem (.ref t) (.ref sl)) Q E s := by
  have htake : sizeOk (.seq items.toList.reverse.toArray) := by
    show items.toList.reverse.toArray.size ≤ sizeLine
    rw [List.size_toArray, List.length_reverse, Array.length_toList]
    exact hsz
  obtain ⟨os, hos, hcs, hds⟩ := id hs
  have hTs : s.TypeIs (.ref sl) "slice" := ⟨os, hos, hcs⟩
  unfold getItem
  try with_reducible refine wpAny_holding ?_
  first | refine wpAny_bind (wpAny_pure ?_) | skip
  refine wpAny_bind (wpAny_sequenceKey ht.typeIs (by decide) ?_)
  refine wpAny_bind (wpAny_callSpecial?_slot (name := Str.ofString "__getitem__") ht.typeIs PyProof.Rows.slot_tuple_getitem
    (wpAny_call_entry PyProof.Rows.slot_tuple_getitem ht.typeIs entry_tuple_getitem ?_ (args_tuple_getitem _ _)))
  show wpAny _ _ (Builtin.Tuple.tupleItemsOf (.ref t) >>= _) _ _ s
  refine wpAny_bind (tupleItemsOf_ ht ?_)
  refine wpAny_bind (wpAny_typeOf hTs ?_)
  rw [if_pos (by decide)]
  refine wpAny_bind (sliceApplied_rev hs pl pu ps ?_)
  have hno : ¬ ((((items.size : Int) - 1) == 0 && (-1 : Int) == 1 && items.size == items.size) = true) := by
    intro q
    rw [Bool.and_eq_true, Bool.and_eq_true] at q
    exact absurd q.1.2 (by decide)
  show wpAny _ _ (if (((items.size : Int) - 1) == 0 && (-1 : Int) == 1 && items.size == items.size) = true then _ else _) _ _ s
  rw [if_neg hno, pick_rev]
  first
    | exact wpAny_bind (m := Builtin.Tuple.tupleExact _) (wpAny_newObj_type (wpAny_pure ⟨_, rfl, wpAny_pure h⟩) htake)
    | exact wpAny_bind (m := Builtin.Tuple.tupleExact _) (wpAny_newObj_type (wpAny_bind (wpAny_pure (wpAny_pure ⟨_, rfl, wpAny_pure h⟩))) htake)
    | exact wpAny_bind (wpAny_bind (m := Builtin.Tuple.tupleExact _) (wpAny_newObj_type (wpAny_pure (wpAny_pure ⟨_, rfl, wpAny_pure h⟩)) htake))
    | exact wpAny_bind (wpAny_bind (m := Builtin.Tuple.tupleExact _) (wpAny_newObj_type (wpAny_pure ⟨_, rfl, wpAny_pure h⟩) htake))
end
def tRevU (K : PySem.W.Frag) (te : TE) : TE := fun σ H Q => te σ H fun v H1 => ∃ (a : Addr) (xs : List V), v = .ref a ∧ ((SqL K H1 a xs ∧ ∀ p, H1 p = none → Q (.ref p) (upd H1 p (.lst xs.reverse))) ∨ (SqT K H1 a xs ∧ ∀ p, H1 p = none → Q (.ref p) (upd H1 p (.tup xs.reverse))))
section
variable {X : Cx}
theorem pe_revU {e : Expr} {te : TE} {k : Nat} {p1 p2 p3 pos : Pos} (he : PE X e te) : PE X (.Subscript e (.Slice none none (some (.UnaryOp .USub (.Constant (.int 1) k p1) p2)) p3) pos) (tRevU X.K te) := by
  refine ⟨fun pins s σ H Q I h => ?_⟩
  refine Subscript_ (thn (he.run pins s σ H _ I h) fun v s1 ⟨x, H1, I1, r1, q1⟩ => ?_)
  obtain ⟨a, xs, ex, q⟩ := q1
  subst ex
  cases r1
  have hst : PO X (some (.UnaryOp .USub (.Constant (.int 1) k p1) p2)) (tPart (tUn (rU fun i => .int (-i)) (tC (.int 1)))) := po_some (pe_un un_neg pe_int)
  refine wpAny_Slice (thn (po_none.run pins s1 σ H1 (fun o H2 => o = none ∧ H2 = H1) I1 ⟨rfl, rfl⟩) fun vl s2 ⟨l, H2, I2, pl, el, e2⟩ => ?_)
  subst el e2
  refine thn (po_none.run pins s2 σ H2 (fun o H3 => o = none ∧ H3 = H2) I2 ⟨rfl, rfl⟩) fun vu s3 ⟨u, H3, I3, pu, eu, e3⟩ => ?_
  subst eu e3
  refine thn (hst.run pins s3 σ H3 (fun o H4 => o = some (-1) ∧ H4 = H3) I3 ⟨1, rfl, -1, rfl, rfl, rfl⟩) fun vs s4 ⟨o, H4, I4, ps, eo, e4⟩ => ?_
  subst eo e4
  have I5 : Inv X pins σ H4 { s4 with heap := s4.heap.push { cls := .type "slice", data := .fields #[vl, vu, vs] } } := I4.kept (t' := s4.toks) fun b ob q => Heap.get?_push_of_some _ q
  rcases q with ⟨hx, q⟩ | ⟨hx, q⟩
  · obtain ⟨its, r, ht, hz⟩ := I5.list hx
    have hlen := r.length
    show wpAny (model X.prog X.w) X.A (subscriptTail e (.Slice none none (some (.UnaryOp .USub (.Constant (.int 1) k p1) p2)) p3) (.ref a) (.ref s4.heap.objs.size)) (EP X pins σ Q) X.xe { s4 with heap := s4.heap.push { cls := .type "slice", data := .fields #[vl, vu, vs] } }
    refine tail_any (ops := [.ref a, .ref s4.heap.objs.size]) ht.isList.typeIs (PySem.slot_list_getitem.lookup) ?_ (by with_unfolding_all rfl)
    refine wpAny_getItem_list_slice ht.isList (Heap.IsSliceOf.new _ vl vu vs) pl pu ps (by decide) ?_ (by rw [List.size_toArray]; omega)
    rw [PySem.W.krv_pick]
    refine ⟨.ref _, _, I5.laid (t' := s4.toks) (o := .lst xs.reverse) (fun b ob q => Heap.get?_push_of_some _ q) (Nat.le_refl _) ?_, rfl, q _ (I5.hok.fresh (Nat.le_refl _))⟩
    exact ⟨by rw [List.length_reverse]; exact hz, _, 0, r.reverse, Heap.get?_push_size _ rfl⟩
  · obtain ⟨its, r, ht, hz⟩ := I5.tuple hx
    have hlen := r.length
    show wpAny (model X.prog X.w) X.A (subscriptTail e (.Slice none none (some (.UnaryOp .USub (.Constant (.int 1) k p1) p2)) p3) (.ref a) (.ref s4.heap.objs.size)) (EP X pins σ Q) X.xe { s4 with heap := s4.heap.push { cls := .type "slice", data := .fields #[vl, vu, vs] } }
    refine tail_any (ops := [.ref a, .ref s4.heap.objs.size]) ht.typeIs (PyProof.Rows.slot_tuple_getitem.lookup) ?_ (by with_unfolding_all rfl)
    refine getItem_tuple_rev ht (Heap.IsSliceOf.new _ vl vu vs) pl pu ps ?_ (by rw [List.size_toArray]; omega)
    refine ⟨.ref _, _, I5.laid (t' := s4.toks) (o := .tup xs.reverse) (fun b ob q => Heap.get?_push_of_some _ q) (Nat.le_refl _) ?_, rfl, q _ (I5.hok.fresh (Nat.le_refl _))⟩
    exact ⟨by rw [List.length_reverse]; exact hz, _, r.reverse, IsTup.new _ _⟩
end
section
variable {K : Fg} {te : TE} {fe : XE} {en : En}
theorem dpa_rev {H : Hp} : ∀ {vs : List V} {ds : List D}, DqAll K H vs ds → DqAll K H vs.reverse ds.reverse
  | _, _, .nil => .nil
  | _, _, .cons h t => by
    rw [List.reverse_cons, List.reverse_cons]
    exact dpa_append (dpa_rev t) (.cons h .nil)
theorem ev_revT {xs : List D} (h : EvD K te en (.tuple xs)) : EvD K (tRevU K te) en (.tuple xs.reverse) := fun A0 Hs A H σ I Q k =>
  h A0 Hs A H σ I _ fun v H1 g1 d1 => by
    obtain ⟨a, us, rfl, ha, da⟩ := dp_tup d1
    refine ⟨a, us, rfl, .inr ⟨st_mono hide_sub ha, fun p hp => ?_⟩⟩
    have l := g1.live I.live
    have g := Grow.new (o := .tup us.reverse) l hp
    exact k _ _ (g1.trans g) (.tup (.inl (.inl (hide_new l hp))) (dpa_mono g.ex (dpa_rev da)))
theorem en_revL {xs : List D} (h : EvD K te en (.list xs)) : EvN K (tRevU K te) en xs.reverse := fun A0 Hs A H σ I Q k =>
  h A0 Hs A H σ I _ fun v H1 g1 d1 => by
    obtain ⟨a, us, rfl, ha, da⟩ := dp_lst d1
    refine ⟨a, us, rfl, .inl ⟨(sx_mono hide_sub ha).sl, fun p hp => ?_⟩⟩
    have l := g1.live I.live
    exact k p _ _ (g1.same.none hp) (g1.trans (Grow.new l hp)) upd_same (grow_newl hp (dpa_rev da))
def mRev (f : XE) : XE := fun en => match f en with
  | some (.list xs) => some (.list xs.reverse)
  | some (.tuple xs) => some (.tuple xs.reverse)
  | _ => none
theorem me_rev (h : ME K te fe) : ME K (tRevU K te) (mRev fe) := fun en d e => by
  unfold mRev at e
  split at e
  · cases e; exact ev_new (en_revL (h en _ (by assumption)))
  · cases e; exact ev_revT (h en _ (by assumption))
  · cases e
def mRevN (f : XE) : XA := fun en => match f en with
  | some (.list xs) => some xs.reverse
  | _ => none
theorem mn_rev (h : ME K te fe) : MN K (tRevU K te) (mRevN fe) := fun en d e => by
  unfold mRevN at e
  split at e
  · cases e; exact en_revL (h en _ (by assumption))
  · cases e
end
/-! ### what is never reached -/
def tDead : TS := fun _ _ _ => False
theorem ps_dead {X : Cx} {st : Stmt} : PS X st tDead := ⟨fun _ _ _ _ _ _ h => h.elim⟩
theorem ms_dead {K : Fg} : MS K tDead mStuck := fun en o e => by cases e
def tDeadE : TE := fun _ _ _ => False
theorem pe_dead {X : Cx} {e : Expr} : PE X e tDeadE := ⟨fun _ _ _ _ _ _ h => h.elim⟩
def mStuckE : XE := fun _ => none
theorem me_dead {K : Fg} : ME K tDeadE mStuckE := fun en o e => by cases e
/-- a promise of nothing -/
theorem fn_none {P : Program} {w : World} {K : Fg} {mg : Str → Option Value} {base : Heap} {CX : CXT} {k n : Nat} {f : Addr} {fd : FuncData} {ps : List Str} : FnOk P w K mg base CX k f fd ps (spD K (RM n fun _ => none)) :=
  ⟨(fun vs H Q E h => by
    obtain ⟨A, ds, d, _, _, ⟨_, q⟩, _⟩ := h
    cases q), fun A outer s H args us vs Q E _ _ _ _ h => (by
    obtain ⟨A, ds, d, _, _, ⟨_, q⟩, _⟩ := h
    cases q)⟩
end HF

set_option Elab.async false
set_option linter.all false
set_option maxRecDepth 100000
set_option maxHeartbeats 2000000
/-! M6: the end of a law row: the script is a list of ints. -/
namespace HF
open PySem PySem.Spec PyProof.Rows L2
inductive LawX (l : PySem.W.OpenLaw) (w : World) (K : PySem.W.Frag) (CX : CXT) (k n : Nat) (x : Str) (mg : Str → Option Value) (fa : Addr) (h : Heap) : Prop
  | mk {KT : Fg} (fd : FuncData) (cs : List (Addr × Addr)) (R : List D → D → Prop) (hT : ∀ p ∈ cs, h.get? p.2 = some { cls := .none, data := .fields #[] }) (nT : ∀ p ∈ cs, K.lookup p.2 = none) (C : ∀ p ∈ cs, PySem.W.CodeHd h p.1 p.2)
    (hb : ∀ (s : Shared) (u : Value), BindsTo s fd ⟨[u], []⟩ [(x, u)]) (hR : ∀ ns : List Int, ns.length ≤ n → (∀ z ∈ ns, Builtin.Int.intBits z ≤ 1048576) → R [.list (ns.map .int)] (.bool true))
    (F : ∀ base : Heap, K.In base → base.Ns mainGlobals mg → (∀ p ∈ cs, LamX.TabB base mg p.1 p.2) → FnOk l.prog w K mg base CX k fa fd [x] (spD KT R)) (hK : KT.fr = K := by rfl) (hKT : KT.T = fun P => P ∈ cs.map (·.2) := by rfl)
theorem walk_allX {l : PySem.W.OpenLaw} {n k : Nat} {q : Program} {loose : List Str} {XP : (Str → Option Value) → Heap → Prop} {YP : World → Heap → Prop} {d : DefRec} {K : Params → PySem.W.Frag} {CX : World → CXT} {x : Str}
    (hn : l.most = some n) (hn2 : n ≤ sizeLine) (hdf : d.params.defaults = []) (hr : Room k callerA) (hY : ∀ (w : World) (h : Heap), YP w h → (K w.params).In h)
    (F : ∀ (w : World) (mg : Str → Option Value) (fa : Addr) (h : Heap), YP w h → (K w.params).In h → h.Ns mainGlobals mg → mg d.name = some (.ref fa) → AllTabs q mg h → LawX l w (K w.params) (CX w) k n x mg fa h)
    (hCX : ∀ (w : World) (H : Hp) (s : Shared) (e : Value) (s' : Shared), CX w [] H s (fun _ _ _ => False) e s' → False) :
    PySem.W.WalkO q loose XP YP l.row.toRowW d [] (fun f vs => PySem.call f vs) := by
  refine Att.attach_callB hn hdf fun w s0 s1 mg mb fa o pm cd doc a vs ns G Y ho hd hcd hmg hobj hints hlen hbits hg => ?_
  have KX := hY w _ Y
  have tabs : AllTabs q mg s1.heap := fun d hd => by
    obtain ⟨a, o, fd, c, T, h1, h2, h3, h4, h5, h6⟩ := G.T.tab d hd
    exact ⟨a, o, fd, c, T, h1, h2, h3, h4, PySem.W.CodeHd.of h5 h6, h6.2⟩
  obtain ⟨fd, cs, R, hT, nT, C, hb, hR, hF, hK, hKT⟩ := F w mg fa _ Y KX G.T.g hmg tabs
  rename_i KT
  refine LamX.law_callTs (sp := spD KT R) KX G.T.g G.T.b G.T.builtins G.T.nolimit hg hT nT C G.T.bmain hobj hints (Nat.le_trans hlen hn2) hr hF hb (fun H hH hS => ?_) fun H e s' => hCX w H s1 e s'
  let A1 : Addr → Bool := fun _ => false
  have e1 : hide A1 H = H := funext fun b => hide_out rfl
  have hx : SqX KT H a (ns.map V.int) := by
    rcases hS with hS | ⟨o', its, m, hk, hc, hdc, hse, hz, r⟩
    · exact .inl hS
    · have g := KX _ _ hk
      rw [hobj] at g
      cases g
      refine .inr ⟨its, m, by rw [hK, hk]; first | rfl | simp_all, hz, r⟩
  refine ⟨A1, [.list (ns.map .int)], .bool true, ⟨fun p z => (by cases z), fun P hP => ?_⟩, ?_, hR ns hlen hbits, fun v H' _ dv => dp_bl dv⟩
  · rw [hKT] at hP
    obtain ⟨p, hp, rfl⟩ := List.mem_map.mp hP
    rw [e1]
    exact tabG_new (hH p hp)
  · rw [e1]
    exact .cons (.lst hx (ints_dpa ns)) .nil
end HF

set_option Elab.async false
set_option linter.all false
set_option maxRecDepth 100000
set_option maxHeartbeats 2000000
/-! M7: how mirrors run: loops and comprehensions. -/
namespace HF
open PySem L2 PySem.Spec PyProof.Rows
/-- each turn goes on -/
theorem loop_inv {xg : XG} {b : XS} {α : Type} (enc : α → D) (I : Nat → En) : ∀ (as : List α) (k : Nat), (∀ j a, as[j]? = some a → ∃ e1, xg (enc a) (I (k + j)) = some e1 ∧ b e1 = some (.nx (I (k + j + 1)))) → mLoop xg b (as.map enc) (I k) = some (.nx (I (k + as.length)))
  | [], k, _ => rfl
  | a :: as, k, h => by
    obtain ⟨e1, h1, h2⟩ := h 0 a rfl
    rw [Nat.add_zero] at h1
    have ih := loop_inv enc I as (k + 1) fun j c hc => by
      obtain ⟨e1, q1, q2⟩ := h (j + 1) c (by simpa using hc)
      exact ⟨e1, by rw [show k + 1 + j = k + (j + 1) by omega]; exact q1, by rw [show k + 1 + j = k + (j + 1) by omega]; exact q2⟩
    rw [List.map_cons, mLoop, h1]
    simp only []
    rw [h2]
    simp only []
    rw [show k + 0 + 1 = k + 1 by omega, ih, List.length_cons, show k + 1 + as.length = k + (as.length + 1) by omega]
/-- .. a state folded -/
theorem loop_fold {xg : XG} {b : XS} {α β : Type} (enc : α → D) (I : β → En) (f : β → α → β) (P : β → Prop) (as : List α) (s : β) (h0 : P s)
    (h : ∀ s, P s → ∀ a ∈ as, P (f s a) ∧ ∃ e1, xg (enc a) (I s) = some e1 ∧ b e1 = some (.nx (I (f s a)))) : mLoop xg b (as.map enc) (I s) = some (.nx (I (as.foldl f s))) := by
  induction as generalizing s with
  | nil => rfl
  | cons a as ih =>
    obtain ⟨p, e1, h1, h2⟩ := h s h0 a List.mem_cons_self
    rw [List.map_cons, mLoop, h1]
    simp only []
    rw [h2]
    exact ih (f s a) p fun s hs c hc => h s hs c (List.mem_cons_of_mem _ hc)
/-- .. the same place each time -/
theorem loop_const {xg : XG} {b : XS} {α : Type} (enc : α → D) (e : En) (as : List α) (h : ∀ a ∈ as, ∃ e1, xg (enc a) e = some e1 ∧ b e1 = some (.nx e)) : mLoop xg b (as.map enc) e = some (.nx e) := by
  induction as with
  | nil => rfl
  | cons a as ih =>
    obtain ⟨e1, h1, h2⟩ := h a List.mem_cons_self
    rw [List.map_cons, mLoop, h1]
    simp only []
    rw [h2]
    exact ih fun c hc => h c (List.mem_cons_of_mem _ hc)
theorem lcGo_map {xg : XG} {xe : XE} {xt : XT} {e0 : En} {α : Type} (enc g : α → D) (as : List α) (h : ∀ a ∈ as, ∃ e1, xg (enc a) e0 = some e1 ∧ xt e1 = some true ∧ xe e1 = some (g a)) : lcGo xg xt xe e0 (as.map enc) = some (as.map g) := by
  induction as with
  | nil => rfl
  | cons a as ih =>
    obtain ⟨e1, h1, h2, h3⟩ := h a List.mem_cons_self
    rw [List.map_cons, lcGo, h1]
    simp only []
    rw [h2]
    simp only []
    rw [h3, ih fun c hc => h c (List.mem_cons_of_mem _ hc)]
    rfl
theorem lcGo_filter {xg : XG} {xe : XE} {xt : XT} {e0 : En} {α : Type} (enc g : α → D) (f : α → Bool) (as : List α) (h : ∀ a ∈ as, ∃ e1, xg (enc a) e0 = some e1 ∧ xt e1 = some (f a) ∧ (f a = true → xe e1 = some (g a))) : lcGo xg xt xe e0 (as.map enc) = some ((as.filter f).map g) := by
  induction as with
  | nil => rfl
  | cons a as ih =>
    obtain ⟨e1, h1, h2, h3⟩ := h a List.mem_cons_self
    rw [List.map_cons, lcGo, h1]
    simp only []
    rw [h2, ih fun c hc => h c (List.mem_cons_of_mem _ hc), List.filter_cons]
    cases hf : f a with
    | true =>
      simp only [if_true]
      rw [h3 hf]; rfl
    | false => rfl
theorem lc2Go_flat {xg xg1 : XG} {xe : XE} {xt xt1 : XT} {xi1 : XA} {vs1 : List Nat} {e0 : En} {α : Type} (enc : α → D) (g : α → List D) (as : List α)
    (h : ∀ a ∈ as, ∃ e1 ys, xg (enc a) e0 = some e1 ∧ e1.length = e0.length ∧ xt e1 = some true ∧ xi1 e1 = some ys ∧ lcGo xg1 xt1 xe (wipeE e1 vs1) ys = some (g a)) : lc2Go xg xt xi1 xg1 xt1 xe vs1 e0 (as.map enc) = some (as.flatMap g) := by
  induction as with
  | nil => rfl
  | cons a as ih =>
    obtain ⟨e1, ys, h1, h2, h3, h4, h5⟩ := h a List.mem_cons_self
    rw [List.map_cons, lc2Go, h1]
    simp only []
    rw [if_pos h2, h3]
    simp only []
    rw [h4]
    simp only []
    rw [h5, ih fun c hc => h c (List.mem_cons_of_mem _ hc)]
    rfl
/-- while: a measured state -/
theorem while_inv {ft : XT} {b : XS} {β : Type} (I : β → En) (go : β → Bool) (f : β → β) (μ : β → Nat) (P : β → Prop) (hP : ∀ s, P s → ft (I s) = some (go s) ∧ (go s = true → P (f s) ∧ μ (f s) < μ s ∧ b (I s) = some (.nx (I (f s))))) :
    ∀ (n : Nat) (s : β), P s → μ s < n → ∃ s', P s' ∧ go s' = false ∧ mWhile ft b n (I s) = some (.nx (I s')) ∧ ∃ k, s' = Nat.repeat f k s := by
  intro n
  induction n with
  | zero => intro s _ h; omega
  | succ n ih =>
    intro s hs hm
    obtain ⟨h1, h2⟩ := hP s hs
    rw [mWhile, h1]
    cases hg : go s with
    | true =>
      obtain ⟨p, q, r⟩ := h2 hg
      simp only []
      rw [r]
      obtain ⟨s', a1, a2, a3, k, a4⟩ := ih (f s) p (by omega)
      refine ⟨s', a1, a2, a3, k + 1, ?_⟩
      rw [a4]
      clear a1 a2 a3 a4 r q p h1 h2 hs hm hg ih
      induction k with
      | zero => rfl
      | succ k ih => show f (Nat.repeat f k (f s)) = f (Nat.repeat f (k + 1) s); rw [ih]
    | false => exact ⟨s, hs, hg, rfl, 0, rfl⟩
theorem rngD_eq (n : Nat) : rngD 0 n = (List.range n).map fun i : Nat => PyData.int (i : Int) := by
  unfold rngD
  refine List.map_congr_left fun i _ => ?_
  rw [Int.zero_add]
/-- truth of what is said -/
theorem opEq_of {x y : D} {b : Bool} (hx : SeqAt.shaped x = true) (hy : SeqAt.shaped y = true) (h : PyData.eqv x y = b) : opEq x y = some (.bool b) := by
  unfold opEq
  rw [hx, hy, h]; rfl
theorem opNe_of {x y : D} {b : Bool} (hx : SeqAt.shaped x = true) (hy : SeqAt.shaped y = true) (h : PyData.eqv x y = b) : opNe x y = some (.bool (!b)) := by
  unfold opNe
  rw [hx, hy, h]; rfl
theorem shaped_atom : SeqAt.shaped .none = true ∧ (∀ b, SeqAt.shaped (.bool b) = true) ∧ ∀ i, SeqAt.shaped (.int i) = true := ⟨by decide, fun b => by cases b <;> decide, fun i => (sh_int (n := 0)).ok⟩
theorem opEq_int (a b : Int) : opEq (.int a) (.int b) = some (.bool (decide (a = b))) := opEq_of (shaped_atom.2.2 _) (shaped_atom.2.2 _) eqv_int
theorem opNe_int (a b : Int) : opNe (.int a) (.int b) = some (.bool (!decide (a = b))) := opNe_of (shaped_atom.2.2 _) (shaped_atom.2.2 _) eqv_int
theorem opEq_bool (a b : Bool) : opEq (.bool a) (.bool b) = some (.bool (decide (a = b))) := opEq_of (shaped_atom.2.1 _) (shaped_atom.2.1 _) eqv_bool
theorem opNe_bool (a b : Bool) : opNe (.bool a) (.bool b) = some (.bool (!decide (a = b))) := opNe_of (shaped_atom.2.1 _) (shaped_atom.2.1 _) eqv_bool
end HF

set_option Elab.async false
set_option linter.all false
set_option maxRecDepth 100000
set_option maxHeartbeats 2000000
/-! M8: how a mirror is run step by step: what comes first is run first. -/
namespace HF
open PySem L2 PySem.Spec PyProof.Rows
section
variable {en e : En} {d x y z : D} {ds xs ys : List D} {f g : XS} {fa fb fc : XE} {ft fu : XT} {ga : XA} {o o' : D → D → Option D} {i n : Nat} {vs : List Nat}
def seqO : Option Out → XS → Option Out
  | some (.nx e), g => g e
  | o, _ => o
theorem x_seq : mSeq f g en = seqO (f en) g := by unfold mSeq seqO; cases f en with | none => rfl | some o => cases o <;> rfl
theorem x_seq1 : seqO (some (.nx e)) g = g e := (rfl)
theorem x_seq2 : seqO (some (.rt d)) g = some (.rt d) := (rfl)
theorem x_seq3 : seqO (some (.bk e)) g = some (.bk e) := (rfl)
theorem x_seq4 : seqO (some (.ct e)) g = some (.ct e) := (rfl)
def asgO (en : En) (i : Nat) : Option D → Option Out
  | some d => some (.nx (en.set i (some (.sh d))))
  | none => none
theorem x_asg : mAsg i fa en = asgO en i (fa en) := by unfold mAsg asgO; cases fa en <;> rfl
theorem x_asg1 : asgO en i (some d) = some (.nx (en.set i (some (.sh d)))) := (rfl)
def asgNO (en : En) (i : Nat) : Option (List D) → Option Out
  | some d => some (.nx (en.set i (some (.ow none (.ls d)))))
  | none => none
theorem x_asgN : mAsgN i ga en = asgNO en i (ga en) := by unfold mAsgN asgNO; cases ga en <;> rfl
theorem x_asgN1 : asgNO en i (some ds) = some (.nx (en.set i (some (.ow none (.ls ds))))) := (rfl)
def asgGO (en : En) (h : XG) : Option D → Option Out
  | some d => (match h d en with
    | some e => some (.nx e)
    | none => none)
  | none => none
def nxO : Option En → Option Out
  | some e => some (.nx e)
  | none => none
theorem x_asgG {h : XG} : mAsgG h fa en = asgGO en h (fa en) := by unfold mAsgG asgGO; cases fa en <;> rfl
theorem x_asgG1 {h : XG} : asgGO en h (some d) = nxO (h d en) := by unfold asgGO nxO; dsimp only
theorem x_nx1 : nxO (some e) = some (.nx e) := (rfl)
def augO (op : Int → Int → Int) (en : En) (i : Nat) : Option (Option Sl) → Option D → Option Out
  | some (some (.sh (.int a))), some (.int b) => some (.nx (en.set i (some (.sh (.int (op a b))))))
  | _, _ => none
theorem x_aug {op : Int → Int → Int} : mAug op i fa en = augO op en i en[i]? (fa en) := by
  unfold mAug augO
  cases en[i]? with
  | none => rfl
  | some s => cases s with
    | none => rfl
    | some s => cases s with
      | sh d => cases d with
        | int a => cases fa en with
          | none => rfl
          | some d => cases d <;> rfl
        | _ => rfl
      | _ => rfl
theorem x_aug1 {op : Int → Int → Int} {a b : Int} : augO op en i (some (some (.sh (.int a)))) (some (.int b)) = some (.nx (en.set i (some (.sh (.int (op a b)))))) := (rfl)
def retO : Option D → Option Out
  | some d => some (.rt d)
  | none => none
theorem x_ret : mRet fa en = retO (fa en) := by unfold mRet retO; cases fa en <;> rfl
theorem x_ret1 : retO (some d) = some (.rt d) := (rfl)
theorem x_retN : mRetN en = some (.rt .none) := (rfl)
theorem x_next : mNext en = some (.nx en) := (rfl)
theorem x_break : mBreak en = some (.bk en) := (rfl)
theorem x_cont : mCont en = some (.ct en) := (rfl)
def ifO : Option Bool → XS → XS → En → Option Out
  | some true, f, _, en => f en
  | some false, _, g, en => g en
  | none, _, _, _ => none
theorem x_ifS : mIfS ft f g en = ifO (ft en) f g en := by unfold mIfS ifO; cases ft en with | none => rfl | some b => cases b <;> rfl
theorem x_ifS1 : ifO (some true) f g en = f en := (rfl)
theorem x_ifS2 : ifO (some false) f g en = g en := (rfl)
def dropO (en : En) : Option D → Option Out
  | some _ => some (.nx en)
  | none => none
theorem x_drop : mDrop fa en = dropO en (fa en) := by unfold mDrop dropO; cases fa en <;> rfl
theorem x_drop1 : dropO en (some d) = some (.nx en) := (rfl)
def appO (en : En) (i : Nat) : Option (Option Sl) → Option D → Option Out
  | some (some (.ow none (.ls ds))), some d => if ds.length < 16000000 then some (.nx (en.set i (some (.ow none (.ls (ds ++ [d])))))) else none
  | _, _ => none
theorem x_app : mApp i fa en = appO en i en[i]? (fa en) := by
  unfold mApp appO
  cases en[i]? with
  | none => rfl
  | some s => cases s with
    | none => rfl
    | some s => cases s with
      | ow a o => cases a with
        | none => cases o with
          | ls d => cases fa en <;> rfl
          | _ => cases fa en <;> rfl
        | some a => cases fa en <;> rfl
      | _ => cases fa en <;> rfl
theorem x_app1 (h : ds.length < 16000000) : appO en i (some (some (.ow none (.ls ds)))) (some d) = some (.nx (en.set i (some (.ow none (.ls (ds ++ [d])))))) := if_pos h
def frzO (f : XS) (en : En) (i : Nat) : Option (Option Sl) → Option Out
  | some (some (.ow none (.ls ds))) => f (en.set i (some (.sh (.list ds))))
  | _ => f en
theorem x_frz : mFrz i f en = frzO f en i en[i]? := by
  unfold mFrz frzO
  cases en[i]? with
  | none => rfl
  | some s => cases s with
    | none => rfl
    | some s => cases s <;> rfl
theorem x_frz1 : frzO f en i (some (some (.ow none (.ls ds)))) = f (en.set i (some (.sh (.list ds)))) := (rfl)
theorem x_frz2 : frzO f en i (some (some (.sh d))) = f en := (rfl)
theorem x_frz3 : frzO f en i (some none) = f en := (rfl)
def wipeO (vs : List Nat) : Option Out → Option Out
  | some (.nx e) => some (.nx (wipeE e vs))
  | some (.ct e) => some (.ct (wipeE e vs))
  | o => o
theorem x_wipe : mWipe vs f en = wipeO vs (f en) := by unfold mWipe wipeO; cases f en with | none => rfl | some o => cases o <;> rfl
theorem x_wipe1 : wipeO vs (some (.nx e)) = some (.nx (wipeE e vs)) := (rfl)
theorem x_wipe2 : wipeO vs (some (.ct e)) = some (.ct (wipeE e vs)) := (rfl)
theorem x_wipe3 : wipeO vs (some (.rt d)) = some (.rt d) := (rfl)
theorem x_wipe4 : wipeO vs (some (.bk e)) = some (.bk e) := (rfl)
theorem x_wipeE0 : wipeE en [] = en := (rfl)
theorem x_wipeE1 {v : Nat} : wipeE en (v :: vs) = (wipeE en vs).set v none := (rfl)
def forO (h : XG) (b : XS) (en : En) : Option (List D) → Option Out
  | some xs => mLoop h b xs en
  | none => none
theorem x_for {h : XG} : mFor ga h f en = forO h f en (ga en) := by unfold mFor forO; cases ga en <;> rfl
theorem x_for1 {h : XG} : forO h f en (some xs) = mLoop h f xs en := (rfl)
def popO (h : XG) (en : En) (i : Nat) : Option (Option Sl) → Option Out
  | some (some (.ow none (.ls ds))) => (match ds.getLast? with
    | some d => (match h d (en.set i (some (.ow none (.ls ds.dropLast)))) with
      | some e => some (.nx e)
      | none => none)
    | none => none)
  | _ => none
theorem x_pop {h : XG} : mPop i h en = popO h en i en[i]? := by unfold mPop popO; rfl
theorem x_pop1 {h : XG} : popO h en i (some (some (.ow none (.ls (ds ++ [d]))))) = nxO (h d (en.set i (some (.ow none (.ls ds))))) := by
  show (match (ds ++ [d]).getLast? with | some d => _ | none => none) = _
  rw [List.getLast?_concat, List.dropLast_concat]
  dsimp only
  unfold nxO
  cases h d (en.set i (some (.ow none (.ls ds)))) <;> rfl
theorem x_popRet (h : en[i]? = some (some (.ow none (.ls (ds ++ [d]))))) : mPopRet i en = some (.rt d) := by
  unfold mPopRet
  rw [h]
  simp only [List.getLast?_concat]
theorem x_popDrop (h : en[i]? = some (some (.ow none (.ls (ds ++ [d]))))) : mPopDrop i en = some (.nx (en.set i (some (.ow none (.ls ds))))) := by
  unfold mPopDrop
  rw [h]
  simp only [List.getLast?_concat, List.dropLast_concat]
/-! expressions -/
def varO : Option (Option Sl) → Option D
  | some (some (.sh d)) => some d
  | _ => none
theorem x_var : mVar i en = varO en[i]? := by unfold mVar varO; rfl
theorem x_var1 : varO (some (some (.sh d))) = some d := (rfl)
theorem x_c : mC d en = some d := (rfl)
def opO (o : D → D → Option D) : Option D → Option D → Option D
  | some x, some y => o x y
  | _, _ => none
theorem x_op : mOp o fa fb en = opO o (fa en) (fb en) := by unfold mOp opO; cases fa en with | none => rfl | some x => cases fb en <;> rfl
theorem x_op1 : opO o (some x) (some y) = o x y := (rfl)
def notTO : Option D → Option D
  | some x => (truM x).map fun b => .bool (!b)
  | none => none
theorem x_notT : mNotT fa en = notTO (fa en) := by unfold mNotT notTO; cases fa en <;> rfl
theorem x_notT1 {b : Bool} (h : truM x = some b) : notTO (some x) = some (.bool (!b)) := by unfold notTO; dsimp only; rw [h]; rfl
def boolO : Option D → Option D
  | some (.bool b) => some (.bool b)
  | _ => none
theorem x_bool1 {b : Bool} : boolO (some (.bool b)) = some (.bool b) := (rfl)
def andO : Option D → XE → En → Option D
  | some (.bool true), fb, en => boolO (fb en)
  | some (.bool false), _, _ => some (.bool false)
  | _, _, _ => none
theorem x_and : mAnd fa fb en = andO (fa en) fb en := by
  unfold mAnd andO
  cases fa en with
  | none => rfl
  | some d => cases d with
    | bool b => cases b with
      | true => (unfold boolO; dsimp only; try (cases fb en <;> (try rfl) <;> (rename_i d; cases d <;> rfl)))
      | false => rfl
    | _ => rfl
theorem x_and1 : andO (some (.bool true)) fb en = boolO (fb en) := (rfl)
theorem x_and2 : andO (some (.bool false)) fb en = some (.bool false) := (rfl)
def orO : Option D → XE → En → Option D
  | some (.bool false), fb, en => boolO (fb en)
  | some (.bool true), _, _ => some (.bool true)
  | _, _, _ => none
theorem x_or : mOr fa fb en = orO (fa en) fb en := by
  unfold mOr orO
  cases fa en with
  | none => rfl
  | some d => cases d with
    | bool b => cases b with
      | false => (unfold boolO; dsimp only; try (cases fb en <;> (try rfl) <;> (rename_i d; cases d <;> rfl)))
      | true => rfl
    | _ => rfl
theorem x_or1 : orO (some (.bool false)) fb en = boolO (fb en) := (rfl)
theorem x_or2 : orO (some (.bool true)) fb en = some (.bool true) := (rfl)
/-- both parts can be told -/
theorem x_andB {a b : Bool} : andO (some (.bool a)) fb en = some (.bool (a && b)) ↔ (a = true → boolO (fb en) = some (.bool b)) := by
  cases a with
  | true => exact ⟨fun h _ => h, fun h => h rfl⟩
  | false => exact ⟨fun _ h => (by cases h), fun _ => rfl⟩
def ifEO : Option Bool → XE → XE → En → Option D
  | some true, f, _, en => f en
  | some false, _, g, en => g en
  | none, _, _, _ => none
theorem x_if : mIf ft fa fb en = ifEO (ft en) fa fb en := by unfold mIf ifEO; cases ft en with | none => rfl | some b => cases b <;> rfl
theorem x_if1 : ifEO (some true) fa fb en = fa en := (rfl)
theorem x_if2 : ifEO (some false) fa fb en = fb en := (rfl)
def negO : Option D → Option D
  | some (.int i) => some (.int (-i))
  | _ => none
theorem x_neg : mNeg fa en = negO (fa en) := by unfold mNeg negO; rfl
theorem x_neg1 {i : Int} : negO (some (.int i)) = some (.int (-i)) := (rfl)
def tupO : Option (List D) → Option D
  | some ds => if ds.length < 16000000 then some (.tuple ds) else none
  | none => none
theorem x_tup : mTup ga en = tupO (ga en) := by unfold mTup tupO; cases ga en <;> rfl
theorem x_tup1 (h : ds.length < 16000000) : tupO (some ds) = some (.tuple ds) := if_pos h
def lstO : Option (List D) → Option (List D)
  | some ds => if ds.length < 16000000 then some ds else none
  | none => none
theorem x_lst : mLst ga en = lstO (ga en) := by unfold mLst lstO; cases ga en <;> rfl
theorem x_lst1 (h : ds.length < 16000000) : lstO (some ds) = some ds := if_pos h
def newO : Option (List D) → Option D
  | some ds => some (.list ds)
  | none => none
theorem x_new : mNew ga en = newO (ga en) := by unfold mNew newO; cases ga en <;> rfl
theorem x_new1 : newO (some ds) = some (.list ds) := (rfl)
def callO (c : List D → Option D) : Option (List D) → Option D
  | some ds => c ds
  | none => none
theorem x_call {c : List D → Option D} : mCall c ga en = callO c (ga en) := by unfold mCall callO; cases ga en <;> rfl
theorem x_call1 {c : List D → Option D} : callO c (some ds) = c ds := (rfl)
def fnO (n : Nat) (c : List D → Option D) : Option (List D) → Option D
  | some ds => if ds.length = n then c ds else none
  | none => none
theorem x_fn {c : List D → Option D} : mFn n c ga en = fnO n c (ga en) := by unfold mFn fnO; cases ga en <;> rfl
theorem x_fn1 {c : List D → Option D} (h : ds.length = n) : fnO n c (some ds) = c ds := if_pos h
theorem x_nil : mNil en = some [] := (rfl)
def consO : Option D → Option (List D) → Option (List D)
  | some d, some ds => some (d :: ds)
  | _, _ => none
theorem x_cons : mCons fa ga en = consO (fa en) (ga en) := by unfold mCons consO; cases fa en with | none => rfl | some x => cases ga en <;> rfl
theorem x_cons1 : consO (some d) (some ds) = some (d :: ds) := (rfl)
def partO : Option D → Option (Option Int)
  | some (.int i) => some (some i)
  | _ => none
theorem x_part : mPart fa en = partO (fa en) := by unfold mPart partO; rfl
theorem x_part1 {i : Int} : partO (some (.int i)) = some (some i) := (rfl)
theorem x_noPart : mNoPart en = some none := (rfl)
def slO : Option D → Option (Option Int) → Option (Option Int) → Option D
  | some (.tuple xs), some lo, some hi => some (.tuple (cutD xs lo hi))
  | some (.list xs), some lo, some hi => some (.list (cutD xs lo hi))
  | some (.str z), some lo, some hi => if z.length ≤ 16000000 then some (.str (cutS z lo hi)) else none
  | _, _, _ => none
theorem x_sl {l h : XO} : mSl fa l h en = slO (fa en) (l en) (h en) := by
  unfold mSl slO
  cases fa en with
  | none => rfl
  | some d => cases l en with
    | none => cases d <;> rfl
    | some lo => cases h en with
      | none => cases d <;> rfl
      | some hi => cases d <;> rfl
theorem x_sl1 {lo hi : Option Int} : slO (some (.tuple xs)) (some lo) (some hi) = some (.tuple (cutD xs lo hi)) := (rfl)
theorem x_sl2 {lo hi : Option Int} : slO (some (.list xs)) (some lo) (some hi) = some (.list (cutD xs lo hi)) := (rfl)
theorem x_sl3 {z : Str} {lo hi : Option Int} (h : z.length ≤ 16000000) : slO (some (.str z)) (some lo) (some hi) = some (.str (cutS z lo hi)) := if_pos h
def unL : Option D → Option (List D)
  | some (.list xs) => some xs
  | _ => none
theorem x_slN {l h : XO} : mSlN fa l h en = unL (mSl fa l h en) := by unfold mSlN unL; rfl
theorem x_unL1 : unL (some (.list xs)) = some xs := (rfl)
def isiO (T : String) : Option D → Option D
  | some x => if isDic x then none else (kitB (tyD x) T).map .bool
  | none => none
theorem x_isi {T : String} : mIsi T fa en = isiO T (fa en) := by unfold mIsi isiO; cases fa en <;> rfl
theorem x_isi_str {z : Str} : isiO "str" (some (.str z)) = some (.bool true) := (rfl)
theorem x_isi_str2 {i : Int} : isiO "str" (some (.int i)) = some (.bool false) := (rfl)
theorem x_isi_str3 {b : Bool} : isiO "str" (some (.bool b)) = some (.bool false) := (rfl)
theorem x_isi_str4 : isiO "str" (some .none) = some (.bool false) := (rfl)
theorem x_isi_str5 : isiO "str" (some (.tuple xs)) = some (.bool false) := (rfl)
theorem x_isi_str6 : isiO "str" (some (.list xs)) = some (.bool false) := (rfl)
theorem x_isi_tup {z : Str} : isiO "tuple" (some (.str z)) = some (.bool false) := (rfl)
theorem x_isi_tup2 {i : Int} : isiO "tuple" (some (.int i)) = some (.bool false) := (rfl)
theorem x_isi_tup3 {b : Bool} : isiO "tuple" (some (.bool b)) = some (.bool false) := (rfl)
theorem x_isi_tup4 : isiO "tuple" (some .none) = some (.bool false) := (rfl)
theorem x_isi_tup5 : isiO "tuple" (some (.tuple xs)) = some (.bool true) := (rfl)
theorem x_isi_tup6 : isiO "tuple" (some (.list xs)) = some (.bool false) := (rfl)
theorem x_isi_int {z : Str} : isiO "int" (some (.str z)) = some (.bool false) := (rfl)
theorem x_isi_int2 {i : Int} : isiO "int" (some (.int i)) = some (.bool true) := (rfl)
theorem x_isi_int3 {b : Bool} : isiO "int" (some (.bool b)) = some (.bool true) := (rfl)
theorem x_isi_int4 : isiO "int" (some .none) = some (.bool false) := (rfl)
theorem x_isi_int5 : isiO "int" (some (.tuple xs)) = some (.bool false) := (rfl)
theorem x_isi_int6 : isiO "int" (some (.list xs)) = some (.bool false) := (rfl)
theorem x_isi_bool {z : Str} : isiO "bool" (some (.str z)) = some (.bool false) := (rfl)
theorem x_isi_bool2 {i : Int} : isiO "bool" (some (.int i)) = some (.bool false) := (rfl)
theorem x_isi_bool3 {b : Bool} : isiO "bool" (some (.bool b)) = some (.bool true) := (rfl)
theorem x_isi_bool4 : isiO "bool" (some .none) = some (.bool false) := (rfl)
theorem x_isi_bool5 : isiO "bool" (some (.tuple xs)) = some (.bool false) := (rfl)
theorem x_isi_bool6 : isiO "bool" (some (.list xs)) = some (.bool false) := (rfl)
theorem x_isi_list {z : Str} : isiO "list" (some (.str z)) = some (.bool false) := (rfl)
theorem x_isi_list2 {i : Int} : isiO "list" (some (.int i)) = some (.bool false) := (rfl)
theorem x_isi_list5 : isiO "list" (some (.tuple xs)) = some (.bool false) := (rfl)
theorem x_isi_list6 : isiO "list" (some (.list xs)) = some (.bool true) := (rfl)
def chainO (o o' : D → D → Option D) : Option D → Option D → XE → En → Option D
  | some x, some y, fc, en => (match o x y with
      | some (.bool true) => (match fc en with
        | some z => (match o' y z with
          | some (.bool b) => some (.bool b)
          | _ => none)
        | none => none)
      | some (.bool false) => some (.bool false)
      | _ => none)
  | _, _, _, _ => none
theorem x_chain : mChain o o' fa fb fc en = chainO o o' (fa en) (fb en) fc en := by unfold mChain chainO; cases fa en with | none => rfl | some x => cases fb en <;> rfl
theorem x_chain1 {a b : Bool} (h : o x y = some (.bool a)) (h2 : fc en = some z) (h3 : o' y z = some (.bool b)) : chainO o o' (some x) (some y) fc en = some (.bool (a && b)) := by
  unfold chainO
  dsimp only
  rw [h]
  cases a with
  | true => simp only []; rw [h2]; simp only []; rw [h3]; rfl
  | false => rfl
def borO (f : XE) (en : En) (i : Nat) : Option (Option Sl) → Option D
  | some (some (.ow none (.ls ds))) => (match f (en.set i (some (.sh (.list ds)))) with
    | some d => if noL d = true then some d else none
    | none => none)
  | _ => f en
theorem x_bor : mBor i fa en = borO fa en i en[i]? := by
  unfold mBor borO
  cases en[i]? with
  | none => rfl
  | some s => cases s with
    | none => rfl
    | some s => cases s <;> rfl
def noLO : Option D → Option D
  | some d => if noL d = true then some d else none
  | none => none
theorem x_bor1 : borO fa en i (some (some (.ow none (.ls ds)))) = noLO (fa (en.set i (some (.sh (.list ds))))) := by
  unfold borO noLO
  simp only []
theorem x_bor2 : borO fa en i (some (some (.sh d))) = fa en := (rfl)
theorem x_noL1 (h : noL d = true) : noLO (some d) = some d := if_pos h
def borTO (f : XT) (en : En) (i : Nat) : Option (Option Sl) → Option Bool
  | some (some (.ow none (.ls ds))) => f (en.set i (some (.sh (.list ds))))
  | _ => f en
theorem x_borT : mBorT i ft en = borTO ft en i en[i]? := by
  unfold mBorT borTO
  cases en[i]? with
  | none => rfl
  | some s => cases s with
    | none => rfl
    | some s => cases s <;> rfl
theorem x_borT1 : borTO ft en i (some (some (.ow none (.ls ds)))) = ft (en.set i (some (.sh (.list ds)))) := (rfl)
theorem x_borT2 : borTO ft en i (some (some (.sh d))) = ft en := (rfl)
def revO : Option D → Option D
  | some (.list xs) => some (.list xs.reverse)
  | some (.tuple xs) => some (.tuple xs.reverse)
  | _ => none
theorem x_rev : mRev fa en = revO (fa en) := by unfold mRev revO; rfl
theorem x_rev1 : revO (some (.list xs)) = some (.list xs.reverse) := (rfl)
theorem x_rev2 : revO (some (.tuple xs)) = some (.tuple xs.reverse) := (rfl)
theorem x_revN : mRevN fa en = unL (revO (fa en)) := by unfold mRevN revO; cases fa en with | none => rfl | some d => cases d <;> rfl
def catO : Option D → Option D → Option (List D)
  | some (.list a), some (.list b) => if a.length + b.length < 16000000 then some (a ++ b) else none
  | _, _ => none
theorem x_cat : mCat fa fb en = catO (fa en) (fb en) := by
  unfold mCat catO
  cases fa en with
  | none => rfl
  | some d => cases d with
    | list a => cases fb en with
      | none => rfl
      | some d => cases d <;> rfl
    | _ => rfl
theorem x_cat1 (h : xs.length + ys.length < 16000000) : catO (some (.list xs)) (some (.list ys)) = some (xs ++ ys) := if_pos h
def lofO : Option (List D) → Option (List D)
  | some [.list xs] => some xs
  | some [.tuple xs] => some xs
  | _ => none
theorem x_lof : mLstOf ga en = lofO (ga en) := by unfold mLstOf lofO; rfl
theorem x_lof1 : lofO (some [.list xs]) = some xs := (rfl)
theorem x_lof2 : lofO (some [.tuple xs]) = some xs := (rfl)
/-! tests -/
def testO : Option D → Option Bool
  | some (.bool b) => some b
  | _ => none
theorem x_test : mTest fa en = testO (fa en) := by unfold mTest testO; rfl
theorem x_test1 {b : Bool} : testO (some (.bool b)) = some b := (rfl)
def truO : Option D → Option Bool
  | some d => truM d
  | none => none
theorem x_tru : mTru fa en = truO (fa en) := by unfold mTru truO; cases fa en <;> rfl
theorem x_tru1 : truO (some d) = truM d := (rfl)
theorem x_truM1 {b : Bool} : truM (.bool b) = some b := (rfl)
theorem x_truM2 : truM .none = some false := (rfl)
theorem x_truM3 {i : Int} : truM (.int i) = some (i != 0) := (rfl)
theorem x_truM4 : truM (.list xs) = some (!xs.isEmpty) := (rfl)
theorem x_truM5 : truM (.tuple xs) = some (!xs.isEmpty) := (rfl)
theorem x_truM6 {z : Str} (h : z.length ≤ 16000000) : truM (.str z) = some ((z.length : Int) != 0) := if_pos h
theorem x_yes : mYes en = some true := (rfl)
def tandO : Option Bool → XT → En → Option Bool
  | some true, g, en => g en
  | some false, _, _ => some false
  | none, _, _ => none
theorem x_tand : mTAnd ft fu en = tandO (ft en) fu en := by unfold mTAnd tandO; cases ft en with | none => rfl | some b => cases b <;> rfl
theorem x_tand1 : tandO (some true) fu en = fu en := (rfl)
theorem x_tand2 : tandO (some false) fu en = some false := (rfl)
theorem x_tandB {a b : Bool} (h : a = true → fu en = some b) : tandO (some a) fu en = some (a && b) := by
  cases a with
  | true => exact h rfl
  | false => rfl
def torO : Option Bool → XT → En → Option Bool
  | some false, g, en => g en
  | some true, _, _ => some true
  | none, _, _ => none
theorem x_tor : mTOr ft fu en = torO (ft en) fu en := by unfold mTOr torO; cases ft en with | none => rfl | some b => cases b <;> rfl
theorem x_tor1 : torO (some false) fu en = fu en := (rfl)
theorem x_tor2 : torO (some true) fu en = some true := (rfl)
theorem x_torB {a b : Bool} (h : a = false → fu en = some b) : torO (some a) fu en = some (a || b) := by
  cases a with
  | false => exact h rfl
  | true => rfl
def tnotO : Option Bool → Option Bool
  | some b => some (!b)
  | none => none
theorem x_tnot : mTNot ft en = tnotO (ft en) := by unfold mTNot tnotO; cases ft en <;> rfl
theorem x_tnot1 {b : Bool} : tnotO (some b) = some (!b) := (rfl)
/-! walks -/
theorem x_itL : mItL fa en = unL (fa en) := by unfold mItL unL; rfl
def unT : Option D → Option (List D)
  | some (.tuple xs) => some xs
  | _ => none
theorem x_itT : mItT fa en = unT (fa en) := by unfold mItT unT; rfl
theorem x_unT1 : unT (some (.tuple xs)) = some xs := (rfl)
def unS : Option D → Option (List D)
  | some (.str z) => some (signsD z)
  | _ => none
theorem x_itS : mItS fa en = unS (fa en) := by unfold mItS unS; rfl
theorem x_unS1 {z : Str} : unS (some (.str z)) = some (signsD z) := (rfl)
def rng1O : Option (List D) → Option (List D)
  | some [.int n] => if -1000000 ≤ n ∧ n ≤ 1000000 then some (rngD 0 n.toNat) else none
  | _ => none
theorem x_rng1 : mRng1 ga en = rng1O (ga en) := by unfold mRng1 rng1O; rfl
theorem x_rng11 {n : Int} (h : -1000000 ≤ n ∧ n ≤ 1000000) : rng1O (some [.int n]) = some (rngD 0 n.toNat) := if_pos h
def rng2O : Option (List D) → Option (List D)
  | some [.int m, .int n] => if (-1000000 ≤ m ∧ m ≤ 1000000) ∧ (-1000000 ≤ n ∧ n ≤ 1000000) then some (rngD m (n - m).toNat) else none
  | _ => none
theorem x_rng2 : mRng2 ga en = rng2O (ga en) := by unfold mRng2 rng2O; rfl
theorem x_rng21 {m n : Int} (h : (-1000000 ≤ m ∧ m ≤ 1000000) ∧ (-1000000 ≤ n ∧ n ≤ 1000000)) : rng2O (some [.int m, .int n]) = some (rngD m (n - m).toNat) := if_pos h
def enumO : Option (List D) → Option (List D)
  | some [.list xs] => some (enumD xs)
  | _ => none
theorem x_enum : mEnum ga en = enumO (ga en) := by unfold mEnum enumO; rfl
theorem x_enum1 : enumO (some [.list xs]) = some (enumD xs) := (rfl)
def zipO : Option (List D) → Option (List D)
  | some [.list xs, .list ys] => some (pairsD xs ys)
  | _ => none
theorem x_zip : mZip ga en = zipO (ga en) := by unfold mZip zipO; rfl
theorem x_zip1 : zipO (some [.list xs, .list ys]) = some (pairsD xs ys) := (rfl)
def ezO : Option (List D) → Option (List D)
  | some [.tuple xs, .tuple ys] => some (enumD (pairsD xs ys))
  | _ => none
theorem x_ez : mEz ga en = ezO (ga en) := by unfold mEz ezO; rfl
theorem x_ez1 : ezO (some [.tuple xs, .tuple ys]) = some (enumD (pairsD xs ys)) := (rfl)
/-! targets -/
theorem x_gname : mgName i d en = some (en.set i (some (.sh d))) := (rfl)
theorem x_gnil : mgNil [] en = some en := (rfl)
def gsO (gs : XGs) (ds : List D) : Option En → Option En
  | some e => gs ds e
  | none => none
theorem x_gcons {h : XG} {gs : XGs} : mgCons h gs (d :: ds) en = gsO gs ds (h d en) := by
  show (match h d en with | some e => gs ds e | none => none) = _
  unfold gsO
  cases h d en <;> rfl
theorem x_gs1 {gs : XGs} : gsO gs ds (some e) = gs ds e := (rfl)
theorem x_gtup {gs : XGs} (h : ds.length = n) : mgTup n gs (.tuple ds) en = gs ds en := by unfold mgTup; exact if_pos h
/-! comprehensions -/
def lcO (h : XG) (xt : XT) (xe : XE) (vs : List Nat) (en : En) : Option (List D) → Option (List D)
  | some xs => if (vs.all fun v => decide (v < en.length)) = true ∧ xs.length < 16000000 then lcGo h xt xe (wipeE en vs) xs else none
  | none => none
theorem x_lc {h : XG} {xt : XT} {xe : XE} : mLc ga h xt xe vs en = lcO h xt xe vs en (ga en) := by unfold mLc lcO; cases ga en <;> rfl
theorem x_lc1 {h : XG} {xt : XT} {xe : XE} (hv : (vs.all fun v => decide (v < en.length)) = true) (hz : xs.length < 16000000) : lcO h xt xe vs en (some xs) = lcGo h xt xe (wipeE en vs) xs := if_pos ⟨hv, hz⟩
def limO : Option (List D) → Option (List D)
  | some zs => if zs.length < 16000000 then some zs else none
  | none => none
theorem x_lim1 (h : ds.length < 16000000) : limO (some ds) = some ds := if_pos h
def lc2O (xg : XG) (xt : XT) (xi1 : XA) (xg1 : XG) (xt1 : XT) (xe : XE) (vs vs1 : List Nat) (en : En) : Option (List D) → Option (List D)
  | some xs => if (vs.all fun v => decide (v < en.length)) = true ∧ (vs1.all fun v => decide (v < en.length)) = true then (match lc2Go xg xt xi1 xg1 xt1 xe vs1 (wipeE en vs) xs with
    | some zs => if zs.length < 16000000 then some zs else none
    | none => none) else none
  | none => none
theorem x_lc2 {xg : XG} {xt : XT} {xi1 : XA} {xg1 : XG} {xt1 : XT} {xe : XE} {vs1 : List Nat} : mLc2 ga xg xt xi1 xg1 xt1 xe vs vs1 en = lc2O xg xt xi1 xg1 xt1 xe vs vs1 en (ga en) := by unfold mLc2 lc2O; cases ga en <;> rfl
theorem x_lc21 {xg : XG} {xt : XT} {xi1 : XA} {xg1 : XG} {xt1 : XT} {xe : XE} {vs1 : List Nat} (hv : (vs.all fun v => decide (v < en.length)) = true) (hv1 : (vs1.all fun v => decide (v < en.length)) = true) :
    lc2O xg xt xi1 xg1 xt1 xe vs vs1 en (some xs) = limO (lc2Go xg xt xi1 xg1 xt1 xe vs1 (wipeE en vs) xs) := by
  unfold lc2O limO
  simp only []
  rw [if_pos ⟨hv, hv1⟩]
/-! operators -/
theorem x_addI {a b : Int} : opAdd (.int a) (.int b) = some (.int (a + b)) := (rfl)
theorem x_addS {a b : Str} (h : a.length + b.length < 16000000) : opAdd (.str a) (.str b) = some (.str (a ++ b)) := if_pos h
theorem x_addT (h : xs.length + ys.length < 16000000) : opAdd (.tuple xs) (.tuple ys) = some (.tuple (xs ++ ys)) := if_pos h
theorem x_addL (h : xs.length + ys.length < 16000000) : opAdd (.list xs) (.list ys) = some (.list (xs ++ ys)) := if_pos h
theorem x_subI {a b : Int} : opSub (.int a) (.int b) = some (.int (a - b)) := (rfl)
theorem x_mulR {a b : Int} (h : -18446744073709551616 < b ∧ b < 18446744073709551616) : opMul (.int a) (.int b) = some (.int (a * b)) := if_pos (.inr h)
theorem x_mulL {a b : Int} (h : -18446744073709551616 < a ∧ a < 18446744073709551616) : opMul (.int a) (.int b) = some (.int (a * b)) := if_pos (.inl h)
theorem x_div {a b : Int} (h : 0 < b ∧ b < 1073741824) : opDiv (.int a) (.int b) = some (.int (a / b)) := if_pos h
theorem x_mod {a b : Int} (h : 0 < b) : opMod (.int a) (.int b) = some (.int (a % b)) := if_pos h
theorem x_shr {a b : Int} (h : 0 ≤ b) : opShr (.int a) (.int b) = some (.int (a / 2 ^ b.toNat)) := if_pos h
theorem x_shl {a b : Int} (h : 0 ≤ b ∧ b ≤ 1000000 ∧ a.natAbs < 18446744073709551616) : opShl (.int a) (.int b) = some (.int (a * 2 ^ b.toNat)) := if_pos h
theorem x_band {a b : Int} : opBand (.int a) (.int b) = some (.int (Builtin.bitAnd a b)) := (rfl)
theorem x_bor' {a b : Int} : opBor (.int a) (.int b) = some (.int (Builtin.bitOr a b)) := (rfl)
theorem x_bxor {a b : Int} : opBxor (.int a) (.int b) = some (.int (Builtin.bitXor a b)) := (rfl)
theorem x_ltI {a b : Int} : opLt (.int a) (.int b) = some (.bool (decide (a < b))) := (rfl)
theorem x_leI {a b : Int} : opLe (.int a) (.int b) = some (.bool (decide (a ≤ b))) := (rfl)
theorem x_gtI {a b : Int} : opGt (.int a) (.int b) = some (.bool (decide (b < a))) := (rfl)
theorem x_geI {a b : Int} : opGe (.int a) (.int b) = some (.bool (decide (b ≤ a))) := (rfl)
theorem x_ltS {a b : Str} : opLt (.str a) (.str b) = some (.bool (decide (a.cps.toList < b.cps.toList))) := (rfl)
theorem x_leS {a b : Str} : opLe (.str a) (.str b) = some (.bool (!decide (b.cps.toList < a.cps.toList))) := (rfl)
theorem x_ltT {a b : List Int} : opLt (.tuple (a.map .int)) (.tuple (b.map .int)) = some (.bool (HT.lexLt a b)) := by unfold opLt; simp
theorem x_leT {a b : List Int} : opLe (.tuple (a.map .int)) (.tuple (b.map .int)) = some (.bool (!HT.lexLt b a)) := by unfold opLe; simp
theorem x_isN {x : D} : opIsN x .none = some (.bool (isN x)) := by cases x <;> rfl
theorem x_isNotN {x : D} : opIsNotN x .none = some (.bool (!isN x)) := by cases x <;> rfl
theorem x_ixL {i : Int} : opIx (.list xs) (.int i) = atI xs i := (rfl)
theorem x_ixT {i : Int} : opIx (.tuple xs) (.int i) = atI xs i := (rfl)
theorem x_ixS {z : Str} {i : Int} (h : z.length ≤ 16000000) : opIx (.str z) (.int i) = (atI z.cps.toList i).map fun c => .str ⟨#[c]⟩ := if_pos h
theorem x_inT {neg : Bool} (h : (flatD x && xs.all flatD) = true) : opIn neg x (.tuple xs) = some (.bool (if neg then !inD x xs else inD x xs)) := if_pos h
theorem x_inS {neg : Bool} {c : Nat} {z : PySem.Str} : opIn neg (.str ⟨#[c]⟩) (.str z) = some (.bool (if neg then !decide (c ∈ z.cps.toList) else decide (c ∈ z.cps.toList))) := (rfl)
theorem x_len1 : clLen [.list xs] = some (.int xs.length) := (rfl)
theorem x_len2 : clLen [.tuple xs] = some (.int xs.length) := (rfl)
theorem x_len3 {z : Str} (h : z.length ≤ 16000000) : clLen [.str z] = some (.int z.length) := if_pos h
theorem x_int1 {i : Int} : clInt [.int i] = some (.int i) := (rfl)
theorem x_int2 {b : Bool} : clInt [.bool b] = some (.int (if b then 1 else 0)) := (rfl)
theorem x_clTup1 : clTup [.list xs] = some (.tuple xs) := (rfl)
theorem x_clTup2 : clTup [.tuple xs] = some (.tuple xs) := (rfl)
theorem x_max {i j : Int} : clMax [.int i, .int j] = some (.int (max i j)) := (rfl)
theorem x_min {i j : Int} : clMin [.int i, .int j] = some (.int (min i j)) := (rfl)
theorem x_pow : opPow (.int 10) (.int 18) = some (.int 1000000000000000000) := (rfl)
/-! the whole -/
def outO : Option Out → Option D
  | some (.rt d) => some d
  | some (.nx _) => some .none
  | _ => none
theorem x_run {N : List Str} : runM N f ds = outO (f (startE N ds)) := by unfold runM outO; cases f (startE N ds) with | none => rfl | some o => cases o <;> rfl
theorem x_out1 : outO (some (.rt d)) = some d := (rfl)
theorem x_out2 : outO (some (.nx e)) = some .none := (rfl)
end
end HF
namespace HF
theorem cut {P : En → Prop} {o : Option Out} {g : XS} {r : Option D} (h1 : ∃ e, o = some (.nx e) ∧ P e) (h2 : ∀ e, P e → outO (g e) = r) : outO (seqO o g) = r := by
  obtain ⟨e, rfl, p⟩ := h1
  exact h2 e p
theorem stepTo {e : En} {o : Option Out} {g : XS} {r : Option D} (h1 : o = some (.nx e)) (h2 : outO (g e) = r) : outO (seqO o g) = r := by rw [h1]; exact h2
theorem ifO_cases {b : Bool} {f g : XS} {en : En} {r : Option Out} (h1 : b = true → f en = r) (h2 : b = false → g en = r) : ifO (some b) f g en = r := by
  cases b with
  | true => exact h1 rfl
  | false => exact h2 rfl
theorem signs_len {z : PySem.Str} : (signsD z).length = z.length := by simp [signsD]; rfl
end HF
namespace HF
open PySem PySem.Spec
theorem opEq_lit {a b : PySem.Str} {c : Bool} (h : (PyData.strOk a && PyData.strOk b) = true) (hc : decide (a = b) = c) : opEq (.str a) (.str b) = some (.bool c) := by
  rw [Bool.and_eq_true] at h
  exact opEq_of (sh_str (n := 0) h.1).ok (sh_str (n := 0) h.2).ok (eqv_str.trans hc)
theorem opNe_lit {a b : PySem.Str} {c : Bool} (h : (PyData.strOk a && PyData.strOk b) = true) (hc : decide (a = b) = c) : opNe (.str a) (.str b) = some (.bool (!c)) := by
  rw [Bool.and_eq_true] at h
  exact opNe_of (sh_str (n := 0) h.1).ok (sh_str (n := 0) h.2).ok (eqv_str.trans hc)
theorem inT_lit {x : D} {xs : List D} {c : Bool} (h : (flatD x && xs.all flatD) = true) (hc : inD x xs = c) : opIn false x (.tuple xs) = some (.bool c) := by rw [x_inT h, hc]; rfl
theorem notInT_lit {x : D} {xs : List D} {c : Bool} (h : (flatD x && xs.all flatD) = true) (hc : inD x xs = c) : opIn true x (.tuple xs) = some (.bool (!c)) := by rw [x_inT h, hc]; rfl
theorem inD_cons {x z : D} {xs : List D} : inD x (z :: xs) = (PyData.eqv z x || inD x xs) := by unfold inD; rw [List.any_cons]
theorem inD_nil {x : D} : inD x [] = false := by unfold inD; rfl
/-- the same state function again and again -/
def itr {β : Type} (f : β → β) : Nat → β → β
  | 0, s => s
  | n + 1, s => itr f n (f s)
theorem foldl_itr {α β : Type} (f : β → β) : ∀ (as : List α) (s : β), as.foldl (fun s _ => f s) s = itr f as.length s
  | [], _ => rfl
  | _ :: as, s => foldl_itr f as (f s)
end HF

set_option Elab.async false
set_option linter.all false
set_option maxRecDepth 100000
set_option maxHeartbeats 2000000
/-! HF14: all(..), any(..) of a generator expression whose element may do anything and may read names around it; no test. -/
namespace GJ
open PySem PySem.Spec PyProof.Rows L2
section
variable {P : Program} {w : World}
theorem any_loopJ {A : Around} {R : Result → Shared → Prop} {I : Addr} {n : Nat} {Fi : Nat → Value → Prop} {St : Nat → Shared → Prop} {Z : Shared → Prop} (W : WalksJ P w A.in1 I n Fi St Z) (tr : Nat → Bool) (htr : TruthOf P w A.in1 Fi tr) :
    ∀ (k i : Nat) (s : Shared), n - i = k → i ≤ n → St i s → (∀ s', Z s' → R (.ok (.ret (.bool (((List.range n).drop i).any tr)))) s') → codeAny (model P w) A (.builtin "any.loop" ⟨[.ref I], []⟩) R s := by
  intro k
  induction k with
  | zero =>
    intro i s hk hi st hR
    obtain rfl : i = n := by omega
    refine codeAny_builtin F.entry_any_loop ?_
    rw [Around.under_plainId F.plain_any_loop _]
    show wpAny _ A.in1 (pyNext (.ref I) >>= _) _ _ s
    refine wpAny_bind (wpAny_mono (W.done s st) (fun r s' h => ?_) fun _ _ e => e.elim)
    obtain ⟨rfl, hz⟩ := h
    refine wpAny_bind (wpAny_rule (wpAny_pure ?_))
    have q := hR s' hz
    rw [List.drop_of_length_le (by simp)] at q
    exact q
  | succ k ih =>
    intro i s hk hi st hR
    have lt : i < n := by omega
    have hd : (List.range n).drop i = i :: (List.range n).drop (i + 1) := by
      rw [List.drop_eq_getElem_cons (by simpa using lt)]; simp
    refine codeAny_builtin F.entry_any_loop ?_
    rw [Around.under_plainId F.plain_any_loop _]
    show wpAny _ A.in1 (pyNext (.ref I) >>= _) _ _ s
    refine wpAny_bind (wpAny_mono (W.item i s lt st) (fun r s' h => ?_) fun _ _ e => e.elim)
    obtain ⟨v, rfl, hF, st'⟩ := h
    refine wpAny_bind (wpAny_holding (htr i v _ _ _ hF ?_))
    refine wpAny_bind (wpAny_letGo ?_)
    cases hb : tr i with
    | false =>
      simp only [Bool.false_eq_true, if_false]
      refine wpAny_pure ⟨plainId_quiet F.plain_any_loop _, ih (i + 1) _ (by omega) lt st' fun s2 hz => ?_⟩
      have q := hR s2 hz
      rw [hd, List.any_cons, hb, Bool.false_or] at q
      exact q
    | true =>
      simp only [if_true]
      refine wpAny_bind (wpAny_rule (wpAny_pure ?_))
      have q := hR s' (W.left _ _ st')
      rw [hd, List.any_cons, hb, Bool.true_or] at q
      exact q
theorem call_anyJ {A : Around} {E : Value → Shared → Prop} {s : Shared} {x : Value} {Q : Value → Shared → Prop}
    (h : wpAny (model P w) A.in1 (pyIter x) (fun it s2 => ∃ I n Fi St Z tr, it = .ref I ∧ WalksJ P w A.in1 I n Fi St Z ∧ St 0 s2 ∧ TruthOf P w A.in1 Fi tr ∧ ∀ s', Z s' → Q (.bool ((List.range n).any tr)) s') E s) :
    wpAny (model P w) A (call (.builtin "any") [x]) Q E s := by
  refine call_function_tree F.kind_any F.plain_any F.entry_any (F.args_any1 _) ?_
  unfold Builtin.«any»
  refine wpAny_bind (m := oneArg "any" _) (wpAny_pure ?_)
  refine wpAny_bind (wpAny_mono h (fun it s2 h2 => ?_) fun _ _ e => e)
  obtain ⟨I, n, Fi, St, Z, tr, rfl, W, st, htr, hQ⟩ := h2
  exact wpAny_pure ⟨plainId_quiet F.plain_any_loop _, any_loopJ W tr htr n 0 s2 rfl (Nat.zero_le _) st fun s' hz => by simpa using hQ s' hz⟩
end
structure GenM (scope : Scope) : Prop where
  kind : scope.kind = .function
  co : scope.isCoroutine = false
  cell : ∀ y ∈ scope.names, y.2 ≠ .cell
  dot : scope.names.lookup (".0" : Str) = some NameKind.local
abbrev genCC (X : Cx) (scope : Scope) (C : Addr) (code : Value) : Env := genEnv scope (cloFrom X.env.cells scope.names []) C code builtinsNs X.env
abbrev gxcC (X : Cx) (N : List Str) (scope : Scope) (C : Addr) (code : Value) (s0 : Shared) (H0 : Hp) (ex : List Addr) : Cx :=
  gcx X.prog X.w X.K X.mg X.base N (genCC X scope C code) X.A.in4.in1 X.stack s0 H0 ex []
theorem inv_gxC {P : Program} {w : World} {K : PySem.W.Frag} {mg : Str → Option Value} {base : Heap} {N : List Str} {cenv : Env} {A A0 : Around} {outer : List Env} {s0 s : Shared} {H0 : Hp} {ex : List Addr} {tN fr : List Str} {ws : List (Option V)} (hN : N = tN ++ fr) (CA : NdefX.CellsAt cenv.cells fr ws s0.heap H0) (hfl : ∀ y ∈ fr, cenv.scope.names.lookup y = some .free)
    (e0 : Env0 P w K mg base A0 outer s0 H0) (fr : A.frames = some outer) (hd : A.handled = none) (G : Gfr cenv s0 H0 outer base ex) {m : Str → Option Value}
    (os : s.os = s0.os) (bare : AllBare s.gens) (keep : ∀ b o, s0.heap.get? b = some o → s.heap.get? b = some o) (ns : s.heap.Ns cenv.locals m) :
    Inv (gcx P w K mg base N cenv A outer s0 H0 ex []) [] (List.replicate tN.length none ++ ws) H0 s := by
  have hlen : (List.replicate tN.length (none : Option V) ++ ws).length = N.length := by rw [hN, List.length_append, List.length_append, List.length_replicate, CA.len]
  refine ⟨⟨e0.mod, G.kind, G.glob, G.blt, G.above, G.inj, G.has, fun x c h => (by cases h), fun _ => hd, Around.frames_deeper fr, .inr ⟨rfl, G.frame⟩, fun b hb => ⟨(G.exf b hb).1, fun x c h z => (G.cell x c h).2.2 (by rw [z]; exact hb)⟩, e0.bs, e0.bsz,
      fun b o h hb => (G.exf b hb).2.2 o h, fun b hb => (G.exf b hb).2.1, e0.funs, e0.frf⟩,
    os, bare, Un.kept keep, ⟨_, ns, fun i y v h1 h2 h3 => ?_⟩, fun x c h => ?_, ?_, fun x c h => (G.cell x c h).2.1, fun p hp => absurd (show p ∈ ([] : List (Addr × Obj)) from hp) (by simp), e0.hok.kept keep, hlen⟩
  · by_cases hi : i < tN.length
    · rw [List.getElem?_append_left (by simpa using hi), List.getElem?_replicate] at h2
      split at h2 <;> cases h2
    · rw [List.getElem?_append_right (by simpa using hi), List.length_replicate] at h2
      have h1 : N[i]? = some y := h1
      rw [hN, List.getElem?_append_right (by omega)] at h1
      obtain ⟨c, hc, hv⟩ := CA.has _ y h1
      obtain ⟨u, r, z⟩ := hv v h2
      refine ⟨u, r, .inr ⟨.inr (hfl y (List.mem_of_getElem? h1)), c, hc, ?_⟩⟩
      first | exact z.keeps keep | exact z.at fun o e => keep _ o e
  · obtain ⟨⟨v, q⟩, _, _⟩ := G.cell x c h
    exact ⟨v, by first | exact q.keeps keep | exact q.at fun o e => keep _ o e⟩
  · exact e0.hok.fresh G.above
def tAllC (P : Addr) (nT : Nat) (js : List Nat) (wi : TI) (g : TG) (te : TE) : TE := fun σ H Q => wi σ H fun J H1 => GxR.TabG H1 P ∧ ∃ (n : Nat) (tr : Nat → Bool) (Pv : Nat → L2.St → Hp → Prop),
  (∀ H2, GxR.Tabbed P H1 H2 → Pv 0 (List.replicate nT none ++ js.map (NdefX.slotAt σ)) H2) ∧
  (∀ i σ' H', i < n → Pv i σ' H' → J.go i H' ∧ ∀ x H2, J.yld i H' x H2 → g x σ' H2 fun σ2 H3 => te σ2 H3 fun y H4 => y = .bl (tr i) ∧ Pv (i + 1) σ2 H4) ∧ (∀ σ' H', Pv n σ' H' → J.stop n H') ∧
  ∀ i σ' H', Pv i σ' H' → Q (.bl ((List.range n).all tr)) H'
def tAnyC (P : Addr) (nT : Nat) (js : List Nat) (wi : TI) (g : TG) (te : TE) : TE := fun σ H Q => wi σ H fun J H1 => GxR.TabG H1 P ∧ ∃ (n : Nat) (tr : Nat → Bool) (Pv : Nat → L2.St → Hp → Prop),
  (∀ H2, GxR.Tabbed P H1 H2 → Pv 0 (List.replicate nT none ++ js.map (NdefX.slotAt σ)) H2) ∧
  (∀ i σ' H', i < n → Pv i σ' H' → J.go i H' ∧ ∀ x H2, J.yld i H' x H2 → g x σ' H2 fun σ2 H3 => te σ2 H3 fun y H4 => y = .bl (tr i) ∧ Pv (i + 1) σ2 H4) ∧ (∀ σ' H', Pv n σ' H' → J.stop n H') ∧
  ∀ i σ' H', Pv i σ' H' → Q (.bl ((List.range n).any tr)) H'
section
variable {X : Cx}
theorem pe_allC {c P : Addr} {elt iter tg : Expr} {p pos gpos : Pos} {scope : Scope} {wi : TI} {g : TG} {te : TE} {k : Nat} {tN fr : List Str} {js : List Nat}
    (hr : Room (k + 2) X.A) (hg : Gl X "all") (hm : X.mg "all" = none) (hb : bootBuiltins "all" = some (.builtin "all")) (TB : GxR.TabB X.base X.mg c P) (hcode : X.env.code = .ref c) (S : GenM scope) (hfree : ∀ y ∈ scope.names, y.2 = .free → X.env.scope.names.lookup y.1 = some .cell ∨ X.env.scope.names.lookup y.1 = some .free) (hfr : ∀ y ∈ fr, (y, NameKind.free) ∈ scope.names) (hfl : ∀ y ∈ fr, scope.names.lookup y = some .free) (hjs : js.map (fun j => X.N[j]?) = fr.map some)
    (hi : PI X tg iter wi) (ht : ∀ C code s0 H0 ex, PG (gxcC X (tN ++ fr) scope C code s0 H0 ex) tg g) (he : ∀ C code s0 H0 ex, Room k (gxcC X (tN ++ fr) scope C code s0 H0 ex).A → PE (gxcC X (tN ++ fr) scope C code s0 H0 ex) elt te)
    (hs : ∀ v, genFold iter X.env v = pure v)
    (hse : starEach [.GeneratorExp elt [⟨tg, iter, [], 0⟩] scope gpos] X.env = (false, eval (.GeneratorExp elt [⟨tg, iter, [], 0⟩] scope gpos) X.env) :: starEach [] X.env := by rfl) :
    PE X (.Call (.Name "all" p) [.GeneratorExp elt [⟨tg, iter, [], 0⟩] scope gpos] [] pos) (tAllC P tN.length js wi g te) := by
  refine ⟨fun pins s σ H Q I h => ?_⟩
  refine wpAny_Call_Name_kw (ld_blt I hg hm hb ?_)
  refine PyProof.Rows.callWith_builtin1 ?_ hse (by rfl)
  rw [hse]
  show wpAny _ _ (spliced ((false, eval (.GeneratorExp elt [⟨tg, iter, [], 0⟩] scope gpos) X.env) :: backTo pos (starEach [] X.env))) _ _ s
  have hf : ∀ y ∈ scope.names, y.2 = .free → ∃ c, X.env.cells.lookup y.1 = some c := fun y hy e => (hfree y hy e).elim (fun z => I.ok.has _ (.inl z)) fun z => I.ok.has _ (.inr z)
  have clo : closureFor scope X.env = pure (cloFrom X.env.cells scope.names []) := closure_ok hf
  have cps : NdefX.Caps X (cloFrom X.env.cells scope.names []) fr js := NdefX.Caps.made I.ok hfree hfr hjs
  refine Calls.spliced_cons (make_genJ hr.hd S.co clo S.cell S.dot S.kind (by have := hr.dp; omega) ?_ hs)
  refine thn (hi.run pins s σ H _ I h) fun xv s1 h1 => thn h1 fun itv s2 h2 => ?_
  obtain ⟨it, fp, tn, J, H1, rfl, I2, T, st2, f2, ⟨ps, hP, htr⟩, n, tr, Pv, p0, step, stop, fin⟩ := h2
  have hPs : s2.heap.get? P = some { cls := .none, data := .fields ps } := I2.hok P _ hP
  have fpP : ∀ b ∈ fp, b ≠ P := fun b hb z => by
    have := (f2 b hb).1
    rw [z, hP] at this
    cases this
  have cd : PySem.W.CodeHd s2.heap c P := TB.code.keeps fun b u e => I2.bk b u e
  refine ⟨I2.nolimit, ?_⟩
  -- behind the code object
  have cont : ∀ (code : Value) (h3 : Heap) (tk : Nat) (H3 : Hp), Inv X pins σ H3 { s2 with heap := h3, toks := tk } → GxR.Tabbed P H1 H3 → Heap.ExtBut P s2.heap h3 →
      wpAny (model X.prog X.w) X.A (builtinsFor X.env.globals X.env.builtins) (fun bi s4 => s4.heap.NoLimit ∧
        ∀ (h5 : Heap) (tk : Nat) (g0 : GenState), g0.bare = true → h5.Ns s4.heap.objs.size (fun y => if y = ".0" then some (.ref it) else none) → (∀ b o, s4.heap.get? b = some o → h5.get? b = some o) → h5.objs.size = s4.heap.objs.size + 2 →
          h5.IsGen (s4.heap.objs.size + 1) s4.gens.size →
          ∃ I n Fi J Z Rel, Value.ref it = .ref I ∧ Stays J Z Rel (s4.heap.objs.size + 1) ∧ Turns X.prog X.w X.A.in4.in1 elt tg (genEnv scope (cloFrom X.env.cells scope.names []) s4.heap.objs.size code bi X.env) I n Fi J Z Rel ∧ J 0 { s4 with gens := s4.gens.push g0, toks := tk, heap := h5 } ∧
            (WalksJ X.prog X.w X.A.in4 (s4.heap.objs.size + 1) n Fi (GenJ X.prog X.w X.A.in4 (s4.heap.objs.size + 1) s4.gens.size n Fi J Z Rel) Z → GenJ X.prog X.w X.A.in4 (s4.heap.objs.size + 1) s4.gens.size n Fi J Z Rel 0 { s4 with gens := s4.gens.push g0, toks := tk, heap := h5 } →
              wpAny (model X.prog X.w) X.A (spliced (backTo pos (starEach [] X.env))) (fun vs s' => wpAny (model X.prog X.w) X.A (call (.builtin "all") (.ref (s4.heap.objs.size + 1) :: vs)) (EP X pins σ Q) X.xe s') X.xe { s4 with gens := s4.gens.push g0, toks := tk, heap := h5 })) X.xe { s2 with heap := h3, toks := tk } := by
    intro code h3 tk H3 I3 tb hx
    obtain ⟨bm, ob, e1, e2, e3, e4, e5, e6, e7, e8⟩ := TB.bm
    refine wpAny_builtinsFor (m := X.mg) (by rw [I3.ok.glob]; exact I3.mod.glob.keeps I3.bk) e1 e2 (I3.bk _ _ e5) e6 e7 e8 ?_
    refine ⟨I3.nolimit, fun h5 tk5 g0 hb0 hns k5 sz5 ig => ?_⟩
    have lt3 : ∀ b ∈ fp, b < h3.objs.size := fun b hb => by
      obtain ⟨o, e, _⟩ := T.obj _ _ st2 b hb
      exact Heap.lt_size (hx b o (fpP b hb) e)
    have st3 : tn 0 h3 := T.keep _ _ _ st2 fun b hb o e => hx b o (fpP b hb) e
    have fp3 : ∀ b ∈ fp, H3 b = none := fun b hb => (tb.2 b (fpP b hb)).trans (f2 b hb).1
    obtain ⟨oa, nm, qn, ia, ib, ic, _⟩ := id ig
    have e0 := I3.env0
    have CA := NdefX.cells_of I3 cps
    have G : Gfr (genCC X scope h3.objs.size code) { s2 with heap := h3, toks := tk } H3 X.stack X.base fp :=
      { kind := S.kind, glob := I3.ok.glob, blt := rfl, frame := rfl, above := Nat.le_refl _, inj := CA.inj, cell := fun x c h => ⟨(CA.all x c h).2, (CA.all x c h).1, fun z => (f2 c z).2.2.2.2.1 x c (cps.sub x c h) rfl⟩,
        has := fun x hx => by
          rcases hx with hx | hx
          · exact absurd rfl (S.cell _ (PySem.mem_of_lookup hx))
          · have hm := PySem.mem_of_lookup hx
            obtain ⟨c, hc⟩ := hf _ hm rfl
            exact ⟨c, NdefX.clo_has hf hm hc⟩,
        exf := fun b hb => ⟨Nat.ne_of_lt (lt3 b hb), fun z => by
          rcases List.mem_cons.mp (I3.stkSub b z) with z | z
          · exact (f2 b hb).2.1 z
          · exact (f2 b hb).2.2.1 z, fun o e => by
          rcases (f2 b hb).2.2.2.1 with z | z
          · exact I3.ok.noex b o e z
          · exact absurd (Nat.lt_of_lt_of_le (Heap.lt_size (I3.ok.bs b o e).1) z) (Nat.lt_irrefl _)⟩ }
    have I5 : Inv (gxcC X (tN ++ fr) scope h3.objs.size code { s2 with heap := h3, toks := tk } H3 fp) [] (List.replicate tN.length none ++ js.map (NdefX.slotAt σ)) H3 { ({ s2 with heap := h3, toks := tk } : Shared) with gens := s2.gens.push g0, toks := tk5, heap := h5 } :=
      inv_gxC (A := X.A.in4.in1) rfl CA hfl e0 I3.ok.frames hr.hd G rfl (I3.bare.push hb0) k5 hns
    have na : ∀ b o, h3.get? b = some o → b ≠ h3.objs.size + 1 := fun b o e => Nat.ne_of_lt (Nat.lt_succ_of_lt (Heap.lt_size e))
    have I5p : Inv (gxcC X (tN ++ fr) scope h3.objs.size code { s2 with heap := h3, toks := tk } H3 fp) [(h3.objs.size + 1, oa)] (List.replicate tN.length none ++ js.map (NdefX.slotAt σ)) H3 { ({ s2 with heap := h3, toks := tk } : Shared) with gens := s2.gens.push g0, toks := tk5, heap := h5 } :=
      I5.pins_of fun q hq => by
        rw [List.mem_singleton.mp hq]
        refine ⟨ia, I3.hok.fresh (Nat.le_succ _), Nat.succ_ne_self _, fun z => ?_, fun v z => by rw [ic] at z; cases z⟩
        have hz : h3.objs.size + 1 ∈ frs X.stack := z
        obtain ⟨_, o, e, _⟩ := I3.stack.mem hz
        exact na _ o e rfl
    refine ⟨it, n, fun i v => v = .bool (tr i), Jx (gxcC X (tN ++ fr) scope h3.objs.size code { s2 with heap := h3, toks := tk } H3 fp) [(h3.objs.size + 1, oa)] fp tn Pv, Zx (gxcC X (tN ++ fr) scope h3.objs.size code { s2 with heap := h3, toks := tk } H3 fp) [(h3.objs.size + 1, oa)] Pv, Rx (h3.objs.size + 1), rfl, stays_x, ?_, ?_, fun W gj => ?_⟩
    · exact turns_x (X := gxcC X (tN ++ fr) scope h3.objs.size code { s2 with heap := h3, toks := tk } H3 fp) (A := X.A.in4.in1) rfl rfl rfl T (ht _ _ _ _ _) (he _ _ _ _ _ ⟨hr.hd, by have := hr.dp; show X.A.depth + 1 + 3 * k + 5 < _; omega, by have := hr.un; show X.A.units + 1 + 1 + 1 + 1 + 1 + 3 + 16 * k + 200 < _; omega⟩) List.mem_cons_self
        (fun b hb => ⟨(G.exf b hb).1, (G.exf b hb).2.1, .inl hb, fun x c h z => (G.cell x c h).2.2 (by rw [z]; exact hb), fun q hq => by
          have hq : q ∈ [(h3.objs.size + 1, oa)] := hq
          rw [List.mem_singleton.mp hq]
          exact fun z => Nat.lt_irrefl _ (Nat.lt_of_lt_of_le (show h3.objs.size + 1 < h3.objs.size from by
            have := lt3 b hb
            have z : h3.objs.size + 1 = b := z
            rw [z]; exact this) (Nat.le_succ _))⟩) step stop
    · exact ⟨_, H3, I5p, T.keep _ _ _ st3 fun b hb o e => k5 b o e, fp3, p0 H3 tb⟩
    · refine Calls.spliced_nil ?_
      have W1 : WalksJ X.prog X.w X.A.in1 (h3.objs.size + 1) n (fun i v => v = .bool (tr i)) _ _ := WalksJ.of_in1 (A := X.A.in1) (WalksJ.of_in1 (A := X.A.in1.in1) (WalksJ.of_in1 (A := X.A.in1.in1.in1) W))
      refine call_allJ (wpAny_mono (W1.self 0 _ gj) (fun v s9 h9 => ?_) fun _ _ e => e.elim)
      obtain ⟨rfl, rfl⟩ := h9
      refine ⟨_, n, _, _, _, tr, rfl, W1, gj, fun i v s Q E hv hq => by rw [hv]; exact wpAny_truthy_bool hq, fun s' hz => ?_⟩
      obtain ⟨i, σ', H', I', pv⟩ := hz
      have u := I'.base
      have un : Un (frs X.stack) fp H3 H' h3 s'.heap := u
      have J' : Inv X pins σ H' { ({ s2 with heap := h3, toks := tk } : Shared) with heap := s'.heap, gens := s'.gens, drawn := s'.drawn, toks := s'.toks } := by
        refine I3.step (g' := s'.gens) (d' := s'.drawn) (ch := fp) (fun b hb => ⟨(f2 b hb).2.2.2.1, (f2 b hb).2.1, (f2 b hb).2.2.2.2.1, (f2 b hb).2.2.2.2.2⟩) (fun b o h1 h2 hc e z => un.keep b o e z (fun z2 => ?_) hc) (fun b o h1 h2 hc e z => un.any e z hc) (fun b o hc e z => un.free b o e z hc) (fun b o hc e => un.there b o e hc) un.tups un.frzs un.tbls (fun m hm => ?_) I'.hok I'.bare
        · rcases List.mem_cons.mp (I3.stkSub b z2) with z3 | z3
          · exact h1 z3
          · exact h2 z3
        · obtain ⟨o, es, ep, ho, r⟩ := hm
          obtain ⟨sl, q⟩ := un.any ho I3.free fun z => (f2 _ z).2.1 rfl
          exact ⟨_, es, ep, q, r⟩
      have os' : s'.os = ({ s2 with heap := h3, toks := tk } : Shared).os := I'.os
      rw [GxR.sh_eta _ s' os'] at J'
      exact ⟨.bl _, H', J', rfl, fin i σ' H' pv⟩
  cases hf : codeAmong gpos ps.toList with
  | none =>
    refine wpAny_genexprCodeX hcode (cd.code hPs htr) (cd.tab hPs) hf fun c' h' tk hx hge hlt hco' _ htab' _ => ?_
    obtain ⟨o1, vs, f1, tf, fl, tg', inF, tx, tt, op, _, _, _, _, _, _, _, _, _, htr', _⟩ := hco'
    have I3 : Inv X pins σ (upd H1 P (.tbl (ps ++ #[rawInt gpos.line, rawInt gpos.col, .ref c']))) { s2 with heap := h', gens := s2.gens, drawn := s2.drawn, toks := tk } := GxR.inv_tab I2 hP hx htab'.2 I2.bare
    exact cont _ h' tk _ I3 ⟨⟨_, upd_same, htr'⟩, fun b hb => upd_ne hb⟩ hx
  | some cv =>
    refine wpAny_genexprCode_hit hcode (cd.code hPs htr) hf ?_
    exact cont cv s2.heap s2.toks H1 I2 ⟨⟨ps, hP, htr⟩, fun _ _ => rfl⟩ (Heap.ExtBut.refl _ _)
theorem pe_anyC {c P : Addr} {elt iter tg : Expr} {p pos gpos : Pos} {scope : Scope} {wi : TI} {g : TG} {te : TE} {k : Nat} {tN fr : List Str} {js : List Nat}
    (hr : Room (k + 2) X.A) (hg : Gl X "any") (hm : X.mg "any" = none) (hb : bootBuiltins "any" = some (.builtin "any")) (TB : GxR.TabB X.base X.mg c P) (hcode : X.env.code = .ref c) (S : GenM scope) (hfree : ∀ y ∈ scope.names, y.2 = .free → X.env.scope.names.lookup y.1 = some .cell ∨ X.env.scope.names.lookup y.1 = some .free) (hfr : ∀ y ∈ fr, (y, NameKind.free) ∈ scope.names) (hfl : ∀ y ∈ fr, scope.names.lookup y = some .free) (hjs : js.map (fun j => X.N[j]?) = fr.map some)
    (hi : PI X tg iter wi) (ht : ∀ C code s0 H0 ex, PG (gxcC X (tN ++ fr) scope C code s0 H0 ex) tg g) (he : ∀ C code s0 H0 ex, Room k (gxcC X (tN ++ fr) scope C code s0 H0 ex).A → PE (gxcC X (tN ++ fr) scope C code s0 H0 ex) elt te)
    (hs : ∀ v, genFold iter X.env v = pure v)
    (hse : starEach [.GeneratorExp elt [⟨tg, iter, [], 0⟩] scope gpos] X.env = (false, eval (.GeneratorExp elt [⟨tg, iter, [], 0⟩] scope gpos) X.env) :: starEach [] X.env := by rfl) :
    PE X (.Call (.Name "any" p) [.GeneratorExp elt [⟨tg, iter, [], 0⟩] scope gpos] [] pos) (tAnyC P tN.length js wi g te) := by
  refine ⟨fun pins s σ H Q I h => ?_⟩
  refine wpAny_Call_Name_kw (ld_blt I hg hm hb ?_)
  refine PyProof.Rows.callWith_builtin1 ?_ hse (by rfl)
  rw [hse]
  show wpAny _ _ (spliced ((false, eval (.GeneratorExp elt [⟨tg, iter, [], 0⟩] scope gpos) X.env) :: backTo pos (starEach [] X.env))) _ _ s
  have hf : ∀ y ∈ scope.names, y.2 = .free → ∃ c, X.env.cells.lookup y.1 = some c := fun y hy e => (hfree y hy e).elim (fun z => I.ok.has _ (.inl z)) fun z => I.ok.has _ (.inr z)
  have clo : closureFor scope X.env = pure (cloFrom X.env.cells scope.names []) := closure_ok hf
  have cps : NdefX.Caps X (cloFrom X.env.cells scope.names []) fr js := NdefX.Caps.made I.ok hfree hfr hjs
  refine Calls.spliced_cons (make_genJ hr.hd S.co clo S.cell S.dot S.kind (by have := hr.dp; omega) ?_ hs)
  refine thn (hi.run pins s σ H _ I h) fun xv s1 h1 => thn h1 fun itv s2 h2 => ?_
  obtain ⟨it, fp, tn, J, H1, rfl, I2, T, st2, f2, ⟨ps, hP, htr⟩, n, tr, Pv, p0, step, stop, fin⟩ := h2
  have hPs : s2.heap.get? P = some { cls := .none, data := .fields ps } := I2.hok P _ hP
  have fpP : ∀ b ∈ fp, b ≠ P := fun b hb z => by
    have := (f2 b hb).1
    rw [z, hP] at this
    cases this
  have cd : PySem.W.CodeHd s2.heap c P := TB.code.keeps fun b u e => I2.bk b u e
  refine ⟨I2.nolimit, ?_⟩
  -- behind the code object
  have cont : ∀ (code : Value) (h3 : Heap) (tk : Nat) (H3 : Hp), Inv X pins σ H3 { s2 with heap := h3, toks := tk } → GxR.Tabbed P H1 H3 → Heap.ExtBut P s2.heap h3 →
      wpAny (model X.prog X.w) X.A (builtinsFor X.env.globals X.env.builtins) (fun bi s4 => s4.heap.NoLimit ∧
        ∀ (h5 : Heap) (tk : Nat) (g0 : GenState), g0.bare = true → h5.Ns s4.heap.objs.size (fun y => if y = ".0" then some (.ref it) else none) → (∀ b o, s4.heap.get? b = some o → h5.get? b = some o) → h5.objs.size = s4.heap.objs.size + 2 →
          h5.IsGen (s4.heap.objs.size + 1) s4.gens.size →
          ∃ I n Fi J Z Rel, Value.ref it = .ref I ∧ Stays J Z Rel (s4.heap.objs.size + 1) ∧ Turns X.prog X.w X.A.in4.in1 elt tg (genEnv scope (cloFrom X.env.cells scope.names []) s4.heap.objs.size code bi X.env) I n Fi J Z Rel ∧ J 0 { s4 with gens := s4.gens.push g0, toks := tk, heap := h5 } ∧
            (WalksJ X.prog X.w X.A.in4 (s4.heap.objs.size + 1) n Fi (GenJ X.prog X.w X.A.in4 (s4.heap.objs.size + 1) s4.gens.size n Fi J Z Rel) Z → GenJ X.prog X.w X.A.in4 (s4.heap.objs.size + 1) s4.gens.size n Fi J Z Rel 0 { s4 with gens := s4.gens.push g0, toks := tk, heap := h5 } →
              wpAny (model X.prog X.w) X.A (spliced (backTo pos (starEach [] X.env))) (fun vs s' => wpAny (model X.prog X.w) X.A (call (.builtin "any") (.ref (s4.heap.objs.size + 1) :: vs)) (EP X pins σ Q) X.xe s') X.xe { s4 with gens := s4.gens.push g0, toks := tk, heap := h5 })) X.xe { s2 with heap := h3, toks := tk } := by
    intro code h3 tk H3 I3 tb hx
    obtain ⟨bm, ob, e1, e2, e3, e4, e5, e6, e7, e8⟩ := TB.bm
    refine wpAny_builtinsFor (m := X.mg) (by rw [I3.ok.glob]; exact I3.mod.glob.keeps I3.bk) e1 e2 (I3.bk _ _ e5) e6 e7 e8 ?_
    refine ⟨I3.nolimit, fun h5 tk5 g0 hb0 hns k5 sz5 ig => ?_⟩
    have lt3 : ∀ b ∈ fp, b < h3.objs.size := fun b hb => by
      obtain ⟨o, e, _⟩ := T.obj _ _ st2 b hb
      exact Heap.lt_size (hx b o (fpP b hb) e)
    have st3 : tn 0 h3 := T.keep _ _ _ st2 fun b hb o e => hx b o (fpP b hb) e
    have fp3 : ∀ b ∈ fp, H3 b = none := fun b hb => (tb.2 b (fpP b hb)).trans (f2 b hb).1
    obtain ⟨oa, nm, qn, ia, ib, ic, _⟩ := id ig
    have e0 := I3.env0
    have CA := NdefX.cells_of I3 cps
    have G : Gfr (genCC X scope h3.objs.size code) { s2 with heap := h3, toks := tk } H3 X.stack X.base fp :=
      { kind := S.kind, glob := I3.ok.glob, blt := rfl, frame := rfl, above := Nat.le_refl _, inj := CA.inj, cell := fun x c h => ⟨(CA.all x c h).2, (CA.all x c h).1, fun z => (f2 c z).2.2.2.2.1 x c (cps.sub x c h) rfl⟩,
        has := fun x hx => by
          rcases hx with hx | hx
          · exact absurd rfl (S.cell _ (PySem.mem_of_lookup hx))
          · have hm := PySem.mem_of_lookup hx
            obtain ⟨c, hc⟩ := hf _ hm rfl
            exact ⟨c, NdefX.clo_has hf hm hc⟩,
        exf := fun b hb => ⟨Nat.ne_of_lt (lt3 b hb), fun z => by
          rcases List.mem_cons.mp (I3.stkSub b z) with z | z
          · exact (f2 b hb).2.1 z
          · exact (f2 b hb).2.2.1 z, fun o e => by
          rcases (f2 b hb).2.2.2.1 with z | z
          · exact I3.ok.noex b o e z
          · exact absurd (Nat.lt_of_lt_of_le (Heap.lt_size (I3.ok.bs b o e).1) z) (Nat.lt_irrefl _)⟩ }
    have I5 : Inv (gxcC X (tN ++ fr) scope h3.objs.size code { s2 with heap := h3, toks := tk } H3 fp) [] (List.replicate tN.length none ++ js.map (NdefX.slotAt σ)) H3 { ({ s2 with heap := h3, toks := tk } : Shared) with gens := s2.gens.push g0, toks := tk5, heap := h5 } :=
      inv_gxC (A := X.A.in4.in1) rfl CA hfl e0 I3.ok.frames hr.hd G rfl (I3.bare.push hb0) k5 hns
    have na : ∀ b o, h3.get? b = some o → b ≠ h3.objs.size + 1 := fun b o e => Nat.ne_of_lt (Nat.lt_succ_of_lt (Heap.lt_size e))
    have I5p : Inv (gxcC X (tN ++ fr) scope h3.objs.size code { s2 with heap := h3, toks := tk } H3 fp) [(h3.objs.size + 1, oa)] (List.replicate tN.length none ++ js.map (NdefX.slotAt σ)) H3 { ({ s2 with heap := h3, toks := tk } : Shared) with gens := s2.gens.push g0, toks := tk5, heap := h5 } :=
      I5.pins_of fun q hq => by
        rw [List.mem_singleton.mp hq]
        refine ⟨ia, I3.hok.fresh (Nat.le_succ _), Nat.succ_ne_self _, fun z => ?_, fun v z => by rw [ic] at z; cases z⟩
        have hz : h3.objs.size + 1 ∈ frs X.stack := z
        obtain ⟨_, o, e, _⟩ := I3.stack.mem hz
        exact na _ o e rfl
    refine ⟨it, n, fun i v => v = .bool (tr i), Jx (gxcC X (tN ++ fr) scope h3.objs.size code { s2 with heap := h3, toks := tk } H3 fp) [(h3.objs.size + 1, oa)] fp tn Pv, Zx (gxcC X (tN ++ fr) scope h3.objs.size code { s2 with heap := h3, toks := tk } H3 fp) [(h3.objs.size + 1, oa)] Pv, Rx (h3.objs.size + 1), rfl, stays_x, ?_, ?_, fun W gj => ?_⟩
    · exact turns_x (X := gxcC X (tN ++ fr) scope h3.objs.size code { s2 with heap := h3, toks := tk } H3 fp) (A := X.A.in4.in1) rfl rfl rfl T (ht _ _ _ _ _) (he _ _ _ _ _ ⟨hr.hd, by have := hr.dp; show X.A.depth + 1 + 3 * k + 5 < _; omega, by have := hr.un; show X.A.units + 1 + 1 + 1 + 1 + 1 + 3 + 16 * k + 200 < _; omega⟩) List.mem_cons_self
        (fun b hb => ⟨(G.exf b hb).1, (G.exf b hb).2.1, .inl hb, fun x c h z => (G.cell x c h).2.2 (by rw [z]; exact hb), fun q hq => by
          have hq : q ∈ [(h3.objs.size + 1, oa)] := hq
          rw [List.mem_singleton.mp hq]
          exact fun z => Nat.lt_irrefl _ (Nat.lt_of_lt_of_le (show h3.objs.size + 1 < h3.objs.size from by
            have := lt3 b hb
            have z : h3.objs.size + 1 = b := z
            rw [z]; exact this) (Nat.le_succ _))⟩) step stop
    · exact ⟨_, H3, I5p, T.keep _ _ _ st3 fun b hb o e => k5 b o e, fp3, p0 H3 tb⟩
    · refine Calls.spliced_nil ?_
      have W1 : WalksJ X.prog X.w X.A.in1 (h3.objs.size + 1) n (fun i v => v = .bool (tr i)) _ _ := WalksJ.of_in1 (A := X.A.in1) (WalksJ.of_in1 (A := X.A.in1.in1) (WalksJ.of_in1 (A := X.A.in1.in1.in1) W))
      refine call_anyJ (wpAny_mono (W1.self 0 _ gj) (fun v s9 h9 => ?_) fun _ _ e => e.elim)
      obtain ⟨rfl, rfl⟩ := h9
      refine ⟨_, n, _, _, _, tr, rfl, W1, gj, fun i v s Q E hv hq => by rw [hv]; exact wpAny_truthy_bool hq, fun s' hz => ?_⟩
      obtain ⟨i, σ', H', I', pv⟩ := hz
      have u := I'.base
      have un : Un (frs X.stack) fp H3 H' h3 s'.heap := u
      have J' : Inv X pins σ H' { ({ s2 with heap := h3, toks := tk } : Shared) with heap := s'.heap, gens := s'.gens, drawn := s'.drawn, toks := s'.toks } := by
        refine I3.step (g' := s'.gens) (d' := s'.drawn) (ch := fp) (fun b hb => ⟨(f2 b hb).2.2.2.1, (f2 b hb).2.1, (f2 b hb).2.2.2.2.1, (f2 b hb).2.2.2.2.2⟩) (fun b o h1 h2 hc e z => un.keep b o e z (fun z2 => ?_) hc) (fun b o h1 h2 hc e z => un.any e z hc) (fun b o hc e z => un.free b o e z hc) (fun b o hc e => un.there b o e hc) un.tups un.frzs un.tbls (fun m hm => ?_) I'.hok I'.bare
        · rcases List.mem_cons.mp (I3.stkSub b z2) with z3 | z3
          · exact h1 z3
          · exact h2 z3
        · obtain ⟨o, es, ep, ho, r⟩ := hm
          obtain ⟨sl, q⟩ := un.any ho I3.free fun z => (f2 _ z).2.1 rfl
          exact ⟨_, es, ep, q, r⟩
      have os' : s'.os = ({ s2 with heap := h3, toks := tk } : Shared).os := I'.os
      rw [GxR.sh_eta _ s' os'] at J'
      exact ⟨.bl _, H', J', rfl, fin i σ' H' pv⟩
  cases hf : codeAmong gpos ps.toList with
  | none =>
    refine wpAny_genexprCodeX hcode (cd.code hPs htr) (cd.tab hPs) hf fun c' h' tk hx hge hlt hco' _ htab' _ => ?_
    obtain ⟨o1, vs, f1, tf, fl, tg', inF, tx, tt, op, _, _, _, _, _, _, _, _, _, htr', _⟩ := hco'
    have I3 : Inv X pins σ (upd H1 P (.tbl (ps ++ #[rawInt gpos.line, rawInt gpos.col, .ref c']))) { s2 with heap := h', gens := s2.gens, drawn := s2.drawn, toks := tk } := GxR.inv_tab I2 hP hx htab'.2 I2.bare
    exact cont _ h' tk _ I3 ⟨⟨_, upd_same, htr'⟩, fun b hb => upd_ne hb⟩ hx
  | some cv =>
    refine wpAny_genexprCode_hit hcode (cd.code hPs htr) hf ?_
    exact cont cv s2.heap s2.toks H1 I2 ⟨⟨ps, hP, htr⟩, fun _ _ => rfl⟩ (Heap.ExtBut.refl _ _)
end
end GJ

set_option Elab.async false
set_option linter.all false
set_option maxRecDepth 100000
set_option maxHeartbeats 2000000
/-! M9: all(..), any(..) of generator expressions that read names around them. -/
namespace HF
open PySem L2 PySem.Spec PyProof.Rows
def capE (en : En) (js : List Nat) : En := js.map fun j : Nat => match (en[j]? : Option (Option Sl)) with
  | some (some (.sh d)) => some (.sh d)
  | _ => none
theorem capE_get {en : En} {js : List Nat} {i : Nat} {s : Sl} (h : (capE en js)[i]? = some (some s)) : ∃ j d, js[i]? = some j ∧ s = .sh d ∧ en[j]? = some (some (.sh d)) := by
  unfold capE at h
  rw [List.getElem?_map] at h
  cases e : js[i]? with
  | none => rw [e] at h; cases h
  | some j =>
    rw [e] at h
    have h := Option.some.inj h
    dsimp only at h
    split at h
    · rename_i d hd
      cases h
      exact ⟨j, d, rfl, rfl, hd⟩
    · cases h
theorem frameC_ok {K : Fg} {A0 A : Addr → Bool} {Hs H : Hp} {σ : L2.St} {en : En} (I : EnvOk K A0 Hs A H σ en) (nT : Nat) (js : List Nat) :
    EnvOk K A H A H (List.replicate nT none ++ js.map (NdefX.slotAt σ)) (noEn nT ++ capE en js) := by
  have own : ∀ (i : Nat) (s : Sl), (noEn nT ++ capE en js)[i]? = some (some s) → ∃ j d, nT ≤ i ∧ js[i - nT]? = some j ∧ s = .sh d ∧ en[j]? = some (some (.sh d)) := fun i s e => by
    by_cases hi : i < nT
    · rw [List.getElem?_append_left (by simpa [noEn] using hi)] at e
      exact (noEn_get e).elim
    · rw [List.getElem?_append_right (by simpa [noEn] using hi)] at e
      have hl : (noEn nT).length = nT := by simp [noEn]
      rw [hl] at e
      obtain ⟨j, d, h1, h2, h3⟩ := capE_get e
      exact ⟨j, d, by omega, h1, h2, h3⟩
  refine ⟨⟨I.tabs, Same.refl _⟩, fun _ _ => rfl, fun _ h => h, I.live, by simp [capE], fun _ => [], fun i s e => ?_⟩
  obtain ⟨j, d, hi, hj, rfl, he⟩ := own i s e
  obtain ⟨v, h1, h2⟩ := I.shd he
  refine ⟨v, ?_, h2⟩
  rw [List.getElem?_append_right (by simpa using hi), List.length_replicate, List.getElem?_map, hj]
  show some (NdefX.slotAt σ j) = _
  unfold NdefX.slotAt
  rw [h1]
section
variable {K : Fg} {en : En} {P : Addr} {nT : Nat} {js : List Nat} {wi : TI} {g : TG} {te : TE} {α : Type} {as : List α}
theorem any_trAt {α : Type} (f : α → Bool) (as : List α) : (List.range as.length).any (trAt f as) = as.any f := by
  rw [Bool.eq_iff_iff, List.any_eq_true, List.any_eq_true]
  constructor
  · rintro ⟨j, hj, h⟩
    have hj := List.mem_range.mp hj
    unfold trAt at h
    rw [List.getElem?_eq_getElem hj] at h
    exact ⟨_, List.getElem_mem hj, h⟩
  · rintro ⟨a, ha, h⟩
    obtain ⟨j, hj, e⟩ := List.getElem_of_mem ha
    refine ⟨j, List.mem_range.mpr hj, ?_⟩
    unfold trAt
    rw [List.getElem?_eq_getElem hj, e]
    exact h
theorem ev_allC (enc : α → D) (f : α → Bool) (hT : K.T P) (hw : EvI K wi en (as.map enc))
    (hs : ∀ (j : Nat) (a : α), as[j]? = some a → ∃ e', Weak e' (noEn nT ++ capE en js) ∧ GD K g (enc a) (noEn nT ++ capE en js) e' ∧ EvD K te e' (.bool (f a))) : EvD K (GJ.tAllC P nT js wi g te) en (.bool (as.all f)) := fun A0 Hs A H σ I Q k =>
  hw A0 Hs A H σ I _ fun J H1 g1 W => by
    have I1 := I.grow g1
    obtain ⟨hA, t⟩ := hide_tab (I1.tabs P hT)
    refine ⟨t, as.length, trAt f as, fun i σ' H' => Grow A H1 H' ∧ EnvOk K A H1 A H' σ' (noEn nT ++ capE en js), fun H2 tb => ?_, fun i σ' H' lt p => ?_, fun σ' H' p => ?_, fun i σ' H' p => ?_⟩
    · have gr := grow_tabbed hA t tb
      exact ⟨gr, (frameC_ok I1 nT js).grow gr⟩
    · obtain ⟨gr, E⟩ := p
      refine ⟨W.goes A H' i E.live gr.ex (by rw [List.length_map]; exact lt), fun x H2 y => ?_⟩
      have ha : as[i]? = some as[i] := List.getElem?_eq_getElem lt
      obtain ⟨g2, dx⟩ := W.yields A H' i (enc as[i]) x H2 E.live gr.ex (by rw [List.getElem?_map, ha]; rfl) y
      obtain ⟨e', hl, hg, he⟩ := hs i _ ha
      refine hg A H1 A H2 σ' x (E.grow g2) dx _ fun σ3 H3 g3 E3 => ?_
      refine he A H1 A H3 σ3 E3 _ fun u H4 g4 du => ?_
      refine ⟨?_, ((gr.trans g2).trans g3).trans g4, ?_⟩
      · rw [dp_bl du]
        unfold trAt
        rw [ha]
      · exact (E3.grow g4).weak hl
    · have q := W.stops A H' p.2.live p.1.ex
      rw [List.length_map] at q
      exact q
    · have q := k (.bl ((List.range as.length).all (trAt f as))) H' (g1.trans p.1)
      rw [all_trAt] at q ⊢
      exact q (.bl _)
theorem ev_anyC (enc : α → D) (f : α → Bool) (hT : K.T P) (hw : EvI K wi en (as.map enc))
    (hs : ∀ (j : Nat) (a : α), as[j]? = some a → ∃ e', Weak e' (noEn nT ++ capE en js) ∧ GD K g (enc a) (noEn nT ++ capE en js) e' ∧ EvD K te e' (.bool (f a))) : EvD K (GJ.tAnyC P nT js wi g te) en (.bool (as.any f)) := fun A0 Hs A H σ I Q k =>
  hw A0 Hs A H σ I _ fun J H1 g1 W => by
    have I1 := I.grow g1
    obtain ⟨hA, t⟩ := hide_tab (I1.tabs P hT)
    refine ⟨t, as.length, trAt f as, fun i σ' H' => Grow A H1 H' ∧ EnvOk K A H1 A H' σ' (noEn nT ++ capE en js), fun H2 tb => ?_, fun i σ' H' lt p => ?_, fun σ' H' p => ?_, fun i σ' H' p => ?_⟩
    · have gr := grow_tabbed hA t tb
      exact ⟨gr, (frameC_ok I1 nT js).grow gr⟩
    · obtain ⟨gr, E⟩ := p
      refine ⟨W.goes A H' i E.live gr.ex (by rw [List.length_map]; exact lt), fun x H2 y => ?_⟩
      have ha : as[i]? = some as[i] := List.getElem?_eq_getElem lt
      obtain ⟨g2, dx⟩ := W.yields A H' i (enc as[i]) x H2 E.live gr.ex (by rw [List.getElem?_map, ha]; rfl) y
      obtain ⟨e', hl, hg, he⟩ := hs i _ ha
      refine hg A H1 A H2 σ' x (E.grow g2) dx _ fun σ3 H3 g3 E3 => ?_
      refine he A H1 A H3 σ3 E3 _ fun u H4 g4 du => ?_
      refine ⟨?_, ((gr.trans g2).trans g3).trans g4, ?_⟩
      · rw [dp_bl du]
        unfold trAt
        rw [ha]
      · exact (E3.grow g4).weak hl
    · have q := W.stops A H' p.2.live p.1.ex
      rw [List.length_map] at q
      exact q
    · have q := k (.bl ((List.range as.length).any (trAt f as))) H' (g1.trans p.1)
      rw [any_trAt] at q ⊢
      exact q (.bl _)
end
/-! the targets write only into these slots -/
def GWk (xg : XG) (nT : Nat) : Prop := ∀ d (c e' : En), xg d (noEn nT ++ c) = some e' → Weak e' (noEn nT ++ c)
def OnlyIn (nT : Nat) (e e' : En) : Prop := e.length = e'.length ∧ ∀ i, nT ≤ i → e[i]? = e'[i]?
def GOn (xg : XG) (nT : Nat) : Prop := ∀ d e e', xg d e = some e' → OnlyIn nT e e'
def GsOn (xg : XGs) (nT : Nat) : Prop := ∀ d e e', xg d e = some e' → OnlyIn nT e e'
theorem on_name {i nT : Nat} (h : i < nT) : GOn (mgName i) nT := fun d e e' q => by
  cases q
  exact ⟨by simp, fun j hj => by rw [List.getElem?_set_ne (by omega)]⟩
theorem on_nil {nT : Nat} : GsOn mgNil nT := fun d e e' q => by
  unfold mgNil at q
  split at q
  · cases q; exact ⟨rfl, fun _ _ => rfl⟩
  · cases q
theorem on_cons {g : XG} {gs : XGs} {nT : Nat} (h : GOn g nT) (hs : GsOn gs nT) : GsOn (mgCons g gs) nT := fun d e e' q => by
  unfold mgCons at q
  split at q
  · split at q
    · rename_i e1 h1
      obtain ⟨a1, a2⟩ := h _ _ _ h1
      obtain ⟨b1, b2⟩ := hs _ _ _ q
      exact ⟨a1.trans b1, fun i hi => (a2 i hi).trans (b2 i hi)⟩
    · cases q
  · cases q
theorem on_tup {gs : XGs} {n nT : Nat} (hs : GsOn gs nT) : GOn (mgTup n gs) nT := fun d e e' q => by
  unfold mgTup at q
  split at q
  · split at q
    · exact hs _ _ _ q
    · cases q
  · cases q
theorem weak_of : ∀ {e f : En}, e.length = f.length → (∀ (i : Nat) (s : Sl), f[i]? = some (some s) → e[i]? = some (some s)) → Weak e f
  | [], [], _, _ => trivial
  | [], _ :: _, h, _ => by cases h
  | _ :: _, [], h, _ => by cases h
  | x :: e, y :: f, h, k => by
    refine ⟨?_, weak_of (Nat.succ.inj h) fun i s q => k (i + 1) s q⟩
    cases y with
    | none => exact .inl rfl
    | some s =>
      have := k 0 s rfl
      exact .inr (by simp at this; exact this.symm)
theorem gwk_of {xg : XG} {nT : Nat} (h : GOn xg nT) : GWk xg nT := fun d c e' q => by
  obtain ⟨h1, h2⟩ := h _ _ _ q
  refine weak_of h1.symm fun i s e => ?_
  by_cases hi : i < nT
  · rw [List.getElem?_append_left (by simpa [noEn] using hi)] at e
    exact (noEn_get e).elim
  · rw [← h2 i (by omega)]; exact e
def allGo (xg : XG) (xe : XE) (e0 : En) : List D → Option Bool
  | [] => some true
  | x :: xs => match xg x e0 with
    | some e1 => (match xe e1 with
      | some (.bool b) => (match allGo xg xe e0 xs with
        | some c => some (b && c)
        | none => none)
      | _ => none)
    | none => none
def anyGo (xg : XG) (xe : XE) (e0 : En) : List D → Option Bool
  | [] => some false
  | x :: xs => match xg x e0 with
    | some e1 => (match xe e1 with
      | some (.bool b) => (match anyGo xg xe e0 xs with
        | some c => some (b || c)
        | none => none)
      | _ => none)
    | none => none
def elB (xg : XG) (xe : XE) (e0 : En) (x : D) : Bool := match (xg x e0).bind xe with
  | some (.bool b) => b
  | _ => false
theorem allGo_ok {xg : XG} {xe : XE} {e0 : En} : ∀ {xs : List D} {b : Bool}, allGo xg xe e0 xs = some b → b = xs.all (elB xg xe e0) ∧ ∀ x ∈ xs, ∃ e1, xg x e0 = some e1 ∧ xe e1 = some (.bool (elB xg xe e0 x))
  | [], b, h => by cases h; exact ⟨rfl, fun x hx => by cases hx⟩
  | x :: xs, b, h => by
    unfold allGo at h
    split at h
    · rename_i e1 h1
      split at h
      · rename_i b1 h2
        split at h
        · rename_i c h3
          cases h
          obtain ⟨i1, i2⟩ := allGo_ok h3
          have f : elB xg xe e0 x = b1 := by unfold elB; rw [h1]; show (match xe e1 with | some (.bool b) => b | _ => false) = b1; rw [h2]
          refine ⟨by rw [List.all_cons, f, ← i1], fun z hz => ?_⟩
          rcases List.mem_cons.mp hz with rfl | hz
          · exact ⟨e1, h1, by rw [f]; exact h2⟩
          · exact i2 z hz
        · cases h
      · cases h
    · cases h
theorem anyGo_ok {xg : XG} {xe : XE} {e0 : En} : ∀ {xs : List D} {b : Bool}, anyGo xg xe e0 xs = some b → b = xs.any (elB xg xe e0) ∧ ∀ x ∈ xs, ∃ e1, xg x e0 = some e1 ∧ xe e1 = some (.bool (elB xg xe e0 x))
  | [], b, h => by cases h; exact ⟨rfl, fun x hx => by cases hx⟩
  | x :: xs, b, h => by
    unfold anyGo at h
    split at h
    · rename_i e1 h1
      split at h
      · rename_i b1 h2
        split at h
        · rename_i c h3
          cases h
          obtain ⟨i1, i2⟩ := anyGo_ok h3
          have f : elB xg xe e0 x = b1 := by unfold elB; rw [h1]; show (match xe e1 with | some (.bool b) => b | _ => false) = b1; rw [h2]
          refine ⟨by rw [List.any_cons, f, ← i1], fun z hz => ?_⟩
          rcases List.mem_cons.mp hz with rfl | hz
          · exact ⟨e1, h1, by rw [f]; exact h2⟩
          · exact i2 z hz
        · cases h
      · cases h
    · cases h
def mAllC (nT : Nat) (js : List Nat) (xi : XA) (xg : XG) (xe : XE) : XE := fun en => match xi en with
  | some xs => (match allGo xg xe (noEn nT ++ capE en js) xs with
    | some b => some (.bool b)
    | none => none)
  | none => none
def mAnyC (nT : Nat) (js : List Nat) (xi : XA) (xg : XG) (xe : XE) : XE := fun en => match xi en with
  | some xs => (match anyGo xg xe (noEn nT ++ capE en js) xs with
    | some b => some (.bool b)
    | none => none)
  | none => none
section
variable {K : Fg} {P : Addr} {nT : Nat} {js : List Nat} {wi : TI} {g : TG} {te : TE} {xi : XA} {xg : XG} {fe : XE}
theorem me_allC (hT : K.T P) (hi : MI K wi xi) (hg : MG K g xg) (he : ME K te fe) (ho : GOn xg nT) : ME K (GJ.tAllC P nT js wi g te) (mAllC nT js xi xg fe) := fun en d e => by
  unfold mAllC at e
  split at e
  · rename_i xs hx
    split at e
    · rename_i b hb
      cases e
      obtain ⟨h1, h2⟩ := allGo_ok hb
      rw [h1]
      refine ev_allC id _ hT ((hi en _ hx).eq (by simp)) fun j a ha => ?_
      obtain ⟨e1, q1, q2⟩ := h2 a (List.mem_of_getElem? ha)
      exact ⟨e1, gwk_of ho _ _ _ q1, hg _ _ _ q1, he _ _ q2⟩
    · cases e
  · cases e
theorem me_anyC (hT : K.T P) (hi : MI K wi xi) (hg : MG K g xg) (he : ME K te fe) (ho : GOn xg nT) : ME K (GJ.tAnyC P nT js wi g te) (mAnyC nT js xi xg fe) := fun en d e => by
  unfold mAnyC at e
  split at e
  · rename_i xs hx
    split at e
    · rename_i b hb
      cases e
      obtain ⟨h1, h2⟩ := anyGo_ok hb
      rw [h1]
      refine ev_anyC id _ hT ((hi en _ hx).eq (by simp)) fun j a ha => ?_
      obtain ⟨e1, q1, q2⟩ := h2 a (List.mem_of_getElem? ha)
      exact ⟨e1, gwk_of ho _ _ _ q1, hg _ _ _ q1, he _ _ q2⟩
    · cases e
  · cases e
end
/-! running -/
def blO : Option Bool → Option D
  | some b => some (.bool b)
  | none => none
def allO (xg : XG) (xe : XE) (e0 : En) : Option (List D) → Option D
  | some xs => blO (allGo xg xe e0 xs)
  | none => none
def anyO (xg : XG) (xe : XE) (e0 : En) : Option (List D) → Option D
  | some xs => blO (anyGo xg xe e0 xs)
  | none => none
section
variable {en : En} {nT : Nat} {js : List Nat} {xi : XA} {xg : XG} {fe : XE} {xs : List D} {b : Bool}
theorem x_bl1 : blO (some b) = some (.bool b) := (rfl)
theorem x_all : mAllC nT js xi xg fe en = allO xg fe (noEn nT ++ capE en js) (xi en) := by
  unfold mAllC allO
  cases xi en with
  | none => rfl
  | some xs => dsimp only; unfold blO; first | done | (cases allGo xg fe (noEn nT ++ capE en js) xs <;> rfl)
theorem x_all1 {e0 : En} : allO xg fe e0 (some xs) = blO (allGo xg fe e0 xs) := (rfl)
theorem x_any : mAnyC nT js xi xg fe en = anyO xg fe (noEn nT ++ capE en js) (xi en) := by
  unfold mAnyC anyO
  cases xi en with
  | none => rfl
  | some xs => dsimp only; unfold blO; first | done | (cases anyGo xg fe (noEn nT ++ capE en js) xs <;> rfl)
theorem x_any1 {e0 : En} : anyO xg fe e0 (some xs) = blO (anyGo xg fe e0 xs) := (rfl)
theorem x_cap0 : capE en [] = [] := (rfl)
def cap1 : Option (Option Sl) → Option Sl
  | some (some (.sh d)) => some (.sh d)
  | _ => none
theorem x_capS {j : Nat} : capE en (j :: js) = cap1 en[j]? :: capE en js := by unfold capE cap1; rfl
theorem x_cap1 {d : D} : cap1 (some (some (.sh d))) = some (.sh d) := (rfl)
theorem x_noEn : noEn nT = List.replicate nT none := (rfl)
theorem allGo_map {α : Type} {e0 : En} (enc : α → D) (f : α → Bool) (as : List α) (h : ∀ a ∈ as, ∃ e1, xg (enc a) e0 = some e1 ∧ fe e1 = some (.bool (f a))) : allGo xg fe e0 (as.map enc) = some (as.all f) := by
  induction as with
  | nil => rfl
  | cons a as ih =>
    obtain ⟨e1, h1, h2⟩ := h a List.mem_cons_self
    rw [List.map_cons, allGo, h1]
    simp only []
    rw [h2, ih fun c hc => h c (List.mem_cons_of_mem _ hc), List.all_cons]
theorem anyGo_map {α : Type} {e0 : En} (enc : α → D) (f : α → Bool) (as : List α) (h : ∀ a ∈ as, ∃ e1, xg (enc a) e0 = some e1 ∧ fe e1 = some (.bool (f a))) : anyGo xg fe e0 (as.map enc) = some (as.any f) := by
  induction as with
  | nil => rfl
  | cons a as ih =>
    obtain ⟨e1, h1, h2⟩ := h a List.mem_cons_self
    rw [List.map_cons, anyGo, h1]
    simp only []
    rw [h2, ih fun c hc => h c (List.mem_cons_of_mem _ hc), List.any_cons]
end
end HF
namespace HF
open PySem
def capOk (g f : Scope) : Bool := g.names.all fun y => y.2 != .free || f.names.lookup y.1 == some .cell || f.names.lookup y.1 == some .free
theorem capOk_ok {g f : Scope} (h : capOk g f = true) : ∀ y ∈ g.names, y.2 = NameKind.free → f.names.lookup y.1 = some .cell ∨ f.names.lookup y.1 = some .free := fun y hy e => by
  have q := List.all_eq_true.mp h y hy
  rw [e] at q
  simpa using q
end HF

set_option Elab.async false
set_option linter.all false
set_option maxRecDepth 100000
set_option maxHeartbeats 2000000
/-! M10: further operators and methods. -/
namespace HF
open PySem L2 PySem.Spec PyProof.Rows
section
variable {K : Fg}
theorem dpa_flat {H : Hp} {vs : List V} {ds : List D} (h : DqAll K H vs ds) : ∀ n : Nat, DqAll K H (List.replicate n vs).flatten (List.replicate n ds).flatten
  | 0 => .nil
  | n + 1 => by
    rw [List.replicate_succ, List.replicate_succ, List.flatten_cons, List.flatten_cons]
    exact dpa_append h (dpa_flat h n)
def opMulT : D → D → Option D
  | .tuple xs, .int k => if xs ≠ [] ∧ 2 ≤ k ∧ k ≤ 1000 ∧ xs.length ≤ 1000 then some (.tuple (List.replicate k.toNat xs).flatten) else none
  | _, _ => none
theorem rd_mulT {xs : List D} {k : Int} (h1 : xs ≠ []) (h2 : 2 ≤ k) (h3 : k ≤ 1000) (h4 : xs.length ≤ 1000) : RD2 K (rRepT K) (.tuple xs) (.int k) (.tuple (List.replicate k.toNat xs).flatten) := fun A H v w l dx dy Q q => by
  obtain ⟨a, us, rfl, hs, hd⟩ := dp_tup dx
  have hl := dpa_len hd
  refine ⟨a, k, us, rfl, dp_int dy, st_mono hide_sub hs, fun z => ?_, h2, h3, by omega, fun p hp => ?_⟩
  · rw [z] at hl
    cases xs with
    | nil => exact h1 rfl
    | cons a l => simp at hl
  · have g := Grow.new (o := .tup (List.replicate k.toNat us).flatten) l hp
    exact q _ _ g (.tup (.inl (.inl (hide_new l hp))) (dpa_mono g.ex (dpa_flat hd k.toNat)))
instance (xs : List D) : Decidable (xs ≠ []) := match xs with
  | [] => .isFalse fun h => h rfl
  | _ :: _ => .isTrue fun h => by cases h
theorem mo_mulT : MOp K (rRepT K) opMulT := mo_of fun x y z e => by
  unfold opMulT at e
  split at e
  · split at e
    · rename_i h
      cases e; exact rd_mulT h.1 h.2.1 h.2.2.1 h.2.2.2
    · cases e
  · cases e
theorem x_mulT {xs : List D} {k : Int} (h : xs ≠ [] ∧ 2 ≤ k ∧ k ≤ 1000 ∧ xs.length ≤ 1000) : opMulT (.tuple xs) (.int k) = some (.tuple (List.replicate k.toNat xs).flatten) := if_pos h
theorem x_mulS {z : PySem.Str} {n : Int} (h : 2 ≤ n ∧ n ≤ 1000 ∧ 1 ≤ z.length ∧ z.length ≤ 1000 ∧ (repS z n.toNat).length ≤ 16000000) : opMulS (.str z) (.int n) = some (.str (repS z n.toNat)) := if_pos h
end
end HF
namespace HF
theorem tabB_of {base : PySem.Heap} {mg : PySem.Str → Option PySem.Value} {c P : PySem.Addr} (t : LamX.TabB base mg c P) : GxR.TabB base mg c P := by
  cases t
  constructor <;> assumption
end HF

set_option Elab.async false
set_option linter.all false
set_option maxRecDepth 100000
set_option maxHeartbeats 2000000
/-! M11: `is` between truth values; walks over whatever can be walked. -/
namespace HF
open PySem L2 PySem.Spec PyProof.Rows
def rIsV : R2 := fun x y H Q => ∃ b, y = .bl b ∧ Q (.bl (decide (x = .bl b))) H
def rIsNotV : R2 := fun x y H Q => ∃ b, y = .bl b ∧ Q (.bl (!decide (x = .bl b))) H
theorem op_isV {X : Cx} : OpR X (compareOp .Is) rIsV := by
  intro pins s σ H x y v u Q I rx ry h
  obtain ⟨b, rfl, q⟩ := h
  cases ry
  by_cases e : x = .bl b
  · subst e
    cases rx
    rw [decide_eq_true rfl] at q
    exact wpAny_is_self rfl ⟨.bl true, H, I, rfl, q⟩
  · rw [decide_eq_false e] at q
    cases x with
    | non => cases rx; exact wpAny_is_other rfl (fun z => by cases z) ⟨.bl false, H, I, rfl, q⟩
    | bl a => cases rx; exact wpAny_is_other rfl (fun z => e (by cases z; rfl)) ⟨.bl false, H, I, rfl, q⟩
    | int i => obtain ⟨t, rfl⟩ := rx; exact wpAny_is_other rfl (fun z => by cases z) ⟨.bl false, H, I, rfl, q⟩
    | str i => obtain ⟨t, rfl⟩ := rx; exact wpAny_is_other rfl (fun z => by cases z) ⟨.bl false, H, I, rfl, q⟩
    | byt i => obtain ⟨t, rfl⟩ := rx; exact wpAny_is_other rfl (fun z => by cases z) ⟨.bl false, H, I, rfl, q⟩
    | flt i => obtain ⟨t, rfl⟩ := rx; exact wpAny_is_other rfl (fun z => by cases z) ⟨.bl false, H, I, rfl, q⟩
    | ref i => cases rx; exact wpAny_is_other rfl (fun z => by cases z) ⟨.bl false, H, I, rfl, q⟩
    | ty i => cases rx; exact wpAny_is_other rfl (fun z => by cases z) ⟨.bl false, H, I, rfl, q⟩
theorem op_isNotV {X : Cx} : OpR X (compareOp .IsNot) rIsNotV := by
  intro pins s σ H x y v u Q I rx ry h
  obtain ⟨b, rfl, q⟩ := h
  cases ry
  by_cases e : x = .bl b
  · subst e
    cases rx
    rw [decide_eq_true rfl] at q
    exact wpAny_isNot_self rfl ⟨.bl false, H, I, rfl, q⟩
  · rw [decide_eq_false e] at q
    cases x with
    | non => cases rx; exact wpAny_isNot_other rfl (fun z => by cases z) ⟨.bl true, H, I, rfl, q⟩
    | bl a => cases rx; exact wpAny_isNot_other rfl (fun z => e (by cases z; rfl)) ⟨.bl true, H, I, rfl, q⟩
    | int i => obtain ⟨t, rfl⟩ := rx; exact wpAny_isNot_other rfl (fun z => by cases z) ⟨.bl true, H, I, rfl, q⟩
    | str i => obtain ⟨t, rfl⟩ := rx; exact wpAny_isNot_other rfl (fun z => by cases z) ⟨.bl true, H, I, rfl, q⟩
    | byt i => obtain ⟨t, rfl⟩ := rx; exact wpAny_isNot_other rfl (fun z => by cases z) ⟨.bl true, H, I, rfl, q⟩
    | flt i => obtain ⟨t, rfl⟩ := rx; exact wpAny_isNot_other rfl (fun z => by cases z) ⟨.bl true, H, I, rfl, q⟩
    | ref i => cases rx; exact wpAny_isNot_other rfl (fun z => by cases z) ⟨.bl true, H, I, rfl, q⟩
    | ty i => cases rx; exact wpAny_isNot_other rfl (fun z => by cases z) ⟨.bl true, H, I, rfl, q⟩
def rIsW : R2 := rOrU rIsNU rIsV
def rIsNotW : R2 := rOrU rIsNotNU rIsNotV
theorem op_isW {X : Cx} : OpR X (compareOp .Is) rIsW := op_or2 op_isU op_isV
theorem op_isNotW {X : Cx} : OpR X (compareOp .IsNot) rIsNotW := op_or2 op_isNotU op_isNotV
def isB (b : Bool) : D → Bool
  | .bool a => decide (a = b)
  | _ => false
theorem isB_of {K : Fg} {H : Hp} {v : V} {d : D} {b : Bool} (h : Dq K H v d) : decide (v = .bl b) = isB b d := by
  cases h <;> simp [isB]
def opIs : D → D → Option D
  | x, .none => some (.bool (isN x))
  | x, .bool b => some (.bool (isB b x))
  | _, _ => none
def opIsNot : D → D → Option D
  | x, .none => some (.bool (!isN x))
  | x, .bool b => some (.bool (!isB b x))
  | _, _ => none
section
variable {K : Fg} {te ta tb : TE} {en : En} {fa : XE}
theorem mo_is : MOp K rIsW opIs := mo_of fun x y z e => by
  unfold opIs at e
  split at e
  · cases e; exact rd_left rd_isN
  · cases e
    refine rd_right fun A H v w l dx dy Q k => ⟨_, dp_bl dy, by rw [isB_of dx]; exact k _ H (Grow.refl H) (.bl _)⟩
  · cases e
theorem mo_isNot : MOp K rIsNotW opIsNot := mo_of fun x y z e => by
  unfold opIsNot at e
  split at e
  · cases e; exact rd_left rd_notN
  · cases e
    refine rd_right fun A H v w l dx dy Q k => ⟨_, dp_bl dy, by rw [isB_of dx]; exact k _ H (Grow.refl H) (.bl _)⟩
  · cases e
theorem x_isW {x : D} : opIs x .none = some (.bool (isN x)) := by cases x <;> rfl
theorem x_isNotW {x : D} : opIsNot x .none = some (.bool (!isN x)) := by cases x <;> rfl
theorem x_isB {b : Bool} {x : D} : opIs x (.bool b) = some (.bool (isB b x)) := by cases x <;> rfl
theorem x_isNotB {b : Bool} {x : D} : opIsNot x (.bool b) = some (.bool (!isB b x)) := by cases x <;> rfl
/-- a list, a tuple or a text -/
def iAny (K : Fg) (te : TE) : TI := fun σ H R => iList K te σ H R ∨ iTup K te σ H R ∨ iStr te σ H R
theorem pi_any {X : Cx} {tg l : Expr} {K : Fg} {tl : TE} (e : X.K = K.fr) (h : PE X l tl) : PI X tg l (iAny K tl) := ⟨fun pins s σ H R I q => by
  rcases q with q | q | q
  · exact (pi_list h).run pins s σ H R I (by rw [e]; exact q)
  · exact (pi_tup h).run pins s σ H R I (by rw [e]; exact q)
  · exact (pi_str h).run pins s σ H R I q⟩
def mItA (f : XE) : XA := fun en => match f en with
  | some (.list xs) => some xs
  | some (.tuple xs) => some xs
  | some (.str z) => some (signsD z)
  | _ => none
theorem mi_any (h : ME K ta fa) : MI K (iAny K ta) (mItA fa) := fun en ds e => by
  unfold mItA at e
  split at e
  · cases e; exact fun A0 Hs A H σ I R k => .inl (ei_list (h en _ (by assumption)) A0 Hs A H σ I R k)
  · cases e; exact fun A0 Hs A H σ I R k => .inr (.inl (ei_tup (h en _ (by assumption)) A0 Hs A H σ I R k))
  · cases e; exact fun A0 Hs A H σ I R k => .inr (.inr (ei_str (h en _ (by assumption)) A0 Hs A H σ I R k))
  · cases e
def unA : Option D → Option (List D)
  | some (.list xs) => some xs
  | some (.tuple xs) => some xs
  | some (.str z) => some (signsD z)
  | _ => none
theorem x_notTb {b : Bool} : notTO (some (.bool b)) = some (.bool (!b)) := (rfl)
theorem x_itA : mItA fa en = unA (fa en) := by unfold mItA unA; rfl
theorem x_unA1 {xs : List D} : unA (some (.list xs)) = some xs := (rfl)
theorem x_unA2 {xs : List D} : unA (some (.tuple xs)) = some xs := (rfl)
theorem x_unA3 {z : Str} : unA (some (.str z)) = some (signsD z) := (rfl)
end

/-- a loop that may be left -/
theorem loop_find {xg : XG} {b : XS} {α : Type} (enc : α → D) (e : En) (R : α → Option D) (as : List α) (h : ∀ a ∈ as, ∃ e1, xg (enc a) e = some e1 ∧ b e1 = match R a with | none => some (.nx e) | some d => some (.rt d)) : mLoop xg b (as.map enc) e = match as.findSome? R with | none => some (.nx e) | some d => some (.rt d) := by
  induction as with
  | nil => rfl
  | cons a as ih =>
    obtain ⟨e1, h1, h2⟩ := h a List.mem_cons_self
    rw [List.map_cons, mLoop, h1]
    simp only []
    rw [h2, List.findSome?_cons]
    cases R a with
    | none =>
      simp only []
      exact ih fun c hc => h c (List.mem_cons_of_mem _ hc)
    | some d => rfl
theorem while_nat {ft : XT} {b : XS} (I : Nat → En) (q : Nat) : ∀ (n s : Nat), s ≤ q → q - s < n → (∀ i, s ≤ i → i < q → ft (I i) = some true ∧ b (I i) = some (.nx (I (i + 1)))) → ft (I q) = some false → mWhile ft b n (I s) = some (.nx (I q))
  | 0, s, _, h, _, _ => by omega
  | n + 1, s, hs, hn, h, hf => by
    by_cases e : s = q
    · subst e
      rw [mWhile, hf]
    · obtain ⟨h1, h2⟩ := h s (Nat.le_refl _) (by omega)
      rw [mWhile, h1]
      simp only []
      rw [h2]
      exact while_nat I q n (s + 1) (by omega) (by omega) (fun i hi hq => h i (by omega) hq) hf
/-- the first number from which on it does not hold -/
theorem first_not (P : Nat → Prop) [DecidablePred P] (n : Nat) (h : ¬P n) : ∃ q, q ≤ n ∧ ¬P q ∧ ∀ i, i < q → P i := by
  induction n with
  | zero => exact ⟨0, Nat.le_refl _, h, fun i hi => absurd hi (Nat.not_lt_zero i)⟩
  | succ n ih =>
    by_cases hn : ∀ i, i < n + 1 → P i
    · exact ⟨n + 1, Nat.le_refl _, h, hn⟩
    · have : ∃ i, i < n + 1 ∧ ¬P i := by
        apply Classical.byContradiction
        intro hc
        exact hn fun i hi => Classical.byContradiction fun hp => hc ⟨i, hi, hp⟩
      clear ih hn h
      obtain ⟨i, hi, hp⟩ := this
      have : ∀ m, m ≤ n + 1 → ¬P m → ∃ q, q ≤ n + 1 ∧ ¬P q ∧ ∀ i, i < q → P i := by
        intro m
        induction m using Nat.strongRecOn with
        | _ m ih =>
          intro hm hp
          by_cases hh : ∃ i, i < m ∧ ¬P i
          · obtain ⟨i, hi, hpi⟩ := hh
            exact ih i hi (by omega) hpi
          · exact ⟨m, hm, hp, fun i hi => Classical.byContradiction fun hc => hh ⟨i, hi, hc⟩⟩
      exact this i (by omega) hp
end HF

set_option Elab.async false
set_option linter.all false
set_option maxRecDepth 100000
set_option maxHeartbeats 2000000
/-! HF15: own things of any shape; objects. -/
namespace HF
open PySem L2 PySem.Spec PyProof.Rows
def Fg.cl (K : Fg) (nm : Str) : Addr := match K.Gv nm with
  | .ref a => a
  | _ => 0
theorem cl_of {K : Fg} {nm : Str} {C : Addr} (h : K.Gv nm = .ref C) : K.cl nm = C := by unfold Fg.cl; rw [h]
def orA (A F : Addr → Bool) : Addr → Bool := fun q => A q || F q
theorem orA_l {A F : Addr → Bool} {q : Addr} (h : A q = true) : orA A F q = true := by simp [orA, h]
theorem orA_r {A F : Addr → Bool} {q : Addr} (h : F q = true) : orA A F q = true := by simp [orA, h]
theorem orA_no {A F : Addr → Bool} {q : Addr} (h : orA A F q = false) : A q = false ∧ F q = false := by simpa [orA] using h
theorem orA_or {A F : Addr → Bool} {q : Addr} (h : orA A F q = true) : A q = true ∨ F q = true := by simpa [orA] using h
theorem same_or {A F : Addr → Bool} {H : Hp} : Same (hide (orA A F) H) (hide A H) := same_of fun a o e => by
  obtain ⟨h1, h2⟩ := hide_some e
  rw [hide_out (orA_no h1).1]; exact h2
/-! ### an own thing becomes shared -/
mutual
def dataO : Ow → D
  | .ls ds => .list ds
  | .dk ks fs => .dict ((ks.map keyD).zip (dataFs fs))
  | .dt kds fs => .dict ((.bool false, .none) :: kds.zip (dataFs fs))
  | .ob nm ns fs => .dict ((.none, .str nm) :: (ns.map PyData.str).zip (dataFs fs))
def dataFs : List Fd → List D
  | [] => []
  | .da d :: fs => d :: dataFs fs
  | .ow o :: fs => dataO o :: dataFs fs
end
section
variable {K : Fg} {Hh H Hf : Hp} {P P' : Addr → List Nat → Prop}
mutual
theorem ow_data (sm : Same Hh Hf) : ∀ {pi : List Nat} {p : Addr} {o : Ow}, (∀ q rh, P q (rh ++ pi) → Hf q = H q) → OwOk K Hh H P pi p o → Dq K Hf (.ref p) (dataO o)
  | _, _, _, ag, .ls h1 h2 h3 => by
    rw [dataO]
    exact .lst (.inl (.inl ((ag _ [] h1).trans h2))) (dpa_mono sm h3)
  | _, _, _, ag, .dk (kvs := kvs) h1 h2 h3 h4 => by
    rw [dataO]
    refine .dik (.inl ((ag _ [] h1).trans h2)) (fd_data sm ag h4) ?_
    rw [← h3, List.map_map]; rfl
  | _, _, _, ag, .dt h1 h2 h3 h4 h5 => by
    rw [dataO]
    exact .dit ((ag _ [] h1).trans h2) (dpa_mono sm h3) (fd_data sm ag h5) h4 rfl
  | _, _, _, ag, .ob h1 h2 h3 h4 h5 h6 h7 => by
    rw [dataO]
    refine .obj h3 ((ag _ [] h1).trans h4) ((ag _ [0] h2).trans h5) (fd_data sm ag h7) ?_
    rw [← h6, List.map_map]; rfl
theorem fd_data (sm : Same Hh Hf) : ∀ {pi : List Nat} {k : Nat} {vs : List V} {fs : List Fd}, (∀ q rh, P q (rh ++ pi) → Hf q = H q) → FdAll K Hh H P pi k vs fs → DqAll K Hf vs (dataFs fs)
  | _, _, _, _, ag, .nil => by rw [dataFs]; exact .nil
  | _, _, _, _, ag, .da h t => by rw [dataFs]; exact .cons (dp_mono sm h) (fd_data sm ag t)
  | pi, k, _, _, ag, .ow h t => by
    rw [dataFs]
    exact .cons (ow_data sm (fun q rh hq => ag q (rh ++ [k]) (by rw [List.append_assoc]; exact hq)) h) (fd_data sm ag t)
end
mutual
/-- .. stands at another place -/
theorem ow_shift (sm : Same Hh Hf) {H' : Hp} : ∀ {pi pi' : List Nat} {p : Addr} {o : Ow}, (∀ q rh, P q (rh ++ pi) → P' q (rh ++ pi') ∧ H' q = H q) → OwOk K Hh H P pi p o → OwOk K Hf H' P' pi' p o
  | _, _, _, _, ag, .ls h1 h2 h3 => .ls (ag _ [] h1).1 ((ag _ [] h1).2.trans h2) (dpa_mono sm h3)
  | _, _, _, _, ag, .dk h1 h2 h3 h4 => .dk (ag _ [] h1).1 ((ag _ [] h1).2.trans h2) h3 (fd_shift sm ag h4)
  | _, _, _, _, ag, .dt h1 h2 h3 h4 h5 => .dt (ag _ [] h1).1 ((ag _ [] h1).2.trans h2) (dpa_mono sm h3) h4 (fd_shift sm ag h5)
  | _, _, _, _, ag, .ob h1 h2 h3 h4 h5 h6 h7 => .ob (ag _ [] h1).1 (ag _ [0] h2).1 h3 ((ag _ [] h1).2.trans h4) ((ag _ [0] h2).2.trans h5) h6 (fd_shift sm ag h7)
theorem fd_shift (sm : Same Hh Hf) {H' : Hp} : ∀ {pi pi' : List Nat} {k : Nat} {vs : List V} {fs : List Fd}, (∀ q rh, P q (rh ++ pi) → P' q (rh ++ pi') ∧ H' q = H q) → FdAll K Hh H P pi k vs fs → FdAll K Hf H' P' pi' k vs fs
  | _, _, _, _, _, ag, .nil => .nil
  | _, _, _, _, _, ag, .da h t => .da (dp_mono sm h) (fd_shift sm ag t)
  | _, _, k, _, _, ag, .ow h t => .ow (ow_shift sm (fun q rh hq => by
      have := ag q (rh ++ [k]) (by rw [List.append_assoc]; exact hq)
      rw [List.append_assoc] at this
      exact this) h) (fd_shift sm ag t)
end
/-- the kinds of objects that may be own -/
def isNode : Option HO → Bool
  | some (.lst _) => true
  | some (.dK _) => true
  | some (.dT _) => true
  | some (.ext _) => true
  | some (.ins _ _ _) => true
  | some (.own _) => true
  | _ => false
mutual
theorem ow_nodes : ∀ {pi : List Nat} {p : Addr} {o : Ow}, OwOk K Hh H P pi p o → OwOk K Hh H (fun q r => P q r ∧ isNode (H q) = true) pi p o
  | _, _, _, .ls h1 h2 h3 => .ls ⟨h1, by rw [h2]; rfl⟩ h2 h3
  | _, _, _, .dk h1 h2 h3 h4 => .dk ⟨h1, by rw [h2]; rfl⟩ h2 h3 (fd_nodes h4)
  | _, _, _, .dt h1 h2 h3 h4 h5 => .dt ⟨h1, by rw [h2]; rfl⟩ h2 h3 h4 (fd_nodes h5)
  | _, _, _, .ob h1 h2 h3 h4 h5 h6 h7 => .ob ⟨h1, by rw [h4]; rfl⟩ ⟨h2, by rw [h5]; rfl⟩ h3 h4 h5 h6 (fd_nodes h7)
theorem fd_nodes : ∀ {pi : List Nat} {k : Nat} {vs : List V} {fs : List Fd}, FdAll K Hh H P pi k vs fs → FdAll K Hh H (fun q r => P q r ∧ isNode (H q) = true) pi k vs fs
  | _, _, _, _, .nil => .nil
  | _, _, _, _, .da h t => .da h (fd_nodes t)
  | _, _, _, _, .ow h t => .ow (ow_nodes h) (fd_nodes t)
end
theorem fd_len : ∀ {pi : List Nat} {k : Nat} {vs : List V} {fs : List Fd}, FdAll K Hh H P pi k vs fs → vs.length = fs.length
  | _, _, _, _, .nil => rfl
  | _, _, _, _, .da _ t => congrArg (· + 1) (fd_len t)
  | _, _, _, _, .ow _ t => congrArg (· + 1) (fd_len t)
end
/-! ### a new own thing -/
def Tre (F : Addr → Bool) (On : Addr → List Nat) (q : Addr) (r : List Nat) : Prop := F q = true ∧ On q = r
def EvW (K : Fg) (te : TE) (en : En) (o : Ow) : Prop := ∀ A0 Hs A H σ, EnvOk K A0 Hs A H σ en → ∀ Q : VK, (∀ p H' F On, (∀ q, F q = true → H q = none ∧ H' q ≠ none) → Grow A H H' → OwOk K (hide (orA A F) H') H' (Tre F On) [] p o → Q (.ref p) H') → te σ H Q
section
variable {K : Fg} {te : TE} {en : En} {o : Ow} {i : Nat}
theorem new_out {A : Addr → Bool} {H : Hp} (l : Live A H) {F : Addr → Bool} {H' : Hp} (hF : ∀ q, F q = true → H q = none ∧ H' q ≠ none) {q : Addr} (h : F q = true) : A q = false := l.out (hF q h).1
theorem ev_froz (h : EvW K te en o) : EvD K te en (dataO o) := fun A0 Hs A H σ I Q k =>
  h A0 Hs A H σ I Q fun p H' F On hF g ho => k _ H' g (ow_data same_or (fun q rh m => hide_out (new_out I.live hF m.1)) ho)
theorem ew_new {ds : List D} (h : EvN K te en ds) : EvW K te en (.ls ds) := fun A0 Hs A H σ I Q k =>
  h A0 Hs A H σ I Q fun p H' vs hp g e hd => k p H' (fun q => q == p) (fun _ => []) (fun q hq => by
    have : q = p := by simpa using hq
    rw [this]
    exact ⟨hp, by rw [e]; exact fun z => by cases z⟩) g (.ls ⟨by simp, rfl⟩ e (by
      have : orA A (fun q => q == p) = adda A p := rfl
      rw [this]; exact hd))
theorem s_asgW {E : DE} (h : EvW K te en o) (k : E.nx (en.set i (some (.ow none o)))) : SD K (tAsg te (gName i)) E en := fun A0 Hs A H σ I F f =>
  h A0 Hs A H σ I _ fun p H1 F1 On hF g ho => by
    have nF : ∀ q, A q = true → F1 q = false := fun q hq => by
      cases e : F1 q with
      | false => rfl
      | true => rw [new_out I.live hF e] at hq; cases hq
    have sm : Same (hide A H) (hide (orA A F1) H1) := g.ex.via (fun _ _ => rfl) fun a n _ => by
      have hz : F1 a = false := by
        cases e : F1 a with
        | false => rfl
        | true => exact absurd (hF a e).1 (hide_th n).2
      unfold hide orA
      rw [hz, Bool.or_false]
    refine f.nx _ H1 _ _ (I.change (A' := orA A F1) (i := i) (s := .ow none o) (σ' := σ.set i (some (.ref p))) (by simp) (fun j hj => List.getElem?_set_ne (fun z => hj z.symm)) sm (fun q hq => ?_) (fun q hq => ⟨orA_l (I.sub q hq), g.eq q (I.sub q hq)⟩) fun O hO => ?_) k
    · rcases orA_or hq with hq | hq
      · rw [g.eq q hq]; exact I.live q hq
      · exact (hF q hq).2
    · refine ⟨fun q => if F1 q = true then On q ++ [i] else O q, fun q j rh hj m => ⟨⟨orA_l m.1, m.2.1, ?_⟩, g.eq q m.1⟩, fun hl => ⟨_, List.getElem?_set_self (by rw [I.len]; exact hl), p, rfl, (fun _ z => by cases z), ow_shift (Same.refl _) (fun q rh m => ⟨⟨orA_r m.1, ?_, ?_⟩, rfl⟩) ho⟩⟩
      · simp only [if_neg (show ¬F1 q = true by rw [nF q m.1]; decide)]
        exact m.2.2
      · cases e : A0 q with
        | false => rfl
        | true => exact absurd (new_out I.live hF m.1) (by rw [I.sub q e]; decide)
      · have m2 := m.2
        rw [List.append_nil] at m2
        simp only [if_pos m.1, m2]
end

theorem EnvOk.change2 {K : Fg} {A0 A : Addr → Bool} {Hs H H' : Hp} {σ : L2.St} {en : En} (I : EnvOk K A0 Hs A H σ en) {A' : Addr → Bool} {i : Nat} {σ' : L2.St} {s : Sl} (hσ : σ'.length = σ.length) (hσ2 : ∀ j, j ≠ i → σ'[j]? = σ[j]?) (sm : Same (hide A H) (hide A' H')) (lv : Live A' H') (k0 : ∀ q, A0 q = true → A' q = true ∧ H' q = H q)
    (O O' : Addr → List Nat) (hO : Owns K A0 A H O σ en) (h1 : ∀ q j rh, j ≠ i → Mine A0 A O q (rh ++ [j]) → isNode (H q) = true → Mine A0 A' O' q (rh ++ [j]) ∧ H' q = H q) (h2 : i < en.length → ∃ v, σ'[i]? = some (some v) ∧ SlOk K A0 A' H' O' i v s) : EnvOk K A0 Hs A' H' σ' (en.set i (some s)) where
  base := I.base.trans sm
  keep := fun q h => (k0 q h).2.trans (I.keep q h)
  sub := fun q h => (k0 q h).1
  live := lv
  len := by rw [hσ, List.length_set]; exact I.len
  own := by
    refine ⟨O', fun j t e => ?_⟩
    rcases getS e with ⟨rfl, e, hl⟩ | ⟨hne, e⟩
    · cases e
      exact h2 hl
    · obtain ⟨v, g1, g2⟩ := hO j t e
      refine ⟨v, (hσ2 j (fun z => hne z.symm)).trans g1, ?_⟩
      cases t with
      | sh d => exact dp_mono sm g2
      | kl ds =>
        obtain ⟨p, vs, e1, e2, e3⟩ := g2
        exact ⟨p, vs, e1, sl_mono sm e2, dpa_mono sm e3⟩
      | ex a d x =>
        obtain ⟨e, cls, q⟩ := g2
        exact ⟨e, cls, ex_mono sm q⟩
      | ow a o =>
        obtain ⟨p, e, ea, g2⟩ := g2
        exact ⟨p, e, ea, ow_keep sm (fun q rh m => h1 q j rh (fun z => hne z.symm) m.1 m.2) (ow_nodes g2)⟩
/-- an own thing is shared from now on -/
theorem EnvOk.freezeW {K : Fg} {A0 A : Addr → Bool} {Hs H : Hp} {σ : L2.St} {en : En} (I : EnvOk K A0 Hs A H σ en) {i : Nat} {a : Option Addr} {o : Ow} (hi : en[i]? = some (some (.ow a o))) :
    ∃ A', (∀ q, A' q = true → A q = true) ∧ (∀ q, A q = true → A' q = false → isNode (H q) = true) ∧ EnvOk K A0 Hs A' H σ (en.set i (some (.sh (dataO o)))) := by
  obtain ⟨O, hO⟩ := I.own
  let A' : Addr → Bool := fun q => A q && !(isNode (H q) && (!A0 q && (O q).getLast? == some i))
  have a1 : ∀ q, A' q = true → A q = true := fun q h => by
    have h : (A q && _) = true := h
    rw [Bool.and_eq_true] at h; exact h.1
  have a2 : ∀ q, A q = true → A' q = false → isNode (H q) = true ∧ A0 q = false := fun q h h2 => by
    have h2 : (A q && !(isNode (H q) && (!A0 q && (O q).getLast? == some i))) = false := h2
    rw [h] at h2
    simp at h2
    exact ⟨h2.1, h2.2.1⟩
  have sm : Same (hide A H) (hide A' H) := same_of fun a u e => by
    obtain ⟨h1, h2⟩ := hide_some e
    have : A' a = false := by
      show (A a && _) = false
      rw [h1]; rfl
    rw [hide_out this]; exact h2
  refine ⟨A', a1, fun q h h2 => (a2 q h h2).1, I.change2 rfl (fun _ _ => rfl) sm (fun q hq => I.live q (a1 q hq)) (fun q hq => ⟨?_, rfl⟩) O O hO (fun q j rh hj m _ => ⟨⟨?_, m.2⟩, rfl⟩) fun hl => ?_⟩
  · cases e : A' q with
    | true => rfl
    | false => exact absurd (a2 q (I.sub q hq) e).2 (by rw [hq]; decide)
  · show (A q && !(isNode (H q) && (!A0 q && (O q).getLast? == some i))) = true
    have : ((O q).getLast? == some i) = false := by
      rw [m.2.2]
      simpa using hj
    rw [m.1, this]
    simp
  · obtain ⟨v, hv, p, rfl, ha, ho⟩ := hO i _ hi
    refine ⟨_, hv, ow_data sm (fun q rh m => hide_out ?_) (ow_nodes ho)⟩
    show (A q && !(isNode (H q) && (!A0 q && (O q).getLast? == some i))) = false
    rw [m.2, m.1.2.1, m.1.2.2, m.1.1]
    simp
section
variable {K : Fg} {A A' : Addr → Bool} {H H' : Hp}
theorem node_tup {o : HO} (h : isNode (some o) = true) : ∀ vs, o ≠ .tup vs := fun vs e => by rw [e] at h; cases h
theorem rd_backW (a2 : ∀ q, A q = true → A' q = false → isNode (H q) = true) {a : Addr} {u : HO} (h : Rd (hide A' H) a u) (hu : isNode (some u) = false) : Rd (hide A H) a u := by
  rcases h with h | ⟨o, h⟩
  · obtain ⟨h1, h2⟩ := hide_some h
    cases e : A a with
    | true =>
      have := a2 a e h1
      rw [h2, hu] at this
      cases this
    | false => exact .inl (by rw [hide_out e]; exact h2)
  · obtain ⟨h1, h2⟩ := hide_some h
    cases e : A a with
    | true => have := a2 a e h1; rw [h2] at this; cases this
    | false => exact .inr ⟨o, by rw [hide_out e]; exact h2⟩
mutual
theorem dq_backW (a2 : ∀ q, A q = true → A' q = false → isNode (H q) = true) : ∀ {v : V} {d : D}, Dq K (hide A' H) v d → noL d = true → Dq K (hide A H) v d
  | _, _, .non, _ => .non
  | _, _, .bl b, _ => .bl b
  | _, _, .int i, _ => .int i
  | _, _, .str x, _ => .str x
  | _, _, .lst _ _, q => by simp only [noL] at q; cases q
  | _, _, .tup h a, q => .tup (h.elim (fun h => .inl (rd_backW a2 h rfl)) .inr) (dqa_backW a2 a (by simpa only [noL] using q))
  | _, _, .obj _ _ _ _ _, q => by simp only [noL] at q; cases q
  | _, _, .dik _ _ _, q => by simp only [noL] at q; cases q
  | _, _, .dit _ _ _ _ _, q => by simp only [noL] at q; cases q
theorem dqa_backW (a2 : ∀ q, A q = true → A' q = false → isNode (H q) = true) : ∀ {us : List V} {ds : List D}, DqAll K (hide A' H) us ds → noLs ds = true → DqAll K (hide A H) us ds
  | _, _, .nil, _ => .nil
  | _, _, .cons h t, q => by
    simp only [noLs, Bool.and_eq_true] at q
    exact .cons (dq_backW a2 h q.1) (dqa_backW a2 t q.2)
end
theorem Grow.backW (a1 : ∀ q, A' q = true → A q = true) (a2 : ∀ q, A q = true → A' q = false → isNode (H q) = true) (g : Grow A' H H') : Grow A H H' ∧ ∀ q, A q = true → A' q = false → isNode (H' q) = true := by
  have st : ∀ q, A q = true → A' q = false → H' q = H q := fun q h h2 => by
    have n := a2 q h h2
    cases e : H q with
    | none => rw [e] at n; cases n
    | some o =>
      rw [e] at n
      refine (hide_some (g.ex.ob q o ?_ (by rw [hide_out h2]; exact e))).2
      cases o <;> first | rfl | cases n
  have out : ∀ a, A a = false → A' a = false := fun a h => by
    cases e : A' a with
    | false => rfl
    | true => rw [a1 a e] at h; cases h
  refine ⟨⟨g.ex.via (fun a n => ?_) (fun a n _ => ?_), fun q hq => ?_⟩, fun q h h2 => by rw [st q h h2]; exact a2 q h h2⟩
  · have h1 := (hide_th n).1
    rw [hide_out h1, hide_out (out a h1)]
  · have h1 := (hide_th n).1
    rw [hide_out h1, hide_out (out a h1)]
  · cases e : A' q with
    | true => exact g.eq q e
    | false => exact st q hq e
end
section
variable {K : Fg} {te : TE} {tt : TT} {fe : XE} {ft : XT} {i : Nat}
theorem ev_borW {en : En} {d : D} {a : Option Addr} {o : Ow} (hi : en[i]? = some (some (.ow a o))) (h : EvD K te (en.set i (some (.sh (dataO o)))) d) (hn : noL d = true) : EvD K te en d := fun A0 Hs A H σ I Q k => by
  obtain ⟨A', a1, a2, I'⟩ := I.freezeW hi
  refine h A0 Hs _ H σ I' Q fun v H' g dv => ?_
  obtain ⟨g', a3⟩ := g.backW a1 a2
  exact k v H' g' (dq_backW a3 dv hn)
theorem et_borW {en : En} {b : Bool} {a : Option Addr} {o : Ow} (hi : en[i]? = some (some (.ow a o))) (h : EvT K tt (en.set i (some (.sh (dataO o)))) b) : EvT K tt en b := fun A0 Hs A H σ I Q k => by
  obtain ⟨A', a1, a2, I'⟩ := I.freezeW hi
  exact h A0 Hs _ H σ I' Q fun H' g => k H' (g.backW a1 a2).1
def mBorW (i : Nat) (f : XE) : XE := fun en => match en[i]? with
  | some (some (.ow a o)) => (match f (en.set i (some (.sh (dataO o)))) with
    | some d => if noL d = true then some d else none
    | none => none)
  | _ => f en
theorem me_borW (h : ME K te fe) : ME K te (mBorW i fe) := fun en d e => by
  unfold mBorW at e
  split at e
  · split at e
    · split at e
      · cases e; exact ev_borW (by assumption) (h _ _ (by assumption)) (by assumption)
      · cases e
    · cases e
  · exact h _ _ e
def mBorWT (i : Nat) (f : XT) : XT := fun en => match en[i]? with
  | some (some (.ow a o)) => f (en.set i (some (.sh (dataO o))))
  | _ => f en
theorem mt_borW (h : MT K tt ft) : MT K tt (mBorWT i ft) := fun en d e => by
  unfold mBorWT at e
  split at e
  · exact et_borW (by assumption) (h _ _ e)
  · exact h _ _ e
/-- shared from now on -/
theorem s_freezeW {E : DE} {ts : TS} {en : En} {a : Option Addr} {o : Ow} (h : en[i]? = some (some (.ow a o))) (k : SD K ts E (en.set i (some (.sh (dataO o))))) : SD K ts E en := fun A0 Hs A H σ I F f => by
  obtain ⟨A', _, _, I'⟩ := I.freezeW h
  exact k A0 Hs A' H σ I' F f
def mFrzW (i : Nat) (f : XS) : XS := fun en => match en[i]? with
  | some (some (.ow a o)) => f (en.set i (some (.sh (dataO o))))
  | _ => f en
theorem ms_frzW {ts : TS} {f : XS} (h : MS K ts f) : MS K ts (mFrzW i f) := fun en o e => by
  unfold mFrzW at e
  split at e
  · exact s_freezeW (by assumption) (h _ _ e)
  · exact h _ _ e
/-- new own things -/
abbrev XW := En → Option Ow
def MW (K : Fg) (te : TE) (f : XW) : Prop := ∀ en o, f en = some o → EvW K te en o
def mWL (g : XA) : XW := fun en => (g en).map Ow.ls
theorem mw_new {g : XA} (h : MN K te g) : MW K te (mWL g) := fun en o e => by
  obtain ⟨ds, h1, rfl⟩ := Option.map_eq_some_iff.mp e
  exact ew_new (h en _ h1)
def mAsgW (i : Nat) (f : XW) : XS := fun en => match f en with
  | some o => some (.nx (en.set i (some (.ow none o))))
  | none => none
theorem ms_asgW {f : XW} (h : MW K te f) : MS K (tAsg te (gName i)) (mAsgW i f) := fun en o e => by
  unfold mAsgW at e
  split at e
  · cases e; exact s_asgW (h en _ (by assumption)) rfl
  · cases e
def mFz (f : XW) : XE := fun en => (f en).map dataO
theorem me_fz {f : XW} (h : MW K te f) : ME K te (mFz f) := fun en d e => by
  obtain ⟨o, h1, rfl⟩ := Option.map_eq_some_iff.mp e
  exact ev_froz (h en _ h1)
end

/-! ### objects: fields read, fields set -/
section
variable {K : Fg} {Hh H Hh' H' : Hp} {P P' : Addr → List Nat → Prop}
theorem fd_keep2 (sm : Same Hh Hh') : ∀ {pi : List Nat} {k : Nat} {vs : List V} {fs : List Fd}, (∀ q rh k, P q (rh ++ (k :: pi)) → P' q (rh ++ (k :: pi)) ∧ H' q = H q) → FdAll K Hh H P pi k vs fs → FdAll K Hh' H' P' pi k vs fs
  | _, _, _, _, ag, .nil => .nil
  | _, _, _, _, ag, .da h t => .da (dp_mono sm h) (fd_keep2 sm ag t)
  | _, k, _, _, ag, .ow h t => .ow (ow_keep sm (fun q rh m => ag q rh k m) h) (fd_keep2 sm ag t)
theorem fd_snoc {v : V} {d : D} (hd : Dq K Hh v d) : ∀ {pi : List Nat} {k : Nat} {vs : List V} {fs : List Fd}, FdAll K Hh H P pi k vs fs → FdAll K Hh H P pi k (vs ++ [v]) (fs ++ [.da d])
  | _, _, _, _, .nil => .da hd .nil
  | _, _, _, _, .da h t => .da h (fd_snoc hd t)
  | _, _, _, _, .ow h t => .ow h (fd_snoc hd t)
theorem fd_snocW {q : Addr} {o : Ow} {pi : List Nat} : ∀ {fs : List Fd} {k : Nat} {vs : List V}, OwOk K Hh H P ((k + fs.length) :: pi) q o → FdAll K Hh H P pi k vs fs → FdAll K Hh H P pi k (vs ++ [.ref q]) (fs ++ [.ow o])
  | [], k, _, ho, .nil => .ow ho .nil
  | .da d :: fs, k, _, ho, .da h t => .da h (fd_snocW (by
      rw [show k + 1 + fs.length = k + (Fd.da d :: fs).length from by simp only [List.length_cons]; omega]; exact ho) t)
  | .ow o' :: fs, k, _, ho, .ow h t => .ow h (fd_snocW (by
      rw [show k + 1 + fs.length = k + (Fd.ow o' :: fs).length from by simp only [List.length_cons]; omega]; exact ho) t)
theorem putF_new {f : Str} {v : V} : ∀ {fs : List (Str × V)}, f ∉ fs.map (·.1) → putF f v fs = fs ++ [(f, v)]
  | [], _ => rfl
  | (g, w) :: fs, h => by
    have h1 : ¬g = f := fun e => h (by simp [e])
    have h2 : f ∉ fs.map (·.1) := fun m => h (by simp only [List.map_cons, List.mem_cons]; exact .inr m)
    show (if g = f then _ else (g, w) :: putF f v fs) = _
    rw [if_neg h1, putF_new h2]; rfl
/-- the value of a field, by its name -/
def fldD (f : Str) : List (D × D) → Option D
  | [] => none
  | (.str g, d) :: kd => if g = f then some d else fldD f kd
  | _ :: _ => none
def fldF (f : Str) : List Str → List Fd → Option Fd
  | g :: ns, d :: fs => if g = f then some d else fldF f ns fs
  | _, _ => none
theorem fld_look {f : Str} : ∀ {fs : List (Str × V)} {ds : List D} {d : D}, DqAll K H (fs.map (·.2)) ds → fldD f ((fs.map fun p => PyData.str p.1).zip ds) = some d → ∃ v, fs.lookup f = some v ∧ Dq K H v d
  | [], ds, d, h, e => by simp [fldD] at e
  | (g, v) :: fs, _, d, .cons hd t, e => by
    rw [List.map_cons, List.zip_cons_cons] at e
    show ∃ u, List.lookup f ((g, v) :: fs) = some u ∧ _
    rw [List.lookup_cons]
    by_cases h1 : g = f
    · subst h1
      have e : (if g = g then some _ else fldD g _) = some d := e
      rw [if_pos rfl] at e
      cases e
      refine ⟨v, ?_, hd⟩
      simp
    · have e : (if g = f then some _ else fldD f _) = some d := e
      rw [if_neg h1] at e
      obtain ⟨u, h2, h3⟩ := fld_look t e
      refine ⟨u, ?_, h3⟩
      have : (f == g) = false := by simp; exact fun z => h1 z.symm
      rw [this]
      exact h2
/-- no field of this name -/
def noFld (f : Str) : List (D × D) → Bool
  | [] => true
  | (.str g, _) :: kd => !decide (g = f) && noFld f kd
  | _ :: _ => false
theorem nofld_look {f : Str} : ∀ {fs : List (Str × V)} {ds : List D}, DqAll K H (fs.map (·.2)) ds → noFld f ((fs.map fun p => PyData.str p.1).zip ds) = true → fs.lookup f = none
  | [], ds, h, e => rfl
  | (g, v) :: fs, _, .cons hd t, e => by
    have e : (!decide (g = f) && noFld f _) = true := e
    rw [Bool.and_eq_true] at e
    have h1 : ¬g = f := by simpa using e.1
    rw [List.lookup_cons]
    have : (f == g) = false := by simp; exact fun z => h1 z.symm
    rw [this]
    exact nofld_look t e.2
end
structure ClsD (K : Fg) (nm : Str) : Prop where
  ex : ∃ C, K.Gv nm = .ref C ∧ Cls K C
theorem ClsD.gv {K : Fg} {nm : Str} (c : ClsD K nm) : ∃ C, K.Gv nm = .ref C := by
  obtain ⟨C, h, _⟩ := c.ex
  exact ⟨C, h⟩
def NoAt (K : Fg) (nm f : Str) : Prop := NoAttr K (K.cl nm) f
section
variable {K : Fg} {te ta : TE} {t : TA} {en : En} {fa fe : XE} {ga : XA} {i : Nat}
theorem dq_obj {H : Hp} {v : V} {nm : Str} {kd : List (D × D)} (h : Dq K H v (.dict ((.none, .str nm) :: kd))) : ∃ a C dx fs ds, v = .ref a ∧ K.Gv nm = .ref C ∧ H a = some (.ins C dx fs) ∧ H dx = some (.own a) ∧ DqAll K H (fs.map (·.2)) ds ∧ kd = (fs.map fun f => PyData.str f.1).zip ds := by
  cases h with
  | obj h0 h1 h2 h3 h4 =>
    rw [List.cons.injEq] at h4
    obtain ⟨h4, h5⟩ := h4
    cases h4
    exact ⟨_, _, _, _, _, rfl, h0, h1, h2, h3, h5⟩
  | dik h1 h2 h3 =>
    rename_i a kvs ds
    cases kvs with
    | nil => cases h3
    | cons p kvs =>
      cases ds with
      | nil => cases h3
      | cons d ds =>
        rw [List.map_cons, List.zip_cons_cons, List.cons.injEq] at h3
        obtain ⟨h3, _⟩ := h3
        obtain ⟨k, v⟩ := p
        cases k <;> cases h3
  | dit h1 h2 h3 h4 h5 => cases h5
/-- e.f -/
def mFld (nm f : Str) (fa : XE) : XE := fun en => match fa en with
  | some (.dict ((.none, .str n) :: kd)) => if n = nm then fldD f kd else none
  | _ => none
theorem me_fld {nm f : Str} (c : ClsD K nm) (n : NoAt K nm f) (h : ME K ta fa) : ME K (tFld K ta f) (mFld nm f fa) := fun en d e => by
  unfold mFld at e
  split at e
  · rename_i nm' kd hfa
    split at e
    · rename_i hn
      subst hn
      refine fun A0 Hs A H σ I Q k => h en _ hfa A0 Hs A H σ I _ fun v H1 g1 d1 => ?_
      obtain ⟨a, C, dx, fs, ds, rfl, hC, h1, h2, h3, rfl⟩ := dq_obj d1
      obtain ⟨u, hu, du⟩ := fld_look h3 e
      obtain ⟨C', hC', cc⟩ := c.ex
      rw [hC] at hC'
      cases hC'
      exact ⟨a, C, dx, fs, u, rfl, (hide_some h1).2, cc, by rw [← cl_of hC]; exact n, hu, k u H1 g1 du⟩
    · cases e
  · cases e
theorem fldF_look {Hh H : Hp} {P : Addr → List Nat → Prop} {f : Str} {d : D} : ∀ {fvs : List (Str × V)} {pi : List Nat} {k : Nat} {fs : List Fd}, FdAll K Hh H P pi k (fvs.map (·.2)) fs → fldF f (fvs.map (·.1)) fs = some (.da d) → ∃ v, fvs.lookup f = some v ∧ Dq K Hh v d
  | [], _, _, _, _, e => by cases e
  | (g, v) :: fvs, _, _, _, h, e => by
    rw [List.lookup_cons]
    by_cases h1 : g = f
    · subst h1
      have hb : (g == g) = true := by simp
      rw [hb]
      cases h with
      | da hd t =>
        have e : (if g = g then some _ else _) = some (Fd.da d) := e
        rw [if_pos rfl] at e
        cases e
        exact ⟨v, rfl, hd⟩
      | ow ho t =>
        have e : (if g = g then some _ else _) = some (Fd.da d) := e
        rw [if_pos rfl] at e
        cases e
    · have hb : (f == g) = false := by simp; exact fun z => h1 z.symm
      rw [hb]
      cases h with
      | da hd t =>
        have e : (if g = f then some _ else _) = some (Fd.da d) := e
        rw [if_neg h1] at e
        exact fldF_look t e
      | ow ho t =>
        have e : (if g = f then some _ else _) = some (Fd.da d) := e
        rw [if_neg h1] at e
        exact fldF_look t e
/-- x.f, x an own object, f holds data -/
def mFldO (nm f : Str) (i : Nat) : XE := fun en => match en[i]? with
  | some (some (.ow _ (.ob n ns fs))) => if n = nm then (match fldF f ns fs with
    | some (.da d) => some d
    | _ => none) else none
  | some (some (.sh (.dict ((.none, .str n) :: kd)))) => if n = nm then fldD f kd else none
  | _ => none
theorem me_fldO {nm f : Str} (c : ClsD K nm) (n : NoAt K nm f) : ME K (tFld K (tVar i) f) (mFldO nm f i) := fun en d e => by
  unfold mFldO at e
  split at e
  · rename_i a nm' ns fs hi
    split at e
    · rename_i hn
      subst hn
      split at e
      · rename_i d' hf
        cases e
        refine fun A0 Hs A H σ I Q k => ?_
        obtain ⟨O, hO⟩ := I.own
        obtain ⟨v, hv, p, rfl, ha, ho⟩ := hO i _ hi
        cases ho with
        | ob m1 m2 hC h1 h2 h3 h4 =>
          rename_i dx C fvs
          subst h3
          obtain ⟨u, hu, du⟩ := fldF_look h4 hf
          obtain ⟨C', hC', cc⟩ := c.ex
          rw [hC] at hC'
          cases hC'
          exact ⟨_, hv, p, C, dx, fvs, u, rfl, h1, cc, by rw [← cl_of hC]; exact n, hu, k u H (Grow.refl H) du⟩
      · cases e
    · cases e
  · rename_i nm' kd hi
    have := me_fld (fa := mVar i) c n me_var en d (by
      unfold mFld mVar
      rw [hi]
      exact e)
    exact this
  · cases e
/-- x.f = e, x an own object without f -/
theorem s_setF {E : DE} {en : En} {nm f : Str} {ns : List Str} {fs : List Fd} {d : D} {a : Option Addr} (c : ClsD K nm) (n : NoAt K nm f) (hi : en[i]? = some (some (.ow a (.ob nm ns fs)))) (h : EvD K te en d) (hf : f ∉ ns) (hl : ns.length < 1000)
    (k : E.nx (en.set i (some (.ow a (.ob nm (ns ++ [f]) (fs ++ [.da d])))))) : SD K (sFld K (tVar i) te f) E en := fun A0 Hs A H σ I F fit =>
  h A0 Hs A H σ I _ fun y H1 g1 d1 => by
    have I1 := I.grow g1
    obtain ⟨O, hO⟩ := I1.own
    obtain ⟨v, hv, p, rfl, ha, ho⟩ := hO i _ hi
    cases ho with
    | ob m1 m2 hC h1 h2 h3 h4 =>
      rename_i dx C fvs
      obtain ⟨C', hC', cc⟩ := c.ex
      rw [hC] at hC'
      cases hC'
      have hlen : fvs.length < 1000 := by rw [← h3, List.length_map] at hl; exact hl
      refine ⟨_, hv, p, C, dx, fvs, rfl, h1, cc, by rw [← cl_of hC]; exact n, hlen, ?_⟩
      rw [putF_new (by rw [h3]; exact hf)]
      have sm : Same (hide A H1) (hide A (upd H1 p (.ins C dx (fvs ++ [(f, y)])))) := same_of fun a u e => by
        obtain ⟨q1, q2⟩ := hide_some e
        have hne : a ≠ p := fun z => by rw [z, m1.1] at q1; cases q1
        rw [hide_out q1, upd_ne hne]; exact q2
      refine fit.nx A _ σ _ (I1.change2 (s := .ow a (.ob _ (ns ++ [f]) (fs ++ [.da d]))) rfl (fun _ _ => rfl) sm (fun q hq => ?_) (fun q hq => ⟨I.sub q hq, upd_ne (fun z => by rw [z, m1.2.1] at hq; cases hq)⟩) O O hO (fun q j rh hj mq _ => ⟨mq, upd_ne fun z => ?_⟩) fun _ => ⟨_, hv, p, rfl, ha, ?_⟩) k
      · by_cases e : q = p
        · rw [e, upd_same]; exact fun z => by cases z
        · rw [upd_ne e]; exact I1.live q hq
      · have := mq.2.2
        rw [z, m1.2.2] at this
        exact last_ne (a := rh) (b := []) hj this.symm
      · have ndx : dx ≠ p := fun z => by
          have := m2.2.2
          rw [z, m1.2.2] at this
          simp at this
        refine .ob m1 m2 hC upd_same (by rw [upd_ne ndx]; exact h2) (by rw [List.map_append, h3]; rfl) ?_
        rw [List.map_append]
        refine fd_snoc (dp_mono sm d1) (fd_keep2 sm (fun q rh k mq => ⟨mq, upd_ne fun z => ?_⟩) h4)
        have := mq.2.2
        rw [z, m1.2.2] at this
        have := congrArg List.length this
        simp at this
def mSetF (nm f : Str) (i : Nat) (fe : XE) : XS := fun en => match en[i]? with
  | some (some (.ow a (.ob n ns fs))) => (match fe en with
    | some d => if n = nm ∧ f ∉ ns ∧ ns.length < 1000 then some (.nx (en.set i (some (.ow a (.ob nm (ns ++ [f]) (fs ++ [.da d])))))) else none
    | none => none)
  | _ => none
theorem ms_setF {nm f : Str} (c : ClsD K nm) (n : NoAt K nm f) (h : ME K te fe) : MS K (sFld K (tVar i) te f) (mSetF nm f i fe) := fun en o e => by
  unfold mSetF at e
  split at e
  · rename_i a n' ns fs hi
    split at e
    · rename_i d hd
      split at e
      · rename_i hc
        obtain ⟨rfl, h2, h3⟩ := hc
        cases e
        exact s_setF c n hi (h en _ hd) h2 h3 rfl
      · cases e
    · cases e
  · cases e
end
end HF

set_option Elab.async false
set_option linter.all false
set_option maxRecDepth 100000
set_option maxHeartbeats 2000000
/-! HF16: methods; objects made. -/
namespace HF
open PySem L2 PySem.Spec PyProof.Rows
/-- a def whose first argument is its own, changed by it -/
def spW (K : Fg) (R : Ow → List D → Ow → D → Prop) : Sp := fun vs H Q _ => ∃ A F On p ws o ds o' d, vs = .ref p :: ws ∧ (∀ q, F q = true → A q = false) ∧ (Live (orA A F) H ∧ Tabs K (hide (orA A F) H)) ∧ OwOk K (hide (orA A F) H) H (Tre F On) [] p o ∧ DqAll K (hide (orA A F) H) ws ds ∧ R o ds o' d ∧
  ∀ v H' F' On', (∀ q, A q = true → H' q = H q) → (∀ q, F' q = true → A q = false ∧ (F q = true ∨ H q = none)) → Same (hide (orA A F) H) (hide (orA A F') H') → Live (orA A F') H' → OwOk K (hide (orA A F') H') H' (Tre F' On') [] p o' → Dq K (hide (orA A F') H') v d → Q v H'
section
variable {K : Fg} {P : Program} {w : World} {mg : Str → Option Value} {base : Heap}
def startW (N : List Str) (p : Addr) (o : Ow) (ds : List D) : En := some (.ow (some p) o) :: (ds.map fun d => some (.sh d)) ++ List.replicate (N.length - (ds.length + 1)) none
theorem startW_ok {A F : Addr → Bool} {On : Addr → List Nat} {H : Hp} {p : Addr} {o : Ow} {ws : List V} {ds : List D} (N : List Str) (l : Live (orA A F) H ∧ Tabs K (hide (orA A F) H)) (dj : ∀ q, F q = true → A q = false) (ho : OwOk K (hide (orA A F) H) H (Tre F On) [] p o) (h : DqAll K (hide (orA A F) H) ws ds) :
    EnvOk K A (reb A (orA A F) H H) (orA A F) H (L2.start N (.ref p :: ws)) (startW N p o ds) := by
  have hl := dpa_len h
  refine ⟨⟨fun P h => ?_, same_of fun a o e => ?_⟩, fun p h => ?_, fun q hq => orA_l hq, l.1, by simp [L2.start, startW, hl], fun q => On q ++ [0], fun i s e => ?_⟩
  · obtain ⟨h1, t⟩ := hide_tab (l.2 P h)
    have h0 : A P = false := (orA_no h1).1
    refine tab_hide h0 ?_
    obtain ⟨ps, e, t⟩ := t
    exact ⟨ps, by unfold reb; rw [if_neg (by rw [h0]; decide), hide_out h1]; exact e, t⟩
  · obtain ⟨h1, h2⟩ := hide_some e
    unfold reb at h2
    rw [if_neg (by rw [h1]; decide)] at h2
    exact h2
  · unfold reb; rw [if_pos h]
  · cases i with
    | zero =>
      cases e
      refine ⟨.ref p, rfl, p, rfl, (fun _ z => (Option.some.inj z).symm), ow_shift (Same.refl _) (fun q rh m => ⟨⟨orA_r m.1, dj q m.1, ?_⟩, rfl⟩) ho⟩
      have := m.2
      rw [List.append_nil] at this
      show On q ++ [0] = rh ++ [0]
      rw [this]
    | succ i =>
      have e : ((ds.map fun d => some (Sl.sh d)) ++ List.replicate (N.length - (ds.length + 1)) none)[i]? = some (some s) := e
      by_cases hi : i < ds.length
      · rw [List.getElem?_append_left (by simpa using hi), List.getElem?_map] at e
        cases q : ds[i]? with
        | none => rw [q] at e; cases e
        | some d =>
          rw [q] at e
          cases e
          obtain ⟨v, hv, dv⟩ := dpa_get h q
          refine ⟨v, ?_, dv⟩
          show ((ws.map some) ++ _)[i]? = _
          rw [List.getElem?_append_left (by simpa [hl] using hi), List.getElem?_map, hv]; rfl
      · rw [List.getElem?_append_right (by simpa using hi)] at e
        have := List.eq_of_mem_replicate (List.mem_of_getElem? e)
        cases this
/-- what is left of the frame -/
theorem endW {A F A' : Addr → Bool} {H H' : Hp} {σ : L2.St} {en : En} {p : Addr} {o : Ow} (I : EnvOk K A (reb A (orA A F) H H) A' H' σ en) (h0 : en[0]? = some (some (.ow (some p) o))) :
    ∃ F' On', (∀ q, A q = true → H' q = H q) ∧ (∀ q, F' q = true → A q = false ∧ (F q = true ∨ H q = none)) ∧ Same (hide (orA A F) H) (hide (orA A F') H') ∧ Live (orA A F') H' ∧ OwOk K (hide (orA A F') H') H' (Tre F' On') [] p o ∧ Same (hide A' H') (hide (orA A F') H') := by
  obtain ⟨O, hO⟩ := I.own
  obtain ⟨v, hv, p', rfl, hp, ho⟩ := hO 0 _ h0
  have e := hp p rfl
  subst e
  let F' : Addr → Bool := fun q => A' q && (!A q && (O q).getLast? == some 0)
  have f1 : ∀ q, F' q = true → A' q = true ∧ A q = false := fun q h => by
    have h : (A' q && (!A q && _)) = true := h
    rw [Bool.and_eq_true, Bool.and_eq_true] at h
    exact ⟨h.1, by simpa using h.2.1⟩
  have f2 : ∀ q, orA A F' q = true → A' q = true := fun q h => by
    rcases orA_or h with h | h
    · exact I.sub q h
    · exact (f1 q h).1
  have sm : Same (hide A' H') (hide (orA A F') H') := same_of fun a u e => by
    obtain ⟨h1, h2⟩ := hide_some e
    have : orA A F' a = false := by
      cases e : orA A F' a with
      | false => rfl
      | true => rw [f2 a e] at h1; cases h1
    rw [hide_out this]; exact h2
  have sm0 : Same (hide (orA A F) H) (hide A' H') := I.base.same.via (fun a n => by
    have h1 := (hide_th n).1
    have h0 : A a = false := (orA_no h1).1
    rw [hide_out h0]
    unfold reb
    rw [if_neg (by rw [h0]; decide)]) fun _ _ _ => rfl
  refine ⟨F', fun q => (O q).dropLast, fun q hq => ?_, fun q hq => ⟨(f1 q hq).2, ?_⟩, sm0.trans sm, fun q hq => I.live q (f2 q hq), ow_shift sm (fun q rh m => ⟨⟨?_, ?_⟩, rfl⟩) ho, sm⟩
  · rw [I.keep q hq]
    unfold reb; rw [if_pos hq]
  · cases eF : F q with
    | true => exact .inl rfl
    | false =>
      right
      apply Classical.byContradiction
      intro hn
      have : orA A F q = false := by
        show (A q || F q) = false
        rw [(f1 q hq).2, eF]; rfl
      have := (hide_th (sm0.th q (hide_in this hn))).1
      rw [(f1 q hq).1] at this
      cases this
  · show (A' q && (!A q && (O q).getLast? == some 0)) = true
    rw [m.1, m.2.1, m.2.2]
    simp
  · show (O q).dropLast = _
    rw [m.2.2]
    simp
def outW : Option Out → Option (Ow × D)
  | some (.nx e) => (match e[0]? with
    | some (some (Sl.ow (some _) o')) => some (o', PyData.none)
    | _ => none)
  | _ => none
/-- what a def makes of its own first argument, wherever that stands -/
def runW (N : List Str) (b : XS) (p : Addr) (o : Ow) (ds : List D) : Option (Ow × D) := match b (startW N p o ds) with
  | some (.nx e) => (match e[0]? with
    | some (some (Sl.ow (some p') o')) => if p' = p then some (o', PyData.none) else none
    | _ => none)
  | _ => none
def RW (n : Nat) (m : Addr → Ow → List D → Option (Ow × D)) : Ow → List D → Ow → D → Prop := fun o ds o' d => ds.length + 1 = n ∧ ∀ p, m p o ds = some (o', d)
theorem fnW {x qual : Str} {st : Stmt} {f : Addr} {fd : FuncData} {N ps : List Str} {k n : Nat} {b : XS} (F : Fun K x qual st f fd) (S : FnScope N ps (defScope st)) (len : n = ps.length)
    (hbody : ∀ (cdv : Value) (A : Around) (outer : List Env) (s : Shared) (H : Hp) (E : XK), Room k (A.deeper (envOfC qual (defScope st) s.heap.objs.size f cdv)) →
      ∃ t, PSs (cxOf CX0 P w K mg base N qual (defScope st) f cdv A outer s H E).nox (defBody st) t ∧ MS K t b) : FnOk P w K mg base CX0 (k + 1) f fd ps (spW K (RW n (runW N b))) :=
  F.ok S (fun vs H Q E h => by
    obtain ⟨A, F, On, p, ws, o, ds, o', d, rfl, _, _, _, hd, hR, _⟩ := h
    rw [List.length_cons, dpa_len hd]
    exact hR.1.trans len) fun cdv A outer s H vs Q E hr h => by
    obtain ⟨A1, F, On, p, ws, o, ds, o', d, rfl, dj, l, ho, hd, hR, k⟩ := h
    obtain ⟨t, ht, hm⟩ := hbody cdv A outer s H E hr
    obtain ⟨hn, hR⟩ := hR
    have hR := hR p
    unfold runW at hR
    split at hR
    · rename_i e he
      split at hR
      · rename_i p' o2 h0
        split at hR
        · rename_i hp
          subst hp
          cases hR
          refine ⟨t, ht, hm _ _ he A1 _ _ H _ (startW_ok N l dj ho hd) _ ?_⟩
          refine ⟨fun A' H' σ' en' I q => ?_, fun A' H' σ' en' v d' I dv e => False.elim e, fun A' H' σ' en' I e => False.elim e, fun A' H' σ' en' I e => False.elim e⟩
          have q : en' = e := q
          subst q
          obtain ⟨F', On', w1, w2, w3, w4, w5, _⟩ := endW I h0
          exact k _ H' F' On' w1 w2 w3 w4 w5 .non
        · cases hR
      · cases hR
    · cases hR
/-- a class, ready to make objects -/
structure CalI (P : Program) (w : World) (K : Fg) (mg : Str → Option Value) (base : Heap) (nm : Str) (k : Nat) (R : Ow → List D → Ow → D → Prop) : Prop where
  ex : ∃ (f C : Addr) (fd : FuncData) (ps : List Str), K.Gv nm = .ref C ∧ FnOk P w K mg base CX0 k f fd ps (spW K R) ∧ mg nm = some (.ref C) ∧ Mk K C f ∧ Binds K fd ps []
/-- a method, ready to be called -/
structure CalM (P : Program) (w : World) (K : Fg) (mg : Str → Option Value) (base : Heap) (nm m : Str) (k : Nat) (R : List D → D → Prop) : Prop where
  ex : ∃ (f C : Addr) (fd : FuncData) (ps : List Str), K.Gv nm = .ref C ∧ FnOk P w K mg base CX0 k f fd ps (spD K R) ∧ Cls K C ∧ Meth K C m f ∧ Binds K fd ps []
def tMakeD (K : Fg) (nm : Str) (R : Ow → List D → Ow → D → Prop) (t : TA) : TE := tMake (K.cl nm) (spW K R) [] E0 t
def tMethD (K : Fg) (nm m : Str) (R : List D → D → Prop) (ta : TE) (t : TA) : TE := tMeth (K.cl nm) m (spD K R) [] E0 ta t
end
section
variable {X : Cx}
theorem pe_makeD {nm : Str} {j k : Nat} {R : Ow → List D → Ow → D → Prop} {p pos : Pos} {e : Expr} {es : List Expr} {t : TA} {T : Addr → Prop} {Gv : Str → V} (c : CalI X.prog X.w ⟨X.K, T, Gv, X.w⟩ X.mg X.base nm j R) (hr : Room k X.A) (hg : Gl X nm) (ha : PA X (e :: es) t) (hj : j + 1 ≤ k := by decide)
    (hdb : (nm == ("__debug__" : Str)) = false := by decide) (he : starEach (e :: es) X.env = (false, eval e X.env) :: starEach es X.env := by rfl) (hpl : (backTo pos (starEach es X.env)).any (·.1) = false := by rfl) : PE X (.Call (.Name nm p) (e :: es) [] pos) (tMakeD ⟨X.K, T, Gv, X.w⟩ nm R t) := by
  obtain ⟨f, C, fd, ps, hC, F, hm, M, hb⟩ := c.ex
  have := pe_make (p := p) (pos := pos) M F (hr.mono hj) hg hm hb .nil pass0 ha hdb he hpl
  unfold tMakeD
  rw [cl_of hC]
  exact this
theorem pe_makeD0 {nm : Str} {j k : Nat} {R : Ow → List D → Ow → D → Prop} {p pos : Pos} {T : Addr → Prop} {Gv : Str → V} (c : CalI X.prog X.w ⟨X.K, T, Gv, X.w⟩ X.mg X.base nm j R) (hr : Room k X.A) (hg : Gl X nm) (hj : j + 1 ≤ k := by decide)
    (hdb : (nm == ("__debug__" : Str)) = false := by decide) : PE X (.Call (.Name nm p) [] [] pos) (tMakeD ⟨X.K, T, Gv, X.w⟩ nm R tNil) := by
  obtain ⟨f, C, fd, ps, hC, F, hm, M, hb⟩ := c.ex
  have := pe_make0 (p := p) (pos := pos) M F (hr.mono hj) hg hm hb .nil pass0 hdb
  unfold tMakeD
  rw [cl_of hC]
  exact this
theorem pe_methD {nm m : Str} {j k : Nat} {R : List D → D → Prop} {pos apos : Pos} {o e : Expr} {es : List Expr} {ta : TE} {t : TA} {T : Addr → Prop} {Gv : Str → V} {pl : Sem Bool} (c : CalM X.prog X.w ⟨X.K, T, Gv, X.w⟩ X.mg X.base nm m j R) (hr : Room k X.A) (ho : PE X o ta) (ha : PA X (e :: es) t) (hj : j ≤ k := by decide)
    (he : starEach (e :: es) X.env = (false, eval e X.env) :: starEach es X.env := by rfl) (hpl : (backTo pos (starEach es X.env)).any (·.1) = false := by rfl)
    (hev : eval (.Call (.Attribute o m apos) (e :: es) [] pos) X.env = (do
      let ov ← eval o X.env
      standAt apos.atName
      let __x ← holding [ov] (getMethod ov m pl)
      match __x with
        | (f, first) => callWith pos f first (backTo pos (starEach (e :: es) X.env)) (backToKw pos (keywordEach [] X.env))) := by rfl) : PE X (.Call (.Attribute o m apos) (e :: es) [] pos) (tMethD ⟨X.K, T, Gv, X.w⟩ nm m R ta t) := by
  obtain ⟨f, C, fd, ps, hC, F, cc, hm, hb⟩ := c.ex
  have := pe_meth (apos := apos) (pos := pos) ho cc hm F (hr.mono hj) hb .nil pass0 ha he hpl hev
  unfold tMethD
  rw [cl_of hC]
  exact this
theorem pe_methD0 {nm m : Str} {j k : Nat} {R : List D → D → Prop} {pos apos : Pos} {o : Expr} {ta : TE} {T : Addr → Prop} {Gv : Str → V} {pl : Sem Bool} (c : CalM X.prog X.w ⟨X.K, T, Gv, X.w⟩ X.mg X.base nm m j R) (hr : Room k X.A) (ho : PE X o ta) (hj : j ≤ k := by decide)
    (hev : eval (.Call (.Attribute o m apos) [] [] pos) X.env = (do
      let ov ← eval o X.env
      standAt apos.atName
      let __x ← holding [ov] (getMethod ov m pl)
      match __x with
        | (f, first) => callWith pos f first (backTo pos (starEach [] X.env)) (backToKw pos (keywordEach [] X.env))) := by rfl) : PE X (.Call (.Attribute o m apos) [] [] pos) (tMethD ⟨X.K, T, Gv, X.w⟩ nm m R ta tNil) := by
  obtain ⟨f, C, fd, ps, hC, F, cc, hm, hb⟩ := c.ex
  have := pe_meth0 (apos := apos) (pos := pos) ho cc hm F (hr.mono hj) hb .nil pass0 hev
  unfold tMethD
  rw [cl_of hC]
  exact this
end
section
variable {K : Fg} {t : TA} {ta : TE} {fa : XE} {ga : XA} {en : En}
/-- o.m(..), o an object that does not change -/
def mMeth (nm m : Str) (n : Nat) (f : List D → Option D) (fa : XE) (ga : XA) : XE := fun en => match fa en, ga en with
  | some (.dict ((.none, .str c) :: kd)), some ds => if c = nm ∧ noFld m kd = true ∧ ds.length + 1 = n then f (.dict ((.none, .str c) :: kd) :: ds) else none
  | _, _ => none
theorem me_meth {nm m : Str} {n : Nat} {f : List D → Option D} (h : ME K ta fa) (h2 : MA K t ga) : ME K (tMethD K nm m (RM n f) ta t) (mMeth nm m n f fa ga) := fun en d e => by
  unfold mMeth at e
  split at e
  · rename_i c kd ds h1 h3
    split at e
    · rename_i hc
      obtain ⟨rfl, hn, hl⟩ := hc
      refine fun A0 Hs A H σ I Q k => h en _ h1 A0 Hs A H σ I _ fun v H1 g1 d1 => ?_
      obtain ⟨a, C, dx, fs, ds', rfl, hC, q1, q2, q3, rfl⟩ := dq_obj d1
      refine ⟨a, dx, fs, rfl, by rw [cl_of hC]; exact (hide_some q1).2, nofld_look q3 hn, h2 en _ h3 A0 Hs A H1 σ (I.grow g1) _ fun vs H2 g2 d2 => ?_⟩
      have g := g1.trans g2
      refine ⟨A, (.dict ((.none, .str c) :: (fs.map fun f => PyData.str f.1).zip ds')) :: ds, d, ⟨g.live I.live, I.tabs.same g.ex⟩, ?_, ⟨hl, e⟩, fun v H3 g3 d3 => k v H3 (g.trans g3) d3⟩
      rw [List.append_nil]
      exact .cons (dp_mono g2.ex d1) d2
    · cases e
  · cases e
open Classical in
/-- what a class makes of its arguments -/
noncomputable def makeM (nm : Str) (m : Addr → Ow → List D → Option (Ow × D)) (ds : List D) : Option Ow := match m 0 (.ob nm [] []) ds with
  | some (o, .none) => if (∀ p, m p (.ob nm [] []) ds = some (o, PyData.none)) then some o else none
  | _ => none
theorem makeM_eq {nm : Str} {m : Addr → Ow → List D → Option (Ow × D)} {ds : List D} {o : Ow} (h : ∀ p, m p (.ob nm [] []) ds = some (o, PyData.none)) : makeM nm m ds = some o := by
  unfold makeM
  rw [h 0]
  exact if_pos h
noncomputable def mMake (nm : Str) (n : Nat) (m : Addr → Ow → List D → Option (Ow × D)) (ga : XA) : XW := fun en => match ga en with
  | some ds => if ds.length + 1 = n then makeM nm m ds else none
  | none => none
theorem mw_make {nm : Str} {n : Nat} {m : Addr → Ow → List D → Option (Ow × D)} (c : ∃ C, K.Gv nm = .ref C) (h : MA K t ga) : MW K (tMakeD K nm (RW n m) t) (mMake nm n m ga) := fun en o e => by
  unfold mMake at e
  split at e
  · rename_i ds h1
    split at e
    · rename_i hl
      unfold makeM at e
      split at e
      · rename_i o' h2
        split at e
        · rename_i hp
          cases e
          obtain ⟨C, hC⟩ := c
          refine fun A0 Hs A H σ I Q k => h en _ h1 A0 Hs A H σ I _ fun vs H1 g1 d1 x dx nx ndx nex => ?_
          have I1 := I.grow g1
          have Ax : A x = false := I1.live.out nx
          have Adx : A dx = false := I1.live.out ndx
          let F : Addr → Bool := fun q => q == x || q == dx
          have fF : ∀ q, F q = true → q = x ∨ q = dx := fun q hq => by
            have hq : (q == x || q == dx) = true := hq
            simpa using hq
          have dj : ∀ q, F q = true → A q = false := fun q hq => by
            rcases fF q hq with rfl | rfl
            · exact Ax
            · exact Adx
          let H2 := upd (upd H1 dx (.own x)) x (.ins (K.cl nm) dx [])
          have e1 : H2 x = some (.ins (K.cl nm) dx []) := upd_same
          have e2 : H2 dx = some (.own x) := (upd_ne nex).trans upd_same
          have nq : ∀ q, q ≠ x → q ≠ dx → H2 q = H1 q := fun q h1 h2 => (upd_ne h1).trans (upd_ne h2)
          have sm : Same (hide A H1) (hide (orA A F) H2) := same_of fun a u e => by
            obtain ⟨q1, q2⟩ := hide_some e
            have n1 : a ≠ x := ne_of_none q2 nx
            have n2 : a ≠ dx := ne_of_none q2 ndx
            have : orA A F a = false := by
              show (A a || (a == x || a == dx)) = false
              simp [q1, n1, n2]
            rw [hide_out this, nq a n1 n2]; exact q2
          have lv : Live (orA A F) H2 := fun q hq => by
            rcases orA_or hq with hq | hq
            · have n1 : q ≠ x := fun z => by rw [z, Ax] at hq; cases hq
              have n2 : q ≠ dx := fun z => by rw [z, Adx] at hq; cases hq
              rw [nq q n1 n2]; exact I1.live q hq
            · rcases fF q hq with rfl | rfl
              · rw [e1]; exact fun z => by cases z
              · rw [e2]; exact fun z => by cases z
          refine ⟨A, F, fun q => if q = x then [] else [0], x, vs, .ob nm [] [], ds, o, .none, ?_, dj, ⟨lv, I1.tabs.same sm⟩, ?_, dpa_mono sm d1, ⟨hl, hp⟩, fun v H' F' On' w1 w2 w3 w4 w5 w6 => ?_⟩
          · rw [List.append_nil]
          · refine .ob (dx := dx) (C := K.cl nm) (fvs := []) ⟨by show (x == x || _) = true; simp, by simp⟩ ⟨by show (_ || dx == dx) = true; simp, by simp [nex]⟩ (by rw [cl_of hC]; exact hC) e1 e2 rfl .nil
          · refine ⟨dp_non w6, k x H' F' On' (fun q hq => ⟨?_, w4 q (orA_r hq)⟩) ⟨?_, fun q hq => ?_⟩ w5⟩
            · rcases (w2 q hq).2 with hF | hn
              · rcases fF q hF with rfl | rfl
                · exact g1.same.none nx
                · exact g1.same.none ndx
              · have n1 : q ≠ x := fun z => by rw [z] at hn; cases e1.symm.trans hn
                have n2 : q ≠ dx := fun z => by rw [z] at hn; cases e2.symm.trans hn
                exact g1.same.none ((nq q n1 n2).symm.trans hn)
            · exact (g1.ex.trans sm).trans (w3.trans same_or)
            · rw [w1 q hq]
              have n1 : q ≠ x := fun z => by rw [z, Ax] at hq; cases hq
              have n2 : q ≠ dx := fun z => by rw [z, Adx] at hq; cases hq
              exact (nq q n1 n2).trans (g1.eq q hq)
        · cases e
      · cases e
    · cases e
  · cases e
end
end HF

set_option Elab.async false
set_option linter.all false
set_option maxRecDepth 100000
set_option maxHeartbeats 2000000
/-! M12: stars, bit_length, own lists set by place, sorted pairs, constants of the module. -/
namespace HF
open PySem L2 PySem.Spec PyProof.Rows
section
variable {K : Fg} {te ti to : TE} {t : TA} {en : En} {fe fi : XE} {ga : XA} {i : Nat} {u : V} {d : D}
/-- a constant of the module -/
theorem me_glob (h : ∀ H, Dq K H u d) : ME K (tC u) (mC d) := fun en e q => by
  cases q
  exact fun A0 Hs A H σ I Q k => k u H (Grow.refl H) (h _)
theorem dq_ktup {a : Addr} {o : Obj} {its : Array Value} {n : Nat} {vs : List V} {ds : List D} (h : K.fr.lookup a = some o) (hc : o.cls = .type "tuple") (hd : o.data = .seq its n) (hz : its.size ≤ sizeLine) (r : Vals vs its.toList) (ha : ∀ H, DqAll K H vs ds) : ∀ H, Dq K H (.ref a) (.tuple ds) := fun H =>
  .tup (.inr ⟨o, its, n, h, hc, hd, hz, r⟩) (ha H)
theorem pe_gD {X : Cx} {x : Str} {pos : Pos} {v : V} (hg : Gl X x) (h : ∃ u, X.mg x = some u ∧ L2.RelV v u) (hd : (x == ("__debug__" : Str)) = false := by decide) : PE X (.Name x pos) (tC v) := by
  obtain ⟨u, h1, h2⟩ := h
  exact pe_glob hg h1 h2 hd
/-- [*xs, ..] -/
def mStar (fe : XE) (ga : XA) : XA := fun en => match fe en, ga en with
  | some (.list xs), some ys => some (xs ++ ys)
  | some (.tuple xs), some ys => some (xs ++ ys)
  | _, _ => none
theorem ma_star (h : ME K te fe) (h2 : MA K t ga) : MA K (StX.tStar K te t) (mStar fe ga) := fun en ds e => by
  unfold mStar at e
  split at e
  · rename_i xs ys h3 h4
    cases e
    refine fun A0 Hs A H σ I Q k => h en _ h3 A0 Hs A H σ I _ fun v H1 g1 d1 => ?_
    obtain ⟨a, vs, rfl, hs, hd⟩ := dp_lst d1
    refine ⟨a, vs, rfl, .inr (sl_mono hide_sub hs.sl), h2 en _ h4 A0 Hs A H1 σ (I.grow g1) _ fun ws H2 g2 d2 => k _ H2 (g1.trans g2) (dpa_append (dpa_mono g2.ex hd) d2)⟩
  · rename_i xs ys h3 h4
    cases e
    refine fun A0 Hs A H σ I Q k => h en _ h3 A0 Hs A H σ I _ fun v H1 g1 d1 => ?_
    obtain ⟨a, vs, rfl, hs, hd⟩ := dp_tup d1
    refine ⟨a, vs, rfl, .inl (st_mono hide_sub hs), h2 en _ h4 A0 Hs A H1 σ (I.grow g1) _ fun ws H2 g2 d2 => k _ H2 (g1.trans g2) (dpa_append (dpa_mono g2.ex hd) d2)⟩
  · cases e
/-- n.bit_length() -/
def mBits (fe : XE) : XE := fun en => match fe en with
  | some (.int i) => some (.int (Builtin.Int.intBits i : Nat))
  | _ => none
theorem me_bits (h : ME K te fe) : ME K (tBits te) (mBits fe) := fun en d e => by
  unfold mBits at e
  split at e
  · rename_i j h1
    cases e
    exact fun A0 Hs A H σ I Q k => h en _ h1 A0 Hs A H σ I _ fun v H1 g1 d1 => ⟨j, dp_int d1, k _ H1 g1 (.int _)⟩
  · cases e
/-- xs[n] = e, xs an own list -/
theorem s_setL {E : DE} {ds : List D} {n : Int} {j : Nat} (hi : en[i]? = some (some (.ow none (.ls ds)))) (h : EvD K te en d) (hn : EvD K ti en (.int n)) (hj : ixN ds.length n = some j) (k : E.nx (en.set i (some (.ow none (.ls (ds.set j d)))))) : SD K (tAsg te (gSub (tVar i) ti rSetL)) E en := fun A0 Hs A H σ I F f =>
  h A0 Hs A H σ I _ fun y H1 g1 d1 => by
    have I1 := I.grow g1
    obtain ⟨v, hv, p, vs, rfl, hA, hA0, hp, hd⟩ := I1.ols hi
    refine ⟨_, hv, hn A0 Hs A H1 σ I1 _ fun w H2 g2 d2 => ?_⟩
    have hp2 : H2 p = some (.lst vs) := by rw [g2.eq p hA]; exact hp
    refine ⟨p, vs, n, j, rfl, dp_int d2, hp2, by rw [dpa_len hd]; exact hj, ?_⟩
    exact f.nx A _ σ _ ((I1.grow g2).writeL hi hv (dpa_set j (dpa_mono g2.ex hd) (dp_mono g2.ex d1))) k
def mSetL (i : Nat) (fi fe : XE) : XS := fun en => match en[i]?, fe en, fi en with
  | some (some (.ow none (.ls ds))), some d, some (.int n) => (match ixN ds.length n with
    | some j => some (.nx (en.set i (some (.ow none (.ls (ds.set j d))))))
    | none => none)
  | _, _, _ => none
theorem ms_setL (hi : ME K ti fi) (h : ME K te fe) : MS K (tAsg te (gSub (tVar i) ti rSetL)) (mSetL i fi fe) := fun en o e => by
  unfold mSetL at e
  split at e
  · rename_i ds d n h1 h2 h3
    split at e
    · rename_i j hj
      cases e
      exact s_setL h1 (h en _ h2) (hi en _ h3) hj rfl
    · cases e
  · cases e
end
/-! ### sorted pairs of ints -/
def lexP (p q : Int × Int) : Bool := SrtO.lexB p q
def insP (p : Int × Int) : List (Int × Int) → List (Int × Int)
  | [] => [p]
  | q :: qs => if lexP q p = true then q :: insP p qs else p :: q :: qs
def sortP (ps : List (Int × Int)) : List (Int × Int) := ps.foldr insP []
theorem lexP_irr {p : Int × Int} : lexP p p = false := by unfold lexP SrtO.lexB; simp
theorem lexP_tot {p q : Int × Int} (h1 : lexP p q = false) (h2 : lexP q p = false) : p = q := by
  unfold lexP SrtO.lexB at h1 h2
  obtain ⟨a, b⟩ := p
  obtain ⟨c, d⟩ := q
  simp only at h1 h2
  by_cases e : a = c
  · subst e
    simp at h1 h2
    have : b = d := by omega
    rw [this]
  · rw [if_neg e] at h1
    rw [if_neg (fun z => e z.symm)] at h2
    simp at h1 h2
    omega
theorem lexP_trans {p q r : Int × Int} (h1 : lexP q p = false) (h2 : lexP r q = false) : lexP r p = false := by
  unfold lexP SrtO.lexB at *
  obtain ⟨a, b⟩ := p
  obtain ⟨c, d⟩ := q
  obtain ⟨e, f⟩ := r
  simp only at *
  split at h1 <;> split at h2 <;> split <;> simp only [decide_eq_false_iff_not] at * <;> omega
theorem insP_perm (p : Int × Int) : ∀ ps, (insP p ps).Perm (p :: ps)
  | [] => List.Perm.refl _
  | q :: qs => by
    unfold insP
    split
    · exact (List.Perm.cons q (insP_perm p qs)).trans (List.Perm.swap p q qs)
    · exact List.Perm.refl _
theorem sortP_perm : ∀ ps, (sortP ps).Perm ps
  | [] => List.Perm.refl _
  | p :: ps => (insP_perm p (sortP ps)).trans (List.Perm.cons p (sortP_perm ps))
theorem insP_srt (p : Int × Int) : ∀ {ps}, ps.Pairwise (fun x y => lexP y x = false) → (insP p ps).Pairwise (fun x y => lexP y x = false)
  | [], _ => by unfold insP; simp
  | q :: qs, h => by
    rw [List.pairwise_cons] at h
    unfold insP
    split
    · rename_i hq
      rw [List.pairwise_cons]
      refine ⟨fun r hr => ?_, insP_srt p h.2⟩
      rcases List.mem_cons.mp ((insP_perm p qs).mem_iff.mp hr) with rfl | hr
      · cases e : lexP r q with
        | false => rfl
        | true =>
          unfold lexP SrtO.lexB at hq e
          split at hq <;> split at e <;> simp only [decide_eq_true_eq] at * <;> omega
      · exact h.1 r hr
    · rename_i hq
      have hq : lexP q p = false := by simpa using hq
      rw [List.pairwise_cons, List.pairwise_cons]
      refine ⟨fun r hr => ?_, h.1, h.2⟩
      rcases List.mem_cons.mp hr with rfl | hr
      · exact hq
      · exact lexP_trans hq (h.1 r hr)
theorem sortP_srt : ∀ ps, (sortP ps).Pairwise (fun x y => lexP y x = false)
  | [] => List.Pairwise.nil
  | p :: ps => insP_srt p (sortP_srt ps)
theorem srt_unique : ∀ {ps qs : List (Int × Int)}, ps.Perm qs → ps.Pairwise (fun x y => lexP y x = false) → qs.Pairwise (fun x y => lexP y x = false) → ps = qs
  | [], qs, h, _, _ => (List.nil_perm.mp h).symm
  | p :: ps, [], h, _, _ => by have := h.length_eq; simp at this
  | p :: ps, q :: qs, h, h1, h2 => by
    rw [List.pairwise_cons] at h1 h2
    have e : p = q := by
      have hp : p ∈ q :: qs := h.mem_iff.mp List.mem_cons_self
      have hq : q ∈ p :: ps := h.mem_iff.mpr List.mem_cons_self
      rcases List.mem_cons.mp hp with hp | hp
      · exact hp
      · rcases List.mem_cons.mp hq with hq | hq
        · exact hq.symm
        · exact lexP_tot (h2.1 p hp) (h1.1 q hq) |>.symm |> fun z => by first | exact z | exact z.symm
    subst e
    rw [srt_unique (List.Perm.cons_inv h) h1.2 h2.2]
def pairE (p : Int × Int) : D := .tuple [.int p.1, .int p.2]
def unpair : D → Option (Int × Int)
  | .tuple [.int a, .int b] => some (a, b)
  | _ => none
def unpairs : List D → Option (List (Int × Int))
  | [] => some []
  | d :: ds => match unpair d, unpairs ds with
    | some p, some ps => some (p :: ps)
    | _, _ => none
theorem unpairs_map : ∀ ps : List (Int × Int), unpairs (ps.map pairE) = some ps
  | [] => rfl
  | p :: ps => by
    rw [List.map_cons, unpairs, unpairs_map ps]
    rfl
theorem unpairs_eq : ∀ {ds : List D} {ps : List (Int × Int)}, unpairs ds = some ps → ds = ps.map pairE
  | [], ps, h => by cases h; rfl
  | d :: ds, ps, h => by
    unfold unpairs at h
    split at h
    · rename_i p ps' h1 h2
      cases h
      rw [unpairs_eq h2, List.map_cons]
      congr 1
      unfold unpair at h1
      split at h1
      · cases h1; rfl
      · cases h1
    · cases h

/-- references to pairs of ints -/
def AllP (K : PySem.W.Frag) (H : Hp) : List V → List (Int × Int) → Prop
  | [], [] => True
  | x :: xs, p :: ps => (∃ t, x = V.ref t ∧ SqT K H t [.int p.1, .int p.2]) ∧ AllP K H xs ps
  | _, _ => False
theorem AllP.get {K : PySem.W.Frag} {H : Hp} : ∀ {xs : List V} {ps : List (Int × Int)}, AllP K H xs ps → ∀ x p, (x, p) ∈ xs.zip ps → ∃ t, x = V.ref t ∧ SqT K H t [.int p.1, .int p.2]
  | [], [], _, x, p, m => by cases m
  | y :: ys, q :: qs, h, x, p, m => by
    rw [List.zip_cons_cons] at m
    rcases List.mem_cons.mp m with m | m
    · cases m; exact h.1
    · exact AllP.get h.2 x p m
  | [], _ :: _, h, _, _, _ => h.elim
  | _ :: _, [], h, _, _, _ => h.elim
theorem AllP.len {K : PySem.W.Frag} {H : Hp} : ∀ {xs : List V} {ps : List (Int × Int)}, AllP K H xs ps → xs.length = ps.length
  | [], [], _ => rfl
  | _ :: _, _ :: _, h => congrArg (· + 1) (AllP.len h.2)
  | [], _ :: _, h => h.elim
  | _ :: _, [], h => h.elim
theorem AllP.of {K : PySem.W.Frag} {H : Hp} (k : V → Int × Int) : ∀ {xs : List V}, (∀ x ∈ xs, ∃ t, x = V.ref t ∧ SqT K H t [.int (k x).1, .int (k x).2]) → AllP K H xs (xs.map k)
  | [], _ => trivial
  | x :: xs, h => ⟨h x List.mem_cons_self, AllP.of k fun y hy => h y (List.mem_cons_of_mem _ hy)⟩
def keyAt (xs : List V) (ps : List (Int × Int)) (x : V) : Int × Int := match (xs.zip ps).find? (fun p => decide (p.1 = x)) with
  | some p => p.2
  | none => (0, 0)
theorem keyAt_mem {xs : List V} {ps : List (Int × Int)} {x : V} (hl : xs.length = ps.length) (h : x ∈ xs) : (x, keyAt xs ps x) ∈ xs.zip ps := by
  obtain ⟨i, hi, rfl⟩ := List.getElem_of_mem h
  have hm : (xs[i], ps[i]'(by omega)) ∈ xs.zip ps := by
    have : (xs.zip ps)[i]'(by rw [List.length_zip]; omega) = (xs[i], ps[i]'(by omega)) := List.getElem_zip
    rw [← this]
    exact List.getElem_mem _
  unfold keyAt
  cases e : (xs.zip ps).find? (fun p => decide (p.1 = xs[i])) with
  | none =>
    have := List.find?_eq_none.mp e _ hm
    simp at this
  | some p =>
    have h1 := List.find?_some e
    have h2 := List.mem_of_find?_eq_some e
    have h1 : p.1 = xs[i] := by simpa using h1
    rw [← h1]
    exact h2
theorem map_key {xs : List V} {ps : List (Int × Int)} {k : V → Int × Int} : xs.length = ps.length → (∀ x p, (x, p) ∈ xs.zip ps → k x = p) → xs.map k = ps := by
  intro hl h
  induction xs generalizing ps with
  | nil => cases ps with
    | nil => rfl
    | cons p ps => cases hl
  | cons x xs ih =>
    cases ps with
    | nil => cases hl
    | cons p ps =>
      rw [List.map_cons, h x p (by rw [List.zip_cons_cons]; exact List.mem_cons_self), ih (by simpa using hl) fun y q m => h y q (by rw [List.zip_cons_cons]; exact List.mem_cons_of_mem _ m)]
theorem tup_fun {X : Cx} {pins : List (Addr × Obj)} {σ : L2.St} {H : Hp} {s : Shared} {a : Addr} {p q : Int × Int} (I : L2.Inv X pins σ H s) (h : SqT X.K H a [.int p.1, .int p.2]) (h2 : SqT X.K H a [.int q.1, .int q.2]) : p = q := by
  obtain ⟨i1, r1, ⟨o1, p1, q1, n1, w1⟩, _⟩ := Inv.tuple I h
  obtain ⟨i2, r2, ⟨o2, p2, q2, n2, w2⟩, _⟩ := Inv.tuple I h2
  rw [p1] at p2
  cases p2
  rw [w1] at w2
  cases r1 with
  | cons a1 r1 =>
    cases r1 with
    | cons a2 r1 =>
      cases r1
      cases r2 with
      | cons b1 r2 =>
        cases r2 with
        | cons b2 r2 =>
          cases r2
          obtain ⟨x1, rfl⟩ := a1
          obtain ⟨x2, rfl⟩ := a2
          obtain ⟨y1, rfl⟩ := b1
          obtain ⟨y2, rfl⟩ := b2
          simp at w2
          exact Prod.ext w2.1.1.1 w2.1.2.1
theorem st_monoF {K : PySem.W.Frag} {H H' : Hp} {a : Addr} {xs : List V} (e : Same H H') (h : SqT K H a xs) : SqT K H' a xs := by
  rcases h with h | h
  · exact Or.inl (rd_mono e h)
  · exact Or.inr h
theorem collect_tup {prog : Program} {w : World} {A : Around} {E : Value → Shared → Prop} {s : Shared} {l : Addr} {vs : List Value} {Q : List Value → Shared → Prop} (hl : s.heap.IsTuple l vs.toArray) (h : Q vs { heap := (s.heap.push (seqObj "list" #[] 0)).update s.heap.objs.size (Obj.mapSeq fun x => x ++ vs.toArray), gens := s.gens, drawn := s.drawn, toks := s.toks, os := s.os })
    (hsz : vs.length ≤ sizeLine) : wpAny (model prog w) A (collect (Value.ref l)) Q E s := by
  obtain ⟨o, ho, hc, n, hd⟩ := hl
  refine wpAny_bind (wpAny_runValue (codeAny_builtin entry_proto_collect' ?_))
  refine wpAny_bind (wpAny_newList (wpAny_pure ⟨Code.quiet_builtin _ (by decide +kernel), codeAny_builtin entry_list_iadd' ?_⟩) (by rw [sizeLine_eq]; decide))
  have ho' := Heap.get?_push_of_some (seqObj "list" #[] 0) ho
  refine wpAny_bind (wpAny_pure (a := (Value.ref s.heap.objs.size, [Value.ref l])) ?_)
  refine wpAny_bind (wpAny_typeOf (T := "tuple") (v := .ref l) (s := { heap := s.heap.push (seqObj "list" #[] 0), gens := s.gens, drawn := s.drawn, toks := s.toks, os := s.os }) ⟨o, ho', hc⟩ ?_)
  have ht : (Builtin.List.listSameRef (Value.ref s.heap.objs.size) (Value.ref l) || Value.type "tuple" == Value.type "list" || Value.type "tuple" == Value.type "tuple") = true := by simp
  rw [if_pos ht]
  refine wpAny_bind (listItems_at ho' hd (wpAny_bind (listItems_at (Heap.get?_push_size s.heap rfl) rfl ?_)))
  rw [if_neg (by simp)]
  refine wpAny_bind (listUpdate_at (Heap.get?_push_size s.heap rfl) rfl (wpAny_pure ?_) (Nat.zero_le _) (by simp; omega))
  refine wpAny_bind (wpAny_load (get?_update_seq (Heap.get?_push_size s.heap rfl) fun x => x ++ vs.toArray) ?_)
  have e : (#[] ++ vs.toArray).toList = vs := by simp
  show wpAny (model prog w) A (pure (#[] ++ vs.toArray).toList) Q E _
  rw [e]
  exact wpAny_pure h
theorem sorted_ordT {prog : Program} {w : World} {A : Around} {E : Value → Shared → Prop} {s : Shared} {l : Addr} {vs : List Value} {ltv : Value → Value → Bool} {Q : Value → Shared → Prop} (O : SrtO.Swo ltv) (hl : s.heap.IsTuple l vs.toArray) (hz : vs.length ≤ sizeLine)
    (hS : 2 ≤ vs.length → ∀ (h₁ : Heap) (a : Addr), h₁.get? a = some (seqObj "list" vs.toArray 0) → (∀ (b : Addr) (o : Obj), s.heap.get? b = some o → b ≠ a ∧ h₁.get? b = some o) → SrtO.SortableO prog w A.in1.in1 { heap := h₁, gens := s.gens, drawn := s.drawn, toks := s.toks, os := s.os } a vs ltv)
    (h : ∀ out : List Value, SrtO.Srtd ltv out → SrtO.Stb ltv out vs → Q (Value.ref (s.heap.objs.size + 1)) { heap := sortedAll s.heap vs out.toArray, gens := s.gens, drawn := s.drawn, toks := s.toks, os := s.os }) :
    wpAny (model prog w) A (call (Value.builtin "sorted") [Value.ref l]) Q E s := by
  refine Calls.call_function_entry kind_sorted plain_sorted entry_sorted (args_sorted1 (Value.ref l)) ?_
  refine wpAny_bind (wpAny_pure (wpAny_bind (collect_tup hl (wpAny_bind (wpAny_newList ?_ hz)) hz)))
  have hsz : ((s.heap.push (seqObj "list" #[] 0)).update s.heap.objs.size (Obj.mapSeq fun x => x ++ vs.toArray)).objs.size = s.heap.objs.size + 1 := by
    rw [Heap.size_update, size_push']
  have hoL : (((s.heap.push (seqObj "list" #[] 0)).update s.heap.objs.size (Obj.mapSeq fun x => x ++ vs.toArray)).push (seqObj "list" vs.toArray 0)).get? (s.heap.objs.size + 1) = some (seqObj "list" vs.toArray 0) := by
    rw [← hsz]
    exact Heap.get?_push_size _ rfl
  have keep : ∀ (b : Addr) (o : Obj), s.heap.get? b = some o → b ≠ s.heap.objs.size + 1 ∧ (((s.heap.push (seqObj "list" #[] 0)).update s.heap.objs.size (Obj.mapSeq fun x => x ++ vs.toArray)).push (seqObj "list" vs.toArray 0)).get? b = some o := fun b o q => by
    have hlt := Heap.lt_size q
    refine ⟨Nat.ne_of_lt (Nat.lt_succ_of_lt hlt), Heap.get?_push_of_some _ ?_⟩
    rw [Heap.get?_update_ne _ b _ _ (Nat.ne_of_lt hlt)]
    exact Heap.get?_push_of_some _ q
  rw [hsz]
  refine wpAny_bind (wpAny_holding (wpAny_call_entry slot_list_sort ⟨_, hoL, rfl⟩ entry_list_sort (SrtO.list_sort_ord O hoL hz (fun h2 => hS h2 _ _ hoL keep) fun out hs hb => ⟨Value.none, rfl, wpAny_pure ⟨_, rfl, h out hs hb⟩⟩) (args_list_sort _)))
theorem sorted_pairsT {prog : Program} {w : World} {A : Around} {E : Value → Shared → Prop} {s : Shared} {l : Addr} {vs : List Value} {k : Value → Int × Int} {Q : Value → Shared → Prop} (hl : s.heap.IsTuple l vs.toArray) (hz : vs.length ≤ sizeLine) (hp : ∀ v ∈ vs, Srt.IsPair s.heap v (k v).1 (k v).2)
    (h : ∀ (h' : Heap) (d : Addr) (out : List Value), SrtO.Srtd (fun v u => SrtO.lexB (k v) (k u)) out → SrtO.Stb (fun v u => SrtO.lexB (k v) (k u)) out vs → (∀ (b : Addr) (o : Obj), s.heap.get? b = some o → h'.get? b = some o) → s.heap.objs.size ≤ d → (∃ n, h'.get? d = some (seqObj "list" out.toArray n)) → Q (Value.ref d) { heap := h', gens := s.gens, drawn := s.drawn, toks := s.toks, os := s.os }) :
    wpAny (model prog w) A (call (Value.builtin "sorted") [Value.ref l]) Q E s := by
  refine sorted_ordT (SrtO.swo_lex k) hl hz (fun h2 h₁ a ha kk => ?_) fun out hs hb => h (sortedAll s.heap vs out.toArray) (s.heap.objs.size + 1) out hs hb (fun b o e => sortedAll_old e) (Nat.le_succ _) (sortedAll_at s.heap vs out.toArray)
  refine SrtO.pairs_sortableO (by omega) (fun v hm => Srt.IsPair.keeps (hp v hm) fun b o e _ => (kk b o e).2) fun o e c => ?_
  have e : h₁.get? a = some o := e
  rw [ha] at e
  cases e
  exact absurd (Value.type.inj c) (by decide)
def rSortPX (K : PySem.W.Frag) : List V → Hp → VK → Prop := fun vs H Q => ∃ (a : Addr) (xs : List V) (ps : List (Int × Int)) (H0 : Hp), vs = [V.ref a] ∧ (SqL K H a xs ∨ SqT K H a xs) ∧ Same H0 H ∧ AllP K H0 xs ps ∧ ∀ ys p, AllP K H0 ys (sortP ps) → H p = none → Q (.ref p) (upd H p (.lst ys))
theorem cr_sortPX {X : Cx} : CallR X (.builtin "sorted") (rSortPX X.K) := by
  intro pins s σ H vs us Q I r h
  obtain ⟨a, xs, ps, H0, rfl, hs, sm, hx, q⟩ := h
  obtain ⟨its, rv, hl, hz⟩ : ∃ its, Vals xs its ∧ (s.heap.IsList a its.toArray ∨ s.heap.IsTuple a its.toArray) ∧ xs.length ≤ sizeLine := by
    rcases hs with hs | hs
    · obtain ⟨its, rv, hl, hz⟩ := Inv.list I hs
      exact ⟨its, rv, .inl (PlainL.isList hl), hz⟩
    · obtain ⟨its, rv, hl, hz⟩ := Inv.tuple I hs
      exact ⟨its, rv, .inr hl, hz⟩
  obtain ⟨u, rfl, ru⟩ := L2.vals1 r
  cases ru
  have hlen := hx.len
  have hk : ∀ x p, (x, p) ∈ xs.zip ps → keyAt xs ps x = p := fun x p m => by
    obtain ⟨t, rfl, ht⟩ := hx.get x p m
    obtain ⟨t', e, ht'⟩ := hx.get _ _ (keyAt_mem (x := V.ref t) hlen (List.of_mem_zip m).1)
    cases e
    exact tup_fun I (st_monoF sm ht') (st_monoF sm ht)
  have hps : xs.map (keyAt xs ps) = ps := map_key hlen hk
  have hmem : ∀ x ∈ xs, ∃ t, x = V.ref t ∧ SqT X.K H0 t [.int (keyAt xs ps x).1, .int (keyAt xs ps x).2] := fun x m => hx.get _ _ (keyAt_mem hlen m)
  generalize keyAt xs ps = k at *
  obtain ⟨e1, e2⟩ := refs_back rv fun x m => by
    obtain ⟨t, e, _⟩ := hmem x m
    exact ⟨t, e⟩
  have hv : ∀ v ∈ its, Srt.IsPair s.heap v (k (backV v)).1 (k (backV v)).2 := fun v hv => by
    obtain ⟨t, rfl⟩ := e2 v hv
    have hm : V.ref t ∈ xs := by
      rw [e1]
      exact List.mem_map.mpr ⟨_, hv, rfl⟩
    obtain ⟨t', e, ht⟩ := hmem _ hm
    cases e
    obtain ⟨its2, r2, p2, _⟩ := Inv.tuple I (st_monoF sm ht)
    show Srt.IsPair s.heap (Value.ref t) (k (V.ref t)).1 (k (V.ref t)).2
    generalize (k (V.ref t)).1 = x at *
    generalize (k (V.ref t)).2 = y at *
    cases r2 with
    | cons q1 r2 =>
      cases r2 with
      | cons q2 r2 =>
        cases r2
        obtain ⟨t1, rfl⟩ := q1
        obtain ⟨t2, rfl⟩ := q2
        obtain ⟨o, g1, g2, n, g3⟩ := p2
        exact ⟨t, o, _, _, n, rfl, g1, g2, g3⟩
  have fin : ∀ (h' : Heap) (d : Addr) (out : List Value), SrtO.Srtd (fun v u => SrtO.lexB (k (backV v)) (k (backV u))) out → SrtO.Stb (fun v u => SrtO.lexB (k (backV v)) (k (backV u))) out its → (∀ (b : Addr) (o : Obj), s.heap.get? b = some o → h'.get? b = some o) → s.heap.objs.size ≤ d → (∃ n, h'.get? d = some (seqObj "list" out.toArray n)) → EP X pins σ Q (Value.ref d) { heap := h', gens := s.gens, drawn := s.drawn, toks := s.toks, os := s.os } := fun h' d out h1 h2 kp hd hn => by
    have h3 : ∀ u ∈ out, ∃ a, u = Value.ref a := fun u hu => e2 u ((List.Perm.mem_iff h2.perm).mp hu)
    obtain ⟨n, hn⟩ := hn
    have hb : SrtO.Stb (ltP k) (out.map backV) xs := by
      rw [e1]
      exact SrtO.Stb.map (ltP_swo k) backV h2
    have hs2 : SrtO.Srtd (ltP k) (out.map backV) := SrtO.srtd_map h1
    refine ⟨V.ref d, upd H d (.lst (out.map backV)), Inv.laid I kp hd ⟨?_, out, n, vals_back h3, hn⟩, rfl, q _ d ?_ (HOk.fresh I.hok hd)⟩
    · rw [SrtO.Stb.len hb]
      exact hz
    · generalize out.map backV = ys at hb hs2
      have hq : ys.map k = sortP ps := by
        refine srt_unique ?_ ?_ (sortP_srt ps)
        · refine (List.Perm.map k hb.perm).trans ?_
          rw [hps]
          exact (sortP_perm ps).symm
        · rw [List.pairwise_map]
          exact hs2
      rw [← hq]
      exact AllP.of k fun y hy => hmem y ((List.Perm.mem_iff hb.perm).mp hy)
  have hz' : its.length ≤ sizeLine := by rw [← Vals.length rv]; exact hz
  rcases hl with hl | hl
  · exact SrtO.sorted_pairsO (k := fun v => k (backV v)) hl hz' hv fin
  · exact sorted_pairsT (k := fun v => k (backV v)) hl hz' hv fin
section
variable {K : Fg}
theorem allp_of {H : Hp} : ∀ {vs : List V} {ps : List (Int × Int)}, DqAll K H vs (ps.map pairE) → AllP K H vs ps
  | _, [], .nil => trivial
  | _, p :: ps, .cons h t => by
    refine ⟨?_, allp_of t⟩
    obtain ⟨a, xs, rfl, hs, ha⟩ := dp_tup h
    have : xs = [.int p.1, .int p.2] := dpa_ints (ns := [p.1, p.2]) ha
    subst this
    exact ⟨a, rfl, hs⟩
theorem allp_to {H : Hp} : ∀ {vs : List V} {ps : List (Int × Int)}, AllP K H vs ps → DqAll K H vs (ps.map pairE)
  | [], [], _ => .nil
  | x :: xs, p :: ps, h => by
    obtain ⟨⟨t, rfl, ht⟩, h2⟩ := h
    exact .cons (.tup ht (ints_dpa [p.1, p.2])) (allp_to h2)
  | [], _ :: _, h => h.elim
  | _ :: _, [], h => h.elim
theorem allp_mono {H H' : Hp} (e : Same H H') : ∀ {vs : List V} {ps : List (Int × Int)}, AllP K H vs ps → AllP K H' vs ps
  | [], [], _ => trivial
  | x :: xs, p :: ps, h => by
    obtain ⟨⟨t, rfl, ht⟩, h2⟩ := h
    exact ⟨⟨t, rfl, st_mono e ht⟩, allp_mono e h2⟩
  | [], _ :: _, h => h.elim
  | _ :: _, [], h => h.elim
theorem rc_sortP {ps : List (Int × Int)} : RDCN K (rSortPX K) [.list (ps.map pairE)] ((sortP ps).map pairE) := fun A H vs l h Q k => by
  cases h with
  | cons h t =>
    cases t
    obtain ⟨a, xs, rfl, hs, hd⟩ := dp_lst h
    refine ⟨a, xs, ps, hide A H, rfl, .inl (sl_mono hide_sub hs.sl), hide_sub, allp_of hd, fun ys p hy hp => ?_⟩
    exact k p _ ys hp (Grow.new l hp) upd_same (grow_newl hp (allp_to hy))
theorem rc_sortPT {ps : List (Int × Int)} : RDCN K (rSortPX K) [.tuple (ps.map pairE)] ((sortP ps).map pairE) := fun A H vs l h Q k => by
  cases h with
  | cons h t =>
    cases t
    obtain ⟨a, xs, rfl, hs, hd⟩ := dp_tup h
    refine ⟨a, xs, ps, hide A H, rfl, .inr (st_mono hide_sub hs), hide_sub, allp_of hd, fun ys p hy hp => ?_⟩
    exact k p _ ys hp (Grow.new l hp) upd_same (grow_newl hp (allp_to hy))
end
/-! ### sorted, as mirrors -/
def insI (p : Int) : List Int → List Int
  | [] => [p]
  | q :: qs => if q < p then q :: insI p qs else p :: q :: qs
def sortI (ps : List Int) : List Int := ps.foldr insI []
theorem insI_perm (p : Int) : ∀ ps, (insI p ps).Perm (p :: ps)
  | [] => List.Perm.refl _
  | q :: qs => by
    unfold insI
    split
    · exact (List.Perm.cons q (insI_perm p qs)).trans (List.Perm.swap p q qs)
    · exact List.Perm.refl _
theorem sortI_perm : ∀ ps, (sortI ps).Perm ps
  | [] => List.Perm.refl _
  | p :: ps => (insI_perm p (sortI ps)).trans (List.Perm.cons p (sortI_perm ps))
theorem insI_srt (p : Int) : ∀ {ps : List Int}, ps.Pairwise (· ≤ ·) → (insI p ps).Pairwise (· ≤ ·)
  | [], _ => by unfold insI; simp
  | q :: qs, h => by
    rw [List.pairwise_cons] at h
    unfold insI
    split
    · rw [List.pairwise_cons]
      refine ⟨fun r hr => ?_, insI_srt p h.2⟩
      rcases List.mem_cons.mp ((insI_perm p qs).mem_iff.mp hr) with rfl | hr
      · omega
      · exact h.1 r hr
    · rw [List.pairwise_cons, List.pairwise_cons]
      refine ⟨fun r hr => ?_, h.1, h.2⟩
      rcases List.mem_cons.mp hr with rfl | hr
      · omega
      · have := h.1 r hr; omega
theorem sortI_srt : ∀ ps, (sortI ps).Pairwise (· ≤ ·)
  | [] => List.Pairwise.nil
  | p :: ps => insI_srt p (sortI_srt ps)
theorem srtI_unique : ∀ {ps qs : List Int}, ps.Perm qs → ps.Pairwise (· ≤ ·) → qs.Pairwise (· ≤ ·) → ps = qs
  | [], qs, h, _, _ => (List.nil_perm.mp h).symm
  | p :: ps, [], h, _, _ => by have := h.length_eq; simp at this
  | p :: ps, q :: qs, h, h1, h2 => by
    rw [List.pairwise_cons] at h1 h2
    have e : p = q := by
      have hp : p ∈ q :: qs := h.mem_iff.mp List.mem_cons_self
      have hq : q ∈ p :: ps := h.mem_iff.mpr List.mem_cons_self
      rcases List.mem_cons.mp hp with hp | hp
      · exact hp
      · rcases List.mem_cons.mp hq with hq | hq
        · exact hq.symm
        · have := h1.1 q hq; have := h2.1 p hp; omega
    subst e
    rw [srtI_unique (List.Perm.cons_inv h) h1.2 h2.2]
def rSortU (K : PySem.W.Frag) : List V → Hp → VK → Prop := fun vs H Q => rSortPX K vs H Q ∨ rSortedI K vs H Q
theorem cr_sortU {X : Cx} : CallR X (.builtin "sorted") (rSortU X.K) := by
  intro pins s σ H vs us Q I r h
  rcases h with h | h
  · exact cr_sortPX pins s σ H vs us Q I r h
  · exact cr_sortedI pins s σ H vs us Q I r h
section
variable {K : Fg} {t : TA} {ga : XA}
theorem rc_sortI2 {ns : List Int} : RDCN K (rSortedI K) [.list (ns.map .int)] ((sortI ns).map .int) := fun A H vs l h Q k => by
  cases h with
  | cons h t =>
    cases t
    obtain ⟨a, xs, rfl, hs, hd⟩ := dp_lst h
    have e := dpa_ints hd
    subst e
    refine ⟨a, ns, rfl, sl_mono hide_sub hs.sl, fun ns' p hp hw hn => ?_⟩
    have e : ns' = sortI ns := srtI_unique (hp.trans (sortI_perm ns).symm) hw (sortI_srt ns)
    subst e
    exact k p _ _ hn (Grow.new l hn) upd_same (ints_dpa _)
def unint : D → Option Int
  | .int i => some i
  | _ => none
def unints : List D → Option (List Int)
  | [] => some []
  | d :: ds => match unint d, unints ds with
    | some p, some ps => some (p :: ps)
    | _, _ => none
theorem unints_map : ∀ ps : List Int, unints (ps.map .int) = some ps
  | [] => rfl
  | p :: ps => by
    rw [List.map_cons, unints, unints_map ps]
    rfl
theorem unints_eq : ∀ {ds : List D} {ps : List Int}, unints ds = some ps → ds = ps.map .int
  | [], ps, h => by cases h; rfl
  | d :: ds, ps, h => by
    unfold unints at h
    split at h
    · rename_i p ps' h1 h2
      cases h
      rw [unints_eq h2, List.map_cons]
      congr 1
      unfold unint at h1
      split at h1
      · cases h1; rfl
      · cases h1
    · cases h
def sortD (ds : List D) : Option (List D) := match unints ds with
  | some ns => some ((sortI ns).map .int)
  | none => (unpairs ds).map fun ps => (sortP ps).map pairE
def sortT (ds : List D) : Option (List D) := (unpairs ds).map fun ps => (sortP ps).map pairE
def mSort (ga : XA) : XA := fun en => match ga en with
  | some [.list ds] => sortD ds
  | some [.tuple ds] => sortT ds
  | _ => none
theorem mn_sort (h : MA K t ga) : MN K (tCB (rSortU K) t) (mSort ga) := fun en ds e => by
  unfold mSort at e
  split at e
  · rename_i ds' h1
    unfold sortD at e
    split at e
    · rename_i ns h2
      cases e
      rw [unints_eq h2] at h1
      refine en_call (h en _ h1) fun A H vs l hd Q k => .inr (rc_sortI2 A H vs l hd Q k)
    · obtain ⟨ps, h2, rfl⟩ := Option.map_eq_some_iff.mp e
      rw [unpairs_eq h2] at h1
      exact en_call (h en _ h1) fun A H vs l hd Q k => .inl (rc_sortP A H vs l hd Q k)
  · rename_i ds' h1
    obtain ⟨ps, h2, rfl⟩ := Option.map_eq_some_iff.mp e
    rw [unpairs_eq h2] at h1
    exact en_call (h en _ h1) fun A H vs l hd Q k => .inl (rc_sortPT A H vs l hd Q k)
  · cases e
end
end HF

set_option Elab.async false
set_option linter.all false
set_option maxRecDepth 100000
set_option maxHeartbeats 2000000
/-! M13: how the newer mirrors are run step by step. -/
namespace HF
open PySem L2 PySem.Spec PyProof.Rows
section
variable {en e : En} {d x y z : D} {ds xs ys : List D} {fa fe fi : XE} {ga : XA} {fw : XW} {i n : Nat} {a : Option Addr} {o : Ow} {nm f m : Str} {ns : List Str} {fs : List Fd} {kd : List (D × D)} {fx : XS} {ft : XT}
theorem noL_int {k : Int} : noL (.int k) = true := (rfl)
theorem noL_str {k : Str} : noL (.str k) = true := (rfl)
theorem noL_bool {k : Bool} : noL (.bool k) = true := (rfl)
theorem noL_none : noL .none = true := (rfl)
theorem noL_tup : noL (.tuple xs) = noLs xs := (rfl)
theorem noLs_nil : noLs [] = true := (rfl)
theorem noLs_cons : noLs (x :: xs) = (noL x && noLs xs) := (rfl)
def setLO (en : En) (i : Nat) : Option (Option Sl) → Option D → Option D → Option Out
  | some (some (.ow none (.ls ds))), some d, some (.int n) => (match ixN ds.length n with
    | some j => some (.nx (en.set i (some (.ow none (.ls (ds.set j d))))))
    | none => none)
  | _, _, _ => none
theorem x_setL : mSetL i fi fe en = setLO en i en[i]? (fe en) (fi en) := by unfold mSetL setLO; rfl
theorem x_setL1 {k : Int} {j : Nat} (h : ixN ds.length k = some j) : setLO en i (some (some (.ow none (.ls ds)))) (some d) (some (.int k)) = some (.nx (en.set i (some (.ow none (.ls (ds.set j d)))))) := by
  unfold setLO
  dsimp only
  rw [h]
theorem ixN_last {k : Nat} : ixN (k + 1) (-1) = some k := by
  unfold ixN
  rw [if_neg (by decide), if_pos (by omega)]
  congr 1
  omega
theorem x_setL2 : setLO en i (some (some (.ow none (.ls (ds ++ [x]))))) (some d) (some (.int (-1))) = some (.nx (en.set i (some (.ow none (.ls (ds ++ [d])))))) := by
  rw [x_setL1 (j := ds.length) (by rw [List.length_append, List.length_singleton]; exact ixN_last)]
  congr 5
  rw [List.set_append_right _ _ (Nat.le_refl _), Nat.sub_self]
  rfl
theorem x_last : atI (xs ++ [x]) (-1) = some x := by
  unfold atI
  rw [List.length_append, List.length_singleton, ixN_last]
  simp
theorem x_star : mStar fe ga en = (match fe en, ga en with
  | some (.list xs), some ys => some (xs ++ ys)
  | some (.tuple xs), some ys => some (xs ++ ys)
  | _, _ => none) := by unfold mStar; rfl
def starO : Option D → Option (List D) → Option (List D)
  | some (.list xs), some ys => some (xs ++ ys)
  | some (.tuple xs), some ys => some (xs ++ ys)
  | _, _ => none
theorem x_starO : mStar fe ga en = starO (fe en) (ga en) := by unfold mStar starO; rfl
theorem x_star1 : starO (some (.list xs)) (some ys) = some (xs ++ ys) := (rfl)
theorem x_star2 : starO (some (.tuple xs)) (some ys) = some (xs ++ ys) := (rfl)
def bitsO : Option D → Option D
  | some (.int i) => some (.int (Builtin.Int.intBits i : Nat))
  | _ => none
theorem x_bits : mBits fe en = bitsO (fe en) := by unfold mBits bitsO; rfl
theorem x_bits1 {k : Int} : bitsO (some (.int k)) = some (.int (Builtin.Int.intBits k : Nat)) := (rfl)
def sortO : Option (List D) → Option (List D)
  | some [.list ds] => sortD ds
  | some [.tuple ds] => sortT ds
  | _ => none
theorem x_sort : mSort ga en = sortO (ga en) := by unfold mSort sortO; rfl
theorem x_sort1 : sortO (some [.list ds]) = sortD ds := (rfl)
theorem x_sort2 : sortO (some [.tuple ds]) = sortT ds := (rfl)
theorem sortT_pair {l : List (Int × Int)} : sortT (l.map pairE) = some ((sortP l).map pairE) := by unfold sortT; rw [unpairs_map]; rfl
theorem sortD_int {l : List Int} : sortD (l.map .int) = some ((sortI l).map .int) := by unfold sortD; rw [unints_map]
theorem sortD_pair {l : List (Int × Int)} : sortD (l.map pairE) = some ((sortP l).map pairE) := by
  cases l with
  | nil => rfl
  | cons p l =>
    unfold sortD
    have : unints ((p :: l).map pairE) = none := by
      rw [List.map_cons, unints]
      rfl
    rw [this, unpairs_map]
    rfl
def fldO (nm f : Str) : Option D → Option D
  | some (.dict ((.none, .str n) :: kd)) => if n = nm then fldD f kd else none
  | _ => none
theorem x_fld : mFld nm f fa en = fldO nm f (fa en) := by unfold mFld fldO; rfl
theorem x_fld1 : fldO nm f (some (.dict ((.none, .str nm) :: kd))) = fldD f kd := if_pos rfl
def methO (nm m : Str) (n : Nat) (c : List D → Option D) : Option D → Option (List D) → Option D
  | some (.dict ((.none, .str k) :: kd)), some ds => if k = nm ∧ noFld m kd = true ∧ ds.length + 1 = n then c (.dict ((.none, .str k) :: kd) :: ds) else none
  | _, _ => none
theorem x_meth {c : List D → Option D} : mMeth nm m n c fa ga en = methO nm m n c (fa en) (ga en) := by unfold mMeth methO; rfl
theorem x_meth1 {c : List D → Option D} (h : noFld m kd = true) (h2 : ds.length + 1 = n) : methO nm m n c (some (.dict ((.none, .str nm) :: kd))) (some ds) = c (.dict ((.none, .str nm) :: kd) :: ds) := if_pos ⟨rfl, h, h2⟩
noncomputable def makeO (nm : Str) (n : Nat) (c : Addr → Ow → List D → Option (Ow × D)) : Option (List D) → Option Ow
  | some ds => if ds.length + 1 = n then makeM nm c ds else none
  | none => none
theorem x_make {c : Addr → Ow → List D → Option (Ow × D)} : mMake nm n c ga en = makeO nm n c (ga en) := by unfold mMake makeO; cases ga en <;> rfl
theorem x_make1 {c : Addr → Ow → List D → Option (Ow × D)} (h : ds.length + 1 = n) : makeO nm n c (some ds) = makeM nm c ds := if_pos h
def fzO : Option Ow → Option D
  | some o => some (dataO o)
  | none => none
theorem x_fz : mFz fw en = fzO (fw en) := by unfold mFz fzO; cases fw en <;> rfl
theorem x_fz1 : fzO (some o) = some (dataO o) := (rfl)
def setFO (nm f : Str) (en : En) (i : Nat) : Option (Option Sl) → Option D → Option Out
  | some (some (.ow a (.ob n ns fs))), some d => if n = nm ∧ f ∉ ns ∧ ns.length < 1000 then some (.nx (en.set i (some (.ow a (.ob nm (ns ++ [f]) (fs ++ [.da d])))))) else none
  | _, _ => none
theorem x_setF : mSetF nm f i fe en = setFO nm f en i en[i]? (fe en) := by
  unfold mSetF setFO
  cases en[i]? with
  | none => rfl
  | some s => cases s with
    | none => rfl
    | some s => cases s with
      | sh d => rfl
      | kl ds => rfl
      | ex a d x => rfl
      | ow a o => cases o with
        | ob nm ns fs => cases fe en <;> rfl
        | _ => rfl
theorem x_setF1 (h : f ∉ ns) (h2 : ns.length < 1000) : setFO nm f en i (some (some (.ow a (.ob nm ns fs)))) (some d) = some (.nx (en.set i (some (.ow a (.ob nm (ns ++ [f]) (fs ++ [.da d])))))) := if_pos ⟨rfl, h, h2⟩
def asgWO (en : En) (i : Nat) : Option Ow → Option Out
  | some o => some (.nx (en.set i (some (.ow none o))))
  | none => none
theorem x_asgW : mAsgW i fw en = asgWO en i (fw en) := by unfold mAsgW asgWO; cases fw en <;> rfl
theorem x_asgW1 : asgWO en i (some o) = some (.nx (en.set i (some (.ow none o)))) := (rfl)
def frzWO (f : XS) (en : En) (i : Nat) : Option (Option Sl) → Option Out
  | some (some (.ow _ o)) => f (en.set i (some (.sh (dataO o))))
  | _ => f en
theorem x_frzW : mFrzW i fx en = frzWO fx en i en[i]? := by unfold mFrzW frzWO; rfl
theorem x_frzW1 : frzWO fx en i (some (some (.ow a o))) = fx (en.set i (some (.sh (dataO o)))) := (rfl)
theorem x_frzW2 : frzWO fx en i (some (some (.sh d))) = fx en := (rfl)
theorem x_frzW3 : frzWO fx en i (some none) = fx en := (rfl)
end
theorem loop_step {xg : XG} {b : XS} {d : D} {ds : List D} {e e1 e2 : En} (h1 : xg d e = some e1) (h2 : b e1 = some (.nx e2)) : mLoop xg b (d :: ds) e = mLoop xg b ds e2 := by
  rw [mLoop, h1]
  simp only []
  rw [h2]
theorem rv_ref {a : Addr} : L2.RelV (.ref a) (.ref a) := rfl
theorem rv_int {i : Int} {t : Tok} : L2.RelV (.int i) (.int i t) := ⟨t, rfl⟩
theorem rv_str {i : Str} {t : Tok} : L2.RelV (.str i) (.str i t) := ⟨t, rfl⟩
theorem rv_bl {b : Bool} : L2.RelV (.bl b) (.bool b) := rfl
theorem rv_non : L2.RelV .non .none := rfl
theorem dq_ktup2 {K : Fg} {a : Addr} {o : Obj} {its : Array Value} {n : Nat} {vs : List V} {ds : List D} (h : K.fr.lookup a = some o) (hc : o.cls = .type "tuple") (hd : o.data = .seq its n) (hz : its.size ≤ 100) (r : Vals vs its.toList) (ha : ∀ H, DqAll K H vs ds) : ∀ H, Dq K H (.ref a) (.tuple ds) :=
  dq_ktup h hc hd (Nat.le_trans hz (by rw [sizeLine_eq]; decide)) r ha
end HF

set_option Elab.async false
set_option linter.all false
set_option maxRecDepth 100000
set_option maxHeartbeats 2000000
/-! HF17: defs that return a list of their own making. -/
namespace HF
open PySem L2 PySem.Spec PyProof.Rows
def spN (K : Fg) (R : List D → List D → Prop) : Sp := fun vs H Q _ => ∃ A ds es, (Live A H ∧ Tabs K (hide A H)) ∧ DqAll K (hide A H) vs ds ∧ R ds es ∧ ∀ p H' vs', H p = none → Grow A H H' → H' p = some (.lst vs') → DqAll K (hide (adda A p) H') vs' es → Q (.ref p) H'
def runN (N : List Str) (b : XS) (fe : XA) (ds : List D) : Option (List D) := match b (startE N ds) with
  | some (.nx e) => fe e
  | _ => none
def RN (n : Nat) (m : List D → Option (List D)) : List D → List D → Prop := fun ds es => ds.length = n ∧ m ds = some es
section
variable {K : Fg} {P : Program} {w : World} {mg : Str → Option Value} {base : Heap}
theorem frame_out {A1 A' : Addr → Bool} {H H' : Hp} {σ' : L2.St} {en' : En} (I : EnvOk K A1 H A' H' σ' en') : Grow A1 H H' ∧ Same (hide A' H') (hide A1 H') := by
  have sm : Same (hide A' H') (hide A1 H') := same_of fun a o e => by
    obtain ⟨h1, h2⟩ := hide_some e
    have : A1 a = false := by
      cases q : A1 a with
      | false => rfl
      | true => rw [I.sub a q] at h1; cases h1
    rw [hide_out this]; exact h2
  exact ⟨⟨I.base.same.trans sm, I.keep⟩, sm⟩
theorem adda_or {A : Addr → Bool} {p q : Addr} (h : adda A p q = false) : A q = false ∧ q ≠ p := by
  unfold adda at h
  simp at h
  exact ⟨h.1, fun z => by simp [z] at h⟩
theorem adda_out {A : Addr → Bool} {p q : Addr} (h : A q = false) (h2 : q ≠ p) : adda A p q = false := by
  unfold adda
  simp [h, h2]
theorem fnN {x qual : Str} {st : Stmt} {f : Addr} {fd : FuncData} {N ps : List Str} {k n : Nat} {b : XS} {fe : XA} (F : Fun K x qual st f fd) (S : FnScope N ps (defScope st)) (len : n = ps.length)
    (hbody : ∀ (cdv : Value) (A : Around) (outer : List Env) (s : Shared) (H : Hp) (E : XK), Room k (A.deeper (envOfC qual (defScope st) s.heap.objs.size f cdv)) →
      ∃ t te, PSs (cxOf CX0 P w K mg base N qual (defScope st) f cdv A outer s H E).nox (defBody st) (tSeq t (tRet te)) ∧ MS K t b ∧ MN K te fe) : FnOk P w K mg base CX0 (k + 1) f fd ps (spN K (RN n (runN N b fe))) :=
  F.ok S (fun vs H Q E h => by
    obtain ⟨A, ds, es, _, hd, hR, _⟩ := h
    rw [dpa_len hd]; exact hR.1.trans len) fun cdv A outer s H vs Q E hr h => by
    obtain ⟨A1, ds, es, l, hd, hR, k⟩ := h
    obtain ⟨t, te, ht, hm, he⟩ := hbody cdv A outer s H E hr
    obtain ⟨_, hR⟩ := hR
    unfold runN at hR
    split at hR
    · rename_i e h1
      refine ⟨_, ht, hm _ _ h1 A1 H A1 H _ (start_ok N l hd) _ ⟨fun A' H' σ' en' I q => ?_, fun _ _ _ _ _ _ _ _ q => False.elim q, fun _ _ _ _ _ q => False.elim q, fun _ _ _ _ _ q => False.elim q⟩⟩
      have q : en' = e := q
      subst q
      refine he _ _ hR A1 H A' H' σ' I _ fun p H2 vs' hp g e1 d1 => ?_
      have I2 := I.grow g
      have hpn : H p = none := by
        apply Classical.byContradiction
        intro hn
        cases hA : A1 p with
        | true => exact I.live p (I.sub p hA) hp
        | false => exact (hide_th (I.base.same.th p (hide_in hA hn))).2 hp
      have hpA : A' p = false := by
        cases q : A' p with
        | false => rfl
        | true => exact absurd hp (I.live p q)
      refine k p H2 vs' hpn (frame_out I2).1 e1 (dpa_mono (same_of fun a o e => ?_) d1)
      obtain ⟨q1, q2⟩ := hide_some e
      obtain ⟨q3, q4⟩ := adda_or q1
      have : A1 a = false := by
        cases q : A1 a with
        | false => rfl
        | true => rw [I.sub a q] at q3; cases q3
      rw [hide_out (adda_out this q4)]; exact q2
    · cases hR
/-- a def that makes a list, ready to be called -/
structure CalN (P : Program) (w : World) (K : Fg) (mg : Str → Option Value) (base : Heap) (x : Str) (k : Nat) (R : List D → List D → Prop) : Prop where
  ex : ∃ (f : Addr) (fd : FuncData) (ps : List Str), FnOk P w K mg base CX0 k f fd ps (spN K R) ∧ mg x = some (.ref f) ∧ PySem.W.keepIn K (.ref f) = true ∧ Binds K fd ps []
def tFnN (K : Fg) (R : List D → List D → Prop) (t : TA) : TE := tCall (spN K R) [] E0 t
end
section
variable {X : Cx}
theorem pe_funN {x : Str} {j k : Nat} {R : List D → List D → Prop} {p pos : Pos} {e : Expr} {es : List Expr} {t : TA} {T : Addr → Prop} {Gv : Str → V} (c : CalN X.prog X.w ⟨X.K, T, Gv, X.w⟩ X.mg X.base x j R) (hr : Room k X.A) (hg : Gl X x) (ha : PA X (e :: es) t) (hj : j ≤ k := by decide)
    (hdb : (x == ("__debug__" : Str)) = false := by decide) (he : starEach (e :: es) X.env = (false, eval e X.env) :: starEach es X.env := by rfl) (hpl : (backTo pos (starEach es X.env)).any (·.1) = false := by rfl) : PE X (.Call (.Name x p) (e :: es) [] pos) (tFnN ⟨X.K, T, Gv, X.w⟩ R t) := by
  obtain ⟨f, fd, ps, F, hm, hk, hb⟩ := c.ex
  exact pe_call F (hr.mono hj) hg hm hk hb .nil pass0 ha hdb he hpl
end
section
variable {K : Fg} {ta tb : TE} {tt : TT} {ft : XT} {fa fb : XA} {t : TA} {ga : XA} {en : En}
def mFnN (n : Nat) (m : List D → Option (List D)) (g : XA) : XA := fun en => match g en with
  | some ds => if ds.length = n then m ds else none
  | none => none
theorem mn_fn {n : Nat} {m : List D → Option (List D)} (h : MA K t ga) : MN K (tFnN K (RN n m) t) (mFnN n m ga) := fun en es e => by
  unfold mFnN at e
  split at e
  · rename_i ds h1
    split at e
    · rename_i hl
      refine fun A0 Hs A H σ I Q k => h en _ h1 A0 Hs A H σ I _ fun vs H1 g1 d1 => ⟨A, ds, es, ⟨g1.live I.live, I.tabs.same g1.ex⟩, by rw [List.append_nil]; exact d1, ⟨hl, e⟩, fun p H2 vs' hp g2 e2 d2 => k p H2 vs' ?_ (g1.trans g2) e2 d2⟩
      apply Classical.byContradiction
      intro hn
      cases hA : A p with
      | true => exact absurd hp (g1.live I.live p hA)
      | false => exact absurd hp (hide_th (g1.ex.th p (hide_in hA hn))).2
    · cases e
  · cases e
theorem none_back {A : Addr → Bool} {H H1 : Hp} {p : Addr} (l : Live A H) (g : Grow A H H1) (h : H1 p = none) : H p = none := by
  apply Classical.byContradiction
  intro hn
  cases hA : A p with
  | true => exact absurd h (g.live l p hA)
  | false => exact absurd h (hide_th (g.ex.th p (hide_in hA hn))).2
def mIfN (ft : XT) (fa fb : XA) : XA := fun en => match ft en with
  | some true => fa en
  | some false => fb en
  | none => none
theorem mn_if (h : MT K tt ft) (h1 : MN K ta fa) (h2 : MN K tb fb) : MN K (tIf tt ta tb) (mIfN ft fa fb) := fun en ds e => by
  unfold mIfN at e
  split at e
  · rename_i hb
    exact fun A0 Hs A H σ I Q k => h en true hb A0 Hs A H σ I _ fun H1 g1 => h1 en ds e A0 Hs A H1 σ (I.grow g1) Q fun p H2 vs hp g2 e2 d2 => k p H2 vs (none_back I.live g1 hp) (g1.trans g2) e2 d2
  · rename_i hb
    exact fun A0 Hs A H σ I Q k => h en false hb A0 Hs A H σ I _ fun H1 g1 => h2 en ds e A0 Hs A H1 σ (I.grow g1) Q fun p H2 vs hp g2 e2 d2 => k p H2 vs (none_back I.live g1 hp) (g1.trans g2) e2 d2
  · cases e
/-! running -/
def fnNO (n : Nat) (m : List D → Option (List D)) : Option (List D) → Option (List D)
  | some ds => if ds.length = n then m ds else none
  | none => none
theorem x_fnN {n : Nat} {m : List D → Option (List D)} : mFnN n m ga en = fnNO n m (ga en) := by unfold mFnN fnNO; cases ga en <;> rfl
theorem x_fnN1 {n : Nat} {m : List D → Option (List D)} {ds : List D} (h : ds.length = n) : fnNO n m (some ds) = m ds := if_pos h
def ifNO : Option Bool → XA → XA → En → Option (List D)
  | some true, f, _, en => f en
  | some false, _, g, en => g en
  | none, _, _, _ => none
theorem x_ifN : mIfN ft fa fb en = ifNO (ft en) fa fb en := by unfold mIfN ifNO; cases ft en with | none => rfl | some b => cases b <;> rfl
theorem x_ifN1 : ifNO (some true) fa fb en = fa en := (rfl)
theorem x_ifN2 : ifNO (some false) fa fb en = fb en := (rfl)
def outN (fe : XA) : Option Out → Option (List D)
  | some (.nx e) => fe e
  | _ => none
theorem x_runN {N : List Str} {b : XS} {ds : List D} : runN N b ga ds = outN ga (b (startE N ds)) := by unfold runN outN; cases b (startE N ds) with | none => rfl | some o => cases o <;> rfl
theorem x_outN {e : En} : outN ga (some (.nx e)) = ga e := (rfl)
end
end HF

set_option Elab.async false
set_option linter.all false
set_option maxRecDepth 100000
set_option maxHeartbeats 2000000
/-! HF18: own objects: fields that hold lists of their own; methods that change them. -/
namespace HF
open PySem L2 PySem.Spec PyProof.Rows
/-! ### x.f = a new thing -/
section
variable {K : Fg} {te : TE} {en : En} {i : Nat}
theorem s_setFW {E : DE} {nm f : Str} {ns : List Str} {fs : List Fd} {o : Ow} {a : Option Addr} (c : ClsD K nm) (n : NoAt K nm f) (hi : en[i]? = some (some (.ow a (.ob nm ns fs)))) (h : EvW K te en o) (hf : f ∉ ns) (hl : ns.length < 1000)
    (k : E.nx (en.set i (some (.ow a (.ob nm (ns ++ [f]) (fs ++ [.ow o])))))) : SD K (sFld K (tVar i) te f) E en := fun A0 Hs A H σ I F fit =>
  h A0 Hs A H σ I _ fun q0 H1 F1 On hF g hq0 => by
    obtain ⟨O, hO⟩ := I.own
    obtain ⟨v, hv, p, rfl, ha, ho⟩ := hO i _ hi
    cases ho with
    | ob m1 m2 hC h1 h2 h3 h4 =>
      rename_i dx C fvs
      obtain ⟨C', hC', cc⟩ := c.ex
      rw [hC] at hC'
      cases hC'
      have hlen : fvs.length < 1000 := by rw [← h3, List.length_map] at hl; exact hl
      have nF : ∀ q, A q = true → F1 q = false := fun q hq => by
        cases e : F1 q with
        | false => rfl
        | true => rw [new_out I.live hF e] at hq; cases hq
      have h1' : H1 p = some (.ins C dx fvs) := by rw [g.eq p m1.1]; exact h1
      have h2' : H1 dx = some (.own p) := by rw [g.eq dx m2.1]; exact h2
      refine ⟨_, hv, p, C, dx, fvs, rfl, h1', cc, by rw [← cl_of hC]; exact n, hlen, ?_⟩
      rw [putF_new (by rw [h3]; exact hf)]
      have sm1 : Same (hide A H) (hide (orA A F1) H1) := g.ex.via (fun _ _ => rfl) fun a n _ => by
        have hz : F1 a = false := by
          cases e : F1 a with
          | false => rfl
          | true => exact absurd (hF a e).1 (hide_th n).2
        unfold hide orA
        rw [hz, Bool.or_false]
      have sm2 : Same (hide (orA A F1) H1) (hide (orA A F1) (upd H1 p (.ins C dx (fvs ++ [(f, .ref q0)])))) := same_of fun a u e => by
        obtain ⟨q1, q2⟩ := hide_some e
        have hne : a ≠ p := fun z => by rw [z, orA_l m1.1] at q1; cases q1
        rw [hide_out q1, upd_ne hne]; exact q2
      let O' : Addr → List Nat := fun q => if F1 q = true then On q ++ ((1 + fs.length) :: [i]) else O q
      have eO : ∀ q, A q = true → O' q = O q := fun q hq => by
        show (if F1 q = true then _ else O q) = O q
        rw [if_neg (by rw [nF q hq]; decide)]
      have neP : ∀ q r, O q = r → r ≠ [i] → q ≠ p := fun q r e hr z => hr (by rw [← e, z]; exact m1.2.2)
      have npF : ∀ q, F1 q = true → q ≠ p := fun q hq z => by rw [z, nF p m1.1] at hq; cases hq
      refine fit.nx (orA A F1) _ σ _ (I.change2 (s := .ow a (.ob _ (ns ++ [f]) (fs ++ [.ow o]))) rfl (fun _ _ => rfl) (sm1.trans sm2) (fun q hq => ?_) (fun q hq => ⟨orA_l (I.sub q hq), (upd_ne (fun z => by rw [z, m1.2.1] at hq; cases hq)).trans (g.eq q (I.sub q hq))⟩) O O' hO (fun q j rh hj mq _ => ⟨⟨orA_l mq.1, mq.2.1, by rw [eO q mq.1]; exact mq.2.2⟩, (upd_ne fun z => ?_).trans (g.eq q mq.1)⟩) fun _ => ⟨_, hv, p, rfl, ha, ?_⟩) k
      · by_cases e : q = p
        · rw [e, upd_same]; exact fun z => by cases z
        · rw [upd_ne e]
          rcases orA_or hq with hq | hq
          · rw [g.eq q hq]; exact I.live q hq
          · exact (hF q hq).2
      · have := mq.2.2
        rw [z, m1.2.2] at this
        exact last_ne (a := rh) (b := []) hj this.symm
      · have ndx : dx ≠ p := fun z => by
          have := m2.2.2
          rw [z, m1.2.2] at this
          simp at this
        have hfl : fvs.length = fs.length := by
          have := fd_len h4
          rw [List.length_map] at this; exact this
        refine .ob ⟨orA_l m1.1, m1.2.1, by rw [eO p m1.1]; exact m1.2.2⟩ ⟨orA_l m2.1, m2.2.1, by rw [eO dx m2.1]; exact m2.2.2⟩ hC upd_same (by rw [upd_ne ndx]; exact h2') (by rw [List.map_append, h3]; rfl) ?_
        rw [List.map_append]
        refine fd_snocW (ow_shift sm2 (fun q rh m => ⟨⟨orA_r m.1, ?_, ?_⟩, upd_ne (npF q m.1)⟩) hq0) (fd_keep2 (sm1.trans sm2) (fun q rh k mq => ⟨⟨orA_l mq.1, mq.2.1, by rw [eO q mq.1]; exact mq.2.2⟩, (upd_ne fun z => ?_).trans (g.eq q mq.1)⟩) h4)
        · cases e : A0 q with
          | false => rfl
          | true => exact absurd (new_out I.live hF m.1) (by rw [I.sub q e]; decide)
        · show (if F1 q = true then _ else O q) = _
          rw [if_pos m.1]
          have := m.2
          rw [List.append_nil] at this
          rw [this]
        · have := mq.2.2
          rw [z, m1.2.2] at this
          have := congrArg List.length this
          simp at this
def mSetFW (nm f : Str) (i : Nat) (fw : XW) : XS := fun en => match en[i]? with
  | some (some (.ow a (.ob n ns fs))) => (match fw en with
    | some o => if n = nm ∧ f ∉ ns ∧ ns.length < 1000 then some (.nx (en.set i (some (.ow a (.ob nm (ns ++ [f]) (fs ++ [.ow o])))))) else none
    | none => none)
  | _ => none
theorem ms_setFW {nm f : Str} {fw : XW} (c : ClsD K nm) (n : NoAt K nm f) (h : MW K te fw) : MS K (sFld K (tVar i) te f) (mSetFW nm f i fw) := fun en o e => by
  unfold mSetFW at e
  split at e
  · rename_i a n' ns fs hi
    split at e
    · rename_i d hd
      split at e
      · rename_i hc
        obtain ⟨rfl, h2, h3⟩ := hc
        cases e
        exact s_setFW c n hi (h en _ hd) h2 h3 rfl
      · cases e
    · cases e
  · cases e
end
/-! ### x.f.append(..), x an own object, f an own list -/
def putFd (f : Str) : List Str → List Fd → Fd → List Fd
  | g :: ns, d :: fs, x => if g = f then x :: fs else d :: putFd f ns fs x
  | _, fs, _ => fs
section
variable {K : Fg}
theorem fd_app {Hh H : Hp} {P : Addr → List Nat → Prop} {f : Str} {ds : List D} (fun' : ∀ q r r', P q r → P q r' → r = r') : ∀ {fvs : List (Str × V)} {pi : List Nat} {k : Nat} {fs : List Fd}, FdAll K Hh H P pi k (fvs.map (·.2)) fs → fldF f (fvs.map (·.1)) fs = some (.ow (.ls ds)) →
    ∃ q vs k', fvs.lookup f = some (.ref q) ∧ H q = some (.lst vs) ∧ DqAll K Hh vs ds ∧ P q (k' :: pi) ∧ k ≤ k' ∧
      ∀ H' vs' ds', (∀ r, r ≠ q → H' r = H r) → H' q = some (.lst vs') → DqAll K Hh vs' ds' → FdAll K Hh H' P pi k (fvs.map (·.2)) (putFd f (fvs.map (·.1)) fs (.ow (.ls ds')))
  | [], _, _, _, _, e => by cases e
  | (g, v) :: fvs, pi, k, _, h, e => by
    rw [List.lookup_cons]
    by_cases h1 : g = f
    · subst h1
      have hb : (g == g) = true := by simp
      rw [hb]
      cases h with
      | da hd t =>
        have e : (if g = g then some _ else _) = some (Fd.ow (.ls ds)) := e
        rw [if_pos rfl] at e
        cases e
      | ow ho t =>
        have e : (if g = g then some _ else _) = some (Fd.ow (.ls ds)) := e
        rw [if_pos rfl] at e
        cases e
        cases ho with
        | ls m1 m2 m3 =>
          refine ⟨_, _, k, rfl, m2, m3, m1, Nat.le_refl _, fun H' vs' ds' a1 a2 a3 => ?_⟩
          rw [List.map_cons, List.map_cons, putFd, if_pos rfl]
          refine .ow (.ls m1 a2 a3) (fd_keepG fun' (k0 := k) (by omega) (fun q rh k2 hk2 hm => ?_) t)
          refine a1 q fun z => ?_
          rw [z] at hm
          have := fun' _ _ _ m1 hm
          have h2 : k :: pi = (rh ++ [k2]) ++ pi := by rw [List.append_assoc]; exact this
          rw [show k :: pi = [k] ++ pi from rfl] at h2
          have := List.append_cancel_right h2
          cases rh with
          | nil => simp at this; omega
          | cons x y => have := congrArg List.length this; simp at this
    · have hb : (f == g) = false := by simp; exact fun z => h1 z.symm
      rw [hb]
      cases h with
      | da hd t =>
        have e : (if g = f then some _ else _) = some (Fd.ow (.ls ds)) := e
        rw [if_neg h1] at e
        obtain ⟨q, vs, k', b1, b2, b3, b4, b5, b6⟩ := fd_app fun' t e
        refine ⟨q, vs, k', b1, b2, b3, b4, by omega, fun H' vs' ds' a1 a2 a3 => ?_⟩
        rw [List.map_cons, List.map_cons, putFd, if_neg h1]
        exact .da hd (b6 H' vs' ds' a1 a2 a3)
      | ow ho t =>
        have e : (if g = f then some _ else _) = some (Fd.ow (.ls ds)) := e
        rw [if_neg h1] at e
        obtain ⟨q, vs, k', b1, b2, b3, b4, b5, b6⟩ := fd_app fun' t e
        refine ⟨q, vs, k', b1, b2, b3, b4, by omega, fun H' vs' ds' a1 a2 a3 => ?_⟩
        rw [List.map_cons, List.map_cons, putFd, if_neg h1]
        refine .ow (ow_keep (Same.refl _) (fun q2 rh m => ⟨m, a1 q2 fun z => ?_⟩) ho) (b6 H' vs' ds' a1 a2 a3)
        rw [z] at m
        have := fun' _ _ _ b4 m
        have h2 : [k'] ++ pi = (rh ++ [k]) ++ pi := by rw [List.append_assoc]; exact this
        have := List.append_cancel_right h2
        cases rh with
        | nil => simp at this; omega
        | cons x y => have := congrArg List.length this; simp at this
where
  fd_keepG {Hh H H' : Hp} {P : Addr → List Nat → Prop} (fun' : ∀ q r r', P q r → P q r' → r = r') {k0 : Nat} : ∀ {pi : List Nat} {k : Nat} {vs : List V} {fs : List Fd}, k0 < k → (∀ q rh k2, k0 < k2 → P q (rh ++ (k2 :: pi)) → H' q = H q) → FdAll K Hh H P pi k vs fs → FdAll K Hh H' P pi k vs fs
    | _, _, _, _, _, _, .nil => .nil
    | _, _, _, _, hk, ag, .da h t => .da h (fd_keepG fun' (by omega) ag t)
    | _, k, _, _, hk, ag, .ow h t => .ow (ow_keep (Same.refl _) (fun q rh m => ⟨m, ag q rh k hk m⟩) h) (fd_keepG fun' (by omega) ag t)
end
end HF

set_option Elab.async false
set_option linter.all false
set_option maxRecDepth 100000
set_option maxHeartbeats 2000000
/-! HF19: methods that change their object. -/
namespace HF
open PySem L2 PySem.Spec PyProof.Rows
section
variable {K : Fg} {te : TE} {en : En} {i : Nat}
theorem s_appF {E : DE} {nm f : Str} {ns : List Str} {fs : List Fd} {ds : List D} {d : D} {a : Option Addr} (c : ClsD K nm) (n : NoAt K nm f) (hi : en[i]? = some (some (.ow a (.ob nm ns fs)))) (hf : fldF f ns fs = some (.ow (.ls ds))) (h : EvD K te en d) (hz : ds.length < 16000000)
    (k : E.nx (en.set i (some (.ow a (.ob nm ns (putFd f ns fs (.ow (.ls (ds ++ [d])))))))) ) : SD K (tDrop (tBM K "list" rAppend (tFld K (tVar i) f) (tCons te tNil))) E en := fun A0 Hs A H σ I F fit => by
  obtain ⟨O, hO⟩ := I.own
  obtain ⟨v, hv, p, rfl, ha, ho⟩ := hO i _ hi
  cases ho with
  | ob m1 m2 hC h1 h2 h3 h4 =>
    rename_i dx C fvs
    subst h3
    obtain ⟨C', hC', cc⟩ := c.ex
    rw [hC] at hC'
    cases hC'
    obtain ⟨q, vs, k', b1, b2, b3, b4, b5, b6⟩ := fd_app (fun q r r' x y => x.2.2.symm.trans y.2.2) h4 hf
    refine ⟨_, hv, p, C, dx, fvs, .ref q, rfl, h1, cc, by rw [← cl_of hC]; exact n, b1, .inl ⟨rfl, _, SqL.of b2⟩, h A0 Hs A H σ I _ fun u H1 g1 d1 => ?_⟩
    have hl := dpa_len b3
    have hq1 : H1 q = some (.lst vs) := by rw [g1.eq q b4.1]; exact b2
    refine ⟨q, vs, u, rfl, rfl, hq1, Nat.lt_of_lt_of_le (by omega : vs.length < 16000000) (by rw [sizeLine_eq]; decide), ?_⟩
    have sm2 : Same (hide A H1) (hide A (upd H1 q (.lst (vs ++ [u])))) := same_of fun a u e => by
      obtain ⟨q1, q2⟩ := hide_some e
      have hne : a ≠ q := fun z => by rw [z, b4.1] at q1; cases q1
      rw [hide_out q1, upd_ne hne]; exact q2
    have npq : p ≠ q := fun z => by
      have := m1.2.2
      rw [z, b4.2.2] at this
      simp at this
    have ndq : dx ≠ q := fun z => by
      have := m2.2.2
      rw [z, b4.2.2] at this
      simp at this
      omega
    have sm := g1.ex.trans sm2
    refine fit.nx A _ σ _ (I.change2 (s := .ow a (.ob _ _ (putFd f _ fs (.ow (.ls (ds ++ [d])))))) rfl (fun _ _ => rfl) sm (fun r hr => ?_) (fun r hr => ⟨I.sub r hr, (upd_ne (fun z => by rw [z, b4.2.1] at hr; cases hr)).trans (g1.eq r (I.sub r hr))⟩) O O hO (fun r j rh hj mq _ => ⟨mq, (upd_ne fun z => ?_).trans (g1.eq r mq.1)⟩) fun _ => ⟨_, hv, p, rfl, ha, ?_⟩) k
    · by_cases e : r = q
      · rw [e, upd_same]; exact fun z => by cases z
      · rw [upd_ne e, g1.eq r hr]; exact I.live r hr
    · have := mq.2.2
      rw [z, b4.2.2] at this
      exact last_ne (a := rh) (b := [k']) hj this.symm
    · have h4' := b6 (fun r => if r = q then some (.lst (vs ++ [u])) else H r) (vs ++ [u]) ds (fun r hr => if_neg hr) (if_pos rfl)
      refine .ob m1 m2 hC ((upd_ne npq).trans ((g1.eq p m1.1).trans h1)) ((upd_ne ndq).trans ((g1.eq dx m2.1).trans h2)) rfl ?_
      have e4 := fd_shift (Hf := hide A H1) g1.ex (P' := Mine A0 A O) (H' := H1) (pi' := [i]) (fun r rh m => ⟨m, g1.eq r m.1⟩) h4
      obtain ⟨q', vs', k'', c1, c2, c3, c4, c5, c6⟩ := fd_app (fun q r r' x y => x.2.2.symm.trans y.2.2) e4 hf
      rw [b1] at c1
      cases c1
      have e5 := c6 (upd H1 q (.lst (vs ++ [u]))) (vs ++ [u]) (ds ++ [d]) (fun r hr => upd_ne hr) upd_same (dpa_append (dpa_mono g1.ex b3) (.cons d1 .nil))
      exact fd_shift sm2 (fun r rh m => ⟨m, rfl⟩) e5
def mAppF (nm f : Str) (i : Nat) (fe : XE) : XS := fun en => match en[i]? with
  | some (some (.ow a (.ob n ns fs))) => (match fldF f ns fs with
    | some (.ow (.ls ds)) => (match fe en with
      | some d => if n = nm ∧ ds.length < 16000000 then some (.nx (en.set i (some (.ow a (.ob nm ns (putFd f ns fs (.ow (.ls (ds ++ [d])))))))) ) else none
      | none => none)
    | _ => none)
  | _ => none
theorem ms_appF {nm f : Str} {fe : XE} (c : ClsD K nm) (n : NoAt K nm f) (h : ME K te fe) : MS K (tDrop (tBM K "list" rAppend (tFld K (tVar i) f) (tCons te tNil))) (mAppF nm f i fe) := fun en o e => by
  unfold mAppF at e
  split at e
  · rename_i a n' ns fs hi
    split at e
    · rename_i ds hf
      split at e
      · rename_i d hd
        split at e
        · rename_i hc
          obtain ⟨rfl, h2⟩ := hc
          cases e
          exact s_appF c n hi hf (h en _ hd) h2 rfl
        · cases e
      · cases e
    · cases e
  · cases e
end
/-! ### a method whose object is its own: changed, and a value returned -/
section
variable {K : Fg} {P : Program} {w : World} {mg : Str → Option Value} {base : Heap}
def ownAt (p : Addr) : Option (Option Sl) → Option Ow
  | some (some (.ow (some p') o')) => if p' = p then some o' else none
  | _ => none
def runWR (N : List Str) (b : XS) (fe : XE) (p : Addr) (o : Ow) (ds : List D) : Option (Ow × D) := match b (startW N p o ds) with
  | some (.nx e) => (match ownAt p e[0]? with
    | some o' => (match fe e with
      | some d => some (o', d)
      | none => none)
    | none => none)
  | _ => none
theorem ownAt_eq {p : Addr} {x : Option (Option Sl)} {o : Ow} (h : ownAt p x = some o) : x = some (some (.ow (some p) o)) := by
  unfold ownAt at h
  split at h
  · split at h
    · rename_i hp
      subst hp
      cases h; rfl
    · cases h
  · cases h
theorem fnWR {x qual : Str} {st : Stmt} {f : Addr} {fd : FuncData} {N ps : List Str} {k n : Nat} {b : XS} {fe : XE} (F : Fun K x qual st f fd) (S : FnScope N ps (defScope st)) (len : n = ps.length)
    (hbody : ∀ (cdv : Value) (A : Around) (outer : List Env) (s : Shared) (H : Hp) (E : XK), Room k (A.deeper (envOfC qual (defScope st) s.heap.objs.size f cdv)) →
      ∃ t te, PSs (cxOf CX0 P w K mg base N qual (defScope st) f cdv A outer s H E).nox (defBody st) (tSeq t (tRet te)) ∧ MS K t b ∧ ME K te fe) : FnOk P w K mg base CX0 (k + 1) f fd ps (spW K (RW n (runWR N b fe))) :=
  F.ok S (fun vs H Q E h => by
    obtain ⟨A, F, On, p, ws, o, ds, o', d, rfl, _, _, _, hd, hR, _⟩ := h
    rw [List.length_cons, dpa_len hd]
    exact hR.1.trans len) fun cdv A outer s H vs Q E hr h => by
    obtain ⟨A1, F, On, p, ws, o, ds, o', d, rfl, dj, l, ho, hd, hR, k⟩ := h
    obtain ⟨t, te, ht, hm, he⟩ := hbody cdv A outer s H E hr
    obtain ⟨hn, hR⟩ := hR
    have hR := hR p
    unfold runWR at hR
    split at hR
    · rename_i e h1
      split at hR
      · rename_i o2 h0
        split at hR
        · rename_i d2 h2
          cases hR
          have h0 := ownAt_eq h0
          refine ⟨_, ht, hm _ _ h1 A1 _ _ H _ (startW_ok N l dj ho hd) _ ⟨fun A' H' σ' en' I q => ?_, fun _ _ _ _ _ _ _ _ q => False.elim q, fun _ _ _ _ _ q => False.elim q, fun _ _ _ _ _ q => False.elim q⟩⟩
          have q : en' = e := q
          subst q
          refine he _ _ h2 A1 _ A' H' σ' I _ fun v H2 g dv => ?_
          have I2 := I.grow g
          obtain ⟨F', On', w1, w2, w3, w4, w5, w6⟩ := endW I2 h0
          exact k v H2 F' On' w1 w2 w3 w4 w5 (dp_mono w6 dv)
        · cases hR
      · cases hR
    · cases hR
structure CalMW (P : Program) (w : World) (K : Fg) (mg : Str → Option Value) (base : Heap) (nm m : Str) (k : Nat) (R : Ow → List D → Ow → D → Prop) : Prop where
  ex : ∃ (f C : Addr) (fd : FuncData) (ps : List Str), K.Gv nm = .ref C ∧ FnOk P w K mg base CX0 k f fd ps (spW K R) ∧ Cls K C ∧ Meth K C m f ∧ Binds K fd ps []
def tMethW (K : Fg) (nm m : Str) (R : Ow → List D → Ow → D → Prop) (ta : TE) (t : TA) : TE := tMeth (K.cl nm) m (spW K R) [] E0 ta t
end
section
variable {X : Cx}
theorem pe_methW {nm m : Str} {j k : Nat} {R : Ow → List D → Ow → D → Prop} {pos apos : Pos} {o e : Expr} {es : List Expr} {ta : TE} {t : TA} {T : Addr → Prop} {Gv : Str → V} {pl : Sem Bool} (c : CalMW X.prog X.w ⟨X.K, T, Gv, X.w⟩ X.mg X.base nm m j R) (hr : Room k X.A) (ho : PE X o ta) (ha : PA X (e :: es) t) (hj : j ≤ k := by decide)
    (he : starEach (e :: es) X.env = (false, eval e X.env) :: starEach es X.env := by rfl) (hpl : (backTo pos (starEach es X.env)).any (·.1) = false := by rfl)
    (hev : eval (.Call (.Attribute o m apos) (e :: es) [] pos) X.env = (do
      let ov ← eval o X.env
      standAt apos.atName
      let __x ← holding [ov] (getMethod ov m pl)
      match __x with
        | (f, first) => callWith pos f first (backTo pos (starEach (e :: es) X.env)) (backToKw pos (keywordEach [] X.env))) := by rfl) : PE X (.Call (.Attribute o m apos) (e :: es) [] pos) (tMethW ⟨X.K, T, Gv, X.w⟩ nm m R ta t) := by
  obtain ⟨f, C, fd, ps, hC, F, cc, hm, hb⟩ := c.ex
  have := pe_meth (apos := apos) (pos := pos) ho cc hm F (hr.mono hj) hb .nil pass0 ha he hpl hev
  unfold tMethW
  rw [cl_of hC]
  exact this
end
def noFldN (m : Str) (ns : List Str) : Bool := ns.all fun g => !decide (g = m)
theorem nofldN_look {f : Str} : ∀ {fs : List (Str × V)}, noFldN f (fs.map (·.1)) = true → fs.lookup f = none
  | [], _ => rfl
  | (g, v) :: fs, h => by
    unfold noFldN at h
    rw [List.map_cons, List.all_cons, Bool.and_eq_true] at h
    have h1 : ¬g = f := by simpa using h.1
    rw [List.lookup_cons]
    have : (f == g) = false := by simp; exact fun z => h1 z.symm
    rw [this]
    exact nofldN_look h.2
section
variable {K : Fg} {t : TA} {ga : XA} {en : En} {i : Nat}
/-- o.m(..), o an own object in a slot, m changes it -/
theorem s_methW {E : DE} {nm m : Str} {n : Nat} {ns : List Str} {fs : List Fd} {a : Option Addr} {ds : List D} {o' : Ow} {d : D} {f : Addr → Ow → List D → Option (Ow × D)} (hi : en[i]? = some (some (.ow a (.ob nm ns fs)))) (hn : noFldN m ns = true) (h : EvA K t en ds) (hR : RW n f (.ob nm ns fs) ds o' d)
    (k : E.nx (en.set i (some (.ow a o')))) : SD K (tDrop (tMethW K nm m (RW n f) (tVar i) t)) E en := fun A0 Hs A H0 σ I0 Fe fit => by
  obtain ⟨O0, hO0⟩ := I0.own
  obtain ⟨v, hv, p, rfl, ha, ho⟩ := hO0 i _ hi
  have hob := ho
  cases ho with
  | ob m1 m2 hC h1 h2 h3 h4 =>
    rename_i dx C fvs
    refine ⟨_, hv, p, dx, fvs, rfl, by rw [cl_of hC]; exact h1, nofldN_look (by rw [h3]; exact hn), h A0 Hs A H0 σ I0 _ fun vs H g d1 => ?_⟩
    have I := I0.grow g
    have hO := hO0
    have ho : OwOk K (hide A H) H (Mine A0 A O0) [i] p (.ob nm ns fs) := ow_keep g.ex (fun q rh mq => ⟨mq, g.eq q mq.1⟩) hob
    let F : Addr → Bool := fun q => A q && (!A0 q && (O0 q).getLast? == some i)
    let Ao : Addr → Bool := fun q => A q && !F q
    have eA : orA Ao F = A := by
      funext q
      show ((A q && !F q) || F q) = A q
      have : F q = true → A q = true := fun h => by
        have h : (A q && _) = true := h
        rw [Bool.and_eq_true] at h; exact h.1
      cases hA : A q <;> cases hF : F q <;> simp_all
    have fF : ∀ q, F q = true → A q = true ∧ A0 q = false ∧ (O0 q).getLast? = some i := fun q h => by
      have h : (A q && (!A0 q && (O0 q).getLast? == some i)) = true := h
      rw [Bool.and_eq_true, Bool.and_eq_true] at h
      exact ⟨h.1, by simpa using h.2.1, by simpa using h.2.2⟩
    have dj : ∀ q, F q = true → Ao q = false := fun q h => by
      show (A q && !F q) = false
      rw [h]; simp
    refine ⟨Ao, F, fun q => (O0 q).dropLast, p, vs, .ob nm ns fs, ds, o', d, by rw [List.append_nil], dj, by rw [eA]; exact ⟨I.live, I.tabs⟩, ?_, by rw [eA]; exact d1, hR, fun v H' F' On' w1 w2 w3 w4 w5 w6 => ?_⟩
    · rw [eA]
      refine ow_shift (Same.refl _) (fun q rh mq => ⟨⟨?_, ?_⟩, rfl⟩) ho
      · show (A q && (!A0 q && (O0 q).getLast? == some i)) = true
        rw [mq.1, mq.2.1, mq.2.2]
        simp
      · show (O0 q).dropLast = _
        rw [mq.2.2]
        simp
    · rw [eA] at w3
      have aF : ∀ q, A0 q = true → Ao q = true := fun q hq => by
        show (A q && !F q) = true
        have : F q = false := by
          cases e : F q with
          | false => rfl
          | true => rw [(fF q e).2.1] at hq; cases hq
        rw [I.sub q hq, this]; rfl
      have nF' : ∀ q, Ao q = true → F' q = false := fun q hq => by
        cases e : F' q with
        | false => rfl
        | true => rw [(w2 q e).1] at hq; cases hq
      let O' : Addr → List Nat := fun q => if F' q = true then On' q ++ [i] else O0 q
      refine fit.nx (orA Ao F') H' σ _ (I.change2 (s := .ow a o') rfl (fun _ _ => rfl) w3 w4 (fun q hq => ⟨orA_l (aF q hq), w1 q (aF q hq)⟩) O0 O' ?_ (fun q j rh hj mq _ => ?_) fun _ => ⟨_, hv, p, rfl, ha, ?_⟩) k
      · intro j s e
        obtain ⟨v, g1, g2⟩ := hO0 j s e
        exact ⟨v, g1, g2.keep g.ex fun _ q rh mq => ⟨mq, g.eq q mq.1⟩⟩
      · have hnF : F q = false := by
          cases e : F q with
          | false => rfl
          | true =>
            have := (fF q e).2.2
            rw [mq.2.2] at this
            simp at this
            exact (hj this).elim
        have hAo : Ao q = true := by
          show (A q && !F q) = true
          rw [mq.1, hnF]; rfl
        refine ⟨⟨orA_l hAo, mq.2.1, ?_⟩, w1 q hAo⟩
        show (if F' q = true then _ else O0 q) = _
        rw [if_neg (by rw [nF' q hAo]; decide)]
        exact mq.2.2
      · refine ow_shift (Same.refl _) (fun q rh mq => ⟨⟨orA_r mq.1, ?_, ?_⟩, rfl⟩) w5
        · cases e : A0 q with
          | false => rfl
          | true => have := nF' q (aF q e); rw [mq.1] at this; cases this
        · show (if F' q = true then _ else O0 q) = _
          rw [if_pos mq.1]
          have := mq.2
          rw [List.append_nil] at this
          rw [this]
open Classical in
noncomputable def mMethW (nm m : Str) (n : Nat) (f : Addr → Ow → List D → Option (Ow × D)) (i : Nat) (ga : XA) : XS := fun en => match en[i]? with
  | some (some (.ow a (.ob nm' ns fs))) => (match ga en with
    | some ds => (match f 0 (.ob nm' ns fs) ds with
      | some (o', d) => if nm' = nm ∧ noFldN m ns = true ∧ ds.length + 1 = n ∧ (∀ p, f p (.ob nm' ns fs) ds = some (o', d)) then some (.nx (en.set i (some (.ow a o')))) else none
      | none => none)
    | none => none)
  | _ => none
theorem ms_methW {nm m : Str} {n : Nat} {f : Addr → Ow → List D → Option (Ow × D)} (h : MA K t ga) : MS K (tDrop (tMethW K nm m (RW n f) (tVar i) t)) (mMethW nm m n f i ga) := fun en o e => by
  unfold mMethW at e
  split at e
  · rename_i a nm' ns fs hi
    split at e
    · rename_i ds hd
      split at e
      · rename_i o' d h1
        split at e
        · rename_i hc
          obtain ⟨rfl, h2, h3, h4⟩ := hc
          cases e
          exact s_methW hi h2 (h en _ hd) ⟨h3, h4⟩ rfl
        · cases e
      · cases e
    · cases e
  · cases e
theorem x_methW {nm m : Str} {n : Nat} {f : Addr → Ow → List D → Option (Ow × D)} {ns : List Str} {fs : List Fd} {a : Option Addr} {ds : List D} {o' : Ow} {d : D} (hi : en[i]? = some (some (.ow a (.ob nm ns fs)))) (hg : ga en = some ds) (hn : noFldN m ns = true) (hl : ds.length + 1 = n) (hf : ∀ p, f p (.ob nm ns fs) ds = some (o', d)) : mMethW nm m n f i ga en = some (.nx (en.set i (some (.ow a o')))) := by
  unfold mMethW
  rw [hi]
  simp only []
  rw [hg]
  simp only []
  rw [hf 0]
  simp only []
  exact if_pos ⟨rfl, hn, hl, hf⟩
theorem x_appF {nm f : Str} {fe : XE} {ns : List Str} {fs : List Fd} {ds : List D} {d : D} {a : Option Addr} (hi : en[i]? = some (some (.ow a (.ob nm ns fs)))) (hf : fldF f ns fs = some (.ow (.ls ds))) (he : fe en = some d) (hz : ds.length < 16000000) : mAppF nm f i fe en = some (.nx (en.set i (some (.ow a (.ob nm ns (putFd f ns fs (.ow (.ls (ds ++ [d]))))))))) := by
  unfold mAppF
  rw [hi]
  simp only []
  rw [hf]
  simp only []
  rw [he]
  exact if_pos ⟨trivial, hz⟩
theorem x_setFW {nm f : Str} {fw : XW} {ns : List Str} {fs : List Fd} {o : Ow} {a : Option Addr} (hi : en[i]? = some (some (.ow a (.ob nm ns fs)))) (he : fw en = some o) (h : f ∉ ns) (h2 : ns.length < 1000) : mSetFW nm f i fw en = some (.nx (en.set i (some (.ow a (.ob nm (ns ++ [f]) (fs ++ [.ow o])))))) := by
  unfold mSetFW
  rw [hi]
  simp only []
  rw [he]
  exact if_pos ⟨trivial, h, h2⟩
end
end HF

set_option Elab.async false
set_option linter.all false
set_option maxRecDepth 100000
set_option maxHeartbeats 2000000
/-! HF20: reversed(..) of a list, walked. -/
namespace HF
open PySem L2 PySem.Spec PyProof.Rows
section
variable {K : Fg} {t : TA} {g : XA} {en : En} {xs : List D}
theorem ei_rev (h : EvA K t en [.list xs]) : EvI K (iRev K t) en xs.reverse := fun A0 Hs A H σ I R k =>
  h A0 Hs A H σ I _ fun vs0 H1 g1 d1 => by
    cases d1 with
    | cons d1 dn =>
      cases dn
      obtain ⟨a, vs, rfl, hs', hd⟩ := dp_lst d1
      have hs : SqL K (hide A H1) a vs := hs'.sl
      have hl := dpa_len hd
      refine ⟨a, vs, rfl, sl_mono hide_sub hs, k _ H1 g1 ⟨fun A1 H2 i l sm hi => ?_, fun A1 H2 l sm => by rw [List.length_reverse, ← hl]; exact Nat.le_refl _, fun A1 H2 i d x H3 l sm hi y => ?_⟩⟩
      · rw [List.length_reverse] at hi
        have hi' : i < vs.length := by omega
        exact ⟨hi', vs, vs[vs.length - 1 - i], sl_mono hide_sub (sl_mono sm hs), List.getElem?_eq_getElem (by omega)⟩
      · have hlt := (List.getElem?_eq_some_iff.mp hi).1
        rw [List.length_reverse] at hlt
        rw [List.getElem?_reverse hlt] at hi
        obtain ⟨u, hu, hd'⟩ := dpa_get hd hi
        obtain ⟨rfl, hx⟩ := y
        have hx := hx vs (sl_mono hide_sub (sl_mono sm hs))
        rw [show xs.length - 1 - i = vs.length - 1 - i by omega] at hu
        rw [hu] at hx
        cases hx
        exact ⟨Grow.refl _, dp_mono sm hd'⟩
def mRevI (g : XA) : XA := fun en => match g en with
  | some [.list xs] => some xs.reverse
  | _ => none
theorem mi_rev (h : MA K t g) : MI K (iRev K t) (mRevI g) := fun en ds e => by
  unfold mRevI at e
  split at e
  · cases e; exact ei_rev (h en _ (by assumption))
  · cases e
def revIO : Option (List D) → Option (List D)
  | some [.list xs] => some xs.reverse
  | _ => none
theorem x_revI : mRevI g en = revIO (g en) := by unfold mRevI revIO; rfl
theorem x_revI1 : revIO (some [.list xs]) = some xs.reverse := (rfl)
end
end HF

set_option Elab.async false
set_option linter.all false
set_option maxRecDepth 100000
set_option maxHeartbeats 2000000
/-! HF21: what is raised, and caught. -/
namespace HF
open PySem L2 PySem.Spec PyProof.Rows
abbrev XX := En → Option (Exn × En)
/-- an expression that makes an exception -/
def MXk (K : Fg) (tm : L2.St → Hp → XK → Prop) (f : En → Option Exn) : Prop := ∀ en x, f en = some x → ∀ A0 Hs A H σ, EnvOk K A0 Hs A H σ en → ∀ Q : XK, (∀ cls d H', Grow A H H' → ExOk K (hide A H') x cls d → Q cls d H') → tm σ H Q
/-- a statement that ends with an exception -/
def MX (K : Fg) (tb : WX → TS) (f : XX) : Prop := ∀ en x en', f en = some (x, en') → ∀ A0 Hs A H σ, EnvOk K A0 Hs A H σ en → ∀ W : WX, (∀ A' H' σ' cls d, EnvOk K A0 Hs A' H' σ' en' → ExOk K (hide A' H') x cls d → W cls d σ' H') → ∀ F : Ends, tb W F σ H
/-- an expression that ends with an exception -/
def MEX (K : Fg) (te : WX → TE) (f : En → Option Exn) : Prop := ∀ en x, f en = some x → ∀ A0 Hs A H σ, EnvOk K A0 Hs A H σ en → ∀ W : WX, (∀ H' cls d, Grow A H H' → ExOk K (hide A H') x cls d → W cls d σ H') → ∀ Q : VK, te W σ H Q
def tRaise (tm : L2.St → Hp → XK → Prop) (W : WX) : TS := fun _ σ H => tm σ H fun cls d H' => W cls d σ H'
section
variable {K : Fg} {tm : L2.St → Hp → XK → Prop} {t1 t2 : WX → TS} {x1 x2 : XX} {m1 : XS} {te : WX → TE} {fx : En → Option Exn} {tt : TT} {ft : XT}
def xRaise (f : En → Option Exn) : XX := fun en => match f en with
  | some x => some (x, en)
  | none => none
theorem mx_raise (h : MXk K tm fx) : MX K (tRaise tm) (xRaise fx) := fun en x en' e => by
  unfold xRaise at e
  split at e
  · cases e
    exact fun A0 Hs A H σ I W k F => h en x (by assumption) A0 Hs A H σ I _ fun cls d H' g q => k A H' σ cls d (I.grow g) q
  · cases e
theorem ms_raise {W : WX} : MS K (tRaise tm W) mStuck := fun en o e => by cases e
def xNo : XX := fun _ => none
theorem mx_no : MX K t1 xNo := fun en x en' e => by cases e
def xSeq (x1 : XX) (m1 : XS) (x2 : XX) : XX := fun en => match x1 en with
  | some r => some r
  | none => match m1 en with
    | some (.nx e) => x2 e
    | _ => none
theorem mx_seq (h1 : MX K t1 x1) (hm : ∀ W, MS K (t1 W) m1) (h2 : MX K t2 x2) : MX K (fun W => tSeq (t1 W) (t2 W)) (xSeq x1 m1 x2) := fun en x en' e => by
  unfold xSeq at e
  split at e
  · rename_i r hr
    cases e
    exact fun A0 Hs A H σ I W k F => h1 en x en' hr A0 Hs A H σ I W k _
  · split at e
    · rename_i e1 he
      refine fun A0 Hs A H σ I W k F => hm W en _ he A0 Hs A H σ I _ ⟨fun A1 H1 σ1 en1 I1 q => ?_, fun _ _ _ _ _ _ _ _ q => False.elim q, fun _ _ _ _ _ q => False.elim q, fun _ _ _ _ _ q => False.elim q⟩
      have q : en1 = e1 := q
      subst q
      exact h2 en1 x en' e A0 Hs A1 H1 σ1 I1 W k F
    · cases e
def xIf (ft : XT) (x1 x2 : XX) : XX := fun en => match ft en with
  | some true => x1 en
  | some false => x2 en
  | none => none
theorem mx_if (ht : MT K tt ft) (h1 : MX K t1 x1) (h2 : MX K t2 x2) : MX K (fun W => tIfS tt (t1 W) (t2 W)) (xIf ft x1 x2) := fun en x en' e => by
  unfold xIf at e
  split at e
  · rename_i h
    exact fun A0 Hs A H σ I W k F => ht en _ h A0 Hs A H σ I _ fun H1 g1 => by
      rw [if_pos rfl]
      exact h1 en x en' e A0 Hs A H1 σ (I.grow g1) W k F
  · rename_i h
    exact fun A0 Hs A H σ I W k F => ht en _ h A0 Hs A H σ I _ fun H1 g1 => by
      rw [if_neg (by decide)]
      exact h2 en x en' e A0 Hs A H1 σ (I.grow g1) W k F
  · cases e
theorem mx_exp {tb : WX → TS} (h : MEX K te fx) (hd : ∀ W F σ H, tb W F σ H = te W σ H (fun v H1 => F.nx σ H1) ∨ ∃ Q : VK, tb W F σ H = te W σ H Q) : MX K tb (xRaise fx) := fun en x en' e => by
  unfold xRaise at e
  split at e
  · cases e
    refine fun A0 Hs A H σ I W k F => ?_
    have q : ∀ Q : VK, te W σ H Q := fun Q => h en x (by assumption) A0 Hs A H σ I W (fun H' cls d g q => k A H' σ cls d (I.grow g) q) Q
    rcases hd W F σ H with z | ⟨Q, z⟩
    · rw [z]; exact q _
    · rw [z]; exact q _
  · cases e
theorem mx_asg {g : TG} (h : MEX K te fx) : MX K (fun W => tAsg (te W) g) (xRaise fx) := mx_exp h fun W F σ H => .inr ⟨_, rfl⟩
theorem mx_drop (h : MEX K te fx) : MX K (fun W => tDrop (te W)) (xRaise fx) := mx_exp h fun W F σ H => .inr ⟨_, rfl⟩
theorem mx_ret (h : MEX K te fx) : MX K (fun W => tRet (te W)) (xRaise fx) := mx_exp h fun W F σ H => .inr ⟨_, rfl⟩
theorem mx_wipe {vs : List Nat} (h : MX K t1 x1) : MX K t1 x1 := h
end
/-! ### defs that raise -/
def spE (K : Fg) (R : List D → D → Prop) (RX : List D → Exn → Prop) : Sp := fun vs H Q E => ∃ A ds, (Live A H ∧ Tabs K (hide A H)) ∧ DqAll K (hide A H) vs ds ∧
  ((∃ d, R ds d ∧ ∀ v H', Grow A H H' → Dq K (hide A H') v d → Q v H') ∨ (∃ x, RX ds x ∧ ∀ cls d H', Grow A H H' → ExOk K (hide A H') x cls d → E cls d H'))
def RXM (n : Nat) (m : List D → Option Exn) : List D → Exn → Prop := fun ds x => ds.length = n ∧ m ds = some x
def runX (N : List Str) (b : XX) (ds : List D) : Option Exn := (b (startE N ds)).map (·.1)
section
variable {K : Fg} {P : Program} {w : World} {mg : Str → Option Value} {base : Heap}
theorem fnX {x qual : Str} {st : Stmt} {f : Addr} {fd : FuncData} {N ps : List Str} {k n : Nat} {b : XS} {xb : XX} {tb : WX → TS} (F : Fun K x qual st f fd) (S : FnScope N ps (defScope st)) (len : n = ps.length)
    (hbody : ∀ (cdv : Value) (A : Around) (outer : List Env) (s : Shared) (H : Hp) (E : XK) (W : WX), Room k (A.deeper (envOfC qual (defScope st) s.heap.objs.size f cdv)) →
      Takes (cxOf (L2.CX P w) P w K mg base N qual (defScope st) f cdv A outer s H E) W → PSs (cxOf (L2.CX P w) P w K mg base N qual (defScope st) f cdv A outer s H E) (defBody st) (tb W))
    (hm : ∀ W, MS K (tb W) b) (hx : MX K tb xb) : FnOk P w K mg base (L2.CX P w) (k + 1) f fd ps (spE K (RM n (runM N b)) (RXM n (runX N xb))) :=
  F.okX S (fun vs H Q E h => by
    obtain ⟨A, ds, _, hd, h⟩ := h
    rw [dpa_len hd]
    rcases h with ⟨d, h, _⟩ | ⟨x, h, _⟩
    · exact h.1.trans len
    · exact h.1.trans len) fun cdv A outer s H vs Q E hr h => by
    obtain ⟨A1, ds, l, hd, h⟩ := h
    refine ⟨tb (fun cls d _ H' => E cls d H'), hbody cdv A outer s H E _ hr (takes_of rfl rfl rfl rfl), ?_⟩
    have out : ∀ {A' : Addr → Bool} {H' : Hp} {σ' : L2.St} {en' : En}, EnvOk K A1 H A' H' σ' en' → Grow A1 H H' ∧ Same (hide A' H') (hide A1 H') := fun {A' H' σ' en'} I => by
      have sm : Same (hide A' H') (hide A1 H') := same_of fun a o e => by
        obtain ⟨h1, h2⟩ := hide_some e
        have : A1 a = false := by
          cases q : A1 a with
          | false => rfl
          | true => rw [I.sub a q] at h1; cases h1
        rw [hide_out this]; exact h2
      exact ⟨⟨I.base.same.trans sm, I.keep⟩, sm⟩
    rcases h with ⟨d, hR, k⟩ | ⟨x, hR, k⟩
    · refine run_ok (hm _) hR A1 H A1 H _ (start_ok N l hd) _ ⟨fun A' H' σ' en' I e => ?_, fun A' H' σ' en' v d' I dv e => ?_, fun A' H' σ' en' I e => False.elim e, fun A' H' σ' en' I e => False.elim e⟩
      · obtain ⟨g, _⟩ := out I
        have e : d = .none := e
        rw [e] at k
        exact k _ H' g .non
      · obtain ⟨g, sm⟩ := out I
        have e : d' = d := e
        rw [e] at dv
        exact k v H' g (dp_mono sm dv)
    · obtain ⟨hn, hR⟩ := hR
      unfold runX at hR
      obtain ⟨⟨x', en'⟩, h1, h2⟩ := Option.map_eq_some_iff.mp hR
      cases h2
      exact hx _ _ _ h1 A1 H A1 H _ (start_ok N l hd) _ (fun A' H' σ' cls d I q => by
        obtain ⟨g, sm⟩ := out I
        exact k cls d H' g (ex_mono sm q)) _
/-- a def that may raise, ready to be called by its name -/
structure CalX (P : Program) (w : World) (K : Fg) (mg : Str → Option Value) (base : Heap) (x : Str) (k : Nat) (R : List D → D → Prop) (RX : List D → Exn → Prop) : Prop where
  ex : ∃ (f : Addr) (fd : FuncData) (ps : List Str), FnOk P w K mg base (L2.CX P w) k f fd ps (spE K R RX) ∧ mg x = some (.ref f) ∧ PySem.W.keepIn K (.ref f) = true ∧ Binds K fd ps []
/-- where it doesn't raise it is as any -/
theorem fn_calm {k : Nat} {f : Addr} {fd : FuncData} {ps : List Str} {sp sp' : Sp} (F : FnOk P w K mg base (L2.CX P w) k f fd ps sp) (h : ∀ vs H Q E, sp' vs H Q E → sp vs H Q C8.E0) : FnOk P w K mg base CX0 k f fd ps sp' :=
  ⟨fun vs H Q E q => F.len vs H Q _ (h vs H Q E q), fun A outer s H args us vs Q E hr e0 hb r hs => codeAny_mono (F.run A outer s H args us vs Q C8.E0 hr e0 hb r (h vs H Q E hs)) fun r s' q => by
    cases r with
    | error e =>
      obtain ⟨_, _, _, _, _, _, _, _, _, _, _, _, z⟩ := q
      exact z.elim
    | ok fl => cases fl <;> exact q⟩
theorem CalX.cal {x : Str} {k : Nat} {R : List D → D → Prop} {RX : List D → Exn → Prop} (c : CalX P w K mg base x k R RX) : Cal P w K mg base x k R := by
  obtain ⟨f, fd, ps, F, q⟩ := c.ex
  refine ⟨f, fd, ps, fn_calm F fun vs H Q E h => ?_, q⟩
  obtain ⟨A, ds, d, l, hd, hR, k⟩ := h
  exact ⟨A, ds, l, hd, .inl ⟨d, hR, k⟩⟩
def tFnX (K : Fg) (R : List D → D → Prop) (RX : List D → Exn → Prop) (t : TA) (W : WX) : TE := tCallS (spE K R RX) (WE W) t
end
section
variable {X : Cx}
theorem pe_funX {x : Str} {j k : Nat} {R : List D → D → Prop} {RX : List D → Exn → Prop} {p pos : Pos} {e : Expr} {es : List Expr} {t : TA} {T : Addr → Prop} {Gv : Str → V} {W : WX} (c : CalX X.prog X.w ⟨X.K, T, Gv, X.w⟩ X.mg X.base x j R RX) (hr : Room k X.A) (tk : Takes X W) (hg : Gl X x) (ha : PA X (e :: es) t) (hj : j ≤ k := by decide)
    (hdb : (x == ("__debug__" : Str)) = false := by decide) (he : starEach (e :: es) X.env = (false, eval e X.env) :: starEach es X.env := by rfl) (hpl : (backTo pos (starEach es X.env)).any (·.1) = false := by rfl) : PE X (.Call (.Name x p) (e :: es) [] pos) (tFnX ⟨X.K, T, Gv, X.w⟩ R RX t W) := by
  obtain ⟨f, fd, ps, F, hm, hk, hb⟩ := c.ex
  exact pe_callS F (hr.mono hj) hg hm hk hb (fun σ => passAt tk σ) ha hdb he hpl
end
section
variable {K : Fg} {t : TA} {g : XA} {n : Nat} {m : List D → Option D} {xm : List D → Option Exn} {RX : List D → Exn → Prop} {R : List D → D → Prop}
theorem me_fnX {W : WX} (h : MA K t g) : ME K (tFnX K (RM n m) RX t W) (mFn n m g) := fun en d e => by
  unfold mFn at e
  split at e
  · rename_i ds hg
    split at e
    · rename_i hl
      exact fun A0 Hs A H σ I Q k => h en _ hg A0 Hs A H σ I _ fun vs H1 g1 d1 => ⟨A, ds, ⟨g1.live I.live, I.tabs.same g1.ex⟩, d1, .inl ⟨d, ⟨hl, e⟩, fun v H2 g2 d2 => k v H2 (g1.trans g2) d2⟩⟩
    · cases e
  · cases e
def xFn (n : Nat) (xm : List D → Option Exn) (g : XA) : En → Option Exn := fun en => match g en with
  | some ds => if ds.length = n then xm ds else none
  | none => none
theorem mex_fn (h : MA K t g) : MEX K (tFnX K R (RXM n xm) t) (xFn n xm g) := fun en x e => by
  unfold xFn at e
  split at e
  · rename_i ds hg
    split at e
    · rename_i hl
      exact fun A0 Hs A H σ I W k Q => h en _ hg A0 Hs A H σ I _ fun vs H1 g1 d1 => ⟨A, ds, ⟨g1.live I.live, I.tabs.same g1.ex⟩, d1, .inr ⟨x, ⟨hl, e⟩, fun cls d H2 g2 q => k H2 cls d (g1.trans g2) q⟩⟩
    · cases e
  · cases e
end
end HF

set_option Elab.async false
set_option linter.all false
set_option maxRecDepth 100000
set_option maxHeartbeats 2000000
/-! HF22: exceptions with a field; objects whose making raises. -/
namespace HF
open PySem L2 PySem.Spec PyProof.Rows
/-- __init__(self, f): self.f = f -/
def spX1 (K : Fg) (f : Str) : Sp := fun vs H Q _ => ∃ (a C : Addr) (v : V), vs = [.ref a, v] ∧ OexC K C ∧ PySem.W.findIn K (.ref C) f = some none ∧ H a = some (exo a C none) ∧
  ∀ dx, H dx = none → dx ≠ a → Q .non (upd (upd H dx (exd dx [(f, v)])) a (exo a C (some dx)))
section
variable {K : Fg} {P : Program} {w : World} {mg : Str → Option Value} {base : Heap}
theorem fnX1 {qual fld : Str} {st : Stmt} {f : Addr} {fd : FuncData} {ps : List Str} (F : Fun K "__init__" qual st f fd) (S : FnScope ps ps (defScope st)) (hl : ps.length = 2)
    (hbody : ∀ (cdv : Value) (A : Around) (outer : List Env) (s : Shared) (H : Hp) (E : XK),
      PSs (cxOf CX0 P w K mg base ps qual (defScope st) f cdv A outer s H E).nox (defBody st) (tOst K fld (tVar 0) (tVar 1))) : FnOk P w K mg base CX0 1 f fd ps (spX1 K fld) :=
  F.ok S (fun vs H Q E h => by
    obtain ⟨a, C, v, rfl, _⟩ := h
    exact hl.symm) fun cdv A outer s H vs Q E hr h => by
    obtain ⟨a, C, v, rfl, T, hno, ha, k⟩ := h
    refine ⟨_, hbody cdv A outer s H E, ?_⟩
    refine ⟨v, rfl, .ref a, rfl, a, C, rfl, T, hno, .inl ⟨ha, fun dx n ne => k dx n ne⟩⟩
/-- an exception class with one field, ready to be made -/
structure CalE (P : Program) (w : World) (K : Fg) (mg : Str → Option Value) (base : Heap) (nm fld : Str) : Prop where
  ex : ∃ (f C : Addr) (fd : FuncData) (ps : List Str), K.Gv nm = .ref C ∧ FnOk P w K mg base CX0 1 f fd ps (spX1 K fld) ∧ mg nm = some (.ref C) ∧ OexC K C ∧ PySem.W.findIn K (.ref C) fld = some none ∧
    PySem.W.findIn K (.ref C) "__init__" = some (some (.ref f)) ∧ PySem.W.typeIn K (.ref f) = some (.type "function") ∧ Binds K fd ps []
def tMkX (K : Fg) (nm fld : Str) (t : TA) : L2.St → Hp → XK → Prop := tMkO (K.cl nm) (spX1 K fld) [] t
end
section
variable {X : Cx}
theorem pmk_e1 {nm fld : Str} {k : Nat} {p pos : Pos} {e : Expr} {es : List Expr} {t : TA} {T : Addr → Prop} {Gv : Str → V} (c : CalE X.prog X.w ⟨X.K, T, Gv, X.w⟩ X.mg X.base nm fld) (hr : Room k X.A) (hg : Gl X nm) (ha : PA X (e :: es) t) (hk : 2 ≤ k := by decide)
    (hdb : (nm == ("__debug__" : Str)) = false := by decide) (he : starEach (e :: es) X.env = (false, eval e X.env) :: starEach es X.env := by rfl) (hpl : (backTo pos (starEach es X.env)).any (·.1) = false := by rfl) : PMk X (.Call (.Name nm p) (e :: es) [] pos) (tMkX ⟨X.K, T, Gv, X.w⟩ nm fld t) := by
  obtain ⟨f, C, fd, ps, hC, F, hm, T1, hno, iC, tI, hb⟩ := c.ex
  have := pmk_oex (p := p) (pos := pos) T1 iC tI F (hr.mono hk) hb .nil pass0 hg hm ha hdb he hpl
  unfold tMkX
  rw [cl_of hC]
  exact this
end
section
variable {K : Fg} {t : TA} {g : XA}
def mMkX (nm fld : Str) (g : XA) : En → Option Exn := fun en => match g en with
  | some [d] => some ⟨nm, [(fld, d)]⟩
  | _ => none
/-- what is known of the class -/
structure ExcD (K : Fg) (nm fld : Str) : Prop where
  ex : ∃ C, K.Gv nm = .ref C ∧ OexC K C ∧ PySem.W.findIn K (.ref C) fld = some none ∧ XfC K C ∧ PySem.W.exmOne K (.ref C) (.ref C) = some true
theorem mk_e1 {nm fld : Str} (c : ExcD K nm fld) (h : MA K t g) : MXk K (tMkX K nm fld t) (mMkX nm fld g) := fun en x e => by
  unfold mMkX at e
  split at e
  · rename_i d hg
    cases e
    obtain ⟨C, hC, T, hno, _⟩ := c.ex
    refine fun A0 Hs A H σ I Q k => h en _ hg A0 Hs A H σ I _ fun vs H1 g1 d1 => ?_
    cases d1 with
    | cons dv dn =>
      rename_i v vs
      cases dn
      have I1 := I.grow g1
      refine ⟨(by show 1 ≤ 1000; decide), fun a ha => ⟨a, K.cl nm, v, rfl, by rw [cl_of hC]; exact T, by rw [cl_of hC]; exact hno, upd_same, fun dx n ne => ⟨rfl, dx, [(fld, v)], ?_, ?_, ?_, ?_⟩⟩⟩
      · exact upd_same
      · rw [upd_ne ne]; exact upd_same
      · rw [upd_ne ne] at n; exact n
      · have n1 : H1 dx = none := by rw [upd_ne ne] at n; exact n
        have eH : upd (del (upd (upd (upd H1 a (exo a (K.cl nm) none)) dx (exd dx [(fld, v)])) a (exo a (K.cl nm) (some dx))) a) dx (.xd [(fld, v)]) = upd H1 dx (.xd [(fld, v)]) := by
          funext b
          by_cases hb : b = dx
          · subst hb; rw [upd_same, upd_same]
          · rw [upd_ne hb, upd_ne hb]
            by_cases hba : b = a
            · subst hba; rw [del_same, ha]
            · rw [del_ne hba, upd_ne hba, upd_ne hb, upd_ne hba]
        rw [eH]
        have gn := Grow.new (o := .xd [(fld, v)]) I1.live n1
        refine k _ _ _ (g1.trans gn) ⟨C, hC, by rw [cl_of hC], .inr ⟨dx, [(fld, v)], [d], rfl, hide_new I1.live n1, .cons (dp_mono gn.ex dv) .nil, rfl⟩⟩
  · cases e
end
/-! ### objects whose making may raise -/
def spWE (K : Fg) (R : Ow → List D → Ow → D → Prop) (RX : Ow → List D → Exn → Prop) : Sp := fun vs H Q E => ∃ A F On p ws o ds, vs = .ref p :: ws ∧ (∀ q, F q = true → A q = false) ∧ (Live (orA A F) H ∧ Tabs K (hide (orA A F) H)) ∧ OwOk K (hide (orA A F) H) H (Tre F On) [] p o ∧ DqAll K (hide (orA A F) H) ws ds ∧
  ((∃ o' d, R o ds o' d ∧ ∀ v H' F' On', (∀ q, A q = true → H' q = H q) → (∀ q, F' q = true → A q = false ∧ (F q = true ∨ H q = none)) → Same (hide (orA A F) H) (hide (orA A F') H') → Live (orA A F') H' → OwOk K (hide (orA A F') H') H' (Tre F' On') [] p o' → Dq K (hide (orA A F') H') v d → Q v H') ∨
   (∃ x, RX o ds x ∧ ∀ cls d H', (∀ q, A q = true → H' q = H q) → Same (hide (orA A F) H) (hide A H') → ExOk K (hide A H') x cls d → E cls d H'))
def RWX (n : Nat) (m : Addr → Ow → List D → Option Exn) : Ow → List D → Exn → Prop := fun o ds x => ds.length + 1 = n ∧ ∀ p, m p o ds = some x
def runWX (N : List Str) (b : XX) (p : Addr) (o : Ow) (ds : List D) : Option Exn := (b (startW N p o ds)).map (·.1)
section
variable {K : Fg} {P : Program} {w : World} {mg : Str → Option Value} {base : Heap}
theorem fnWX {x qual : Str} {st : Stmt} {f : Addr} {fd : FuncData} {N ps : List Str} {k n : Nat} {b : XS} {xb : XX} {tb : WX → TS} (F : Fun K x qual st f fd) (S : FnScope N ps (defScope st)) (len : n = ps.length)
    (hbody : ∀ (cdv : Value) (A : Around) (outer : List Env) (s : Shared) (H : Hp) (E : XK) (W : WX), Room k (A.deeper (envOfC qual (defScope st) s.heap.objs.size f cdv)) →
      Takes (cxOf (L2.CX P w) P w K mg base N qual (defScope st) f cdv A outer s H E) W → PSs (cxOf (L2.CX P w) P w K mg base N qual (defScope st) f cdv A outer s H E) (defBody st) (tb W))
    (hm : ∀ W, MS K (tb W) b) (hx : MX K tb xb) : FnOk P w K mg base (L2.CX P w) (k + 1) f fd ps (spWE K (RW n (runW N b)) (RWX n (runWX N xb))) :=
  F.okX S (fun vs H Q E h => by
    obtain ⟨A, F, On, p, ws, o, ds, rfl, _, _, _, hd, h⟩ := h
    rw [List.length_cons, dpa_len hd]
    rcases h with ⟨o', d, h, _⟩ | ⟨x, h, _⟩
    · exact h.1.trans len
    · exact h.1.trans len) fun cdv A outer s H vs Q E hr h => by
    obtain ⟨A1, F, On, p, ws, o, ds, rfl, dj, l, ho, hd, h⟩ := h
    refine ⟨tb (fun cls d _ H' => E cls d H'), hbody cdv A outer s H E _ hr (takes_of rfl rfl rfl rfl), ?_⟩
    rcases h with ⟨o', d, ⟨hn, hR⟩, k⟩ | ⟨x, ⟨hn, hR⟩, k⟩
    · have hR := hR p
      unfold runW at hR
      split at hR
      · rename_i e he
        split at hR
        · rename_i p' o2 h0
          split at hR
          · rename_i hp
            subst hp
            cases hR
            refine hm _ _ _ he A1 _ _ H _ (startW_ok N l dj ho hd) _ ?_
            refine ⟨fun A' H' σ' en' I q => ?_, fun A' H' σ' en' v d' I dv e => False.elim e, fun A' H' σ' en' I e => False.elim e, fun A' H' σ' en' I e => False.elim e⟩
            have q : en' = e := q
            subst q
            obtain ⟨F', On', w1, w2, w3, w4, w5, _⟩ := endW I h0
            exact k _ H' F' On' w1 w2 w3 w4 w5 .non
          · cases hR
        · cases hR
      · cases hR
    · have hR := hR p
      unfold runWX at hR
      obtain ⟨⟨x', en'⟩, h1, h2⟩ := Option.map_eq_some_iff.mp hR
      cases h2
      refine hx _ _ _ h1 A1 _ _ H _ (startW_ok N l dj ho hd) _ (fun A' H' σ' cls d I q => ?_) _
      have sm2 : Same (hide A' H') (hide A1 H') := same_of fun a o e => by
        obtain ⟨h1, h2⟩ := hide_some e
        have : A1 a = false := by
          cases q : A1 a with
          | false => rfl
          | true => rw [I.sub a q] at h1; cases h1
        rw [hide_out this]; exact h2
      have sm0 : Same (hide (orA A1 F) H) (hide A' H') := I.base.same.via (fun a n => by
        have h1 := (hide_th n).1
        have h0 : A1 a = false := (orA_no h1).1
        rw [hide_out h0]
        unfold reb
        rw [if_neg (by rw [h0]; decide)]) fun _ _ _ => rfl
      refine k cls d H' (fun q hq => ?_) (sm0.trans sm2) (ex_mono sm2 q)
      rw [I.keep q hq]
      unfold reb; rw [if_pos hq]
/-- a class whose making may raise -/
structure CalIX (P : Program) (w : World) (K : Fg) (mg : Str → Option Value) (base : Heap) (nm : Str) (k : Nat) (R : Ow → List D → Ow → D → Prop) (RX : Ow → List D → Exn → Prop) : Prop where
  ex : ∃ (f C : Addr) (fd : FuncData) (ps : List Str), K.Gv nm = .ref C ∧ FnOk P w K mg base (L2.CX P w) k f fd ps (spWE K R RX) ∧ mg nm = some (.ref C) ∧ Mk K C f ∧ Binds K fd ps []
theorem CalIX.cal {nm : Str} {k : Nat} {R : Ow → List D → Ow → D → Prop} {RX : Ow → List D → Exn → Prop} (c : CalIX P w K mg base nm k R RX) : CalI P w K mg base nm k R := by
  obtain ⟨f, C, fd, ps, hC, F, q⟩ := c.ex
  refine ⟨f, C, fd, ps, hC, fn_calm F fun vs H Q E h => ?_, q⟩
  obtain ⟨A, F, On, p, ws, o, ds, o', d, e, dj, l, ho, hd, hR, k⟩ := h
  exact ⟨A, F, On, p, ws, o, ds, e, dj, l, ho, hd, .inl ⟨o', d, hR, k⟩⟩
def tMakeS (C : Addr) (sp : Sp) (E : L2.St → XK) (t : TA) : TE := fun σ H Q => t σ H fun vs H1 => ∀ x dx, H1 x = none → H1 dx = none → dx ≠ x →
  sp (.ref x :: vs) (upd (upd H1 dx (.own x)) x (.ins C dx [])) (fun v H2 => v = .non ∧ Q (.ref x) H2) (E σ)
def tMakeX (K : Fg) (nm : Str) (R : Ow → List D → Ow → D → Prop) (RX : Ow → List D → Exn → Prop) (t : TA) (W : WX) : TE := tMakeS (K.cl nm) (spWE K R RX) (WE W) t
end
section
variable {X : Cx} {CX : CXT} {k : Nat} {f C : Addr} {fd : FuncData} {ps : List Str} {sp : Sp} {E : L2.St → XK} {x : Str} {p pos : Pos} {e : Expr} {es : List Expr} {t : TA}
theorem run_makeS {pins : List (Addr × Obj)} {σ : L2.St} {H : Hp} {s : Shared} {Q : VK} {us : List Value} {vs : List V} (M : Mk X.K C f) (F : FnOk X.prog X.w X.K X.mg X.base CX k f fd ps sp) (hr : Room (k + 1) X.A) (hb : Binds X.K fd ps [])
    (hx : PassesAt CX X σ (E σ)) (I : Inv X pins σ H s) (r : Vals vs us)
    (h : ∀ x dx, H x = none → H dx = none → dx ≠ x → sp (.ref x :: vs) (upd (upd H dx (.own x)) x (.ins C dx [])) (fun v H2 => v = .non ∧ Q (.ref x) H2) (E σ)) :
    wpAny (model X.prog X.w) X.A (call (.ref C) us) (EP X pins σ Q) X.xe s := by
  have hq := h (s.heap.objs.size + 1) s.heap.objs.size (I.hok.fresh (Nat.le_succ _)) (I.hok.fresh (Nat.le_refl _)) (Nat.ne_of_lt (Nat.lt_succ_self _))
  have I2 := Inv.made (C := C) I
  have r2 : Vals (V.ref (s.heap.objs.size + 1) :: vs) (Value.ref (s.heap.objs.size + 1) :: us) := .cons rfl r
  have hl : (Value.ref (s.heap.objs.size + 1) :: us ++ []).length = ps.length := by
    have e := r2.length
    rw [F.len _ _ _ _ hq] at e
    rw [List.append_nil]
    exact e.symm
  have b := hb _ (Value.ref (s.heap.objs.size + 1) :: us) I2.kIn hl
  rw [List.append_nil] at b
  refine wpAny_call (make_map (f := f) I.kIn M.makes M.init (beq_iff_eq.mp M.fn) (codeAny_mono (F.run _ X.stack _ _ ⟨Value.ref (s.heap.objs.size + 1) :: us, []⟩ (Value.ref (s.heap.objs.size + 1) :: us) _ _ (E σ) (hr.make C us [])
    (I2.env0.make C us []) b r2 hq) fun r s' hq' => ?_))
  cases r with
  | error e => exact hx pins _ _ e s' I2 hq'
  | ok fl =>
    cases fl with
    | ret u =>
      obtain ⟨v, H', I3, rv, ev, q3⟩ := I2.after hq'
      subst ev
      exact ⟨rv, ⟨V.ref (s.heap.objs.size + 1), H', I3, rfl, q3⟩⟩
    | next => exact False.elim hq'
    | brk => exact False.elim hq'
    | cont => exact False.elim hq'
theorem pe_makeS (M : Mk X.K C f) (F : FnOk X.prog X.w X.K X.mg X.base CX k f fd ps sp) (hr : Room (k + 1) X.A) (hg : Gl X x) (hm : X.mg x = some (.ref C)) (hb : Binds X.K fd ps []) (hx : ∀ σ, PassesAt CX X σ (E σ))
    (ha : PA X (e :: es) t) (hdb : (x == ("__debug__" : Str)) = false := by decide) (he : starEach (e :: es) X.env = (false, eval e X.env) :: starEach es X.env := by rfl) (hpl : (backTo pos (starEach es X.env)).any (·.1) = false := by rfl) :
    PE X (.Call (.Name x p) (e :: es) [] pos) (tMakeS C sp E t) := by
  refine ⟨fun pins s σ H Q I h => ?_⟩
  refine wpAny_Call_Name_kw (ld_glob I hg hm ?_ hdb)
  refine PySem.W.callWith_K (h₀ := X.base) I.ok.mod.kin M.kp (thn (ha.run pos pins s σ H _ I h) fun us s1 ⟨vs, H1, I1, r, q⟩ => ⟨I1.kIn, ?_⟩) he hpl
  exact run_makeS M F hr hb (hx σ) I1 r q
theorem pe_makeX {nm : Str} {j k : Nat} {R : Ow → List D → Ow → D → Prop} {RX : Ow → List D → Exn → Prop} {T : Addr → Prop} {Gv : Str → V} {W : WX} (c : CalIX X.prog X.w ⟨X.K, T, Gv, X.w⟩ X.mg X.base nm j R RX) (hr : Room k X.A) (tk : Takes X W) (hg : Gl X nm) (ha : PA X (e :: es) t) (hj : j + 1 ≤ k := by decide)
    (hdb : (nm == ("__debug__" : Str)) = false := by decide) (he : starEach (e :: es) X.env = (false, eval e X.env) :: starEach es X.env := by rfl) (hpl : (backTo pos (starEach es X.env)).any (·.1) = false := by rfl) : PE X (.Call (.Name nm p) (e :: es) [] pos) (tMakeX ⟨X.K, T, Gv, X.w⟩ nm R RX t W) := by
  obtain ⟨f, C, fd, ps, hC, F, hm, M, hb⟩ := c.ex
  have := pe_makeS (p := p) (pos := pos) M F (hr.mono hj) hg hm hb (fun σ => passAt tk σ) ha hdb he hpl
  unfold tMakeX
  rw [cl_of hC]
  exact this
end
section
variable {K : Fg} {t : TA} {ga : XA}
theorem make_room {A0 A : Addr → Bool} {Hs H1 : Hp} {σ : L2.St} {en : En} {x dx : Addr} {nm : Str} (I1 : EnvOk K A0 Hs A H1 σ en) (c : ∃ C, K.Gv nm = .ref C) (nx : H1 x = none) (ndx : H1 dx = none) (nex : dx ≠ x) :
    ∃ (F : Addr → Bool) (On : Addr → List Nat), (∀ q, F q = true → A q = false) ∧ (∀ q, F q = true → H1 q = none) ∧ Live (orA A F) (upd (upd H1 dx (.own x)) x (.ins (K.cl nm) dx [])) ∧ Same (hide A H1) (hide (orA A F) (upd (upd H1 dx (.own x)) x (.ins (K.cl nm) dx []))) ∧
      OwOk K (hide (orA A F) (upd (upd H1 dx (.own x)) x (.ins (K.cl nm) dx []))) (upd (upd H1 dx (.own x)) x (.ins (K.cl nm) dx [])) (Tre F On) [] x (.ob nm [] []) ∧ (∀ q, A q = true → (upd (upd H1 dx (.own x)) x (.ins (K.cl nm) dx [])) q = H1 q) ∧ (∀ q, (upd (upd H1 dx (.own x)) x (.ins (K.cl nm) dx [])) q = none → H1 q = none) := by
  obtain ⟨C, hC⟩ := c
  have Ax : A x = false := I1.live.out nx
  have Adx : A dx = false := I1.live.out ndx
  let F : Addr → Bool := fun q => q == x || q == dx
  have fF : ∀ q, F q = true → q = x ∨ q = dx := fun q hq => by
    have hq : (q == x || q == dx) = true := hq
    simpa using hq
  have dj : ∀ q, F q = true → A q = false := fun q hq => by
    rcases fF q hq with rfl | rfl
    · exact Ax
    · exact Adx
  let H2 := upd (upd H1 dx (.own x)) x (.ins (K.cl nm) dx [])
  have e1 : H2 x = some (.ins (K.cl nm) dx []) := upd_same
  have e2 : H2 dx = some (.own x) := (upd_ne nex).trans upd_same
  have nq : ∀ q, q ≠ x → q ≠ dx → H2 q = H1 q := fun q h1 h2 => (upd_ne h1).trans (upd_ne h2)
  have sm : Same (hide A H1) (hide (orA A F) H2) := same_of fun a u e => by
    obtain ⟨q1, q2⟩ := hide_some e
    have n1 : a ≠ x := ne_of_none q2 nx
    have n2 : a ≠ dx := ne_of_none q2 ndx
    have : orA A F a = false := by
      show (A a || (a == x || a == dx)) = false
      simp [q1, n1, n2]
    rw [hide_out this, nq a n1 n2]; exact q2
  refine ⟨F, fun q => if q = x then [] else [0], dj, fun q hq => ?_, fun q hq => ?_, sm, ?_, fun q hq => ?_, fun q hn => ?_⟩
  · rcases fF q hq with rfl | rfl
    · exact nx
    · exact ndx
  · rcases orA_or hq with hq | hq
    · have n1 : q ≠ x := fun z => by rw [z, Ax] at hq; cases hq
      have n2 : q ≠ dx := fun z => by rw [z, Adx] at hq; cases hq
      show H2 q ≠ none
      rw [nq q n1 n2]; exact I1.live q hq
    · show H2 q ≠ none
      rcases fF q hq with rfl | rfl
      · rw [e1]; exact fun z => by cases z
      · rw [e2]; exact fun z => by cases z
  · exact .ob (dx := dx) (C := K.cl nm) (fvs := []) ⟨by show (x == x || _) = true; simp, by simp⟩ ⟨by show (_ || dx == dx) = true; simp, by simp [nex]⟩ (by rw [cl_of hC]; exact hC) e1 e2 rfl .nil
  · have n1 : q ≠ x := fun z => by rw [z, Ax] at hq; cases hq
    have n2 : q ≠ dx := fun z => by rw [z, Adx] at hq; cases hq
    exact nq q n1 n2
  · have n1 : q ≠ x := fun z => by rw [z] at hn; cases e1.symm.trans hn
    have n2 : q ≠ dx := fun z => by rw [z] at hn; cases e2.symm.trans hn
    exact (nq q n1 n2).symm.trans hn
theorem mw_makeX {nm : Str} {n : Nat} {m : Addr → Ow → List D → Option (Ow × D)} {RX : Ow → List D → Exn → Prop} {W : WX} (c : ∃ C, K.Gv nm = .ref C) (h : MA K t ga) : MW K (tMakeX K nm (RW n m) RX t W) (mMake nm n m ga) := fun en o e => by
  unfold mMake at e
  split at e
  · rename_i ds h1
    split at e
    · rename_i hl
      unfold makeM at e
      split at e
      · rename_i o' h2
        split at e
        · rename_i hp
          cases e
          refine fun A0 Hs A H σ I Q k => h en _ h1 A0 Hs A H σ I _ fun vs H1 g1 d1 x dx nx ndx nex => ?_
          have I1 := I.grow g1
          obtain ⟨F, On, dj, fn, lv, sm, ow, ka, kn⟩ := make_room I1 c nx ndx nex
          refine ⟨A, F, On, x, vs, .ob nm [] [], ds, rfl, dj, ⟨lv, I1.tabs.same sm⟩, ow, dpa_mono sm d1, .inl ⟨o, .none, ⟨hl, hp⟩, fun v H' F' On' w1 w2 w3 w4 w5 w6 => ?_⟩⟩
          refine ⟨dp_non w6, k x H' F' On' (fun q hq => ⟨?_, w4 q (orA_r hq)⟩) ⟨?_, fun q hq => ?_⟩ w5⟩
          · rcases (w2 q hq).2 with hF | hn
            · exact g1.same.none (fn q hF)
            · exact g1.same.none (kn q hn)
          · exact (g1.ex.trans sm).trans (w3.trans same_or)
          · rw [w1 q hq, ka q hq]
            exact g1.eq q hq
        · cases e
      · cases e
    · cases e
  · cases e
open Classical in
noncomputable def makeX (nm : Str) (m : Addr → Ow → List D → Option Exn) (ds : List D) : Option Exn := match m 0 (.ob nm [] []) ds with
  | some x => if (∀ p, m p (.ob nm [] []) ds = some x) then some x else none
  | none => none
theorem makeX_eq {nm : Str} {m : Addr → Ow → List D → Option Exn} {ds : List D} {x : Exn} (h : ∀ p, m p (.ob nm [] []) ds = some x) : makeX nm m ds = some x := by
  unfold makeX
  rw [h 0]
  exact if_pos h
theorem makeX_no {nm : Str} {m : Addr → Ow → List D → Option Exn} {ds : List D} (h : m 0 (.ob nm [] []) ds = none) : makeX nm m ds = none := by
  unfold makeX
  rw [h]
noncomputable def xMake (nm : Str) (n : Nat) (m : Addr → Ow → List D → Option Exn) (ga : XA) : En → Option Exn := fun en => match ga en with
  | some ds => if ds.length + 1 = n then makeX nm m ds else none
  | none => none
theorem mex_make {nm : Str} {n : Nat} {m : Addr → Ow → List D → Option Exn} {R : Ow → List D → Ow → D → Prop} (c : ∃ C, K.Gv nm = .ref C) (h : MA K t ga) : MEX K (tMakeX K nm R (RWX n m) t) (xMake nm n m ga) := fun en x e => by
  unfold xMake at e
  split at e
  · rename_i ds h1
    split at e
    · rename_i hl
      unfold makeX at e
      split at e
      · rename_i x' h2
        split at e
        · rename_i hp
          cases e
          refine fun A0 Hs A H σ I W k Q => h en _ h1 A0 Hs A H σ I _ fun vs H1 g1 d1 a dx nx ndx nex => ?_
          have I1 := I.grow g1
          obtain ⟨F, On, dj, fn, lv, sm, ow, ka, kn⟩ := make_room I1 c nx ndx nex
          refine ⟨A, F, On, a, vs, .ob nm [] [], ds, rfl, dj, ⟨lv, I1.tabs.same sm⟩, ow, dpa_mono sm d1, .inr ⟨x, ⟨hl, hp⟩, fun cls d H' w1 w2 w3 => ?_⟩⟩
          exact k H' cls d ⟨(g1.ex.trans sm).trans w2, fun q hq => by rw [w1 q hq, ka q hq]; exact g1.eq q hq⟩ w3
        · cases e
      · cases e
    · cases e
  · cases e
end
end HF

set_option Elab.async false
set_option linter.all false
set_option maxRecDepth 100000
set_option maxHeartbeats 2000000
/-! HF23: try. -/
namespace HF
open PySem L2 PySem.Spec PyProof.Rows
section
variable {K : Fg} {A0 A : Addr → Bool} {Hs H H' : Hp} {σ : L2.St} {en : En}
theorem EnvOk.unset' (I : EnvOk K A0 Hs A H σ en) (i : Nat) : EnvOk K A0 Hs A H (σ.set i none) (en.set i none) := by
  by_cases h : i < σ.length
  · exact I.unset h
  · rw [List.set_eq_of_length_le (by omega), List.set_eq_of_length_le (by rw [← I.len]; omega)]
    exact I
theorem EnvOk.setEx (I : EnvOk K A0 Hs A H σ en) {i : Nat} {a : Addr} {d : Option Addr} {x : Exn} {cls : Value} (h : ExOk K (hide A H) x cls d) : EnvOk K A0 Hs A H (σ.set i (some (.ref a))) (en.set i (some (.ex a d x))) where
  base := I.base
  keep := I.keep
  sub := I.sub
  live := I.live
  len := by simpa using I.len
  own := by
    obtain ⟨O, hO⟩ := I.own
    refine ⟨O, fun j s e => ?_⟩
    rcases getS e with ⟨rfl, e, hl⟩ | ⟨hne, e⟩
    · cases e
      exact ⟨.ref a, List.getElem?_set_self (by rw [I.len]; exact hl), rfl, cls, h⟩
    · obtain ⟨u, h1, h2⟩ := hO j s e
      exact ⟨u, by rw [List.getElem?_set_ne hne]; exact h1, h2⟩
theorem zip_look {H : Hp} {f : Str} {dd : D} : ∀ {fvs : List (Str × V)} {ds : List D}, DqAll K H (fvs.map (·.2)) ds → ((fvs.map (·.1)).zip ds).lookup f = some dd → ∃ v, fvs.lookup f = some v ∧ Dq K H v dd
  | [], _, _, e => by cases e
  | (g, v) :: fvs, _, .cons hv ht, e => by
    rw [List.map_cons, List.zip_cons_cons, List.lookup_cons] at e
    rw [List.lookup_cons]
    by_cases h : f = g
    · subst h
      rw [beq_self_eq_true] at e
      cases e
      exact ⟨v, by rw [beq_self_eq_true], hv⟩
    · have hb : (f == g) = false := by simpa using h
      rw [hb] at e
      obtain ⟨u, h1, h2⟩ := zip_look ht e
      exact ⟨u, by rw [hb]; exact h1, h2⟩
end
section
variable {K : Fg} {tb : WX → TS} {ts : Addr → Value → Option Addr → TS} {tz : TS} {mb mz : XS} {xb : XX} {ms : Addr → Option Addr → XS} {nm fld : Str} {i : Nat}
def unO (i : Nat) : Out → Out
  | .nx e => .nx (e.set i none)
  | .bk e => .bk (e.set i none)
  | .ct e => .ct (e.set i none)
  | .rt d => .rt d
open Classical in
/-- what an except suite with a name makes of it -/
noncomputable def caught (i : Nat) (x : Exn) (ms : Addr → Option Addr → XS) (e : En) : Option Out := if h : ∃ o, ∀ a d, ms a d (e.set i (some (.ex a d x))) = some o then some (unO i (Classical.choose h)) else none
theorem caught_eq {x : Exn} {e : En} {o : Out} (h : ∀ a d, ms a d (e.set i (some (.ex a d x))) = some o) : caught i x ms e = some (unO i o) := by
  unfold caught
  have hh : ∃ o, ∀ a d, ms a d (e.set i (some (.ex a d x))) = some o := ⟨o, h⟩
  rw [dif_pos hh]
  have := Classical.choose_spec hh 0 none
  rw [h 0 none] at this
  rw [← Option.some.inj this]
noncomputable def mTryAs (mb : XS) (xb : XX) (i : Nat) (nm : Str) (ms : Addr → Option Addr → XS) : XS := fun en => match mb en with
  | some o => some o
  | none => match xb en with
    | some (x, e) => if x.cls = nm then caught i x ms e else none
    | none => none
def tTryAs (K : Fg) (nm : Str) (i : Nat) (tb : WX → TS) (ts : Addr → Value → Option Addr → TS) : TS := fun D σ H => tb (wAs K (.ref (K.cl nm)) i ts (fun _ _ _ _ => False) D) D σ H
theorem ms_tryAs (c : ExcD K nm fld) (hm : ∀ W, MS K (tb W) mb) (hx : MX K tb xb) (hs : ∀ a d, MS K (ts a (.ref (K.cl nm)) d) (ms a d)) : MS K (tTryAs K nm i tb ts) (mTryAs mb xb i nm ms) := fun en o e => by
  unfold mTryAs at e
  split at e
  · cases e
    exact fun A0 Hs A H σ I F f => hm _ en _ (by assumption) A0 Hs A H σ I F f
  · split at e
    · rename_i x e1 h1
      split at e
      · rename_i hn
        unfold caught at e
        split at e
        · rename_i hh
          have sp := Classical.choose_spec hh
          generalize Classical.choose hh = o2 at e sp
          cases e
          obtain ⟨C, hC, T, hno, hf, hex⟩ := c.ex
          refine fun A0 Hs A H σ I F f => hx en x e1 h1 A0 Hs A H σ I _ (fun A' H' σ' cls d I' q => ?_) F
          obtain ⟨C', hC', ec, _⟩ := id q
          rw [hn, hC] at hC'
          cases hC'
          subst ec
          refine ⟨true, by rw [cl_of hC]; exact hex, fun _ a ha => ?_, fun z => by cases z⟩
          have s2 := hs a d _ _ (sp a d)
          rw [cl_of hC] at s2
          refine s2 A0 Hs A' H' _ (I'.setEx q) _ ?_
          cases o2 with
          | nx e2 => exact ⟨fun A H σ en I q => f.nx A H _ (e2.set i none) (by have q : en = e2 := q; rw [← q]; exact I.unset' i) rfl, fun _ _ _ _ _ _ _ _ q => False.elim q, fun _ _ _ _ _ q => False.elim q, fun _ _ _ _ _ q => False.elim q⟩
          | rt d2 => exact ⟨fun _ _ _ _ _ q => False.elim q, fun A H σ en v d' I dv q => f.rt A H σ en v d' I dv q, fun _ _ _ _ _ q => False.elim q, fun _ _ _ _ _ q => False.elim q⟩
          | bk e2 => exact ⟨fun _ _ _ _ _ q => False.elim q, fun _ _ _ _ _ _ _ _ q => False.elim q, fun A H σ en I q => f.bk A H _ (e2.set i none) (by have q : en = e2 := q; rw [← q]; exact I.unset' i) rfl, fun _ _ _ _ _ q => False.elim q⟩
          | ct e2 => exact ⟨fun _ _ _ _ _ q => False.elim q, fun _ _ _ _ _ _ _ _ q => False.elim q, fun _ _ _ _ _ q => False.elim q, fun A H σ en I q => f.ct A H _ (e2.set i none) (by have q : en = e2 := q; rw [← q]; exact I.unset' i) rfl⟩
        · cases e
      · cases e
    · cases e
/-- err.f in the suite -/
def mXf (a : Addr) (d : Option Addr) (nm f : Str) (i : Nat) : XE := fun en => match en[i]? with
  | some (some (.ex a' d' x)) => if a' = a ∧ d' = d ∧ x.cls = nm then x.fs.lookup f else none
  | _ => none
theorem me_xf {a : Addr} {d : Option Addr} {f : Str} : ME K (tXf a (.ref (K.cl nm)) d (K.cl nm) f (tVar i)) (mXf a d nm f i) := fun en dd e => by
  unfold mXf at e
  split at e
  · rename_i a' d' x hi
    split at e
    · rename_i hh
      obtain ⟨rfl, rfl, rfl⟩ := hh
      refine fun A0 Hs A H σ I Q k => ?_
      obtain ⟨O, hO⟩ := I.own
      obtain ⟨v, hv, rfl, cls, C, hC, ec, hd⟩ := hO i _ hi
      refine ⟨.ref a', hv, rfl, rfl, ?_⟩
      rcases hd with ⟨h0, _⟩ | ⟨dx, fvs, ds, e1, e2, e3, e4⟩
      · rw [h0] at e; cases e
      · rw [e4] at e
        obtain ⟨v, l1, l2⟩ := zip_look e3 e
        exact ⟨dx, fvs, v, e1, (hide_some e2).2, l1, k v H (Grow.refl H) l2⟩
    · cases e
  · cases e
/-- try without a name -/
def mTryO (mb : XS) (xb : XX) (nm : Str) (mz : XS) : XS := fun en => match mb en with
  | some o => some o
  | none => match xb en with
    | some (x, e) => if x.cls = nm then mz e else none
    | none => none
def tTryO (K : Fg) (nm : Str) (tb : WX → TS) (tz : TS) : TS := fun D σ H => tb (wOnly K (.ref (K.cl nm)) (fun _ _ _ => tz) (fun _ _ _ _ => False) D) D σ H
theorem ms_tryO (c : ∃ C, K.Gv nm = .ref C ∧ PySem.W.exmOne K (.ref C) (.ref C) = some true) (hm : ∀ W, MS K (tb W) mb) (hx : MX K tb xb) (hs : MS K tz mz) : MS K (tTryO K nm tb tz) (mTryO mb xb nm mz) := fun en o e => by
  unfold mTryO at e
  split at e
  · cases e
    exact fun A0 Hs A H σ I F f => hm _ en _ (by assumption) A0 Hs A H σ I F f
  · split at e
    · rename_i x e1 h1
      split at e
      · rename_i hn
        obtain ⟨C, hC, hex⟩ := c
        refine fun A0 Hs A H σ I F f => hx en x e1 h1 A0 Hs A H σ I _ (fun A' H' σ' cls d I' q => ?_) F
        obtain ⟨C', hC', ec, _⟩ := q
        rw [hn, hC] at hC'
        cases hC'
        subst ec
        exact ⟨true, by rw [cl_of hC]; exact hex, fun _ a ha => hs _ _ e A0 Hs A' H' _ I' F f, fun z => by cases z⟩
      · cases e
    · cases e
end
section
variable {X : Cx} {nm n fld : Str} {i : Nat} {body suite : List Stmt} {b₀ : Stmt} {np pos pos' : Pos} {tb : WX → TS} {ts : Addr → Value → Option Addr → TS} {tz : TS} {T : Addr → Prop} {Gv : Str → V}
theorem ps_tryAsD (c : X.mg nm = some (.ref (Fg.cl ⟨X.K, T, Gv, X.w⟩ nm))) (hs : X.stack = X.env :: X.outer) (hf : X.env.frame = some X.env.locals) (hN : X.N.Nodup) (hi : X.N[i]? = some n) (hln : X.env.kindOf n = some .local) (hg : Gl X nm)
    (hb : ∀ (W : WX) (pn : List (Addr × Obj)) (xe : Value → Shared → Prop), Takes (X.tr pn xe) W → PassesOwn (model X.prog X.w) X.A X.env xe → PSs (X.tr pn xe) body (tb W))
    (hsu : ∀ (a : Addr) (oe : Obj) (cls : Value) (d : Option Addr) (pn : List (Addr × Obj)), Zc cls d oe → (∃ vs, oe.data = .fields vs) → PSs (X.suite a ((a, oe) :: pn)) (b₀ :: suite) (ts a cls d)) (hdb : (nm == ("__debug__" : Str)) = false := by decide) :
    PS X (.Try body [.ExceptHandler (some (.Name nm np)) (some n) (b₀ :: suite) pos'] [] [] pos) (tTryAs ⟨X.K, T, Gv, X.w⟩ nm i tb ts) :=
  ps_try_as hs hf hN hi hln ⟨hg, hdb, .inl c⟩ takes0 hb hsu
theorem ps_tryOD (c : X.mg nm = some (.ref (Fg.cl ⟨X.K, T, Gv, X.w⟩ nm))) (hs : X.stack = X.env :: X.outer) (hf : X.env.frame = some X.env.locals) (hg : Gl X nm)
    (hb : ∀ (W : WX) (pn : List (Addr × Obj)) (xe : Value → Shared → Prop), Takes (X.tr pn xe) W → PassesOwn (model X.prog X.w) X.A X.env xe → PSs (X.tr pn xe) body (tb W))
    (hsu : ∀ (a : Addr) (oe : Obj) (pn : List (Addr × Obj)), PSs (X.suite a ((a, oe) :: pn)) (b₀ :: suite) tz) (hdb : (nm == ("__debug__" : Str)) = false := by decide) :
    PS X (.Try body [.ExceptHandler (some (.Name nm np)) none (b₀ :: suite) pos'] [] [] pos) (tTryO ⟨X.K, T, Gv, X.w⟩ nm tb tz) :=
  ps_try_only hs hf ⟨hg, hdb, .inl c⟩ takes0 hb fun a oe cls d pn _ _ => hsu a oe pn
theorem pe_xfD {a : Addr} {oe : Obj} {cls : Value} {d : Option Addr} {pn : List (Addr × Obj)} {e : Expr} {te : TE} {pos : Pos} (c : ExcD ⟨X.K, T, Gv, X.w⟩ nm fld) (hz : Zc cls d oe) (hf : ∃ vs, oe.data = .fields vs) (he : PE (X.suite a ((a, oe) :: pn)) e te)
    (hb : attributeBase e fld X.env (eval e X.env) = eval e X.env := by rfl) : PE (X.suite a ((a, oe) :: pn)) (.Attribute e fld pos) (tXf a cls d (Fg.cl ⟨X.K, T, Gv, X.w⟩ nm) fld te) := by
  obtain ⟨C, hC, T1, hno, hx, _⟩ := c.ex
  rw [cl_of hC]
  exact pe_xf hx hno hz hf he hb
end
end HF

set_option Elab.async false
set_option linter.all false
set_option maxRecDepth 100000
set_option maxHeartbeats 2000000
/-! HF24: methods that raise. -/
namespace HF
open PySem L2 PySem.Spec PyProof.Rows
theorem exm_own {K : PySem.W.Frag} {C : Addr} {nm q : Str} {N : Addr} {bs bm : List Value} {hdct : Bool} {sn : List Str} {sub : List Value} {ab : Bool} {col : Option Bool} {dd : Option Addr} {k0 k1 k2 k3 k5 : Option Value} {newId : String}
    (xl : K.lookup C = some (excClassObj nm q C N bs bm hdct sn sub ab col dd k0 k1 k2 k3 k5 newId)) (xb : PySem.W.subIn K (.ref C) (.type "BaseException") = some true) (xt : PySem.W.typeIn K (.ref C) = some (.type "type")) (xc : PySem.W.subIn K (.ref C) (.ref C) = some true) :
    PySem.W.exmOne K (.ref C) (.ref C) = some true := by
  have hcl : (PySem.W.clsIn K C).isSome = true := by unfold PySem.W.clsIn; rw [xl] <;> rfl
  unfold PySem.W.exmOne
  rw [xb]
  simp only [beq_self_eq_true, if_true]
  unfold PySem.W.kitCls
  simp only [hcl, xt, beq_self_eq_true, Bool.and_self, if_true]
  exact xc
theorem ExcD.out {K : Fg} {nm fld : Str} (c : ExcD K nm fld) : ∃ C, K.Gv nm = .ref C ∧ PySem.W.exmOne K (.ref C) (.ref C) = some true := by
  obtain ⟨C, h1, _, _, _, h2⟩ := c.ex
  exact ⟨C, h1, h2⟩
structure CalMX (P : Program) (w : World) (K : Fg) (mg : Str → Option Value) (base : Heap) (nm m : Str) (k : Nat) (R : List D → D → Prop) (RX : List D → Exn → Prop) : Prop where
  ex : ∃ (f C : Addr) (fd : FuncData) (ps : List Str), K.Gv nm = .ref C ∧ FnOk P w K mg base (L2.CX P w) k f fd ps (spE K R RX) ∧ Cls K C ∧ Meth K C m f ∧ Binds K fd ps []
theorem CalMX.cal {P : Program} {w : World} {K : Fg} {mg : Str → Option Value} {base : Heap} {nm m : Str} {k : Nat} {R : List D → D → Prop} {RX : List D → Exn → Prop} (c : CalMX P w K mg base nm m k R RX) : CalM P w K mg base nm m k R := by
  obtain ⟨f, C, fd, ps, hC, F, q⟩ := c.ex
  refine ⟨f, C, fd, ps, hC, fn_calm F fun vs H Q E h => ?_, q⟩
  obtain ⟨A, ds, d, l, hd, hR, k⟩ := h
  exact ⟨A, ds, l, hd, .inl ⟨d, hR, k⟩⟩
def tMethS (C : Addr) (m : Str) (sp : Sp) (E : L2.St → XK) (ta : TE) (t : TA) : TE := fun σ H Q => ta σ H fun x H1 => ∃ a dx fs, x = .ref a ∧ H1 a = some (.ins C dx fs) ∧ fs.lookup m = none ∧
  t σ H1 fun vs H2 => sp (x :: vs) H2 Q (E σ)
def tMethX (K : Fg) (nm m : Str) (R : List D → D → Prop) (RX : List D → Exn → Prop) (ta : TE) (t : TA) (W : WX) : TE := tMethS (K.cl nm) m (spE K R RX) (WE W) ta t
section
variable {X : Cx} {CX : CXT} {k : Nat} {f C : Addr} {fd : FuncData} {ps : List Str} {sp : Sp} {E : L2.St → XK} {x m : Str} {p pos apos : Pos} {o e : Expr} {es : List Expr} {ta : TE} {t : TA}
theorem pe_methS {pl : Sem Bool} (he : PE X o ta) (c : Cls X.K C) (hm : Meth X.K C m f) (F : FnOk X.prog X.w X.K X.mg X.base CX k f fd ps sp) (hr : Room k X.A) (hb : Binds X.K fd ps []) (hx : ∀ σ, PassesAt CX X σ (E σ)) (ha : PA X (e :: es) t)
    (hst : starEach (e :: es) X.env = (false, eval e X.env) :: starEach es X.env := by rfl) (hpl : (backTo pos (starEach es X.env)).any (·.1) = false := by rfl)
    (ht : eval (.Call (.Attribute o m apos) (e :: es) [] pos) X.env = (do
      let ov ← eval o X.env
      standAt apos.atName
      let (f, first) ← holding [ov] (getMethod ov m pl)
      callWith pos f first (backTo pos (starEach (e :: es) X.env)) (backToKw pos (keywordEach [] X.env))) := by rfl) :
    PE X (.Call (.Attribute o m apos) (e :: es) [] pos) (tMethS C m sp E ta t) := by
  refine ⟨fun pins s σ H Q I h => ?_⟩
  refine PySem.W.methodCall_KW (pl := pl) (thn (he.run pins s σ H _ I h) fun u s1 ⟨x, H1, I1, rx, a, dx, fs, ex, ea, l, q⟩ => ?_) ht
  subst ex
  obtain rfl : u = Value.ref a := rx
  refine getmeth_ok I1 ea c hm l ?_
  refine PySem.W.callWith_K (first := [.ref a]) (h₀ := X.base) I.ok.mod.kin hm.kp (thn (ha.run pos pins s1 σ H1 _ I1 q) fun us s2 ⟨vs, H2, I2, r, q2⟩ => ⟨I2.kIn, ?_⟩) hst hpl
  exact run_fnS (us := .ref a :: us) (vs := .ref a :: vs) F hr hb (hx σ) I2 (.cons rfl r) q2
theorem pe_methX {nm m : Str} {j k : Nat} {R : List D → D → Prop} {RX : List D → Exn → Prop} {W : WX} {T : Addr → Prop} {Gv : Str → V} {pl : Sem Bool} (c : CalMX X.prog X.w ⟨X.K, T, Gv, X.w⟩ X.mg X.base nm m j R RX) (hr : Room k X.A) (tk : Takes X W) (ho : PE X o ta) (ha : PA X (e :: es) t) (hj : j ≤ k := by decide)
    (he : starEach (e :: es) X.env = (false, eval e X.env) :: starEach es X.env := by rfl) (hpl : (backTo pos (starEach es X.env)).any (·.1) = false := by rfl)
    (hev : eval (.Call (.Attribute o m apos) (e :: es) [] pos) X.env = (do
      let ov ← eval o X.env
      standAt apos.atName
      let __x ← holding [ov] (getMethod ov m pl)
      match __x with
        | (f, first) => callWith pos f first (backTo pos (starEach (e :: es) X.env)) (backToKw pos (keywordEach [] X.env))) := by rfl) : PE X (.Call (.Attribute o m apos) (e :: es) [] pos) (tMethX ⟨X.K, T, Gv, X.w⟩ nm m R RX ta t W) := by
  obtain ⟨f, C, fd, ps, hC, F, cc, hm, hb⟩ := c.ex
  have := pe_methS (apos := apos) (pos := pos) ho cc hm F (hr.mono hj) hb (fun σ => passAt tk σ) ha he hpl hev
  unfold tMethX
  rw [cl_of hC]
  exact this
end
section
variable {K : Fg} {t : TA} {ta : TE} {fa : XE} {ga : XA}
theorem me_methX {nm m : Str} {n : Nat} {f : List D → Option D} {RX : List D → Exn → Prop} {W : WX} (h : ME K ta fa) (h2 : MA K t ga) : ME K (tMethX K nm m (RM n f) RX ta t W) (mMeth nm m n f fa ga) := fun en d e => by
  unfold mMeth at e
  split at e
  · rename_i c kd ds h1 h3
    split at e
    · rename_i hc
      obtain ⟨rfl, hn, hl⟩ := hc
      refine fun A0 Hs A H σ I Q k => h en _ h1 A0 Hs A H σ I _ fun v H1 g1 d1 => ?_
      obtain ⟨a, C, dx, fs, ds', rfl, hC, q1, q2, q3, rfl⟩ := dq_obj d1
      refine ⟨a, dx, fs, rfl, by rw [cl_of hC]; exact (hide_some q1).2, nofld_look q3 hn, h2 en _ h3 A0 Hs A H1 σ (I.grow g1) _ fun vs H2 g2 d2 => ?_⟩
      have g := g1.trans g2
      exact ⟨A, (.dict ((.none, .str c) :: (fs.map fun f => PyData.str f.1).zip ds')) :: ds, ⟨g.live I.live, I.tabs.same g.ex⟩, .cons (dp_mono g2.ex d1) d2, .inl ⟨d, ⟨hl, e⟩, fun v H3 g3 d3 => k v H3 (g.trans g3) d3⟩⟩
    · cases e
  · cases e
def xMeth (nm m : Str) (n : Nat) (f : List D → Option Exn) (fa : XE) (ga : XA) : En → Option Exn := fun en => match fa en, ga en with
  | some (.dict ((.none, .str c) :: kd)), some ds => if c = nm ∧ noFld m kd = true ∧ ds.length + 1 = n then f (.dict ((.none, .str c) :: kd) :: ds) else none
  | _, _ => none
theorem mex_meth {nm m : Str} {n : Nat} {f : List D → Option Exn} {R : List D → D → Prop} (h : ME K ta fa) (h2 : MA K t ga) : MEX K (tMethX K nm m R (RXM n f) ta t) (xMeth nm m n f fa ga) := fun en x e => by
  unfold xMeth at e
  split at e
  · rename_i c kd ds h1 h3
    split at e
    · rename_i hc
      obtain ⟨rfl, hn, hl⟩ := hc
      refine fun A0 Hs A H σ I W k Q => h en _ h1 A0 Hs A H σ I _ fun v H1 g1 d1 => ?_
      obtain ⟨a, C, dx, fs, ds', rfl, hC, q1, q2, q3, rfl⟩ := dq_obj d1
      refine ⟨a, dx, fs, rfl, by rw [cl_of hC]; exact (hide_some q1).2, nofld_look q3 hn, h2 en _ h3 A0 Hs A H1 σ (I.grow g1) _ fun vs H2 g2 d2 => ?_⟩
      have g := g1.trans g2
      exact ⟨A, (.dict ((.none, .str c) :: (fs.map fun f => PyData.str f.1).zip ds')) :: ds, ⟨g.live I.live, I.tabs.same g.ex⟩, .cons (dp_mono g2.ex d1) d2, .inr ⟨x, ⟨hl, e⟩, fun cls d H3 g3 q => k H3 cls d (g.trans g3) q⟩⟩
    · cases e
  · cases e
end
end HF

set_option Elab.async false
set_option linter.all false
set_option maxRecDepth 100000
set_option maxHeartbeats 2000000
/-! HF25: a test whose first part changes an own object. -/
namespace HF
open PySem L2 PySem.Spec PyProof.Rows
section
variable {K : Fg} {t : TA} {ga : XA} {en : En} {i : Nat}
theorem ev_methW {nm m : Str} {n : Nat} {ns : List Str} {fs : List Fd} {a : Option Addr} {ds : List D} {o' : Ow} {d : D} {f : Addr → Ow → List D → Option (Ow × D)} (hi : en[i]? = some (some (.ow a (.ob nm ns fs)))) (hn : noFldN m ns = true) (h : EvA K t en ds) (hR : RW n f (.ob nm ns fs) ds o' d) :
    ∀ A0 Hs A H σ, EnvOk K A0 Hs A H σ en → ∀ Q : VK, (∀ v A' H', EnvOk K A0 Hs A' H' σ (en.set i (some (.ow a o'))) → Dq K (hide A' H') v d → Q v H') → tMethW K nm m (RW n f) (tVar i) t σ H Q := fun A0 Hs A H0 σ I0 Qq fit => by
  obtain ⟨O0, hO0⟩ := I0.own
  obtain ⟨v, hv, p, rfl, ha, ho⟩ := hO0 i _ hi
  have hob := ho
  cases ho with
  | ob m1 m2 hC h1 h2 h3 h4 =>
    rename_i dx C fvs
    refine ⟨_, hv, p, dx, fvs, rfl, by rw [cl_of hC]; exact h1, nofldN_look (by rw [h3]; exact hn), h A0 Hs A H0 σ I0 _ fun vs H g d1 => ?_⟩
    have I := I0.grow g
    have hO := hO0
    have ho : OwOk K (hide A H) H (Mine A0 A O0) [i] p (.ob nm ns fs) := ow_keep g.ex (fun q rh mq => ⟨mq, g.eq q mq.1⟩) hob
    let F : Addr → Bool := fun q => A q && (!A0 q && (O0 q).getLast? == some i)
    let Ao : Addr → Bool := fun q => A q && !F q
    have eA : orA Ao F = A := by
      funext q
      show ((A q && !F q) || F q) = A q
      have : F q = true → A q = true := fun h => by
        have h : (A q && _) = true := h
        rw [Bool.and_eq_true] at h; exact h.1
      cases hA : A q <;> cases hF : F q <;> simp_all
    have fF : ∀ q, F q = true → A q = true ∧ A0 q = false ∧ (O0 q).getLast? = some i := fun q h => by
      have h : (A q && (!A0 q && (O0 q).getLast? == some i)) = true := h
      rw [Bool.and_eq_true, Bool.and_eq_true] at h
      exact ⟨h.1, by simpa using h.2.1, by simpa using h.2.2⟩
    have dj : ∀ q, F q = true → Ao q = false := fun q h => by
      show (A q && !F q) = false
      rw [h]; simp
    refine ⟨Ao, F, fun q => (O0 q).dropLast, p, vs, .ob nm ns fs, ds, o', d, by rw [List.append_nil], dj, by rw [eA]; exact ⟨I.live, I.tabs⟩, ?_, by rw [eA]; exact d1, hR, fun v H' F' On' w1 w2 w3 w4 w5 w6 => ?_⟩
    · rw [eA]
      refine ow_shift (Same.refl _) (fun q rh mq => ⟨⟨?_, ?_⟩, rfl⟩) ho
      · show (A q && (!A0 q && (O0 q).getLast? == some i)) = true
        rw [mq.1, mq.2.1, mq.2.2]
        simp
      · show (O0 q).dropLast = _
        rw [mq.2.2]
        simp
    · rw [eA] at w3
      have aF : ∀ q, A0 q = true → Ao q = true := fun q hq => by
        show (A q && !F q) = true
        have : F q = false := by
          cases e : F q with
          | false => rfl
          | true => rw [(fF q e).2.1] at hq; cases hq
        rw [I.sub q hq, this]; rfl
      have nF' : ∀ q, Ao q = true → F' q = false := fun q hq => by
        cases e : F' q with
        | false => rfl
        | true => rw [(w2 q e).1] at hq; cases hq
      let O' : Addr → List Nat := fun q => if F' q = true then On' q ++ [i] else O0 q
      refine fit v (orA Ao F') H' (I.change2 (s := .ow a o') rfl (fun _ _ => rfl) w3 w4 (fun q hq => ⟨orA_l (aF q hq), w1 q (aF q hq)⟩) O0 O' ?_ (fun q j rh hj mq _ => ?_) fun _ => ⟨_, hv, p, rfl, ha, ?_⟩) w6
      · intro j s e
        obtain ⟨v, g1, g2⟩ := hO0 j s e
        exact ⟨v, g1, g2.keep g.ex fun _ q rh mq => ⟨mq, g.eq q mq.1⟩⟩
      · have hnF : F q = false := by
          cases e : F q with
          | false => rfl
          | true =>
            have := (fF q e).2.2
            rw [mq.2.2] at this
            simp at this
            exact (hj this).elim
        have hAo : Ao q = true := by
          show (A q && !F q) = true
          rw [mq.1, hnF]; rfl
        refine ⟨⟨orA_l hAo, mq.2.1, ?_⟩, w1 q hAo⟩
        show (if F' q = true then _ else O0 q) = _
        rw [if_neg (by rw [nF' q hAo]; decide)]
        exact mq.2.2
      · refine ow_shift (Same.refl _) (fun q rh mq => ⟨⟨orA_r mq.1, ?_, ?_⟩, rfl⟩) w5
        · cases e : A0 q with
          | false => rfl
          | true => have := nF' q (aF q e); rw [mq.1] at this; cases this
        · show (if F' q = true then _ else O0 q) = _
          rw [if_pos mq.1]
          have := mq.2
          rw [List.append_nil] at this
          rw [this]

def MEW (K : Fg) (te : TE) (f : En → Option (D × En)) : Prop := ∀ en d en', f en = some (d, en') → ∀ A0 Hs A H σ, EnvOk K A0 Hs A H σ en → ∀ Q : VK, (∀ v A' H', EnvOk K A0 Hs A' H' σ en' → Dq K (hide A' H') v d → Q v H') → te σ H Q
def MTW (K : Fg) (tt : TT) (f : En → Option (Bool × En)) : Prop := ∀ en b en', f en = some (b, en') → ∀ A0 Hs A H σ, EnvOk K A0 Hs A H σ en → ∀ Q : Bool → Hp → Prop, (∀ A' H', EnvOk K A0 Hs A' H' σ en' → Q b H') → tt σ H Q
open Classical in
noncomputable def wMeth (nm m : Str) (n : Nat) (f : Addr → Ow → List D → Option (Ow × D)) (i : Nat) (ga : XA) : En → Option (D × En) := fun en => match en[i]? with
  | some (some (.ow a (.ob nm' ns fs))) => (match ga en with
    | some ds => (match f 0 (.ob nm' ns fs) ds with
      | some (o', d) => if nm' = nm ∧ noFldN m ns = true ∧ ds.length + 1 = n ∧ (∀ p, f p (.ob nm' ns fs) ds = some (o', d)) then some (d, en.set i (some (.ow a o'))) else none
      | none => none)
    | none => none)
  | _ => none
theorem mew_meth {nm m : Str} {n : Nat} {f : Addr → Ow → List D → Option (Ow × D)} (h : MA K t ga) : MEW K (tMethW K nm m (RW n f) (tVar i) t) (wMeth nm m n f i ga) := fun en d en' e => by
  unfold wMeth at e
  split at e
  · rename_i a nm' ns fs hi
    split at e
    · rename_i ds hd
      split at e
      · rename_i o' d h1
        split at e
        · rename_i hc
          obtain ⟨rfl, h2, h3, h4⟩ := hc
          cases e
          exact ev_methW hi h2 (h en _ hd) ⟨h3, h4⟩
        · cases e
      · cases e
    · cases e
  · cases e
theorem w_meth {nm m : Str} {n : Nat} {f : Addr → Ow → List D → Option (Ow × D)} {ns : List Str} {fs : List Fd} {a : Option Addr} {ds : List D} {o' : Ow} {d : D} (hi : en[i]? = some (some (.ow a (.ob nm ns fs)))) (hg : ga en = some ds) (hn : noFldN m ns = true) (hl : ds.length + 1 = n) (hf : ∀ p, f p (.ob nm ns fs) ds = some (o', d)) : wMeth nm m n f i ga en = some (d, en.set i (some (.ow a o'))) := by
  unfold wMeth
  rw [hi]
  simp only []
  rw [hg]
  simp only []
  rw [hf 0]
  simp only []
  exact if_pos ⟨rfl, hn, hl, hf⟩
def wCmp (o : D → D → Option D) (fa : En → Option (D × En)) (fb : XE) : En → Option (Bool × En) := fun en => match fa en with
  | some (x, e) => (match fb e with
    | some y => (match o x y with
      | some (.bool b) => some (b, e)
      | _ => none)
    | none => none)
  | none => none
theorem mtw_cmp {r : R2} {o : D → D → Option D} {ta tb : TE} {fa : En → Option (D × En)} {fb : XE} (ho : ∀ x y z, o x y = some z → RD2 K r x y z) (ha : MEW K ta fa) (hb : ME K tb fb) : MTW K (tTest (tOp r ta tb)) (wCmp o fa fb) := fun en b en' e => by
  unfold wCmp at e
  split at e
  · rename_i x e1 hx
    split at e
    · rename_i y hy
      split at e
      · rename_i c hz
        cases e
        refine fun A0 Hs A H σ I Q k => ha en x _ hx A0 Hs A H σ I _ fun v A1 H1 I1 d1 => hb _ y hy A0 Hs A1 H1 σ I1 _ fun w H2 g2 d2 => ?_
        refine ho x y _ hz A1 H2 v w (g2.live I1.live) (dp_mono g2.ex d1) d2 _ fun u H3 g3 d3 => ?_
        exact ⟨b, dp_bl d3, k A1 H3 ((I1.grow g2).grow g3)⟩
      · cases e
    · cases e
  · cases e
def wOr (f : En → Option (Bool × En)) (g : XT) : En → Option (Bool × En) := fun en => match f en with
  | some (true, e) => some (true, e)
  | some (false, e) => (match g e with
    | some b => some (b, e)
    | none => none)
  | none => none
theorem mtw_or {t1 t2 : TT} {f : En → Option (Bool × En)} {g : XT} (h1 : MTW K t1 f) (h2 : MT K t2 g) : MTW K (tOr t1 t2) (wOr f g) := fun en b en' e => by
  unfold wOr at e
  split at e
  · rename_i e1 hf
    cases e
    exact fun A0 Hs A H σ I Q k => h1 en _ _ hf A0 Hs A H σ I _ fun A1 H1 I1 => by
      rw [if_pos rfl]
      exact k A1 H1 I1
  · rename_i e1 hf
    split at e
    · rename_i c hg
      cases e
      exact fun A0 Hs A H σ I Q k => h1 en _ _ hf A0 Hs A H σ I _ fun A1 H1 I1 => by
        rw [if_neg (by decide)]
        exact h2 _ _ hg A0 Hs A1 H1 σ I1 _ fun H2 g2 => k A1 H2 (I1.grow g2)
    · cases e
  · cases e
def mIfW (ft : En → Option (Bool × En)) (f g : XS) : XS := fun en => match ft en with
  | some (true, e) => f e
  | some (false, e) => g e
  | none => none
theorem ms_ifW {tt : TT} {ts tz : TS} {ft : En → Option (Bool × En)} {fs fz : XS} (h : MTW K tt ft) (h1 : MS K ts fs) (h2 : MS K tz fz) : MS K (tIfS tt ts tz) (mIfW ft fs fz) := fun en o e => by
  unfold mIfW at e
  split at e
  · rename_i e1 hf
    exact fun A0 Hs A H σ I F f => h en _ _ hf A0 Hs A H σ I _ fun A1 H1 I1 => by
      rw [if_pos rfl]
      exact h1 _ _ e A0 Hs A1 H1 σ I1 F f
  · rename_i e1 hf
    exact fun A0 Hs A H σ I F f => h en _ _ hf A0 Hs A H σ I _ fun A1 H1 I1 => by
      rw [if_neg (by decide)]
      exact h2 _ _ e A0 Hs A1 H1 σ I1 F f
  · cases e
theorem rdw_ne : ∀ x y z, opNe x y = some z → RD2 K (rNeD K) x y z := fun x y z e => by
  unfold opNe at e
  split at e
  · rename_i h
    rw [Bool.and_eq_true] at h
    cases e; exact rd_ne h.1 h.2
  · cases e
theorem rdw_eq : ∀ x y z, opEq x y = some z → RD2 K (rEqD K) x y z := fun x y z e => by
  unfold opEq at e
  split at e
  · rename_i h
    rw [Bool.and_eq_true] at h
    cases e; exact rd_eq h.1 h.2
  · cases e
end
/-! ### running them -/
section
variable {en e : En} {x : Exn} {x1 x2 : XX} {m1 mb : XS} {ft : XT} {f : En → Option Exn} {nm fld : Str} {i : Nat}
theorem tryAs_hit {ms : Addr → Option Addr → XS} {o : Out} (h1 : mb en = none) (h2 : x1 en = some (x, e)) (hc : x.cls = nm) (h3 : ∀ a d, ms a d (e.set i (some (.ex a d x))) = some o) : mTryAs mb x1 i nm ms en = some (unO i o) := by
  unfold mTryAs
  rw [h1]
  simp only []
  rw [h2]
  simp only []
  rw [if_pos hc, caught_eq h3]
theorem tryAs_ok {ms : Addr → Option Addr → XS} {o : Out} (h1 : mb en = some o) : mTryAs mb x1 i nm ms en = some o := by
  unfold mTryAs
  rw [h1]
theorem tryO_hit {mz : XS} (h1 : mb en = none) (h2 : x1 en = some (x, e)) (hc : x.cls = nm) : mTryO mb x1 nm mz en = mz e := by
  unfold mTryO
  rw [h1]
  simp only []
  rw [h2]
  simp only []
  rw [if_pos hc]
theorem tryO_ok {mz : XS} {o : Out} (h1 : mb en = some o) : mTryO mb x1 nm mz en = some o := by
  unfold mTryO
  rw [h1]
theorem xIf_t (h : ft en = some true) : xIf ft x1 x2 en = x1 en := by unfold xIf; rw [h]
theorem xIf_f (h : ft en = some false) : xIf ft x1 x2 en = x2 en := by unfold xIf; rw [h]
theorem xSeq_l {r : Exn × En} (h : x1 en = some r) : xSeq x1 m1 x2 en = some r := by unfold xSeq; rw [h]
theorem xSeq_r (h : x1 en = none) (h2 : m1 en = some (.nx e)) : xSeq x1 m1 x2 en = x2 e := by unfold xSeq; rw [h]; simp only []; rw [h2]
theorem xRaise_eq (h : f en = some x) : xRaise f en = some (x, en) := by unfold xRaise; rw [h]
theorem xRaise_no (h : f en = none) : xRaise f en = none := by unfold xRaise; rw [h]
theorem xMeth_eq {m : Str} {n : Nat} {g : List D → Option Exn} {fa : XE} {ga : XA} {kd : List (D × D)} {ds : List D} (h1 : fa en = some (.dict ((.none, .str nm) :: kd))) (h2 : ga en = some ds) (hn : noFld m kd = true) (hl : ds.length + 1 = n) : xMeth nm m n g fa ga en = g (.dict ((.none, .str nm) :: kd) :: ds) := by
  unfold xMeth
  rw [h1, h2]
  exact if_pos ⟨rfl, hn, hl⟩
theorem xFn_eq {n : Nat} {g : List D → Option Exn} {ga : XA} {ds : List D} (h2 : ga en = some ds) (hl : ds.length = n) : xFn n g ga en = g ds := by
  unfold xFn
  rw [h2]
  exact if_pos hl
theorem mMkX_eq {g : XA} {d : D} (h : g en = some [d]) : mMkX nm fld g en = some ⟨nm, [(fld, d)]⟩ := by
  unfold mMkX
  rw [h]
theorem mXf_eq {a : Addr} {d : Option Addr} (h : en[i]? = some (some (.ex a d x))) (hc : x.cls = nm) : mXf a d nm fld i en = x.fs.lookup fld := by
  unfold mXf
  rw [h]
  exact if_pos ⟨rfl, rfl, hc⟩
theorem runX_eq {N : List Str} {ds : List D} (h : x1 (startE N ds) = some (x, e)) : runX N x1 ds = some x := by
  unfold runX
  rw [h]; rfl
theorem wCmp_eq {o : D → D → Option D} {fa : En → Option (D × En)} {fb : XE} {y z : D} {b : Bool} (h1 : fa en = some (z, e)) (h2 : fb e = some y) (h3 : o z y = some (.bool b)) : wCmp o fa fb en = some (b, e) := by
  unfold wCmp
  rw [h1]
  simp only []
  rw [h2]
  simp only []
  rw [h3]
theorem wOr_f {g : En → Option (Bool × En)} {b : Bool} (h1 : g en = some (false, e)) (h2 : ft e = some b) : wOr g ft en = some (b, e) := by
  unfold wOr
  rw [h1]
  simp only []
  rw [h2]
theorem ifW_f {g : En → Option (Bool × En)} {f1 f2 : XS} (h1 : g en = some (false, e)) : mIfW g f1 f2 en = f2 e := by
  unfold mIfW
  rw [h1]
end
end HF

set_option Elab.async false
set_option linter.all false
set_option maxRecDepth 100000
set_option maxHeartbeats 2000000
/-! HF26: a walk over a def's own list, which its turns leave alone. -/
namespace HF
open PySem L2 PySem.Spec PyProof.Rows
section
variable {K : Fg} {A0 A : Addr → Bool} {Hs H : Hp} {σ : L2.St} {en : En} {i : Nat}
theorem EnvOk.reslot (I : EnvOk K A0 Hs A H σ en) {s s' : Sl} (hi : en[i]? = some (some s)) (h : ∀ O v, σ[i]? = some (some v) → SlOk K A0 A H O i v s → SlOk K A0 A H O i v s') : EnvOk K A0 Hs A H σ (en.set i (some s')) where
  base := I.base
  keep := I.keep
  sub := I.sub
  live := I.live
  len := by simpa using I.len
  own := by
    obtain ⟨O, hO⟩ := I.own
    refine ⟨O, fun j t e => ?_⟩
    rcases getS e with ⟨rfl, e, hl⟩ | ⟨hne, e⟩
    · cases e
      obtain ⟨v, h1, h2⟩ := hO i s hi
      exact ⟨v, h1, h O v h1 h2⟩
    · exact hO j t e
theorem EnvOk.unname {p : Addr} {o : Ow} {e : En} (I : EnvOk K A0 Hs A H σ (e.set i (some (.ow (some p) o)))) : EnvOk K A0 Hs A H σ (e.set i (some (.ow none o))) := by
  by_cases h : i < e.length
  · have q : (e.set i (some (.ow (some p) o)))[i]? = some (some (.ow (some p) o)) := List.getElem?_set_self h
    have := I.reslot (s' := .ow none o) q fun O v _ ⟨p', e1, e2, e3⟩ => ⟨p', e1, (fun _ z => by cases z), e3⟩
    rw [List.set_set] at this
    exact this
  · rw [List.set_eq_of_length_le (by omega)] at I ⊢
    exact I
theorem EnvOk.named (I : EnvOk K A0 Hs A H σ en) {ds : List D} (hi : en[i]? = some (some (.ow none (.ls ds)))) : ∃ p, EnvOk K A0 Hs A H σ (en.set i (some (.ow (some p) (.ls ds)))) := by
  obtain ⟨v, hv, p, vs, rfl, _⟩ := I.ols hi
  refine ⟨p, I.reslot hi fun O u hu ⟨p', e1, e2, e3⟩ => ⟨p', e1, fun b z => ?_, e3⟩⟩
  rw [hv] at hu
  cases hu
  cases e1
  exact (Option.some.inj z).symm
theorem EnvOk.ownAt (I : EnvOk K A0 Hs A H σ en) {p : Addr} {ds : List D} (hi : en[i]? = some (some (.ow (some p) (.ls ds)))) : σ[i]? = some (some (.ref p)) ∧ ∃ vs, H p = some (.lst vs) ∧ DqAll K (hide A H) vs ds := by
  obtain ⟨O, hO⟩ := I.own
  obtain ⟨v, hv, p', rfl, hp, ho⟩ := hO i _ hi
  have e := hp p rfl
  subst e
  cases ho with
  | ls m1 m2 m3 => exact ⟨hv, _, m2, m3⟩
end
section
variable {K : Fg} {ts : TS} {E : DE} {en : En} {g : TG} {i : Nat}
theorem s_revO {p : Addr} {ds : List D} (P : Nat → En → Prop) (h0 : P 0 en) (hP : ∀ j e, P j e → j ≤ ds.length → e[i]? = some (some (.ow (some p) (.ls ds))))
    (hs : ∀ (j : Nat) (x : D) (e : En), ds.reverse[j]? = some x → P j e → ∃ e', GD K g x e e' ∧ SD K ts { E with nx := P (j + 1), ct := P (j + 1), bk := E.nx } e') (hd : ∀ e, P ds.length e → E.nx e) :
    SD K (tFor (iRev K (tCons (tVar i) tNil)) g ts) E en := fun A0 Hs A H σ I F f => by
  obtain ⟨hv, vs, hp, hq⟩ := I.ownAt (hP 0 en h0 (Nat.zero_le _))
  have hl := dpa_len hq
  refine ⟨_, hv, p, vs, rfl, SqL.of hp, ?_⟩
  refine ⟨fun j m σ' H' => m = ds.length - j ∧ j ≤ ds.length ∧ ∃ A' e, EnvOk K A0 Hs A' H' σ' e ∧ P j e, ⟨ds.length, by simp, Nat.zero_le _, A, en, I, h0⟩, ?_⟩
  rintro j m σ' H' ⟨rfl, hj, A', e, I', pj⟩
  obtain ⟨hv', vs', hp', hq'⟩ := I'.ownAt (hP j e pj hj)
  have hl' := dpa_len hq'
  by_cases hlt : j < ds.length
  · refine .inr ⟨⟨by omega, vs', vs'[vs.length - 1 - j], SqL.of hp', List.getElem?_eq_getElem (by omega)⟩, fun σ2 H2 => ∃ A2 e2, EnvOk K A0 Hs A2 H2 σ2 e2 ∧ P (j + 1) e2, fun σ2 H2 ⟨A2, e2, I2, p2⟩ => ⟨ds.length - (j + 1), by omega, rfl, hlt, A2, e2, I2, p2⟩, fun x H2 y => ?_⟩
    obtain ⟨rfl, hx⟩ := y
    have hx := hx vs' (SqL.of hp')
    have hr : ds.reverse[j]? = some (ds[ds.length - 1 - j]'(by omega)) := by
      rw [List.getElem?_reverse hlt, List.getElem?_eq_getElem (by omega)]
    obtain ⟨u, hu, hd'⟩ := dpa_get hq' (List.getElem?_eq_getElem (l := ds) (i := ds.length - 1 - j) (by omega))
    rw [show ds.length - 1 - j = vs.length - 1 - j by omega] at hu
    rw [hu] at hx
    cases hx
    obtain ⟨e', hg, hb⟩ := hs j _ e hr pj
    exact hg A0 _ A' _ σ' _ I' hd' _ fun σ3 H3 g3 I3 => hb A0 _ A' H3 σ3 I3 _ ⟨fun A4 H4 σ4 e4 I4 q => ⟨A4, e4, I4, q⟩, fun A4 H4 σ4 e4 v d I4 dv q => f.rt A4 H4 σ4 e4 v d I4 dv q, fun A4 H4 σ4 e4 I4 q => f.nx A4 H4 σ4 e4 I4 q, fun A4 H4 σ4 e4 I4 q => ⟨A4, e4, I4, q⟩⟩
  · have ej : j = ds.length := by omega
    subst ej
    exact .inl ⟨by rw [← hl]; exact Nat.le_refl _, f.nx A' H' σ' e I' (hd e pj)⟩
open Classical in
noncomputable def mLoopO (i : Nat) (s : Sl) (xg : XG) (b : XS) : List D → En → Option Out
  | [], en => if en[i]? = some (some s) then some (.nx en) else none
  | x :: xs, en => if en[i]? = some (some s) then (match xg x en with
    | some e1 => (match b e1 with
      | some (.nx e2) => mLoopO i s xg b xs e2
      | some (.ct e2) => mLoopO i s xg b xs e2
      | some (.bk e2) => some (.nx e2)
      | some (.rt d) => some (.rt d)
      | none => none)
    | none => none) else none
theorem loopO_at {s : Sl} {xg : XG} {b : XS} {o : Out} : ∀ {xs : List D} {e : En}, mLoopO i s xg b xs e = some o → e[i]? = some (some s)
  | [], e, h => by
    unfold mLoopO at h
    split at h
    · assumption
    · cases h
  | x :: xs, e, h => by
    unfold mLoopO at h
    split at h
    · assumption
    · cases h
open Classical in
noncomputable def mForRO (i : Nat) (xg : XG) (b : XS) : XS := fun en => match en[i]? with
  | some (some (.ow none (.ls ds))) => if h : ∃ e : En, ∀ p, mLoopO i (.ow (some p) (.ls ds)) xg b ds.reverse (en.set i (some (.ow (some p) (.ls ds)))) = some (.nx (e.set i (some (.ow (some p) (.ls ds))))) then some (.nx ((Classical.choose h).set i (some (.ow none (.ls ds))))) else none
  | _ => none
theorem ms_forRO {xg : XG} {fs : XS} (hg : MG K g xg) (hb : MS K ts fs) : MS K (tFor (iRev K (tCons (tVar i) tNil)) g ts) (mForRO i xg fs) := fun en o e => by
  unfold mForRO at e
  split at e
  · rename_i ds hi
    split at e
    · rename_i hh
      have sp := Classical.choose_spec hh
      generalize Classical.choose hh = e0 at e sp
      cases e
      refine fun A0 Hs A H σ I F f => ?_
      obtain ⟨p, I1⟩ := I.named hi
      have hrun := sp p
      refine s_revO (E := (Out.nx (e0.set i (some (.ow (some p) (.ls ds))))).E) (p := p) (ds := ds) (fun j en' => mLoopO i (.ow (some p) (.ls ds)) xg fs (ds.reverse.drop j) en' = some (.nx (e0.set i (some (.ow (some p) (.ls ds)))))) hrun (fun j e h _ => loopO_at h) (fun j x en' hj q => ?_) (fun en' q => ?_) A0 Hs A H σ I1 F ⟨fun A H σ en I q => ?_, fun _ _ _ _ _ _ _ _ q => False.elim q, fun _ _ _ _ _ q => False.elim q, fun _ _ _ _ _ q => False.elim q⟩
      · have hd : ds.reverse.drop j = x :: ds.reverse.drop (j + 1) := by
          obtain ⟨lt, rfl⟩ := List.getElem?_eq_some_iff.mp hj
          exact List.drop_eq_getElem_cons lt
        rw [hd] at q
        unfold mLoopO at q
        split at q
        · split at q
          · rename_i e1 h1
            refine ⟨e1, hg _ _ _ h1, ?_⟩
            split at q
            · rename_i e2 h2
              exact s_mono (hb _ _ h2) (fun en'' z => by have z : en'' = e2 := z; rw [z]; exact q) (fun _ z => z.elim) (fun _ z => z.elim) (fun _ z => z.elim)
            · rename_i e2 h2
              exact s_mono (hb _ _ h2) (fun _ z => z.elim) (fun _ z => z.elim) (fun _ z => z.elim) (fun en'' z => by have z : en'' = e2 := z; rw [z]; exact q)
            · rename_i e2 h2
              cases q
              exact s_mono (hb _ _ h2) (fun _ z => z.elim) (fun _ z => z.elim) (fun en'' z => z) (fun _ z => z.elim)
            · cases q
            · cases q
          · cases q
        · cases q
      · rw [List.drop_eq_nil_of_le (by simp)] at q
        unfold mLoopO at q
        split at q
        · cases q; rfl
        · cases q
      · have q : en = _ := q
        subst q
        exact f.nx A H σ _ I.unname rfl
    · cases e
  · cases e
theorem forRO_eq {xg : XG} {b : XS} {ds : List D} {e : En} (hi : en[i]? = some (some (.ow none (.ls ds)))) (h : ∀ p, mLoopO i (.ow (some p) (.ls ds)) xg b ds.reverse (en.set i (some (.ow (some p) (.ls ds)))) = some (.nx (e.set i (some (.ow (some p) (.ls ds)))))) (hl : i < e.length) : mForRO i xg b en = some (.nx (e.set i (some (.ow none (.ls ds))))) := by
  unfold mForRO
  rw [hi]
  simp only []
  have hh : ∃ e : En, ∀ p, mLoopO i (.ow (some p) (.ls ds)) xg b ds.reverse (en.set i (some (.ow (some p) (.ls ds)))) = some (.nx (e.set i (some (.ow (some p) (.ls ds))))) := ⟨e, h⟩
  rw [dif_pos hh]
  have sp := Classical.choose_spec hh 0
  rw [h 0] at sp
  generalize Classical.choose hh = e0 at sp
  have e1 := Out.nx.inj (Option.some.inj sp)
  have e2 := congrArg (fun l => l.set i (some (Sl.ow none (.ls ds)))) e1
  simp only [List.set_set] at e2
  rw [e2]
theorem loopO_fold {α β : Type} {s : Sl} {xg : XG} {b : XS} (enc : α → D) (st : β → En) (f : β → α → β) (ok : β → Prop) (hat : ∀ x, (st x)[i]? = some (some s)) : ∀ (xs : List α) (x0 : β), ok x0 → (∀ x a, ok x → a ∈ xs → ok (f x a) ∧ ∃ e1, xg (enc a) (st x) = some e1 ∧ b e1 = some (.nx (st (f x a)))) →
    mLoopO i s xg b (xs.map enc) (st x0) = some (.nx (st (xs.foldl f x0)))
  | [], x0, _, _ => by
    rw [List.map_nil, mLoopO, if_pos (hat x0)]
    rfl
  | a :: xs, x0, h0, h => by
    obtain ⟨h1, e1, h2, h3⟩ := h x0 a h0 List.mem_cons_self
    rw [List.map_cons, mLoopO, if_pos (hat x0), h2]
    simp only []
    rw [h3]
    simp only []
    rw [loopO_fold enc st f ok hat xs (f x0 a) h1 fun x c hx hc => h x c hx (List.mem_cons_of_mem _ hc)]
    rfl
end
end HF

set_option Elab.async false
set_option linter.all false
set_option maxRecDepth 100000
set_option maxHeartbeats 2000000
/-! HF27: defs handed in as values. -/
namespace HF
open PySem L2 PySem.Spec PyProof.Rows
/-- a def of the module, as a value -/
@[reducible] def defV (nm : Str) : D := .dict [(.bool true, .str nm)]
theorem dq_fn {K : Fg} {H : Hp} {v : V} {nm : Str} (h : Dq K H v (defV nm)) : ∃ f, v = .ref f ∧ K.Gv nm = .ref f := by
  have : ∀ {d : D}, Dq K H v d → d = defV nm → ∃ f, v = .ref f ∧ K.Gv nm = .ref f := by
    intro d h e
    cases h with
    | fn h => cases e; exact ⟨_, rfl, h⟩
    | obj _ _ _ _ q => rw [q] at e; cases e
    | dik _ _ q =>
      have e2 := PyData.dict.inj e
      rw [q] at e2
      have hm : (PyData.bool true, PyData.str nm) ∈ [(PyData.bool true, PyData.str nm)] := List.mem_cons_self
      rw [← e2] at hm
      obtain ⟨f, _, h2⟩ := List.mem_map.mp (List.of_mem_zip hm).1
      obtain ⟨k, z⟩ := f
      cases k <;> cases h2
    | dit q1 q2 q3 hk q => rw [q] at e; cases e
    | _ => cases e
  exact this h rfl
structure CalV (P : Program) (w : World) (K : Fg) (mg : Str → Option Value) (base : Heap) (x : Str) (k : Nat) (R : List D → D → Prop) : Prop where
  ex : ∃ (f : Addr) (fd : FuncData) (ps : List Str), K.Gv x = .ref f ∧ FnOk P w K mg base CX0 k f fd ps (spD K R) ∧ PySem.W.keepIn K (.ref f) = true ∧ Binds K fd ps []
theorem calV {P : Program} {w : World} {K : Fg} {mg : Str → Option Value} {base : Heap} {x : Str} {j k : Nat} {R : List D → D → Prop} (c : Cal P w K mg base x j R) (g : ∃ u, mg x = some u ∧ RelV (K.Gv x) u) (z : ∀ H, Dq K H (K.Gv x) (defV x)) (hj : j ≤ k) : CalV P w K mg base x k R := by
  obtain ⟨f, fd, ps, F, hm, hk, hb⟩ := c.ex
  obtain ⟨u, hu, ru⟩ := g
  obtain ⟨f', e1, e2⟩ := dq_fn (z fun _ => none)
  rw [hm] at hu
  cases hu
  rw [e2] at ru
  have ru : Value.ref f = Value.ref f' := ru
  cases ru
  exact ⟨f, fd, ps, e2, F.mono hj, hk, hb⟩
def tCallV (K : Fg) (i : Nat) (fns : List (Str × (List D → D → Prop))) (t : TA) : TE := fun σ H Q => ∃ p, p ∈ fns ∧ σ[i]? = some (some (K.Gv p.1)) ∧ t σ H fun vs H1 => spD K p.2 vs H1 Q C8.E0
section
variable {X : Cx} {k i : Nat} {x : Str} {p pos : Pos} {e : Expr} {es : List Expr} {t : TA} {T : Addr → Prop} {Gv : Str → V}
theorem pe_callV {fns : List (Str × (List D → D → Prop))} (A : ∀ q ∈ fns, CalV X.prog X.w ⟨X.K, T, Gv, X.w⟩ X.mg X.base q.1 k q.2) (hr : Room k X.A) (hN : X.N[i]? = some x) (hv : Vis X.env.scope x) (ha : PA X (e :: es) t)
    (hdb : (x == ("__debug__" : Str)) = false := by decide) (hcd : (x == ("__classdict__" : Str)) = false := by decide)
    (he : starEach (e :: es) X.env = (false, eval e X.env) :: starEach es X.env := by rfl) (hpl : (backTo pos (starEach es X.env)).any (·.1) = false := by rfl) : PE X (.Call (.Name x p) (e :: es) [] pos) (tCallV ⟨X.K, T, Gv, X.w⟩ i fns t) := by
  refine ⟨fun pins s σ H Q I h => ?_⟩
  obtain ⟨q, hq, hs, ht⟩ := h
  obtain ⟨f, fd, ps, hG, F, hk, hb⟩ := (A q hq).ex
  refine (pe_callL (i := i) (f := f) (sp := spD ⟨X.K, T, Gv, X.w⟩ q.2) (dvs := []) (E := C8.E0) F hr hN hv hk hb .nil pass0 ha hdb hcd he hpl).run pins s σ H Q I ⟨by rw [hs, hG], ?_⟩
  have e0 : (fun (vs : List V) (H1 : Hp) => spD ⟨X.K, T, Gv, X.w⟩ q.2 (vs ++ []) H1 Q C8.E0) = fun vs H1 => spD ⟨X.K, T, Gv, X.w⟩ q.2 vs H1 Q C8.E0 := by
    funext vs H1
    rw [List.append_nil]
  show t σ H (fun vs H1 => spD ⟨X.K, T, Gv, X.w⟩ q.2 (vs ++ []) H1 Q C8.E0)
  rw [e0]
  exact ht
end
section
variable {K : Fg} {t : TA} {g : XA} {i : Nat}
def pickF (nm : Str) : List (Str × Nat × (List D → Option D)) → Option (Nat × (List D → Option D))
  | [] => none
  | (a, r) :: l => if a = nm then some r else pickF nm l
theorem pickF_mem {nm : Str} {n : Nat} {m : List D → Option D} : ∀ {l : List (Str × Nat × (List D → Option D))}, pickF nm l = some (n, m) → (nm, n, m) ∈ l
  | [], h => by cases h
  | (a, r) :: l, h => by
    unfold pickF at h
    split at h
    · rename_i e
      cases h
      rw [e]
      exact List.mem_cons_self
    · exact List.mem_cons_of_mem _ (pickF_mem h)
def rmF (fns : List (Str × Nat × (List D → Option D))) : List (Str × (List D → D → Prop)) := fns.map fun p => (p.1, RM p.2.1 p.2.2)
def mCallV (i : Nat) (fns : List (Str × Nat × (List D → Option D))) (g : XA) : XE := fun en => match en[i]? with
  | some (some (.sh (.dict [(.bool true, .str nm)]))) => (match pickF nm fns with
    | some (n, m) => mFn n m g en
    | none => none)
  | _ => none
theorem me_callV {fns : List (Str × Nat × (List D → Option D))} (h : MA K t g) : ME K (tCallV K i (rmF fns) t) (mCallV i fns g) := fun en d e => by
  unfold mCallV at e
  split at e
  · rename_i nm hi
    split at e
    · rename_i n m hp
      unfold mFn at e
      split at e
      · rename_i ds hg
        split at e
        · rename_i hl
          refine fun A0 Hs A H σ I Q k => ?_
          obtain ⟨v, hv, dv⟩ := I.shd hi
          obtain ⟨f, rfl, hf⟩ := dq_fn dv
          refine ⟨(nm, RM n m), List.mem_map.mpr ⟨_, pickF_mem hp, rfl⟩, by rw [hv, hf], ?_⟩
          exact h en _ hg A0 Hs A H σ I _ fun vs H1 g1 d1 => ⟨A, ds, d, ⟨g1.live I.live, I.tabs.same g1.ex⟩, d1, ⟨hl, e⟩, fun v H2 g2 d2 => k v H2 (g1.trans g2) d2⟩
        · cases e
      · cases e
    · cases e
  · cases e
end
end HF

set_option Elab.async false
set_option linter.all false
set_option maxRecDepth 100000
set_option maxHeartbeats 2000000
/-! HF28: loops that raise; exceptions without fields. -/
namespace HF
open PySem L2 PySem.Spec PyProof.Rows
section
variable {K : Fg} {t1 : WX → TS} {x1 : XX} {m1 : XS} {tt : TT} {ft : XT} {wi : TI} {xi : XA} {g : TG} {xg : XG}
def xWhile (ft : XT) (m1 : XS) (x1 : XX) : Nat → XX
  | 0, _ => none
  | n + 1, en => match ft en with
    | some true => (match x1 en with
      | some r => some r
      | none => match m1 en with
        | some (.nx e2) => xWhile ft m1 x1 n e2
        | some (.ct e2) => xWhile ft m1 x1 n e2
        | _ => none)
    | _ => none
theorem mx_while {n : Nat} (ht : MT K tt ft) (hm : ∀ W, MS K (t1 W) m1) (hx : MX K t1 x1) : MX K (fun W => tWhile tt (t1 W)) (xWhile ft m1 x1 n) := fun en x en' e A0 Hs A H σ I W k F => by
  refine ⟨fun m σ' H' => ∃ A' e', EnvOk K A0 Hs A' H' σ' e' ∧ xWhile ft m1 x1 m e' = some (x, en'), ⟨n, A, en, I, e⟩, ?_⟩
  rintro m σ1 H1 ⟨A1, e1, I1, q⟩
  cases m with
  | zero => cases q
  | succ m =>
    unfold xWhile at q
    split at q
    · rename_i hb
      refine ht _ _ hb A0 Hs A1 H1 σ1 I1 _ fun H2 g2 => ?_
      rw [if_pos rfl]
      split at q
      · rename_i r hr
        cases q
        exact ⟨fun _ _ => False, fun _ _ z => z.elim, hx _ _ _ hr A0 Hs A1 H2 σ1 (I1.grow g2) W k _⟩
      · split at q
        · rename_i e2 h2
          refine ⟨fun σ' H' => ∃ A', EnvOk K A0 Hs A' H' σ' e2, fun σ' H' ⟨A', I'⟩ => ⟨m, Nat.lt_succ_self m, A', e2, I', q⟩, ?_⟩
          exact hm W _ _ h2 A0 Hs A1 H2 σ1 (I1.grow g2) _ ⟨fun A4 H4 σ4 e4 I4 z => ⟨A4, (by have z : e4 = e2 := z; rw [← z]; exact I4)⟩, fun _ _ _ _ _ _ _ _ q => False.elim q, fun _ _ _ _ _ q => False.elim q, fun _ _ _ _ _ q => False.elim q⟩
        · rename_i e2 h2
          refine ⟨fun σ' H' => ∃ A', EnvOk K A0 Hs A' H' σ' e2, fun σ' H' ⟨A', I'⟩ => ⟨m, Nat.lt_succ_self m, A', e2, I', q⟩, ?_⟩
          exact hm W _ _ h2 A0 Hs A1 H2 σ1 (I1.grow g2) _ ⟨fun _ _ _ _ _ q => False.elim q, fun _ _ _ _ _ _ _ _ q => False.elim q, fun _ _ _ _ _ q => False.elim q, fun A4 H4 σ4 e4 I4 z => ⟨A4, (by have z : e4 = e2 := z; rw [← z]; exact I4)⟩⟩
        · cases q
    · cases q
def xLoop (xg : XG) (m1 : XS) (x1 : XX) : List D → XX
  | [], _ => none
  | d :: ds, en => match xg d en with
    | some e1 => (match x1 e1 with
      | some r => some r
      | none => match m1 e1 with
        | some (.nx e2) => xLoop xg m1 x1 ds e2
        | some (.ct e2) => xLoop xg m1 x1 ds e2
        | _ => none)
    | none => none
def xFor (xi : XA) (xg : XG) (m1 : XS) (x1 : XX) : XX := fun en => match xi en with
  | some xs => xLoop xg m1 x1 xs en
  | none => none
theorem mx_for (hi : MI K wi xi) (hg : MG K g xg) (hm : ∀ W, MS K (t1 W) m1) (hx : MX K t1 x1) : MX K (fun W => tFor wi g (t1 W)) (xFor xi xg m1 x1) := fun en x en' e => by
  unfold xFor at e
  split at e
  · rename_i xs hxs
    refine fun A0 Hs A H σ I W k F => hi en _ hxs A0 Hs A H σ I _ fun J H1 g1 Wk => ?_
    have I1 := (I.grow g1).rebase
    refine ⟨fun j m σ' H' => m = xs.length - j ∧ j ≤ xs.length ∧ ∃ A' e, EnvOk K A0 (reb A0 A Hs H1) A' H' σ' e ∧ xLoop xg m1 x1 (xs.drop j) e = some (x, en'), ⟨xs.length, by simp, Nat.zero_le _, A, en, I1, e⟩, ?_⟩
    rintro j m σ' H' ⟨rfl, hj, A', e, I', p⟩
    have sm := reb_sub (I.grow g1) I'
    have ends : ∀ {A'' : Addr → Bool} {H'' : Hp} {σ'' : L2.St} {e2 : En}, j < xs.length → xLoop xg m1 x1 (xs.drop (j + 1)) e2 = some (x, en') → EnvOk K A0 (reb A0 A Hs H1) A'' H'' σ'' e2 →
        ∃ m', m' < xs.length - j ∧ (m' = xs.length - (j + 1) ∧ j + 1 ≤ xs.length ∧ ∃ A' e, EnvOk K A0 (reb A0 A Hs H1) A' H'' σ'' e ∧ xLoop xg m1 x1 (xs.drop (j + 1)) e = some (x, en')) := fun hl q J => ⟨_, by omega, rfl, hl, _, _, J, q⟩
    by_cases hlt : j < xs.length
    · rw [List.drop_eq_getElem_cons hlt] at p
      unfold xLoop at p
      have hat : xs[j]? = some xs[j] := by simp [hlt]
      split at p
      · rename_i e1 h1
        split at p
        · rename_i r hr
          cases p
          refine .inr ⟨Wk.goes A' H' j I'.live sm hlt, fun _ _ => False, fun _ _ z => z.elim, fun v H2 y => ?_⟩
          obtain ⟨g2, dx⟩ := Wk.yields A' H' j _ v H2 I'.live sm hat y
          exact hg _ _ _ h1 A0 _ A' H2 σ' v (I'.grow g2) dx _ fun σ3 H3 g3 I3 => hx _ _ _ hr A0 _ A' H3 σ3 I3 W (fun A'' H'' σ'' cls d J q => k A'' H'' σ'' cls d ((I.grow g1).unrebase J) q) _
        · split at p
          · rename_i e2 h2
            refine .inr ⟨Wk.goes A' H' j I'.live sm hlt, fun σ2 H2 => ∃ A2, EnvOk K A0 (reb A0 A Hs H1) A2 H2 σ2 e2, fun σ2 H2 ⟨A2, I2⟩ => ends hlt p I2, fun v H2 y => ?_⟩
            obtain ⟨g2, dx⟩ := Wk.yields A' H' j _ v H2 I'.live sm hat y
            exact hg _ _ _ h1 A0 _ A' H2 σ' v (I'.grow g2) dx _ fun σ3 H3 g3 I3 => hm W _ _ h2 A0 _ A' H3 σ3 I3 _ ⟨fun A4 H4 σ4 e4 I4 z => ⟨A4, (by have z : e4 = e2 := z; rw [← z]; exact I4)⟩, fun _ _ _ _ _ _ _ _ q => False.elim q, fun _ _ _ _ _ q => False.elim q, fun _ _ _ _ _ q => False.elim q⟩
          · rename_i e2 h2
            refine .inr ⟨Wk.goes A' H' j I'.live sm hlt, fun σ2 H2 => ∃ A2, EnvOk K A0 (reb A0 A Hs H1) A2 H2 σ2 e2, fun σ2 H2 ⟨A2, I2⟩ => ends hlt p I2, fun v H2 y => ?_⟩
            obtain ⟨g2, dx⟩ := Wk.yields A' H' j _ v H2 I'.live sm hat y
            exact hg _ _ _ h1 A0 _ A' H2 σ' v (I'.grow g2) dx _ fun σ3 H3 g3 I3 => hm W _ _ h2 A0 _ A' H3 σ3 I3 _ ⟨fun _ _ _ _ _ q => False.elim q, fun _ _ _ _ _ _ _ _ q => False.elim q, fun _ _ _ _ _ q => False.elim q, fun A4 H4 σ4 e4 I4 z => ⟨A4, (by have z : e4 = e2 := z; rw [← z]; exact I4)⟩⟩
          · cases p
      · cases p
    · rw [List.drop_eq_nil_of_le (by omega)] at p
      cases p
  · cases e
/-- own lists shared ahead of a statement that raises -/
def xFrz (i : Nat) (f : XX) : XX := fun en => match en[i]? with
  | some (some (.ow none (.ls ds))) => f (en.set i (some (.sh (.list ds))))
  | _ => f en
theorem mx_frz {i : Nat} (h : MX K t1 x1) : MX K t1 (xFrz i x1) := fun en x en' e => by
  unfold xFrz at e
  split at e
  · rename_i ds hi
    exact fun A0 Hs A H σ I W k F => by
      obtain ⟨A', I'⟩ := I.freeze hi
      exact h _ _ _ e A0 Hs A' H σ I' W k F
  · exact h _ _ _ e
end
/-! X('m'): a class without fields -/
section
variable {K : Fg}
def mMk0 (nm : Str) : En → Option Exn := fun _ => some ⟨nm, []⟩
def tMk0 (K : Fg) (nm : Str) : L2.St → Hp → XK → Prop := fun _ H Q => Q (.ref (K.cl nm)) none H
theorem mk_e0 {nm : Str} (c : ∃ C, K.Gv nm = .ref C) : MXk K (tMk0 K nm) (mMk0 nm) := fun en x e => by
  cases e
  obtain ⟨C, hC⟩ := c
  exact fun A0 Hs A H σ I Q k => k _ _ H (Grow.refl H) ⟨C, hC, by rw [cl_of hC], .inl ⟨rfl, rfl⟩⟩
theorem mk_e0x {nm : Str} (c : ∃ C, K.Gv nm = .ref C ∧ PySem.W.exmOne K (.ref C) (.ref C) = some true) : MXk K (tMk0 K nm) (mMk0 nm) := mk_e0 (by
  obtain ⟨C, h, _⟩ := c
  exact ⟨C, h⟩)
/-- a class without fields, ready to be made -/
structure Cal0 (P : Program) (w : World) (K : Fg) (mg : Str → Option Value) (base : Heap) (nm : Str) : Prop where
  ex : ∃ C, K.Gv nm = .ref C ∧ mg nm = some (.ref C) ∧ PySem.W.keepIn K (.ref C) = true ∧ PySem.W.subIn K (.ref C) (.type "BaseException") = some true ∧ PySem.W.typeIn K (.ref C) = some (.type "type") ∧ ∃ (B newId initId : String) (bmB : List Value), ExcBaseFacts B newId initId bmB ∧ PySem.W.excIn K C bmB newId = true
end
section
variable {X : Cx}
theorem pmk_e0 {nm m : Str} {j : Nat} {p p2 pos : Pos} {T : Addr → Prop} {Gv : Str → V} (c : Cal0 X.prog X.w ⟨X.K, T, Gv, X.w⟩ X.mg X.base nm) (hg : Gl X nm) (hdb : (nm == ("__debug__" : Str)) = false := by decide) : PMk X (.Call (.Name nm p) [.Constant (.str m) j p2] [] pos) (tMk0 ⟨X.K, T, Gv, X.w⟩ nm) := by
  obtain ⟨C, hC, hm, hk, hb, ht, B, newId, initId, bmB, F, q⟩ := c.ex
  have := pmk_own (x := nm) (m := m) (j := j) (p := p) (p2 := p2) (pos := pos) F q hm hk (raises_own hb ht) hg hdb
  unfold tMk0
  rw [cl_of hC]
  exact this
end
end HF

set_option Elab.async false
set_option linter.all false
set_option maxRecDepth 100000
set_option maxHeartbeats 2000000
/-! HF29: all, any of a list of bools; reversed(range(..)). -/
namespace HF
open PySem L2 PySem.Spec PyProof.Rows
def boolsOf : List D → Option (List Bool)
  | [] => some []
  | .bool b :: ds => (boolsOf ds).map (b :: ·)
  | _ :: _ => none
@[simp] theorem boolsOf_map : ∀ bs : List Bool, boolsOf (bs.map .bool) = some bs
  | [] => rfl
  | b :: bs => by rw [List.map_cons, boolsOf, boolsOf_map bs]; rfl
theorem boolsOf_eq : ∀ {ds : List D} {bs : List Bool}, boolsOf ds = some bs → ds = bs.map .bool
  | [], bs, h => by cases h; rfl
  | .bool i :: ds, bs, h => by
    rw [boolsOf] at h
    obtain ⟨ms, h1, rfl⟩ := Option.map_eq_some_iff.mp h
    rw [boolsOf_eq h1]; rfl
  | .none :: ds, _, h => by cases h
  | .int _ :: ds, _, h => by cases h
  | .str _ :: ds, _, h => by cases h
  | .list _ :: ds, _, h => by cases h
  | .tuple _ :: ds, _, h => by cases h
  | .dict _ :: ds, _, h => by cases h
def clAll : List D → Option D
  | [.list xs] => (boolsOf xs).map fun bs => .bool (bs.all id)
  | _ => none
def clAny : List D → Option D
  | [.list xs] => (boolsOf xs).map fun bs => .bool (bs.any id)
  | _ => none
section
variable {K : Fg}
theorem rc_all {bs : List Bool} : RDC K (rAll K) [.list (bs.map .bool)] (.bool (bs.all id)) := fun A H vs l hd Q k => by
  cases hd with
  | cons h t =>
    cases t
    obtain ⟨a, us, rfl, ha, da⟩ := dp_lst h
    exact ⟨_, bs, rfl, by rw [← dpa_bls da]; exact (sx_mono hide_sub ha).sl, k _ H (Grow.refl H) (.bl _)⟩
theorem rc_any {bs : List Bool} : RDC K (rAny K) [.list (bs.map .bool)] (.bool (bs.any id)) := fun A H vs l hd Q k => by
  cases hd with
  | cons h t =>
    cases t
    obtain ⟨a, us, rfl, ha, da⟩ := dp_lst h
    exact ⟨_, bs, rfl, by rw [← dpa_bls da]; exact (sx_mono hide_sub ha).sl, k _ H (Grow.refl H) (.bl _)⟩
theorem mc_all : MCl K (rAll K) clAll := mcl_of fun ds z e => by
  unfold clAll at e
  split at e
  · obtain ⟨bs, h1, rfl⟩ := Option.map_eq_some_iff.mp e
    rw [boolsOf_eq h1]
    exact rc_all
  · cases e
theorem mc_any : MCl K (rAny K) clAny := mcl_of fun ds z e => by
  unfold clAny at e
  split at e
  · obtain ⟨bs, h1, rfl⟩ := Option.map_eq_some_iff.mp e
    rw [boolsOf_eq h1]
    exact rc_any
  · cases e
theorem x_clAll (bs : List Bool) : clAll [.list (bs.map .bool)] = some (.bool (bs.all id)) := by
  show Option.map _ (boolsOf (bs.map .bool)) = _
  rw [boolsOf_map]
  rfl
end
section
variable {K : Fg} {te : TE} {fe : XE} {en : En}
theorem ei_revR {n : Int} (h : EvD K te en (.int n)) (hn : -1000000 ≤ n ∧ n ≤ 1000000) : EvI K (iRevR (tRg1 te)) en (rngD 0 n.toNat).reverse := fun A0 Hs A H σ I R k =>
  h A0 Hs A H σ I _ fun v H1 g1 d1 => by
    have e := dp_int d1
    subst e
    refine ⟨n, rfl, by omega, by omega, by omega, by omega, k _ H1 g1 ?_⟩
    have hN : (n - 0).toNat = n.toNat := by rw [Int.sub_zero]
    rw [hN]
    have W := @walk_rangeC (0 + ((n.toNat : Nat) : Int) - 1) (-1) n.toNat
    have hl : (rngD 0 n.toNat).reverse.length = n.toNat := by rw [List.length_reverse, rngD_len]
    refine ⟨fun A1 H2 i l sm hi => W.goes i H2 (by rw [hl] at hi; exact hi) trivial, fun A1 H2 l sm => by rw [hl]; exact W.stops H2 trivial, fun A1 H2 i d x H3 l sm hi y => ?_⟩
    have hlt : i < n.toNat := by rw [← hl]; exact (List.getElem?_eq_some_iff.mp hi).1
    rw [List.getElem?_reverse (by rw [rngD_len]; exact hlt), rngD_len] at hi
    obtain ⟨_, rfl⟩ := rngD_get hi
    obtain ⟨rfl, rfl⟩ := W.yields i H2 x H3 hlt trivial y
    refine ⟨Grow.refl _, ?_⟩
    show Dq K _ (V.int ((0 + ((n.toNat : Nat) : Int) - 1) + ((i : Nat) : Int) * (-1))) _
    rw [show (0 + ((n.toNat : Nat) : Int) - 1) + ((i : Nat) : Int) * (-1) = 0 + ((n.toNat - 1 - i : Nat) : Int) by omega]
    exact .int _
def mRevR (f : XE) : XA := fun en => match f en with
  | some (.int n) => if -1000000 ≤ n ∧ n ≤ 1000000 then some (rngD 0 n.toNat).reverse else none
  | _ => none
theorem mi_revR (h : ME K te fe) : MI K (iRevR (tRg1 te)) (mRevR fe) := fun en ds e => by
  unfold mRevR at e
  split at e
  · split at e
    · rename_i hh
      cases e
      exact ei_revR (h en _ (by assumption)) hh
    · cases e
  · cases e
def revRO : Option D → Option (List D)
  | some (.int n) => if -1000000 ≤ n ∧ n ≤ 1000000 then some (rngD 0 n.toNat).reverse else none
  | _ => none
theorem x_revR : mRevR fe en = revRO (fe en) := by unfold mRevR revRO; rfl
theorem x_revR1 {n : Int} (h : -1000000 ≤ n ∧ n ≤ 1000000) : revRO (some (.int n)) = some (rngD 0 n.toNat).reverse := if_pos h
end
/-! x = [..] if c else x, x an own list -/
section
variable {K : Fg} {tt : TT} {te : TE} {ft : XT} {fn : XA} {i : Nat}
def mAsgSelf (i : Nat) (ft : XT) (fn : XA) : XS := fun en => match ft en with
  | some true => (match fn en with
    | some ds => some (.nx (en.set i (some (.ow none (.ls ds)))))
    | none => none)
  | some false => (match en[i]? with
    | some (some (.ow none (.ls _))) => some (.nx en)
    | _ => none)
  | none => none
theorem ms_asgSelf (ht : MT K tt ft) (hn : MN K te fn) : MS K (tAsg (tIf tt te (tVar i)) (gName i)) (mAsgSelf i ft fn) := fun en o e => by
  unfold mAsgSelf at e
  split at e
  · rename_i hb
    split at e
    · rename_i ds hd
      cases e
      refine fun A0 Hs A H σ I F f => ht _ _ hb A0 Hs A H σ I _ fun H1 g1 => ?_
      rw [if_pos rfl]
      exact s_asgN (hn en ds hd) rfl A0 Hs A H1 σ (I.grow g1) F f
    · cases e
  · rename_i hb
    split at e
    · rename_i ds hi
      cases e
      refine fun A0 Hs A H σ I F f => ht _ _ hb A0 Hs A H σ I _ fun H1 g1 => ?_
      rw [if_neg (by decide)]
      obtain ⟨v, hv, p, vs, rfl, _⟩ := (I.grow g1).ols hi
      refine ⟨.ref p, hv, ?_⟩
      have e : σ.set i (some (.ref p)) = σ := by
        apply List.ext_getElem?
        intro j
        by_cases h : i = j
        · subst h
          have hl := (List.getElem?_eq_some_iff.mp hv).1
          rw [List.getElem?_set_self hl, hv]
        · rw [List.getElem?_set_ne h]
      show F.nx (σ.set i (some (.ref p))) H1
      rw [e]
      exact f.nx A H1 σ _ (I.grow g1) rfl
    · cases e
  · cases e
theorem asgSelf_t {en : En} {ds : List D} (h : ft en = some true) (h2 : fn en = some ds) : mAsgSelf i ft fn en = some (.nx (en.set i (some (.ow none (.ls ds))))) := by
  unfold mAsgSelf
  rw [h]
  simp only []
  rw [h2]
theorem asgSelf_f {en : En} {ds : List D} (h : ft en = some false) (h2 : en[i]? = some (some (.ow none (.ls ds)))) : mAsgSelf i ft fn en = some (.nx en) := by
  unfold mAsgSelf
  rw [h]
  simp only []
  rw [h2]
end
end HF

set_option Elab.async false
set_option linter.all false
set_option maxRecDepth 100000
set_option maxHeartbeats 2000000
/-! HF30: or, and of any values. -/
namespace HF
open PySem L2 PySem.Spec PyProof.Rows
section
variable {K : Fg} {ta tb : TE} {fa fb : XE}
theorem tru_of {A : Addr → Bool} {H : Hp} {v : V} {x : D} (d1 : Dq K (hide A H) v x) (ho : truOk x) : TruV K v H (truD x) := by
  cases d1 with
  | non => rfl
  | bl b => rfl
  | int i => rfl
  | str z => exact ⟨ho, rfl⟩
  | lst h' a => exact .inl ⟨_, (sx_mono hide_sub h').sl, by rw [isEmpty_len (dpa_len a)]; rfl⟩
  | tup h' a => exact .inr (.inl ⟨_, st_mono hide_sub h', by rw [isEmpty_len (dpa_len a)]; rfl⟩)
  | obj _ _ _ _ => exact ho.elim
  | dik _ _ _ => exact ho.elim
  | dit _ _ _ _ _ => exact ho.elim
  | fn _ => exact ho.elim
def mOrT (fa fb : XE) : XE := fun en => match fa en with
  | some x => (match truM x with
    | some true => some x
    | some false => fb en
    | none => none)
  | none => none
theorem me_orT (ha : ME K ta fa) (hb : ME K tb fb) : ME K (tOrT K ta tb) (mOrT fa fb) := fun en d e => by
  unfold mOrT at e
  split at e
  · rename_i x hx
    split at e
    · rename_i ht
      cases e
      obtain ⟨h1, h2⟩ := truM_ok ht
      exact fun A0 Hs A H σ I Q k => ha en _ hx A0 Hs A H σ I _ fun v H1 g1 d1 => ⟨true, by rw [← h2]; exact tru_of d1 h1, by rw [if_pos rfl]; exact k v H1 g1 d1⟩
    · rename_i ht
      obtain ⟨h1, h2⟩ := truM_ok ht
      exact fun A0 Hs A H σ I Q k => ha en _ hx A0 Hs A H σ I _ fun v H1 g1 d1 => ⟨false, by rw [← h2]; exact tru_of d1 h1, by rw [if_neg (by decide)]; exact hb en _ e A0 Hs A H1 σ (I.grow g1) Q fun v H2 g2 d2 => k v H2 (g1.trans g2) d2⟩
    · cases e
  · cases e
def mAndT (fa fb : XE) : XE := fun en => match fa en with
  | some x => (match truM x with
    | some true => fb en
    | some false => some x
    | none => none)
  | none => none
theorem me_andT (ha : ME K ta fa) (hb : ME K tb fb) : ME K (tAndT K ta tb) (mAndT fa fb) := fun en d e => by
  unfold mAndT at e
  split at e
  · rename_i x hx
    split at e
    · rename_i ht
      obtain ⟨h1, h2⟩ := truM_ok ht
      exact fun A0 Hs A H σ I Q k => ha en _ hx A0 Hs A H σ I _ fun v H1 g1 d1 => ⟨true, by rw [← h2]; exact tru_of d1 h1, by rw [if_pos rfl]; exact hb en _ e A0 Hs A H1 σ (I.grow g1) Q fun v H2 g2 d2 => k v H2 (g1.trans g2) d2⟩
    · rename_i ht
      cases e
      obtain ⟨h1, h2⟩ := truM_ok ht
      exact fun A0 Hs A H σ I Q k => ha en _ hx A0 Hs A H σ I _ fun v H1 g1 d1 => ⟨false, by rw [← h2]; exact tru_of d1 h1, by rw [if_neg (by decide)]; exact k v H1 g1 d1⟩
    · cases e
  · cases e
def orTO (g : XE) (en : En) : Option D → Option D
  | some x => (match truM x with
    | some true => some x
    | some false => g en
    | none => none)
  | none => none
theorem x_orT {en : En} : mOrT fa fb en = orTO fb en (fa en) := by unfold mOrT orTO; cases fa en <;> rfl
theorem orT_t {en : En} {x : D} (h : truM x = some true) : orTO fb en (some x) = some x := by
  unfold orTO
  simp only []
  rw [h]
theorem orT_f {en : En} {x : D} (h : truM x = some false) : orTO fb en (some x) = fb en := by
  unfold orTO
  simp only []
  rw [h]
end
end HF

set_option Elab.async false
set_option linter.all false
set_option maxRecDepth 100000
set_option maxHeartbeats 2000000
/-! HF31: >= of tuples of ints. -/
namespace HF
open PySem L2 PySem.Spec PyProof.Rows
def geB (ns ms : List Int) : Bool := Ob.lexAt (fun j => decide (ns.getD j 0 = ms.getD j 0)) (fun j => decide (ms.getD j 0 ≤ ns.getD j 0)) (decide (ns.length ≥ ms.length)) 0 (min ns.length ms.length)
def rGeT (K : PySem.W.Frag) : R2 := fun x y H Q => ∃ (a b : Addr) (ns ms : List Int), x = .ref a ∧ y = .ref b ∧ SqT K H a (ns.map V.int) ∧ SqT K H b (ms.map V.int) ∧ Q (.bl (geB ns ms)) H
theorem op_geT {X : Cx} (hu : X.A.units < cLine) : OpR X (compareOp .GtE) (rGeT X.K) := by
  intro pins s σ H x y v u Q I rx ry h
  obtain ⟨a, b, ns, ms, rfl, rfl, ha, hb, q⟩ := h
  cases rx
  cases ry
  obtain ⟨its, r1, p1, _⟩ := I.tuple ha
  obtain ⟨its2, r2, p2, _⟩ := I.tuple hb
  have i1 : IntsAre its ns := Vals.ints r1
  have i2 : IntsAre its2 ms := Vals.ints r2
  have e1 : its.toArray.size = ns.length := by rw [List.size_toArray]; exact i1.length
  have e2 : its2.toArray.size = ms.length := by rw [List.size_toArray]; exact i2.length
  have at1 : ∀ j (h1 : j < its.toArray.size), ∃ t, its.toArray[j] = .int (ns.getD j 0) t := fun j h1 => PyProof.Rows.IntsAre.int_at i1 _ _ (by simp at h1; simp [h1])
  have at2 : ∀ j (h1 : j < its2.toArray.size), ∃ t, its2.toArray[j] = .int (ms.getD j 0) t := fun j h1 => PyProof.Rows.IntsAre.int_at i2 _ _ (by simp at h1; simp [h1])
  have R := Ob.RcOp.tuples_ge (A := X.A) (s := s) (e := fun j => decide (ns.getD j 0 = ms.getD j 0)) (r := fun j => decide (ms.getD j 0 ≤ ns.getD j 0)) p1 p2 hu (fun j h1 h2 => by
    obtain ⟨t, et⟩ := at1 j h1
    obtain ⟨t', et'⟩ := at2 j h2
    rw [et, et']
    have z : (ns.getD j 0 == ms.getD j 0) = decide (ns.getD j 0 = ms.getD j 0) := by
      by_cases q : ns.getD j 0 = ms.getD j 0
      · rw [decide_eq_true q]; exact beq_iff_eq.mpr q
      · rw [decide_eq_false q]; exact beq_eq_false_iff_ne.mpr q
    rw [← z]
    exact SeqAt.EqAt.int_int _ _ _ _) (fun j h1 h2 _ => by
    obtain ⟨t, et⟩ := at1 j h1
    obtain ⟨t', et'⟩ := at2 j h2
    rw [et, et']
    exact Ob.RcOp.ge_int _ _ _ _)
  rw [e1, e2] at R
  exact R X.prog X.w X.xe (EP X pins σ Q) ⟨.bl _, H, I, rfl, q⟩
theorem geB_eq (a b : List Int) : geB a b = !HT.lexLt a b := by
  rw [← leB_eq]
  unfold geB leB
  rw [Nat.min_comm]
  congr 1
  funext j
  exact decide_eq_decide.mpr eq_comm
def rGeV (K : PySem.W.Frag) : R2 := rOrU rGeU (rGeT K)
theorem op_geV {X : Cx} (hu : X.A.units < cLine) : OpR X (compareOp .GtE) (rGeV X.K) := op_or2 op_geU (op_geT hu)
section
variable {K : Fg}
theorem rd_geT {ns ms : List Int} : RD2 K (rGeV K) (.tuple (ns.map .int)) (.tuple (ms.map .int)) (.bool (geB ns ms)) := rd_right fun A H v w l hx hy Q k => by
  obtain ⟨a, us, rfl, ha, da⟩ := dp_tup hx
  obtain ⟨b, ws, rfl, hb, db⟩ := dp_tup hy
  rw [dpa_ints da] at ha
  rw [dpa_ints db] at hb
  exact ⟨a, b, ns, ms, rfl, rfl, st_mono hide_sub ha, st_mono hide_sub hb, k _ H (Grow.refl H) (.bl _)⟩
def opGeV : D → D → Option D
  | .int a, .int b => some (.bool (decide (b ≤ a)))
  | .str a, .str b => some (.bool (!decide (a.cps.toList < b.cps.toList)))
  | .tuple a, .tuple b => match intsOf a, intsOf b with
    | some a, some b => some (.bool (!HT.lexLt a b))
    | _, _ => none
  | _, _ => none
theorem mo_geV : MOp K (rGeV K) opGeV := mo_of fun x y z e => by
  unfold opGeV at e
  split at e
  · cases e; exact rd_left rd_geI
  · cases e; exact rd_left rd_geS
  · split at e
    · rename_i h1 h2
      cases e
      rw [intsOf_eq h1, intsOf_eq h2, ← geB_eq]
      exact rd_geT
    · cases e
  · cases e
theorem geV_t (a b : List Int) : opGeV (.tuple (a.map .int)) (.tuple (b.map .int)) = some (.bool (!HT.lexLt a b)) := by
  show (match intsOf (a.map .int), intsOf (b.map .int) with
    | some a, some b => some (PyData.bool (!HT.lexLt a b))
    | _, _ => none) = _
  rw [intsOf_map, intsOf_map]
end
end HF

set_option Elab.async false
set_option linter.all false
set_option maxRecDepth 100000
set_option maxHeartbeats 2000000
/-! HF32: dicts whose keys are tuples, nested ones too: rules over the abstract heap. -/
namespace HF
open PySem L2 PySem.Spec PyProof.Rows
abbrev Ent := NestedKey × V × V
/-- the value y is the key k -/
def IsK (K : Fg) (H : Hp) (y : V) (k : NestedKey) : Prop := ∃ d, Dq K H y d ∧ keyT d = some k
theorem IsK.mono {K : Fg} {H H' : Hp} {y : V} {k : NestedKey} (h : IsK K H y k) (e : Same H H') : IsK K H' y k := let ⟨d, a, b⟩ := h; ⟨d, dp_mono e a, b⟩
def valN (es : List Ent) (k : NestedKey) : Option V := (es.find? fun e => decide (e.1 = k)).map (·.2.2)
def putN (es : List Ent) (k : NestedKey) (y v : V) : List Ent := if (es.any fun e => decide (e.1 = k)) = true then es.map (fun e => if e.1 = k then (e.1, e.2.1, v) else e) else es ++ [(k, y, v)]
def dropN (es : List Ent) (k : NestedKey) : List Ent := es.filter fun e => decide (e.1 ≠ k)
def DctK (K : Fg) (H : Hp) (a : Addr) (o : Obj) (es : List Ent) : Prop := H a = some (DctO K.w a o es) ∧ ∀ e ∈ es, IsK K H e.2.1 e.1
abbrev NP : List Ent → List (NestedKey × Addr × Value) → Prop := Paired fun e x => e.1 = x.1 ∧ e.2.1 = .ref x.2.1 ∧ RelV e.2.2 x.2.2
theorem keyT_eq {d : D} {k : NestedKey} (h : keyT d = some k) : ∃ ds ks, d = .tuple ds ∧ keyNs ds = some ks ∧ k = .tup ks ∧ k.depth ≤ 8 := by
  cases d with
  | tuple ds =>
    rw [keyT] at h
    cases hk : keyNs ds with
    | none => rw [hk] at h; cases h
    | some ks =>
      rw [hk] at h
      have h : (if (NestedKey.tup ks).depth ≤ 8 then some (NestedKey.tup ks) else none) = some k := h
      split at h
      · rename_i hd
        cases h
        exact ⟨ds, ks, rfl, hk, rfl, hd⟩
      · cases h
  | _ => cases h
theorem IsK.ref {K : Fg} {H : Hp} {y : V} {k : NestedKey} (h : IsK K H y k) : ∃ b, y = .ref b := by
  obtain ⟨d, hd, hk⟩ := h
  obtain ⟨ds, ks, rfl, _, _, _⟩ := keyT_eq hk
  obtain ⟨a, xs, rfl, _, _⟩ := dp_tup hd
  exact ⟨a, rfl⟩
section
variable {X : Cx} {pins : List (Addr × Obj)} {σ : L2.St} {H : Hp} {s : Shared} {a b : Addr} {o : Obj} {es : List Ent} {T : Addr → Prop} {Gv : Str → V} {A : Around} {E : Value → Shared → Prop} {k : NestedKey}
mutual
theorem nested_of (I : Inv X pins σ H s) : ∀ {v : V} {d : D}, Dq ⟨X.K, T, Gv, X.w⟩ H v d → ∀ {k : NestedKey} {u : Value}, keyN d = some k → RelV v u → NestedIs s.heap k u
  | _, _, .non, k, u, e, r => by
    rw [keyN] at e
    cases e
    cases r
    exact .none
  | _, _, .bl b, k, u, e, r => by
    rw [keyN] at e
    cases e
    cases r
    exact .bool rfl
  | _, _, .int i, k, u, e, r => by
    rw [keyN] at e
    cases e
    obtain ⟨t, rfl⟩ := r
    exact .int _ _
  | _, _, .str x, k, u, e, r => by
    rw [keyN] at e
    cases e
    obtain ⟨t, rfl⟩ := r
    exact .text _ _
  | _, _, .tup h hs, k, u, e, r => by
    rw [keyN] at e
    obtain ⟨ks, hk, rfl⟩ := Option.map_eq_some_iff.mp e
    cases r
    obtain ⟨its, vs, ⟨ob, h1, h2, n, h3⟩, _⟩ := I.tuple h
    exact .tup h1 h2 h3 (by simpa using nesteds_of I hs hk vs)
  | _, _, .lst _ _, k, u, e, r => by rw [keyN] at e; cases e
  | _, _, .obj _ _ _ _ _, k, u, e, r => by rw [keyN] at e; cases e
  | _, _, .dik _ _ _, k, u, e, r => by rw [keyN] at e; cases e
  | _, _, .dit _ _ _ _ _, k, u, e, r => by rw [keyN] at e; cases e
  | _, _, .fn _, k, u, e, r => by rw [keyN] at e; cases e
theorem nesteds_of (I : Inv X pins σ H s) : ∀ {vs : List V} {ds : List D}, DqAll ⟨X.K, T, Gv, X.w⟩ H vs ds → ∀ {ks : List NestedKey} {us : List Value}, keyNs ds = some ks → Vals vs us → NestedAll s.heap ks us
  | _, _, .nil, ks, us, e, r => by
    rw [keyNs] at e
    cases e
    cases r
    exact .nil
  | _, _, .cons (d := d) h t, ks, us, e, r => by
    rw [keyNs] at e
    cases hk : keyN d with
    | none => rw [hk] at e; cases e
    | some k =>
      rw [hk] at e
      obtain ⟨ks', hk', rfl⟩ := Option.map_eq_some_iff.mp e
      cases r with
      | cons r1 r2 => exact .cons (nested_of I h hk r1) (nesteds_of I t hk' r2)
end
theorem isK_at (I : Inv X pins σ H s) {y : V} (h : IsK ⟨X.K, T, Gv, X.w⟩ H y k) : ∃ b, y = .ref b ∧ (nestedKind X.prog X.w).is s.heap k b := by
  obtain ⟨b, rfl⟩ := h.ref
  obtain ⟨d, hd, hk⟩ := h
  obtain ⟨ds, ks, rfl, h1, rfl, h2⟩ := keyT_eq hk
  refine ⟨b, rfl, nested_of I hd (by rw [keyN, h1]; rfl) rfl, h2⟩
theorem NP.val {es : List Ent} {xs : List (NestedKey × Addr × Value)} (r : NP es xs) (k : NestedKey) : RelO (valN es k) ((atKey xs k).map (·.2)) := by
  induction r with
  | nil => exact True.intro
  | @cons p q ps qs h t ih =>
    obtain ⟨h1, _, h2⟩ := h
    by_cases e : p.1 = k
    · have e' : q.1 = k := h1.symm.trans e
      have b : atKey (q :: qs) k = some q.2 := by simp [atKey, List.find?_cons, e']
      have c : valN (p :: ps) k = some p.2.2 := by simp [valN, List.find?_cons, e]
      rw [c, b]; exact h2
    · have e' : ¬ q.1 = k := fun z => e (h1.trans z)
      have b : atKey (q :: qs) k = atKey qs k := by simp [atKey, List.find?_cons, e']
      have c : valN (p :: ps) k = valN ps k := by simp [valN, List.find?_cons, e]
      rw [c, b]; exact ih
theorem NP.len {es : List Ent} {xs : List (NestedKey × Addr × Value)} (r : NP es xs) : es.length = xs.length := Paired.length r
theorem NP.keys {es : List Ent} {xs : List (NestedKey × Addr × Value)} (r : NP es xs) : es.map (·.1) = xs.map (·.1) := by
  induction r with
  | nil => rfl
  | cons h t ih => rw [List.map_cons, List.map_cons, h.1, ih]
theorem NP.put {es : List Ent} {xs : List (NestedKey × Addr × Value)} (r : NP es xs) (k : NestedKey) {b : Addr} {v : V} {u : Value} (rv : RelV v u) : NP (putN es k (.ref b) v) (storedH xs k b u) := by
  have e : (es.any fun e => decide (e.1 = k)) = (atKey xs k).isSome := by
    induction r with
    | nil => rfl
    | @cons p q ps qs h t ih =>
      obtain ⟨h1, _, h2⟩ := h
      by_cases e : p.1 = k
      · have e' : q.1 = k := h1.symm.trans e
        simp [atKey, List.find?_cons, e', e]
      · have e' : ¬ q.1 = k := fun z => e (h1.trans z)
        have b : atKey (q :: qs) k = atKey qs k := by simp [atKey, List.find?_cons, e']
        rw [b, List.any_cons, decide_eq_false e, Bool.false_or]; exact ih
  unfold putN storedH
  rw [e]
  by_cases q : (atKey xs k).isSome = true
  · rw [if_pos q, if_pos q]
    clear e q
    induction r with
    | nil => exact .nil
    | @cons p q ps qs h t ih =>
      rw [List.map_cons, List.map_cons]
      refine .cons ?_ ih
      obtain ⟨h1, h2, h3⟩ := h
      unfold putAt
      by_cases e : p.1 = k
      · rw [if_pos e, if_pos (h1.symm.trans e)]; exact ⟨h1, h2, rv⟩
      · rw [if_neg e, if_neg (fun z => e (h1.trans z))]; exact ⟨h1, h2, h3⟩
  · rw [if_neg q, if_neg q]; exact Paired.snoc r ⟨rfl, rfl, rv⟩
theorem NP.drop {es : List Ent} {xs : List (NestedKey × Addr × Value)} (r : NP es xs) (k : NestedKey) : NP (dropN es k) (withoutH xs k) := by
  unfold dropN withoutH
  induction r with
  | nil => exact .nil
  | @cons p q ps qs h t ih =>
    by_cases e : p.1 = k
    · have e' : q.1 = k := h.1.symm.trans e
      rw [List.filter_cons_of_neg (by simpa using e), List.filter_cons_of_neg (by simpa using e')]
      exact ih
    · have e' : ¬ q.1 = k := fun z => e (h.1.trans z)
      rw [List.filter_cons_of_pos (by simpa using e), List.filter_cons_of_pos (by simpa using e')]
      exact .cons h ih
theorem putN_len (es : List Ent) (k : NestedKey) (y v : V) : (putN es k y v).length ≤ es.length + 1 := by
  unfold putN
  split
  · rw [List.length_map]; omega
  · simp
/-- the dict as the heap has it -/
theorem dct_at (I : Inv X pins σ H s) (h : DctK ⟨X.K, T, Gv, X.w⟩ H a o es) : es.length ≤ sizeLine ∧ (a == sysModules) = false ∧ s.heap.get? a = some o ∧ ∃ xs, NP es xs ∧ s.heap.DictOfH (nestedKind X.prog X.w) a xs := by
  obtain ⟨e, hk⟩ := h
  obtain ⟨⟨h1, h2, h3, h4, h5, ds, ep, h6, h7⟩, _⟩ := I.hok a _ e
  have key : ∀ {es : List Ent} {ds : List DictEntry}, (∀ e ∈ es, IsK ⟨X.K, T, Gv, X.w⟩ H e.2.1 e.1) → Paired (fun (e : Ent) (d : DictEntry) => d.hash = e.1.hash X.w ∧ RelV e.2.1 d.key ∧ RelV e.2.2 d.val) es ds →
      ∃ xs, NP es xs ∧ ds = xs.map (entryOfKey (nestedKind X.prog X.w)) ∧ ∀ x ∈ xs, (nestedKind X.prog X.w).is s.heap x.1 x.2.1 := by
    intro es ds hk r
    induction r with
    | nil => exact ⟨[], .nil, rfl, fun x hx => nomatch hx⟩
    | @cons p q ps qs h t ih =>
      obtain ⟨xs, n1, n2, n3⟩ := ih fun e he => hk e (List.mem_cons_of_mem _ he)
      obtain ⟨c, hc, hi⟩ := isK_at I (hk p List.mem_cons_self)
      obtain ⟨r1, r2, r3⟩ := h
      rw [hc] at r2
      obtain ⟨qh, qk, qv⟩ := q
      have r1 : qh = p.1.hash X.w := r1
      have r2 : qk = .ref c := r2
      subst r1 r2
      refine ⟨(p.1, c, qv) :: xs, .cons ⟨rfl, hc, r3⟩ n1, by rw [List.map_cons, ← n2]; rfl, fun x hx => ?_⟩
      rcases List.mem_cons.mp hx with e | hx
      · rw [e]; exact hi
      · exact n3 x hx
  obtain ⟨xs, n1, n2, n3⟩ := key hk h7
  exact ⟨h3, h4, h1, xs, n1, o, ds, ep, h1, h2, h6, n2, n3, by rw [← n1.keys]; exact h5⟩
theorem dct_new {P : Program} {w : World} {H' : Hp} {h' : Heap} {xs : List (NestedKey × Addr × Value)} (hz : es.length ≤ sizeLine) (hd : (a == sysModules) = false) (np : NP es xs) (dd : h'.DictOfH (nestedKind P w) a xs) :
    ∃ o', h'.get? a = some o' ∧ ObjOk P w H' h' a (DctO w a o' es) := by
  obtain ⟨o', ds, ep, h1, h2, h3, h4, h5, h6⟩ := dd
  refine ⟨o', h1, ⟨h1, h2, hz, hd, by rw [np.keys]; exact h6, ds, ep, h3, ?_⟩, ⟨o', h1⟩, fun g1 g2 p k => ⟨k _ p.1, p.2⟩⟩
  rw [h4]
  clear h4 h5 h6 hz
  induction np with
  | nil => exact .nil
  | @cons p q ps qs h t ih =>
    rw [List.map_cons]
    refine .cons ⟨?_, ?_, h.2.2⟩ ih
    · show q.1.hash w = _
      rw [h.1]
    · rw [h.2.1]; rfl
theorem room_in1 {prog : Program} {w : World} (hu : A.units + 9 < cLine) : (nestedKind prog w).room A.in1 := by
  show A.units + 1 + 8 < cLine
  omega
theorem dn_getItem {Q : Value → Shared → Prop} {y v : V} {u : Value} (hu : A.units + 9 < cLine) (I : Inv X pins σ H s) (h : DctK ⟨X.K, T, Gv, X.w⟩ H a o es) (hk : IsK ⟨X.K, T, Gv, X.w⟩ H y k) (hv : valN es k = some v) (ry : RelV y u)
    (q : ∀ w' s', Inv X pins σ H s' → RelV v w' → Q w' s') : wpAny (model X.prog X.w) A (getItem (.ref a) u) Q E s := by
  obtain ⟨b, rfl, hb⟩ := isK_at I hk
  cases ry
  obtain ⟨_, _, _, xs, np, dd⟩ := dct_at I h
  obtain ⟨w', hw, rw'⟩ := RelO.some_of (v := v) (o := (atKey xs k).map (·.2)) (by rw [← hv]; exact np.val k)
  obtain ⟨p, hp, hp2⟩ := Option.map_eq_some_iff.mp hw
  refine wpAny_getItem_heap (room_in1 hu) hb dd hp ?_
  rw [hp2]
  exact q w' _ (I.tok _) rw'
theorem dn_in {Q : Value → Shared → Prop} {y : V} {u : Value} (hu : A.units + 9 < cLine) (I : Inv X pins σ H s) (h : DctK ⟨X.K, T, Gv, X.w⟩ H a o es) (hk : IsK ⟨X.K, T, Gv, X.w⟩ H y k) (ry : RelV y u)
    (q : ∀ s', Inv X pins σ H s' → Q (.bool (valN es k).isSome) s') : wpAny (model X.prog X.w) A (compareOp .In u (.ref a)) Q E s := by
  obtain ⟨b, rfl, hb⟩ := isK_at I hk
  cases ry
  obtain ⟨_, hd, _, xs, np, dd⟩ := dct_at I h
  refine wpAny_in_heap (room_in1 hu) hb hd dd ?_
  have e := (np.val k).isSome_eq
  rw [Option.isSome_map] at e
  rw [← e]
  exact q _ (I.tok _)
theorem dn_notIn {Q : Value → Shared → Prop} {y : V} {u : Value} (hu : A.units + 9 < cLine) (I : Inv X pins σ H s) (h : DctK ⟨X.K, T, Gv, X.w⟩ H a o es) (hk : IsK ⟨X.K, T, Gv, X.w⟩ H y k) (ry : RelV y u)
    (q : ∀ s', Inv X pins σ H s' → Q (.bool (!(valN es k).isSome)) s') : wpAny (model X.prog X.w) A (compareOp .NotIn u (.ref a)) Q E s := by
  obtain ⟨b, rfl, hb⟩ := isK_at I hk
  cases ry
  obtain ⟨_, hd, _, xs, np, dd⟩ := dct_at I h
  refine wpAny_notIn_heap (room_in1 hu) hb hd dd ?_
  have e := (np.val k).isSome_eq
  rw [Option.isSome_map] at e
  rw [← e]
  exact q _ (I.tok _)
theorem dn_setItem {Q : Unit → Shared → Prop} {y v : V} {u r : Value} (hu : A.units + 9 < cLine) (I : Inv X pins σ H s) (h : DctK ⟨X.K, T, Gv, X.w⟩ H a o es) (hk : IsK ⟨X.K, T, Gv, X.w⟩ H y k) (hl : es.length < sizeLine) (ry : RelV y u) (rv : RelV v r)
    (q : ∀ o' s', Inv X pins σ (upd H a (DctO X.w a o' (putN es k y v))) s' → Q () s') : wpAny (model X.prog X.w) A (setItem (.ref a) u r) Q E s := by
  obtain ⟨b, rfl, hb⟩ := isK_at I hk
  cases ry
  obtain ⟨hz, hd, _, xs, np, dd⟩ := dct_at I h
  refine wpAny_setItem_heap (hsz := by rw [← np.len]; exact hz) (room_in1 hu) hb dd fun h' dd' hs => ?_
  obtain ⟨o', ho', ok'⟩ := dct_new (w := X.w) (P := X.prog) (H' := upd H a (DctO X.w a o (putN es k (.ref b) v))) (by have := putN_len es k (.ref b) v; omega) hd (np.put k rv) dd'
  refine q o' _ (d_write I (by rw [h.1]; exact True.intro) hs ⟨o', ho'⟩ ?_)
  exact ok'
theorem dn_pop {Q : Value → Shared → Prop} {y v : V} {u : Value} {more : List Value} (hu : A.units + 9 < cLine) (hm : more = [] ∨ ∃ x, more = [x]) (I : Inv X pins σ H s) (h : DctK ⟨X.K, T, Gv, X.w⟩ H a o es) (hk : IsK ⟨X.K, T, Gv, X.w⟩ H y k) (hv : valN es k = some v) (ry : RelV y u)
    (q : ∀ o' w' s', Inv X pins σ (upd H a (DctO X.w a o' (dropN es k))) s' → RelV v w' → Q w' s') : wpAny (model X.prog X.w) A (call (.builtin "dict.pop") (.ref a :: u :: more)) Q E s := by
  obtain ⟨b, rfl, hb⟩ := isK_at I hk
  cases ry
  obtain ⟨hz, hd, _, xs, np, dd⟩ := dct_at I h
  obtain ⟨w', hw, rw'⟩ := RelO.some_of (v := v) (o := (atKey xs k).map (·.2)) (by rw [← hv]; exact np.val k)
  obtain ⟨p, hp, hp2⟩ := Option.map_eq_some_iff.mp hw
  have ha : argsOk "dict.pop" ⟨.ref a :: .ref b :: more, []⟩ := by
    rcases hm with q | ⟨x, q⟩
    · subst q; exact PySem.F.args_dict_pop_2 _ _
    · subst q; exact PySem.F.args_dict_pop_3 _ _ _
  refine call_pop_heap (hsz := by rw [← np.len]; exact hz) hm ha (room_in1 hu) hb hd dd hp fun h' dd' hs => ?_
  obtain ⟨o', ho', ok'⟩ := dct_new (w := X.w) (P := X.prog) (H' := upd H a (DctO X.w a o (dropN es k))) (Nat.le_trans (List.length_filter_le _ _) hz) hd (np.drop k) dd'
  rw [hp2]
  exact q o' w' _ (d_write I (by rw [h.1]; exact True.intro) hs ⟨o', ho'⟩ ok') rw'
end
end HF

set_option Elab.async false
set_option linter.all false
set_option maxRecDepth 100000
set_option maxHeartbeats 2000000
/-! HF33: dicts: rules, readings over plain data. -/
namespace HF
open PySem L2 PySem.Spec PyProof.Rows
/-- what the dict at a, of either kind, holds at the key y -/
def DG (K : Fg) (H : Hp) (a : Addr) (y : V) (r : Option V) : Prop := DGet H a y r ∨ ∃ o es k, DctK K H a o es ∧ IsK K H y k ∧ r = valN es k
def IsDU (K : Fg) (H : Hp) (a : Addr) : Prop := IsD H a ∨ ∃ o es, H a = some (DctO K.w a o es)
def rGetG (K : Fg) : R2 := fun x y H Q => ∃ a v, x = .ref a ∧ DG K H a y (some v) ∧ Q v H
def rInG (K : Fg) : R2 := fun y x H Q => ∃ a r, x = .ref a ∧ DG K H a y r ∧ Q (.bl r.isSome) H
def rNotInG (K : Fg) : R2 := fun y x H Q => ∃ a r, x = .ref a ∧ DG K H a y r ∧ Q (.bl (!r.isSome)) H
def tDG2 (K : Fg) (td ty tx : TE) : TE := fun σ H Q => td σ H fun x H1 => ∃ a, x = .ref a ∧ IsDU K H1 a ∧ ty σ H1 fun y H2 => tx σ H2 fun z H3 => ∃ r, DG K H3 a y r ∧ Q (r.getD z) H3
def tPopG (K : Fg) (td ty : TE) : TE := fun σ H Q => td σ H fun x H1 => ∃ a, x = .ref a ∧ IsDU K H1 a ∧ ty σ H1 fun y H2 => ∃ o es k v, DctK K H2 a o es ∧ IsK K H2 y k ∧ valN es k = some v ∧ ∀ o', Q v (upd H2 a (DctO K.w a o' (dropN es k)))
def rSetN (K : Fg) : TSet := fun o i v H Q => ∃ a ob es k, o = .ref a ∧ DctK K H a ob es ∧ IsK K H i k ∧ es.length < sizeLine ∧ ∀ ob', Q (upd H a (DctO K.w a ob' (putN es k i v)))
def rSetG (K : Fg) : TSet := fun o i v H Q => rSetD o i v H Q ∨ rSetN K o i v H Q
def tNewT (K : Fg) : TE := fun _ H Q => ∀ p o, H p = none → Q (.ref p) (upd H p (DctO K.w p o []))
def ItN (w : World) (d : Addr) (o : Obj) (es : List Ent) : It :=
  ⟨fun i H => H d = some (DctO w d o es) ∧ i < es.length, fun i H x H' => H' = H ∧ ∃ e, es[i]? = some e ∧ x = e.2.1, fun i H => H d = some (DctO w d o es) ∧ es.length ≤ i⟩
def iKeysN (K : Fg) (td : TE) : TI := fun σ H R => td σ H fun x H1 => ∃ d o es, x = .ref d ∧ H1 d = some (DctO K.w d o es) ∧ R (ItN K.w d o es) H1
section
variable {X : Cx} {pins : List (Addr × Obj)} {σ : L2.St} {H : Hp} {s : Shared} {a : Addr} {T : Addr → Prop} {Gv : Str → V} {o i e f : Expr} {apos cpos pos : Pos} {td ty tx : TE} {k : Nat}
theorem isDU_at (I : Inv X pins σ H s) (d : IsDU ⟨X.K, T, Gv, X.w⟩ H a) : s.TypeIs (.ref a) "dict" ∧ (∀ b, Value.ref a = .ref b → ∃ ob, s.heap.get? b = some ob ∧ ob.dict = none) ∧ (a == sysModules) = false := by
  rcases d with d | ⟨o, es, e⟩
  · exact isD_at I d
  · obtain ⟨⟨h1, h2, h3, h4, _⟩, _⟩ := I.hok a _ e
    exact ⟨⟨o, h1, h2.1⟩, fun b q => by cases q; exact ⟨o, h1, h2.2.1⟩, h4⟩
theorem DG.isD {K : Fg} {H : Hp} {y : V} {r : Option V} (g : DG K H a y r) : IsDU K H a := by
  rcases g with (⟨kvs, k, e, _, _⟩ | ⟨kvs, k, b, e, _, _, _⟩) | ⟨o, es, k, e, _, _⟩
  · exact .inl (.inl ⟨kvs, e⟩)
  · exact .inl (.inr ⟨kvs, e⟩)
  · exact .inr ⟨o, es, e.1⟩
theorem room9 (hr : Room k X.A) : X.A.units + 9 < cLine := by have := hr.un; omega
theorem room1 (hr : Room k X.A) : X.A.units + 1 < cLine := by have := hr.un; omega
theorem dg_getItem {E : Value → Shared → Prop} {Q : Value → Shared → Prop} {y v : V} {u : Value} (hr : Room k X.A) (I : Inv X pins σ H s) (g : DG ⟨X.K, T, Gv, X.w⟩ H a y (some v)) (ry : RelV y u)
    (q : ∀ w' s', Inv X pins σ H s' → RelV v w' → Q w' s') : wpAny (model X.prog X.w) X.A (getItem (.ref a) u) Q E s := by
  rcases g with g | ⟨o, es, k, h1, h2, h3⟩
  · exact d_getItem (room1 hr) I g ry q
  · exact dn_getItem (room9 hr) I h1 h2 h3.symm ry q
theorem pe_dG (hr : Room k X.A) (ho : PE X o td) (hi : PE X i ty) (hs : NoSl i) : PE X (.Subscript o i pos) (tOp (rGetG ⟨X.K, T, Gv, X.w⟩) td ty) := by
  refine ⟨fun pins s σ H Q I h => ?_⟩
  refine subD_of PySem.F.slot_dict_getitem.lookup hs (thn (ho.run pins s σ H _ I h) fun u s1 ⟨x, H1, I1, rx, q1⟩ => thn (hi.run pins s1 σ H1 _ I1 q1) fun iv s2 ⟨y, H2, I2, ry, a, v, ex, g, q2⟩ => ?_)
  subst ex
  obtain rfl : u = Value.ref a := rx
  exact ⟨(isDU_at I2 g.isD).1, dg_getItem hr I2 g ry fun w' s3 I3 rw' => ⟨v, H2, I3, rw', q2⟩⟩
theorem op_inG (hr : Room k X.A) : OpR X (compareOp .In) (rInG ⟨X.K, T, Gv, X.w⟩) := fun pins s σ H y x u w Q I ry rx ⟨a, r, ex, g, q⟩ => by
  subst ex
  obtain rfl : w = Value.ref a := rx
  rcases g with g | ⟨o, es, k, h1, h2, h3⟩
  · exact d_in (room1 hr) I g ry fun s3 I3 => ⟨.bl r.isSome, H, I3, rfl, q⟩
  · subst h3
    exact dn_in (room9 hr) I h1 h2 ry fun s3 I3 => ⟨.bl _, H, I3, rfl, q⟩
theorem op_notInG (hr : Room k X.A) : OpR X (compareOp .NotIn) (rNotInG ⟨X.K, T, Gv, X.w⟩) := fun pins s σ H y x u w Q I ry rx ⟨a, r, ex, g, q⟩ => by
  subst ex
  obtain rfl : w = Value.ref a := rx
  rcases g with g | ⟨o, es, k, h1, h2, h3⟩
  · exact d_notIn (room1 hr) I g ry fun s3 I3 => ⟨.bl (!r.isSome), H, I3, rfl, q⟩
  · subst h3
    exact dn_notIn (room9 hr) I h1 h2 ry fun s3 I3 => ⟨.bl _, H, I3, rfl, q⟩
theorem dn_get2 {A : Around} {E : Value → Shared → Prop} {Q : Value → Shared → Prop} {ob : Obj} {es : List Ent} {k : NestedKey} {y z : V} {u r : Value} (hu : A.units + 9 < cLine) (I : Inv X pins σ H s) (h : DctK ⟨X.K, T, Gv, X.w⟩ H a ob es) (hk : IsK ⟨X.K, T, Gv, X.w⟩ H y k) (ry : RelV y u) (rz : RelV z r)
    (q : ∀ w' s', Inv X pins σ H s' → RelV ((valN es k).getD z) w' → Q w' s') : wpAny (model X.prog X.w) A (call (.builtin "dict.get") [.ref a, u, r]) Q E s := by
  obtain ⟨b, rfl, hb⟩ := isK_at I hk
  cases ry
  obtain ⟨_, hd, _, xs, np, dd⟩ := dct_at I h
  refine call_meetsIn PySem.F.slot_dict_get dd.typeIs PySem.F.entry_dict_get (PySem.F.args_dict_get_3 _ _ _) (meetsH_dict_get_default (nestedKind X.prog X.w) a b hd r) ⟨room_in1 hu, k, xs, hb, dd, q _ _ (I.tok _) ?_⟩
  exact (np.val k).getD rz
theorem pe_dG2 (hr : Room k X.A) (ho : PE X o td) (he : PE X e ty) (hf : PE X f tx) (m : M2 X o "get" apos e f cpos) : PE X (.Call (.Attribute o "get" apos) [e, f] [] cpos) (tDG2 ⟨X.K, T, Gv, X.w⟩ td ty tx) := by
  refine ⟨fun pins s σ H Q I h => ?_⟩
  refine wpAny_Call_method m.base m.few m.line PySem.F.plainAttrs_dict PySem.F.slot_dict_get PySem.F.type_dict_get (thn (ho.run pins s σ H _ I h) fun u s1 ⟨x, H1, I1, rx, a, ex, d, q1⟩ => ?_)
  subst ex
  obtain rfl : u = Value.ref a := rx
  obtain ⟨t1, t2, _⟩ := isDU_at I1 d
  refine ⟨t1, t2, ?_⟩
  rw [m.trees]
  refine Calls.callWith_builtin rfl (Calls.evalArgs_plain (Calls.spliced_cons (thn (he.run pins s1 σ H1 _ I1 q1) fun iv s2 ⟨y, H2, I2, ry, q2⟩ =>
    Calls.spliced_cons (thn (hf.run pins s2 σ H2 _ I2 q2) fun fv s3 ⟨z, H3, I3, rz, r, g, q3⟩ => Calls.spliced_nil ?_))))
  rcases g with g | ⟨ob, es, k, h1, h2, h3⟩
  · exact d_get2 (room1 hr) I3 g ry rz fun w' s4 I4 rw' => ⟨_, H3, I4, rw', q3⟩
  · subst h3
    exact dn_get2 (room9 hr) I3 h1 h2 ry rz fun w' s4 I4 rw' => ⟨_, H3, I4, rw', q3⟩
theorem pe_popG (hr : Room k X.A) (ho : PE X o td) (he : PE X e ty) (m : M1 X o "pop" apos e cpos) : PE X (.Call (.Attribute o "pop" apos) [e] [] cpos) (tPopG ⟨X.K, T, Gv, X.w⟩ td ty) := by
  refine ⟨fun pins s σ H Q I h => ?_⟩
  refine wpAny_Call_method m.base m.few m.line PySem.F.plainAttrs_dict PySem.F.slot_dict_pop PySem.F.type_dict_pop (thn (ho.run pins s σ H _ I h) fun u s1 ⟨x, H1, I1, rx, a, ex, d, q1⟩ => ?_)
  subst ex
  obtain rfl : u = Value.ref a := rx
  obtain ⟨t1, t2, _⟩ := isDU_at I1 d
  refine ⟨t1, t2, ?_⟩
  rw [m.trees]
  refine Calls.callWith_builtin rfl (Calls.evalArgs_plain (Calls.spliced_cons (thn (he.run pins s1 σ H1 _ I1 q1) fun iv s2 ⟨y, H2, I2, ry, ob, es, k, v, h1, h2, h3, q2⟩ => Calls.spliced_nil ?_)))
  exact dn_pop (room9 hr) (.inl rfl) I2 h1 h2 h3 ry fun o' w' s3 I3 rw' => ⟨v, _, I3, rw', q2 o'⟩
theorem set_G (hr : Room k X.A) : PSet X (rSetG ⟨X.K, T, Gv, X.w⟩) := fun pins s σ H x y z o' i' v' Q I rx ry rz h => by
  rcases h with h | ⟨a, ob, es, k, e1, h1, h2, h3, q⟩
  · exact set_dict (room1 hr) pins s σ H x y z o' i' v' Q I rx ry rz h
  · subst e1
    obtain rfl : o' = Value.ref a := rx
    exact dn_setItem (room9 hr) I h1 h2 h3 ry rz fun ob' s' I' => ⟨_, I', q ob'⟩
theorem pe_newT : PE X (.Dict [] [] pos) (tNewT ⟨X.K, T, Gv, X.w⟩) := ⟨fun pins s σ H Q I h => by
  have hn := I.hok.fresh (Nat.le_refl s.heap.objs.size)
  have hb : sysModules < s.heap.objs.size := I.big
  have dd : (s.heap.push { cls := .type "dict", data := .dict #[] }).DictOfH (nestedKind X.prog X.w) s.heap.objs.size [] := Heap.DictOfH.new s.heap
  obtain ⟨o', ho', ok'⟩ := dct_new (w := X.w) (P := X.prog) (H' := upd H s.heap.objs.size (DctO X.w s.heap.objs.size ⟨.type "dict", none, .dict #[] 0, #[]⟩ [])) (es := []) (Nat.zero_le _) (beq_eq_false_iff_ne.mpr (Ne.symm (Nat.ne_of_lt hb))) .nil dd
  exact wpAny_Dict_empty ⟨.ref s.heap.objs.size, _, I.laid (a := s.heap.objs.size) (o := DctO X.w s.heap.objs.size o' []) (t' := s.toks) (fun _ _ q => Heap.get?_push_of_some _ q) (Nat.le_refl _) ok', rfl, h _ o' hn⟩⟩
theorem Inv.dctN {o : Obj} {es : List Ent} (I : Inv X pins σ H s) (h : H a = some (DctO X.w a o es)) : (a == sysModules) = false ∧ s.heap.get? a = some o ∧ o.ExactDict ∧ ∃ (ds : Array DictEntry) (ep : Nat), o.data = .dict ds ep ∧ ds.size = es.length ∧
    ∀ (i : Nat) (e : Ent), es[i]? = some e → ∃ en : DictEntry, ds[i]? = some en ∧ RelV e.2.1 en.key ∧ RelV e.2.2 en.val := by
  obtain ⟨⟨h1, h2, h3, h4, h5, ds, ep, h6, h7⟩, _⟩ := I.hok a _ h
  refine ⟨h4, h1, h2, ds, ep, h6, ?_, fun i e he => ?_⟩
  · have := Paired.length h7
    rw [Array.length_toList] at this
    exact this.symm
  · obtain ⟨d, hd, r⟩ := paired_get h7 he
    exact ⟨d, by rw [← Array.getElem?_toList]; exact hd, r.2⟩
theorem turn_keysN {P : Program} {w : World} {K : PySem.W.Frag} {tg : Expr} {d : Addr} {o : Obj} {ds : Array DictEntry} {ep : Nat} {es : List Ent} (it : Addr) (hod : o.data = .dict ds ep) : Turn P w K tg (ItN w d o es) [it] it (fun i h => h.IsKeyIter it d i es.length ep) where
  mem := by simp
  obj := fun i h st b hb => by
    have e : b = it := by simpa using hb
    subst e
    obtain ⟨oi, e, c, dd⟩ := st
    exact ⟨oi, e, fun v z => by rw [dd] at z; cases z⟩
  keep := fun i h h' st k => st.at fun oi e => k it (by simp) oi e
  item := by
    intro X hP hw hK hc i pins s σ H E I hf st hg
    subst hP hw hK
    obtain ⟨hd, hi⟩ := hg
    obtain ⟨f0, f1, f2, f3, f4, f5⟩ := hf it (by simp)
    obtain ⟨hs, hgd, hx, ds', ep', hdt, hsz, ent⟩ := Inv.dctN I hd
    obtain ⟨rfl, rfl⟩ := dict_ep hod hdt
    obtain ⟨e, he⟩ : ∃ p, es[i]? = some p := ⟨es[i], List.getElem?_eq_getElem hi⟩
    obtain ⟨en, hen, hkey, _⟩ := ent i e he
    refine next_key_item st hgd hdt hsz hen fun h' st' sb => ?_
    have I1 : Inv X pins σ H { s with heap := h' } := I.turned (t' := s.toks) (fun b ob hb e => (sb.2 b hb).trans e) f0 f1 f3 f4 f5
    obtain ⟨oi, e2, c, dd⟩ := id st'
    exact ⟨en.key, rfl, go_of (s := { s with heap := h' }) e2 c dd (by decide) ⟨e.2.1, H, I1, hkey, ⟨rfl, e, he, rfl⟩, st', fun b hb => (hf b hb).1⟩⟩
  done := by
    intro X hP hw hK hc i pins s σ H E I hf st hg
    subst hP hw hK
    obtain ⟨hd, hi⟩ := hg
    obtain ⟨f0, f1, f2, f3, f4, f5⟩ := hf it (by simp)
    obtain ⟨hs, hgd, hx, ds', ep', hdt, hsz, ent⟩ := Inv.dctN I hd
    obtain ⟨rfl, rfl⟩ := dict_ep hod hdt
    exact next_key_end (I.ok.hd hc) st hgd hdt hsz hi fun h' eb => ⟨rfl, I.turned (t' := s.toks) (fun b ob hb e => eb b ob hb e) f0 f1 f3 f4 f5⟩
  self := fun A i s Q E st h => wpAny_pyIter_keyiter st h
theorem pi_keysN {tg : Expr} (he : PE X e td) : PI X tg e (iKeysN ⟨X.K, T, Gv, X.w⟩ td) := by
  refine ⟨fun pins s σ H R I h => ?_⟩
  refine thn (he.run pins s σ H _ I h) fun u s1 ⟨x, H1, I1, rx, d, o, es, ex, hd, q⟩ => ?_
  subst ex
  obtain rfl : u = Value.ref d := rx
  obtain ⟨hs, hgd, hx, ds, ep, hdt, hsz, ent⟩ := Inv.dctN I1 hd
  refine iter_keys hs hgd hx hdt (pi_one (tk := s1.toks) I1 _ (turn_keysN _ hdt) ⟨_, Heap.get?_push_size _ rfl, rfl, ?_⟩ q)
  rw [hsz] <;> rfl
end
end HF

set_option Elab.async false
set_option linter.all false
set_option maxRecDepth 100000
set_option maxHeartbeats 2000000
/-! HF34: dicts over plain data, mirrors. -/
namespace HF
open PySem L2 PySem.Spec PyProof.Rows
mutual
theorem eqv_key : ∀ {a b : D} {j k : NestedKey}, keyN a = some j → keyN b = some k → PyData.eqv a b = NestedKey.beq j k
  | .none, b, j, k, ha, hb => by
    rw [keyN] at ha
    cases ha
    cases b with
    | tuple ds =>
      rw [keyN] at hb
      obtain ⟨ks, _, rfl⟩ := Option.map_eq_some_iff.mp hb
      rfl
    | list _ => rw [keyN] at hb; cases hb
    | dict _ => rw [keyN] at hb; cases hb
    | _ => rw [keyN] at hb; cases hb; simp [PyData.eqv, NestedKey.beq]
  | .bool x, b, j, k, ha, hb => by
    rw [keyN] at ha
    cases ha
    cases b with
    | tuple ds =>
      rw [keyN] at hb
      obtain ⟨ks, _, rfl⟩ := Option.map_eq_some_iff.mp hb
      rfl
    | list _ => rw [keyN] at hb; cases hb
    | dict _ => rw [keyN] at hb; cases hb
    | bool y => rw [keyN] at hb; cases hb; cases x <;> cases y <;> rfl
    | int y => rw [keyN] at hb; cases hb; cases x <;> simp [PyData.eqv, NestedKey.beq] <;> rfl
    | _ => rw [keyN] at hb; cases hb; simp [PyData.eqv, NestedKey.beq]
  | .int x, b, j, k, ha, hb => by
    rw [keyN] at ha
    cases ha
    cases b with
    | tuple ds =>
      rw [keyN] at hb
      obtain ⟨ks, _, rfl⟩ := Option.map_eq_some_iff.mp hb
      rfl
    | list _ => rw [keyN] at hb; cases hb
    | dict _ => rw [keyN] at hb; cases hb
    | bool y => rw [keyN] at hb; cases hb; cases y <;> simp [PyData.eqv, NestedKey.beq] <;> rfl
    | int y => rw [keyN] at hb; cases hb; simp [PyData.eqv, NestedKey.beq] <;> rfl
    | _ => rw [keyN] at hb; cases hb; simp [PyData.eqv, NestedKey.beq]
  | .str x, b, j, k, ha, hb => by
    rw [keyN] at ha
    cases ha
    cases b with
    | tuple ds =>
      rw [keyN] at hb
      obtain ⟨ks, _, rfl⟩ := Option.map_eq_some_iff.mp hb
      rfl
    | list _ => rw [keyN] at hb; cases hb
    | dict _ => rw [keyN] at hb; cases hb
    | str y =>
      rw [keyN] at hb
      cases hb
      rw [PyData.eqv, NestedKey.beq]
      by_cases e : x = y
      · rw [decide_eq_true e, e]; exact beq_self_eq_true y
      · rw [decide_eq_false e]; exact beq_eq_false_iff_ne.mpr e
    | _ => rw [keyN] at hb; cases hb; simp [PyData.eqv, NestedKey.beq]
  | .tuple ds, b, j, k, ha, hb => by
    rw [keyN] at ha
    obtain ⟨js, hj, rfl⟩ := Option.map_eq_some_iff.mp ha
    cases b with
    | tuple es =>
      rw [keyN] at hb
      obtain ⟨ks, hk, rfl⟩ := Option.map_eq_some_iff.mp hb
      rw [PyData.eqv, NestedKey.beq]
      exact eqvAll_key hj hk
    | list _ => rw [keyN] at hb; cases hb
    | dict _ => rw [keyN] at hb; cases hb
    | _ => rw [keyN] at hb; cases hb; simp [PyData.eqv, NestedKey.beq]
  | .list _, _, _, _, ha, _ => by rw [keyN] at ha; cases ha
  | .dict _, _, _, _, ha, _ => by rw [keyN] at ha; cases ha
theorem eqvAll_key : ∀ {as bs : List D} {js ks : List NestedKey}, keyNs as = some js → keyNs bs = some ks → PyData.eqvAll as bs = NestedKey.beqAll js ks
  | [], bs, js, ks, ha, hb => by
    rw [keyNs] at ha
    cases ha
    cases bs with
    | nil => rw [keyNs] at hb; cases hb; rfl
    | cons b bs =>
      rw [keyNs] at hb
      cases hk : keyN b with
      | none => rw [hk] at hb; cases hb
      | some k =>
        rw [hk] at hb
        obtain ⟨ks', _, rfl⟩ := Option.map_eq_some_iff.mp hb
        rfl
  | a :: as, bs, js, ks, ha, hb => by
    rw [keyNs] at ha
    cases hj : keyN a with
    | none => rw [hj] at ha; cases ha
    | some j =>
      rw [hj] at ha
      obtain ⟨js', hjs, rfl⟩ := Option.map_eq_some_iff.mp ha
      cases bs with
      | nil => rw [keyNs] at hb; cases hb; rfl
      | cons b bs =>
        rw [keyNs] at hb
        cases hk : keyN b with
        | none => rw [hk] at hb; cases hb
        | some k =>
          rw [hk] at hb
          obtain ⟨ks', hks, rfl⟩ := Option.map_eq_some_iff.mp hb
          rw [PyData.eqvAll, NestedKey.beqAll, eqv_key hj hk, eqvAll_key hjs hks]
end
theorem keyT_N {d : D} {k : NestedKey} (h : keyT d = some k) : keyN d = some k := by
  obtain ⟨ds, ks, rfl, h1, rfl, _⟩ := keyT_eq h
  rw [keyN, h1]; rfl
theorem eqv_keyT {a b : D} {j k : NestedKey} (ha : keyT a = some j) (hb : keyT b = some k) : PyData.eqv a b = decide (j = k) := by
  rw [eqv_key (keyT_N ha) (keyT_N hb), NestedKey.decide_eq]
/-! what a dict holds -/
def dgetD (kd : List (D × D)) (y : D) : Option D := (kd.find? fun p => PyData.eqv p.1 y).map (·.2)
def putP (kd : List (D × D)) (y v : D) : List (D × D) := if (kd.any fun p => PyData.eqv p.1 y) = true then kd.map (fun p => if PyData.eqv p.1 y = true then (p.1, v) else p) else kd ++ [(y, v)]
def dropP (kd : List (D × D)) (y : D) : List (D × D) := kd.filter fun p => !PyData.eqv p.1 y
/-- a dict whose keys are tuples, as data -/
@[reducible] def dtD (kd : List (D × D)) : D := .dict ((.bool false, .none) :: kd)
def scalD : D → Bool
  | .int _ => true
  | .str _ => true
  | _ => false
def scalKd : List (D × D) → Bool
  | [] => true
  | p :: _ => scalD p.1
def isTag : D × D → Bool
  | (.bool false, .none) => true
  | _ => false
theorem isTag_eq {p : D × D} (h : isTag p = true) : p = (.bool false, .none) := by
  unfold isTag at h
  split at h
  · rfl
  · cases h
/-- the answer at a key, if it can be told -/
def dg : List (D × D) → D → Option (Option D)
  | [], y => if scalD y = true then some none else none
  | p :: kd, y => if isTag p = true then (if (keyT y).isSome = true then some (dgetD kd y) else none) else if (scalD p.1 && scalD y) = true then some (dgetD (p :: kd) y) else none
theorem dgetD_nil {y : D} : dgetD [] y = none := (rfl)
theorem dgetD_cons {p : D × D} {kd : List (D × D)} {y : D} : dgetD (p :: kd) y = if PyData.eqv p.1 y = true then some p.2 else dgetD kd y := by
  unfold dgetD
  rw [List.find?_cons]
  cases PyData.eqv p.1 y <;> rfl
section
variable {K : Fg} {H : Hp}
theorem valK_ok {k : Key} : ∀ {kvs : List (Key × V)} {ds : List D}, DqAll K H (kvs.map (·.2)) ds → ∃ r, dgetD ((kvs.map fun f => keyD f.1).zip ds) (keyD k) = r ∧ ((r = none ∧ valV kvs k = none) ∨ ∃ z w, r = some z ∧ valV kvs k = some w ∧ Dq K H w z)
  | [], _, .nil => ⟨none, rfl, .inl ⟨rfl, rfl⟩⟩
  | p :: kvs, _, .cons (d := d) h t => by
    obtain ⟨r, h1, h2⟩ := valK_ok (k := k) t
    rw [List.map_cons, List.zip_cons_cons, dgetD_cons]
    by_cases e : p.1 = k
    · have q : PyData.eqv (keyD p.1) (keyD k) = true := by
        rw [e]
        cases k with
        | inl i => show (i == i) = true; exact beq_self_eq_true i
        | inr x => show (x == x) = true; exact beq_self_eq_true x
      rw [if_pos q]
      exact ⟨_, rfl, .inr ⟨d, p.2, rfl, valV_pos e, h⟩⟩
    · have q : PyData.eqv (keyD p.1) (keyD k) = false := by
        obtain ⟨p1, p2⟩ := p
        cases p1 with
        | inl i => cases k with
          | inl j => show (i == j) = false; exact beq_eq_false_iff_ne.mpr fun z => e (by show Sum.inl i = _; rw [z])
          | inr y => rfl
        | inr x => cases k with
          | inl j => rfl
          | inr y => show (x == y) = false; exact beq_eq_false_iff_ne.mpr fun z => e (by show Sum.inr x = _; rw [z])
      rw [if_neg (by rw [q]; decide), valV_neg e]
      exact ⟨r, h1, h2⟩
theorem valN_ok {k : NestedKey} {y : D} (hy : keyT y = some k) : ∀ {es : List Ent} {kds ds : List D}, kds.map keyT = es.map (fun e => some e.1) → DqAll K H (es.map (·.2.2)) ds → ∃ r, dgetD (kds.zip ds) y = r ∧ ((r = none ∧ valN es k = none) ∨ ∃ z w, r = some z ∧ valN es k = some w ∧ Dq K H w z)
  | [], [], _, _, _ => ⟨none, by simp [dgetD], .inl ⟨rfl, rfl⟩⟩
  | [], d :: _, _, e, _ => by cases e
  | _ :: _, [], _, e, _ => by cases e
  | e :: es, kd :: kds, _, he, .cons (d := d) h t => by
    rw [List.map_cons, List.map_cons, List.cons.injEq] at he
    obtain ⟨r, h1, h2⟩ := valN_ok hy he.2 t
    rw [List.zip_cons_cons, dgetD_cons, eqv_keyT he.1 hy]
    by_cases q : e.1 = k
    · rw [if_pos (decide_eq_true q)]
      exact ⟨_, rfl, .inr ⟨d, e.2.2, rfl, by simp [valN, List.find?_cons, q], h⟩⟩
    · rw [if_neg (by simpa using q)]
      have c : valN (e :: es) k = valN es k := by simp [valN, List.find?_cons, q]
      rw [c]
      exact ⟨r, h1, h2⟩
theorem isK_all : ∀ {es : List Ent} {kds : List D}, DqAll K H (es.map (·.2.1)) kds → kds.map keyT = es.map (fun e => some e.1) → ∀ e ∈ es, IsK K H e.2.1 e.1
  | [], _, _, _, e, he => nomatch he
  | e0 :: es, [], h, _, e, he => by cases h
  | e0 :: es, kd :: kds, .cons h t, hk, e, he => by
    rw [List.map_cons, List.map_cons, List.cons.injEq] at hk
    rcases List.mem_cons.mp he with q | q
    · rw [q]; exact ⟨kd, h, hk.1⟩
    · exact isK_all t hk.2 e q
theorem scal_v {H : Hp} {v : V} {d : D} (h : Dq K H v d) (f : scalD d = true) : ∃ k : Key, v = kV k ∧ d = keyD k := by
  cases h with
  | int i => exact ⟨.inl i, rfl, rfl⟩
  | str x => exact ⟨.inr x, rfl, rfl⟩
  | _ => cases f
theorem dg_dik {kd : List (D × D)} {y : D} {r : Option D} (h : scalKd kd = true) (e : dg kd y = some r) : scalD y = true ∧ dgetD kd y = r := by
  cases kd with
  | nil =>
    rw [dg] at e
    split at e
    · cases e; exact ⟨by assumption, rfl⟩
    · cases e
  | cons p kd =>
    rw [dg] at e
    have hp : isTag p = false := by
      cases q : isTag p with
      | false => rfl
      | true => rw [isTag_eq q] at h; cases h
    rw [if_neg (by rw [hp]; decide)] at e
    split at e
    · rename_i hb
      rw [Bool.and_eq_true] at hb
      cases e
      exact ⟨hb.2, rfl⟩
    · cases e
theorem dg_dit {kd : List (D × D)} {y : D} {r : Option D} (e : dg ((.bool false, .none) :: kd) y = some r) : ∃ k, keyT y = some k ∧ dgetD kd y = r := by
  rw [dg, if_pos (show isTag (PyData.bool false, PyData.none) = true from rfl)] at e
  split at e
  · rename_i h
    cases e
    obtain ⟨k, hk⟩ := Option.isSome_iff_exists.mp h
    exact ⟨k, hk, rfl⟩
  · cases e
theorem dg_bad {p : D × D} {kd : List (D × D)} {y : D} {r : Option D} (h1 : isTag p = false) (h2 : scalD p.1 = false) (e : dg (p :: kd) y = some r) : False := by
  rw [dg, if_neg (by rw [h1]; decide), h2] at e
  cases e
theorem dg_ok {A : Addr → Bool} {v w : V} {kd : List (D × D)} {y : D} {r : Option D} (hv : Dq K (hide A H) v (.dict kd)) (hw : Dq K (hide A H) w y) (e : dg kd y = some r) :
    ∃ a o, v = .ref a ∧ DG K H a w o ∧ ((r = none ∧ o = none) ∨ ∃ z u, r = some z ∧ o = some u ∧ Dq K (hide A H) u z) := by
  have gen : ∀ {d : D}, Dq K (hide A H) v d → d = .dict kd → ∃ a o, v = .ref a ∧ DG K H a w o ∧ ((r = none ∧ o = none) ∨ ∃ z u, r = some z ∧ o = some u ∧ Dq K (hide A H) u z) := by
    intro d h q
    cases h with
    | obj h0 h1 h2 h3 h4 =>
      cases q
      rw [h4] at e
      exact (dg_bad rfl rfl e).elim
    | fn h =>
      cases q
      exact (dg_bad rfl rfl e).elim
    | dik h1 h2 h3 =>
      rename_i a kvs ds kd'
      cases q
      have hs : scalKd kd = true := by
        rw [h3]
        cases kvs with
        | nil => rfl
        | cons p kvs =>
          cases ds with
          | nil => rfl
          | cons d ds =>
            obtain ⟨k, u⟩ := p
            cases k <;> rfl
      obtain ⟨q1, q2⟩ := dg_dik hs e
      obtain ⟨k, rfl, rfl⟩ := scal_v hw q1
      obtain ⟨r', c1, c2⟩ := valK_ok (k := k) h2
      rw [← h3, q2] at c1
      subst c1
      refine ⟨a, valV kvs k, rfl, .inl (.inl ⟨kvs, k, rd_mono hide_sub h1, rfl, rfl⟩), ?_⟩
      rcases c2 with ⟨c2, c3⟩ | ⟨z, u, c2, c3, c4⟩
      · exact .inl ⟨c2, c3⟩
      · exact .inr ⟨z, u, c2, c3, c4⟩
    | dit h1 h2 h3 h4 h5 =>
      rename_i a o es kds ds kd'
      cases q
      rw [h5] at e
      obtain ⟨k, q1, q2⟩ := dg_dit e
      obtain ⟨r', c1, c2⟩ := valN_ok q1 h4 h3
      rw [q2] at c1
      subst c1
      refine ⟨a, valN es k, rfl, .inr ⟨o, es, k, ⟨hide_sub.ob _ _ rfl h1, fun e he => (isK_all h2 h4 e he).mono hide_sub⟩, ⟨y, dp_mono hide_sub hw, q1⟩, rfl⟩, ?_⟩
      rcases c2 with ⟨c2, c3⟩ | ⟨z, u, c2, c3, c4⟩
      · exact .inl ⟨c2, c3⟩
      · exact .inr ⟨z, u, c2, c3, c4⟩
    | _ => cases q
  exact gen hv rfl
end
section
variable {K : Fg} {te ta tb tc : TE} {fe fa fb fc : XE}
/-- d[k] -/
def opGet : D → D → Option D
  | .dict kd, y => (match dg kd y with
    | some (some z) => some z
    | _ => none)
  | _, _ => none
theorem mo_getG : MOp K (rGetG K) opGet := mo_of fun x y z e => by
  unfold opGet at e
  split at e
  · rename_i kd
    split at e
    · rename_i z' hz
      cases e
      intro A H v w l dx dy Q k
      obtain ⟨a, o, rfl, g, c⟩ := dg_ok dx dy hz
      rcases c with ⟨c, _⟩ | ⟨z2, u, c1, rfl, c3⟩
      · cases c
      · cases c1
        exact ⟨a, u, rfl, g, k u H (Grow.refl H) c3⟩
    · cases e
  · cases e
def opInG (neg : Bool) : D → D → Option D
  | y, .dict kd => (match dg kd y with
    | some r => some (.bool (if neg then !r.isSome else r.isSome))
    | none => none)
  | _, _ => none
theorem mo_inG : MOp K (rInG K) (opInG false) := mo_of fun y x z e => by
  unfold opInG at e
  split at e
  · rename_i kd
    split at e
    · rename_i r hz
      cases e
      intro A H w v l dy dx Q k
      obtain ⟨a, o, rfl, g, c⟩ := dg_ok dx dy hz
      have : r.isSome = o.isSome := by rcases c with ⟨rfl, rfl⟩ | ⟨_, _, rfl, rfl, _⟩ <;> rfl
      exact ⟨a, o, rfl, g, k _ H (Grow.refl H) (by rw [this]; exact .bl _)⟩
    · cases e
  · cases e
theorem mo_notInG : MOp K (rNotInG K) (opInG true) := mo_of fun y x z e => by
  unfold opInG at e
  split at e
  · rename_i kd
    split at e
    · rename_i r hz
      cases e
      intro A H w v l dy dx Q k
      obtain ⟨a, o, rfl, g, c⟩ := dg_ok dx dy hz
      have : r.isSome = o.isSome := by rcases c with ⟨rfl, rfl⟩ | ⟨_, _, rfl, rfl, _⟩ <;> rfl
      exact ⟨a, o, rfl, g, k _ H (Grow.refl H) (by rw [this]; exact .bl _)⟩
    · cases e
  · cases e
theorem dq_isDU {H : Hp} {A : Addr → Bool} {v : V} {kd : List (D × D)} (h : Dq K (hide A H) v (.dict kd)) (hk : (scalKd kd = true) ∨ ∃ kd', kd = (.bool false, .none) :: kd') : ∃ a, v = .ref a ∧ IsDU K H a := by
  have gen : ∀ {d : D}, Dq K (hide A H) v d → d = .dict kd → ∃ a, v = .ref a ∧ IsDU K H a := by
    intro d h q
    cases h with
    | obj h0 h1 h2 h3 h4 =>
      cases q
      rw [h4] at hk
      rcases hk with hk | ⟨_, hk⟩ <;> cases hk
    | fn h => cases q; rcases hk with hk | ⟨_, hk⟩ <;> cases hk
    | dik h1 h2 h3 => exact ⟨_, rfl, .inl (.inl ⟨_, rd_mono hide_sub h1⟩)⟩
    | dit h1 h2 h3 h4 h5 => exact ⟨_, rfl, .inr ⟨_, _, hide_sub.ob _ _ rfl h1⟩⟩
    | _ => cases q
  exact gen h rfl
theorem dg_head {kd : List (D × D)} {y : D} {r : Option D} (e : dg kd y = some r) : (scalKd kd = true) ∨ ∃ kd', kd = (.bool false, .none) :: kd' := by
  cases kd with
  | nil => exact .inl rfl
  | cons p kd =>
    by_cases hp : isTag p = true
    · rw [isTag_eq hp]; exact .inr ⟨_, rfl⟩
    · rw [dg, if_neg hp] at e
      split at e
      · rename_i hb
        rw [Bool.and_eq_true] at hb
        exact .inl hb.1
      · cases e
/-- d.get(k, x) -/
def mDG2 (fa fb fc : XE) : XE := fun en => match fa en, fb en, fc en with
  | some (.dict kd), some y, some z => (match dg kd y with
    | some r => some (r.getD z)
    | none => none)
  | _, _, _ => none
theorem me_dG2 (ha : ME K ta fa) (hb : ME K tb fb) (hc : ME K tc fc) : ME K (tDG2 K ta tb tc) (mDG2 fa fb fc) := fun en d e => by
  unfold mDG2 at e
  split at e
  · rename_i kd y z h1 h2 h3
    split at e
    · rename_i r hz
      cases e
      intro A0 Hs A H σ I Q k
      refine ha en _ h1 A0 Hs A H σ I _ fun v H1 g1 d1 => ?_
      obtain ⟨a, rfl, hd⟩ := dq_isDU d1 (dg_head hz)
      refine ⟨a, rfl, hd, hb en _ h2 A0 Hs A H1 σ (I.grow g1) _ fun w H2 g2 d2 => hc en _ h3 A0 Hs A H2 σ ((I.grow g1).grow g2) _ fun u H3 g3 d3 => ?_⟩
      obtain ⟨a', o, ea, g, c⟩ := dg_ok (H := H3) (dp_mono (g2.trans g3).ex d1) (dp_mono g3.ex d2) hz
      cases ea
      refine ⟨o, g, k _ H3 ((g1.trans g2).trans g3) ?_⟩
      rcases c with ⟨rfl, rfl⟩ | ⟨z2, u2, rfl, rfl, c3⟩
      · exact d3
      · exact c3
    · cases e
  · cases e
/-- for k in d -/
def mKeysN (fa : XE) : XA := fun en => match fa en with
  | some (.dict ((.bool false, .none) :: kd)) => some (kd.map (·.1))
  | _ => none
theorem dq_dit {H : Hp} {v : V} {kd : List (D × D)} (h : Dq K H v (dtD kd)) : ∃ a o es kds ds, v = .ref a ∧ H a = some (DctO K.w a o es) ∧ DqAll K H (es.map (·.2.1)) kds ∧ DqAll K H (es.map (·.2.2)) ds ∧ kds.map keyT = es.map (fun e => some e.1) ∧ kd = kds.zip ds := by
  have gen : ∀ {d : D}, Dq K H v d → d = dtD kd → ∃ a o es kds ds, v = .ref a ∧ H a = some (DctO K.w a o es) ∧ DqAll K H (es.map (·.2.1)) kds ∧ DqAll K H (es.map (·.2.2)) ds ∧ kds.map keyT = es.map (fun e => some e.1) ∧ kd = kds.zip ds := by
    intro d h q
    cases h with
    | obj h0 h1 h2 h3 h4 => rw [h4] at q; cases q
    | fn h => cases q
    | dik h1 h2 h3 =>
      rename_i a kvs ds kd'
      cases kvs with
      | nil => rw [h3] at q; cases q
      | cons p kvs =>
        cases ds with
        | nil => rw [h3] at q; cases q
        | cons d ds =>
          obtain ⟨k, u⟩ := p
          rw [h3] at q
          cases k <;> cases q
    | dit h1 h2 h3 h4 h5 =>
      rw [h5] at q
      cases q
      exact ⟨_, _, _, _, _, rfl, h1, h2, h3, h4, rfl⟩
    | _ => cases q
  exact gen h rfl
theorem zip_fst {as bs : List D} (h : as.length = bs.length) : (as.zip bs).map (·.1) = as := by
  rw [← List.unzip_fst, List.unzip_zip_left (by omega)]
theorem zip_snd {as bs : List D} (h : as.length = bs.length) : (as.zip bs).map (·.2) = bs := by
  rw [← List.unzip_snd, List.unzip_zip_right (by omega)]
theorem ei_keysN {en : En} {kd : List (D × D)} (h : EvD K te en (dtD kd)) : EvI K (iKeysN K te) en (kd.map (·.1)) := fun A0 Hs A H σ I R k =>
  h A0 Hs A H σ I _ fun v H1 g1 d1 => by
    obtain ⟨a, o, es, kds, ds, rfl, h1, h2, h3, h4, rfl⟩ := dq_dit d1
    have hl : kds.length = es.length := by have := congrArg List.length h4; simpa using this
    have hl2 : ds.length = es.length := by have := dpa_len h3; rw [List.length_map] at this; exact this.symm
    rw [zip_fst (by omega)] at k
    refine ⟨a, o, es, rfl, hide_sub.ob _ _ rfl h1, k _ H1 g1 ⟨fun A1 H2 i l sm hi => ⟨hide_sub.ob _ _ rfl (sm.ob _ _ rfl h1), by omega⟩, fun A1 H2 l sm => ⟨hide_sub.ob _ _ rfl (sm.ob _ _ rfl h1), by omega⟩, fun A1 H2 i d x H3 l sm hi y => ?_⟩⟩
    obtain ⟨rfl, e, he, rfl⟩ := y
    obtain ⟨u, hu, hd'⟩ := dpa_get h2 hi
    rw [List.getElem?_map, he] at hu
    cases hu
    exact ⟨Grow.refl _, dp_mono sm hd'⟩
theorem mi_keysN (ha : ME K ta fa) : MI K (iKeysN K ta) (mKeysN fa) := fun en ds e => by
  unfold mKeysN at e
  split at e
  · cases e; exact ei_keysN (ha en _ (by assumption))
  · cases e
end
/-! own dicts -/
@[reducible] def dtO (st : List (D × D)) : Ow := .dt (st.map (·.1)) (st.map fun p => .da p.2)
/-- all of it shared data -/
def dtsOf : List D → List Fd → Option (List (D × D))
  | [], [] => some []
  | k :: ks, .da d :: fs => (dtsOf ks fs).map ((k, d) :: ·)
  | _, _ => none
theorem dtsOf_dtO : ∀ (st : List (D × D)), dtsOf (st.map (·.1)) (st.map fun p => .da p.2) = some st
  | [] => rfl
  | p :: st => by
    rw [List.map_cons, List.map_cons, dtsOf, dtsOf_dtO st]
    rfl
theorem dtsOf_eq : ∀ {ks : List D} {fs : List Fd} {st : List (D × D)}, dtsOf ks fs = some st → ks = st.map (·.1) ∧ fs = st.map fun p => .da p.2
  | [], [], _, h => by cases h; exact ⟨rfl, rfl⟩
  | k :: ks, .da d :: fs, st, h => by
    rw [dtsOf] at h
    obtain ⟨st', h1, rfl⟩ := Option.map_eq_some_iff.mp h
    obtain ⟨rfl, rfl⟩ := dtsOf_eq h1
    exact ⟨rfl, rfl⟩
  | [], _ :: _, _, h => by cases h
  | _ :: _, [], _, h => by cases h
  | _ :: _, .ow _ :: _, _, h => by cases h
theorem dataFs_da : ∀ (st : List (D × D)), dataFs (st.map fun p => .da p.2) = st.map (·.2)
  | [] => by rw [List.map_nil, List.map_nil, dataFs]
  | p :: st => by rw [List.map_cons, List.map_cons, dataFs, dataFs_da st]
theorem zip_st : ∀ (st : List (D × D)), (st.map (·.1)).zip (st.map (·.2)) = st
  | [] => rfl
  | p :: st => by rw [List.map_cons, List.map_cons, List.zip_cons_cons, zip_st st]
theorem dataO_dtO {st : List (D × D)} : dataO (dtO st) = dtD st := by
  rw [dataO, dataFs_da, zip_st]
section
variable {K : Fg} {Hh H : Hp} {P : Addr → List Nat → Prop}
theorem fd_das : ∀ {pi : List Nat} {k : Nat} {vs : List V} {st : List (D × D)}, FdAll K Hh H P pi k vs (st.map fun p => .da p.2) → DqAll K Hh vs (st.map (·.2))
  | _, _, _, [], h => by cases h; exact .nil
  | _, _, _, p :: st, h => by
    rw [List.map_cons] at h
    cases h with
    | da h t => exact .cons h (fd_das t)
theorem das_fd : ∀ {pi : List Nat} {k : Nat} {vs : List V} {st : List (D × D)}, DqAll K Hh vs (st.map (·.2)) → FdAll K Hh H P pi k vs (st.map fun p => .da p.2)
  | _, _, _, [], h => by cases h; exact .nil
  | _, _, _, p :: st, h => by
    rw [List.map_cons] at h ⊢
    cases h with
    | cons h t => exact .da h (das_fd t)
end
section
variable {K : Fg} {A0 A : Addr → Bool} {Hs H H' : Hp} {σ : L2.St} {en : En}
theorem EnvOk.odt (I : EnvOk K A0 Hs A H σ en) {i : Nat} {b : Option Addr} {st : List (D × D)} (hi : en[i]? = some (some (.ow b (dtO st)))) :
    ∃ p ob es, σ[i]? = some (some (.ref p)) ∧ A p = true ∧ A0 p = false ∧ H p = some (DctO K.w p ob es) ∧ DqAll K (hide A H) (es.map (·.2.1)) (st.map (·.1)) ∧ DqAll K (hide A H) (es.map (·.2.2)) (st.map (·.2)) ∧ (st.map (·.1)).map keyT = es.map (fun e => some e.1) := by
  obtain ⟨O, hO⟩ := I.own
  obtain ⟨v, hv, p, rfl, _, h⟩ := hO i _ hi
  cases h with
  | dt h1 h2 h3 h4 h5 => exact ⟨p, _, _, hv, h1.1, h1.2.1, h2, h3, fd_das h5, h4⟩
theorem EnvOk.writeT (I : EnvOk K A0 Hs A H σ en) {i : Nat} {p : Addr} {st st' : List (D × D)} {ob' : Obj} {es' : List Ent} (hi : en[i]? = some (some (.ow none (dtO st)))) (hv : σ[i]? = some (some (.ref p)))
    (h1 : DqAll K (hide A H) (es'.map (·.2.1)) (st'.map (·.1))) (h2 : DqAll K (hide A H) (es'.map (·.2.2)) (st'.map (·.2))) (h3 : (st'.map (·.1)).map keyT = es'.map (fun e => some e.1)) :
    EnvOk K A0 Hs A (upd H p (DctO K.w p ob' es')) σ (en.set i (some (.ow none (dtO st')))) := by
  obtain ⟨p', ob, es, hv', hA, hA0, hp, _⟩ := I.odt hi
  rw [hv] at hv'
  cases hv'
  have sm : Same (hide A H) (hide A (upd H p (DctO K.w p ob' es'))) := same_of fun a u e => by
    obtain ⟨h1, h2⟩ := hide_some e
    have hne : a ≠ p := fun z => by rw [z, hA] at h1; cases h1
    rw [hide_out h1, upd_ne hne]; exact h2
  refine I.change rfl (fun _ _ => rfl) sm (fun q hq => ?_) (fun q hq => ⟨I.sub q hq, upd_ne (fun z => by rw [z, hA0] at hq; cases hq)⟩) fun O hO => ?_
  · by_cases e : q = p
    · rw [e, upd_same]; exact fun z => by cases z
    · rw [upd_ne e]; exact I.live q hq
  · obtain ⟨v, g1, p2, rfl, ga, g2⟩ := hO i _ hi
    rw [hv] at g1
    cases g1
    cases g2 with
    | dt m e1 e2 e3 e4 =>
      refine ⟨O, fun q j rh hj mq => ⟨mq, upd_ne fun z => ?_⟩, fun hl => ⟨_, hv, p, rfl, ga, .dt m upd_same (dpa_mono sm h1) h3 (das_fd (dpa_mono sm h2))⟩⟩
      have := mq.2.2
      rw [z, m.2.2] at this
      exact last_ne (a := rh) (b := []) hj this.symm
theorem EnvOk.freezeT (I : EnvOk K A0 Hs A H σ en) {i : Nat} {b : Option Addr} {st : List (D × D)} (hi : en[i]? = some (some (.ow b (dtO st)))) :
    ∃ p ob es, σ[i]? = some (some (.ref p)) ∧ A p = true ∧ H p = some (DctO K.w p ob es) ∧ EnvOk K A0 Hs (dela A p) H σ (en.set i (some (.sh (dtD st)))) := by
  obtain ⟨p, ob, es, hv, hA, hA0, hp, k1, k2, k3⟩ := I.odt hi
  refine ⟨p, ob, es, hv, hA, hp, ?_⟩
  have sm : Same (hide A H) (hide (dela A p) H) := same_of fun a u e => by
    obtain ⟨h1, h2⟩ := hide_some e
    have hne : a ≠ p := fun z => by rw [z, hA] at h1; cases h1
    rw [hide_out (by rw [dela_ne hne]; exact h1)]; exact h2
  have n0 : ∀ q, A0 q = true → q ≠ p := fun q hq z => by rw [z, hA0] at hq; cases hq
  refine I.change rfl (fun _ _ => rfl) sm (fun q hq => I.live q (dela_true hq).1) (fun q hq => ⟨by rw [dela_ne (n0 q hq)]; exact I.sub q hq, rfl⟩) fun O hO => ?_
  obtain ⟨v, g1, p2, rfl, ga, g2⟩ := hO i _ hi
  rw [hv] at g1
  cases g1
  cases g2 with
  | dt m e1 e2 e3 e4 =>
    refine ⟨O, fun q j rh hj mq => ⟨⟨?_, mq.2⟩, rfl⟩, fun hl => ⟨_, hv, ?_⟩⟩
    · have hq : q ≠ p := fun z => by
        have := mq.2.2
        rw [z, m.2.2] at this
        exact last_ne (a := rh) (b := []) hj this.symm
      rw [dela_ne hq]; exact mq.1
    · exact .dit (by rw [hide_out dela_self]; exact hp) (dpa_mono sm k1) (dpa_mono sm k2) k3 (by rw [zip_st])
end
mutual
def noDk : D → Bool
  | .list xs => noDks xs
  | .tuple xs => noDks xs
  | .dict _ => false
  | .none => true
  | .bool _ => true
  | .int _ => true
  | .str _ => true
def noDks : List D → Bool
  | [] => true
  | x :: xs => noDk x && noDks xs
end
section
variable {K : Fg} {A : Addr → Bool} {H H' : Hp} {p : Addr} {w : World} {ob : Obj} {es : List Ent}
theorem rd_backT {a : Addr} {u : HO} (hp : H p = some (DctO w p ob es)) (h : Rd (hide (dela A p) H) a u) (hu : isNode (some u) = false ∨ ∃ xs, u = .lst xs) : Rd (hide A H) a u := by
  rcases h with h | ⟨o, h⟩
  · have hne : a ≠ p := fun z => by
      rw [z, hide_out dela_self, hp] at h
      cases h
      rcases hu with hu | ⟨_, hu⟩ <;> cases hu
    exact .inl (by rw [← dela_hide hne]; exact h)
  · have hne : a ≠ p := fun z => by
      rw [z, hide_out dela_self, hp] at h
      cases h
    exact .inr ⟨o, by rw [← dela_hide hne]; exact h⟩
mutual
theorem dq_backT (hp : H p = some (DctO w p ob es)) : ∀ {v : V} {d : D}, Dq K (hide (dela A p) H) v d → noDk d = true → Dq K (hide A H) v d
  | _, _, .non, _ => .non
  | _, _, .bl b, _ => .bl b
  | _, _, .int i, _ => .int i
  | _, _, .str x, _ => .str x
  | _, _, .lst h a, q => .lst (h.elim (fun h => .inl (rd_backT hp h (.inr ⟨_, rfl⟩))) .inr) (dqa_backT hp a (by simpa only [noDk] using q))
  | _, _, .tup h a, q => .tup (h.elim (fun h => .inl (rd_backT hp h (.inl rfl))) .inr) (dqa_backT hp a (by simpa only [noDk] using q))
  | _, _, .obj _ _ _ _ _, q => by simp only [noDk] at q; cases q
  | _, _, .dik _ _ _, q => by simp only [noDk] at q; cases q
  | _, _, .dit _ _ _ _ _, q => by simp only [noDk] at q; cases q
theorem dqa_backT (hp : H p = some (DctO w p ob es)) : ∀ {us : List V} {ds : List D}, DqAll K (hide (dela A p) H) us ds → noDks ds = true → DqAll K (hide A H) us ds
  | _, _, .nil, _ => .nil
  | _, _, .cons h t, q => by
    simp only [noDks, Bool.and_eq_true] at q
    exact .cons (dq_backT hp h q.1) (dqa_backT hp t q.2)
end
theorem Grow.backT (g : Grow (dela A p) H H') (hp : H p = some (DctO w p ob es)) : Grow A H H' ∧ H' p = some (DctO w p ob es) := by
  have e : H' p = some (DctO w p ob es) := (hide_some (g.ex.ob p _ rfl (by rw [hide_out dela_self]; exact hp))).2
  refine ⟨⟨g.ex.via (fun a n => ?_) (fun a n _ => ?_), fun q hq => ?_⟩, e⟩
  · have h1 := (hide_th n).1
    have h2 : dela A p a = false := by unfold dela; rw [h1]; rfl
    rw [hide_out h1, hide_out h2]
  · have h1 := (hide_th n).1
    have h2 : dela A p a = false := by unfold dela; rw [h1]; rfl
    rw [hide_out h1, hide_out h2]
  · by_cases z : q = p
    · rw [z, e, hp]
    · exact g.eq q (by rw [dela_ne z]; exact hq)
end
section
variable {K : Fg} {te ti ty : TE} {tt : TT} {fe fi fy : XE} {ft : XT} {i : Nat}
theorem ev_borT {en : En} {d : D} {b : Option Addr} {st : List (D × D)} (hi : en[i]? = some (some (.ow b (dtO st)))) (h : EvD K te (en.set i (some (.sh (dtD st)))) d) (hn : noDk d = true) : EvD K te en d := fun A0 Hs A H σ I Q k => by
  obtain ⟨p, ob, es, _, hA, hp, I'⟩ := I.freezeT hi
  refine h A0 Hs _ H σ I' Q fun v H' g dv => ?_
  obtain ⟨g', hp'⟩ := g.backT hp
  exact k v H' g' (dq_backT hp' dv hn)
theorem et_borT {en : En} {b : Bool} {c : Option Addr} {st : List (D × D)} (hi : en[i]? = some (some (.ow c (dtO st)))) (h : EvT K tt (en.set i (some (.sh (dtD st)))) b) : EvT K tt en b := fun A0 Hs A H σ I Q k => by
  obtain ⟨p, ob, es, _, hA, hp, I'⟩ := I.freezeT hi
  exact h A0 Hs _ H σ I' Q fun H' g => k H' (g.backT hp).1
/-- the own dict is read here -/
def mBorG (i : Nat) (f : XE) : XE := fun en => match en[i]? with
  | some (some (.ow _ (.dt ks fs))) => (match dtsOf ks fs with
    | some st => (match f (en.set i (some (.sh (dtD st)))) with
      | some d => if noDk d = true then some d else none
      | none => none)
    | none => none)
  | _ => f en
theorem me_borG (h : ME K te fe) : ME K te (mBorG i fe) := fun en d e => by
  unfold mBorG at e
  split at e
  · rename_i b ks fs hi
    split at e
    · rename_i st hs
      obtain ⟨rfl, rfl⟩ := dtsOf_eq hs
      split at e
      · rename_i d' hd
        split at e
        · rename_i hn
          cases e
          exact ev_borT hi (h _ _ hd) hn
        · cases e
      · cases e
    · cases e
  · exact h _ _ e
def mBorGT (i : Nat) (f : XT) : XT := fun en => match en[i]? with
  | some (some (.ow _ (.dt ks fs))) => (match dtsOf ks fs with
    | some st => f (en.set i (some (.sh (dtD st))))
    | none => none)
  | _ => f en
theorem mt_borG (h : MT K tt ft) : MT K tt (mBorGT i ft) := fun en d e => by
  unfold mBorGT at e
  split at e
  · rename_i b ks fs hi
    split at e
    · rename_i st hs
      obtain ⟨rfl, rfl⟩ := dtsOf_eq hs
      exact et_borT hi (h _ _ e)
    · cases e
  · exact h _ _ e
/-- {} -/
def mNewT : XW := fun _ => some (dtO [])
theorem mw_newT : MW K (tNewT K) mNewT := fun en o e => by
  cases e
  intro A0 Hs A H σ I Q k p ob hp
  refine k p _ (fun q => q == p) (fun _ => []) (fun q hq => ?_) (Grow.new I.live hp) (.dt ⟨by simp, rfl⟩ upd_same .nil rfl .nil)
  have : q = p := by simpa using hq
  rw [this]
  exact ⟨hp, by rw [upd_same]; exact fun z => by cases z⟩
end
section
variable {K : Fg} {H : Hp}
theorem put_ok {k : NestedKey} {y v : D} {yv vv : V} (hy : keyT y = some k) (hyd : Dq K H yv y) (hvd : Dq K H vv v) {es : List Ent} {st : List (D × D)} (h1 : DqAll K H (es.map (·.2.1)) (st.map (·.1))) (h2 : DqAll K H (es.map (·.2.2)) (st.map (·.2))) (h3 : (st.map (·.1)).map keyT = es.map (fun e => some e.1)) :
    DqAll K H ((putN es k yv vv).map (·.2.1)) ((putP st y v).map (·.1)) ∧ DqAll K H ((putN es k yv vv).map (·.2.2)) ((putP st y v).map (·.2)) ∧ ((putP st y v).map (·.1)).map keyT = (putN es k yv vv).map (fun e => some e.1) := by
  have any : ∀ {es : List Ent} {st : List (D × D)}, (st.map (·.1)).map keyT = es.map (fun e => some e.1) → (es.any fun e => decide (e.1 = k)) = (st.any fun p => PyData.eqv p.1 y) := by
    intro es
    induction es with
    | nil =>
      intro st e
      cases st with
      | nil => rfl
      | cons => cases e
    | cons e es ih =>
      intro st he
      cases st with
      | nil => cases he
      | cons p st =>
        rw [List.map_cons, List.map_cons, List.map_cons, List.cons.injEq] at he
        rw [List.any_cons, List.any_cons, ih he.2, eqv_keyT he.1 hy]
  unfold putN putP
  rw [any h3]
  by_cases q : (st.any fun p => PyData.eqv p.1 y) = true
  · rw [if_pos q, if_pos q]
    clear q any
    induction es generalizing st with
    | nil =>
      cases st with
      | nil => exact ⟨.nil, .nil, rfl⟩
      | cons => cases h3
    | cons e es ih =>
      cases st with
      | nil => cases h3
      | cons p st =>
        rw [List.map_cons, List.map_cons, List.map_cons, List.cons.injEq] at h3
        cases h1 with
        | cons a1 t1 =>
          cases h2 with
          | cons a2 t2 =>
            obtain ⟨i1, i2, i3⟩ := ih t1 t2 h3.2
            have hq : PyData.eqv p.1 y = decide (e.1 = k) := eqv_keyT h3.1 hy
            have m1 : (e :: es).map (fun e => if e.1 = k then (e.1, e.2.1, vv) else e) = (if e.1 = k then (e.1, e.2.1, vv) else e) :: es.map (fun e => if e.1 = k then (e.1, e.2.1, vv) else e) := List.map_cons
            have m2 : (p :: st).map (fun p => if PyData.eqv p.1 y = true then (p.1, v) else p) = (if PyData.eqv p.1 y = true then (p.1, v) else p) :: st.map (fun p => if PyData.eqv p.1 y = true then (p.1, v) else p) := List.map_cons
            rw [m1, m2, hq]
            by_cases c : e.1 = k
            · rw [if_pos c, if_pos (decide_eq_true c)]
              exact ⟨.cons a1 i1, .cons hvd i2, by rw [List.map_cons, List.map_cons, List.map_cons, i3, h3.1]⟩
            · rw [if_neg c, if_neg (by simpa using c)]
              exact ⟨.cons a1 i1, .cons a2 i2, by rw [List.map_cons, List.map_cons, List.map_cons, i3, h3.1]⟩
  · rw [if_neg q, if_neg q]
    refine ⟨?_, ?_, ?_⟩
    · rw [List.map_append, List.map_append]; exact dpa_append h1 (.cons hyd .nil)
    · rw [List.map_append, List.map_append]; exact dpa_append h2 (.cons hvd .nil)
    · rw [List.map_append, List.map_append, List.map_append, h3]
      show _ ++ [keyT y] = _ ++ [some k]
      rw [hy]
theorem drop_ok {k : NestedKey} {y : D} (hy : keyT y = some k) : ∀ {es : List Ent} {st : List (D × D)}, DqAll K H (es.map (·.2.1)) (st.map (·.1)) → DqAll K H (es.map (·.2.2)) (st.map (·.2)) → (st.map (·.1)).map keyT = es.map (fun e => some e.1) →
    DqAll K H ((dropN es k).map (·.2.1)) ((dropP st y).map (·.1)) ∧ DqAll K H ((dropN es k).map (·.2.2)) ((dropP st y).map (·.2)) ∧ ((dropP st y).map (·.1)).map keyT = (dropN es k).map (fun e => some e.1)
  | [], [], _, _, _ => ⟨.nil, .nil, rfl⟩
  | [], _ :: _, _, _, e => by cases e
  | _ :: _, [], _, _, e => by cases e
  | e :: es, p :: st, .cons a1 t1, .cons a2 t2, h3 => by
    rw [List.map_cons, List.map_cons, List.map_cons, List.cons.injEq] at h3
    obtain ⟨i1, i2, i3⟩ := drop_ok hy t1 t2 h3.2
    have hq : PyData.eqv p.1 y = decide (e.1 = k) := eqv_keyT h3.1 hy
    unfold dropN dropP at *
    rw [List.filter_cons, List.filter_cons, hq]
    by_cases c : e.1 = k
    · rw [if_neg (by simpa using c), if_neg (by simpa using c)]
      exact ⟨i1, i2, i3⟩
    · rw [if_pos (by simpa using c), if_pos (by simpa using c)]
      exact ⟨.cons a1 i1, .cons a2 i2, by rw [List.map_cons, List.map_cons, List.map_cons, i3, h3.1]⟩
end
section
variable {K : Fg} {te ti ty : TE} {fe fi fy : XE} {i : Nat}
/-- d[k] = e, d an own dict whose keys are tuples -/
theorem s_setG {en : En} {E : DE} {st : List (D × D)} {y v : D} {k : NestedKey} (hi : en[i]? = some (some (.ow none (dtO st)))) (h : EvD K te en v) (hn : EvD K ti en y) (hy : keyT y = some k) (hz : st.length < 16000000) (q : E.nx (en.set i (some (.ow none (dtO (putP st y v)))))) :
    SD K (tAsg te (gSub (tVar i) ti (rSetG K))) E en := fun A0 Hs A H σ I F f =>
  h A0 Hs A H σ I _ fun v1 H1 g1 d1 => by
    have I1 := I.grow g1
    obtain ⟨p, ob, es, hv, hA, hA0, hp, k1, k2, k3⟩ := I1.odt hi
    refine ⟨_, hv, hn A0 Hs A H1 σ I1 _ fun w H2 g2 d2 => ?_⟩
    have hp2 : H2 p = some (DctO K.w p ob es) := by rw [g2.eq p hA]; exact hp
    have hl : es.length = st.length := by have := congrArg List.length k3; simpa using this.symm
    refine .inr ⟨p, ob, es, k, rfl, ⟨hp2, fun e he => ((isK_all k1 k3 e he).mono g2.ex).mono hide_sub⟩, ⟨y, dp_mono hide_sub d2, hy⟩, Nat.lt_of_lt_of_le (by omega : es.length < 16000000) (by rw [sizeLine_eq]; decide), fun ob' => ?_⟩
    obtain ⟨j1, j2, j3⟩ := put_ok (K := K) hy d2 (dp_mono g2.ex d1) (dpa_mono g2.ex k1) (dpa_mono g2.ex k2) k3
    exact f.nx A _ σ _ ((I1.grow g2).writeT hi hv j1 j2 j3) q
def mSetG (i : Nat) (fi fe : XE) : XS := fun en => match en[i]?, fe en, fi en with
  | some (some (.ow none (.dt ks fs))), some v, some y => (match dtsOf ks fs with
    | some st => if (keyT y).isSome = true ∧ st.length < 16000000 then some (.nx (en.set i (some (.ow none (dtO (putP st y v)))))) else none
    | none => none)
  | _, _, _ => none
theorem ms_setG (hi : ME K ti fi) (h : ME K te fe) : MS K (tAsg te (gSub (tVar i) ti (rSetG K))) (mSetG i fi fe) := fun en o e => by
  unfold mSetG at e
  split at e
  · rename_i ks fs v y h1 h2 h3
    split at e
    · rename_i st hs
      obtain ⟨rfl, rfl⟩ := dtsOf_eq hs
      split at e
      · rename_i hc
        obtain ⟨k, hk⟩ := Option.isSome_iff_exists.mp hc.1
        cases e
        exact s_setG h1 (h en _ h2) (hi en _ h3) hk hc.2 rfl
      · cases e
    · cases e
  · cases e
/-- d.pop(k) as a statement -/
theorem s_popG {en : En} {E : DE} {st : List (D × D)} {y v : D} {k : NestedKey} (hi : en[i]? = some (some (.ow none (dtO st)))) (hn : EvD K ti en y) (hy : keyT y = some k) (hv : dgetD st y = some v) (q : E.nx (en.set i (some (.ow none (dtO (dropP st y)))))) :
    SD K (tDrop (tPopG K (tVar i) ti)) E en := fun A0 Hs A H σ I F f => by
  obtain ⟨p, ob, es, hs, hA, hA0, hp, k1, k2, k3⟩ := I.odt hi
  refine ⟨_, hs, p, rfl, .inr ⟨ob, es, hp⟩, hn A0 Hs A H σ I _ fun w H2 g2 d2 => ?_⟩
  have hp2 : H2 p = some (DctO K.w p ob es) := by rw [g2.eq p hA]; exact hp
  obtain ⟨r, c1, c2⟩ := valN_ok hy k3 (dpa_mono g2.ex k2)
  rw [zip_st, hv] at c1
  subst c1
  rcases c2 with ⟨c2, _⟩ | ⟨z, u, c2, c3, c4⟩
  · cases c2
  · obtain ⟨j1, j2, j3⟩ := drop_ok (K := K) hy (dpa_mono g2.ex k1) (dpa_mono g2.ex k2) k3
    exact ⟨ob, es, k, u, ⟨hp2, fun e he => ((isK_all k1 k3 e he).mono g2.ex).mono hide_sub⟩, ⟨y, dp_mono hide_sub d2, hy⟩, c3, fun ob' => f.nx A _ σ _ ((I.grow g2).writeT hi hs j1 j2 j3) q⟩
def mPopG (i : Nat) (fi : XE) : XS := fun en => match en[i]?, fi en with
  | some (some (.ow none (.dt ks fs))), some y => (match dtsOf ks fs with
    | some st => if (keyT y).isSome = true ∧ (dgetD st y).isSome = true then some (.nx (en.set i (some (.ow none (dtO (dropP st y)))))) else none
    | none => none)
  | _, _ => none
theorem ms_popG (hi : ME K ti fi) : MS K (tDrop (tPopG K (tVar i) ti)) (mPopG i fi) := fun en o e => by
  unfold mPopG at e
  split at e
  · rename_i ks fs y h1 h3
    split at e
    · rename_i st hs
      obtain ⟨rfl, rfl⟩ := dtsOf_eq hs
      split at e
      · rename_i hc
        obtain ⟨k, hk⟩ := Option.isSome_iff_exists.mp hc.1
        obtain ⟨v, hv⟩ := Option.isSome_iff_exists.mp hc.2
        cases e
        exact s_popG h1 (hi en _ h3) hk hv rfl
      · cases e
    · cases e
  · cases e
end
end HF

set_option Elab.async false
set_option linter.all false
set_option maxRecDepth 100000
set_option maxHeartbeats 2000000
/-! HF35: displays of dicts with numbers and texts as keys. -/
namespace HF
open PySem L2 PySem.Spec PyProof.Rows
def EvPs (K : Fg) (trs : List (TE × TE)) (en : En) (ps : List (D × D)) : Prop := ∀ A0 Hs A H σ, EnvOk K A0 Hs A H σ en → ∀ Q : List (V × V) → Hp → Prop, (∀ vs H', Grow A H H' → DqAll K (hide A H') (vs.map (·.1)) (ps.map (·.1)) → DqAll K (hide A H') (vs.map (·.2)) (ps.map (·.2)) → Q vs H') → tPairs trs σ H Q
abbrev XP := En → Option (List (D × D))
def MP (K : Fg) (trs : List (TE × TE)) (f : XP) : Prop := ∀ en ps, f en = some ps → EvPs K trs en ps
def mPNil : XP := fun _ => some []
def mPCons (fk fv : XE) (g : XP) : XP := fun en => match fk en, fv en, g en with
  | some k, some v, some ps => some ((k, v) :: ps)
  | _, _, _ => none
section
variable {K : Fg} {tk tv : TE} {trs : List (TE × TE)} {fk fv : XE} {g : XP}
theorem mp_nil : MP K [] mPNil := fun en ps e => by
  cases e
  exact fun A0 Hs A H σ I Q k => k [] H (Grow.refl H) .nil .nil
theorem mp_cons (hk : ME K tk fk) (hv : ME K tv fv) (hg : MP K trs g) : MP K ((tk, tv) :: trs) (mPCons fk fv g) := fun en ps e => by
  unfold mPCons at e
  split at e
  · rename_i k v ps' h1 h2 h3
    cases e
    intro A0 Hs A H σ I Q q
    refine hk en _ h1 A0 Hs A H σ I _ fun x H1 g1 d1 => hv en _ h2 A0 Hs A H1 σ (I.grow g1) _ fun y H2 g2 d2 => hg en _ h3 A0 Hs A H2 σ ((I.grow g1).grow g2) _ fun vs H3 g3 d3 d4 => ?_
    exact q ((x, y) :: vs) H3 ((g1.trans g2).trans g3) (.cons (dp_mono (g2.trans g3).ex d1) d3) (.cons (dp_mono g3.ex d2) d4)
  · cases e
/-- scalar keys, each once -/
def ndKd : List (D × D) → Bool
  | [] => true
  | p :: ps => scalD p.1 && !(ps.any fun q => PyData.eqv p.1 q.1) && ndKd ps
theorem scal_all {H : Hp} : ∀ {vs : List (V × V)} {ps : List (D × D)}, DqAll K H (vs.map (·.1)) (ps.map (·.1)) → ndKd ps = true → ∃ kvs : List (Key × V), vs = kvs.map (fun kv => (kV kv.1, kv.2)) ∧ ps.map (·.1) = kvs.map (fun f => keyD f.1) ∧ (kvs.map (·.1)).Nodup
  | [], [], _, _ => ⟨[], rfl, rfl, List.nodup_nil⟩
  | [], _ :: _, h, _ => by cases h
  | _ :: _, [], h, _ => by cases h
  | v :: vs, p :: ps, .cons h t, q => by
    unfold ndKd at q
    rw [Bool.and_eq_true, Bool.and_eq_true] at q
    obtain ⟨⟨q1, q2⟩, q3⟩ := q
    obtain ⟨kvs, e1, e2, e3⟩ := scal_all t q3
    obtain ⟨k, hk1, hk2⟩ := scal_v h q1
    obtain ⟨v1, v2⟩ := v
    have hk1 : v1 = kV k := hk1
    have hk2 : p.1 = keyD k := hk2
    refine ⟨(k, v2) :: kvs, by rw [List.map_cons, e1, hk1], by rw [List.map_cons, List.map_cons, e2, hk2], ?_⟩
    rw [List.map_cons, List.nodup_cons]
    refine ⟨fun m => ?_, e3⟩
    obtain ⟨x, hx, hxk⟩ := List.mem_map.mp m
    have hxk : x.1 = k := hxk
    have m2 : keyD k ∈ ps.map (·.1) := by rw [e2]; exact List.mem_map.mpr ⟨x, hx, by show keyD x.1 = _; rw [hxk]⟩
    obtain ⟨y, hy, hyk⟩ := List.mem_map.mp m2
    have hyk : y.1 = keyD k := hyk
    have : (ps.any fun q => PyData.eqv p.1 q.1) = true := by
      rw [List.any_eq_true]
      refine ⟨y, hy, ?_⟩
      rw [hk2, hyk]
      cases k with
      | inl i => show (i == i) = true; exact beq_self_eq_true i
      | inr x => show (x == x) = true; exact beq_self_eq_true x
    rw [this] at q2
    cases q2
theorem merge_nd : ∀ {more kvs : List (Key × V)}, (more.map (·.1)).Nodup → (∀ x ∈ more, x.1 ∉ kvs.map (·.1)) → mergeK kvs more = kvs ++ more
  | [], kvs, _, _ => by show kvs = _; rw [List.append_nil]
  | p :: more, kvs, h, q => by
    rw [List.map_cons, List.nodup_cons] at h
    have e : putK kvs p.1 p.2 = kvs ++ [p] := putK_new p.2 (by
      cases hv : valV kvs p.1 with
      | none => rfl
      | some v => exact absurd (valV_in hv) (q p List.mem_cons_self))
    show mergeK (putK kvs p.1 p.2) more = _
    rw [e, merge_nd h.2 (fun x hx m => ?_), List.append_assoc]
    · rfl
    · rw [List.map_append] at m
      rcases List.mem_append.mp m with m | m
      · exact q x (List.mem_cons_of_mem _ hx) m
      · have e1 : x.1 = p.1 := by simpa using m
        exact h.1 (by rw [← e1]; exact List.mem_map.mpr ⟨x, hx, rfl⟩)
/-- {k: v, ..} -/
def mDsp (g : XP) : XE := fun en => match g en with
  | some ps => if ndKd ps = true ∧ ps.length ≤ 15 then some (.dict ps) else none
  | none => none
theorem me_dsp (h : MP K trs g) : ME K (tDisp trs) (mDsp g) := fun en d e => by
  unfold mDsp at e
  split at e
  · rename_i ps hp
    split at e
    · rename_i hc
      cases e
      intro A0 Hs A H σ I Q q p hn
      have I1 := I.apart (o := .dK []) hn
      have hA : A p = false := I.live.out hn
      refine h en _ hp A0 Hs _ _ σ I1 _ fun vs H2 g2 d1 d2 => ?_
      have e0 : H2 p = some (.dK []) := by rw [g2.eq p adda_self, upd_same]
      obtain ⟨kvs, rfl, k2, k3⟩ := scal_all d1 hc.1
      have hl : kvs.length ≤ 15 := by
        have := congrArg List.length k2
        simp at this
        omega
      refine ⟨e0, kvs, rfl, hl, ?_⟩
      have sm : Same (hide (adda A p) H2) (hide A (upd H2 p (.dK (mergeK [] kvs)))) := same_of fun a u e => by
        obtain ⟨h1, h2⟩ := hide_some e
        obtain ⟨h3, h4⟩ := adda_false h1
        rw [hide_out h3, upd_ne h4]; exact h2
      have gr : Grow A H (upd H2 p (.dK (mergeK [] kvs))) := by
        refine ⟨((same_of fun a o e => ?_).trans g2.ex).trans sm, fun a ha => ?_⟩
        · obtain ⟨h1, h2⟩ := hide_some e
          have hne : a ≠ p := ne_of_none h2 hn
          rw [hide_out (by rw [adda_ne hne]; exact h1), upd_ne hne]; exact h2
        · have hne : a ≠ p := fun z => by rw [z, hA] at ha; cases ha
          rw [upd_ne hne, g2.eq a (adda_of ha), upd_ne hne]
      refine q _ _ gr ?_
      have em : mergeK [] kvs = kvs := by rw [merge_nd k3 (fun x _ => by simp)]; rfl
      refine .dik (.inl (by rw [hide_out hA, upd_same])) (ds := ps.map (·.2)) ?_ ?_
      · rw [em]
        have d3 := dpa_mono sm d2
        rw [List.map_map, em] at d3
        exact d3
      · rw [em, ← k2, zip_st]
    · cases e
  · cases e
end
/-! steps -/
section
variable {en : En} {fa fb fc fk fv : XE} {g : XP}
def dspO : Option (List (D × D)) → Option D
  | some ps => if ndKd ps = true ∧ ps.length ≤ 15 then some (.dict ps) else none
  | none => none
theorem x_dsp : mDsp g en = dspO (g en) := by unfold mDsp dspO; cases g en <;> rfl
theorem x_dsp1 {ps : List (D × D)} (h : ndKd ps = true) (h2 : ps.length ≤ 15) : dspO (some ps) = some (.dict ps) := if_pos ⟨h, h2⟩
theorem x_pnil : mPNil en = some [] := (rfl)
def pconsO : Option D → Option D → Option (List (D × D)) → Option (List (D × D))
  | some k, some v, some ps => some ((k, v) :: ps)
  | _, _, _ => none
theorem x_pcons : mPCons fk fv g en = pconsO (fk en) (fv en) (g en) := by unfold mPCons pconsO; rfl
theorem x_pcons1 {k v : D} {ps : List (D × D)} : pconsO (some k) (some v) (some ps) = some ((k, v) :: ps) := (rfl)
theorem x_getG {kd : List (D × D)} {y z : D} (h : dg kd y = some (some z)) : opGet (.dict kd) y = some z := by unfold opGet; dsimp only; rw [h]
theorem x_inG {neg : Bool} {kd : List (D × D)} {y : D} {r : Option D} (h : dg kd y = some r) : opInG neg y (.dict kd) = some (.bool (if neg then !r.isSome else r.isSome)) := by unfold opInG; dsimp only; rw [h]
def dg2O : Option D → Option D → Option D → Option D
  | some (.dict kd), some y, some z => (match dg kd y with
    | some r => some (r.getD z)
    | none => none)
  | _, _, _ => none
theorem x_dG2 : mDG2 fa fb fc en = dg2O (fa en) (fb en) (fc en) := by unfold mDG2 dg2O; rfl
theorem x_dG21 {kd : List (D × D)} {y z : D} {r : Option D} (h : dg kd y = some r) : dg2O (some (.dict kd)) (some y) (some z) = some (r.getD z) := by unfold dg2O; dsimp only; rw [h]
end
end HF

set_option Elab.async false
set_option linter.all false
set_option maxRecDepth 100000
set_option maxHeartbeats 2000000
/-! HF36: enumerate over tuples and texts; zip of tuples. -/
namespace HF
open PySem L2 PySem.Spec PyProof.Rows
theorem meets_en1 {v : Value} {o : Obj} {C : Heap → Prop} (B : Begins v o C) :
    Meets (Builtin.«enumerate.__new__» ⟨[.type "enumerate", v], []⟩) (fun _ R s => C s.heap ∧
      R (.ok (.ret (.ref (s.heap.push o).objs.size))) { s with heap := (s.heap.push o).push { cls := .type "enumerate", data := .fields #[.none, .bool false, .ref s.heap.objs.size, rawInt 0, .none, .none] } }) :=
  .of_wp fun prog w A R s h => by
    obtain ⟨hp, g, d, tk, os⟩ := s
    obtain ⟨h1, h⟩ := h
    have sub := sub_enumerate
    have q1 : ∀ {A' : Around} {E : Value → Shared → Prop} {Q : Value → Shared → Prop}, Q (.ref hp.objs.size) ⟨hp.push o, g, d, tk, os⟩ → wpAny (model prog w) A' (pyIter v) Q E ⟨hp, g, d, tk, os⟩ := fun q => B.iter prog w _ _ ⟨hp, g, d, tk, os⟩ _ h1 q
    wp_walk using q1
    refine wpAny_stack_any fun st => wpAny_pure ?_
    split
    · rename_i c _ _ _ _ _
      cases (c == Value.type "enumerate") <;> (wp_walk using q1; exact ⟨_, rfl, h⟩)
    · wp_walk using q1
      exact ⟨_, rfl, h⟩
theorem call_en1 {prog : Program} {w : World} {A : Around} {E : Value → Shared → Prop} {s : Shared} {v : Value} {o : Obj} {C : Heap → Prop} {Q : Value → Shared → Prop} (B : Begins v o C) (h1 : C s.heap)
    (h : ∀ h', IsEnum h' (s.heap.objs.size + 1) s.heap.objs.size 0 .none → h'.get? s.heap.objs.size = some o → h'.objs.size = s.heap.objs.size + 2 → (∀ b o, s.heap.get? b = some o → h'.get? b = some o) → Q (.ref (s.heap.objs.size + 1)) { s with heap := h' }) :
    wpAny (model prog w) A (call (.type "enumerate") [v]) Q E s := by
  refine callType_new F.called_enumerate (by decide) (F.typeCall_enumerate_1 _) (F.newCall_enumerate_1 _) (fun obj => F.args_object_init_2 obj _) F.entry_enumerate_new (meets_en1 B) ⟨h1, ?_⟩
  have hz : (s.heap.push o).objs.size = s.heap.objs.size + 1 := Heap.size_push ..
  show _ ∧ _
  rw [hz]
  generalize hw : ({ cls := .type "enumerate", data := .fields #[.none, .bool false, .ref s.heap.objs.size, rawInt 0, .none, .none] } : Obj) = en
  have g : ((s.heap.push o).push en).get? (s.heap.objs.size + 1) = some en := by
    have q := Heap.get?_push_size (s.heap.push o) (o := en) (by rw [← hw]; rfl)
    rw [hz] at q
    exact q
  refine ⟨⟨en, g, by rw [← hw]⟩, h _ (by rw [← hw] at g ⊢; exact g) (Heap.get?_push_of_some _ (Heap.get?_push_size _ B.free)) (by rw [Heap.size_push, hz]) fun b o x => Heap.get?_push_of_some _ (Heap.get?_push_of_some _ x)⟩
/-- pairs of a number and what is known to be there -/
def ItEn (C : Hp → Prop) (xs : List V) : It :=
  ⟨fun i H => C H ∧ i < xs.length, fun i H v H' => ∃ T x, v = .ref T ∧ H T = none ∧ H' = upd H T (.tup [.int (i : Nat), x]) ∧ xs[i]? = some x, fun i H => C H ∧ i = xs.length⟩
/-- what the inner iterator draws, at any turn -/
def DrawsAt (P : Program) (w : World) (K : PySem.W.Frag) (C : Hp → Prop) (xs : List V) (e it : Addr) (St : Nat → Heap → Prop) : Prop :=
  ∀ (X : Cx), X.prog = P → X.w = w → X.K = K → X.calm = true → ∀ (pins : List (Addr × Obj)) (s : Shared) (σ : L2.St) (H : Hp), Inv X pins σ H s → C H → it < e → e < s.heap.objs.size → (∀ b ∈ [e, it], FpOk X pins H b) →
    ∃ (fp : List Addr) (Pv : Nat → Value → Prop) (Ok : Heap → Prop), Draws X.prog X.w X.A.in1 it fp xs.length Pv (fun i h => St i h ∧ Ok h) ∧ Ok s.heap ∧ e ∉ fp ∧ ∀ i v, Pv i v → ∃ x, xs[i]? = some x ∧ RelV x v
theorem turn_en {P : Program} {w : World} {K : PySem.W.Frag} {elts : List Expr} {kk : Nat} {tpos : Pos} {C : Hp → Prop} {xs : List V} {e it : Addr} {St : Nat → Heap → Prop} (hne : it < e)
    (hSt : ∀ i h, St i h → ∃ o, h.get? it = some o ∧ ∀ v, o.data ≠ .cell v) (hStk : ∀ i h h', St i h → (∀ o, h.get? it = some o → h'.get? it = some o) → St i h') (D : DrawsAt P w K C xs e it St) :
    Turn P w K (.Tuple elts kk tpos) (ItEn C xs) [e, it] e (fun i h => (∃ old, IsEnum h e it ((i : Nat) : Int) old) ∧ St i h) where
  mem := by simp
  obj := fun i h st b hb => by
    obtain ⟨⟨old, he⟩, hs⟩ := st
    have e' : b = e ∨ b = it := by simpa using hb
    rcases e' with z | z
    · rw [z]; exact ⟨_, he, fun v q => nomatch q⟩
    · rw [z]; exact hSt i h hs
  keep := fun i h h' st k => let ⟨⟨old, he⟩, hi⟩ := st; ⟨⟨old, k e (by simp) _ he⟩, hStk i h h' hi fun o q => k it (by simp) o q⟩
  item := by
    intro X hP hw hK hc i pins s σ H E I hf st hg
    obtain ⟨⟨old, he⟩, hs⟩ := st
    obtain ⟨hC, hi⟩ := hg
    have hel : e < s.heap.objs.size := Heap.lt_size he
    obtain ⟨fp, Pv, Ok, DD, ok, hef, hPv⟩ := D X hP hw hK hc pins s σ H I hC hne hel hf
    subst hP hw hK
    have hil : it < s.heap.objs.size := Nat.lt_trans hne hel
    refine wpAny_pyNext_enum_itemD DD he ⟨hs, ok⟩ hi (Nat.ne_of_gt hne) hef fun u h' tk hu ho hst' hT hsz hk => ?_
    obtain ⟨x, hx, ru⟩ := hPv i u hu
    refine ⟨_, rfl, wpAny_letOwnedTupleGo_enum (s := { s with heap := h', toks := tk + 1 }) ho fun h'' he' sb => ?_⟩
    have hT2 : h''.get? s.heap.objs.size = some { cls := .type "tuple", data := .seq #[.int i tk, u] } := (sb.2 _ (Nat.ne_of_gt hel)).trans hT
    have new : ObjOk X.prog X.w (upd H s.heap.objs.size (.tup [.int (i : Nat), x])) h'' s.heap.objs.size (.tup [.int (i : Nat), x]) :=
      ⟨by show 2 ≤ sizeLine; decide, [.int i tk, u], .cons ⟨_, rfl⟩ (.cons ru .nil), ⟨_, hT2, rfl, _, rfl⟩⟩
    have I1 : Inv X pins σ (upd H s.heap.objs.size (.tup [.int (i : Nat), x])) { s with heap := h'', toks := tk + 1 } :=
      I.turnedNew (ch := [e, it]) (fun b ob hb q => (sb.2 b (fun z => hb (by simp [z]))).trans (hk b ob (fun z => hb (by simp [z])) (fun z => hb (by simp [z])) q)) hf (Nat.le_refl _) new
    refine ⟨.ref s.heap.objs.size, _, I1, rfl, ⟨_, x, rfl, I.hok.fresh (Nat.le_refl _), rfl, hx⟩, ⟨⟨u, ?_⟩, hStk _ _ _ hst'.1 fun o q => (sb.2 it (Nat.ne_of_lt hne)).trans q⟩, fun b hb => ?_⟩
    · have e1 : ((i + 1 : Nat) : Int) = (i : Int) + 1 := by omega
      rw [e1]; exact he'
    · have hb' : b < s.heap.objs.size := by
        have e' : b = e ∨ b = it := by simpa using hb
        rcases e' with z | z
        · rw [z]; exact hel
        · rw [z]; exact hil
      rw [upd_ne (Nat.ne_of_lt hb')]
      exact (hf b hb).1
  done := by
    intro X hP hw hK hc i pins s σ H E I hf st hg
    obtain ⟨⟨old, he⟩, hs⟩ := st
    obtain ⟨hC, hi⟩ := hg
    have hel : e < s.heap.objs.size := Heap.lt_size he
    obtain ⟨fp, Pv, Ok, DD, ok, hef, hPv⟩ := D X hP hw hK hc pins s σ H I hC hne hel hf
    subst hP hw hK
    obtain ⟨f0, f1, f2, f3, f4, f5⟩ := hf it (by simp)
    subst hi
    exact wpAny_pyNext_enum_endD DD he ⟨hs, ok⟩ fun h' eb => ⟨rfl, I.turned (t' := s.toks) (fun b o hb q => eb b o hb q) f0 f1 f3 f4 f5⟩
  self := fun A i s Q E st h => let ⟨⟨_, he⟩, _⟩ := st; wpAny_pyIter_enum he h
/-- enumerate of a tuple, of a text -/
def iEnT (K : PySem.W.Frag) (ta : TA) : TI := fun σ H R => ta σ H fun vs H1 => ∃ a xs, vs = [.ref a] ∧ SqT K H1 a xs ∧ R (ItEn (fun H => SqT K H a xs) xs) H1
def chars (z : Str) : List V := z.cps.toList.map fun c => .str ⟨#[c]⟩
def iEnS (ta : TA) : TI := fun σ H R => ta σ H fun vs H1 => ∃ z, vs = [.str z] ∧ R (ItEn (fun _ => True) (chars z)) H1
section
variable {X : Cx} {e : Expr} {ta : TA} {p pos tpos : Pos} {elts : List Expr} {kk : Nat}
theorem fp2 {pins : List (Addr × Obj)} {σ : L2.St} {H : Hp} {s : Shared} (I : Inv X pins σ H s) : ∀ b ∈ [s.heap.objs.size + 1, s.heap.objs.size], FpOk X pins H b := fun b hb => by
  have e' : b = s.heap.objs.size + 1 ∨ b = s.heap.objs.size := by simpa using hb
  have hle : s.heap.objs.size ≤ b := by
    rcases e' with z | z
    · rw [z]; exact Nat.le_add_right _ _
    · rw [z]; exact Nat.le_refl _
  exact I.fpOk hle (I.hok.fresh hle)
theorem pi_enT (hg : Gl X "enumerate") (hm : X.mg "enumerate" = none) (ha : PA X [e] ta) (hs : starEach [e] X.env = [(false, eval e X.env)] := by rfl) :
    PI X (.Tuple elts kk tpos) (.Call (.Name "enumerate" p) [e] [] pos) (iEnT X.K ta) := by
  refine ⟨fun pins s σ H R I h => ?_⟩
  refine Call_ (ld_blt I hg hm boot_enumerate (PyProof.Rows.callWith_type1 (thn (ha.run pos pins s σ H _ I h) fun us s1 ⟨vs, H1, I1, r1, q1⟩ => ?_) hs rfl))
  obtain ⟨a, xs, ex, hq, q⟩ := q1
  subst ex
  cases r1 with
  | cons r rr =>
    cases rr
    cases r
    obtain ⟨its, rv, p', hz⟩ := I1.tuple hq
    have ha : a < s1.heap.objs.size := by
      obtain ⟨o, ho, _⟩ := p'
      exact Heap.lt_size ho
    refine call_en1 (begins_tuple a its.toArray) (show s1.heap.IsTuple a its.toArray from p') fun h' he hit hsz hk => wpAny_pyIter_enum he ?_
    have I2 : Inv X pins σ H1 { s1 with heap := h' } := I1.kept (t' := s1.toks) hk
    refine ⟨s1.heap.objs.size + 1, [s1.heap.objs.size + 1, s1.heap.objs.size], _, _, H1, rfl, I2, turn_en (St := fun i h => h.IsTupleIter s1.heap.objs.size a i) (Nat.lt_succ_self _) (fun i h st => ?_) (fun i h h' st k => st.at k) ?_, ⟨⟨.none, he⟩, ⟨_, hit, rfl, rfl⟩⟩, fp2 I1, q⟩
    · obtain ⟨o, ho, hc, hd⟩ := st
      exact ⟨o, ho, fun v z => by rw [hd] at z; cases z⟩
    · intro Y hP hw hK hc pins' s' σ' H' I' hC hlt hel hf
      have hC2 : SqT Y.K H' a xs := by rw [hK]; exact hC
      obtain ⟨its', rv', p2, hz'⟩ := Inv.tuple I' hC2
      refine ⟨[s1.heap.objs.size, a], fun i v => its'.toArray[i]? = some v, fun h => h.IsTuple a its'.toArray, ?_, show s'.heap.IsTuple a its'.toArray from p2, fun m => ?_, ?_⟩
      · have hl := rv'.length
        have D := Draws.tuple (prog := Y.prog) (w := Y.w) (A := Y.A.in1) (I'.ok.hd hc) s1.heap.objs.size a (Nat.ne_of_lt ha) its'.toArray
        rw [show its'.toArray.size = xs.length by simp; omega] at D
        exact D
      · rcases List.mem_cons.mp m with m | m
        · exact absurd m (Nat.succ_ne_self _)
        · rw [List.mem_singleton] at m
          exact absurd m (Nat.ne_of_gt (Nat.lt_succ_of_lt ha))
      · intro i v hv
        have hv : its'[i]? = some v := by simpa using hv
        have hl := rv'.length
        have hi : i < xs.length := by rw [hl]; exact (List.getElem?_eq_some_iff.mp hv).1
        obtain ⟨u, hu, r⟩ := Vals.get rv' (List.getElem?_eq_getElem hi)
        rw [hv] at hu
        cases hu
        exact ⟨_, List.getElem?_eq_getElem hi, r⟩
theorem pi_enS (hg : Gl X "enumerate") (hm : X.mg "enumerate" = none) (ha : PA X [e] ta) (hs : starEach [e] X.env = [(false, eval e X.env)] := by rfl) :
    PI X (.Tuple elts kk tpos) (.Call (.Name "enumerate" p) [e] [] pos) (iEnS ta) := by
  refine ⟨fun pins s σ H R I h => ?_⟩
  refine Call_ (ld_blt I hg hm boot_enumerate (PyProof.Rows.callWith_type1 (thn (ha.run pos pins s σ H _ I h) fun us s1 ⟨vs, H1, I1, r1, q1⟩ => ?_) hs rfl))
  obtain ⟨z, ex, q⟩ := q1
  subst ex
  cases r1 with
  | cons r rr =>
    cases rr
    obtain ⟨t, rfl⟩ := r
    refine call_en1 (begins_text z t) True.intro fun h' he hit hsz hk => wpAny_pyIter_enum he ?_
    have I2 : Inv X pins σ H1 { s1 with heap := h' } := I1.kept (t' := s1.toks) hk
    refine ⟨s1.heap.objs.size + 1, [s1.heap.objs.size + 1, s1.heap.objs.size], _, _, H1, rfl, I2, turn_en (St := fun i h => h.IsStrIter s1.heap.objs.size (strIterType z) z t i) (Nat.lt_succ_self _) (fun i h st => ?_) (fun i h h' st k => ?_) ?_, ⟨⟨.none, he⟩, ⟨_, hit, rfl, rfl⟩⟩, fp2 I1, q⟩
    · obtain ⟨o, ho, hc, hd⟩ := st
      exact ⟨o, ho, fun v z => by rw [hd] at z; cases z⟩
    · obtain ⟨o, ho, r⟩ := st
      exact ⟨o, k o ho, r⟩
    · intro Y hP hw hK hc pins' s' σ' H' I' hC hlt hel hf
      refine ⟨[s1.heap.objs.size], fun i v => ∃ c u, z.cps[i]? = some c ∧ v = .str ⟨#[c]⟩ u, fun _ => True, ?_, True.intro, fun m => ?_, ?_⟩
      · have D := Draws.text (prog := Y.prog) (w := Y.w) (A := Y.A.in1) (I'.ok.hd hc) s1.heap.objs.size z t
        rw [show z.cps.size = (chars z).length by unfold chars; simp] at D
        exact ⟨fun i h st => D.live i h st.1, fun i h h' st k => ⟨D.frame i h h' st.1 k, True.intro⟩, fun i s Q E hi st hQ => D.item i s Q E hi st.1 fun x h' tk hx st' sb => hQ x h' tk hx ⟨st', True.intro⟩ sb, fun s Q E st hE => D.done s Q E st.1 hE⟩
      · rw [List.mem_singleton] at m
        exact absurd m (Nat.succ_ne_self _)
      · rintro i v ⟨c, u, hc, rfl⟩
        refine ⟨.str ⟨#[c]⟩, ?_, ⟨u, rfl⟩⟩
        unfold chars
        rw [List.getElem?_map, Array.getElem?_toList, hc]
        rfl
end
section
variable {K : Fg} {en : En} {ta : TA} {ga : XA} {xs ys : List D}
theorem walk_en {K : Fg} {A : Addr → Bool} {H : Hp} {C : Hp → Prop} {vs : List V} {zs : List D} (hd : DqAll K (hide A H) vs zs) (hC : ∀ A1 H1, Live A1 H1 → Same (hide A H) (hide A1 H1) → C H1) : WalkD K A H (ItEn C vs) (enumD zs) := by
  have hl := dpa_len hd
  have el : (enumD zs).length = zs.length := by unfold enumD pairsD; rw [List.length_zipWith, rngD_len]; simp
  refine ⟨fun A1 H1 i l sm hi => ⟨hC A1 H1 l sm, by omega⟩, fun A1 H1 l sm => ⟨hC A1 H1 l sm, by omega⟩, fun A1 H1 i d x H2 l sm hi y => ?_⟩
  obtain ⟨T, u, rfl, hT, rfl, hu⟩ := y
  obtain ⟨z, hz, hq⟩ := dpa_get' hd hu
  rw [enumD_at hz] at hi
  cases hi
  have g := Grow.new (o := .tup [.int ((i : Nat) : Int), u]) l hT
  exact ⟨g, .tup (.inl (.inl (hide_new l hT))) (.cons (.int _) (.cons (dp_mono (sm.trans g.ex) hq) .nil))⟩
theorem ei_enT (h : EvA K ta en [.tuple xs]) : EvI K (iEnT K ta) en (enumD xs) := fun A0 Hs A H σ I R k =>
  h A0 Hs A H σ I _ fun ws H1 g1 d1 => by
    cases d1 with
    | cons q t =>
      cases t
      obtain ⟨a, vs, rfl, hs, hd⟩ := dp_tup q
      exact ⟨a, vs, rfl, st_mono hide_sub hs, k _ H1 g1 (walk_en hd fun A1 H2 l sm => st_mono hide_sub (st_mono sm hs))⟩
theorem chars_dq {H : Hp} (z : Str) : DqAll K H (chars z) (signsD z) := by
  unfold chars signsD
  generalize z.cps.toList = l
  induction l with
  | nil => exact .nil
  | cons c l ih => exact .cons (.str _) ih
theorem ei_enS {z : Str} (h : EvA K ta en [.str z]) : EvI K (iEnS ta) en (enumD (signsD z)) := fun A0 Hs A H σ I R k =>
  h A0 Hs A H σ I _ fun ws H1 g1 d1 => by
    cases d1 with
    | cons q t =>
      cases t
      rw [dp_str q]
      exact ⟨z, rfl, k _ H1 g1 (walk_en (chars_dq z) fun _ _ _ _ => True.intro)⟩
def mEnT (ga : XA) : XA := fun en => match ga en with
  | some [.tuple xs] => some (enumD xs)
  | _ => none
theorem mi_enT (h : MA K ta ga) : MI K (iEnT K ta) (mEnT ga) := fun en ds e => by
  unfold mEnT at e
  split at e
  · cases e; exact ei_enT (h en _ (by assumption))
  · cases e
def mEnS (ga : XA) : XA := fun en => match ga en with
  | some [.str z] => some (enumD (signsD z))
  | _ => none
theorem mi_enS (h : MA K ta ga) : MI K (iEnS ta) (mEnS ga) := fun en ds e => by
  unfold mEnS at e
  split at e
  · cases e; exact ei_enS (h en _ (by assumption))
  · cases e
/-- zip of two tuples -/
theorem ei_zipT (h : EvA K ta en [.tuple xs, .tuple ys]) : EvI K (RZ.iZipA K ta) en (pairsD xs ys) := fun A0 Hs A H σ I R k =>
  h A0 Hs A H σ I _ fun ws H1 g1 d1 => by
    cases d1 with
    | cons q t =>
      cases t with
      | cons q2 t =>
        cases t
        obtain ⟨a, vs, rfl, hs, hd⟩ := dp_tup q
        obtain ⟨b, us, rfl, hs2, hd2⟩ := dp_tup q2
        have hl := dpa_len hd
        have hl2 := dpa_len hd2
        have pl : (pairsD xs ys).length = min xs.length ys.length := by unfold pairsD; rw [List.length_zipWith]
        refine ⟨a, b, vs, us, rfl, .inr ⟨st_mono hide_sub hs, st_mono hide_sub hs2, k _ H1 g1 ⟨fun A1 H2 i l sm hi => ?_, fun A1 H2 l sm => ?_, fun A1 H2 i d x H3 l sm hi y => ?_⟩⟩⟩
        · have h1 : i < vs.length := by omega
          have h2 : i < us.length := by omega
          exact ⟨vs, us, vs[i], us[i], st_mono hide_sub (st_mono sm hs), st_mono hide_sub (st_mono sm hs2), by simp [h1], by simp [h2]⟩
        · exact ⟨vs, us, st_mono hide_sub (st_mono sm hs), st_mono hide_sub (st_mono sm hs2), by omega⟩
        · obtain ⟨T, u, w, rfl, hT, rfl, h4, h5⟩ := y
          have e1 := h4 vs (st_mono hide_sub (st_mono sm hs))
          have e2 := h5 us (st_mono hide_sub (st_mono sm hs2))
          obtain ⟨z1, hz1, q1⟩ := dpa_get' hd e1
          obtain ⟨z2, hz2, q2⟩ := dpa_get' hd2 e2
          have e : (pairsD xs ys)[i]? = some (.tuple [z1, z2]) := by
            unfold pairsD
            rw [List.getElem?_zipWith, hz1, hz2]
          rw [e] at hi
          cases hi
          have g := Grow.new (o := .tup [u, w]) l hT
          exact ⟨g, .tup (.inl (.inl (hide_new l hT))) (.cons (dp_mono (sm.trans g.ex) q1) (.cons (dp_mono (sm.trans g.ex) q2) .nil))⟩
def mZipT (ga : XA) : XA := fun en => match ga en with
  | some [.tuple xs, .tuple ys] => some (pairsD xs ys)
  | _ => none
theorem mi_zipT (h : MA K ta ga) : MI K (RZ.iZipA K ta) (mZipT ga) := fun en ds e => by
  unfold mZipT at e
  split at e
  · cases e; exact ei_zipT (h en _ (by assumption))
  · cases e
/-! steps -/
def enTO : Option (List D) → Option (List D)
  | some [.tuple xs] => some (enumD xs)
  | _ => none
theorem x_enT : mEnT ga en = enTO (ga en) := by unfold mEnT enTO; rfl
theorem x_enT1 : enTO (some [.tuple xs]) = some (enumD xs) := (rfl)
def enSO : Option (List D) → Option (List D)
  | some [.str z] => some (enumD (signsD z))
  | _ => none
theorem x_enS : mEnS ga en = enSO (ga en) := by unfold mEnS enSO; rfl
theorem x_enS1 {z : Str} : enSO (some [.str z]) = some (enumD (signsD z)) := (rfl)
def zipTO : Option (List D) → Option (List D)
  | some [.tuple xs, .tuple ys] => some (pairsD xs ys)
  | _ => none
theorem x_zipT : mZipT ga en = zipTO (ga en) := by unfold mZipT zipTO; rfl
theorem x_zipT1 : zipTO (some [.tuple xs, .tuple ys]) = some (pairsD xs ys) := (rfl)
end
end HF

set_option Elab.async false
set_option linter.all false
set_option maxRecDepth 100000
set_option maxHeartbeats 2000000
/-! HF37: min and max of two tuples of numbers. -/
namespace HF
open PySem L2 PySem.Spec PyProof.Rows
theorem lt_ints : ∀ is js : List Int, PySem.W.dataLt (.tuple (is.map .int)) (.tuple (js.map .int)) = HT.lexLt is js := by
  have key : ∀ is js : List Int, PyProof.Rows.lexLt PyProof.Rows.itemOrd (PySem.W.keyToksAll (is.map .int)) (PySem.W.keyToksAll (js.map .int)) = HT.lexLt is js := by
    intro is
    induction is with
    | nil =>
      intro js
      cases js with
      | nil => rfl
      | cons j js =>
        simp [PySem.W.keyToksAll, PySem.W.keyToks, PyProof.Rows.lexLt, HT.lexLt]
        exact Or.inl rfl
    | cons i is ih =>
      intro js
      cases js with
      | nil =>
        simp [PySem.W.keyToksAll, PySem.W.keyToks, PyProof.Rows.lexLt, HT.lexLt]
        rfl
      | cons j js =>
        rw [List.map_cons, List.map_cons, PySem.W.dataLt_cons rfl, ih, HT.lexLt_cons]
        show (if (i == j) = true then _ else PySem.W.dataLt (.int i) (.int j)) = _
        rw [PySem.W.dataLt_int]
        by_cases e : i = j
        · rw [if_pos e, if_pos (by rw [e]; exact beq_self_eq_true j)]
        · rw [if_neg e, if_neg (by simpa using e)]
  intro is js
  rw [PySem.W.dataLt_tuple, key]
theorem reads_ints {h : Heap} : ∀ {us : List Value} {is : List Int}, Vals (is.map V.int) us → ReadsAll h us (is.map .int) []
  | us, [], r => by cases r; exact .nil
  | us, i :: is, r => by
    rw [List.map_cons] at r
    cases r with
    | cons a b =>
      obtain ⟨t, rfl⟩ := a
      exact .cons (.int i t) (reads_ints b)
theorem alike_all : ∀ is js : List Int, PySem.W.alikeAll (is.map .int) (js.map .int) = true
  | [], js => by simp [PySem.W.alikeAll]
  | _ :: _, [] => by simp [PySem.W.alikeAll]
  | i :: is, j :: js => by
    rw [List.map_cons, List.map_cons, PySem.W.alikeAll, alike_all is js]
    rfl
section
variable {prog : Program} {w : World} {A : Around} {E : Value → Shared → Prop} {s : Shared}
theorem two_read {a b : Addr} {is js : List Int} {us ws : List Value} (h1 : Vals (is.map V.int) us) (h2 : Vals (js.map V.int) ws) (p1 : IsTup s.heap a us.toArray) (p2 : IsTup s.heap b ws.toArray) (o : Obj) : ∃ as, ReadsAll (s.heap.push o) (#[Value.ref a, Value.ref b] : Array Value).toList [.tuple (is.map .int), .tuple (js.map .int)] as := by
  obtain ⟨o1, q1, c1, n1, d1⟩ := p1
  obtain ⟨o2, q2, c2, n2, d2⟩ := p2
  have r1 := Reads.tuple (h := s.heap.push o) (Heap.get?_push_of_some _ q1) c1 d1 (by simpa using reads_ints (h := s.heap.push o) h1)
  have r2 := Reads.tuple (h := s.heap.push o) (Heap.get?_push_of_some _ q2) c2 d2 (by simpa using reads_ints (h := s.heap.push o) h2)
  exact ⟨_, .cons r1 (.cons r2 .nil)⟩
theorem two_alike (is js : List Int) : PySem.W.AlikeAll [.tuple (is.map .int), .tuple (js.map .int)] := by
  have k : ∀ d ∈ ([.tuple (is.map .int), .tuple (js.map .int)] : List PyData), ∃ ks : List Int, d = .tuple (ks.map .int) := fun d hd => by
    rcases List.mem_cons.mp hd with e | hd
    · exact ⟨_, e⟩
    · exact ⟨_, List.mem_singleton.mp hd⟩
  refine ⟨fun d hd d' hd' => ?_, fun d hd => ?_⟩
  · obtain ⟨ks, rfl⟩ := k d hd
    obtain ⟨ls, rfl⟩ := k d' hd'
    rw [PySem.W.alike]
    exact alike_all ks ls
  · obtain ⟨ks, rfl⟩ := k d hd
    exact fun z => by cases z
theorem best1 {bt : Nat → Nat → Bool} : argBest bt 1 = if bt 1 0 = true then 1 else 0 := by
  unfold argBest
  rfl

theorem call_min_twoH {a b : Value} {Q : Value → Shared → Prop}
    (h : wpAny (model prog w) A.in1 (pyIter (.ref s.heap.objs.size)) (fun it s₂ => ∃ I fp wr G n P St H bt, it = .ref I ∧ WalksS prog w A.in1 I fp wr G n P St ∧ St 0 s₂ ∧ (∀ b ∈ fp, b < s₂.heap.objs.size) ∧ 0 < n ∧
      (∀ b o, H.get? b = some o → b ∉ wr) ∧ (∀ b o, H.get? b = some o → s₂.heap.get? b = some o) ∧ CmpIn prog w A.in1 .Lt H P bt ∧ ∀ v s', P (argBest bt (n - 1)) v → Moved wr G s₂ s' → Q v s') E { s with heap := s.heap.push { cls := .type "tuple", data := .seq #[a, b] } }) :
    wpAny (model prog w) A (call (.builtin "min") [a, b]) Q E s := by
  have hname : (toString "min" ++ toString ".loop" : String) = "min.loop" := by decide
  refine call_function_tree F.kind_min F.plain_min F.entry_min (F.args_min2 _ _) ?_
  show wpAny _ A.in1 (Builtin.Builtins.bindParams "min" ["key", "default"] 0 ⟨[], []⟩ >>= _) _ _ s
  refine wpAny_bind (wpAny_of_eq (show Builtin.Builtins.bindParams "min" ["key", "default"] 0 ⟨[], []⟩ = pure [none, none] from rfl) ?_)
  show wpAny _ A.in1 (newTuple [a, b] >>= _) _ _ s
  refine wpAny_bind (wpAny_newObj_type ?_)
  refine wpAny_bind (wpAny_mono h (fun it s₂ h₂ => ?_) fun _ _ e => e)
  obtain ⟨I, fp, wr, G, n, P, St, H, bt, rfl, W, hst, hfp, hn, hw, hkeep, hcmp, hQ⟩ := h₂
  refine wpAny_bind (wpAny_newObj_type ?_)
  have hSf : s₂.heap.objs.size ∉ fp := fun hm => Nat.lt_irrefl _ (hfp _ hm)
  rw [hname]
  refine wpAny_pure ⟨plainId_quiet F.plain_min_loop _, codeAny_min_loop_firstH W H hw bt hcmp s₂.heap.objs.size hSf (fresh_in hkeep) _ hn (fun b o e => Heap.get?_push_of_some _ (hkeep b o e)) (W.frame 0 s₂ _ s₂.toks hst (Nat.le_refl _) fun b _ o e => Heap.get?_push_of_some _ e) (Heap.get?_push_size _ rfl) fun v s' hP hm => ?_⟩
  exact hQ v s' hP (Moved.drop_new (tk := s₂.toks) hm (Nat.le_refl _))
theorem two_min {a b : Addr} {is js : List Int} {us ws : List Value} {Q : Value → Shared → Prop} (hh : A.handled = none) (h1 : Vals (is.map V.int) us) (h2 : Vals (js.map V.int) ws) (p1 : IsTup s.heap a us.toArray) (p2 : IsTup s.heap b ws.toArray) (hu : A.units + 4 < cLine)
    (h : ∀ h' tk, (∀ c o, s.heap.get? c = some o → h'.get? c = some o) → Q (.ref (if HT.lexLt js is = true then b else a)) { s with heap := h', toks := tk }) : wpAny (model prog w) A (call (.builtin "min") [.ref a, .ref b]) Q E s := by
  obtain ⟨as, hr⟩ := two_read h1 h2 p1 p2 { cls := .type "tuple", data := .seq #[.ref a, .ref b] }
  have hT : (s.heap.push { cls := .type "tuple", data := .seq #[Value.ref a, Value.ref b] }).IsTuple s.heap.objs.size #[.ref a, .ref b] := ⟨_, Heap.get?_push_size _ rfl, rfl, 0, rfl⟩
  have hd : PyData.depthAll [.tuple (is.map .int), .tuple (js.map .int)] ≤ 1 := by
    have z : ∀ ks : List Int, PyData.depthAll (ks.map .int) = 0 := by
      intro ks
      induction ks with
      | nil => simp [PyData.depthAll]
      | cons k ks ih => simp [PyData.depthAll, PyData.depth, ih]
    simp [PyData.depthAll, PyData.depth, z]
  refine call_min_twoH (PySem.W.iter_tupleW (A := A.in1) (s := { s with heap := s.heap.push { cls := .type "tuple", data := .seq #[Value.ref a, Value.ref b] } }) hh hT fun s₂ e W st hfp hw hk => ?_)
  refine ⟨_, _, _, _, _, _, _, (s.heap.push { cls := .type "tuple", data := .seq #[Value.ref a, Value.ref b] }), _, rfl, W, st, hfp, Nat.zero_lt_succ 1, hw, hk, PySem.W.cmpIn_lt (s := { s with heap := s.heap.push { cls := .type "tuple", data := .seq #[Value.ref a, Value.ref b] } }) (A := A.in1) hr (two_alike is js) (by show A.units + 1 + _ < _; omega), fun v s' hP m => ?_⟩
  obtain ⟨h', tk, rfl, hk'⟩ := PySem.W.moved_old e rfl m
  have hP : (#[Value.ref a, Value.ref b] : Array Value)[argBest (fun i j => _) 1]? = some v := hP
  rw [best1] at hP
  have q := h h' tk fun c o hc => hk' c o (Heap.get?_push_of_some _ hc)
  rw [← lt_ints] at q
  by_cases hl : PySem.W.dataLt (.tuple (js.map .int)) (.tuple (is.map .int)) = true
  · rw [if_pos hl] at q
    rw [if_pos (by exact hl)] at hP
    cases hP
    exact q
  · rw [if_neg hl] at q
    rw [if_neg (by exact hl)] at hP
    cases hP
    exact q

theorem call_max_twoH {a b : Value} {Q : Value → Shared → Prop}
    (h : wpAny (model prog w) A.in1 (pyIter (.ref s.heap.objs.size)) (fun it s₂ => ∃ I fp wr G n P St H bt, it = .ref I ∧ WalksS prog w A.in1 I fp wr G n P St ∧ St 0 s₂ ∧ (∀ b ∈ fp, b < s₂.heap.objs.size) ∧ 0 < n ∧
      (∀ b o, H.get? b = some o → b ∉ wr) ∧ (∀ b o, H.get? b = some o → s₂.heap.get? b = some o) ∧ CmpIn prog w A.in1 .Gt H P bt ∧ ∀ v s', P (argBest bt (n - 1)) v → Moved wr G s₂ s' → Q v s') E { s with heap := s.heap.push { cls := .type "tuple", data := .seq #[a, b] } }) :
    wpAny (model prog w) A (call (.builtin "max") [a, b]) Q E s := by
  have hname : (toString "max" ++ toString ".loop" : String) = "max.loop" := by decide
  refine call_function_tree F.kind_max F.plain_max F.entry_max (F.args_max2 _ _) ?_
  show wpAny _ A.in1 (Builtin.Builtins.bindParams "max" ["key", "default"] 0 ⟨[], []⟩ >>= _) _ _ s
  refine wpAny_bind (wpAny_of_eq (show Builtin.Builtins.bindParams "max" ["key", "default"] 0 ⟨[], []⟩ = pure [none, none] from rfl) ?_)
  show wpAny _ A.in1 (newTuple [a, b] >>= _) _ _ s
  refine wpAny_bind (wpAny_newObj_type ?_)
  refine wpAny_bind (wpAny_mono h (fun it s₂ h₂ => ?_) fun _ _ e => e)
  obtain ⟨I, fp, wr, G, n, P, St, H, bt, rfl, W, hst, hfp, hn, hw, hkeep, hcmp, hQ⟩ := h₂
  refine wpAny_bind (wpAny_newObj_type ?_)
  have hSf : s₂.heap.objs.size ∉ fp := fun hm => Nat.lt_irrefl _ (hfp _ hm)
  rw [hname]
  refine wpAny_pure ⟨plainId_quiet F.plain_max_loop _, codeAny_max_loop_firstH W H hw bt hcmp s₂.heap.objs.size hSf (fresh_in hkeep) _ hn (fun b o e => Heap.get?_push_of_some _ (hkeep b o e)) (W.frame 0 s₂ _ s₂.toks hst (Nat.le_refl _) fun b _ o e => Heap.get?_push_of_some _ e) (Heap.get?_push_size _ rfl) fun v s' hP hm => ?_⟩
  exact hQ v s' hP (Moved.drop_new (tk := s₂.toks) hm (Nat.le_refl _))
theorem two_max {a b : Addr} {is js : List Int} {us ws : List Value} {Q : Value → Shared → Prop} (hh : A.handled = none) (h1 : Vals (is.map V.int) us) (h2 : Vals (js.map V.int) ws) (p1 : IsTup s.heap a us.toArray) (p2 : IsTup s.heap b ws.toArray) (hu : A.units + 4 < cLine)
    (h : ∀ h' tk, (∀ c o, s.heap.get? c = some o → h'.get? c = some o) → Q (.ref (if HT.lexLt is js = true then b else a)) { s with heap := h', toks := tk }) : wpAny (model prog w) A (call (.builtin "max") [.ref a, .ref b]) Q E s := by
  obtain ⟨as, hr⟩ := two_read h1 h2 p1 p2 { cls := .type "tuple", data := .seq #[.ref a, .ref b] }
  have hT : (s.heap.push { cls := .type "tuple", data := .seq #[Value.ref a, Value.ref b] }).IsTuple s.heap.objs.size #[.ref a, .ref b] := ⟨_, Heap.get?_push_size _ rfl, rfl, 0, rfl⟩
  have hd : PyData.depthAll [.tuple (is.map .int), .tuple (js.map .int)] ≤ 1 := by
    have z : ∀ ks : List Int, PyData.depthAll (ks.map .int) = 0 := by
      intro ks
      induction ks with
      | nil => simp [PyData.depthAll]
      | cons k ks ih => simp [PyData.depthAll, PyData.depth, ih]
    simp [PyData.depthAll, PyData.depth, z]
  refine call_max_twoH (PySem.W.iter_tupleW (A := A.in1) (s := { s with heap := s.heap.push { cls := .type "tuple", data := .seq #[Value.ref a, Value.ref b] } }) hh hT fun s₂ e W st hfp hw hk => ?_)
  refine ⟨_, _, _, _, _, _, _, (s.heap.push { cls := .type "tuple", data := .seq #[Value.ref a, Value.ref b] }), _, rfl, W, st, hfp, Nat.zero_lt_succ 1, hw, hk, PySem.W.cmpIn_gt (s := { s with heap := s.heap.push { cls := .type "tuple", data := .seq #[Value.ref a, Value.ref b] } }) (A := A.in1) hr (two_alike is js) (by show A.units + 1 + _ < _; omega), fun v s' hP m => ?_⟩
  obtain ⟨h', tk, rfl, hk'⟩ := PySem.W.moved_old e rfl m
  have hP : (#[Value.ref a, Value.ref b] : Array Value)[argBest (fun i j => _) 1]? = some v := hP
  rw [best1] at hP
  have q := h h' tk fun c o hc => hk' c o (Heap.get?_push_of_some _ hc)
  rw [← lt_ints] at q
  by_cases hl : PySem.W.dataLt (.tuple (is.map .int)) (.tuple (js.map .int)) = true
  · rw [if_pos hl] at q
    rw [if_pos (by exact hl)] at hP
    cases hP
    exact q
  · rw [if_neg hl] at q
    rw [if_neg (by exact hl)] at hP
    cases hP
    exact q
end
section
variable {X : Cx}

def rMinT (K : PySem.W.Frag) : List V → Hp → VK → Prop := fun xs H Q => ∃ (a b : Addr) (is js : List Int), xs = [.ref a, .ref b] ∧ SqT K H a (is.map V.int) ∧ SqT K H b (js.map V.int) ∧ Q (.ref (if HT.lexLt js is = true then b else a)) H
def rMinU (K : PySem.W.Frag) : List V → Hp → VK → Prop := fun xs H Q => rMin2U xs H Q ∨ rMinT K xs H Q
theorem ce_minT {k : Nat} (hr : Room k X.A) (hc : X.calm = true := by rfl) : CallR X (.builtin "min") (rMinT X.K) := by
  intro pins s σ H xs us Q I r h
  obtain ⟨a, b, is, js, rfl, ha, hb, q⟩ := h
  obtain ⟨u, w', rfl, r1, r2⟩ := vals2 r
  cases r1
  cases r2
  obtain ⟨its, v1, p1, _⟩ := I.tuple ha
  obtain ⟨its2, v2, p2, _⟩ := I.tuple hb
  exact two_min (I.ok.hd hc) v1 v2 p1 p2 (by have := hr.un; omega) fun h' tk hk => ⟨.ref _, H, I.kept hk, rfl, q⟩
theorem ce_minU {k : Nat} (hr : Room k X.A) (hc : X.calm = true := by rfl) : CallR X (.builtin "min") (rMinU X.K) := CallR.or (ce_min2 hc) (ce_minT hr hc)

def rMaxT (K : PySem.W.Frag) : List V → Hp → VK → Prop := fun xs H Q => ∃ (a b : Addr) (is js : List Int), xs = [.ref a, .ref b] ∧ SqT K H a (is.map V.int) ∧ SqT K H b (js.map V.int) ∧ Q (.ref (if HT.lexLt is js = true then b else a)) H
def rMaxU (K : PySem.W.Frag) : List V → Hp → VK → Prop := fun xs H Q => rMax2U xs H Q ∨ rMaxT K xs H Q
theorem ce_maxT {k : Nat} (hr : Room k X.A) (hc : X.calm = true := by rfl) : CallR X (.builtin "max") (rMaxT X.K) := by
  intro pins s σ H xs us Q I r h
  obtain ⟨a, b, is, js, rfl, ha, hb, q⟩ := h
  obtain ⟨u, w', rfl, r1, r2⟩ := vals2 r
  cases r1
  cases r2
  obtain ⟨its, v1, p1, _⟩ := I.tuple ha
  obtain ⟨its2, v2, p2, _⟩ := I.tuple hb
  exact two_max (I.ok.hd hc) v1 v2 p1 p2 (by have := hr.un; omega) fun h' tk hk => ⟨.ref _, H, I.kept hk, rfl, q⟩
theorem ce_maxU {k : Nat} (hr : Room k X.A) (hc : X.calm = true := by rfl) : CallR X (.builtin "max") (rMaxU X.K) := CallR.or (ce_max2 hc) (ce_maxT hr hc)

end
section
variable {K : Fg}
def clBest (m : Bool) : List D → Option D
  | [.int i, .int j] => some (.int (if m = true then min i j else max i j))
  | [.tuple a, .tuple b] => match intsOf a, intsOf b with
    | some is, some js => some (.tuple ((if (if m = true then HT.lexLt js is else HT.lexLt is js) = true then js else is).map .int))
    | _, _ => none
  | _ => none

theorem rc_minT {is js : List Int} : RDC K (rMinT K) [.tuple (is.map .int), .tuple (js.map .int)] (.tuple ((if HT.lexLt js is = true then js else is).map .int)) := fun A H vs l hd Q k => by
  cases hd with
  | cons h1 t =>
    cases t with
    | cons h2 t =>
      cases t
      obtain ⟨a, us, rfl, ha, da⟩ := dp_tup h1
      obtain ⟨b, ws, rfl, hb, db⟩ := dp_tup h2
      rw [dpa_ints da] at ha
      rw [dpa_ints db] at hb
      refine ⟨a, b, is, js, rfl, st_mono hide_sub ha, st_mono hide_sub hb, ?_⟩
      by_cases c : HT.lexLt js is = true
      · rw [if_pos c]
        rw [if_pos c] at k
        exact k _ H (Grow.refl H) h2
      · rw [if_neg c]
        rw [if_neg c] at k
        exact k _ H (Grow.refl H) h1
theorem mc_minU : MCl K (rMinU K) (clBest true) := mcl_of fun ds z e => by
  unfold clBest at e
  split at e
  · cases e
    exact fun A H vs l hd Q k => .inl (rc_min2 A H vs l hd Q k)
  · split at e
    · rename_i h1 h2
      cases e
      rw [intsOf_eq h1, intsOf_eq h2]
      exact fun A H vs l hd Q k => .inr (rc_minT A H vs l hd Q k)
    · cases e
  · cases e

theorem rc_maxT {is js : List Int} : RDC K (rMaxT K) [.tuple (is.map .int), .tuple (js.map .int)] (.tuple ((if HT.lexLt is js = true then js else is).map .int)) := fun A H vs l hd Q k => by
  cases hd with
  | cons h1 t =>
    cases t with
    | cons h2 t =>
      cases t
      obtain ⟨a, us, rfl, ha, da⟩ := dp_tup h1
      obtain ⟨b, ws, rfl, hb, db⟩ := dp_tup h2
      rw [dpa_ints da] at ha
      rw [dpa_ints db] at hb
      refine ⟨a, b, is, js, rfl, st_mono hide_sub ha, st_mono hide_sub hb, ?_⟩
      by_cases c : HT.lexLt is js = true
      · rw [if_pos c]
        rw [if_pos c] at k
        exact k _ H (Grow.refl H) h2
      · rw [if_neg c]
        rw [if_neg c] at k
        exact k _ H (Grow.refl H) h1
theorem mc_maxU : MCl K (rMaxU K) (clBest false) := mcl_of fun ds z e => by
  unfold clBest at e
  split at e
  · cases e
    exact fun A H vs l hd Q k => .inl (rc_max2 A H vs l hd Q k)
  · split at e
    · rename_i h1 h2
      cases e
      rw [intsOf_eq h1, intsOf_eq h2]
      exact fun A H vs l hd Q k => .inr (rc_maxT A H vs l hd Q k)
    · cases e
  · cases e

theorem x_minI {i j : Int} : clBest true [.int i, .int j] = some (.int (min i j)) := (rfl)
theorem x_maxI {i j : Int} : clBest false [.int i, .int j] = some (.int (max i j)) := (rfl)
theorem x_bestT {m : Bool} {is js : List Int} : clBest m [.tuple (is.map .int), .tuple (js.map .int)] = some (.tuple ((if (if m = true then HT.lexLt js is else HT.lexLt is js) = true then js else is).map .int)) := by
  unfold clBest
  simp only [intsOf_map]
end
end HF

set_option Elab.async false
set_option linter.all false
set_option maxRecDepth 100000
set_option maxHeartbeats 2000000
/-! HF38: texts: join, words, lower, startswith. -/
namespace HF
open PySem L2 PySem.Spec PyProof.Rows
section
variable {K : Fg} {ta tb : TE} {fa fb : XE} {en : En}
/-- a method of a text with one more value, with none -/
def RT1 (K : Fg) (r : V → List V → Hp → VK → Prop) (a : Str) (y z : D) : Prop := ∀ A H w, Live A H → Dq K (hide A H) w y → ∀ Q : VK, (∀ u H', Grow A H H' → Dq K (hide A H') u z → Q u H') → r (.str a) [w] H Q
def RT0 (K : Fg) (r : V → List V → Hp → VK → Prop) (a : Str) (z : D) : Prop := ∀ A H, Live A H → ∀ Q : VK, (∀ u H', Grow A H H' → Dq K (hide A H') u z → Q u H') → r (.str a) [] H Q
def RT0N (K : Fg) (r : V → List V → Hp → VK → Prop) (a : Str) (zs : List D) : Prop := ∀ A H, Live A H → ∀ Q : VK, (∀ p H' vs, H p = none → Grow A H H' → H' p = some (.lst vs) → DqAll K (hide (adda A p) H') vs zs → Q (.ref p) H') → r (.str a) [] H Q
theorem ev_t1 {r : V → List V → Hp → VK → Prop} {a : Str} {y z : D} (ha : EvD K ta en (.str a)) (hb : EvD K tb en y) (h : RT1 K r a y z) : EvD K (tM1 r ta tb) en z := fun A0 Hs A H σ I Q k =>
  ha A0 Hs A H σ I _ fun v H1 g1 d1 => by
    rw [dp_str d1]
    exact ⟨⟨a, rfl⟩, hb A0 Hs A H1 σ (I.grow g1) _ fun w H2 g2 d2 => h A H2 w ((g1.trans g2).live I.live) d2 Q fun u H3 g3 d3 => k u H3 ((g1.trans g2).trans g3) d3⟩
theorem ev_t0 {r : V → List V → Hp → VK → Prop} {a : Str} {z : D} (ha : EvD K ta en (.str a)) (h : RT0 K r a z) : EvD K (tM0 r ta) en z := fun A0 Hs A H σ I Q k =>
  ha A0 Hs A H σ I _ fun v H1 g1 d1 => by
    rw [dp_str d1]
    exact ⟨⟨a, rfl⟩, h A H1 (g1.live I.live) Q fun u H3 g3 d3 => k u H3 (g1.trans g3) d3⟩
theorem en_t0 {r : V → List V → Hp → VK → Prop} {a : Str} {zs : List D} (ha : EvD K ta en (.str a)) (h : RT0N K r a zs) : EvN K (tM0 r ta) en zs := fun A0 Hs A H σ I Q k =>
  ha A0 Hs A H σ I _ fun v H1 g1 d1 => by
    rw [dp_str d1]
    exact ⟨⟨a, rfl⟩, h A H1 (g1.live I.live) Q fun p H3 vs hp g3 e3 d3 => k p H3 vs (g1.same.none hp) (g1.trans g3) e3 d3⟩
def rJoinU (K : PySem.W.Frag) : V → List V → Hp → VK → Prop := fun x xs H Q => ∃ a p, ∃ ys : List Str, x = .str a ∧ xs = [.ref p] ∧ (SqL K H p (ys.map V.str) ∨ SqT K H p (ys.map V.str)) ∧
  (ys.map (·.length)).sum + ys.length * a.length ≤ 16777216 ∧ Q (.str (Txt.join a ys)) H
def rWordsU : V → List V → Hp → VK → Prop := fun x xs H Q => ∃ a, x = .str a ∧ xs = [] ∧ a.length + 2 ≤ sizeLine ∧ rNewStrs (Txt.words a) H Q
def rLowerU : V → List V → Hp → VK → Prop := fun x xs H Q => ∃ a, x = .str a ∧ xs = [] ∧ a.length ≤ 5592405 ∧ Q (.str (Txt.lower a)) H
def rStartsU : V → List V → Hp → VK → Prop := fun x xs H Q => ∃ a b, x = .str a ∧ xs = [.str b] ∧ Q (.bl (Txt.startswith a b)) H
def strsOf : List D → Option (List Str)
  | [] => some []
  | .str s :: ds => (strsOf ds).map (s :: ·)
  | _ => none
theorem strsOf_map : ∀ ss : List Str, strsOf (ss.map .str) = some ss
  | [] => rfl
  | s :: ss => by rw [List.map_cons, strsOf, strsOf_map ss]; rfl
theorem strsOf_eq : ∀ {ds : List D} {ss : List Str}, strsOf ds = some ss → ds = ss.map .str
  | [], ss, h => by cases h; rfl
  | d :: ds, ss, h => by
    cases d with
    | str s =>
      rw [strsOf] at h
      obtain ⟨ts, h1, rfl⟩ := Option.map_eq_some_iff.mp h
      rw [strsOf_eq h1]
      rfl
    | _ => cases h
theorem rt_join {L : Bool} {a : Str} {ys : List Str} (hz : (ys.map (·.length)).sum + ys.length * a.length ≤ 16777216) : RT1 K (rJoinU K) a (if L = true then .list (ys.map .str) else .tuple (ys.map .str)) (.str (Txt.join a ys)) := fun A H w l dw Q k => by
  cases L with
  | true =>
    obtain ⟨p, us, rfl, hs, hd⟩ := dp_lst dw
    rw [dpa_strs hd] at hs
    exact ⟨a, p, ys, rfl, rfl, .inl (sx_mono hide_sub hs).sl, hz, k _ H (Grow.refl H) (.str _)⟩
  | false =>
    obtain ⟨p, us, rfl, hs, hd⟩ := dp_tup dw
    rw [dpa_strs hd] at hs
    exact ⟨a, p, ys, rfl, rfl, .inr (st_mono hide_sub hs), hz, k _ H (Grow.refl H) (.str _)⟩
theorem dqs_strs {H : Hp} : ∀ ys : List Str, DqAll K H (ys.map V.str) (ys.map .str)
  | [] => .nil
  | y :: ys => .cons (.str y) (dqs_strs ys)
theorem rt_words {a : Str} (hz : a.length + 2 ≤ sizeLine) : RT0N K rWordsU a ((Txt.words a).map .str) := fun A H l Q k =>
  ⟨a, rfl, rfl, hz, fun p hp => k p _ _ hp (Grow.new l hp) upd_same (dqs_strs _)⟩
theorem rt_lower {a : Str} (hz : a.length ≤ 5592405) : RT0 K rLowerU a (.str (Txt.lower a)) := fun A H l Q k => ⟨a, rfl, rfl, hz, k _ H (Grow.refl H) (.str _)⟩
theorem rt_starts {a b : Str} : RT1 K rStartsU a (.str b) (.bool (Txt.startswith a b)) := fun A H w l dw Q k => ⟨a, b, rfl, by rw [dp_str dw], k _ H (Grow.refl H) (.bl _)⟩
/-! mirrors -/
def opJoin : D → D → Option D
  | .str a, .list xs => (match strsOf xs with
    | some ys => if (ys.map (·.length)).sum + ys.length * a.length ≤ 16777216 then some (.str (Txt.join a ys)) else none
    | none => none)
  | .str a, .tuple xs => (match strsOf xs with
    | some ys => if (ys.map (·.length)).sum + ys.length * a.length ≤ 16777216 then some (.str (Txt.join a ys)) else none
    | none => none)
  | _, _ => none
def opStarts : D → D → Option D
  | .str a, .str b => some (.bool (Txt.startswith a b))
  | _, _ => none
def opLower : Option D → Option D
  | some (.str a) => if a.length ≤ 5592405 then some (.str (Txt.lower a)) else none
  | _ => none
def opWords : Option D → Option (List D)
  | some (.str a) => if a.length ≤ 16000000 then some ((Txt.words a).map .str) else none
  | _ => none
def mLower (fa : XE) : XE := fun en => opLower (fa en)
def mWords (fa : XE) : XA := fun en => opWords (fa en)
theorem me_join (ha : ME K ta fa) (hb : ME K tb fb) : ME K (tM1 (rJoinU K) ta tb) (mOp opJoin fa fb) := fun en d e => by
  unfold mOp at e
  split at e
  · rename_i x hx
    split at e
    · rename_i y hy
      unfold opJoin at e
      split at e
      · split at e
        · rename_i ys hs
          split at e
          · rename_i hz
            cases e
            rw [strsOf_eq hs] at hy
            exact ev_t1 (ha en _ hx) (hb en _ hy) (rt_join (L := true) hz)
          · cases e
        · cases e
      · split at e
        · rename_i ys hs
          split at e
          · rename_i hz
            cases e
            rw [strsOf_eq hs] at hy
            exact ev_t1 (ha en _ hx) (hb en _ hy) (rt_join (L := false) hz)
          · cases e
        · cases e
      · cases e
    · cases e
  · cases e
theorem me_starts (ha : ME K ta fa) (hb : ME K tb fb) : ME K (tM1 rStartsU ta tb) (mOp opStarts fa fb) := fun en d e => by
  unfold mOp at e
  split at e
  · rename_i x hx
    split at e
    · rename_i y hy
      unfold opStarts at e
      split at e
      · cases e
        exact ev_t1 (ha en _ hx) (hb en _ hy) rt_starts
      · cases e
    · cases e
  · cases e
theorem me_lower (ha : ME K ta fa) : ME K (tM0 rLowerU ta) (mLower fa) := fun en d e => by
  unfold mLower opLower at e
  split at e
  · rename_i a hx
    split at e
    · rename_i hz
      cases e
      exact ev_t0 (ha en _ hx) (rt_lower hz)
    · cases e
  · cases e
theorem mn_words (ha : ME K ta fa) : MN K (tM0 rWordsU ta) (mWords fa) := fun en d e => by
  unfold mWords opWords at e
  split at e
  · rename_i a hx
    split at e
    · rename_i hz
      cases e
      exact en_t0 (ha en _ hx) (rt_words (by have := PySem.sizeLine_eq; omega))
    · cases e
  · cases e
/-! steps -/
theorem x_lower : mLower fa en = opLower (fa en) := (rfl)
theorem x_lower1 {a : Str} (h : a.length ≤ 5592405) : opLower (some (.str a)) = some (.str (Txt.lower a)) := if_pos h
theorem x_words : mWords fa en = opWords (fa en) := (rfl)
theorem x_words1 {a : Str} (h : a.length ≤ 16000000) : opWords (some (.str a)) = some ((Txt.words a).map .str) := if_pos h
theorem x_starts {a b : Str} : opStarts (.str a) (.str b) = some (.bool (Txt.startswith a b)) := (rfl)
theorem x_join {a : Str} {ys : List Str} (h : (ys.map (·.length)).sum + ys.length * a.length ≤ 16777216) : opJoin (.str a) (.list (ys.map .str)) = some (.str (Txt.join a ys)) := by
  unfold opJoin
  simp only [strsOf_map]
  exact if_pos h
end
section
variable {X : Cx} {o e : Expr} {to te : TE}
theorem pe_joinU {apos pos : Pos} (ho : PE X o to) (he : PE X e te) (hs : starEach [e] X.env = [(false, eval e X.env)] := by rfl) (hbase : attributeBase o "join" X.env (eval o X.env) = eval o X.env := by rfl) (hline : (apos.endLine == pos.line) = true := by rfl) : PE X (.Call (.Attribute o "join" apos) [e] [] pos) (tM1 (rJoinU X.K) to te) := pe_join ho he hs hbase hline
theorem pe_wordsU {apos pos : Pos} (ho : PE X o to) (hbase : attributeBase o "split" X.env (eval o X.env) = eval o X.env := by rfl) (hline : (apos.endLine == pos.line) = true := by rfl) : PE X (.Call (.Attribute o "split" apos) [] [] pos) (tM0 rWordsU to) := pe_words ho hbase hline
theorem pe_lowerU {apos pos : Pos} (ho : PE X o to) (hbase : attributeBase o "lower" X.env (eval o X.env) = eval o X.env := by rfl) (hline : (apos.endLine == pos.line) = true := by rfl) : PE X (.Call (.Attribute o "lower" apos) [] [] pos) (tM0 rLowerU to) := pe_lower ho hbase hline
theorem pe_startsU {apos pos : Pos} (ho : PE X o to) (he : PE X e te) (hs : starEach [e] X.env = [(false, eval e X.env)] := by rfl) (hbase : attributeBase o "startswith" X.env (eval o X.env) = eval o X.env := by rfl) (hline : (apos.endLine == pos.line) = true := by rfl) : PE X (.Call (.Attribute o "startswith" apos) [e] [] pos) (tM1 rStartsU to te) := pe_m1 F.slot_str_startswith F.type_str_startswith mt_startswith ho he hs hbase hline
end
end HF

set_option Elab.async false
set_option linter.all false
set_option maxRecDepth 100000
set_option maxHeartbeats 2000000
/-! HF39: own dicts whose keys are texts or numbers. -/
namespace HF
open PySem L2 PySem.Spec PyProof.Rows
@[reducible] def dkO (st : List (Key × D)) : Ow := .dk (st.map (·.1)) (st.map fun p => .da p.2)
@[reducible] def dkD (st : List (Key × D)) : D := .dict (st.map fun p => (keyD p.1, p.2))
def keyOf : D → Option Key
  | .int i => some (.inl i)
  | .str s => some (.inr s)
  | _ => none
theorem keyOf_v {K : Fg} {H : Hp} {v : V} {d : D} {k : Key} (h : Dq K H v d) (e : keyOf d = some k) : v = kV k := by
  cases d with
  | int i => cases e; rw [dp_int h]; rfl
  | str s => cases e; rw [dp_str h]; rfl
  | _ => cases e
def dksOf : List Key → List Fd → Option (List (Key × D))
  | [], [] => some []
  | k :: ks, .da d :: fs => (dksOf ks fs).map ((k, d) :: ·)
  | _, _ => none
theorem dksOf_dkO : ∀ (st : List (Key × D)), dksOf (st.map (·.1)) (st.map fun p => .da p.2) = some st
  | [] => rfl
  | p :: st => by
    rw [List.map_cons, List.map_cons, dksOf, dksOf_dkO st]
    rfl
theorem dksOf_eq : ∀ {ks : List Key} {fs : List Fd} {st : List (Key × D)}, dksOf ks fs = some st → ks = st.map (·.1) ∧ fs = st.map fun p => .da p.2
  | [], [], _, h => by cases h; exact ⟨rfl, rfl⟩
  | k :: ks, .da d :: fs, st, h => by
    rw [dksOf] at h
    obtain ⟨st', h', rfl⟩ := Option.map_eq_some_iff.mp h
    obtain ⟨rfl, rfl⟩ := dksOf_eq h'
    exact ⟨rfl, rfl⟩
  | [], _ :: _, _, h => by cases h
  | _ :: _, [], _, h => by cases h
  | _ :: _, .ow _ :: _, _, h => by cases h
theorem fd_dask {K : Fg} {Hh H : Hp} {P : Addr → List Nat → Prop} {pi : List Nat} : ∀ {st : List (Key × D)} {k : Nat} {vs : List V}, FdAll K Hh H P pi k vs (st.map fun p => .da p.2) → DqAll K Hh vs (st.map (·.2))
  | [], _, _, .nil => .nil
  | _ :: _, _, _, .da h t => .cons h (fd_dask t)
theorem dask_fd {K : Fg} {Hh H : Hp} {P : Addr → List Nat → Prop} {pi : List Nat} : ∀ {st : List (Key × D)} {k : Nat} {vs : List V}, DqAll K Hh vs (st.map (·.2)) → FdAll K Hh H P pi k vs (st.map fun p => .da p.2)
  | [], _, _, h => by cases h; exact .nil
  | _ :: st, _, _, h => by
    rw [List.map_cons] at h
    cases h with
    | cons h t => exact .da h (dask_fd t)
theorem zip_k : ∀ {st : List (Key × D)} {kvs : List (Key × V)}, kvs.map (·.1) = st.map (·.1) → (kvs.map fun f => keyD f.1).zip (st.map (·.2)) = st.map fun p => (keyD p.1, p.2)
  | [], [], _ => rfl
  | p :: st, kv :: kvs, h => by
    simp only [List.map_cons, List.cons.injEq] at h
    simp only [List.map_cons, List.zip_cons_cons, zip_k h.2, h.1]
  | [], _ :: _, h => by cases h
  | _ :: _, [], h => by cases h
section
variable {K : Fg} {A0 A : Addr → Bool} {Hs H H' : Hp} {σ : L2.St} {en : En}
theorem EnvOk.odk (I : EnvOk K A0 Hs A H σ en) {i : Nat} {b : Option Addr} {st : List (Key × D)} (hi : en[i]? = some (some (.ow b (dkO st)))) :
    ∃ p kvs, σ[i]? = some (some (.ref p)) ∧ A p = true ∧ A0 p = false ∧ H p = some (.dK kvs) ∧ kvs.map (·.1) = st.map (·.1) ∧ DqAll K (hide A H) (kvs.map (·.2)) (st.map (·.2)) := by
  obtain ⟨O, hO⟩ := I.own
  obtain ⟨v, hv, p, rfl, _, h⟩ := hO i _ hi
  cases h with
  | dk h1 h2 h3 h4 => exact ⟨p, _, hv, h1.1, h1.2.1, h2, h3, fd_dask h4⟩
theorem EnvOk.writeK (I : EnvOk K A0 Hs A H σ en) {i : Nat} {p : Addr} {st st' : List (Key × D)} {kvs' : List (Key × V)} (hi : en[i]? = some (some (.ow none (dkO st)))) (hv : σ[i]? = some (some (.ref p)))
    (h1 : kvs'.map (·.1) = st'.map (·.1)) (h2 : DqAll K (hide A H) (kvs'.map (·.2)) (st'.map (·.2))) :
    EnvOk K A0 Hs A (upd H p (.dK kvs')) σ (en.set i (some (.ow none (dkO st')))) := by
  obtain ⟨p', kvs, hv', hA, hA0, hp, _⟩ := I.odk hi
  rw [hv] at hv'
  cases hv'
  have sm : Same (hide A H) (hide A (upd H p (.dK kvs'))) := same_of fun a u e => by
    obtain ⟨h1, h2⟩ := hide_some e
    have hne : a ≠ p := fun z => by rw [z, hA] at h1; cases h1
    rw [hide_out h1, upd_ne hne]; exact h2
  refine I.change rfl (fun _ _ => rfl) sm (fun q hq => ?_) (fun q hq => ⟨I.sub q hq, upd_ne (fun z => by rw [z, hA0] at hq; cases hq)⟩) fun O hO => ?_
  · by_cases e : q = p
    · rw [e, upd_same]; exact fun z => by cases z
    · rw [upd_ne e]; exact I.live q hq
  · obtain ⟨v, g1, p2, rfl, ga, g2⟩ := hO i _ hi
    rw [hv] at g1
    cases g1
    cases g2 with
    | dk m e1 e2 e3 =>
      refine ⟨O, fun q j rh hj mq => ⟨mq, upd_ne fun z => ?_⟩, fun hl => ⟨_, hv, p, rfl, ga, .dk m upd_same h1 (dask_fd (dpa_mono sm h2))⟩⟩
      have := mq.2.2
      rw [z, m.2.2] at this
      exact last_ne (a := rh) (b := []) hj this.symm
theorem EnvOk.freezeK (I : EnvOk K A0 Hs A H σ en) {i : Nat} {b : Option Addr} {st : List (Key × D)} (hi : en[i]? = some (some (.ow b (dkO st)))) :
    ∃ p kvs, σ[i]? = some (some (.ref p)) ∧ A p = true ∧ H p = some (.dK kvs) ∧ EnvOk K A0 Hs (dela A p) H σ (en.set i (some (.sh (dkD st)))) := by
  obtain ⟨p, kvs, hv, hA, hA0, hp, k1, k2⟩ := I.odk hi
  refine ⟨p, kvs, hv, hA, hp, ?_⟩
  have sm : Same (hide A H) (hide (dela A p) H) := same_of fun a u e => by
    obtain ⟨h1, h2⟩ := hide_some e
    have hne : a ≠ p := fun z => by rw [z, hA] at h1; cases h1
    rw [hide_out (by rw [dela_ne hne]; exact h1)]; exact h2
  have n0 : ∀ q, A0 q = true → q ≠ p := fun q hq z => by rw [z, hA0] at hq; cases hq
  refine I.change rfl (fun _ _ => rfl) sm (fun q hq => I.live q (dela_true hq).1) (fun q hq => ⟨by rw [dela_ne (n0 q hq)]; exact I.sub q hq, rfl⟩) fun O hO => ?_
  obtain ⟨v, g1, p2, rfl, ga, g2⟩ := hO i _ hi
  rw [hv] at g1
  cases g1
  cases g2 with
  | dk m e1 e2 e3 =>
    refine ⟨O, fun q j rh hj mq => ⟨⟨?_, mq.2⟩, rfl⟩, fun hl => ⟨_, hv, ?_⟩⟩
    · have hq : q ≠ p := fun z => by
        have := mq.2.2
        rw [z, m.2.2] at this
        exact last_ne (a := rh) (b := []) hj this.symm
      rw [dela_ne hq]; exact mq.1
    · exact .dik (.inl (by rw [hide_out dela_self]; exact hp)) (dpa_mono sm k2) (zip_k k1).symm
end
section
variable {K : Fg} {A : Addr → Bool} {H H' : Hp} {p : Addr} {kvs : List (Key × V)}
theorem rd_backK {a : Addr} {u : HO} (hp : H p = some (.dK kvs)) (h : Rd (hide (dela A p) H) a u) (hu : (∃ xs, u = .tup xs) ∨ ∃ xs, u = .lst xs) : Rd (hide A H) a u := by
  rcases h with h | ⟨o, h⟩
  · have hne : a ≠ p := fun z => by
      rw [z, hide_out dela_self, hp] at h
      cases h
      rcases hu with ⟨_, hu⟩ | ⟨_, hu⟩ <;> cases hu
    exact .inl (by rw [← dela_hide hne]; exact h)
  · have hne : a ≠ p := fun z => by
      rw [z, hide_out dela_self, hp] at h
      cases h
    exact .inr ⟨o, by rw [← dela_hide hne]; exact h⟩
mutual
theorem dq_backK (hp : H p = some (.dK kvs)) : ∀ {v : V} {d : D}, Dq K (hide (dela A p) H) v d → noDk d = true → Dq K (hide A H) v d
  | _, _, .non, _ => .non
  | _, _, .bl b, _ => .bl b
  | _, _, .int i, _ => .int i
  | _, _, .str x, _ => .str x
  | _, _, .lst h a, q => .lst (h.elim (fun h => .inl (rd_backK hp h (.inr ⟨_, rfl⟩))) .inr) (dqa_backK hp a (by simpa only [noDk] using q))
  | _, _, .tup h a, q => .tup (h.elim (fun h => .inl (rd_backK hp h (.inl ⟨_, rfl⟩))) .inr) (dqa_backK hp a (by simpa only [noDk] using q))
  | _, _, .obj _ _ _ _ _, q => by simp only [noDk] at q; cases q
  | _, _, .dik _ _ _, q => by simp only [noDk] at q; cases q
  | _, _, .dit _ _ _ _ _, q => by simp only [noDk] at q; cases q
theorem dqa_backK (hp : H p = some (.dK kvs)) : ∀ {us : List V} {ds : List D}, DqAll K (hide (dela A p) H) us ds → noDks ds = true → DqAll K (hide A H) us ds
  | _, _, .nil, _ => .nil
  | _, _, .cons h t, q => by
    simp only [noDks, Bool.and_eq_true] at q
    exact .cons (dq_backK hp h q.1) (dqa_backK hp t q.2)
end
theorem Grow.backK (g : Grow (dela A p) H H') (hp : H p = some (.dK kvs)) : Grow A H H' ∧ H' p = some (.dK kvs) := by
  have e : H' p = some (.dK kvs) := (hide_some (g.ex.ob p _ rfl (by rw [hide_out dela_self]; exact hp))).2
  refine ⟨⟨g.ex.via (fun a n => ?_) (fun a n _ => ?_), fun q hq => ?_⟩, e⟩
  · have h1 := (hide_th n).1
    have h2 : dela A p a = false := by unfold dela; rw [h1]; rfl
    rw [hide_out h1, hide_out h2]
  · have h1 := (hide_th n).1
    have h2 : dela A p a = false := by unfold dela; rw [h1]; rfl
    rw [hide_out h1, hide_out h2]
  · by_cases z : q = p
    · rw [z, e, hp]
    · exact g.eq q (by rw [dela_ne z]; exact hq)
end
section
variable {K : Fg} {te ti ty : TE} {tt : TT} {fe fi fy : XE} {ft : XT} {i : Nat}
theorem ev_borK {en : En} {d : D} {b : Option Addr} {st : List (Key × D)} (hi : en[i]? = some (some (.ow b (dkO st)))) (h : EvD K te (en.set i (some (.sh (dkD st)))) d) (hn : noDk d = true) : EvD K te en d := fun A0 Hs A H σ I Q k => by
  obtain ⟨p, kvs, _, hA, hp, I'⟩ := I.freezeK hi
  refine h A0 Hs _ H σ I' Q fun v H' g dv => ?_
  obtain ⟨g', hp'⟩ := g.backK hp
  exact k v H' g' (dq_backK hp' dv hn)
theorem et_borK {en : En} {b : Bool} {c : Option Addr} {st : List (Key × D)} (hi : en[i]? = some (some (.ow c (dkO st)))) (h : EvT K tt (en.set i (some (.sh (dkD st)))) b) : EvT K tt en b := fun A0 Hs A H σ I Q k => by
  obtain ⟨p, kvs, _, hA, hp, I'⟩ := I.freezeK hi
  exact h A0 Hs _ H σ I' Q fun H' g => k H' (g.backK hp).1
/-- the own dict is read here -/
def mBorK (i : Nat) (f : XE) : XE := fun en => match en[i]? with
  | some (some (.ow _ (.dk ks fs))) => (match dksOf ks fs with
    | some st => (match f (en.set i (some (.sh (dkD st)))) with
      | some d => if noDk d = true then some d else none
      | none => none)
    | none => none)
  | _ => f en
theorem me_borK (h : ME K te fe) : ME K te (mBorK i fe) := fun en d e => by
  unfold mBorK at e
  split at e
  · rename_i b ks fs hi
    split at e
    · rename_i st hs
      obtain ⟨rfl, rfl⟩ := dksOf_eq hs
      split at e
      · rename_i d' hd
        split at e
        · rename_i hn
          cases e
          exact ev_borK hi (h _ _ hd) hn
        · cases e
      · cases e
    · cases e
  · exact h _ _ e
def mBorKT (i : Nat) (f : XT) : XT := fun en => match en[i]? with
  | some (some (.ow _ (.dk ks fs))) => (match dksOf ks fs with
    | some st => f (en.set i (some (.sh (dkD st))))
    | none => none)
  | _ => f en
theorem mt_borK (h : MT K tt ft) : MT K tt (mBorKT i ft) := fun en d e => by
  unfold mBorKT at e
  split at e
  · rename_i b ks fs hi
    split at e
    · rename_i st hs
      obtain ⟨rfl, rfl⟩ := dksOf_eq hs
      exact et_borK hi (h _ _ e)
    · cases e
  · exact h _ _ e
/-- {} -/
def mNewK : XW := fun _ => some (dkO [])
theorem mw_newK : MW K tDNewK mNewK := fun en o e => by
  cases e
  intro A0 Hs A H σ I Q k p hp
  refine k p _ (fun q => q == p) (fun _ => []) (fun q hq => ?_) (Grow.new I.live hp) (.dk ⟨by simp, rfl⟩ upd_same rfl .nil)
  have : q = p := by simpa using hq
  rw [this]
  exact ⟨hp, by rw [upd_same]; exact fun z => by cases z⟩
def putQ (st : List (Key × D)) (k : Key) (v : D) : List (Key × D) := if (st.any fun p => decide (p.1 = k)) = true then st.map (fun p => if p.1 = k then (p.1, v) else p) else st ++ [(k, v)]
theorem putK_ok {H : Hp} {k : Key} {v : D} {vv : V} (hv : Dq K H vv v) : ∀ {st : List (Key × D)} {kvs : List (Key × V)}, kvs.map (·.1) = st.map (·.1) → DqAll K H (kvs.map (·.2)) (st.map (·.2)) →
    (putK kvs k vv).map (·.1) = (putQ st k v).map (·.1) ∧ DqAll K H ((putK kvs k vv).map (·.2)) ((putQ st k v).map (·.2)) := by
  have any : ∀ {st : List (Key × D)} {kvs : List (Key × V)}, kvs.map (·.1) = st.map (·.1) → (kvs.any fun e => decide (e.1 = k)) = (st.any fun p => decide (p.1 = k)) := by
    intro st
    induction st with
    | nil =>
      intro kvs e
      cases kvs with
      | nil => rfl
      | cons => cases e
    | cons p st ih =>
      intro kvs e
      cases kvs with
      | nil => cases e
      | cons kv kvs =>
        simp only [List.map_cons, List.cons.injEq] at e
        rw [List.any_cons, List.any_cons, ih e.2, e.1]
  have mp : ∀ {st : List (Key × D)} {kvs : List (Key × V)}, kvs.map (·.1) = st.map (·.1) → DqAll K H (kvs.map (·.2)) (st.map (·.2)) →
      (kvs.map (fun kv => if kv.1 = k then (kv.1, vv) else kv)).map (·.1) = (st.map (fun p => if p.1 = k then (p.1, v) else p)).map (·.1) ∧ DqAll K H ((kvs.map (fun kv => if kv.1 = k then (kv.1, vv) else kv)).map (·.2)) ((st.map (fun p => if p.1 = k then (p.1, v) else p)).map (·.2)) := by
    intro st
    induction st with
    | nil =>
      intro kvs e h
      cases kvs with
      | nil => exact ⟨rfl, .nil⟩
      | cons => cases e
    | cons p st ih =>
      intro kvs e h
      cases kvs with
      | nil => cases e
      | cons kv kvs =>
        rw [List.map_cons, List.map_cons] at h
        cases h with
        | cons h1 h2 =>
          simp only [List.map_cons, List.cons.injEq] at e
          obtain ⟨i1, i2⟩ := ih e.2 h2
          simp only [List.map_cons]
          by_cases c : kv.1 = k
          · have c2 : p.1 = k := by rw [← e.1]; exact c
            rw [if_pos c, if_pos c2]
            exact ⟨by rw [i1, e.1], .cons hv i2⟩
          · have c2 : ¬p.1 = k := by rw [← e.1]; exact c
            rw [if_neg c, if_neg c2]
            exact ⟨by rw [i1, e.1], .cons h1 i2⟩
  intro st kvs e h
  unfold putK putQ
  rw [any e]
  by_cases c : (st.any fun p => decide (p.1 = k)) = true
  · rw [if_pos c, if_pos c]
    exact mp e h
  · rw [if_neg c, if_neg c]
    refine ⟨by rw [List.map_append, List.map_append, e]; rfl, ?_⟩
    rw [List.map_append, List.map_append]
    exact dpa_append h (.cons hv .nil)
/-- d[k] = e -/
theorem s_setK {en : En} {E : DE} {st : List (Key × D)} {y v : D} {k : Key} (hi : en[i]? = some (some (.ow none (dkO st)))) (h : EvD K te en v) (hn : EvD K ti en y) (hy : keyOf y = some k) (hz : st.length < 16000000) (q : E.nx (en.set i (some (.ow none (dkO (putQ st k v)))))) :
    SD K (tAsg te (gSub (tVar i) ti (rSetG K))) E en := fun A0 Hs A H σ I F f =>
  h A0 Hs A H σ I _ fun v1 H1 g1 d1 => by
    have I1 := I.grow g1
    obtain ⟨p, kvs, hv, hA, hA0, hp, k1, k2⟩ := I1.odk hi
    refine ⟨_, hv, hn A0 Hs A H1 σ I1 _ fun w H2 g2 d2 => ?_⟩
    have hp2 : H2 p = some (.dK kvs) := by rw [g2.eq p hA]; exact hp
    have hl : kvs.length = st.length := by have := congrArg List.length k1; simpa using this
    rw [keyOf_v d2 hy]
    obtain ⟨j1, j2⟩ := putK_ok (K := K) (k := k) (dp_mono g2.ex d1) k1 (dpa_mono g2.ex k2)
    exact .inl ⟨p, _, rfl, DPut.k hp2 (Nat.lt_of_lt_of_le (by omega : kvs.length < 16000000) (by rw [sizeLine_eq]; decide)), f.nx A _ σ _ ((I1.grow g2).writeK hi hv j1 j2) q⟩
def mSetK (i : Nat) (fi fe : XE) : XS := fun en => match en[i]?, fe en, fi en with
  | some (some (.ow none (.dk ks fs))), some v, some y => (match dksOf ks fs, keyOf y with
    | some st, some k => if st.length < 16000000 then some (.nx (en.set i (some (.ow none (dkO (putQ st k v)))))) else none
    | _, _ => none)
  | _, _, _ => none
theorem ms_setK (hi : ME K ti fi) (h : ME K te fe) : MS K (tAsg te (gSub (tVar i) ti (rSetG K))) (mSetK i fi fe) := fun en o e => by
  unfold mSetK at e
  split at e
  · rename_i ks fs v y h1 h2 h3
    split at e
    · rename_i st k hs hk
      obtain ⟨rfl, rfl⟩ := dksOf_eq hs
      split at e
      · rename_i hc
        cases e
        exact s_setK h1 (h en _ h2) (hi en _ h3) hk hc rfl
      · cases e
    · cases e
  · cases e
end
end HF

set_option Elab.async false
set_option linter.all false
set_option maxRecDepth 100000
set_option maxHeartbeats 2000000
/-! HF40: tuple(d), d a dict. -/
namespace HF
open PySem L2 PySem.Spec PyProof.Rows
theorem meets_tuple_new_dict (l : Addr) (es : Array DictEntry) (ep : Nat) (lo : (l == sysModules) = false) (hz : es.size ≤ sizeLine) :
    Meets (Builtin.«tuple.__new__» ⟨[.type "tuple", .ref l], []⟩)
      (fun A R s => A.handled = none ∧ s.heap.DictRaw l es ep ∧ ∀ (h' : Heap) (tk : Nat) (acc : Array Value), (∀ b o', s.heap.get? b = some o' → h'.get? b = some o') → ItemsOf (fun i v => ∃ hi : i < es.size, v = es[i].key) acc es.size → R (.ok (.ret (.ref h'.objs.size))) { s with heap := h'.push { cls := .type "tuple", data := .seq acc }, toks := tk }) :=
  .of_wp fun prog w A R s h => by
    obtain ⟨hp, g, d, tk, os⟩ := s; obtain ⟨hh, hm, h⟩ := h
    have hsub := sub_tuple_self
    have hinit := init_tuple_lookup
    have hmh := madeHere_tuple
    have hT : Shared.TypeIs ⟨hp, g, d, tk, os⟩ (.ref l) "dict" := hm.typeIs
    have q1 : ∀ {A' : Around} {E : Value → Shared → Prop} {R' : List Value → Shared → Prop}, A'.handled = none → (∀ (h' : Heap) (tk' : Nat) (acc : Array Value), (∀ b o, hp.get? b = some o → h'.get? b = some o) → ItemsOf (fun i v => ∃ hi : i < es.size, v = es[i].key) acc es.size → R' acc.toList ⟨h', g, d, tk', os⟩) → wpAny (model prog w) A' (collect (.ref l)) R' E ⟨hp, g, d, tk, os⟩ :=
      fun hh' q => PySem.W.kdu_collect (KdlSrc.rawDict lo) hh' hm hz fun h' tk' acc hk hi => q h' tk' acc hk hi
    wp_walk using wpAny_typeOf hT, q1
    · exact hh
    · intro h' tk' acc hk hi
      have e : acc.toList.toArray = acc := by simp
      rw [e]
      refine wpAny_bind (wpAny_pure ?_)
      show wpAny _ _ (Builtin.Tuple.tupleExact acc >>= fun v => ret v) _ _ _
      unfold Builtin.Tuple.tupleExact
      refine wpAny_bind (wpAny_newObj_type ?_ (by show acc.size ≤ sizeLine; rw [hi.1]; exact hz))
      exact wpAny_pure ⟨_, rfl, h h' tk' acc hk hi⟩
section
variable {prog : Program} {w : World} {A : Around} {E : Value → Shared → Prop} {s : Shared}
theorem call_tuple_dict {l : Addr} {es : Array DictEntry} {ep : Nat} {Q : Value → Shared → Prop} (hh : A.handled = none) (lo : (l == sysModules) = false) (hm : s.heap.DictRaw l es ep) (hz : es.size ≤ sizeLine)
    (h : ∀ (h' : Heap) (tk : Nat) (acc : Array Value), (∀ b o', s.heap.get? b = some o' → h'.get? b = some o') → ItemsOf (fun i v => ∃ hi : i < es.size, v = es[i].key) acc es.size → Q (.ref h'.objs.size) { s with heap := h'.push { cls := .type "tuple", data := .seq acc }, toks := tk }) :
    wpAny (model prog w) A (call (.type "tuple") [.ref l]) Q E s := by
  exact callType_new F.called_tuple (by decide) (F.typeCall_tuple_1 _) (F.newCall_tuple_1 _) (fun obj => F.args_object_init_2 obj _) F.entry_tuple_new
    (meets_tuple_new_dict l es ep lo hz) ⟨hh, hm, fun h' tk acc hk hi => ⟨⟨_, Heap.get?_push_size _ rfl, rfl⟩, h h' tk acc hk hi⟩⟩
end
end HF

set_option Elab.async false
set_option linter.all false
set_option maxRecDepth 100000
set_option maxHeartbeats 2000000
/-! HF41: tuple({k: v for .. in ..}), the keys texts. -/
namespace HF
open PySem L2 PySem.Spec PyProof.Rows
def dedS (acc : List Str) : List Str → List Str
  | [] => acc
  | s :: ss => dedS (if s ∈ acc then acc else acc ++ [s]) ss
def addS (acc : List Str) (s : Str) : List Str := if s ∈ acc then acc else acc ++ [s]
theorem dedS_snoc : ∀ (ss : List Str) (acc : List Str) (s : Str), dedS acc (ss ++ [s]) = addS (dedS acc ss) s
  | [], acc, s => rfl
  | t :: ss, acc, s => by
    rw [List.cons_append, dedS, dedS_snoc ss, dedS]
def rTupD : List V → Hp → VK → Prop := fun xs H Q => ∃ (a : Addr) (kvs : List (Key × V)) (ss : List Str), xs = [.ref a] ∧ H a = some (.dK kvs) ∧ kvs.map (·.1) = ss.map Sum.inr ∧ ∀ l, H l = none → Q (.ref l) (upd H l (.tup (ss.map V.str)))
theorem putK_keys {kvs : List (Key × V)} {ss : List Str} {s : Str} {v : V} (h : kvs.map (·.1) = ss.map Sum.inr) : (putK kvs (Sum.inr s) v).map (·.1) = (addS ss s).map Sum.inr := by
  have any : ∀ {kvs : List (Key × V)} {ss : List Str}, kvs.map (·.1) = ss.map Sum.inr → (kvs.any fun e => decide (e.1 = Sum.inr s)) = decide (s ∈ ss) := by
    intro kvs
    induction kvs with
    | nil =>
      intro ss e
      cases ss with
      | nil => simp
      | cons => cases e
    | cons kv kvs ih =>
      intro ss e
      cases ss with
      | nil => cases e
      | cons t ss =>
        simp only [List.map_cons, List.cons.injEq] at e
        rw [List.any_cons, ih e.2, e.1]
        by_cases c : t = s
        · subst c; simp
        · have c2 : ¬s = t := fun z => c z.symm
          have c3 : ¬((Sum.inr t : Key) = Sum.inr s) := fun z => c (Sum.inr.inj z)
          simp [c2, c3]
  have mp : ∀ kvs : List (Key × V), (kvs.map (fun kv => if kv.1 = Sum.inr s then (kv.1, v) else kv)).map (·.1) = kvs.map (·.1) := by
    intro kvs
    rw [List.map_map]
    refine List.map_congr_left fun kv _ => ?_
    show (if kv.1 = Sum.inr s then (kv.1, v) else kv).1 = kv.1
    split <;> rfl
  unfold putK addS
  rw [any h]
  by_cases c : s ∈ ss
  · rw [if_pos (decide_eq_true c), if_pos c, mp, h]
  · rw [if_neg (by simpa using c), if_neg c, List.map_append, List.map_append, h]
    rfl
section
variable {K : Fg} {tk tv : TE} {en : En} {g : TG} {wi : TI} {vs : List Nat}
/-- a dict is made of texts, and its keys are taken -/
theorem el_dc {xs : List D} (ks : List Str) (hw : EvI K wi en xs) (hkl : ks.length = xs.length) (hz : xs.length < 16000000) (hv : ∀ v ∈ vs, v < en.length)
    (hwipe : ∀ (σ : L2.St) (v : V) (H : Hp) (Q : L2.St → Hp → Prop), g v (wipe σ vs) H Q → g v (wipe σ vs) H fun σ2 H2 => wipe σ2 vs = wipe σ vs ∧ Q σ2 H2)
    (hs : ∀ (j : Nat) (x : D), xs[j]? = some x → ∃ e' s d, ks[j]? = some s ∧ GD K g x (wipeE en vs) e' ∧ EvD K tk e' (.str s) ∧ EvD K tv e' d) : EvD K (tCB rTupD (tCons (tDc wi g tYes tk tv vs) tNil)) en (.tuple ((dedS [] ks).map .str)) := fun A0 Hs A H σ I Q k =>
  hw A0 Hs A H σ I _ fun J H1 g1 W Dl hD => by
    have I1 := I.grow g1
    have hA : A Dl = false := I1.live.out hD
    have hD0 : H Dl = none := g1.same.none hD
    let A' := adda A Dl
    have hsub : ∀ {H' : Hp}, Same (hide A H1) (hide A' H') → Same (hide A H1) (hide A H') := fun {H'} s => s.via (fun _ _ => rfl) fun a _ m => (hide_adda_ne (adda_false (hide_th m).1).2).symm
    have hle : xs.length ≤ sizeLine := Nat.le_of_lt (Nat.lt_of_lt_of_le hz (by rw [sizeLine_eq]; decide))
    let Pv : Nat → Hp → Prop := fun j H' => Same (hide A H1) (hide A' H') ∧ (∀ p, A p = true → H' p = H1 p) ∧ ∃ kvs, H' Dl = some (.dK kvs) ∧ kvs.map (·.1) = (dedS [] (ks.take j)).map Sum.inr ∧ kvs.length ≤ j
    have IA : ∀ {j : Nat} {H' : Hp}, Pv j H' → EnvOk K A0 Hs A' H' σ en := fun {j H'} ⟨s, q, kvs, e, _⟩ => by
      have J0 := I1.apart (o := .dK kvs) hD
      refine J0.grow ⟨s.via (fun a n => ?_) (fun _ _ _ => rfl), fun p hp => ?_⟩
      · have hne : a ≠ Dl := (adda_false (hide_th n).1).2
        rw [hide_adda_ne hne]
        unfold hide
        rw [upd_ne hne]
      · by_cases hp' : p = Dl
        · rw [hp', upd_same]; exact e
        · rw [upd_ne hp']
          have hp2 : A p = true := by
            have : adda A Dl p = true := hp
            rw [adda_ne hp'] at this; exact this
          exact q p hp2
    refine ⟨fun j m H' => m = xs.length - j ∧ j ≤ xs.length ∧ Pv j H', ⟨xs.length, by simp, Nat.zero_le _, same_of fun a o e => ?_, fun p hp => ?_, [], upd_same, rfl, Nat.le_refl _⟩, ?_⟩
    · obtain ⟨h1, h2⟩ := hide_some e
      have hne : a ≠ Dl := ne_of_none h2 hD
      show hide (adda A Dl) _ a = _
      rw [hide_out (by rw [adda_ne hne]; exact h1), upd_ne hne]; exact h2
    · exact upd_ne fun z => by rw [z, hA] at hp; cases hp
    rintro j m H' ⟨rfl, hj, p⟩
    have IJ := IA p
    obtain ⟨s, q, kvs, e, dw, dl⟩ := p
    by_cases hlt : j < xs.length
    · refine .inr ⟨W.goes A' H' j IJ.live s hlt, fun H2 => Pv (j + 1) H2, fun H2 p2 => ⟨xs.length - (j + 1), by omega, rfl, hlt, p2⟩, fun x H2 y => ?_⟩
      have hx : xs[j]? = some xs[j] := by simp [hlt]
      obtain ⟨g2, dx⟩ := W.yields A' H' j xs[j] x H2 IJ.live s hx y
      obtain ⟨e', st, d, hks, hg, hk, hb⟩ := hs j _ hx
      refine hwipe σ x H2 _ (hg A0 Hs A' H2 _ x (wipe_ok (IJ.grow g2) vs hv) dx _ fun σ3 H3 g3 I3 => ?_)
      show tk σ3 H3 fun y H4 => tv σ3 H4 fun z H5 => ∃ kvs k, y = kV k ∧ H5 Dl = some (.dK kvs) ∧ kvs.length < sizeLine ∧ Pv (j + 1) (upd H5 Dl (.dK (putK kvs k z)))
      refine hk A0 Hs A' H3 σ3 I3 _ fun u H4 g4 du => ?_
      refine hb A0 Hs A' H4 σ3 (I3.grow g4) _ fun z H5 g5 dz => ?_
      have gg : Grow A' H' H5 := ((g2.trans g3).trans g4).trans g5
      rw [dp_str du]
      have sm : Same (hide A' H5) (hide A' (upd H5 Dl (.dK (putK kvs (Sum.inr st) z)))) := same_of fun a o ea => by
        obtain ⟨h1, h2⟩ := hide_some ea
        rw [hide_out h1, upd_ne (adda_false h1).2]; exact h2
      refine ⟨kvs, Sum.inr st, rfl, by rw [gg.eq Dl adda_self]; exact e, by omega, (s.trans gg.ex).trans sm, fun p hp => ?_, _, upd_same, ?_, ?_⟩
      · rw [upd_ne (fun z => by rw [z, hA] at hp; cases hp)]
        exact (gg.eq p (adda_of hp)).trans (q p hp)
      · rw [putK_keys dw, List.take_add_one, hks]
        show _ = List.map Sum.inr (dedS [] (List.take j ks ++ [st]))
        rw [dedS_snoc]
      · unfold putK
        split
        · rw [List.length_map]; omega
        · rw [List.length_append]; simp; omega
    · have ej : j = xs.length := by omega
      subst ej
      refine .inl ⟨W.stops A' H' IJ.live s, ?_⟩
      have gH : Grow A H H' := g1.trans ⟨hsub s, q⟩
      have ek : ks.take xs.length = ks := List.take_of_length_le (by omega)
      rw [ek] at dw
      show rTupD [.ref Dl] H' Q
      refine ⟨Dl, kvs, dedS [] ks, rfl, e, dw, fun l hl => ?_⟩
      have g2 : Grow A H' (upd H' l (.tup ((dedS [] ks).map V.str))) := Grow.new (gH.live I.live) hl
      refine k _ _ (gH.trans g2) (.tup (.inl (.inl (hide_new (gH.live I.live) hl))) (dqs_strs _))
end
section
variable {X : Cx}
theorem vals_at : ∀ {xs : List V} {us : List Value}, us.length = xs.length → (∀ (j : Nat) (x : V) (u : Value), xs[j]? = some x → us[j]? = some u → RelV x u) → Vals xs us
  | [], [], _, _ => .nil
  | x :: xs, u :: us, h, f => .cons (f 0 x u rfl rfl) (vals_at (by simpa using h) fun j y w h1 h2 => f (j + 1) y w (by simpa using h1) (by simpa using h2))
  | [], _ :: _, h, _ => by cases h
  | _ :: _, [], h, _ => by cases h
theorem call_tupD (hc : X.calm = true := by rfl) : CallR X (.type "tuple") rTupD := by
  intro pins s σ H xs us Q I r h
  obtain ⟨a, kvs, ss, rfl, e, hk, q⟩ := h
  obtain ⟨u, rfl, rx⟩ := vals1 r
  cases rx
  obtain ⟨hl, lo, kws, hkv, o, es, ep, ho, hcl, hd, hko, hp, hnd⟩ := dk_of I.hok e
  have hsz : es.size = kvs.length := by
    have h1 := hp.length
    have h2 := Paired.length hkv
    simp at h1
    omega
  have hss : ss.length = kvs.length := by have := congrArg List.length hk; simpa using this.symm
  refine call_tuple_dict (I.ok.hd hc) lo ⟨o, ho, hcl, hd⟩ (by omega) fun h' tk acc hkp hi => ?_
  have I1 : Inv X pins σ H { s with heap := h', toks := tk } := I.kept hkp
  have hv : Vals (ss.map V.str) acc.toList := by
    refine vals_at (by rw [Array.length_toList, List.length_map, hi.1, hsz, hss]) fun j x u hx hu => ?_
    rw [Array.getElem?_toList] at hu
    obtain ⟨hj, rfl⟩ := hi.2 j u hu
    have hmap : ∀ {as : List (Key × V)} {bs : List (Key × Value)}, KV as bs → bs.map (·.1) = as.map (·.1) := by
      intro as bs q
      induction q with
      | nil => rfl
      | cons h t ih => rw [List.map_cons, List.map_cons, ih, h.1]
    rw [List.getElem?_map] at hx
    obtain ⟨st, hst, rfl⟩ := Option.map_eq_some_iff.mp hx
    have h1 : (kws.map (·.1))[j]? = some (Sum.inr st : Key) := by rw [hmap hkv, hk, List.getElem?_map, hst]; rfl
    rw [List.getElem?_map] at h1
    obtain ⟨kw, hkw, hkw1⟩ := Option.map_eq_some_iff.mp h1
    have h2 := (Pairs.get? hp (i := j) (e := es[j]) (k := kw.1) (v := kw.2) (by simp [hj]) hkw).1
    rw [hkw1] at h2
    have h3 : keyIs (Sum.inr st) es[j].key = true := h2
    rcases keyIs_shape h3 with ⟨i, t, e1, e2⟩ | ⟨y, t, e1, e2⟩
    · cases e1 <;> cases e2
    · first
        | (cases e2; exact ⟨t, e1⟩)
        | (cases e1; exact ⟨t, e2⟩)
  exact ⟨.ref h'.objs.size, _, I1.laid (o := .tup (ss.map V.str)) (t' := tk) (fun b o q => Heap.get?_push_of_some _ q) (Nat.le_refl _) ⟨by rw [List.length_map, hss]; exact hl, acc.toList, hv, by simpa using IsTup.new _ _⟩, rfl, q _ (I1.hok.fresh (Nat.le_refl _))⟩
end
/-! mirror -/
def tdGo (xg : XG) (xk xv : XE) (e0 : En) : List D → Option (List Str)
  | [] => some []
  | x :: xs => match xg x e0 with
    | some e1 => (match xk e1 with
      | some (.str s) => (match xv e1 with
        | some _ => (match tdGo xg xk xv e0 xs with
          | some ss => some (s :: ss)
          | none => none)
        | none => none)
      | _ => none)
    | none => none
theorem tdGo_ok {xg : XG} {xk xv : XE} {e0 : En} : ∀ {xs : List D} {ss : List Str}, tdGo xg xk xv e0 xs = some ss → ss.length = xs.length ∧ ∀ (j : Nat) (x : D), xs[j]? = some x → ∃ e1 s d, ss[j]? = some s ∧ xg x e0 = some e1 ∧ xk e1 = some (.str s) ∧ xv e1 = some d
  | [], ss, h => by cases h; exact ⟨rfl, fun j x hx => by simp at hx⟩
  | x :: xs, ss, h => by
    rw [tdGo] at h
    split at h
    · rename_i e1 h1
      split at h
      · rename_i s h2
        split at h
        · rename_i d h3
          split at h
          · rename_i ss' h4
            cases h
            obtain ⟨i1, i2⟩ := tdGo_ok h4
            refine ⟨by simp [i1], fun j y hy => ?_⟩
            cases j with
            | zero =>
              cases hy
              exact ⟨e1, s, d, rfl, h1, h2, h3⟩
            | succ j =>
              obtain ⟨e2, s2, d2, a1, a2⟩ := i2 j y (by simpa using hy)
              exact ⟨e2, s2, d2, by simpa using a1, a2⟩
          · cases h
        · cases h
      · cases h
    · cases h
def mTupDc (xi : XA) (xg : XG) (xk xv : XE) (vs : List Nat) : XE := fun en => match xi en with
  | some xs => if (vs.all fun v => decide (v < en.length)) = true ∧ xs.length < 16000000 then (match tdGo xg xk xv (wipeE en vs) xs with
    | some ss => some (.tuple ((dedS [] ss).map .str))
    | none => none) else none
  | none => none
section
variable {K : Fg} {tk tv : TE} {fk fv : XE}
theorem me_tupDc {wi : TI} {g : TG} {xi : XA} {xg : XG} {vs : List Nat} (hi : MI K wi xi) (hg : MG K g xg) (hk : ME K tk fk) (hv : ME K tv fv) (ho : WipeOk g vs) : ME K (tCB rTupD (tCons (tDc wi g tYes tk tv vs) tNil)) (mTupDc xi xg fk fv vs) := fun en d e => by
  unfold mTupDc at e
  split at e
  · rename_i xs hx
    split at e
    · rename_i hc
      split at e
      · rename_i ss hss
        cases e
        obtain ⟨h1, h2⟩ := tdGo_ok hss
        refine el_dc ss (hi en _ hx) h1 hc.2 (fun v hv => of_decide_eq_true (List.all_eq_true.mp hc.1 v hv)) (fun σ v H Q q => by
          have z := ho v (wipe σ vs) H Q q
          rw [wipe_idem] at z
          exact z) fun j x hj => ?_
        obtain ⟨e1, s, d, a1, a2, a3, a4⟩ := h2 j x hj
        exact ⟨e1, s, d, a1, hg _ _ _ a2, hk _ _ a3, hv _ _ a4⟩
      · cases e
    · cases e
  · cases e
def tupDcO (xg : XG) (xk xv : XE) (vs : List Nat) (en : En) : Option (List D) → Option D
  | some xs => if (vs.all fun v => decide (v < en.length)) = true ∧ xs.length < 16000000 then (match tdGo xg xk xv (wipeE en vs) xs with
    | some ss => some (.tuple ((dedS [] ss).map .str))
    | none => none) else none
  | none => none
theorem x_tupDc {xi : XA} {xg : XG} {vs : List Nat} {en : En} : mTupDc xi xg fk fv vs en = tupDcO xg fk fv vs en (xi en) := by unfold mTupDc tupDcO; rfl
end
end HF

set_option Elab.async false
set_option linter.all false
set_option maxRecDepth 100000
set_option maxHeartbeats 2000000
/-! HF42: words of a text. -/
namespace HF
open PySem L2 PySem.Spec PyProof.Rows PySem.KWd
theorem step_from (W : List Str) : ∀ (cs : List Nat) (ws : List Str) (r : Str), cs.foldl KWd.step (W ++ ws, r) = (W ++ (cs.foldl KWd.step (ws, r)).1, (cs.foldl KWd.step (ws, r)).2)
  | [], ws, r => rfl
  | c :: cs, ws, r => by
    rw [List.foldl_cons, List.foldl_cons]
    have h : KWd.step (W ++ ws, r) c = (W ++ (KWd.step (ws, r) c).1, (KWd.step (ws, r) c).2) := by
      unfold KWd.step
      by_cases hs : Unicode.isSpace c = true
      · rw [if_pos hs, if_pos hs]
        by_cases hr : r.length = 0
        · rw [if_pos hr, if_pos hr]
        · rw [if_neg hr, if_neg hr]
          simp
      · rw [if_neg hs, if_neg hs]
    rw [h]
    exact step_from W cs _ _
def goodRun (P : Nat → Prop) (w : Str) : Prop := ∀ c ∈ w.cps.toList, P c
/-- what the words are made of -/
theorem scan_good {P : Nat → Prop} : ∀ (cs : List Nat) (ws : List Str) (r : Str), (∀ c ∈ cs, Unicode.isSpace c = true ∨ P c) → (∀ w ∈ ws, w.length ≠ 0 ∧ goodRun P w) → goodRun P r →
    (∀ w ∈ (cs.foldl KWd.step (ws, r)).1, w.length ≠ 0 ∧ goodRun P w) ∧ goodRun P (cs.foldl KWd.step (ws, r)).2
  | [], ws, r, _, h, hr => ⟨h, hr⟩
  | c :: cs, ws, r, hc, h, hr => by
    rw [List.foldl_cons]
    have hcs : ∀ c ∈ cs, Unicode.isSpace c = true ∨ P c := fun x hx => hc x (List.mem_cons_of_mem _ hx)
    unfold KWd.step
    by_cases hs : Unicode.isSpace c = true
    · rw [if_pos hs]
      by_cases h0 : r.length = 0
      · rw [if_pos h0]
        exact scan_good cs ws r hcs h hr
      · rw [if_neg h0]
        refine scan_good cs _ _ hcs (fun w hw => ?_) (fun x hx => by cases hx)
        rcases List.mem_append.mp hw with hw | hw
        · exact h w hw
        · rw [List.mem_singleton.mp hw]; exact ⟨h0, hr⟩
    · rw [if_neg hs]
      refine scan_good cs ws _ hcs h fun x hx => ?_
      rw [Str.cps_append, Array.toList_append] at hx
      rcases List.mem_append.mp hx with hx | hx
      · exact hr x hx
      · have e : x = c := by simpa using hx
        rw [e]
        exact (hc c List.mem_cons_self).resolve_left hs
theorem words_good {P : Nat → Prop} {x : Str} (h : ∀ c ∈ x.cps.toList, Unicode.isSpace c = true ∨ P c) : ∀ w ∈ Txt.words x, w.length ≠ 0 ∧ goodRun P w := by
  rw [words_scan]
  obtain ⟨h1, h2⟩ := scan_good x.cps.toList [] Str.empty h (fun w hw => by cases hw) (fun c hc => by cases hc)
  unfold KWd.fin KWd.scan
  split
  · exact h1
  · rename_i h0
    intro w hw
    rcases List.mem_append.mp hw with hw | hw
    · exact h1 w hw
    · rw [List.mem_singleton.mp hw]; exact ⟨h0, h2⟩
/-- a text without blanks is its own word -/
theorem step_sign {st : List Str × Str} {c : Nat} (hc : Unicode.isSpace c = false) : KWd.step st c = (st.1, st.2 ++ ⟨#[c]⟩) := by
  unfold KWd.step
  rw [if_neg (by rw [hc]; exact Bool.false_ne_true)]
theorem scan_run : ∀ (cs : List Nat) (ws : List Str) (r : Str), (∀ c ∈ cs, Unicode.isSpace c = false) → cs.foldl KWd.step (ws, r) = (ws, r ++ ⟨cs.toArray⟩)
  | [], ws, r, _ => by
    have : r ++ ⟨([] : List Nat).toArray⟩ = r := Str.ext' (by simp [Str.cps_append])
    rw [this]
    rfl
  | c :: cs, ws, r, h => by
    rw [List.foldl_cons, step_sign (h c List.mem_cons_self), scan_run cs _ _ fun x hx => h x (List.mem_cons_of_mem _ hx)]
    have : r ++ ⟨#[c]⟩ ++ ⟨cs.toArray⟩ = r ++ ⟨(c :: cs).toArray⟩ := Str.ext' (by simp [Str.cps_append])
    rw [this]
theorem words_one {x : Str} (h : ∀ c ∈ x.cps.toList, Unicode.isSpace c = false) (h0 : x.length ≠ 0) : Txt.words x = [x] := by
  rw [words_scan]
  have e : KWd.scan x = ([], x) := by
    unfold KWd.scan
    rw [scan_run _ _ _ h]
    have : Str.empty ++ ⟨x.cps.toList.toArray⟩ = x := Str.ext' (by simp [Str.cps_append, Str.empty])
    rw [this]
  unfold KWd.fin
  rw [e, if_neg h0]
  rfl
/-- a blank between two texts -/
theorem words_two {x y z : Str} {b : Nat} (hb : Unicode.isSpace b = true) (h : z.cps.toList = x.cps.toList ++ b :: y.cps.toList) : Txt.words z = Txt.words x ++ Txt.words y := by
  rw [words_scan, words_scan, words_scan]
  have e : KWd.scan z = (KWd.fin (KWd.scan x) ++ (KWd.scan y).1, (KWd.scan y).2) := by
    unfold KWd.scan
    rw [h, List.foldl_append, List.foldl_cons]
    have hs : KWd.step (x.cps.toList.foldl KWd.step ([], Str.empty)) b = (KWd.fin (x.cps.toList.foldl KWd.step ([], Str.empty)), Str.empty) := by
      generalize x.cps.toList.foldl KWd.step ([], Str.empty) = st
      obtain ⟨ws, r⟩ := st
      unfold KWd.step KWd.fin
      rw [if_pos hb]
      by_cases h0 : r.length = 0
      · rw [if_pos h0, if_pos h0]
        exact congrArg (ws, ·) (len0 h0)
      · rw [if_neg h0, if_neg h0]
    rw [hs]
    have := step_from (KWd.fin (x.cps.toList.foldl KWd.step ([], Str.empty))) y.cps.toList [] Str.empty
    rw [List.append_nil] at this
    exact this
  rw [e]
  unfold KWd.fin
  simp only []
  split
  · rfl
  · rw [List.append_assoc]
/-! the first of each -/
theorem dedS_mem : ∀ (ss acc : List Str) (s : Str), s ∈ dedS acc ss ↔ s ∈ acc ∨ s ∈ ss
  | [], acc, s => by simp [dedS]
  | t :: ss, acc, s => by
    rw [dedS, dedS_mem ss]
    split
    · rename_i h
      constructor
      · rintro (q | q)
        · exact .inl q
        · exact .inr (List.mem_cons_of_mem _ q)
      · rintro (q | q)
        · exact .inl q
        · rcases List.mem_cons.mp q with rfl | q
          · exact .inl h
          · exact .inr q
    · constructor
      · rintro (q | q)
        · rcases List.mem_append.mp q with q | q
          · exact .inl q
          · rw [List.mem_singleton.mp q]; exact .inr List.mem_cons_self
        · exact .inr (List.mem_cons_of_mem _ q)
      · rintro (q | q)
        · exact .inl (List.mem_append_left _ q)
        · rcases List.mem_cons.mp q with rfl | q
          · exact .inl (List.mem_append_right _ List.mem_cons_self)
          · exact .inr q
theorem dedS_old : ∀ (ss acc : List Str), (∀ s ∈ ss, s ∈ acc) → dedS acc ss = acc
  | [], acc, _ => rfl
  | t :: ss, acc, h => by
    rw [dedS, if_pos (h t List.mem_cons_self)]
    exact dedS_old ss acc fun s hs => h s (List.mem_cons_of_mem _ hs)
theorem dedS_app : ∀ (a b acc : List Str), dedS acc (a ++ b) = dedS (dedS acc a) b
  | [], b, acc => rfl
  | t :: a, b, acc => by rw [List.cons_append, dedS, dedS_app a b, dedS]
theorem dedS_twice (ws : List Str) : dedS [] (ws ++ ws) = dedS [] ws := by
  rw [dedS_app]
  exact dedS_old ws _ fun s hs => (dedS_mem ws [] s).mpr (.inr hs)
theorem dedS_first : ∀ (post pre acc : List Str), (∀ s, s ∈ acc ↔ s ∈ pre) → dedS acc post = acc ++ ((post.zipIdx pre.length).filter fun q => decide (q.1 ∉ (pre ++ post).take q.2)).map (·.1)
  | [], pre, acc, _ => by simp [dedS]
  | t :: post, pre, acc, h => by
    have ih := dedS_first post (pre ++ [t]) (if t ∈ acc then acc else acc ++ [t]) (fun s => by
      split
      · rename_i c
        rw [h s]
        constructor
        · intro q; exact List.mem_append_left _ q
        · intro q
          rcases List.mem_append.mp q with q | q
          · exact q
          · rw [List.mem_singleton.mp q]; exact (h t).mp c
      · rw [List.mem_append, List.mem_append, h s])
    rw [dedS, ih, List.zipIdx_cons, List.filter_cons]
    have e1 : (pre ++ t :: post).take pre.length = pre := by simp
    have e2 : pre ++ [t] ++ post = pre ++ t :: post := by simp
    have e3 : (pre ++ [t]).length = pre.length + 1 := by simp
    rw [e2, e3]
    show _ = acc ++ List.map _ (if decide (t ∉ (pre ++ t :: post).take pre.length) = true then _ else _)
    rw [e1]
    by_cases c : t ∈ acc
    · rw [if_pos c, if_neg (by simpa using (h t).mp c)]
    · rw [if_neg c, if_pos (by simpa using fun z => c ((h t).mpr z))]
      simp
end HF

set_option Elab.async false
set_option linter.all false
set_option maxRecDepth 100000
set_option maxHeartbeats 4000000
namespace My
open PySem L2 PySem.Spec PyProof.Rows HF

def topAt (i : Nat) : Stmt := PySem.Challenge.pw_askedthen_k22_wishes_are_fulfilled.main.body.getD i (.Pass ⟨0, 0, 0, 0⟩)
structure Gk (K : Fg) : Prop
structure Gb (K : Fg) (mg : Str → Option Value) : Prop where
  Z : Gk K
  b_range : mg "range" = none
  b_int : mg "int" = none
  b_tuple : mg "tuple" = none
  b_len : mg "len" = none
  b_all : mg "all" = none
  b_isinstance : mg "isinstance" = none
  b_str : mg "str" = none
  g_u_FEWEST_PARTS : ∃ t, mg "_FEWEST_PARTS" = some (.int 2 t)
  g_u_MOST_PARTS : ∃ t, mg "_MOST_PARTS" = some (.int 6 t)
  g_LONGEST : ∃ t, mg "LONGEST" = some (.int 40 t)
  g_u_DEEPEST : ∃ t, mg "_DEEPEST" = some (.int 6 t)
  b_any : mg "any" = none
  b_enumerate : mg "enumerate" = none
  b_max : mg "max" = none
abbrev s_u_law_text : Stmt := topAt 17
abbrev N_u_law_text : List Str := ["draws", "words", "marks", "text", "k"]
theorem sc_u_law_text : FnScope N_u_law_text ["draws"] (defScope s_u_law_text) := ⟨rfl, rfl, rfl, by decide +kernel, rfl, by decide +kernel, by decide +kernel⟩
abbrev s_u_law_wish : Stmt := topAt 18
abbrev N_u_law_wish : List Str := ["draws", "deep", "words", "way", "parts", "k", "at"]
theorem sc_u_law_wish : FnScope N_u_law_wish ["draws", "deep"] (defScope s_u_law_wish) := ⟨rfl, rfl, rfl, by decide +kernel, rfl, by decide +kernel, by decide +kernel⟩
abbrev s_u_law_draws : Stmt := topAt 16
abbrev N_u_law_draws : List Str := ["cell", "many", "rows", "rest", "state", "k"]
theorem sc_u_law_draws : FnScope N_u_law_draws ["cell", "many"] (defScope s_u_law_draws) := ⟨rfl, rfl, rfl, by decide +kernel, rfl, by decide +kernel, by decide +kernel⟩
abbrev s_u_is_small : Stmt := topAt 5
abbrev N_u_is_small : List Str := ["sign"]
theorem sc_u_is_small : FnScope N_u_is_small ["sign"] (defScope s_u_is_small) := ⟨rfl, rfl, rfl, by decide +kernel, rfl, by decide +kernel, by decide +kernel⟩
abbrev s_is_word : Stmt := topAt 4
abbrev N_is_word : List Str := ["value"]
theorem sc_is_word : FnScope N_is_word ["value"] (defScope s_is_word) := ⟨rfl, rfl, rfl, by decide +kernel, rfl, by decide +kernel, by decide +kernel⟩
abbrev s_u_is_wish : Stmt := topAt 12
abbrev N_u_is_wish : List Str := ["value", "deep", "word", "what"]
theorem sc_u_is_wish : FnScope N_u_is_wish ["value", "deep"] (defScope s_u_is_wish) := ⟨rfl, rfl, rfl, by decide +kernel, rfl, by decide +kernel, by decide +kernel⟩
abbrev s_is_wish : Stmt := topAt 11
abbrev N_is_wish : List Str := ["value"]
theorem sc_is_wish : FnScope N_is_wish ["value"] (defScope s_is_wish) := ⟨rfl, rfl, rfl, by decide +kernel, rfl, by decide +kernel, by decide +kernel⟩
abbrev s_u_do_fulfil : Stmt := topAt 14
abbrev N_u_do_fulfil : List Str := ["words", "wish", "word", "what"]
theorem sc_u_do_fulfil : FnScope N_u_do_fulfil ["words", "wish"] (defScope s_u_do_fulfil) := ⟨rfl, rfl, rfl, by decide +kernel, rfl, by decide +kernel, by decide +kernel⟩
abbrev s_u_is_part : Stmt := topAt 6
abbrev N_u_is_part : List Str := ["sign"]
theorem sc_u_is_part : FnScope N_u_is_part ["sign"] (defScope s_u_is_part) := ⟨rfl, rfl, rfl, by decide +kernel, rfl, by decide +kernel, by decide +kernel⟩
abbrev s_all_words : Stmt := topAt 2
abbrev N_all_words : List Str := ["text", "signs", "sign"]
theorem sc_all_words : FnScope N_all_words ["text"] (defScope s_all_words) := ⟨rfl, rfl, rfl, by decide +kernel, rfl, by decide +kernel, by decide +kernel⟩
abbrev s_words_of : Stmt := topAt 3
abbrev N_words_of : List Str := ["text", "word"]
theorem sc_words_of : FnScope N_words_of ["text"] (defScope s_words_of) := ⟨rfl, rfl, rfl, by decide +kernel, rfl, by decide +kernel, by decide +kernel⟩
abbrev s_fulfils : Stmt := topAt 13
abbrev N_fulfils : List Str := ["text", "wish"]
theorem sc_fulfils : FnScope N_fulfils ["text", "wish"] (defScope s_fulfils) := ⟨rfl, rfl, rfl, by decide +kernel, rfl, by decide +kernel, by decide +kernel⟩
abbrev s_u_law_words : Stmt := topAt 19
abbrev N_u_law_words : List Str := ["text", "table", "sign", "k"]
theorem sc_u_law_words : FnScope N_u_law_words ["text"] (defScope s_u_law_words) := ⟨rfl, rfl, rfl, by decide +kernel, rfl, by decide +kernel, by decide +kernel⟩
abbrev s_u_law_fulfils : Stmt := topAt 20
abbrev N_u_law_fulfils : List Str := ["text", "wish", "told", "kind", "inner", "part", "word"]
theorem sc_u_law_fulfils : FnScope N_u_law_fulfils ["text", "wish"] (defScope s_u_law_fulfils) := ⟨rfl, rfl, rfl, by decide +kernel, rfl, by decide +kernel, by decide +kernel⟩
abbrev s_law : Stmt := topAt 21
abbrev N_law : List Str := ["script", "texts", "k", "cell", "wish", "text"]
theorem sc_law : FnScope N_law ["script"] (defScope s_law) := ⟨rfl, rfl, rfl, by decide +kernel, rfl, by decide +kernel, by decide +kernel⟩
def L_u_law_text_1 : XS := (mWipe [4] (mAsg 3 (mOp opAdd (mOp opAdd (mVar 3) (mOp opIx (mVar 1) (mOp opMod (mCall clInt (mCons (mOp opIx (mVar 0) (mOp opAdd (mC (.int 2)) (mVar 4))) mNil)) (mC (.int 12))))) (mOp opIx (mVar 2) (mOp opMod (mOp opDiv (mCall clInt (mCons (mOp opIx (mVar 0) (mOp opAdd (mC (.int 2)) (mVar 4))) mNil)) (mC (.int 12))) (mC (.int 8)))))))
def b_u_law_text : XS := (mSeq (mAsg 1 (mNew (mLst (mCons (mC (.str "old")) (mCons (mC (.str "mill")) (mCons (mC (.str "Old")) (mCons (mC (.str "te")) (mCons (mC (.str "tea")) (mCons (mC (.str "teal")) (mCons (mC (.str "x1")) (mCons (mC (.str "1")) (mCons (mC (.str "new")) (mCons (mC (.str "Mill")) (mCons (mC (.str "a")) (mCons (mC (.str "weir")) mNil)))))))))))))))
    (mSeq (mAsg 2 (mNew (mLst (mCons (mC (.str " ")) (mCons (mC (.str "-")) (mCons (mC (.str ", ")) (mCons (mC (.str ".")) (mCons (mC (.str "  ")) (mCons (mC (.str "")) (mCons (mC (.str "'")) (mCons (mC (.str "_")) mNil)))))))))))
    (mSeq (mAsg 3 (mIf (mTest (mOp opEq (mOp opMod (mCall clInt (mCons (mOp opIx (mVar 0) (mC (.int 0))) mNil)) (mC (.int 3))) (mC (.int 0)))) (mOp opIx (mVar 2) (mOp opMod (mCall clInt (mCons (mOp opIx (mVar 0) (mC (.int 0))) mNil)) (mC (.int 8)))) (mC (.str ""))))
    (mSeq (mWipe [4] (mFor (mRng1 (mCons (mOp opMod (mCall clInt (mCons (mOp opIx (mVar 0) (mC (.int 1))) mNil)) (mC (.int 5))) mNil)) (mgName 4) L_u_law_text_1))
    (mRet (mSl (mVar 3) mNoPart (mPart (mC (.int 40)))))))))
def m_u_law_text : List D → Option D := runM N_u_law_text b_u_law_text
def t_u_law_text (K : Fg) : TS := (tSeq (tAsg (tLst (tCons (tC (.str "old")) (tCons (tC (.str "mill")) (tCons (tC (.str "Old")) (tCons (tC (.str "te")) (tCons (tC (.str "tea")) (tCons (tC (.str "teal")) (tCons (tC (.str "x1")) (tCons (tC (.str "1")) (tCons (tC (.str "new")) (tCons (tC (.str "Mill")) (tCons (tC (.str "a")) (tCons (tC (.str "weir")) tNil))))))))))))) (gName 1))
    (tSeq (tAsg (tLst (tCons (tC (.str " ")) (tCons (tC (.str "-")) (tCons (tC (.str ", ")) (tCons (tC (.str ".")) (tCons (tC (.str "  ")) (tCons (tC (.str "")) (tCons (tC (.str "'")) (tCons (tC (.str "_")) tNil))))))))) (gName 2))
    (tSeq (tAsg (tIf (tTest (tOp (rEqD K) (tOp rModU (tCB rInt1U (tCons (tOp (rIx K) (tVar 0) (tC (.int 0))) tNil)) (tC (.int 3))) (tC (.int 0)))) (tOp (rIx K) (tVar 2) (tOp rModU (tCB rInt1U (tCons (tOp (rIx K) (tVar 0) (tC (.int 0))) tNil)) (tC (.int 8)))) (tC (.str ""))) (gName 3))
    (tSeq (tFor (iRng1 (tCons (tOp rModU (tCB rInt1U (tCons (tOp (rIx K) (tVar 0) (tC (.int 1))) tNil)) (tC (.int 5))) tNil)) (gName 4)
    (tAsg (tOp (rAddU K) (tOp (rAddU K) (tVar 3) (tOp (rIx K) (tVar 1) (tOp rModU (tCB rInt1U (tCons (tOp (rIx K) (tVar 0) (tOp (rAddU K) (tC (.int 2)) (tVar 4))) tNil)) (tC (.int 12))))) (tOp (rIx K) (tVar 2) (tOp rModU (tOp rDivU (tCB rInt1U (tCons (tOp (rIx K) (tVar 0) (tOp (rAddU K) (tC (.int 2)) (tVar 4))) tNil)) (tC (.int 12))) (tC (.int 8))))) (gName 3)))
    (tRet (tSl (rSlU K) (tVar 3) tNoPart (tPart (tC (.int 40)))))))))
theorem mir_u_law_text {K : Fg} (Z : Gk K) : MS K (t_u_law_text K) (b_u_law_text) := (ms_seq (ms_asg (me_new (mn_lst (ma_cons me_str (ma_cons me_str (ma_cons me_str (ma_cons me_str (ma_cons me_str (ma_cons me_str (ma_cons me_str (ma_cons me_str (ma_cons me_str (ma_cons me_str (ma_cons me_str (ma_cons me_str ma_nil)))))))))))))))
    (ms_seq (ms_asg (me_new (mn_lst (ma_cons me_str (ma_cons me_str (ma_cons me_str (ma_cons me_str (ma_cons me_str (ma_cons me_str (ma_cons me_str (ma_cons me_str ma_nil)))))))))))
    (ms_seq (ms_asg (me_if (mt_test (me_op mo_eq (me_op mo_mod (me_call mc_int (ma_cons (me_op mo_ix me_var me_int) ma_nil)) me_int) me_int)) (me_op mo_ix me_var (me_op mo_mod (me_call mc_int (ma_cons (me_op mo_ix me_var me_int) ma_nil)) me_int)) me_str))
    (ms_seq (ms_wipe (ms_for (mi_rng1 (ma_cons (me_op mo_mod (me_call mc_int (ma_cons (me_op mo_ix me_var me_int) ma_nil)) me_int) ma_nil)) mg_name
    (ms_wipe (ms_asg (me_op mo_add (me_op mo_add me_var (me_op mo_ix me_var (me_op mo_mod (me_call mc_int (ma_cons (me_op mo_ix me_var (me_op mo_add me_int me_var)) ma_nil)) me_int))) (me_op mo_ix me_var (me_op mo_mod (me_op mo_div (me_call mc_int (ma_cons (me_op mo_ix me_var (me_op mo_add me_int me_var)) ma_nil)) me_int) me_int)))))))
    (ms_ret (me_sl me_var mo_none (mo_some me_int)))))))
theorem der_u_law_text {P : Program} {K : Fg} {mg : Str → Option Value} {base : Heap} (G : Gb K mg) {f : Addr} (cdv : Value) (A : Around) (outer : List Env) (s : Shared) (H : Hp) (E : XK)
  (hr : Room 0 (A.deeper (envOfC "_law_text" (defScope s_u_law_text) s.heap.objs.size f cdv))) :
  PSs (cxOf CX0 P K.w K mg base N_u_law_text "_law_text" (defScope s_u_law_text) f cdv A outer s H E).nox (defBody s_u_law_text) (t_u_law_text K) :=
  (pss_cons (ps_set (i := 1) sc_u_law_text.nd rfl (by first | exact Or.inl rfl | exact Or.inr rfl) (pe_lst (pa_cons pe_str (pa_cons pe_str (pa_cons pe_str (pa_cons pe_str (pa_cons pe_str (pa_cons pe_str (pa_cons pe_str (pa_cons pe_str (pa_cons pe_str (pa_cons pe_str (pa_cons pe_str (pa_cons pe_str pa_nil))))))))))))))
    (pss_cons (ps_set (i := 2) sc_u_law_text.nd rfl (by first | exact Or.inl rfl | exact Or.inr rfl) (pe_lst (pa_cons pe_str (pa_cons pe_str (pa_cons pe_str (pa_cons pe_str (pa_cons pe_str (pa_cons pe_str (pa_cons pe_str (pa_cons pe_str pa_nil))))))))))
    (pss_cons (ps_set (i := 3) sc_u_law_text.nd rfl (by first | exact Or.inl rfl | exact Or.inr rfl) (pe_ifExp (pt_cmpR (op_eqU hr) (pe_op op_modU (pe_callTy ce_int (by rfl) G.b_int (by decide +kernel) (pa_cons (pe_ix ix_seq (pv 0) pe_int (fun _ _ => rfl)) pa_nil)) pe_int) pe_int (nomark _)) (pe_ix ix_seq (pv 2) (pe_op op_modU (pe_callTy ce_int (by rfl) G.b_int (by decide +kernel) (pa_cons (pe_ix ix_seq (pv 0) pe_int (fun _ _ => rfl)) pa_nil)) pe_int) (fun _ _ => rfl)) pe_str))
    (pss_cons (ps_for PassesOwn.never rfl (pi_range1 (by rfl) G.b_range (pa_cons (pe_op op_modU (pe_callTy ce_int (by rfl) G.b_int (by decide +kernel) (pa_cons (pe_ix ix_seq (pv 0) pe_int (fun _ _ => rfl)) pa_nil)) pe_int) pa_nil)) (pg_name (i := 4) sc_u_law_text.nd rfl (by first | exact Or.inl rfl | exact Or.inr rfl))
    (pss_one (ps_set (i := 3) sc_u_law_text.nd rfl (by first | exact Or.inl rfl | exact Or.inr rfl) (pe_op op_addU (pe_op op_addU (pv 3) (pe_ix ix_seq (pv 1) (pe_op op_modU (pe_callTy ce_int (by rfl) G.b_int (by decide +kernel) (pa_cons (pe_ix ix_seq (pv 0) (pe_op op_addU pe_int (pv 4)) (fun _ _ => rfl)) pa_nil)) pe_int) (fun _ _ => rfl))) (pe_ix ix_seq (pv 2) (pe_op op_modU (pe_op op_divU (pe_callTy ce_int (by rfl) G.b_int (by decide +kernel) (pa_cons (pe_ix ix_seq (pv 0) (pe_op op_addU pe_int (pv 4)) (fun _ _ => rfl)) pa_nil)) pe_int) pe_int) (fun _ _ => rfl))))))
    (pss_one (ps_ret (pe_slice sl_U (pv 3) po_none (po_some pe_int))))))))
theorem ok_u_law_text {P : Program} {K : Fg} {mg : Str → Option Value} {base : Heap} {f : Addr} {fd : FuncData} (F : Fun K "_law_text" "_law_text" s_u_law_text f fd) (G : Gb K mg) : FnOk P K.w K mg base CX0 (0 + 1) f fd ["draws"] (spD K (RM 1 m_u_law_text)) :=
  fnM F sc_u_law_text rfl fun cdv A outer s H E hr => ⟨_, der_u_law_text G  cdv A outer s H E hr, mir_u_law_text G.Z⟩
def L_u_law_wish_1 (mm : List D → Option D) : XS := (mWipe [5, 6] (mSeq (mAsg 6 (mOp opMod (mOp opAdd (mOp opMul (mC (.int 5)) (mVar 5)) (mC (.int 3))) (mCall clLen (mCons (mVar 0) mNil))))
    (mApp 4 (mFn 2 mm (mCons (mOp opAdd (mSl (mVar 0) (mPart (mVar 6)) mNoPart) (mSl (mVar 0) mNoPart (mPart (mVar 6)))) (mCons (mOp opSub (mVar 1) (mC (.int 1))) mNil))))))
def b_u_law_wish (mm : List D → Option D) : XS := (mSeq (mAsg 2 (mNew (mLst (mCons (mC (.str "old")) (mCons (mC (.str "mill")) (mCons (mC (.str "te")) (mCons (mC (.str "tea")) (mCons (mC (.str "x1")) (mCons (mC (.str "m")) (mCons (mC (.str "t")) (mCons (mC (.str "new")) (mCons (mC (.str "zz")) (mCons (mC (.str "1")) mNil)))))))))))))
    (mSeq (mAsg 3 (mOp opMod (mCall clInt (mCons (mOp opIx (mVar 0) (mC (.int 0))) mNil)) (mC (.int 7))))
    (mSeq (mIfS (mTOr (mTest (mOp opEq (mVar 1) (mC (.int 0)))) (mTest (mOp opLt (mVar 3) (mC (.int 2))))) (mRet (mTup (mCons (mC (.str "word")) (mCons (mOp opIx (mVar 2) (mOp opMod (mCall clInt (mCons (mOp opIx (mVar 0) (mC (.int 1))) mNil)) (mC (.int 10)))) mNil)))) mNext)
    (mSeq (mIfS (mTest (mOp opEq (mVar 3) (mC (.int 2)))) (mRet (mTup (mCons (mC (.str "begins")) (mCons (mOp opIx (mVar 2) (mOp opMod (mCall clInt (mCons (mOp opIx (mVar 0) (mC (.int 1))) mNil)) (mC (.int 10)))) mNil)))) mNext)
    (mSeq (mIfS (mTest (mOp opEq (mVar 3) (mC (.int 3)))) (mRet (mTup (mCons (mC (.str "none")) (mCons (mFn 2 mm (mCons (mOp opAdd (mSl (mVar 0) (mPart (mC (.int 2))) mNoPart) (mSl (mVar 0) mNoPart (mPart (mC (.int 2))))) (mCons (mOp opSub (mVar 1) (mC (.int 1))) mNil))) mNil)))) mNext)
    (mSeq (mAsgN 4 (mLst mNil))
    (mSeq (mWipe [5, 6] (mFor (mRng1 (mCons (mOp opAdd (mOp opAdd (mC (.int 2)) (mOp opMod (mCall clInt (mCons (mOp opIx (mVar 0) (mC (.int 1))) mNil)) (mC (.int 2)))) (mIf (mTest (mOp opEq (mOp opMod (mCall clInt (mCons (mOp opIx (mVar 0) (mC (.int 1))) mNil)) (mC (.int 11))) (mC (.int 10)))) (mC (.int 2)) (mC (.int 0)))) mNil)) (mgName 5) (L_u_law_wish_1 mm)))
    (mFrz 4 (mRet (mTup (mCons (mIf (mTest (mOp opLt (mVar 3) (mC (.int 6)))) (mC (.str "all")) (mC (.str "any"))) (mCons (mCall clTup (mCons (mVar 4) mNil)) mNil))))))))))))
def m_u_law_wish : Nat → List D → Option D
  | 0 => fun _ => none
  | n + 1 => runM N_u_law_wish (b_u_law_wish (m_u_law_wish n))
def t_u_law_wish (K : Fg) (mm : List D → Option D) : TS := (tSeq (tAsg (tLst (tCons (tC (.str "old")) (tCons (tC (.str "mill")) (tCons (tC (.str "te")) (tCons (tC (.str "tea")) (tCons (tC (.str "x1")) (tCons (tC (.str "m")) (tCons (tC (.str "t")) (tCons (tC (.str "new")) (tCons (tC (.str "zz")) (tCons (tC (.str "1")) tNil))))))))))) (gName 2))
    (tSeq (tAsg (tOp rModU (tCB rInt1U (tCons (tOp (rIx K) (tVar 0) (tC (.int 0))) tNil)) (tC (.int 7))) (gName 3))
    (tSeq (tIfS (tOr (tTest (tOp (rEqD K) (tVar 1) (tC (.int 0)))) (tTest (tOp (rLtU K) (tVar 3) (tC (.int 2))))) (tRet (tTup (tCons (tC (.str "word")) (tCons (tOp (rIx K) (tVar 2) (tOp rModU (tCB rInt1U (tCons (tOp (rIx K) (tVar 0) (tC (.int 1))) tNil)) (tC (.int 10)))) tNil)))) tNext)
    (tSeq (tIfS (tTest (tOp (rEqD K) (tVar 3) (tC (.int 2)))) (tRet (tTup (tCons (tC (.str "begins")) (tCons (tOp (rIx K) (tVar 2) (tOp rModU (tCB rInt1U (tCons (tOp (rIx K) (tVar 0) (tC (.int 1))) tNil)) (tC (.int 10)))) tNil)))) tNext)
    (tSeq (tIfS (tTest (tOp (rEqD K) (tVar 3) (tC (.int 3)))) (tRet (tTup (tCons (tC (.str "none")) (tCons (tFn K (RM 2 mm) (tCons (tOp (rAddU K) (tSl (rSlU K) (tVar 0) (tPart (tC (.int 2))) tNoPart) (tSl (rSlU K) (tVar 0) tNoPart (tPart (tC (.int 2))))) (tCons (tOp rSubU (tVar 1) (tC (.int 1))) tNil))) tNil)))) tNext)
    (tSeq (tAsg (tLst tNil) (gName 4))
    (tSeq (tFor (iRng1 (tCons (tOp (rAddU K) (tOp (rAddU K) (tC (.int 2)) (tOp rModU (tCB rInt1U (tCons (tOp (rIx K) (tVar 0) (tC (.int 1))) tNil)) (tC (.int 2)))) (tIf (tTest (tOp (rEqD K) (tOp rModU (tCB rInt1U (tCons (tOp (rIx K) (tVar 0) (tC (.int 1))) tNil)) (tC (.int 11))) (tC (.int 10)))) (tC (.int 2)) (tC (.int 0)))) tNil)) (gName 5)
    (tSeq (tAsg (tOp rModU (tOp (rAddU K) (tOp rMulU (tC (.int 5)) (tVar 5)) (tC (.int 3))) (tCB (rLenU K) (tCons (tVar 0) tNil))) (gName 6))
    (tDrop (tBM K "list" rAppend (tVar 4) (tCons (tFn K (RM 2 mm) (tCons (tOp (rAddU K) (tSl (rSlU K) (tVar 0) (tPart (tVar 6)) tNoPart) (tSl (rSlU K) (tVar 0) tNoPart (tPart (tVar 6)))) (tCons (tOp rSubU (tVar 1) (tC (.int 1))) tNil))) tNil)))))
    (tRet (tTup (tCons (tIf (tTest (tOp (rLtU K) (tVar 3) (tC (.int 6)))) (tC (.str "all")) (tC (.str "any"))) (tCons (tCB (rTupU K) (tCons (tVar 4) tNil)) tNil)))))))))))
theorem mir_u_law_wish {K : Fg} (Z : Gk K) (mm : List D → Option D) : MS K (t_u_law_wish K mm) (b_u_law_wish mm) := (ms_seq (ms_asg (me_new (mn_lst (ma_cons me_str (ma_cons me_str (ma_cons me_str (ma_cons me_str (ma_cons me_str (ma_cons me_str (ma_cons me_str (ma_cons me_str (ma_cons me_str (ma_cons me_str ma_nil)))))))))))))
    (ms_seq (ms_asg (me_op mo_mod (me_call mc_int (ma_cons (me_op mo_ix me_var me_int) ma_nil)) me_int))
    (ms_seq (ms_if (mt_or (mt_test (me_op mo_eq me_var me_int)) (mt_test (me_op mo_lt me_var me_int))) (ms_ret (me_tup (ma_cons me_str (ma_cons (me_op mo_ix me_var (me_op mo_mod (me_call mc_int (ma_cons (me_op mo_ix me_var me_int) ma_nil)) me_int)) ma_nil)))) ms_next)
    (ms_seq (ms_if (mt_test (me_op mo_eq me_var me_int)) (ms_ret (me_tup (ma_cons me_str (ma_cons (me_op mo_ix me_var (me_op mo_mod (me_call mc_int (ma_cons (me_op mo_ix me_var me_int) ma_nil)) me_int)) ma_nil)))) ms_next)
    (ms_seq (ms_if (mt_test (me_op mo_eq me_var me_int)) (ms_ret (me_tup (ma_cons me_str (ma_cons (me_fn (ma_cons (me_op mo_add (me_sl me_var (mo_some me_int) mo_none) (me_sl me_var mo_none (mo_some me_int))) (ma_cons (me_op mo_sub me_var me_int) ma_nil))) ma_nil)))) ms_next)
    (ms_seq (ms_asgN (mn_lst ma_nil))
    (ms_seq (ms_wipe (ms_for (mi_rng1 (ma_cons (me_op mo_add (me_op mo_add me_int (me_op mo_mod (me_call mc_int (ma_cons (me_op mo_ix me_var me_int) ma_nil)) me_int)) (me_if (mt_test (me_op mo_eq (me_op mo_mod (me_call mc_int (ma_cons (me_op mo_ix me_var me_int) ma_nil)) me_int) me_int)) me_int me_int)) ma_nil)) mg_name
    (ms_wipe (ms_seq (ms_asg (me_op mo_mod (me_op mo_add (me_op mo_mul me_int me_var) me_int) (me_call mc_len (ma_cons me_var ma_nil))))
    (ms_app (me_fn (ma_cons (me_op mo_add (me_sl me_var (mo_some me_var) mo_none) (me_sl me_var mo_none (mo_some me_var))) (ma_cons (me_op mo_sub me_var me_int) ma_nil))))))))
    (ms_frz (ms_ret (me_tup (ma_cons (me_if (mt_test (me_op mo_lt me_var me_int)) me_str me_str) (ma_cons (me_call mc_tup (ma_cons me_var ma_nil)) ma_nil))))))))))))
theorem der_u_law_wish {P : Program} {K : Fg} {mg : Str → Option Value} {base : Heap} {kk : Nat} (G : Gb K mg) (mm : List D → Option D) (c_u_law_wish : Cal P K.w K mg base "_law_wish" kk (RM 2 mm)) {f : Addr} (cdv : Value) (A : Around) (outer : List Env) (s : Shared) (H : Hp) (E : XK)
  (hr : Room (kk + 0) (A.deeper (envOfC "_law_wish" (defScope s_u_law_wish) s.heap.objs.size f cdv))) :
  PSs (cxOf CX0 P K.w K mg base N_u_law_wish "_law_wish" (defScope s_u_law_wish) f cdv A outer s H E).nox (defBody s_u_law_wish) (t_u_law_wish K mm) :=
  (pss_cons (ps_set (i := 2) sc_u_law_wish.nd rfl (by first | exact Or.inl rfl | exact Or.inr rfl) (pe_lst (pa_cons pe_str (pa_cons pe_str (pa_cons pe_str (pa_cons pe_str (pa_cons pe_str (pa_cons pe_str (pa_cons pe_str (pa_cons pe_str (pa_cons pe_str (pa_cons pe_str pa_nil))))))))))))
    (pss_cons (ps_set (i := 3) sc_u_law_wish.nd rfl (by first | exact Or.inl rfl | exact Or.inr rfl) (pe_op op_modU (pe_callTy ce_int (by rfl) G.b_int (by decide +kernel) (pa_cons (pe_ix ix_seq (pv 0) pe_int (fun _ _ => rfl)) pa_nil)) pe_int))
    (pss_cons (ps_if (PW.pt (pw_or (pt_cmpR (op_eqU hr) (pv 1) pe_int (nomark _)) (pw_or1 (pt_cmpR (op_ltU hr.units0) (pv 3) pe_int (nomark _))))) (pss_one (ps_ret (pe_tup (pa_cons pe_str (pa_cons (pe_ix ix_seq (pv 2) (pe_op op_modU (pe_callTy ce_int (by rfl) G.b_int (by decide +kernel) (pa_cons (pe_ix ix_seq (pv 0) pe_int (fun _ _ => rfl)) pa_nil)) pe_int) (fun _ _ => rfl)) pa_nil))))) pss_nil)
    (pss_cons (ps_if (pt_cmpR (op_eqU hr) (pv 3) pe_int (nomark _)) (pss_one (ps_ret (pe_tup (pa_cons pe_str (pa_cons (pe_ix ix_seq (pv 2) (pe_op op_modU (pe_callTy ce_int (by rfl) G.b_int (by decide +kernel) (pa_cons (pe_ix ix_seq (pv 0) pe_int (fun _ _ => rfl)) pa_nil)) pe_int) (fun _ _ => rfl)) pa_nil))))) pss_nil)
    (pss_cons (ps_if (pt_cmpR (op_eqU hr) (pv 3) pe_int (nomark _)) (pss_one (ps_ret (pe_tup (pa_cons pe_str (pa_cons (pe_fun c_u_law_wish hr (by rfl) (pa_cons (pe_op op_addU (pe_slice sl_U (pv 0) (po_some pe_int) po_none) (pe_slice sl_U (pv 0) po_none (po_some pe_int))) (pa_cons (pe_op op_subU (pv 1) pe_int) pa_nil)) (by omega)) pa_nil))))) pss_nil)
    (pss_cons (ps_set (i := 4) sc_u_law_wish.nd rfl (by first | exact Or.inl rfl | exact Or.inr rfl) (pe_lst pa_nil))
    (pss_cons (ps_for PassesOwn.never rfl (pi_range1 (by rfl) G.b_range (pa_cons (pe_op op_addU (pe_op op_addU pe_int (pe_op op_modU (pe_callTy ce_int (by rfl) G.b_int (by decide +kernel) (pa_cons (pe_ix ix_seq (pv 0) pe_int (fun _ _ => rfl)) pa_nil)) pe_int)) (pe_ifExp (pt_cmpR (op_eqU hr) (pe_op op_modU (pe_callTy ce_int (by rfl) G.b_int (by decide +kernel) (pa_cons (pe_ix ix_seq (pv 0) pe_int (fun _ _ => rfl)) pa_nil)) pe_int) pe_int (nomark _)) pe_int pe_int)) pa_nil)) (pg_name (i := 5) sc_u_law_wish.nd rfl (by first | exact Or.inl rfl | exact Or.inr rfl))
    (pss_cons (ps_set (i := 6) sc_u_law_wish.nd rfl (by first | exact Or.inl rfl | exact Or.inr rfl) (pe_op op_modU (pe_op op_addU (pe_op op_mulU pe_int (pv 5)) pe_int) (pe_callB ce_len (by rfl) G.b_len (by decide +kernel) (pa_cons (pv 0) pa_nil))))
    (pss_one (ps_expr (pe_bm PySem.F.plainAttrs_list PySem.F.slot_list_append PySem.F.type_list_append mt_append (pv 4) (pa_cons (pe_fun c_u_law_wish hr (by rfl) (pa_cons (pe_op op_addU (pe_slice sl_U (pv 0) (po_some (pv 6)) po_none) (pe_slice sl_U (pv 0) po_none (po_some (pv 6)))) (pa_cons (pe_op op_subU (pv 1) pe_int) pa_nil)) (by omega)) pa_nil))))))
    (pss_one (ps_ret (pe_tup (pa_cons (pe_ifExp (pt_cmpR (op_ltU hr.units0) (pv 3) pe_int (nomark _)) pe_str pe_str) (pa_cons (pe_callTy ce_tup (by rfl) G.b_tuple (by decide +kernel) (pa_cons (pv 4) pa_nil)) pa_nil))))))))))))
theorem ok_u_law_wish {P : Program} {K : Fg} {mg : Str → Option Value} {base : Heap} {kk : Nat} {f : Addr} {fd : FuncData} (F : Fun K "_law_wish" "_law_wish" s_u_law_wish f fd) (G : Gb K mg) (mm : List D → Option D) (c_u_law_wish : Cal P K.w K mg base "_law_wish" kk (RM 2 mm)) : FnOk P K.w K mg base CX0 ((kk + 0) + 1) f fd ["draws", "deep"] (spD K (RM 2 (runM N_u_law_wish (b_u_law_wish mm)))) :=
  fnM F sc_u_law_wish rfl fun cdv A outer s H E hr => ⟨_, der_u_law_wish G mm c_u_law_wish cdv A outer s H E hr, mir_u_law_wish G.Z mm⟩
theorem cal_u_law_wish {P : Program} {K : Fg} {mg : Str → Option Value} {base : Heap} {f : Addr} {fd : FuncData} (F : Fun K "_law_wish" "_law_wish" s_u_law_wish f fd) (G : Gb K mg) (hm : mg "_law_wish" = some (.ref f)) (hk : PySem.W.keepIn K (.ref f) = true) (hb : Binds K fd ["draws", "deep"] []) : ∀ d : Nat, Cal P K.w K mg base "_law_wish" (1 + d * 1) (RM 2 (m_u_law_wish d))
  | 0 => ⟨f, fd, ["draws", "deep"], fn_none, hm, hk, hb⟩
  | d + 1 => ⟨f, fd, ["draws", "deep"], (ok_u_law_wish (kk := 1 + d * 1) F G (m_u_law_wish d) (cal_u_law_wish F G hm hk hb d)).mono (by omega), hm, hk, hb⟩
def L_u_law_draws_1 : XS := (mWipe [5] (mSeq (mAsg 4 (mOp opMod (mCall clInt (mCons (mOp opAdd (mOp opAdd (mOp opMul (mVar 4) (mC (.int 48271))) (mOp opMul (mVar 5) (mC (.int 69621)))) (mC (.int 7))) mNil)) (mC (.int 2147483647))))
    (mIfS (mBorT 2 (mTest (mOp opLt (mCall clLen (mCons (mVar 2) mNil)) (mVar 1)))) (mApp 2 (mOp opMod (mCall clInt (mCons (mOp opMod (mCall clInt (mCons (mOp opAdd (mOp opMul (mVar 4) (mC (.int 69621))) (mC (.int 5))) mNil)) (mC (.int 2147483629))) mNil)) (mC (.int 1000)))) mNext)))
def L_u_law_draws_2 : XS := (mWipe [5] (mIfS (mTest (mOp opGt (mVar 3) (mC (.int 0)))) (mSeq (mApp 2 (mOp opMod (mCall clInt (mCons (mVar 3) mNil)) (mC (.int 1000))))
    (mAsg 3 (mOp opDiv (mVar 3) (mC (.int 1000))))) mNext))
def b_u_law_draws : XS := (mSeq (mAsgN 2 (mLst mNil))
    (mSeq (mAsg 3 (mCall clInt (mCons (mVar 0) mNil)))
    (mSeq (mIfS (mTest (mOp opGe (mVar 3) (mOp opPow (mC (.int 10)) (mC (.int 18))))) (mWipe [3, 5] (mFor (mRng1 (mCons (mVar 1) mNil)) (mgName 5) L_u_law_draws_2)) mNext)
    (mSeq (mAsg 4 (mOp opMod (mCall clInt (mCons (mOp opAdd (mOp opMul (mCall clInt (mCons (mVar 0) mNil)) (mC (.int 48271))) (mC (.int 11))) mNil)) (mC (.int 2147483647))))
    (mSeq (mWipe [4, 5] (mFor (mRng1 (mCons (mVar 1) mNil)) (mgName 5) L_u_law_draws_1))
    (mFrz 2 (mRet (mVar 2))))))))
def m_u_law_draws : List D → Option D := runM N_u_law_draws b_u_law_draws
def t_u_law_draws (K : Fg) : TS := (tSeq (tAsg (tLst tNil) (gName 2))
    (tSeq (tAsg (tCB rInt1U (tCons (tVar 0) tNil)) (gName 3))
    (tSeq (tIfS (tTest (tOp rGeU (tVar 3) (tOp rPowU (tC (.int 10)) (tC (.int 18))))) (tFor (iRng1 (tCons (tVar 1) tNil)) (gName 5)
    (tIfS (tTest (tOp rGtU (tVar 3) (tC (.int 0)))) (tSeq (tDrop (tBM K "list" rAppend (tVar 2) (tCons (tOp rModU (tCB rInt1U (tCons (tVar 3) tNil)) (tC (.int 1000))) tNil)))
    (tAsg (tOp rDivU (tVar 3) (tC (.int 1000))) (gName 3))) tNext)) tNext)
    (tSeq (tAsg (tOp rModU (tCB rInt1U (tCons (tOp (rAddU K) (tOp rMulU (tCB rInt1U (tCons (tVar 0) tNil)) (tC (.int 48271))) (tC (.int 11))) tNil)) (tC (.int 2147483647))) (gName 4))
    (tSeq (tFor (iRng1 (tCons (tVar 1) tNil)) (gName 5)
    (tSeq (tAsg (tOp rModU (tCB rInt1U (tCons (tOp (rAddU K) (tOp (rAddU K) (tOp rMulU (tVar 4) (tC (.int 48271))) (tOp rMulU (tVar 5) (tC (.int 69621)))) (tC (.int 7))) tNil)) (tC (.int 2147483647))) (gName 4))
    (tIfS (tTest (tOp (rLtU K) (tCB (rLenU K) (tCons (tVar 2) tNil)) (tVar 1))) (tDrop (tBM K "list" rAppend (tVar 2) (tCons (tOp rModU (tCB rInt1U (tCons (tOp rModU (tCB rInt1U (tCons (tOp (rAddU K) (tOp rMulU (tVar 4) (tC (.int 69621))) (tC (.int 5))) tNil)) (tC (.int 2147483629))) tNil)) (tC (.int 1000))) tNil))) tNext)))
    (tRet (tVar 2)))))))
theorem mir_u_law_draws {K : Fg} (Z : Gk K) : MS K (t_u_law_draws K) (b_u_law_draws) := (ms_seq (ms_asgN (mn_lst ma_nil))
    (ms_seq (ms_asg (me_call mc_int (ma_cons me_var ma_nil)))
    (ms_seq (ms_if (mt_test (me_op mo_ge me_var (me_op mo_pow me_int me_int))) (ms_wipe (ms_for (mi_rng1 (ma_cons me_var ma_nil)) mg_name
    (ms_wipe (ms_if (mt_test (me_op mo_gt me_var me_int)) (ms_seq (ms_app (me_op mo_mod (me_call mc_int (ma_cons me_var ma_nil)) me_int))
    (ms_asg (me_op mo_div me_var me_int))) ms_next)))) ms_next)
    (ms_seq (ms_asg (me_op mo_mod (me_call mc_int (ma_cons (me_op mo_add (me_op mo_mul (me_call mc_int (ma_cons me_var ma_nil)) me_int) me_int) ma_nil)) me_int))
    (ms_seq (ms_wipe (ms_for (mi_rng1 (ma_cons me_var ma_nil)) mg_name
    (ms_wipe (ms_seq (ms_asg (me_op mo_mod (me_call mc_int (ma_cons (me_op mo_add (me_op mo_add (me_op mo_mul me_var me_int) (me_op mo_mul me_var me_int)) me_int) ma_nil)) me_int))
    (ms_if (mt_bor (mt_test (me_op mo_lt (me_call mc_len (ma_cons me_var ma_nil)) me_var))) (ms_app (me_op mo_mod (me_call mc_int (ma_cons (me_op mo_mod (me_call mc_int (ma_cons (me_op mo_add (me_op mo_mul me_var me_int) me_int) ma_nil)) me_int) ma_nil)) me_int)) ms_next)))))
    (ms_frz (ms_ret me_var)))))))
theorem der_u_law_draws {P : Program} {K : Fg} {mg : Str → Option Value} {base : Heap} (G : Gb K mg) {f : Addr} (cdv : Value) (A : Around) (outer : List Env) (s : Shared) (H : Hp) (E : XK)
  (hr : Room 0 (A.deeper (envOfC "_law_draws" (defScope s_u_law_draws) s.heap.objs.size f cdv))) :
  PSs (cxOf CX0 P K.w K mg base N_u_law_draws "_law_draws" (defScope s_u_law_draws) f cdv A outer s H E).nox (defBody s_u_law_draws) (t_u_law_draws K) :=
  (pss_cons (ps_set (i := 2) sc_u_law_draws.nd rfl (by first | exact Or.inl rfl | exact Or.inr rfl) (pe_lst pa_nil))
    (pss_cons (ps_set (i := 3) sc_u_law_draws.nd rfl (by first | exact Or.inl rfl | exact Or.inr rfl) (pe_callTy ce_int (by rfl) G.b_int (by decide +kernel) (pa_cons (pv 0) pa_nil)))
    (pss_cons (ps_if (pt_cmpR op_geU (pv 3) (pe_op op_powU pe_int pe_int) (nomark _)) (pss_one (ps_for PassesOwn.never rfl (pi_range1 (by rfl) G.b_range (pa_cons (pv 1) pa_nil)) (pg_name (i := 5) sc_u_law_draws.nd rfl (by first | exact Or.inl rfl | exact Or.inr rfl))
    (pss_one (ps_if (pt_cmpR op_gtU (pv 3) pe_int (nomark _)) (pss_cons (ps_expr (pe_bm PySem.F.plainAttrs_list PySem.F.slot_list_append PySem.F.type_list_append mt_append (pv 2) (pa_cons (pe_op op_modU (pe_callTy ce_int (by rfl) G.b_int (by decide +kernel) (pa_cons (pv 3) pa_nil)) pe_int) pa_nil)))
    (pss_one (ps_set (i := 3) sc_u_law_draws.nd rfl (by first | exact Or.inl rfl | exact Or.inr rfl) (pe_op op_divU (pv 3) pe_int)))) pss_nil)))) pss_nil)
    (pss_cons (ps_set (i := 4) sc_u_law_draws.nd rfl (by first | exact Or.inl rfl | exact Or.inr rfl) (pe_op op_modU (pe_callTy ce_int (by rfl) G.b_int (by decide +kernel) (pa_cons (pe_op op_addU (pe_op op_mulU (pe_callTy ce_int (by rfl) G.b_int (by decide +kernel) (pa_cons (pv 0) pa_nil)) pe_int) pe_int) pa_nil)) pe_int))
    (pss_cons (ps_for PassesOwn.never rfl (pi_range1 (by rfl) G.b_range (pa_cons (pv 1) pa_nil)) (pg_name (i := 5) sc_u_law_draws.nd rfl (by first | exact Or.inl rfl | exact Or.inr rfl))
    (pss_cons (ps_set (i := 4) sc_u_law_draws.nd rfl (by first | exact Or.inl rfl | exact Or.inr rfl) (pe_op op_modU (pe_callTy ce_int (by rfl) G.b_int (by decide +kernel) (pa_cons (pe_op op_addU (pe_op op_addU (pe_op op_mulU (pv 4) pe_int) (pe_op op_mulU (pv 5) pe_int)) pe_int) pa_nil)) pe_int))
    (pss_one (ps_if (pt_cmpR (op_ltU hr.units0) (pe_callB ce_len (by rfl) G.b_len (by decide +kernel) (pa_cons (pv 2) pa_nil)) (pv 1) (nomark _)) (pss_one (ps_expr (pe_bm PySem.F.plainAttrs_list PySem.F.slot_list_append PySem.F.type_list_append mt_append (pv 2) (pa_cons (pe_op op_modU (pe_callTy ce_int (by rfl) G.b_int (by decide +kernel) (pa_cons (pe_op op_modU (pe_callTy ce_int (by rfl) G.b_int (by decide +kernel) (pa_cons (pe_op op_addU (pe_op op_mulU (pv 4) pe_int) pe_int) pa_nil)) pe_int) pa_nil)) pe_int) pa_nil)))) pss_nil))))
    (pss_one (ps_ret (pv 2))))))))
theorem ok_u_law_draws {P : Program} {K : Fg} {mg : Str → Option Value} {base : Heap} {f : Addr} {fd : FuncData} (F : Fun K "_law_draws" "_law_draws" s_u_law_draws f fd) (G : Gb K mg) : FnOk P K.w K mg base CX0 (0 + 1) f fd ["cell", "many"] (spD K (RM 2 m_u_law_draws)) :=
  fnM F sc_u_law_draws rfl fun cdv A outer s H E hr => ⟨_, der_u_law_draws G  cdv A outer s H E hr, mir_u_law_draws G.Z⟩
def b_u_is_small : XS := (mRet (mOr (mChain opLe opLe (mC (.str "a")) (mVar 0) (mC (.str "z"))) (mChain opLe opLe (mC (.str "0")) (mVar 0) (mC (.str "9")))))
def m_u_is_small : List D → Option D := runM N_u_is_small b_u_is_small
def t_u_is_small (K : Fg) : TS := (tRet (tOrV (tChain (rLeU K) (rLeU K) (tC (.str "a")) (tVar 0) (tC (.str "z"))) (tChain (rLeU K) (rLeU K) (tC (.str "0")) (tVar 0) (tC (.str "9")))))
theorem mir_u_is_small {K : Fg} (Z : Gk K) : MS K (t_u_is_small K) (b_u_is_small) := (ms_ret (me_or (me_chain rdm_le rdm_le me_str me_var me_str) (me_chain rdm_le rdm_le me_str me_var me_str)))
theorem der_u_is_small {P : Program} {K : Fg} {mg : Str → Option Value} {base : Heap} (G : Gb K mg) {f : Addr} (cdv : Value) (A : Around) (outer : List Env) (s : Shared) (H : Hp) (E : XK)
  (hr : Room 0 (A.deeper (envOfC "_is_small" (defScope s_u_is_small) s.heap.objs.size f cdv))) :
  PSs (cxOf CX0 P K.w K mg base N_u_is_small "_is_small" (defScope s_u_is_small) f cdv A outer s H E).nox (defBody s_u_is_small) (t_u_is_small K) :=
  (pss_one (ps_ret (pe_or (pe_chain (op_leU hr.units0) (op_leU hr.units0) pe_str (pv 0) pe_str) (pe_one (pe_chain (op_leU hr.units0) (op_leU hr.units0) pe_str (pv 0) pe_str)))))
theorem ok_u_is_small {P : Program} {K : Fg} {mg : Str → Option Value} {base : Heap} {f : Addr} {fd : FuncData} (F : Fun K "_is_small" "_is_small" s_u_is_small f fd) (G : Gb K mg) : FnOk P K.w K mg base CX0 (0 + 1) f fd ["sign"] (spD K (RM 1 m_u_is_small)) :=
  fnM F sc_u_is_small rfl fun cdv A outer s H E hr => ⟨_, der_u_is_small G  cdv A outer s H E hr, mir_u_is_small G.Z⟩
def E_is_word_1 : XE := (mFn 1 m_u_is_small (mCons (mVar 0) mNil))
def b_is_word : XS := (mSeq (mIfS (mTOr (mTNot (mTru (mIsi "str" (mVar 0)))) (mTest (mOp opEq (mVar 0) (mC (.str ""))))) (mRet (mC (.bool false))) mNext)
    (mRet (mAllC 1 [] (mItS (mVar 0)) (mgName 0) E_is_word_1)))
def m_is_word : List D → Option D := runM N_is_word b_is_word
def t_is_word (K : Fg) (PT : Addr) : TS := (tSeq (tIfS (tOr (tNot (tTruU K (tCB (rIsi K) (tCons (tVar 0) (tCons (tC (.ty "str")) tNil))))) (tTest (tOp (rEqD K) (tVar 0) (tC (.str ""))))) (tRet (tC (.bl false))) tNext)
    (tRet (GJ.tAllC PT 1 [] (iStr (tVar 0)) (gName 0) (tFn K (RM 1 m_u_is_small) (tCons (tVar 0) tNil)))))
theorem mir_is_word {K : Fg} (Z : Gk K) {PT : Addr} (hT : K.T PT) : MS K (t_is_word K PT) (b_is_word) := (ms_seq (ms_if (mt_or (mt_not (mt_tru (me_isi me_var))) (mt_test (me_op mo_eq me_var me_str))) (ms_ret me_bl) ms_next)
    (ms_ret (me_allC hT (mi_str me_var) mg_name (me_fn (ma_cons me_var ma_nil)) (on_name (by decide)))))
theorem der_is_word {P : Program} {K : Fg} {mg : Str → Option Value} {base : Heap} (G : Gb K mg) (c_u_is_small : Cal P K.w K mg base "_is_small" 1 (RM 1 m_u_is_small)) {f c PT : Addr} (TB : GxR.TabB base mg c PT) (A : Around) (outer : List Env) (s : Shared) (H : Hp) (E : XK)
  (hr : Room 3 (A.deeper (envOfC "is_word" (defScope s_is_word) s.heap.objs.size f (.ref c)))) :
  PSs (cxOf CX0 P K.w K mg base N_is_word "is_word" (defScope s_is_word) f (.ref c) A outer s H E).nox (defBody s_is_word) (t_is_word K PT) :=
  (pss_cons (ps_if (PW.pt (pw_or (pt_not (pt_tru (pe_callB call_isi (by rfl) G.b_isinstance (by decide +kernel) (pa_cons (pv 0) (pa_cons (pe_bltn (v := .ty "str") (by rfl) G.b_str (by decide +kernel) rfl) pa_nil))))) (pw_or1 (pt_cmpR (op_eqU hr) (pv 0) pe_str (nomark _))))) (pss_one (ps_ret pe_bl)) pss_nil)
    (pss_one (ps_ret (GJ.pe_allC (tN := (["sign"] : List Str)) (fr := ([] : List Str)) (js := []) hr (by rfl) G.b_all (by rfl) TB rfl ⟨by rfl, by rfl, by decide +kernel, by rfl⟩ (capOk_ok (f := defScope s_is_word) (by decide +kernel)) (by decide +kernel) (by decide +kernel) (by rfl) (pi_str (pv 0)) (fun _ _ _ _ _ => (pg_name (i := 0) (show (["sign"] : List Str).Nodup from by decide +kernel) rfl (by first | exact Or.inl rfl | exact Or.inr rfl))) (fun _ _ _ _ _ hr => (pe_fun c_u_is_small hr (by rfl) (pa_cons (pv 0) pa_nil))) (fun _ => rfl)))))
theorem ok_is_word {P : Program} {K : Fg} {mg : Str → Option Value} {base : Heap} {f c PT : Addr} {fd : FuncData} (F : FunC K "is_word" "is_word" s_is_word f fd c) (G : Gb K mg) (TB : GxR.TabB base mg c PT) (hT : K.T PT) (c_u_is_small : Cal P K.w K mg base "_is_small" 1 (RM 1 m_u_is_small)) : FnOk P K.w K mg base CX0 (3 + 1) f fd ["value"] (spD K (RM 1 m_is_word)) :=
  fnMc F sc_is_word rfl fun A outer s H E hr => ⟨_, der_is_word G c_u_is_small TB A outer s H E hr, mir_is_word G.Z hT⟩
def E_u_is_wish_1 (mm : List D → Option D) : XE := (mFn 2 mm (mCons (mVar 0) (mCons (mOp opSub (mVar 1) (mC (.int 1))) mNil)))
def b_u_is_wish (mm : List D → Option D) : XS := (mSeq (mIfS (mTOr (mTest (mOp opEq (mVar 1) (mC (.int 0)))) (mTOr (mTNot (mTru (mIsi "tuple" (mVar 0)))) (mTOr (mTest (mOp opNe (mCall clLen (mCons (mVar 0) mNil)) (mC (.int 2)))) (mTNot (mTru (mIsi "str" (mOp opIx (mVar 0) (mC (.int 0))))))))) (mRet (mC (.bool false))) mNext)
    (mSeq (mAsgG (mgTup 2 (mgCons (mgName 2) (mgCons (mgName 3) mgNil))) (mVar 0))
    (mSeq (mIfS (mTest (mOp (opIn false) (mVar 2) (mTup (mCons (mC (.str "word")) (mCons (mC (.str "begins")) mNil))))) (mRet (mAnd (mFn 1 m_is_word (mCons (mVar 3) mNil)) (mOp opLe (mCall clLen (mCons (mVar 3) mNil)) (mC (.int 40))))) mNext)
    (mSeq (mIfS (mTest (mOp opEq (mVar 2) (mC (.str "none")))) (mRet (mFn 2 mm (mCons (mVar 3) (mCons (mOp opSub (mVar 1) (mC (.int 1))) mNil)))) mNext)
    (mSeq (mIfS (mTOr (mTest (mOp (opIn true) (mVar 2) (mTup (mCons (mC (.str "all")) (mCons (mC (.str "any")) mNil))))) (mTNot (mTru (mIsi "tuple" (mVar 3))))) (mRet (mC (.bool false))) mNext)
    (mRet (mAnd (mChain opLe opLe (mC (.int 2)) (mCall clLen (mCons (mVar 3) mNil)) (mC (.int 6))) (mAllC 1 [1] (mItT (mVar 3)) (mgName 0) (E_u_is_wish_1 mm)))))))))
def m_u_is_wish : Nat → List D → Option D
  | 0 => fun _ => none
  | n + 1 => runM N_u_is_wish (b_u_is_wish (m_u_is_wish n))
def t_u_is_wish (K : Fg) (PT : Addr) (mm : List D → Option D) : TS := (tSeq (tIfS (tOr (tTest (tOp (rEqD K) (tVar 1) (tC (.int 0)))) (tOr (tNot (tTruU K (tCB (rIsi K) (tCons (tVar 0) (tCons (tC (.ty "tuple")) tNil))))) (tOr (tTest (tOp (rNeD K) (tCB (rLenU K) (tCons (tVar 0) tNil)) (tC (.int 2)))) (tNot (tTruU K (tCB (rIsi K) (tCons (tOp (rIx K) (tVar 0) (tC (.int 0))) (tCons (tC (.ty "str")) tNil)))))))) (tRet (tC (.bl false))) tNext)
    (tSeq (tAsg (tVar 0) (gTup K 2 (gCons (gName 2) (gCons (gName 3) gNil))))
    (tSeq (tIfS (tTest (tOp (rInU K) (tVar 2) (tTup (tCons (tC (.str "word")) (tCons (tC (.str "begins")) tNil))))) (tRet (tAndV (tFn K (RM 1 m_is_word) (tCons (tVar 3) tNil)) (tOp (rLeU K) (tCB (rLenU K) (tCons (tVar 3) tNil)) (tC (.int 40))))) tNext)
    (tSeq (tIfS (tTest (tOp (rEqD K) (tVar 2) (tC (.str "none")))) (tRet (tFn K (RM 2 mm) (tCons (tVar 3) (tCons (tOp rSubU (tVar 1) (tC (.int 1))) tNil)))) tNext)
    (tSeq (tIfS (tOr (tTest (tOp (rNotInU K) (tVar 2) (tTup (tCons (tC (.str "all")) (tCons (tC (.str "any")) tNil))))) (tNot (tTruU K (tCB (rIsi K) (tCons (tVar 3) (tCons (tC (.ty "tuple")) tNil)))))) (tRet (tC (.bl false))) tNext)
    (tRet (tAndV (tChain (rLeU K) (rLeU K) (tC (.int 2)) (tCB (rLenU K) (tCons (tVar 3) tNil)) (tC (.int 6))) (GJ.tAllC PT 1 [1] (iTup K (tVar 3)) (gName 0) (tFn K (RM 2 mm) (tCons (tVar 0) (tCons (tOp rSubU (tVar 1) (tC (.int 1))) tNil)))))))))))
theorem mir_u_is_wish {K : Fg} (Z : Gk K) {PT : Addr} (hT : K.T PT) (mm : List D → Option D) : MS K (t_u_is_wish K PT mm) (b_u_is_wish mm) := (ms_seq (ms_if (mt_or (mt_test (me_op mo_eq me_var me_int)) (mt_or (mt_not (mt_tru (me_isi me_var))) (mt_or (mt_test (me_op mo_ne (me_call mc_len (ma_cons me_var ma_nil)) me_int)) (mt_not (mt_tru (me_isi (me_op mo_ix me_var me_int))))))) (ms_ret me_bl) ms_next)
    (ms_seq (ms_asgG me_var (mg_tup (mgs_cons mg_name (mgs_cons mg_name mgs_nil))))
    (ms_seq (ms_if (mt_test (me_op mo_in me_var (me_tup (ma_cons me_str (ma_cons me_str ma_nil))))) (ms_ret (me_and (me_fn (ma_cons me_var ma_nil)) (me_op mo_le (me_call mc_len (ma_cons me_var ma_nil)) me_int))) ms_next)
    (ms_seq (ms_if (mt_test (me_op mo_eq me_var me_str)) (ms_ret (me_fn (ma_cons me_var (ma_cons (me_op mo_sub me_var me_int) ma_nil)))) ms_next)
    (ms_seq (ms_if (mt_or (mt_test (me_op mo_notIn me_var (me_tup (ma_cons me_str (ma_cons me_str ma_nil))))) (mt_not (mt_tru (me_isi me_var)))) (ms_ret me_bl) ms_next)
    (ms_ret (me_and (me_chain rdm_le rdm_le me_int (me_call mc_len (ma_cons me_var ma_nil)) me_int) (me_allC hT (mi_tup me_var) mg_name (me_fn (ma_cons me_var (ma_cons (me_op mo_sub me_var me_int) ma_nil))) (on_name (by decide))))))))))
theorem der_u_is_wish {P : Program} {K : Fg} {mg : Str → Option Value} {base : Heap} {kk : Nat} (G : Gb K mg) (mm : List D → Option D) (c_u_is_wish : Cal P K.w K mg base "_is_wish" kk (RM 2 mm)) (c_is_word : Cal P K.w K mg base "is_word" 4 (RM 1 m_is_word)) {f c PT : Addr} (TB : GxR.TabB base mg c PT) (A : Around) (outer : List Env) (s : Shared) (H : Hp) (E : XK)
  (hr : Room (kk + 6) (A.deeper (envOfC "_is_wish" (defScope s_u_is_wish) s.heap.objs.size f (.ref c)))) :
  PSs (cxOf CX0 P K.w K mg base N_u_is_wish "_is_wish" (defScope s_u_is_wish) f (.ref c) A outer s H E).nox (defBody s_u_is_wish) (t_u_is_wish K PT mm) :=
  (pss_cons (ps_if (PW.pt (pw_or (pt_cmpR (op_eqU hr) (pv 1) pe_int (nomark _)) (pw_or (pt_not (pt_tru (pe_callB call_isi (by rfl) G.b_isinstance (by decide +kernel) (pa_cons (pv 0) (pa_cons (pe_bltn (v := .ty "tuple") (by rfl) G.b_tuple (by decide +kernel) rfl) pa_nil))))) (pw_or (pt_cmpR (op_neU hr) (pe_callB ce_len (by rfl) G.b_len (by decide +kernel) (pa_cons (pv 0) pa_nil)) pe_int (nomark _)) (pw_or1 (pt_not (pt_tru (pe_callB call_isi (by rfl) G.b_isinstance (by decide +kernel) (pa_cons (pe_ix ix_seq (pv 0) pe_int (fun _ _ => rfl)) (pa_cons (pe_bltn (v := .ty "str") (by rfl) G.b_str (by decide +kernel) rfl) pa_nil)))))))))) (pss_one (ps_ret pe_bl)) pss_nil)
    (pss_cons (ps_asg (pv 0) (pg_tup rfl (pgs_cons (pg_name (i := 2) sc_u_is_wish.nd rfl (by first | exact Or.inl rfl | exact Or.inr rfl)) (pgs_cons (pg_name (i := 3) sc_u_is_wish.nd rfl (by first | exact Or.inl rfl | exact Or.inr rfl)) pgs_nil))))
    (pss_cons (ps_if (pt_cmpR (op_inU hr) (pv 2) (pe_tup (pa_cons pe_str (pa_cons pe_str pa_nil))) (by with_unfolding_all rfl)) (pss_one (ps_ret (pe_and (pe_fun c_is_word hr (by rfl) (pa_cons (pv 3) pa_nil) (by omega)) (pe_one (pe_cmpR (op_leU hr.units0) (pe_callB ce_len (by rfl) G.b_len (by decide +kernel) (pa_cons (pv 3) pa_nil)) (pe_gi (by rfl) G.g_LONGEST) (nomark _)))))) pss_nil)
    (pss_cons (ps_if (pt_cmpR (op_eqU hr) (pv 2) pe_str (nomark _)) (pss_one (ps_ret (pe_fun c_u_is_wish hr (by rfl) (pa_cons (pv 3) (pa_cons (pe_op op_subU (pv 1) pe_int) pa_nil)) (by omega)))) pss_nil)
    (pss_cons (ps_if (PW.pt (pw_or (pt_cmpR (op_notInU hr) (pv 2) (pe_tup (pa_cons pe_str (pa_cons pe_str pa_nil))) (by with_unfolding_all rfl)) (pw_or1 (pt_not (pt_tru (pe_callB call_isi (by rfl) G.b_isinstance (by decide +kernel) (pa_cons (pv 3) (pa_cons (pe_bltn (v := .ty "tuple") (by rfl) G.b_tuple (by decide +kernel) rfl) pa_nil)))))))) (pss_one (ps_ret pe_bl)) pss_nil)
    (pss_one (ps_ret (pe_and (pe_chain (op_leU hr.units0) (op_leU hr.units0) (pe_gi (by rfl) G.g_u_FEWEST_PARTS) (pe_callB ce_len (by rfl) G.b_len (by decide +kernel) (pa_cons (pv 3) pa_nil)) (pe_gi (by rfl) G.g_u_MOST_PARTS)) (pe_one (GJ.pe_allC (tN := (["part"] : List Str)) (fr := (["deep"] : List Str)) (js := [1]) hr (by rfl) G.b_all (by rfl) TB rfl ⟨by rfl, by rfl, by decide +kernel, by rfl⟩ (capOk_ok (f := defScope s_u_is_wish) (by decide +kernel)) (by decide +kernel) (by decide +kernel) (by rfl) (pi_tup (pv 3)) (fun _ _ _ _ _ => (pg_name (i := 0) (show (["part", "deep"] : List Str).Nodup from by decide +kernel) rfl (by first | exact Or.inl rfl | exact Or.inr rfl))) (fun _ _ _ _ _ hr => (pe_fun c_u_is_wish hr (by rfl) (pa_cons (pv 0) (pa_cons (pe_op op_subU (pv 1) pe_int) pa_nil)) (by omega))) (fun _ => rfl)))))))))))
theorem ok_u_is_wish {P : Program} {K : Fg} {mg : Str → Option Value} {base : Heap} {kk : Nat} {f c PT : Addr} {fd : FuncData} (F : FunC K "_is_wish" "_is_wish" s_u_is_wish f fd c) (G : Gb K mg) (mm : List D → Option D) (TB : GxR.TabB base mg c PT) (hT : K.T PT) (c_u_is_wish : Cal P K.w K mg base "_is_wish" kk (RM 2 mm)) (c_is_word : Cal P K.w K mg base "is_word" 4 (RM 1 m_is_word)) : FnOk P K.w K mg base CX0 ((kk + 6) + 1) f fd ["value", "deep"] (spD K (RM 2 (runM N_u_is_wish (b_u_is_wish mm)))) :=
  fnMc F sc_u_is_wish rfl fun A outer s H E hr => ⟨_, der_u_is_wish G mm c_u_is_wish c_is_word TB A outer s H E hr, mir_u_is_wish G.Z hT mm⟩
theorem cal_u_is_wish {P : Program} {K : Fg} {mg : Str → Option Value} {base : Heap} {f c PT : Addr} {fd : FuncData} (F : FunC K "_is_wish" "_is_wish" s_u_is_wish f fd c) (G : Gb K mg) (c_is_word : Cal P K.w K mg base "is_word" 4 (RM 1 m_is_word)) (TB : GxR.TabB base mg c PT) (hT : K.T PT) (hm : mg "_is_wish" = some (.ref f)) (hk : PySem.W.keepIn K (.ref f) = true) (hb : Binds K fd ["value", "deep"] []) : ∀ d : Nat, Cal P K.w K mg base "_is_wish" (1 + d * 7) (RM 2 (m_u_is_wish d))
  | 0 => ⟨f, fd, ["value", "deep"], fn_none, hm, hk, hb⟩
  | d + 1 => ⟨f, fd, ["value", "deep"], (ok_u_is_wish (kk := 1 + d * 7) F G (m_u_is_wish d) TB hT (cal_u_is_wish F G c_is_word TB hT hm hk hb d) c_is_word).mono (by omega), hm, hk, hb⟩
def b_is_wish : XS := (mRet (mFn 2 (m_u_is_wish 7) (mCons (mVar 0) (mCons (mC (.int 6)) mNil))))
def m_is_wish : List D → Option D := runM N_is_wish b_is_wish
def t_is_wish (K : Fg) : TS := (tRet (tFn K (RM 2 (m_u_is_wish 7)) (tCons (tVar 0) (tCons (tC (.int 6)) tNil))))
theorem mir_is_wish {K : Fg} (Z : Gk K) : MS K (t_is_wish K) (b_is_wish) := (ms_ret (me_fn (ma_cons me_var (ma_cons me_int ma_nil))))
theorem der_is_wish {P : Program} {K : Fg} {mg : Str → Option Value} {base : Heap} (G : Gb K mg) (c_u_is_wish : Cal P K.w K mg base "_is_wish" 50 (RM 2 (m_u_is_wish 7))) {f : Addr} (cdv : Value) (A : Around) (outer : List Env) (s : Shared) (H : Hp) (E : XK)
  (hr : Room 50 (A.deeper (envOfC "is_wish" (defScope s_is_wish) s.heap.objs.size f cdv))) :
  PSs (cxOf CX0 P K.w K mg base N_is_wish "is_wish" (defScope s_is_wish) f cdv A outer s H E).nox (defBody s_is_wish) (t_is_wish K) :=
  (pss_one (ps_ret (pe_fun c_u_is_wish hr (by rfl) (pa_cons (pv 0) (pa_cons (pe_gi (by rfl) G.g_u_DEEPEST) pa_nil)))))
theorem ok_is_wish {P : Program} {K : Fg} {mg : Str → Option Value} {base : Heap} {f : Addr} {fd : FuncData} (F : Fun K "is_wish" "is_wish" s_is_wish f fd) (G : Gb K mg) (c_u_is_wish : Cal P K.w K mg base "_is_wish" 50 (RM 2 (m_u_is_wish 7))) : FnOk P K.w K mg base CX0 (50 + 1) f fd ["value"] (spD K (RM 1 m_is_wish)) :=
  fnM F sc_is_wish rfl fun cdv A outer s H E hr => ⟨_, der_is_wish G c_u_is_wish cdv A outer s H E hr, mir_is_wish G.Z⟩
def E_u_do_fulfil_1 (mm : List D → Option D) : XE := (mFn 2 mm (mCons (mVar 1) (mCons (mVar 0) mNil)))
def E_u_do_fulfil_2 (mm : List D → Option D) : XE := (mOp opStarts (mVar 0) (mVar 1))
def b_u_do_fulfil (mm : List D → Option D) : XS := (mSeq (mAsgG (mgTup 2 (mgCons (mgName 2) (mgCons (mgName 3) mgNil))) (mVar 1))
    (mSeq (mIfS (mTest (mOp opEq (mVar 2) (mC (.str "word")))) (mRet (mOp (opIn false) (mVar 3) (mVar 0))) mNext)
    (mSeq (mIfS (mTest (mOp opEq (mVar 2) (mC (.str "begins")))) (mRet (mAnyC 1 [3] (mItT (mVar 0)) (mgName 0) (E_u_do_fulfil_2 mm))) mNext)
    (mSeq (mIfS (mTest (mOp opEq (mVar 2) (mC (.str "none")))) (mRet (mNotT (mFn 2 mm (mCons (mVar 0) (mCons (mVar 3) mNil))))) mNext)
    (mSeq (mIfS (mTest (mOp opEq (mVar 2) (mC (.str "all")))) (mRet (mAllC 1 [0] (mItT (mVar 3)) (mgName 0) (E_u_do_fulfil_1 mm))) mNext)
    (mRet (mAnyC 1 [0] (mItT (mVar 3)) (mgName 0) (E_u_do_fulfil_1 mm))))))))
def m_u_do_fulfil : Nat → List D → Option D
  | 0 => fun _ => none
  | n + 1 => runM N_u_do_fulfil (b_u_do_fulfil (m_u_do_fulfil n))
def t_u_do_fulfil (K : Fg) (PT : Addr) (mm : List D → Option D) : TS := (tSeq (tAsg (tVar 1) (gTup K 2 (gCons (gName 2) (gCons (gName 3) gNil))))
    (tSeq (tIfS (tTest (tOp (rEqD K) (tVar 2) (tC (.str "word")))) (tRet (tOp (rInU K) (tVar 3) (tVar 0))) tNext)
    (tSeq (tIfS (tTest (tOp (rEqD K) (tVar 2) (tC (.str "begins")))) (tRet (GJ.tAnyC PT 1 [3] (iTup K (tVar 0)) (gName 0) (tM1 rStartsU (tVar 0) (tVar 1)))) tNext)
    (tSeq (tIfS (tTest (tOp (rEqD K) (tVar 2) (tC (.str "none")))) (tRet (tNotT K (tFn K (RM 2 mm) (tCons (tVar 0) (tCons (tVar 3) tNil))))) tNext)
    (tSeq (tIfS (tTest (tOp (rEqD K) (tVar 2) (tC (.str "all")))) (tRet (GJ.tAllC PT 1 [0] (iTup K (tVar 3)) (gName 0) (tFn K (RM 2 mm) (tCons (tVar 1) (tCons (tVar 0) tNil))))) tNext)
    (tRet (GJ.tAnyC PT 1 [0] (iTup K (tVar 3)) (gName 0) (tFn K (RM 2 mm) (tCons (tVar 1) (tCons (tVar 0) tNil))))))))))
theorem mir_u_do_fulfil {K : Fg} (Z : Gk K) {PT : Addr} (hT : K.T PT) (mm : List D → Option D) : MS K (t_u_do_fulfil K PT mm) (b_u_do_fulfil mm) := (ms_seq (ms_asgG me_var (mg_tup (mgs_cons mg_name (mgs_cons mg_name mgs_nil))))
    (ms_seq (ms_if (mt_test (me_op mo_eq me_var me_str)) (ms_ret (me_op mo_in me_var me_var)) ms_next)
    (ms_seq (ms_if (mt_test (me_op mo_eq me_var me_str)) (ms_ret (me_anyC hT (mi_tup me_var) mg_name (me_starts me_var me_var) (on_name (by decide)))) ms_next)
    (ms_seq (ms_if (mt_test (me_op mo_eq me_var me_str)) (ms_ret (me_notT (me_fn (ma_cons me_var (ma_cons me_var ma_nil))))) ms_next)
    (ms_seq (ms_if (mt_test (me_op mo_eq me_var me_str)) (ms_ret (me_allC hT (mi_tup me_var) mg_name (me_fn (ma_cons me_var (ma_cons me_var ma_nil))) (on_name (by decide)))) ms_next)
    (ms_ret (me_anyC hT (mi_tup me_var) mg_name (me_fn (ma_cons me_var (ma_cons me_var ma_nil))) (on_name (by decide)))))))))
theorem der_u_do_fulfil {P : Program} {K : Fg} {mg : Str → Option Value} {base : Heap} {kk : Nat} (G : Gb K mg) (mm : List D → Option D) (c_u_do_fulfil : Cal P K.w K mg base "_do_fulfil" kk (RM 2 mm)) {f c PT : Addr} (TB : GxR.TabB base mg c PT) (A : Around) (outer : List Env) (s : Shared) (H : Hp) (E : XK)
  (hr : Room (kk + 2) (A.deeper (envOfC "_do_fulfil" (defScope s_u_do_fulfil) s.heap.objs.size f (.ref c)))) :
  PSs (cxOf CX0 P K.w K mg base N_u_do_fulfil "_do_fulfil" (defScope s_u_do_fulfil) f (.ref c) A outer s H E).nox (defBody s_u_do_fulfil) (t_u_do_fulfil K PT mm) :=
  (pss_cons (ps_asg (pv 1) (pg_tup rfl (pgs_cons (pg_name (i := 2) sc_u_do_fulfil.nd rfl (by first | exact Or.inl rfl | exact Or.inr rfl)) (pgs_cons (pg_name (i := 3) sc_u_do_fulfil.nd rfl (by first | exact Or.inl rfl | exact Or.inr rfl)) pgs_nil))))
    (pss_cons (ps_if (pt_cmpR (op_eqU hr) (pv 2) pe_str (nomark _)) (pss_one (ps_ret (pe_cmpR (op_inU hr) (pv 3) (pv 0) (by with_unfolding_all rfl)))) pss_nil)
    (pss_cons (ps_if (pt_cmpR (op_eqU hr) (pv 2) pe_str (nomark _)) (pss_one (ps_ret (GJ.pe_anyC (tN := (["one"] : List Str)) (fr := (["what"] : List Str)) (js := [3]) hr (by rfl) G.b_any (by rfl) TB rfl ⟨by rfl, by rfl, by decide +kernel, by rfl⟩ (capOk_ok (f := defScope s_u_do_fulfil) (by decide +kernel)) (by decide +kernel) (by decide +kernel) (by rfl) (pi_tup (pv 0)) (fun _ _ _ _ _ => (pg_name (i := 0) (show (["one", "what"] : List Str).Nodup from by decide +kernel) rfl (by first | exact Or.inl rfl | exact Or.inr rfl))) (fun _ _ _ _ _ hr => (pe_startsU (pv 0) (pv 1))) (fun _ => rfl)))) pss_nil)
    (pss_cons (ps_if (pt_cmpR (op_eqU hr) (pv 2) pe_str (nomark _)) (pss_one (ps_ret (pe_notT (pe_fun c_u_do_fulfil hr (by rfl) (pa_cons (pv 0) (pa_cons (pv 3) pa_nil)) (by omega))))) pss_nil)
    (pss_cons (ps_if (pt_cmpR (op_eqU hr) (pv 2) pe_str (nomark _)) (pss_one (ps_ret (GJ.pe_allC (tN := (["part"] : List Str)) (fr := (["words"] : List Str)) (js := [0]) hr (by rfl) G.b_all (by rfl) TB rfl ⟨by rfl, by rfl, by decide +kernel, by rfl⟩ (capOk_ok (f := defScope s_u_do_fulfil) (by decide +kernel)) (by decide +kernel) (by decide +kernel) (by rfl) (pi_tup (pv 3)) (fun _ _ _ _ _ => (pg_name (i := 0) (show (["part", "words"] : List Str).Nodup from by decide +kernel) rfl (by first | exact Or.inl rfl | exact Or.inr rfl))) (fun _ _ _ _ _ hr => (pe_fun c_u_do_fulfil hr (by rfl) (pa_cons (pv 1) (pa_cons (pv 0) pa_nil)) (by omega))) (fun _ => rfl)))) pss_nil)
    (pss_one (ps_ret (GJ.pe_anyC (tN := (["part"] : List Str)) (fr := (["words"] : List Str)) (js := [0]) hr (by rfl) G.b_any (by rfl) TB rfl ⟨by rfl, by rfl, by decide +kernel, by rfl⟩ (capOk_ok (f := defScope s_u_do_fulfil) (by decide +kernel)) (by decide +kernel) (by decide +kernel) (by rfl) (pi_tup (pv 3)) (fun _ _ _ _ _ => (pg_name (i := 0) (show (["part", "words"] : List Str).Nodup from by decide +kernel) rfl (by first | exact Or.inl rfl | exact Or.inr rfl))) (fun _ _ _ _ _ hr => (pe_fun c_u_do_fulfil hr (by rfl) (pa_cons (pv 1) (pa_cons (pv 0) pa_nil)) (by omega))) (fun _ => rfl)))))))))
theorem ok_u_do_fulfil {P : Program} {K : Fg} {mg : Str → Option Value} {base : Heap} {kk : Nat} {f c PT : Addr} {fd : FuncData} (F : FunC K "_do_fulfil" "_do_fulfil" s_u_do_fulfil f fd c) (G : Gb K mg) (mm : List D → Option D) (TB : GxR.TabB base mg c PT) (hT : K.T PT) (c_u_do_fulfil : Cal P K.w K mg base "_do_fulfil" kk (RM 2 mm)) : FnOk P K.w K mg base CX0 ((kk + 2) + 1) f fd ["words", "wish"] (spD K (RM 2 (runM N_u_do_fulfil (b_u_do_fulfil mm)))) :=
  fnMc F sc_u_do_fulfil rfl fun A outer s H E hr => ⟨_, der_u_do_fulfil G mm c_u_do_fulfil TB A outer s H E hr, mir_u_do_fulfil G.Z hT mm⟩
theorem cal_u_do_fulfil {P : Program} {K : Fg} {mg : Str → Option Value} {base : Heap} {f c PT : Addr} {fd : FuncData} (F : FunC K "_do_fulfil" "_do_fulfil" s_u_do_fulfil f fd c) (G : Gb K mg) (TB : GxR.TabB base mg c PT) (hT : K.T PT) (hm : mg "_do_fulfil" = some (.ref f)) (hk : PySem.W.keepIn K (.ref f) = true) (hb : Binds K fd ["words", "wish"] []) : ∀ d : Nat, Cal P K.w K mg base "_do_fulfil" (1 + d * 3) (RM 2 (m_u_do_fulfil d))
  | 0 => ⟨f, fd, ["words", "wish"], fn_none, hm, hk, hb⟩
  | d + 1 => ⟨f, fd, ["words", "wish"], (ok_u_do_fulfil (kk := 1 + d * 3) F G (m_u_do_fulfil d) TB hT (cal_u_do_fulfil F G TB hT hm hk hb d)).mono (by omega), hm, hk, hb⟩
def b_u_is_part : XS := (mRet (mOr (mFn 1 m_u_is_small (mCons (mVar 0) mNil)) (mChain opLe opLe (mC (.str "A")) (mVar 0) (mC (.str "Z")))))
def m_u_is_part : List D → Option D := runM N_u_is_part b_u_is_part
def t_u_is_part (K : Fg) : TS := (tRet (tOrV (tFn K (RM 1 m_u_is_small) (tCons (tVar 0) tNil)) (tChain (rLeU K) (rLeU K) (tC (.str "A")) (tVar 0) (tC (.str "Z")))))
theorem mir_u_is_part {K : Fg} (Z : Gk K) : MS K (t_u_is_part K) (b_u_is_part) := (ms_ret (me_or (me_fn (ma_cons me_var ma_nil)) (me_chain rdm_le rdm_le me_str me_var me_str)))
theorem der_u_is_part {P : Program} {K : Fg} {mg : Str → Option Value} {base : Heap} (G : Gb K mg) (c_u_is_small : Cal P K.w K mg base "_is_small" 1 (RM 1 m_u_is_small)) {f : Addr} (cdv : Value) (A : Around) (outer : List Env) (s : Shared) (H : Hp) (E : XK)
  (hr : Room 1 (A.deeper (envOfC "_is_part" (defScope s_u_is_part) s.heap.objs.size f cdv))) :
  PSs (cxOf CX0 P K.w K mg base N_u_is_part "_is_part" (defScope s_u_is_part) f cdv A outer s H E).nox (defBody s_u_is_part) (t_u_is_part K) :=
  (pss_one (ps_ret (pe_or (pe_fun c_u_is_small hr (by rfl) (pa_cons (pv 0) pa_nil)) (pe_one (pe_chain (op_leU hr.units0) (op_leU hr.units0) pe_str (pv 0) pe_str)))))
theorem ok_u_is_part {P : Program} {K : Fg} {mg : Str → Option Value} {base : Heap} {f : Addr} {fd : FuncData} (F : Fun K "_is_part" "_is_part" s_u_is_part f fd) (G : Gb K mg) (c_u_is_small : Cal P K.w K mg base "_is_small" 1 (RM 1 m_u_is_small)) : FnOk P K.w K mg base CX0 (1 + 1) f fd ["sign"] (spD K (RM 1 m_u_is_part)) :=
  fnM F sc_u_is_part rfl fun cdv A outer s H E hr => ⟨_, der_u_is_part G c_u_is_small cdv A outer s H E hr, mir_u_is_part G.Z⟩
def E_all_words_1 : XE := (mIf (mTru (mFn 1 m_u_is_part (mCons (mVar 2) mNil))) (mLower (mVar 2)) (mC (.str " ")))
def b_all_words : XS := (mSeq (mAsg 1 (mNew (mLc (mItS (mVar 0)) (mgName 2) mYes E_all_words_1 [2])))
    (mRet (mNew (mWords (mOp opJoin (mC (.str "")) (mVar 1))))))
def m_all_words : List D → Option D := runM N_all_words b_all_words
def t_all_words (K : Fg) : TS := (tSeq (tAsg (tLc (iStr (tVar 0)) (gName 2) tYes (tIf (tTruU K (tFn K (RM 1 m_u_is_part) (tCons (tVar 2) tNil))) (tM0 rLowerU (tVar 2)) (tC (.str " "))) [2]) (gName 1))
    (tRet (tM0 rWordsU (tM1 (rJoinU K) (tC (.str "")) (tVar 1)))))
theorem mir_all_words {K : Fg} (Z : Gk K) : MS K (t_all_words K) (b_all_words) := (ms_seq (ms_asg (me_new (mn_lc (mi_str me_var) mg_name mt_yes (me_if (mt_tru (me_fn (ma_cons me_var ma_nil))) (me_lower me_var) me_str) (wo_name (by decide)))))
    (ms_ret (me_new (mn_words (me_join me_str me_var)))))
theorem der_all_words {P : Program} {K : Fg} {mg : Str → Option Value} {base : Heap} (G : Gb K mg) (c_u_is_part : Cal P K.w K mg base "_is_part" 2 (RM 1 m_u_is_part)) {f : Addr} (cdv : Value) (A : Around) (outer : List Env) (s : Shared) (H : Hp) (E : XK)
  (hr : Room 2 (A.deeper (envOfC "all_words" (defScope s_all_words) s.heap.objs.size f cdv))) :
  PSs (cxOf CX0 P K.w K mg base N_all_words "all_words" (defScope s_all_words) f cdv A outer s H E).nox (defBody s_all_words) (t_all_words K) :=
  (pss_cons (ps_setLc (i := 1) (own := [("sign", 2)]) (g := (gName 2)) rfl sc_all_words.nd rfl rfl (sw_true rfl rfl rfl (by decide +kernel)) (pi_str (pv 0)) (blkOk_by (own := [("sign", 2)]) (N := N_all_words) (sc := defScope s_all_words) (by decide +kernel)) (fun _ _ _ _ _ => (pg_name (i := 2) sc_all_words.nd rfl (by first | exact Or.inl rfl | exact Or.inr rfl))) (fun _ _ _ _ _ => pts_nil) (fun _ _ _ _ _ => (pe_ifExp (pt_tru (pe_fun c_u_is_part hr (by rfl) (pa_cons (pv 2) pa_nil))) (pe_lowerU (pv 2)) pe_str)))
    (pss_one (ps_ret (pe_wordsU (pe_joinU pe_str (pv 1))))))
theorem ok_all_words {P : Program} {K : Fg} {mg : Str → Option Value} {base : Heap} {f : Addr} {fd : FuncData} (F : Fun K "all_words" "all_words" s_all_words f fd) (G : Gb K mg) (c_u_is_part : Cal P K.w K mg base "_is_part" 2 (RM 1 m_u_is_part)) : FnOk P K.w K mg base CX0 (2 + 1) f fd ["text"] (spD K (RM 1 m_all_words)) :=
  fnM F sc_all_words rfl fun cdv A outer s H E hr => ⟨_, der_all_words G c_u_is_part cdv A outer s H E hr, mir_all_words G.Z⟩
def E_words_of_1 : XE := (mC (.bool true))
def b_words_of : XS := (mRet (mTupDc (mItL (mFn 1 m_all_words (mCons (mVar 0) mNil))) (mgName 1) (mVar 1) E_words_of_1 [1]))
def m_words_of : List D → Option D := runM N_words_of b_words_of
def t_words_of (K : Fg) : TS := (tRet (tCB rTupD (tCons (tDc (iList K (tFn K (RM 1 m_all_words) (tCons (tVar 0) tNil))) (gName 1) tYes (tVar 1) (tC (.bl true)) [1]) tNil)))
theorem mir_words_of {K : Fg} (Z : Gk K) : MS K (t_words_of K) (b_words_of) := (ms_ret (me_tupDc (mi_list (me_fn (ma_cons me_var ma_nil))) mg_name me_var me_bl (wo_name (by decide))))
theorem der_words_of {P : Program} {K : Fg} {mg : Str → Option Value} {base : Heap} (G : Gb K mg) (c_all_words : Cal P K.w K mg base "all_words" 3 (RM 1 m_all_words)) {f : Addr} (cdv : Value) (A : Around) (outer : List Env) (s : Shared) (H : Hp) (E : XK)
  (hr : Room 3 (A.deeper (envOfC "words_of" (defScope s_words_of) s.heap.objs.size f cdv))) :
  PSs (cxOf CX0 P K.w K mg base N_words_of "words_of" (defScope s_words_of) f cdv A outer s H E).nox (defBody s_words_of) (t_words_of K) :=
  (pss_one (ps_ret (pe_callTy (call_tupD rfl) (by rfl) G.b_tuple (by decide +kernel) (pa_cons (pe_dc (own := [("word", 1)]) (g := (gName 1)) rfl sc_words_of.nd (pi_list (pe_fun c_all_words hr (by rfl) (pa_cons (pv 0) pa_nil))) (blkOk_by (own := [("word", 1)]) (N := N_words_of) (sc := defScope s_words_of) (by decide +kernel)) (fun _ _ _ _ _ => (pg_name (i := 1) sc_words_of.nd rfl (by first | exact Or.inl rfl | exact Or.inr rfl))) (fun _ _ _ _ _ => pts_nil) (fun _ _ _ _ _ => (pv 1)) (fun _ _ _ _ _ => pe_bl)) pa_nil))))
theorem ok_words_of {P : Program} {K : Fg} {mg : Str → Option Value} {base : Heap} {f : Addr} {fd : FuncData} (F : Fun K "words_of" "words_of" s_words_of f fd) (G : Gb K mg) (c_all_words : Cal P K.w K mg base "all_words" 3 (RM 1 m_all_words)) : FnOk P K.w K mg base CX0 (3 + 1) f fd ["text"] (spD K (RM 1 m_words_of)) :=
  fnM F sc_words_of rfl fun cdv A outer s H E hr => ⟨_, der_words_of G c_all_words cdv A outer s H E hr, mir_words_of G.Z⟩
def b_fulfils : XS := (mRet (mFn 2 (m_u_do_fulfil 6) (mCons (mFn 1 m_words_of (mCons (mVar 0) mNil)) (mCons (mVar 1) mNil))))
def m_fulfils : List D → Option D := runM N_fulfils b_fulfils
def t_fulfils (K : Fg) : TS := (tRet (tFn K (RM 2 (m_u_do_fulfil 6)) (tCons (tFn K (RM 1 m_words_of) (tCons (tVar 0) tNil)) (tCons (tVar 1) tNil))))
theorem mir_fulfils {K : Fg} (Z : Gk K) : MS K (t_fulfils K) (b_fulfils) := (ms_ret (me_fn (ma_cons (me_fn (ma_cons me_var ma_nil)) (ma_cons me_var ma_nil))))
theorem der_fulfils {P : Program} {K : Fg} {mg : Str → Option Value} {base : Heap} (G : Gb K mg) (c_u_do_fulfil : Cal P K.w K mg base "_do_fulfil" 19 (RM 2 (m_u_do_fulfil 6))) (c_words_of : Cal P K.w K mg base "words_of" 4 (RM 1 m_words_of)) {f : Addr} (cdv : Value) (A : Around) (outer : List Env) (s : Shared) (H : Hp) (E : XK)
  (hr : Room 19 (A.deeper (envOfC "fulfils" (defScope s_fulfils) s.heap.objs.size f cdv))) :
  PSs (cxOf CX0 P K.w K mg base N_fulfils "fulfils" (defScope s_fulfils) f cdv A outer s H E).nox (defBody s_fulfils) (t_fulfils K) :=
  (pss_one (ps_ret (pe_fun c_u_do_fulfil hr (by rfl) (pa_cons (pe_fun c_words_of hr (by rfl) (pa_cons (pv 0) pa_nil)) (pa_cons (pv 1) pa_nil)))))
theorem ok_fulfils {P : Program} {K : Fg} {mg : Str → Option Value} {base : Heap} {f : Addr} {fd : FuncData} (F : Fun K "fulfils" "fulfils" s_fulfils f fd) (G : Gb K mg) (c_u_do_fulfil : Cal P K.w K mg base "_do_fulfil" 19 (RM 2 (m_u_do_fulfil 6))) (c_words_of : Cal P K.w K mg base "words_of" 4 (RM 1 m_words_of)) : FnOk P K.w K mg base CX0 (19 + 1) f fd ["text", "wish"] (spD K (RM 2 m_fulfils)) :=
  fnM F sc_fulfils rfl fun cdv A outer s H E hr => ⟨_, der_fulfils G c_u_do_fulfil c_words_of cdv A outer s H E hr, mir_fulfils G.Z⟩
def E_u_law_words_1 : XE := (mDG2 (mVar 1) (mVar 2) (mC (.str " ")))
def L_u_law_words_1 : XS := (mSetK 1 (mVar 2) (mVar 2))
def L_u_law_words_2 : XS := (mWipe [3] (mSetK 1 (mVar 2) (mOp opIx (mC (.str "abcdefghijklmnopqrstuvwxyz")) (mVar 3))))
def b_u_law_words : XS := (mSeq (mAsgW 1 mNewK)
    (mSeq (mWipe [3] (mFor (mEnS (mCons (mC (.str "ABCDEFGHIJKLMNOPQRSTUVWXYZ")) mNil)) (mgTup 2 (mgCons (mgName 3) (mgCons (mgName 2) mgNil))) L_u_law_words_2))
    (mSeq (mFor (mItS (mC (.str "abcdefghijklmnopqrstuvwxyz0123456789"))) (mgName 2) L_u_law_words_1)
    (mFrzW 1 (mRet (mNew (mWords (mOp opJoin (mC (.str "")) (mNew (mLc (mItS (mVar 0)) (mgName 2) mYes E_u_law_words_1 [2]))))))))))
def m_u_law_words : List D → Option D := runM N_u_law_words b_u_law_words
def t_u_law_words (K : Fg) : TS := (tSeq (tAsg tDNewK (gName 1))
    (tSeq (tFor (iEnS (tCons (tC (.str "ABCDEFGHIJKLMNOPQRSTUVWXYZ")) tNil)) (gTup K 2 (gCons (gName 3) (gCons (gName 2) gNil)))
    (tAsg (tOp (rIx K) (tC (.str "abcdefghijklmnopqrstuvwxyz")) (tVar 3)) (gSub (tVar 1) (tVar 2) (rSetG K))))
    (tSeq (tFor (iStr (tC (.str "abcdefghijklmnopqrstuvwxyz0123456789"))) (gName 2)
    (tAsg (tVar 2) (gSub (tVar 1) (tVar 2) (rSetG K))))
    (tRet (tM0 rWordsU (tM1 (rJoinU K) (tC (.str "")) (tLc (iStr (tVar 0)) (gName 2) tYes (tDG2 K (tVar 1) (tVar 2) (tC (.str " "))) [2])))))))
theorem mir_u_law_words {K : Fg} (Z : Gk K) : MS K (t_u_law_words K) (b_u_law_words) := (ms_seq (ms_asgW mw_newK)
    (ms_seq (ms_wipe (ms_for (mi_enS (ma_cons me_str ma_nil)) (mg_tup (mgs_cons mg_name (mgs_cons mg_name mgs_nil)))
    (ms_wipe (ms_setK me_var (me_op mo_ix me_str me_var)))))
    (ms_seq (ms_for (mi_str me_str) mg_name
    (ms_setK me_var me_var))
    (ms_frzW (ms_ret (me_new (mn_words (me_join me_str (me_new (mn_lc (mi_str me_var) mg_name mt_yes (me_dG2 me_var me_var me_str) (wo_name (by decide))))))))))))
theorem der_u_law_words {P : Program} {K : Fg} {mg : Str → Option Value} {base : Heap} (G : Gb K mg) {f : Addr} (cdv : Value) (A : Around) (outer : List Env) (s : Shared) (H : Hp) (E : XK)
  (hr : Room 0 (A.deeper (envOfC "_law_words" (defScope s_u_law_words) s.heap.objs.size f cdv))) :
  PSs (cxOf CX0 P K.w K mg base N_u_law_words "_law_words" (defScope s_u_law_words) f cdv A outer s H E).nox (defBody s_u_law_words) (t_u_law_words K) :=
  (pss_cons (ps_set (i := 1) sc_u_law_words.nd rfl (by first | exact Or.inl rfl | exact Or.inr rfl) pe_dnewK)
    (pss_cons (ps_for PassesOwn.never rfl (pi_enS (by rfl) G.b_enumerate (pa_cons pe_str pa_nil)) (pg_tup rfl (pgs_cons (pg_name (i := 3) sc_u_law_words.nd rfl (by first | exact Or.inl rfl | exact Or.inr rfl)) (pgs_cons (pg_name (i := 2) sc_u_law_words.nd rfl (by first | exact Or.inl rfl | exact Or.inr rfl)) pgs_nil)))
    (pss_one (ps_asg (pe_ix ix_seq pe_str (pv 3) (fun _ _ => rfl)) (pg_sub (pv 1) (pv 2) (set_G hr)))))
    (pss_cons (ps_for PassesOwn.never rfl (pi_str pe_str) (pg_name (i := 2) sc_u_law_words.nd rfl (by first | exact Or.inl rfl | exact Or.inr rfl))
    (pss_one (ps_asg (pv 2) (pg_sub (pv 1) (pv 2) (set_G hr)))))
    (pss_one (ps_ret (pe_wordsU (pe_joinU pe_str (pe_lc (own := [("sign", 2)]) (g := (gName 2)) rfl sc_u_law_words.nd (pi_str (pv 0)) (blkOk_by (own := [("sign", 2)]) (N := N_u_law_words) (sc := defScope s_u_law_words) (by decide +kernel)) (fun _ _ _ _ _ => (pg_name (i := 2) sc_u_law_words.nd rfl (by first | exact Or.inl rfl | exact Or.inr rfl))) (fun _ _ _ _ _ => pts_nil) (fun _ _ _ _ _ => (pe_dG2 hr (pv 1) (pv 2) pe_str ⟨rfl, rfl, rfl, rfl⟩))))))))))
theorem ok_u_law_words {P : Program} {K : Fg} {mg : Str → Option Value} {base : Heap} {f : Addr} {fd : FuncData} (F : Fun K "_law_words" "_law_words" s_u_law_words f fd) (G : Gb K mg) : FnOk P K.w K mg base CX0 (0 + 1) f fd ["text"] (spD K (RM 1 m_u_law_words)) :=
  fnM F sc_u_law_words rfl fun cdv A outer s H E hr => ⟨_, der_u_law_words G  cdv A outer s H E hr, mir_u_law_words G.Z⟩
def T_u_law_fulfils_1 (mm : List D → Option D) : XT := (mTru (mFn 2 mm (mCons (mVar 0) (mCons (mVar 5) mNil))))
def E_u_law_fulfils_1 (mm : List D → Option D) : XE := (mSl (mVar 6) mNoPart (mPart (mCall clLen (mCons (mVar 4) mNil))))
def b_u_law_fulfils (mm : List D → Option D) : XS := (mSeq (mAsgG (mgTup 2 (mgCons (mgName 3) (mgCons (mgName 4) mgNil))) (mVar 1))
    (mSeq (mIfS (mTest (mOp opEq (mVar 3) (mC (.str "word")))) (mRet (mOp (opIn false) (mVar 4) (mFn 1 m_u_law_words (mCons (mVar 0) mNil)))) mNext)
    (mSeq (mIfS (mTest (mOp opEq (mVar 3) (mC (.str "begins")))) (mRet (mOp (opIn false) (mVar 4) (mNew (mLc (mItL (mFn 1 m_u_law_words (mCons (mVar 0) mNil))) (mgName 6) mYes (E_u_law_fulfils_1 mm) [6])))) mNext)
    (mSeq (mIfS (mTest (mOp opEq (mVar 3) (mC (.str "none")))) (mRet (mNotT (mFn 2 mm (mCons (mVar 0) (mCons (mVar 4) mNil))))) mNext)
    (mSeq (mAsg 2 (mNew (mLc (mItT (mVar 4)) (mgName 5) (T_u_law_fulfils_1 mm) (mVar 5) [5])))
    (mRet (mIf (mTest (mOp opEq (mVar 3) (mC (.str "all")))) (mOp opEq (mCall clLen (mCons (mVar 2) mNil)) (mCall clLen (mCons (mVar 4) mNil))) (mOp opGt (mCall clLen (mCons (mVar 2) mNil)) (mC (.int 0))))))))))
def m_u_law_fulfils : Nat → List D → Option D
  | 0 => fun _ => none
  | n + 1 => runM N_u_law_fulfils (b_u_law_fulfils (m_u_law_fulfils n))
def t_u_law_fulfils (K : Fg) (mm : List D → Option D) : TS := (tSeq (tAsg (tVar 1) (gTup K 2 (gCons (gName 3) (gCons (gName 4) gNil))))
    (tSeq (tIfS (tTest (tOp (rEqD K) (tVar 3) (tC (.str "word")))) (tRet (tOp (rInU K) (tVar 4) (tFn K (RM 1 m_u_law_words) (tCons (tVar 0) tNil)))) tNext)
    (tSeq (tIfS (tTest (tOp (rEqD K) (tVar 3) (tC (.str "begins")))) (tRet (tOp (rInU K) (tVar 4) (tLc (iList K (tFn K (RM 1 m_u_law_words) (tCons (tVar 0) tNil))) (gName 6) tYes (tSl (rSlU K) (tVar 6) tNoPart (tPart (tCB (rLenU K) (tCons (tVar 4) tNil)))) [6]))) tNext)
    (tSeq (tIfS (tTest (tOp (rEqD K) (tVar 3) (tC (.str "none")))) (tRet (tNotT K (tFn K (RM 2 mm) (tCons (tVar 0) (tCons (tVar 4) tNil))))) tNext)
    (tSeq (tAsg (tLc (iTup K (tVar 4)) (gName 5) (tTruU K (tFn K (RM 2 mm) (tCons (tVar 0) (tCons (tVar 5) tNil)))) (tVar 5) [5]) (gName 2))
    (tRet (tIf (tTest (tOp (rEqD K) (tVar 3) (tC (.str "all")))) (tOp (rEqD K) (tCB (rLenU K) (tCons (tVar 2) tNil)) (tCB (rLenU K) (tCons (tVar 4) tNil))) (tOp rGtU (tCB (rLenU K) (tCons (tVar 2) tNil)) (tC (.int 0))))))))))
theorem mir_u_law_fulfils {K : Fg} (Z : Gk K) (mm : List D → Option D) : MS K (t_u_law_fulfils K mm) (b_u_law_fulfils mm) := (ms_seq (ms_asgG me_var (mg_tup (mgs_cons mg_name (mgs_cons mg_name mgs_nil))))
    (ms_seq (ms_if (mt_test (me_op mo_eq me_var me_str)) (ms_ret (me_op mo_in me_var (me_fn (ma_cons me_var ma_nil)))) ms_next)
    (ms_seq (ms_if (mt_test (me_op mo_eq me_var me_str)) (ms_ret (me_op mo_in me_var (me_new (mn_lc (mi_list (me_fn (ma_cons me_var ma_nil))) mg_name mt_yes (me_sl me_var mo_none (mo_some (me_call mc_len (ma_cons me_var ma_nil)))) (wo_name (by decide)))))) ms_next)
    (ms_seq (ms_if (mt_test (me_op mo_eq me_var me_str)) (ms_ret (me_notT (me_fn (ma_cons me_var (ma_cons me_var ma_nil))))) ms_next)
    (ms_seq (ms_asg (me_new (mn_lc (mi_tup me_var) mg_name (mt_tru (me_fn (ma_cons me_var (ma_cons me_var ma_nil)))) me_var (wo_name (by decide)))))
    (ms_ret (me_if (mt_test (me_op mo_eq me_var me_str)) (me_op mo_eq (me_call mc_len (ma_cons me_var ma_nil)) (me_call mc_len (ma_cons me_var ma_nil))) (me_op mo_gt (me_call mc_len (ma_cons me_var ma_nil)) me_int))))))))
theorem der_u_law_fulfils {P : Program} {K : Fg} {mg : Str → Option Value} {base : Heap} {kk : Nat} (G : Gb K mg) (mm : List D → Option D) (c_u_law_words : Cal P K.w K mg base "_law_words" 1 (RM 1 m_u_law_words)) (c_u_law_fulfils : Cal P K.w K mg base "_law_fulfils" kk (RM 2 mm)) {f : Addr} (cdv : Value) (A : Around) (outer : List Env) (s : Shared) (H : Hp) (E : XK)
  (hr : Room (kk + 1) (A.deeper (envOfC "_law_fulfils" (defScope s_u_law_fulfils) s.heap.objs.size f cdv))) :
  PSs (cxOf CX0 P K.w K mg base N_u_law_fulfils "_law_fulfils" (defScope s_u_law_fulfils) f cdv A outer s H E).nox (defBody s_u_law_fulfils) (t_u_law_fulfils K mm) :=
  (pss_cons (ps_asg (pv 1) (pg_tup rfl (pgs_cons (pg_name (i := 3) sc_u_law_fulfils.nd rfl (by first | exact Or.inl rfl | exact Or.inr rfl)) (pgs_cons (pg_name (i := 4) sc_u_law_fulfils.nd rfl (by first | exact Or.inl rfl | exact Or.inr rfl)) pgs_nil))))
    (pss_cons (ps_if (pt_cmpR (op_eqU hr) (pv 3) pe_str (nomark _)) (pss_one (ps_ret (pe_cmpR (op_inU hr) (pv 4) (pe_fun c_u_law_words hr (by rfl) (pa_cons (pv 0) pa_nil) (by omega)) (by with_unfolding_all rfl)))) pss_nil)
    (pss_cons (ps_if (pt_cmpR (op_eqU hr) (pv 3) pe_str (nomark _)) (pss_one (ps_ret (pe_cmpR (op_inU hr) (pv 4) (pe_lc (own := [("word", 6)]) (g := (gName 6)) rfl sc_u_law_fulfils.nd (pi_list (pe_fun c_u_law_words hr (by rfl) (pa_cons (pv 0) pa_nil) (by omega))) (blkOk_by (own := [("word", 6)]) (N := N_u_law_fulfils) (sc := defScope s_u_law_fulfils) (by decide +kernel)) (fun _ _ _ _ _ => (pg_name (i := 6) sc_u_law_fulfils.nd rfl (by first | exact Or.inl rfl | exact Or.inr rfl))) (fun _ _ _ _ _ => pts_nil) (fun _ _ _ _ _ => (pe_slice sl_U (pv 6) po_none (po_some (pe_callB ce_len (by rfl) G.b_len (by decide +kernel) (pa_cons (pv 4) pa_nil)))))) (by with_unfolding_all rfl)))) pss_nil)
    (pss_cons (ps_if (pt_cmpR (op_eqU hr) (pv 3) pe_str (nomark _)) (pss_one (ps_ret (pe_notT (pe_fun c_u_law_fulfils hr (by rfl) (pa_cons (pv 0) (pa_cons (pv 4) pa_nil)) (by omega))))) pss_nil)
    (pss_cons (ps_setLc (i := 2) (own := [("part", 5)]) (g := (gName 5)) rfl sc_u_law_fulfils.nd rfl rfl (sw_true rfl rfl rfl (by decide +kernel)) (pi_tup (pv 4)) (blkOk_by (own := [("part", 5)]) (N := N_u_law_fulfils) (sc := defScope s_u_law_fulfils) (by decide +kernel)) (fun _ _ _ _ _ => (pg_name (i := 5) sc_u_law_fulfils.nd rfl (by first | exact Or.inl rfl | exact Or.inr rfl))) (fun _ _ _ _ _ => (pts_one (pt_tru (pe_fun c_u_law_fulfils hr (by rfl) (pa_cons (pv 0) (pa_cons (pv 5) pa_nil)) (by omega))))) (fun _ _ _ _ _ => (pv 5)))
    (pss_one (ps_ret (pe_ifExp (pt_cmpR (op_eqU hr) (pv 3) pe_str (nomark _)) (pe_cmpR (op_eqU hr) (pe_callB ce_len (by rfl) G.b_len (by decide +kernel) (pa_cons (pv 2) pa_nil)) (pe_callB ce_len (by rfl) G.b_len (by decide +kernel) (pa_cons (pv 4) pa_nil)) (nomark _)) (pe_cmpR op_gtU (pe_callB ce_len (by rfl) G.b_len (by decide +kernel) (pa_cons (pv 2) pa_nil)) pe_int (nomark _))))))))))
theorem ok_u_law_fulfils {P : Program} {K : Fg} {mg : Str → Option Value} {base : Heap} {kk : Nat} {f : Addr} {fd : FuncData} (F : Fun K "_law_fulfils" "_law_fulfils" s_u_law_fulfils f fd) (G : Gb K mg) (mm : List D → Option D) (c_u_law_words : Cal P K.w K mg base "_law_words" 1 (RM 1 m_u_law_words)) (c_u_law_fulfils : Cal P K.w K mg base "_law_fulfils" kk (RM 2 mm)) : FnOk P K.w K mg base CX0 ((kk + 1) + 1) f fd ["text", "wish"] (spD K (RM 2 (runM N_u_law_fulfils (b_u_law_fulfils mm)))) :=
  fnM F sc_u_law_fulfils rfl fun cdv A outer s H E hr => ⟨_, der_u_law_fulfils G mm c_u_law_words c_u_law_fulfils cdv A outer s H E hr, mir_u_law_fulfils G.Z mm⟩
theorem cal_u_law_fulfils {P : Program} {K : Fg} {mg : Str → Option Value} {base : Heap} {f : Addr} {fd : FuncData} (F : Fun K "_law_fulfils" "_law_fulfils" s_u_law_fulfils f fd) (G : Gb K mg) (c_u_law_words : Cal P K.w K mg base "_law_words" 1 (RM 1 m_u_law_words)) (hm : mg "_law_fulfils" = some (.ref f)) (hk : PySem.W.keepIn K (.ref f) = true) (hb : Binds K fd ["text", "wish"] []) : ∀ d : Nat, Cal P K.w K mg base "_law_fulfils" (1 + d * 2) (RM 2 (m_u_law_fulfils d))
  | 0 => ⟨f, fd, ["text", "wish"], fn_none, hm, hk, hb⟩
  | d + 1 => ⟨f, fd, ["text", "wish"], (ok_u_law_fulfils (kk := 1 + d * 2) F G (m_u_law_fulfils d) c_u_law_words (cal_u_law_fulfils F G c_u_law_words hm hk hb d)).mono (by omega), hm, hk, hb⟩
def L_law_1 : XS := (mWipe [5] (mIfS (mTOr (mTest (mOp opNe (mFn 2 m_fulfils (mCons (mVar 5) (mCons (mVar 4) mNil))) (mFn 2 (m_u_law_fulfils 6) (mCons (mVar 5) (mCons (mVar 4) mNil))))) (mTest (mOp opEq (mFn 2 m_fulfils (mCons (mVar 5) (mCons (mTup (mCons (mC (.str "none")) (mCons (mVar 4) mNil))) mNil))) (mFn 2 m_fulfils (mCons (mVar 5) (mCons (mVar 4) mNil)))))) (mRet (mC (.bool false))) mNext))
def L_law_2 : XS := (mWipe [2, 3, 4, 5] (mSeq (mAsg 4 (mFn 2 (m_u_law_wish 5) (mCons (mFn 2 m_u_law_draws (mCons (mVar 3) (mCons (mC (.int 24)) mNil))) (mCons (mC (.int 3)) mNil))))
    (mSeq (mIfS (mTNot (mTru (mFn 1 m_is_wish (mCons (mVar 4) mNil)))) (mRet (mC (.bool false))) mNext)
    (mWipe [5] (mFor (mItL (mSl (mVar 1) (mPart (mCall (clBest false) (mCons (mC (.int 0)) (mCons (mOp opSub (mVar 2) (mC (.int 3))) mNil)))) (mPart (mOp opAdd (mVar 2) (mC (.int 1)))))) (mgName 5) L_law_1)))))
def E_law_1 : XE := (mFn 1 m_u_law_text (mCons (mFn 2 m_u_law_draws (mCons (mVar 3) (mCons (mC (.int 7)) mNil))) mNil))
def b_law : XS := (mSeq (mAsg 1 (mNew (mLc (mItL (mVar 0)) (mgName 3) mYes E_law_1 [3])))
    (mSeq (mWipe [2, 3, 4, 5] (mFor (mEnum (mCons (mVar 0) mNil)) (mgTup 2 (mgCons (mgName 2) (mgCons (mgName 3) mgNil))) L_law_2))
    (mRet (mC (.bool true)))))
def m_law : List D → Option D := runM N_law b_law
def t_law (K : Fg) : TS := (tSeq (tAsg (tLc (iList K (tVar 0)) (gName 3) tYes (tFn K (RM 1 m_u_law_text) (tCons (tFn K (RM 2 m_u_law_draws) (tCons (tVar 3) (tCons (tC (.int 7)) tNil))) tNil)) [3]) (gName 1))
    (tSeq (tFor (iEnum K (tCons (tVar 0) tNil)) (gTup K 2 (gCons (gName 2) (gCons (gName 3) gNil)))
    (tSeq (tAsg (tFn K (RM 2 (m_u_law_wish 5)) (tCons (tFn K (RM 2 m_u_law_draws) (tCons (tVar 3) (tCons (tC (.int 24)) tNil))) (tCons (tC (.int 3)) tNil))) (gName 4))
    (tSeq (tIfS (tNot (tTruU K (tFn K (RM 1 m_is_wish) (tCons (tVar 4) tNil)))) (tRet (tC (.bl false))) tNext)
    (tFor (iList K (tSl (rSlU K) (tVar 1) (tPart (tCB (rMaxU K) (tCons (tC (.int 0)) (tCons (tOp rSubU (tVar 2) (tC (.int 3))) tNil)))) (tPart (tOp (rAddU K) (tVar 2) (tC (.int 1)))))) (gName 5)
    (tIfS (tOr (tTest (tOp (rNeD K) (tFn K (RM 2 m_fulfils) (tCons (tVar 5) (tCons (tVar 4) tNil))) (tFn K (RM 2 (m_u_law_fulfils 6)) (tCons (tVar 5) (tCons (tVar 4) tNil))))) (tTest (tOp (rEqD K) (tFn K (RM 2 m_fulfils) (tCons (tVar 5) (tCons (tTup (tCons (tC (.str "none")) (tCons (tVar 4) tNil))) tNil))) (tFn K (RM 2 m_fulfils) (tCons (tVar 5) (tCons (tVar 4) tNil)))))) (tRet (tC (.bl false))) tNext)))))
    (tRet (tC (.bl true)))))
theorem mir_law {K : Fg} (Z : Gk K) : MS K (t_law K) (b_law) := (ms_seq (ms_asg (me_new (mn_lc (mi_list me_var) mg_name mt_yes (me_fn (ma_cons (me_fn (ma_cons me_var (ma_cons me_int ma_nil))) ma_nil)) (wo_name (by decide)))))
    (ms_seq (ms_wipe (ms_for (mi_enum (ma_cons me_var ma_nil)) (mg_tup (mgs_cons mg_name (mgs_cons mg_name mgs_nil)))
    (ms_wipe (ms_seq (ms_asg (me_fn (ma_cons (me_fn (ma_cons me_var (ma_cons me_int ma_nil))) (ma_cons me_int ma_nil))))
    (ms_seq (ms_if (mt_not (mt_tru (me_fn (ma_cons me_var ma_nil)))) (ms_ret me_bl) ms_next)
    (ms_wipe (ms_for (mi_list (me_sl me_var (mo_some (me_call mc_maxU (ma_cons me_int (ma_cons (me_op mo_sub me_var me_int) ma_nil)))) (mo_some (me_op mo_add me_var me_int)))) mg_name
    (ms_wipe (ms_if (mt_or (mt_test (me_op mo_ne (me_fn (ma_cons me_var (ma_cons me_var ma_nil))) (me_fn (ma_cons me_var (ma_cons me_var ma_nil))))) (mt_test (me_op mo_eq (me_fn (ma_cons me_var (ma_cons (me_tup (ma_cons me_str (ma_cons me_var ma_nil))) ma_nil))) (me_fn (ma_cons me_var (ma_cons me_var ma_nil)))))) (ms_ret me_bl) ms_next)))))))))
    (ms_ret me_bl)))
theorem der_law {P : Program} {K : Fg} {mg : Str → Option Value} {base : Heap} (G : Gb K mg) (c_u_law_text : Cal P K.w K mg base "_law_text" 1 (RM 1 m_u_law_text)) (c_u_law_wish : Cal P K.w K mg base "_law_wish" 6 (RM 2 (m_u_law_wish 5))) (c_u_law_draws : Cal P K.w K mg base "_law_draws" 1 (RM 2 m_u_law_draws)) (c_is_wish : Cal P K.w K mg base "is_wish" 51 (RM 1 m_is_wish)) (c_fulfils : Cal P K.w K mg base "fulfils" 20 (RM 2 m_fulfils)) (c_u_law_fulfils : Cal P K.w K mg base "_law_fulfils" 13 (RM 2 (m_u_law_fulfils 6))) {f : Addr} (cdv : Value) (A : Around) (outer : List Env) (s : Shared) (H : Hp) (E : XK)
  (hr : Room 51 (A.deeper (envOfC "law" (defScope s_law) s.heap.objs.size f cdv))) :
  PSs (cxOf CX0 P K.w K mg base N_law "law" (defScope s_law) f cdv A outer s H E).nox (defBody s_law) (t_law K) :=
  (pss_cons (ps_setLc (i := 1) (own := [("cell", 3)]) (g := (gName 3)) rfl sc_law.nd rfl rfl (sw_true rfl rfl rfl (by decide +kernel)) (pi_list (pv 0)) (blkOk_by (own := [("cell", 3)]) (N := N_law) (sc := defScope s_law) (by decide +kernel)) (fun _ _ _ _ _ => (pg_name (i := 3) sc_law.nd rfl (by first | exact Or.inl rfl | exact Or.inr rfl))) (fun _ _ _ _ _ => pts_nil) (fun _ _ _ _ _ => (pe_fun c_u_law_text hr (by rfl) (pa_cons (pe_fun c_u_law_draws hr (by rfl) (pa_cons (pv 3) (pa_cons pe_int pa_nil))) pa_nil))))
    (pss_cons (ps_for PassesOwn.never rfl (pi_enum (by rfl) G.b_enumerate (pa_cons (pv 0) pa_nil)) (pg_tup rfl (pgs_cons (pg_name (i := 2) sc_law.nd rfl (by first | exact Or.inl rfl | exact Or.inr rfl)) (pgs_cons (pg_name (i := 3) sc_law.nd rfl (by first | exact Or.inl rfl | exact Or.inr rfl)) pgs_nil)))
    (pss_cons (ps_set (i := 4) sc_law.nd rfl (by first | exact Or.inl rfl | exact Or.inr rfl) (pe_fun c_u_law_wish hr (by rfl) (pa_cons (pe_fun c_u_law_draws hr (by rfl) (pa_cons (pv 3) (pa_cons pe_int pa_nil))) (pa_cons pe_int pa_nil))))
    (pss_cons (ps_if (pt_not (pt_tru (pe_fun c_is_wish hr (by rfl) (pa_cons (pv 4) pa_nil)))) (pss_one (ps_ret pe_bl)) pss_nil)
    (pss_one (ps_for PassesOwn.never rfl (pi_list (pe_slice sl_U (pv 1) (po_some (pe_callB (ce_maxU hr) (by rfl) G.b_max (by decide +kernel) (pa_cons pe_int (pa_cons (pe_op op_subU (pv 2) pe_int) pa_nil)))) (po_some (pe_op op_addU (pv 2) pe_int)))) (pg_name (i := 5) sc_law.nd rfl (by first | exact Or.inl rfl | exact Or.inr rfl))
    (pss_one (ps_if (PW.pt (pw_or (pt_cmpR (op_neU hr) (pe_fun c_fulfils hr (by rfl) (pa_cons (pv 5) (pa_cons (pv 4) pa_nil))) (pe_fun c_u_law_fulfils hr (by rfl) (pa_cons (pv 5) (pa_cons (pv 4) pa_nil))) (nomark _)) (pw_or1 (pt_cmpR (op_eqU hr) (pe_fun c_fulfils hr (by rfl) (pa_cons (pv 5) (pa_cons (pe_tup (pa_cons pe_str (pa_cons (pv 4) pa_nil))) pa_nil))) (pe_fun c_fulfils hr (by rfl) (pa_cons (pv 5) (pa_cons (pv 4) pa_nil))) (nomark _))))) (pss_one (ps_ret pe_bl)) pss_nil)))))))
    (pss_one (ps_ret pe_bl))))
theorem ok_law {P : Program} {K : Fg} {mg : Str → Option Value} {base : Heap} {f : Addr} {fd : FuncData} (F : Fun K "law" "law" s_law f fd) (G : Gb K mg) (c_u_law_text : Cal P K.w K mg base "_law_text" 1 (RM 1 m_u_law_text)) (c_u_law_wish : Cal P K.w K mg base "_law_wish" 6 (RM 2 (m_u_law_wish 5))) (c_u_law_draws : Cal P K.w K mg base "_law_draws" 1 (RM 2 m_u_law_draws)) (c_is_wish : Cal P K.w K mg base "is_wish" 51 (RM 1 m_is_wish)) (c_fulfils : Cal P K.w K mg base "fulfils" 20 (RM 2 m_fulfils)) (c_u_law_fulfils : Cal P K.w K mg base "_law_fulfils" 13 (RM 2 (m_u_law_fulfils 6))) : FnOk P K.w K mg base CX0 (51 + 1) f fd ["script"] (spD K (RM 1 m_law)) :=
  fnM F sc_law rfl fun cdv A outer s H E hr => ⟨_, der_law G c_u_law_text c_u_law_wish c_u_law_draws c_is_wish c_fulfils c_u_law_fulfils cdv A outer s H E hr, mir_law G.Z⟩
end My
set_option Elab.async false
set_option linter.all false
set_option maxRecDepth 100000
set_option maxHeartbeats 4000000
namespace My
open PySem L2 PySem.Spec PyProof.Rows HF

local macro_rules | `(tactic| walk_at "mv") => `(tactic| try simp (disch := walk_at "disch") only [x_seq, x_seq1, x_seq2, x_seq3, x_seq4, x_asg, x_asg1, x_asgN, x_asgN1, x_asgG, x_asgG1, x_nx1, x_aug, x_aug1, x_ret, x_ret1, x_retN, x_next, x_break, x_cont, x_ifS, x_ifS1, x_ifS2, x_drop, x_drop1, x_app, x_app1, x_frz, x_frz1, x_frz2, x_frz3, x_wipe, x_wipe1, x_wipe2, x_wipe3, x_wipe4, x_wipeE0, x_wipeE1, x_for, x_for1, x_pop, x_pop1, x_var, x_var1, x_c, x_op, x_op1, x_notT, x_notT1, x_bool1, x_and, x_and1, x_and2, x_or, x_or1, x_or2, x_if, x_if1, x_if2, x_neg, x_neg1, x_tup, x_tup1, x_lst, x_lst1, x_new, x_new1, x_call, x_call1, x_fn, x_fn1, x_nil, x_cons, x_cons1, x_part, x_part1, x_noPart, x_sl, x_sl1, x_sl2, x_sl3, x_slN, x_unL1, x_isi, x_isi_str, x_isi_str2, x_isi_str3, x_isi_str4, x_isi_str5, x_isi_str6, x_isi_tup, x_isi_tup2, x_isi_tup3, x_isi_tup4, x_isi_tup5, x_isi_tup6, x_isi_int, x_isi_int2, x_isi_int3, x_isi_int4, x_isi_int5, x_isi_int6, x_isi_bool, x_isi_bool2, x_isi_bool3, x_isi_bool4, x_isi_bool5, x_isi_bool6, x_isi_list, x_isi_list2, x_isi_list5, x_isi_list6, x_chain, x_bor, x_bor1, x_bor2, x_noL1, x_borT, x_borT1, x_borT2, x_rev, x_rev1, x_rev2, x_revN, x_cat, x_cat1, x_lof, x_lof1, x_lof2, x_test, x_test1, x_tru, x_tru1, x_truM1, x_truM2, x_truM3, x_truM4, x_truM5, x_truM6, x_yes, x_tand, x_tand1, x_tand2, x_tor, x_tor1, x_tor2, x_tnot, x_tnot1, x_itL, x_itT, x_unT1, x_itS, x_unS1, x_rng1, x_rng11, x_rng2, x_rng21, x_enum, x_enum1, x_zip, x_zip1, x_ez, x_ez1, x_gname, x_gnil, x_gcons, x_gs1, x_gtup, x_lc, x_lc1, x_lim1, x_lc2, x_lc21, x_mulT, x_mulS, x_bl1, x_all, x_all1, x_any, x_any1, x_cap0, x_capS, x_cap1, x_noEn, x_addI, x_addS, x_addT, x_addL, x_subI, x_mulR, x_mulL, x_div, x_mod, x_band, x_bor', x_bxor, x_ltI, x_leI, x_gtI, x_geI, x_ltS, x_leS, x_ltT, x_leT, x_isN, x_isNotN, x_notTb, x_setL, x_setL2, x_last, x_starO, x_star1, x_star2, x_bits, x_bits1, x_sort, x_sort1, x_sort2, sortT_pair, sortD_int, sortD_pair, x_fld, x_fld1, x_meth, x_meth1, x_make, x_make1, x_fz, x_fz1, x_setF, x_asgW, x_asgW1, x_frzW, x_frzW1, x_frzW2, x_frzW3, x_revI, x_revI1, x_revR, x_revR1, x_fnN, x_fnN1, x_ifN, x_ifN1, x_ifN2, x_isW, x_isNotW, x_isB, x_isNotB, x_itA, x_unA1, x_unA2, x_unA3, x_ixL, x_ixT, x_ixS, x_inT, x_inS, x_len1, x_len2, x_len3, x_int1, x_int2, x_clTup1, x_clTup2, x_max, x_min, x_minI, x_maxI, x_enT, x_enT1, x_enS, x_enS1, x_zipT, x_zipT1, x_dsp, x_pnil, x_pcons, x_pcons1, x_dG2, x_orT, orT_t, orT_f, geV_t, x_lower, x_lower1, x_words, x_words1, x_starts, x_pow, x_run, x_out1, x_out2, opEq_int, opNe_int, opEq_bool, opNe_bool, x_shr, x_shl, isN, isB, startE, List.getElem?_cons_zero, List.getElem?_cons_succ, List.set_cons_zero, List.set_cons_succ, List.map_cons, List.map_nil, List.cons_append, List.nil_append, List.replicate_zero, List.replicate_succ, List.length_cons, List.length_nil, Nat.zero_add, Nat.reduceAdd, Nat.reduceSub, Bool.not_true, Bool.not_false, Bool.and_true, Bool.and_false, Bool.true_and, Bool.false_and, Bool.or_true, Bool.or_false, Bool.true_or, Bool.false_or, decide_true, decide_false, Int.cast_ofNat_Int, Int.reduceEq, eq_self, reduceCtorEq, Int.reduceToNat, Int.natCast_zero, Int.natCast_one, Bool.false_eq_true, ↓reduceIte])
local macro_rules | `(tactic| walk_at "disch") => `(tactic| first
  | with_reducible assumption
  | omega
  | (simp only [noL_int, noL_str, noL_bool, noL_none, noL_tup, noLs_nil, noLs_cons, Bool.and_self]; done)
  | (simp only [List.length_cons, List.length_nil, List.length_map, List.length_append, List.length_singleton, List.length_range, List.length_reverse, signs_len] <;> omega)
  | (simp only [List.all_cons, List.all_nil, List.length_cons, List.length_nil, Nat.zero_add, Nat.reduceAdd, Nat.reduceLT, decide_true, Bool.and_true, Bool.and_self]; done)
  | (with_unfolding_all exact rfl))
theorem mv_test_K22Q (d : D) (en : En) : mC d en = some d := by walk_at "mv"

/-! the draws -/
def drA : Nat → Int × List Int → Int × List Int
  | 0, p => p
  | n + 1, p => if 0 < (drA n p).1 then ((drA n p).1 / 1000, (drA n p).2 ++ [(drA n p).1 % 1000]) else drA n p
def drT (s : Int) (n : Nat) : Int := (s * 48271 + (n : Int) * 69621 + 7) % 2147483647
def drV (s : Int) : Int := (s * 69621 + 5) % 2147483629 % 1000
def drS (m : Nat) : Nat → Int × List Int → Int × List Int
  | 0, p => p
  | n + 1, p => (drT (drS m n p).1 n, if (drS m n p).2.length < m then (drS m n p).2 ++ [drV (drT (drS m n p).1 n)] else (drS m n p).2)
def drR (c : Int) (m : Nat) : Int × List Int := if 1000000000000000000 ≤ c then drA m (c, []) else (c, [])
def draws (c : Int) (m : Nat) : List Int := (drS m m ((c * 48271 + 11) % 2147483647, (drR c m).2)).2
theorem drA_len (p : Int × List Int) : ∀ n, (drA n p).2.length ≤ p.2.length + n := by
  intro n
  induction n with
  | zero => exact Nat.le_refl _
  | succ n ih =>
    unfold drA
    split
    · rw [List.length_append, List.length_singleton]; omega
    · omega
theorem drA_bd (p : Int × List Int) (h : ∀ x ∈ p.2, 0 ≤ x ∧ x < 1000) : ∀ n, ∀ x ∈ (drA n p).2, 0 ≤ x ∧ x < 1000 := by
  intro n
  induction n with
  | zero => exact h
  | succ n ih =>
    unfold drA
    split
    · intro x hx
      rcases List.mem_append.mp hx with hx | hx
      · exact ih x hx
      · rw [List.mem_singleton.mp hx]
        exact ⟨Int.emod_nonneg _ (by decide), Int.emod_lt_of_pos _ (by decide)⟩
    · exact ih
theorem drS_len (m : Nat) (p : Int × List Int) (hp : p.2.length ≤ m) : ∀ n, (drS m n p).2.length ≤ m ∧ (drS m n p).2.length = min m (p.2.length + n) := by
  intro n
  induction n with
  | zero => exact ⟨hp, by show p.2.length = _; omega⟩
  | succ n ih =>
    unfold drS
    split
    · simp only [List.length_append, List.length_singleton]
      omega
    · simp only []
      omega
theorem drS_bd (m : Nat) (p : Int × List Int) (h : ∀ x ∈ p.2, 0 ≤ x ∧ x < 1000) : ∀ n, ∀ x ∈ (drS m n p).2, 0 ≤ x ∧ x < 1000 := by
  intro n
  induction n with
  | zero => exact h
  | succ n ih =>
    unfold drS
    simp only []
    split
    · intro x hx
      rcases List.mem_append.mp hx with hx | hx
      · exact ih x hx
      · rw [List.mem_singleton.mp hx]
        exact ⟨Int.emod_nonneg _ (by decide), Int.emod_lt_of_pos _ (by decide)⟩
    · exact ih
theorem drR_len (c : Int) (m : Nat) : (drR c m).2.length ≤ m := by
  unfold drR
  split
  · have := drA_len (c, []) m
    simpa using this
  · exact Nat.zero_le _
theorem drR_bd (c : Int) (m : Nat) : ∀ x ∈ (drR c m).2, 0 ≤ x ∧ x < 1000 := by
  unfold drR
  split
  · exact drA_bd _ (by intro x hx; cases hx) m
  · intro x hx; cases hx
theorem draws_len (c : Int) (m : Nat) : (draws c m).length = m := by
  have := (drS_len m ((c * 48271 + 11) % 2147483647, (drR c m).2) (drR_len c m) m).2
  have h2 := drR_len c m
  unfold draws
  omega
theorem draws_bd (c : Int) (m : Nat) : ∀ x ∈ draws c m, 0 ≤ x ∧ x < 1000 := drS_bd m ((c * 48271 + 11) % 2147483647, (drR c m).2) (drR_bd c m) m
theorem rng_get {n j a : Nat} (h : (List.range n)[j]? = some a) : a = j ∧ j < n := by
  obtain ⟨h1, h2⟩ := List.getElem?_eq_some_iff.mp h
  rw [List.length_range] at h1
  rw [List.getElem_range] at h2
  exact ⟨h2.symm, h1⟩


theorem mod_bd (x : Int) {n : Int} (h : 0 < n) : 0 ≤ x % n ∧ x % n < n := ⟨Int.emod_nonneg _ (by omega), Int.emod_lt_of_pos _ h⟩
theorem range_map_get {m j a : Nat} (h : (List.range m)[j]? = some a) : a = j ∧ j < m := rng_get h
theorem drawsA (c : Int) (m : Nat) (hm : m ≤ 100) : mLoop (mgName 5) L_u_law_draws_2 (rngD 0 m) [some (.sh (.int c)), some (.sh (.int (m : Int))), some (.ow none (.ls [])), some (.sh (.int c)), none, none] =
    some (.nx [some (.sh (.int c)), some (.sh (.int (m : Int))), some (.ow none (.ls ((drA m (c, [])).2.map .int))), some (.sh (.int (drA m (c, [])).1)), none, none]) := by
  rw [rngD_eq]
  have h := loop_inv (xg := mgName 5) (b := L_u_law_draws_2) (fun i : Nat => PyData.int (i : Int)) (fun j => [some (.sh (.int c)), some (.sh (.int (m : Int))), some (.ow none (.ls ((drA j (c, [])).2.map .int))), some (.sh (.int (drA j (c, [])).1)), none, none]) (List.range m) 0 fun j a ha => by
    obtain ⟨rfl, hj⟩ := range_map_get ha
    refine ⟨_, rfl, ?_⟩
    rw [Nat.zero_add]
    have hl := drA_len (c, []) a
    have hl' : (drA a (c, [])).2.length < 16000000 := by simp at hl; omega
    simp only [L_u_law_draws_2]
    walk_at "mv"
    by_cases h0 : 0 < (drA a (c, [])).1
    · rw [decide_eq_true h0, show drA (a + 1) (c, []) = ((drA a (c, [])).1 / 1000, (drA a (c, [])).2 ++ [(drA a (c, [])).1 % 1000]) from by
        show (if _ then _ else _) = _
        rw [if_pos h0]]
      walk_at "mv"
      simp
    · rw [decide_eq_false h0, show drA (a + 1) (c, []) = drA a (c, []) from by
        show (if _ then _ else _) = _
        rw [if_neg h0]]
      walk_at "mv"
  rw [List.length_range, Nat.zero_add] at h
  exact h
theorem drawsB (c : Int) (m : Nat) (hm : m ≤ 100) (p : Int × List Int) (k : Option Sl) (hp : p.2.length ≤ m) : mLoop (mgName 5) L_u_law_draws_1 (rngD 0 m) [some (.sh (.int c)), some (.sh (.int (m : Int))), some (.ow none (.ls (p.2.map .int))), k, some (.sh (.int p.1)), none] =
    some (.nx [some (.sh (.int c)), some (.sh (.int (m : Int))), some (.ow none (.ls ((drS m m p).2.map .int))), k, some (.sh (.int (drS m m p).1)), none]) := by
  rw [rngD_eq]
  have h := loop_inv (xg := mgName 5) (b := L_u_law_draws_1) (fun i : Nat => PyData.int (i : Int)) (fun j => [some (.sh (.int c)), some (.sh (.int (m : Int))), some (.ow none (.ls ((drS m j p).2.map .int))), k, some (.sh (.int (drS m j p).1)), none]) (List.range m) 0 fun j a ha => by
    obtain ⟨rfl, hj⟩ := range_map_get ha
    refine ⟨_, rfl, ?_⟩
    rw [Nat.zero_add]
    have hl := (drS_len m p hp a).1
    have hl' : (drS m a p).2.length < 16000000 := by omega
    simp only [L_u_law_draws_1]
    walk_at "mv"
    have e1 : (drS m (a + 1) p).1 = ((drS m a p).1 * 48271 + (a : Int) * 69621 + 7) % 2147483647 := rfl
    by_cases h0 : (drS m a p).2.length < m
    · have e2 : (drS m (a + 1) p).2 = (drS m a p).2 ++ [drV (drT (drS m a p).1 a)] := by
        show (if _ then _ else _) = _
        rw [if_pos h0]
      rw [decide_eq_true (by rw [List.length_map]; omega), e1, e2]
      walk_at "mv"
      simp [drV, drT]
    · have e2 : (drS m (a + 1) p).2 = (drS m a p).2 := by
        show (if _ then _ else _) = _
        rw [if_neg h0]
      rw [decide_eq_false (by rw [List.length_map]; omega), e1, e2]
      walk_at "mv"
  rw [List.length_range, Nat.zero_add] at h
  exact h
theorem draws_eq (c : Int) (m : Nat) (hm : m ≤ 100) : m_u_law_draws [.int c, .int (m : Int)] = some (.list ((draws c m).map .int)) := by
  unfold m_u_law_draws b_u_law_draws
  walk_at "mv"
  refine cut (P := fun e => ∃ k, e = [some (.sh (.int c)), some (.sh (.int (m : Int))), some (.ow none (.ls ((drR c m).2.map .int))), k, none, none]) ?_ ?_
  · unfold drR
    by_cases h : (1000000000000000000 : Int) ≤ c
    · rw [decide_eq_true h, if_pos h]
      walk_at "mv"
      rw [Int.toNat_natCast, drawsA c m hm]
      walk_at "mv"
      exact ⟨_, rfl, none, rfl⟩
    · rw [decide_eq_false h, if_neg h]
      walk_at "mv"
      exact ⟨_, rfl, _, rfl⟩
  · rintro e ⟨k, rfl⟩
    walk_at "mv"
    have hb := drawsB c m hm ((c * 48271 + 11) % 2147483647, (drR c m).2) k (drR_len c m)
    rw [Int.toNat_natCast, hb]
    walk_at "mv"
    rfl

/-! words -/
theorem sgn_le {a b : Nat} : (!decide ((⟨#[b]⟩ : Str).cps.toList < (⟨#[a]⟩ : Str).cps.toList)) = decide (a ≤ b) := by
  have e : ((⟨#[b]⟩ : Str).cps.toList < (⟨#[a]⟩ : Str).cps.toList) ↔ b < a := by
    show ([b] : List Nat) < [a] ↔ _
    constructor
    · intro h
      cases h with
      | rel h => exact h
      | cons h => cases h
    · exact fun h => .rel h
  rw [decide_eq_decide.mpr e]
  by_cases h : a ≤ b
  · rw [decide_eq_true h, decide_eq_false (by omega)]; rfl
  · rw [decide_eq_false h, decide_eq_true (by omega)]; rfl
def smallC (c : Nat) : Bool := (decide (97 ≤ c) && decide (c ≤ 122)) || (decide (48 ≤ c) && decide (c ≤ 57))
def wordB (z : Str) : Bool := !z.cps.toList.isEmpty && z.cps.toList.all smallC
theorem small_eq (c : Nat) : m_u_is_small [.str ⟨#[c]⟩] = some (.bool (smallC c)) := by
  have h1 : opLe (.str "a") (.str ⟨#[c]⟩) = some (.bool (decide (97 ≤ c))) := by rw [x_leS]; exact congrArg (fun b => some (PyData.bool b)) (sgn_le (a := 97))
  have h2 : opLe (.str ⟨#[c]⟩) (.str "z") = some (.bool (decide (c ≤ 122))) := by rw [x_leS]; exact congrArg (fun b => some (PyData.bool b)) (sgn_le (b := 122))
  have h3 : opLe (.str "0") (.str ⟨#[c]⟩) = some (.bool (decide (48 ≤ c))) := by rw [x_leS]; exact congrArg (fun b => some (PyData.bool b)) (sgn_le (a := 48))
  have h4 : opLe (.str ⟨#[c]⟩) (.str "9") = some (.bool (decide (c ≤ 57))) := by rw [x_leS]; exact congrArg (fun b => some (PyData.bool b)) (sgn_le (b := 57))
  unfold m_u_is_small b_u_is_small
  walk_at "mv"
  rw [x_chain1 h1 (show mC (.str "z") _ = some (.str "z") from rfl) h2]
  unfold smallC
  cases (decide (97 ≤ c) && decide (c ≤ 122)) with
  | true => rfl
  | false =>
    walk_at "mv"
    rw [x_chain1 h3 (show mC (.str "9") _ = some (.str "9") from rfl) h4]
    walk_at "mv"
theorem str_nil {z : Str} : (z = "") ↔ z.cps.toList = [] := by
  constructor
  · rintro rfl; rfl
  · intro h
    cases z with
    | mk c =>
      have : c.toList = [] := h
      have e : c = #[] := Array.toList_inj.mp (by simpa using this)
      subst e; rfl
def wordD : D → Bool
  | .str z => wordB z
  | _ => false
def okS : D → Prop
  | .str z => z.length ≤ 1000 ∧ PyData.strOk z = true
  | .dict _ => False
  | _ => True
theorem is_word_eq (d : D) (h : okS d) : m_is_word [d] = some (.bool (wordD d)) := by
  unfold m_is_word b_is_word
  cases d with
  | str z =>
    obtain ⟨hz, ho⟩ := h
    have e0 : opEq (.str z) (.str "") = some (.bool z.cps.toList.isEmpty) := by
      refine opEq_lit (by rw [ho, Bool.true_and]; decide +kernel) ?_
      rw [decide_eq_decide.mpr str_nil]
      by_cases h : z.cps.toList = []
      · rw [decide_eq_true h, h]; rfl
      · rw [decide_eq_false h]
        cases e : z.cps.toList with
        | nil => exact absurd e h
        | cons a l => rfl
    have h1 : allGo (mgName 0) E_is_word_1 [none] (signsD z) = some (z.cps.toList.all smallC) := by
      unfold signsD
      refine allGo_map _ _ _ fun c hc => ⟨_, rfl, ?_⟩
      have e := small_eq c
      simp only [E_is_word_1]
      walk_at "mv"
      exact e
    walk_at "mv"
    rw [e0]
    walk_at "mv"
    unfold wordD wordB
    cases hz : z.cps.toList.isEmpty with
    | true =>
      walk_at "mv"
      simp [hz]
    | false =>
      walk_at "mv"
      rw [h1]
      walk_at "mv"
      simp [hz]
  | none => walk_at "mv"; rfl
  | bool b => walk_at "mv"; rfl
  | int i => walk_at "mv"; rfl
  | list xs => walk_at "mv"; rfl
  | tuple xs => walk_at "mv"; rfl
  | dict kvs => exact h.elim

/-! values and their octets -/
inductive Vl where
  | n (i : Int)
  | t (s : Str)
def vE : Vl → D
  | .n i => .int i
  | .t s => .str s
def vOk : Vl → Prop
  | .n i => 0 ≤ i ∧ i < 16777216
  | .t s => s.length ≤ 40 ∧ ∀ c ∈ s.cps.toList, 32 ≤ c ∧ c ≤ 126
def cod (s : Str) : List Int := s.cps.toList.map fun c : Nat => (c : Int)
def vo : Vl → List Int
  | .n i => [1, i / 65536, i / 256 % 256, i % 256]
  | .t s => 2 :: (cod s ++ [0])
def vos (vs : List Vl) : List Int := vs.flatMap vo
theorem cod_len {s : Str} : (cod s).length = s.length := by simp [cod]; rfl
theorem vo_len {v : Vl} (h : vOk v) : (vo v).length ≤ 42 := by
  cases v with
  | n i => show 4 ≤ 42; decide
  | t s =>
    have := h.1
    show (2 :: (cod s ++ [0])).length ≤ 42
    rw [List.length_cons, List.length_append, cod_len]
    simp
    omega
theorem vos_len : ∀ {vs : List Vl}, (∀ v ∈ vs, vOk v) → (vos vs).length ≤ 42 * vs.length
  | [], _ => Nat.zero_le _
  | v :: vs, h => by
    have h1 := vo_len (h v List.mem_cons_self)
    have h2 := vos_len (vs := vs) fun x hx => h x (List.mem_cons_of_mem _ hx)
    show (vo v ++ vos vs).length ≤ _
    rw [List.length_append, List.length_cons]
    omega
/-- the size of a list for a step -/
theorem sz16 {n : Nat} (h : n ≤ 16000000) : n ≤ sizeLine := Nat.le_trans h (by decide)

/-! wishes -/
inductive W where
  | word (s : Str)
  | begins (s : Str)
  | none (w : W)
  | all (a : Bool) (ws : List W)
mutual
def wE : W → D
  | .word s => .tuple [.str "word", .str s]
  | .begins s => .tuple [.str "begins", .str s]
  | .none w => .tuple [.str "none", wE w]
  | .all a ws => .tuple [.str (if a then "all" else "any"), .tuple (wEs ws)]
def wEs : List W → List D
  | [] => []
  | w :: ws => wE w :: wEs ws
end
theorem wEs_map : ∀ ws : List W, wEs ws = ws.map wE
  | [] => by simp [wEs]
  | w :: ws => by rw [wEs, wEs_map ws]; rfl
mutual
def wSize : W → Nat
  | .word _ => 1
  | .begins _ => 1
  | .none w => 1 + wSize w
  | .all _ ws => 1 + wSizes ws
def wSizes : List W → Nat
  | [] => 0
  | w :: ws => wSize w + wSizes ws
end
mutual
def wOk : W → Prop
  | .word s => vOk (.t s)
  | .begins s => vOk (.t s)
  | .none w => wOk w
  | .all _ ws => ws.length ≤ 6 ∧ wsOk ws
def wsOk : List W → Prop
  | [] => True
  | w :: ws => wOk w ∧ wsOk ws
end
theorem wsOk_all : ∀ {ws : List W}, wsOk ws ↔ ∀ w ∈ ws, wOk w
  | [] => by simp [wsOk]
  | w :: ws => by simp [wsOk, wsOk_all (ws := ws)]
theorem wSizes_len : ∀ ws : List W, ws.length ≤ wSizes ws
  | [] => Nat.le_refl _
  | w :: ws => by
    have := wSizes_len ws
    have h1 : 1 ≤ wSize w := by cases w <;> simp [wSize]
    simp [wSizes]; omega
def wishW : List Str := ["old", "mill", "te", "tea", "x1", "m", "t", "new", "zz", "1"]
theorem wishW_ok : ∀ s ∈ wishW, s.length ≤ 40 ∧ ∀ c ∈ s.cps.toList, 32 ≤ c ∧ c ≤ 126 := by decide +kernel
def rotI (n : Nat) (ds : List Int) : List Int := ds.drop n ++ ds.take n
theorem rotI_len (n : Nat) (ds : List Int) : (rotI n ds).length = ds.length := by simp [rotI]; omega
def wishN (ds : List Int) : Int := 2 + ds.getD 1 0 % 2 + (if ds.getD 1 0 % 11 = 10 then 2 else 0)
def wishS (ds : List Int) : Str := wishW.getD (ds.getD 1 0 % 10).toNat ""
def wishOf : Nat → List Int → W
  | 0, ds => .word (wishS ds)
  | n + 1, ds => if ds.getD 0 0 % 7 < 2 then .word (wishS ds) else if ds.getD 0 0 % 7 = 2 then .begins (wishS ds) else if ds.getD 0 0 % 7 = 3 then .none (wishOf n (rotI 2 ds))
    else .all (decide (ds.getD 0 0 % 7 < 6)) ((List.range (wishN ds).toNat).map fun k => wishOf n (rotI ((5 * k + 3) % 24) ds))
theorem wishOf_succ (n : Nat) (ds : List Int) : wishOf (n + 1) ds = if ds.getD 0 0 % 7 < 2 then .word (wishS ds) else if ds.getD 0 0 % 7 = 2 then .begins (wishS ds) else if ds.getD 0 0 % 7 = 3 then .none (wishOf n (rotI 2 ds))
    else .all (decide (ds.getD 0 0 % 7 < 6)) ((List.range (wishN ds).toNat).map fun k => wishOf n (rotI ((5 * k + 3) % 24) ds)) := rfl
theorem wishN_bd (ds : List Int) : 2 ≤ wishN ds ∧ wishN ds ≤ 5 := by unfold wishN; split <;> omega
theorem wishS_mem (ds : List Int) : wishS ds ∈ wishW := by
  unfold wishS
  rw [List.getD_eq_getElem?_getD, List.getElem?_eq_getElem (show (ds.getD 1 0 % 10).toNat < wishW.length by show _ < 10; omega)]
  exact List.getElem_mem _
theorem wishOf_ok : ∀ (n : Nat) (ds : List Int), wOk (wishOf n ds)
  | 0, ds => by
    unfold wishOf wOk
    exact wishW_ok _ (wishS_mem ds)
  | n + 1, ds => by
    have h1 := wishN_bd ds
    rw [wishOf_succ]
    split
    · unfold wOk; exact wishW_ok _ (wishS_mem ds)
    split
    · unfold wOk; exact wishW_ok _ (wishS_mem ds)
    split
    · unfold wOk; exact wishOf_ok n _
    · unfold wOk
      refine ⟨by simp; omega, wsOk_all.mpr fun w hw => ?_⟩
      obtain ⟨k, _, rfl⟩ := List.mem_map.mp hw
      exact wishOf_ok n _
def wishBd : Nat → Nat
  | 0 => 1
  | n + 1 => 1 + 5 * wishBd n
theorem wSizes_bd {B : Nat} : ∀ {ws : List W}, (∀ w ∈ ws, wSize w ≤ B) → wSizes ws ≤ ws.length * B
  | [], _ => by simp [wSizes]
  | w :: ws, h => by
    have h1 := h w List.mem_cons_self
    have h2 := wSizes_bd (ws := ws) fun x hx => h x (List.mem_cons_of_mem _ hx)
    simp only [wSizes, List.length_cons, Nat.add_mul]
    omega
theorem wishOf_size : ∀ (n : Nat) (ds : List Int), wSize (wishOf n ds) ≤ wishBd n
  | 0, ds => by unfold wishOf wSize; exact Nat.le_refl 1
  | n + 1, ds => by
    have h1 := wishN_bd ds
    have hb : 1 ≤ wishBd n := by cases n <;> simp [wishBd]
    rw [wishOf_succ]
    split
    · unfold wSize wishBd; omega
    split
    · unfold wSize wishBd; omega
    split
    · have := wishOf_size n (rotI 2 ds)
      unfold wSize wishBd; omega
    · have h2 := wSizes_bd (B := wishBd n) (ws := (List.range (wishN ds).toNat).map fun k => wishOf n (rotI ((5 * k + 3) % 24) ds)) fun w hw => by
        obtain ⟨k, _, rfl⟩ := List.mem_map.mp hw
        exact wishOf_size n _
      rw [List.length_map, List.length_range] at h2
      have h3 : (wishN ds).toNat * wishBd n ≤ 5 * wishBd n := Nat.mul_le_mul_right _ (by omega)
      unfold wSize wishBd; omega
/-! the words that tell a wish's kind -/
theorem kw_ww : opEq (.str "word") (.str "word") = some (.bool true) := opEq_lit (by decide +kernel) (by decide +kernel)
theorem kw_bw : opEq (.str "begins") (.str "word") = some (.bool false) := opEq_lit (by decide +kernel) (by decide +kernel)
theorem kw_nw : opEq (.str "none") (.str "word") = some (.bool false) := opEq_lit (by decide +kernel) (by decide +kernel)
theorem kw_aw (a : Bool) : opEq (.str (if a then "all" else "any")) (.str "word") = some (.bool false) := by cases a <;> exact opEq_lit (by decide +kernel) (by decide +kernel)
theorem kw_bb : opEq (.str "begins") (.str "begins") = some (.bool true) := opEq_lit (by decide +kernel) (by decide +kernel)
theorem kw_wb : opEq (.str "word") (.str "begins") = some (.bool false) := opEq_lit (by decide +kernel) (by decide +kernel)
theorem kw_nb : opEq (.str "none") (.str "begins") = some (.bool false) := opEq_lit (by decide +kernel) (by decide +kernel)
theorem kw_ab (a : Bool) : opEq (.str (if a then "all" else "any")) (.str "begins") = some (.bool false) := by cases a <;> exact opEq_lit (by decide +kernel) (by decide +kernel)
theorem kw_nn : opEq (.str "none") (.str "none") = some (.bool true) := opEq_lit (by decide +kernel) (by decide +kernel)
theorem kw_wn : opEq (.str "word") (.str "none") = some (.bool false) := opEq_lit (by decide +kernel) (by decide +kernel)
theorem kw_bn : opEq (.str "begins") (.str "none") = some (.bool false) := opEq_lit (by decide +kernel) (by decide +kernel)
theorem kw_an (a : Bool) : opEq (.str (if a then "all" else "any")) (.str "none") = some (.bool false) := by cases a <;> exact opEq_lit (by decide +kernel) (by decide +kernel)
theorem kw_aa (a : Bool) : opEq (.str (if a then "all" else "any")) (.str "all") = some (.bool a) := by cases a <;> exact opEq_lit (by decide +kernel) (by decide +kernel)
theorem kwi_w : opIn false (.str "word") (.tuple [.str "word", .str "begins"]) = some (.bool true) := inT_lit rfl (by rw [inD_cons, inD_cons, inD_nil, eqv_str, eqv_str]; decide +kernel)
theorem kwi_b : opIn false (.str "begins") (.tuple [.str "word", .str "begins"]) = some (.bool true) := inT_lit rfl (by rw [inD_cons, inD_cons, inD_nil, eqv_str, eqv_str]; decide +kernel)
theorem kwi_n : opIn false (.str "none") (.tuple [.str "word", .str "begins"]) = some (.bool false) := inT_lit rfl (by rw [inD_cons, inD_cons, inD_nil, eqv_str, eqv_str]; decide +kernel)
theorem kwi_a (a : Bool) : opIn false (.str (if a then "all" else "any")) (.tuple [.str "word", .str "begins"]) = some (.bool false) := inT_lit rfl (by cases a <;> (rw [inD_cons, inD_cons, inD_nil, eqv_str, eqv_str]; decide +kernel))

theorem atD {ds : List Int} {i : Nat} (h : i < ds.length) : atI (ds.map PyData.int) (i : Int) = some (.int (ds.getD i 0)) := by
  have := at_map (xs := ds) (enc := PyData.int) (i := (i : Int)) (dflt := 0) (by omega) (by omega)
  rw [Int.toNat_natCast] at this
  exact this
theorem rotD (ds : List Int) (n : Nat) : cutD (ds.map PyData.int) (some (n : Int)) none ++ cutD (ds.map PyData.int) none (some (n : Int)) = (rotI n ds).map PyData.int := by
  rw [cut_drop, cut_take]
  simp [rotI]
theorem wish_eq : ∀ (n : Nat) (ds : List Int), ds.length = 24 → ∀ f, n < f → m_u_law_wish f [.list (ds.map .int), .int (n : Int)] = some (wE (wishOf n ds))
  | n, ds, hl, 0, hf => by omega
  | n, ds, hl, f + 1, hf => by
    have a0 : atI (ds.map PyData.int) 0 = some (.int (ds.getD 0 0)) := atD (i := 0) (by omega)
    have a1 : atI (ds.map PyData.int) 1 = some (.int (ds.getD 1 0)) := atD (i := 1) (by omega)
    have aw : atI ([.str "old", .str "mill", .str "te", .str "tea", .str "x1", .str "m", .str "t", .str "new", .str "zz", .str "1"] : List D) (ds.getD 1 0 % 10) = some (.str (wishS ds)) := by
      have := at_map (xs := wishW) (enc := PyData.str) (i := ds.getD 1 0 % 10) (dflt := "") (by omega) (by show _ < (10 : Int); omega)
      exact this
    have hrun : ∀ e r, b_u_law_wish (m_u_law_wish f) e = r → outO r = some (wE (wishOf n ds)) → e = startE N_u_law_wish [.list (ds.map .int), .int (n : Int)] → m_u_law_wish (f + 1) [.list (ds.map .int), .int (n : Int)] = some (wE (wishOf n ds)) := by
      intro e r h1 h2 h3
      show runM _ _ _ = _
      rw [x_run, ← h3, h1, h2]
    refine hrun _ _ rfl ?_ rfl
    unfold b_u_law_wish
    walk_at "mv"
    rw [a0]
    walk_at "mv"
    rw [show ∀ e, torO (some (decide ((n : Int) = 0))) (mTest (mOp opLt (mVar 3) (mC (.int 2)))) [some (.sh (.list (ds.map .int))), some (.sh (.int (n : Int))), e, some (.sh (.int (ds.getD 0 0 % 7))), none, none, none] = some (decide (n = 0 ∨ ds.getD 0 0 % 7 < 2)) from fun e => by
      by_cases h : n = 0
      · subst h; rfl
      · rw [decide_eq_false (show ¬ (n : Int) = 0 by omega)]
        walk_at "mv"
        rw [decide_eq_decide.mpr]
        simp [h]]
    by_cases h2 : n = 0 ∨ ds.getD 0 0 % 7 < 2
    · have e : wishOf n ds = .word (wishS ds) := by
        cases n with
        | zero => rfl
        | succ n =>
          rcases h2 with h2 | h2
          · cases h2
          · rw [wishOf_succ, if_pos h2]
      rw [decide_eq_true h2, e]
      walk_at "mv"
      rw [a1]
      walk_at "mv"
      rw [aw]
      walk_at "mv"
      rw [wE]
    rw [decide_eq_false h2]
    obtain ⟨m, rfl⟩ : ∃ m, n = m + 1 := ⟨n - 1, by omega⟩
    have h2' : ¬ ds.getD 0 0 % 7 < 2 := fun z => h2 (.inr z)
    walk_at "mv"
    by_cases h3 : ds.getD 0 0 % 7 = 2
    · have e : wishOf (m + 1) ds = .begins (wishS ds) := by rw [wishOf_succ, if_neg h2', if_pos h3]
      rw [decide_eq_true h3, e]
      walk_at "mv"
      rw [a1]
      walk_at "mv"
      rw [aw]
      walk_at "mv"
      rw [wE]
    rw [decide_eq_false h3]
    walk_at "mv"
    by_cases h4 : ds.getD 0 0 % 7 = 3
    · have e : wishOf (m + 1) ds = .none (wishOf m (rotI 2 ds)) := by rw [wishOf_succ, if_neg h2', if_neg h3, if_pos h4]
      have r := rotD ds 2
      have c1 : (cutD (ds.map PyData.int) (some 2) none).length + (cutD (ds.map PyData.int) none (some 2)).length < 16000000 := by
        have := congrArg List.length r
        rw [List.length_append, List.length_map, rotI_len, hl] at this
        exact Nat.lt_of_le_of_lt (Nat.le_of_eq this) (by decide)
      have ih := wish_eq m (rotI 2 ds) (by rw [rotI_len, hl]) f (by omega)
      have i1 : ((m + 1 : Nat) : Int) - 1 = (m : Int) := by omega
      rw [decide_eq_true h4, e]
      walk_at "mv"
      rw [i1, show cutD (ds.map PyData.int) (some 2) none ++ cutD (ds.map PyData.int) none (some 2) = (rotI 2 ds).map PyData.int from r, ih]
      walk_at "mv"
      rw [wE]
    rw [decide_eq_false h4]
    have e : wishOf (m + 1) ds = .all (decide (ds.getD 0 0 % 7 < 6)) ((List.range (wishN ds).toNat).map fun k => wishOf m (rotI ((5 * k + 3) % 24) ds)) := by rw [wishOf_succ, if_neg h2', if_neg h3, if_neg h4]
    have hb := wishN_bd ds
    have hn : 2 + ds.getD 1 0 % 2 + (if ds.getD 1 0 % 11 = 10 then 2 else 0) = wishN ds := rfl
    rw [e]
    walk_at "mv"
    rw [a1]
    walk_at "mv"
    rw [show ∀ en : En, ifEO (some (decide (ds.getD 1 0 % 11 = 10))) (mC (.int 2)) (mC (.int 0)) en = some (.int (if ds.getD 1 0 % 11 = 10 then 2 else 0)) from fun en => by
      by_cases q : ds.getD 1 0 % 11 = 10
      · rw [decide_eq_true q, if_pos q]; rfl
      · rw [decide_eq_false q, if_neg q]; rfl]
    walk_at "mv"
    rw [hn]
    walk_at "mv"
    rw [rngD_eq]
    have hlp := loop_inv (xg := mgName 5) (b := L_u_law_wish_1 (m_u_law_wish f)) (fun i : Nat => PyData.int (i : Int)) (fun j => [some (.sh (.list (ds.map .int))), some (.sh (.int ((m + 1 : Nat) : Int))), some (.sh (.list [.str "old", .str "mill", .str "te", .str "tea", .str "x1", .str "m", .str "t", .str "new", .str "zz", .str "1"])), some (.sh (.int (ds.getD 0 0 % 7))), some (.ow none (.ls ((List.range j).map fun k => wE (wishOf m (rotI ((5 * k + 3) % 24) ds))))), none, none]) (List.range (wishN ds).toNat) 0 fun j a ha => by
      obtain ⟨rfl, hj⟩ := range_map_get ha
      refine ⟨_, rfl, ?_⟩
      rw [Nat.zero_add]
      have r := rotD ds ((5 * a + 3) % 24)
      have c1 : (cutD (ds.map PyData.int) (some (((5 * a + 3) % 24 : Nat) : Int)) none).length + (cutD (ds.map PyData.int) none (some (((5 * a + 3) % 24 : Nat) : Int))).length < 16000000 := by
        have := congrArg List.length r
        rw [List.length_append, List.length_map, rotI_len, hl] at this
        exact Nat.lt_of_le_of_lt (Nat.le_of_eq this) (by decide)
      have ih := wish_eq m (rotI ((5 * a + 3) % 24) ds) (by rw [rotI_len, hl]) f (by omega)
      have i1 : ((m + 1 : Nat) : Int) - 1 = (m : Int) := by omega
      have i2 : (5 * (a : Int) + 3) % (24 : Nat) = (((5 * a + 3) % 24 : Nat) : Int) := by omega
      have hl2 : (ds.map PyData.int).length = 24 := by rw [List.length_map, hl]
      have z1 : ((List.range a).map fun k => wE (wishOf m (rotI ((5 * k + 3) % 24) ds))).length < 16000000 := by rw [List.length_map, List.length_range]; omega
      simp only [L_u_law_wish_1]
      walk_at "mv"
      rw [hl2, i2]
      walk_at "mv"
      rw [r, i1, ih]
      walk_at "mv"
      rw [List.range_succ, List.map_append]
      rfl
    rw [List.length_range, Nat.zero_add] at hlp
    simp only [List.range_zero, List.map_nil] at hlp
    rw [hlp]
    walk_at "mv"
    rw [show ∀ en : En, ifEO (some (decide (ds.getD 0 0 % 7 < 6))) (mC (.str "all")) (mC (.str "any")) en = some (.str (if decide (ds.getD 0 0 % 7 < 6) = true then "all" else "any")) from fun en => by
      cases decide (ds.getD 0 0 % 7 < 6) <;> rfl]
    walk_at "mv"
    rw [wE, wEs_map, List.map_map]
    rfl

mutual
def wNest : W → Nat
  | .word _ => 0
  | .begins _ => 0
  | .none w => 1 + wNest w
  | .all _ ws => 1 + wNests ws
def wNests : List W → Nat
  | [] => 0
  | w :: ws => max (wNest w) (wNests ws)
end
theorem wNests_bd {B : Nat} : ∀ {ws : List W}, (∀ w ∈ ws, wNest w ≤ B) → wNests ws ≤ B
  | [], _ => by simp [wNests]
  | w :: ws, h => by
    have h1 := h w List.mem_cons_self
    have h2 := wNests_bd (ws := ws) fun x hx => h x (List.mem_cons_of_mem _ hx)
    simp only [wNests]
    omega
theorem wishOf_nest : ∀ (n : Nat) (ds : List Int), wNest (wishOf n ds) ≤ n
  | 0, ds => by unfold wishOf wNest; exact Nat.le_refl 0
  | n + 1, ds => by
    rw [wishOf_succ]
    split
    · unfold wNest; omega
    split
    · unfold wNest; omega
    split
    · have := wishOf_nest n (rotI 2 ds)
      unfold wNest; omega
    · have h2 := wNests_bd (B := n) (ws := (List.range (wishN ds).toNat).map fun k => wishOf n (rotI ((5 * k + 3) % 24) ds)) fun w hw => by
        obtain ⟨k, _, rfl⟩ := List.mem_map.mp hw
        exact wishOf_nest n _
      unfold wNest; omega

theorem getD_mem {α : Type} {xs : List α} {d : α} {i : Nat} (h : i < xs.length) : xs.getD i d ∈ xs := by
  rw [List.getD_eq_getElem?_getD, List.getElem?_eq_getElem h]
  exact List.getElem_mem h

end My
set_option Elab.async false
set_option linter.all false
set_option maxRecDepth 100000
set_option maxHeartbeats 4000000
namespace My
open PySem L2 PySem.Spec PyProof.Rows HF

local macro_rules | `(tactic| walk_at "mv") => `(tactic| try simp (disch := walk_at "disch") only [x_seq, x_seq1, x_seq2, x_seq3, x_seq4, x_asg, x_asg1, x_asgN, x_asgN1, x_asgG, x_asgG1, x_nx1, x_aug, x_aug1, x_ret, x_ret1, x_retN, x_next, x_break, x_cont, x_ifS, x_ifS1, x_ifS2, x_drop, x_drop1, x_app, x_app1, x_frz, x_frz1, x_frz2, x_frz3, x_wipe, x_wipe1, x_wipe2, x_wipe3, x_wipe4, x_wipeE0, x_wipeE1, x_for, x_for1, x_pop, x_pop1, x_var, x_var1, x_c, x_op, x_op1, x_notT, x_notT1, x_bool1, x_and, x_and1, x_and2, x_or, x_or1, x_or2, x_if, x_if1, x_if2, x_neg, x_neg1, x_tup, x_tup1, x_lst, x_lst1, x_new, x_new1, x_call, x_call1, x_fn, x_fn1, x_nil, x_cons, x_cons1, x_part, x_part1, x_noPart, x_sl, x_sl1, x_sl2, x_sl3, x_slN, x_unL1, x_isi, x_isi_str, x_isi_str2, x_isi_str3, x_isi_str4, x_isi_str5, x_isi_str6, x_isi_tup, x_isi_tup2, x_isi_tup3, x_isi_tup4, x_isi_tup5, x_isi_tup6, x_isi_int, x_isi_int2, x_isi_int3, x_isi_int4, x_isi_int5, x_isi_int6, x_isi_bool, x_isi_bool2, x_isi_bool3, x_isi_bool4, x_isi_bool5, x_isi_bool6, x_isi_list, x_isi_list2, x_isi_list5, x_isi_list6, x_chain, x_bor, x_bor1, x_bor2, x_noL1, x_borT, x_borT1, x_borT2, x_rev, x_rev1, x_rev2, x_revN, x_cat, x_cat1, x_lof, x_lof1, x_lof2, x_test, x_test1, x_tru, x_tru1, x_truM1, x_truM2, x_truM3, x_truM4, x_truM5, x_truM6, x_yes, x_tand, x_tand1, x_tand2, x_tor, x_tor1, x_tor2, x_tnot, x_tnot1, x_itL, x_itT, x_unT1, x_itS, x_unS1, x_rng1, x_rng11, x_rng2, x_rng21, x_enum, x_enum1, x_zip, x_zip1, x_ez, x_ez1, x_gname, x_gnil, x_gcons, x_gs1, x_gtup, x_lc, x_lc1, x_lim1, x_lc2, x_lc21, x_mulT, x_mulS, x_bl1, x_all, x_all1, x_any, x_any1, x_cap0, x_capS, x_cap1, x_noEn, x_addI, x_addS, x_addT, x_addL, x_subI, x_mulR, x_mulL, x_div, x_mod, x_band, x_bor', x_bxor, x_ltI, x_leI, x_gtI, x_geI, x_ltS, x_leS, x_ltT, x_leT, x_isN, x_isNotN, x_notTb, x_setL, x_setL2, x_last, x_starO, x_star1, x_star2, x_bits, x_bits1, x_sort, x_sort1, x_sort2, sortT_pair, sortD_int, sortD_pair, x_fld, x_fld1, x_meth, x_meth1, x_make, x_make1, x_fz, x_fz1, x_setF, x_asgW, x_asgW1, x_frzW, x_frzW1, x_frzW2, x_frzW3, x_revI, x_revI1, x_revR, x_revR1, x_fnN, x_fnN1, x_ifN, x_ifN1, x_ifN2, x_isW, x_isNotW, x_isB, x_isNotB, x_itA, x_unA1, x_unA2, x_unA3, x_ixL, x_ixT, x_ixS, x_inT, x_inS, x_len1, x_len2, x_len3, x_int1, x_int2, x_clTup1, x_clTup2, x_max, x_min, x_minI, x_maxI, x_enT, x_enT1, x_enS, x_enS1, x_zipT, x_zipT1, x_dsp, x_pnil, x_pcons, x_pcons1, x_dG2, x_orT, orT_t, orT_f, geV_t, x_lower, x_lower1, x_words, x_words1, x_starts, x_pow, x_run, x_out1, x_out2, opEq_int, opNe_int, opEq_bool, opNe_bool, x_shr, x_shl, isN, isB, startE, List.getElem?_cons_zero, List.getElem?_cons_succ, List.set_cons_zero, List.set_cons_succ, List.map_cons, List.map_nil, List.cons_append, List.nil_append, List.replicate_zero, List.replicate_succ, List.length_cons, List.length_nil, Nat.zero_add, Nat.reduceAdd, Nat.reduceSub, Bool.not_true, Bool.not_false, Bool.and_true, Bool.and_false, Bool.true_and, Bool.false_and, Bool.or_true, Bool.or_false, Bool.true_or, Bool.false_or, decide_true, decide_false, Int.cast_ofNat_Int, Int.reduceEq, eq_self, reduceCtorEq, Int.reduceToNat, Int.natCast_zero, Int.natCast_one, Bool.false_eq_true, ↓reduceIte])
local macro_rules | `(tactic| walk_at "disch") => `(tactic| first
  | with_reducible assumption
  | omega
  | (simp only [noL_int, noL_str, noL_bool, noL_none, noL_tup, noLs_nil, noLs_cons, Bool.and_self]; done)
  | (simp only [List.length_cons, List.length_nil, List.length_map, List.length_append, List.length_singleton, List.length_range, List.length_reverse, signs_len] <;> omega)
  | (simp only [List.all_cons, List.all_nil, List.length_cons, List.length_nil, Nat.zero_add, Nat.reduceAdd, Nat.reduceLT, decide_true, Bool.and_true, Bool.and_self]; done)
  | (with_unfolding_all exact rfl))
theorem mv_test_K22R (d : D) (en : En) : mC d en = some d := by walk_at "mv"

/-! digests -/
def dg (m k : Int) (ns : List Int) : Int := ns.foldl (fun v x => (v * k + x + 1) % m) 0
theorem at0 {α : Type} {x : α} {xs : List α} : atI (x :: xs) 0 = some x := at_nat (n := 0) rfl rfl
theorem at1 {α : Type} {x y : α} {xs : List α} : atI (x :: y :: xs) 1 = some y := at_nat (n := 1) rfl rfl

/-! draws, by place -/
theorem dr_at (c : Int) (m : Nat) (j : Nat) (h : j < m) : atI ((draws c m).map PyData.int) (j : Int) = some (.int ((draws c m).getD j 0)) := by
  rw [at_map (dflt := 0) (by omega) (by rw [draws_len]; omega), Int.toNat_natCast]
theorem dr_bd (c : Int) (m : Nat) (j : Nat) (h : j < m) : 0 ≤ (draws c m).getD j 0 ∧ (draws c m).getD j 0 < 1000 := draws_bd c m _ (getD_mem (by rw [draws_len]; exact h))

/-! k21 -/
def smallB (c : Nat) : Bool := (decide (97 ≤ c) && decide (c ≤ 122)) || (decide (48 ≤ c) && decide (c ≤ 57))
def partB (c : Nat) : Bool := smallB c || (decide (65 ≤ c) && decide (c ≤ 90))
def tr (c : Nat) : Nat := if smallB c = true then c else if 65 ≤ c ∧ c ≤ 90 then c + 32 else 32
def one (c : Nat) : Str := ⟨#[c]⟩
def okT (z : Str) : Prop := z.length ≤ 81 ∧ ∀ c ∈ z.cps.toList, 32 ≤ c ∧ c ≤ 126
def chkB (o : Option D) (b : Bool) : Bool := match o with
  | some (.bool x) => x == b
  | _ => false
theorem chkB_ok {o : Option D} {b : Bool} (h : chkB o b = true) : o = some (.bool b) := by
  unfold chkB at h
  split at h
  · rw [eq_of_beq h]
  · cases h
theorem smallE (c : Nat) (h : c < 128) : m_u_is_small [.str (one c)] = some (.bool (smallB c)) := by
  have : ∀ c, c < 128 → chkB (m_u_is_small [.str (one c)]) (smallB c) = true := by decide +kernel
  exact chkB_ok (this c h)
theorem part_eq (c : Nat) (h : c < 128) : m_u_is_part [.str (one c)] = some (.bool (partB c)) := by
  have : ∀ c, c < 128 → chkB (m_u_is_part [.str (one c)]) (partB c) = true := by decide +kernel
  exact chkB_ok (this c h)
theorem lower_eq (c : Nat) (h : c < 128) (hp : partB c = true) : Txt.lower (one c) = one (tr c) := by
  have : ∀ c, c < 128 → partB c = true → Txt.lower (one c) = one (tr c) := by decide +kernel
  exact this c h hp
theorem tr_not (c : Nat) (h : c < 128) (hp : partB c = false) : one (tr c) = " " := by
  have : ∀ c, c < 128 → partB c = false → one (tr c) = " " := by decide +kernel
  exact this c h hp
theorem tr_good (c : Nat) (h : c < 128) : (Unicode.isSpace (tr c) = true ∧ tr c = 32) ∨ (smallB (tr c) = true ∧ Unicode.isSpace (tr c) = false) := by
  have : ∀ c, c < 128 → (Unicode.isSpace (tr c) = true ∧ tr c = 32) ∨ (smallB (tr c) = true ∧ Unicode.isSpace (tr c) = false) := by decide +kernel
  exact this c h
theorem tr_small (c : Nat) (h : smallB c = true) : tr c = c := if_pos h
def trS (z : Str) : Str := ⟨(z.cps.toList.map tr).toArray⟩
theorem sjoin_ones : ∀ cs : List Nat, Str.join "" (cs.map one) = ⟨cs.toArray⟩
  | [] => rfl
  | [c] => rfl
  | c :: d :: cs => by
    have ih := sjoin_ones (d :: cs)
    rw [List.map_cons] at ih
    rw [List.map_cons, List.map_cons, Str.join, ih]
    · refine Str.ext' ?_
      simp [Str.cps_append, one]
      rfl
    · intro h; cases h
theorem join_ones (cs : List Nat) : Txt.join "" (cs.map one) = ⟨cs.toArray⟩ := (StrLaws.glued_eq_join "" (cs.map one)).trans (sjoin_ones cs)
theorem sum_ones : ∀ cs : List Nat, ((cs.map one).map (·.length)).sum = cs.length
  | [] => rfl
  | c :: cs => by
    rw [List.map_cons, List.map_cons, List.sum_cons, sum_ones cs, List.length_cons]
    show 1 + _ = _
    omega
theorem signs_ones (z : Str) : signsD z = z.cps.toList.map fun c => .str (one c) := rfl
theorem all_words_eq (z : Str) (h : okT z) : m_all_words [.str z] = some (.list ((Txt.words (trS z)).map .str)) := by
  have hl : z.length = z.cps.toList.length := rfl
  have hl2 : z.length = z.cps.size := rfl
  have e := fun (e0 : En) (he : e0 = [some (.sh (.str z)), none, none]) => lcGo_map (xg := mgName 2) (xt := mYes) (xe := E_all_words_1) (e0 := e0) (fun c : Nat => PyData.str (one c)) (fun c => .str (one (tr c))) z.cps.toList fun c hc => ⟨_, rfl, rfl, by
    have hc1 := (h.2 c hc).2
    have hp := part_eq c (by omega)
    subst he
    unfold E_all_words_1
    walk_at "mv"
    rw [hp]
    cases hb : partB c with
    | true =>
      have hlo := lower_eq c (by omega) hb
      have hlen : (one c).length ≤ 5592405 := by show 1 ≤ _; decide
      walk_at "mv"
      rw [hlo]
    | false =>
      walk_at "mv"
      rw [tr_not c (by omega) hb]⟩
  have hz : (signsD z).length < 16000000 := by rw [signs_len]; have := h.1; omega
  have hj : opJoin (.str "") (.list ((z.cps.toList.map fun c => one (tr c)).map .str)) = some (.str (trS z)) := by
    rw [show (z.cps.toList.map fun c => one (tr c)) = (z.cps.toList.map tr).map one by rw [List.map_map]; rfl]
    rw [x_join (by rw [sum_ones]; have := h.1; show _ + _ * 0 ≤ _; simp; omega), join_ones]
    rfl
  have htl : (trS z).length ≤ 16000000 := by
    have : (trS z).length = z.cps.toList.length := by unfold trS; show (List.toArray _).size = _; simp
    rw [this]
    have := h.1
    omega
  unfold m_all_words b_all_words
  walk_at "mv"
  rw [signs_ones, e _ rfl]
  walk_at "mv"
  rw [show (z.cps.toList.map fun c => PyData.str (one (tr c))) = (z.cps.toList.map fun c => one (tr c)).map .str by rw [List.map_map]; rfl, hj]
  walk_at "mv"
/-! the law's own words -/
def TB : List (Key × D) := (List.range 26).foldl (fun st k => putQ st (Sum.inr (one (65 + k))) (.str (one (97 + k)))) []
def TB2 : List (Key × D) := ((List.range 26).map (97 + ·) ++ (List.range 10).map (48 + ·)).foldl (fun st c => putQ st (Sum.inr (one c)) (.str (one c))) TB
def chkS (o : Option D) (s : Str) : Bool := match o with
  | some (.str x) => decide (x = s)
  | _ => false
theorem chkS_ok {o : Option D} {s : Str} (h : chkS o s = true) : o = some (.str s) := by
  unfold chkS at h
  split at h
  · rw [of_decide_eq_true h]
  · cases h
theorem get_eq (c : Nat) (h : c < 128) (s0 : Option Sl) : E_u_law_words_1 [s0, some (.sh (dkD TB2)), some (.sh (.str (one c))), none] = some (.str (one (tr c))) := by
  have : ∀ c, c < 128 → chkS (E_u_law_words_1 [none, some (.sh (dkD TB2)), some (.sh (.str (one c))), none]) (one (tr c)) = true := by decide +kernel
  exact chkS_ok (this c h)
theorem tb1 (z : Str) : mLoop (mgTup 2 (mgCons (mgName 3) (mgCons (mgName 2) mgNil))) L_u_law_words_2 (enumD (signsD "ABCDEFGHIJKLMNOPQRSTUVWXYZ")) [some (.sh (.str z)), some (.ow none (dkO [])), none, none] = some (.nx [some (.sh (.str z)), some (.ow none (dkO TB)), some (.sh (.str "Z")), none]) := by kernel_rfl
theorem tb2 (z : Str) : mLoop (mgName 2) L_u_law_words_1 (signsD "abcdefghijklmnopqrstuvwxyz0123456789") [some (.sh (.str z)), some (.ow none (dkO TB)), some (.sh (.str "Z")), none] = some (.nx [some (.sh (.str z)), some (.ow none (dkO TB2)), some (.sh (.str "9")), none]) := by kernel_rfl
theorem dataFs_k : ∀ (st : List (Key × D)), dataFs (st.map fun p => .da p.2) = st.map (·.2)
  | [] => by rw [List.map_nil, List.map_nil, dataFs]
  | p :: st => by rw [List.map_cons, List.map_cons, dataFs, dataFs_k st]
theorem zip_kd : ∀ (st : List (Key × D)), ((st.map (·.1)).map keyD).zip (st.map (·.2)) = st.map fun p => (keyD p.1, p.2)
  | [] => rfl
  | p :: st => by simp only [List.map_cons, List.zip_cons_cons, zip_kd st]
theorem dataO_dkO {st : List (Key × D)} : dataO (dkO st) = dkD st := by
  rw [dataO, dataFs_k, zip_kd]
theorem law_words_eq (z : Str) (h : okT z) : m_u_law_words [.str z] = some (.list ((Txt.words (trS z)).map .str)) := by
  have hl : z.length = z.cps.toList.length := rfl
  have hl2 : z.length = z.cps.size := rfl
  have e := lcGo_map (xg := mgName 2) (xt := mYes) (xe := E_u_law_words_1) (e0 := [some (.sh (.str z)), some (.sh (dkD TB2)), none, none]) (fun c : Nat => PyData.str (one c)) (fun c => .str (one (tr c))) z.cps.toList fun c hc => ⟨_, rfl, rfl, get_eq c (by have := (h.2 c hc).2; omega) _⟩
  have hz : (signsD z).length < 16000000 := by rw [signs_len]; have := h.1; omega
  have hj : opJoin (.str "") (.list ((z.cps.toList.map fun c => one (tr c)).map .str)) = some (.str (trS z)) := by
    rw [show (z.cps.toList.map fun c => one (tr c)) = (z.cps.toList.map tr).map one by rw [List.map_map]; rfl]
    rw [x_join (by rw [sum_ones]; have := h.1; show _ + _ * 0 ≤ _; simp; omega), join_ones]
    rfl
  have htl : (trS z).length ≤ 16000000 := by
    have : (trS z).length = z.cps.toList.length := by unfold trS; show (List.toArray _).size = _; simp
    rw [this]
    have := h.1
    omega
  have fz : ∀ (f : XS), mFrzW 1 f [some (.sh (.str z)), some (.ow none (dkO TB2)), some (.sh (.str "9")), none] = f [some (.sh (.str z)), some (.sh (dkD TB2)), some (.sh (.str "9")), none] := fun f => by
    rw [x_frzW]
    show frzWO f _ 1 (some (some (.ow none (dkO TB2)))) = _
    rw [x_frzW1, dataO_dkO]
    rfl
  unfold m_u_law_words b_u_law_words
  rw [x_run, x_seq]
  rw [show mAsgW 1 mNewK (startE N_u_law_words [.str z]) = some (.nx [some (.sh (.str z)), some (.ow none (dkO [])), none, none]) from rfl, x_seq1, x_seq]
  have w1 : (mWipe [3] (mFor (mEnS (mCons (mC (.str "ABCDEFGHIJKLMNOPQRSTUVWXYZ")) mNil)) (mgTup 2 (mgCons (mgName 3) (mgCons (mgName 2) mgNil))) L_u_law_words_2)) [some (.sh (.str z)), some (.ow none (dkO [])), none, none] = some (.nx [some (.sh (.str z)), some (.ow none (dkO TB)), some (.sh (.str "Z")), none]) := by
    walk_at "mv"
    rw [tb1]
    walk_at "mv"
  have w2 : (mFor (mItS (mC (.str "abcdefghijklmnopqrstuvwxyz0123456789"))) (mgName 2) L_u_law_words_1) [some (.sh (.str z)), some (.ow none (dkO TB)), some (.sh (.str "Z")), none] = some (.nx [some (.sh (.str z)), some (.ow none (dkO TB2)), some (.sh (.str "9")), none]) := by
    walk_at "mv"
    rw [tb2]
  rw [w1, x_seq1, x_seq, w2, x_seq1, fz]
  walk_at "mv"
  rw [signs_ones, e]
  walk_at "mv"
  rw [show (z.cps.toList.map fun c => PyData.str (one (tr c))) = (z.cps.toList.map fun c => one (tr c)).map .str by rw [List.map_map]; rfl, hj]
  walk_at "mv"

/-! k21: words, and the law -/
theorem str_ok {s : Str} (h : ∀ c ∈ s.cps.toList, c ≤ 126) : PyData.strOk s = true := by
  unfold PyData.strOk
  rw [Array.all_eq_true]
  intro i hi
  have := h s.cps[i] (by simp)
  simp
  omega
theorem isWordE (z : Str) (h : ∀ c ∈ z.cps.toList, c ≤ 126) : m_is_word [.str z] = some (.bool (decide (z ≠ "") && z.cps.toList.all smallB)) := by
  have e : allGo (mgName 0) E_is_word_1 [none] (signsD z) = some (z.cps.toList.all smallB) := by
    rw [signs_ones]
    refine allGo_map _ _ _ fun c hc => ⟨_, rfl, ?_⟩
    have hs := smallE c (by have := h c hc; omega)
    unfold E_is_word_1
    walk_at "mv"
    rw [hs]
  have h0 : opEq (.str z) (.str "") = some (.bool (decide (z = ""))) := opEq_lit (by rw [str_ok h]; decide +kernel) rfl
  unfold m_is_word b_is_word
  walk_at "mv"
  rw [h0]
  by_cases c : z = ""
  · rw [decide_eq_true c, decide_eq_false (by simpa using c)]
    walk_at "mv"
  · rw [decide_eq_false c, decide_eq_true c]
    walk_at "mv"
    rw [e]
    walk_at "mv"
theorem tdGo_ones (e0 : En) (h : e0[1]? = some none) : ∀ ws : List Str, tdGo (mgName 1) (mVar 1) E_words_of_1 [e0.getD 0 none, none] (ws.map .str) = some ws
  | [] => rfl
  | w :: ws => by
    rw [List.map_cons, tdGo, show mgName 1 (.str w) [e0.getD 0 none, none] = some [e0.getD 0 none, some (.sh (.str w))] from rfl]
    simp only []
    rw [show mVar 1 [e0.getD 0 none, some (.sh (.str w))] = some (.str w) from rfl]
    simp only []
    rw [show E_words_of_1 [e0.getD 0 none, some (.sh (.str w))] = some (.bool true) from rfl]
    simp only []
    rw [tdGo_ones e0 h ws]
theorem scan_len : ∀ (cs : List Nat) (ws : List Str) (r : Str), (cs.foldl KWd.step (ws, r)).1.length ≤ ws.length + cs.length
  | [], ws, r => Nat.le_refl _
  | c :: cs, ws, r => by
    rw [List.foldl_cons]
    unfold KWd.step
    split
    · split
      · have := scan_len cs ws r
        simp; unfold KWd.step at this; omega
      · have := scan_len cs (ws ++ [r]) Str.empty
        simp at this ⊢; unfold KWd.step at this; omega
    · have := scan_len cs ws (r ++ ⟨#[c]⟩)
      simp; unfold KWd.step at this; omega
theorem words_len (x : Str) : (Txt.words x).length ≤ x.length + 1 := by
  have h := scan_len x.cps.toList [] Str.empty
  have hl : x.length = x.cps.toList.length := rfl
  rw [KWd.words_scan]
  unfold KWd.fin KWd.scan
  rw [List.length_nil, Nat.zero_add] at h
  split
  · omega
  · rw [List.length_append, List.length_singleton]; omega
theorem words_of_eq (z : Str) (h : okT z) : m_words_of [.str z] = some (.tuple ((dedS [] (Txt.words (trS z))).map .str)) := by
  have ha := all_words_eq z h
  have hlen : ((Txt.words (trS z)).map PyData.str).length < 16000000 := by
    have h1 := words_len (trS z)
    have h2 : (trS z).length = z.cps.toList.length := by unfold trS; show (List.toArray _).size = _; simp
    have h3 : z.cps.toList.length = z.length := rfl
    have h4 := h.1
    rw [List.length_map]
    omega
  have ht := tdGo_ones [some (.sh (.str z)), none] rfl (Txt.words (trS z))
  have ht : tdGo (mgName 1) (mVar 1) E_words_of_1 [some (.sh (.str z)), none] ((Txt.words (trS z)).map .str) = some (Txt.words (trS z)) := ht
  unfold m_words_of b_words_of
  walk_at "mv"
  rw [x_tupDc]
  walk_at "mv"
  rw [ha]
  walk_at "mv"
  unfold tupDcO
  simp only []
  rw [if_pos ⟨by rfl, hlen⟩]
  rw [show wipeE [some (.sh (.str z)), none] [1] = [some (.sh (.str z)), none] from rfl, ht]
  walk_at "mv"
theorem sh_ws {ws : List Str} (h : ∀ w ∈ ws, PyData.strOk w = true) : ∀ x ∈ ws.map PyData.str, Sh 0 x := fun x hx => by
  obtain ⟨w, hw, rfl⟩ := List.mem_map.mp hx
  exact sh_str (h w hw)
theorem eqv_strs : ∀ as bs : List Str, PyData.eqvAll (as.map .str) (bs.map .str) = decide (as = bs)
  | [], [] => by simp [PyData.eqvAll]
  | [], b :: bs => by simp [PyData.eqvAll]
  | a :: as, [] => by simp [PyData.eqvAll]
  | a :: as, b :: bs => by
    rw [List.map_cons, List.map_cons, PyData.eqvAll, eqv_strs as bs]
    show (PyData.eqv (.str a) (.str b) && _) = _
    rw [show PyData.eqv (.str a) (.str b) = decide (a = b) from rfl]
    simp
/-- the text of a draw -/
def mW : List Str := ["old", "mill", "Old", "te", "tea", "teal", "x1", "1", "new", "Mill", "a", "weir"]
def mM : List Str := [" ", "-", ", ", ".", "  ", "", "'", "_"]
def okz (n : Nat) (z : Str) : Prop := z.length ≤ n ∧ ∀ c ∈ z.cps.toList, 32 ≤ c ∧ c ≤ 126
theorem mW_ok : ∀ s ∈ mW, s.length ≤ 4 ∧ ∀ c ∈ s.cps.toList, 32 ≤ c ∧ c ≤ 126 := by decide +kernel
theorem mM_ok : ∀ s ∈ mM, s.length ≤ 2 ∧ ∀ c ∈ s.cps.toList, 32 ≤ c ∧ c ≤ 126 := by decide +kernel
theorem okz_app {n m : Nat} {a b : Str} (ha : okz n a) (hb : okz m b) : okz (n + m) (a ++ b) := by
  refine ⟨?_, fun c hc => ?_⟩
  · have h1 := ha.1
    have h2 := hb.1
    have : (a ++ b).length = a.length + b.length := by
      show (a ++ b).cps.size = a.cps.size + b.cps.size
      rw [Str.cps_append, Array.size_append]
    omega
  · rw [Str.cps_append, Array.toList_append] at hc
    rcases List.mem_append.mp hc with hc | hc
    · exact ha.2 c hc
    · exact hb.2 c hc
theorem pickS {L : List Str} {n : Nat} (hn : 0 < n) (hl : L.length = n) (x : Int) : ∃ s ∈ L, atI (L.map PyData.str) (x % (n : Int)) = some (.str s) := by
  have hp : 0 ≤ x % (n : Int) := Int.emod_nonneg _ (by omega)
  have hlt : x % (n : Int) < (n : Int) := Int.emod_lt_of_pos _ (by omega)
  obtain ⟨k, hk⟩ : ∃ k : Nat, x % (n : Int) = (k : Int) := ⟨(x % (n : Int)).toNat, by omega⟩
  rw [hk]
  have hkl : k < L.length := by omega
  exact ⟨L[k], List.getElem_mem hkl, at_nat rfl (by rw [List.getElem?_map, List.getElem?_eq_getElem hkl]; rfl)⟩
theorem text_turn (c : Int) (z : Str) (n : Nat) (hz : okz n z) (hn : n ≤ 1000) (j : Nat) (hj : j < 5) : ∃ z', okz (n + 6) z' ∧
    L_u_law_text_1 [some (.sh (.list ((draws c 7).map .int))), some (.sh (.list (mW.map .str))), some (.sh (.list (mM.map .str))), some (.sh (.str z)), some (.sh (.int (j : Int)))] =
      some (.nx [some (.sh (.list ((draws c 7).map .int))), some (.sh (.list (mW.map .str))), some (.sh (.list (mM.map .str))), some (.sh (.str z')), none]) := by
  have a2 : atI ((draws c 7).map PyData.int) (2 + (j : Int)) = some (.int ((draws c 7).getD (2 + j) 0)) := by
    rw [show 2 + (j : Int) = ((2 + j : Nat) : Int) by omega]
    exact dr_at c 7 (2 + j) (by omega)
  generalize draws c 7 = P at *
  generalize P.getD (2 + j) 0 = x at *
  obtain ⟨u, hu, eu⟩ := pickS (L := mW) (n := 12) (by decide) rfl x
  obtain ⟨v, hv, ev⟩ := pickS (L := mM) (n := 8) (by decide) rfl (x / 12)
  have eu : atI (mW.map PyData.str) (x % 12) = some (.str u) := eu
  have ev : atI (mM.map PyData.str) (x / 12 % 8) = some (.str v) := ev
  have o1 : okz (n + 4) (z ++ u) := okz_app hz (mW_ok u hu)
  have o2 : okz (n + 4 + 2) (z ++ u ++ v) := okz_app o1 (mM_ok v hv)
  refine ⟨z ++ u ++ v, o2, ?_⟩
  have hl1 : z.length + u.length < 16000000 := by have := hz.1; have := (mW_ok u hu).1; omega
  have hl2 : (z ++ u).length + v.length < 16000000 := by have := o1.1; have := (mM_ok v hv).1; omega
  simp only [L_u_law_text_1]
  walk_at "mv"
  rw [a2]
  walk_at "mv"
  rw [eu]
  walk_at "mv"
  rw [ev]
  walk_at "mv"
theorem text_loop (c : Int) : ∀ (js : List Nat) (z : Str) (n : Nat), okz n z → n + 6 * js.length ≤ 1000 → (∀ j ∈ js, j < 5) → ∃ z', okz (n + 6 * js.length) z' ∧
    mLoop (mgName 4) L_u_law_text_1 (js.map fun j : Nat => .int (j : Int)) [some (.sh (.list ((draws c 7).map .int))), some (.sh (.list (mW.map .str))), some (.sh (.list (mM.map .str))), some (.sh (.str z)), none] =
      some (.nx [some (.sh (.list ((draws c 7).map .int))), some (.sh (.list (mW.map .str))), some (.sh (.list (mM.map .str))), some (.sh (.str z')), none])
  | [], z, n, hz, _, _ => ⟨z, hz, by simp only [List.map_nil, mLoop]⟩
  | j :: js, z, n, hz, hn, hj => by
    rw [List.length_cons] at hn
    obtain ⟨z1, o1, e1⟩ := text_turn c z n hz (by omega) j (hj j List.mem_cons_self)
    obtain ⟨z2, o2, e2⟩ := text_loop c js z1 (n + 6) o1 (by omega) (fun x hx => hj x (List.mem_cons_of_mem _ hx))
    refine ⟨z2, ⟨by rw [List.length_cons]; have := o2.1; omega, o2.2⟩, ?_⟩
    rw [List.map_cons, loop_step rfl e1, e2]
theorem text_ex (c : Int) : ∃ z, okz 40 z ∧ m_u_law_text [.list ((draws c 7).map .int)] = some (.str z) := by
  have b0 := dr_bd c 7 0 (by decide)
  have a0 : atI ((draws c 7).map PyData.int) 0 = some (.int ((draws c 7).getD 0 0)) := dr_at c 7 0 (by decide)
  have a1 : atI ((draws c 7).map PyData.int) 1 = some (.int ((draws c 7).getD 1 0)) := dr_at c 7 1 (by decide)
  have q1 := mod_bd ((draws c 7).getD 1 0) (n := 5) (by decide)
  obtain ⟨u, hu, eu⟩ := pickS (L := mM) (n := 8) (by decide) rfl ((draws c 7).getD 0 0)
  have eu : atI (mM.map PyData.str) ((draws c 7).getD 0 0 % 8) = some (.str u) := eu
  have key : ∀ z0 : Str, okz 2 z0 → ∃ z', okz 32 z' ∧ mLoop (mgName 4) L_u_law_text_1 (rngD 0 ((draws c 7).getD 1 0 % 5).toNat) [some (.sh (.list ((draws c 7).map .int))), some (.sh (.list (mW.map .str))), some (.sh (.list (mM.map .str))), some (.sh (.str z0)), none] =
      some (.nx [some (.sh (.list ((draws c 7).map .int))), some (.sh (.list (mW.map .str))), some (.sh (.list (mM.map .str))), some (.sh (.str z')), none]) := fun z0 h0 => by
    obtain ⟨z', o, e⟩ := text_loop c (List.range ((draws c 7).getD 1 0 % 5).toNat) z0 2 h0 (by rw [List.length_range]; omega) (fun j hj => by have := List.mem_range.mp hj; omega)
    refine ⟨z', ⟨by have := o.1; rw [List.length_range] at this; omega, o.2⟩, ?_⟩
    rw [rngD_eq]
    exact e
  have cut : ∀ z' : Str, okz 32 z' → okz 40 (L2.cutS z' none (some 40)) := fun z' h => by
    have e : (L2.cutS z' none (some ((40 : Nat) : Int))).cps.toList = z'.cps.toList.take 40 := cutS_take
    have e : (L2.cutS z' none (some 40)).cps.toList = z'.cps.toList.take 40 := e
    refine ⟨?_, fun c hc => ?_⟩
    · have : (L2.cutS z' none (some 40)).length = (L2.cutS z' none (some 40)).cps.toList.length := rfl
      rw [this, e]
      simp; omega
    · rw [e] at hc
      exact h.2 c (List.mem_of_mem_take hc)
  have eW : ([.str "old", .str "mill", .str "Old", .str "te", .str "tea", .str "teal", .str "x1", .str "1", .str "new", .str "Mill", .str "a", .str "weir"] : List D) = mW.map .str := rfl
  have eM : ([.str " ", .str "-", .str ", ", .str ".", .str "  ", .str "", .str "'", .str "_"] : List D) = mM.map .str := rfl
  by_cases c3 : (draws c 7).getD 0 0 % 3 = 0
  · obtain ⟨z', o, e⟩ := key u (mM_ok u hu)
    refine ⟨_, cut z' o, ?_⟩
    have hlz : z'.length ≤ 16000000 := by have := o.1; omega
    unfold m_u_law_text b_u_law_text
    walk_at "mv"
    rw [eW, eM, a0]
    walk_at "mv"
    rw [decide_eq_true c3]
    walk_at "mv"
    rw [a0]
    walk_at "mv"
    rw [eu]
    walk_at "mv"
    rw [a1]
    walk_at "mv"
    rw [e]
    walk_at "mv"
  · obtain ⟨z', o, e⟩ := key "" ⟨by decide, by decide +kernel⟩
    refine ⟨_, cut z' o, ?_⟩
    have hlz : z'.length ≤ 16000000 := by have := o.1; omega
    unfold m_u_law_text b_u_law_text
    walk_at "mv"
    rw [eW, eM, a0]
    walk_at "mv"
    rw [decide_eq_false c3]
    walk_at "mv"
    rw [a1]
    walk_at "mv"
    rw [e]
    walk_at "mv"

/-! k21: the law -/
theorem ne_same {d : D} (h : SeqAt.shaped d = true) : opNe d d = some (.bool false) := by rw [opNe_of h h (eqv_same h)]; rfl
theorem trS_chars {z : Str} (h : okT z) : ∀ c ∈ (trS z).cps.toList, Unicode.isSpace c = true ∨ (smallB c = true) := fun c hc => by
  unfold trS at hc
  rw [List.toList_toArray] at hc
  obtain ⟨d, hd, rfl⟩ := List.mem_map.mp hc
  rcases tr_good d (by have := (h.2 d hd).2; omega) with q | q
  · exact .inl q.1
  · exact .inr q.1
theorem ws_good {z : Str} (h : okT z) : ∀ w ∈ Txt.words (trS z), w.length ≠ 0 ∧ ∀ c ∈ w.cps.toList, smallB c = true := words_good (trS_chars h)
theorem small_lt {c : Nat} (h : smallB c = true) : c ≤ 126 := by
  unfold smallB at h
  simp at h
  omega
theorem small_sp {c : Nat} (h : smallB c = true) : Unicode.isSpace c = false := by
  have hc := small_lt h
  rcases tr_good c (by omega) with q | q
  · rw [tr_small c h] at q
    rw [q.2] at h
    exact absurd h (by decide)
  · rw [tr_small c h] at q
    exact q.2
theorem inD_strs (w : Str) : ∀ ws : List Str, inD (.str w) (ws.map .str) = decide (w ∈ ws)
  | [] => by simp [inD]
  | v :: ws => by
    have ih := inD_strs w ws
    unfold inD at ih ⊢
    rw [List.map_cons, List.any_cons, ih, show PyData.eqv (.str v) (.str w) = decide (v = w) from rfl]
    by_cases c : v = w
    · subst c; simp
    · have c2 : ¬w = v := fun z => c z.symm
      simp [c, c2]

end My
set_option Elab.async false
set_option linter.all false
set_option maxRecDepth 100000
set_option maxHeartbeats 4000000
namespace My
open PySem L2 PySem.Spec PyProof.Rows HF

local macro_rules | `(tactic| walk_at "mv") => `(tactic| try simp (disch := walk_at "disch") only [x_seq, x_seq1, x_seq2, x_seq3, x_seq4, x_asg, x_asg1, x_asgN, x_asgN1, x_asgG, x_asgG1, x_nx1, x_aug, x_aug1, x_ret, x_ret1, x_retN, x_next, x_break, x_cont, x_ifS, x_ifS1, x_ifS2, x_drop, x_drop1, x_app, x_app1, x_frz, x_frz1, x_frz2, x_frz3, x_wipe, x_wipe1, x_wipe2, x_wipe3, x_wipe4, x_wipeE0, x_wipeE1, x_for, x_for1, x_pop, x_pop1, x_var, x_var1, x_c, x_op, x_op1, x_notT, x_notT1, x_bool1, x_and, x_and1, x_and2, x_or, x_or1, x_or2, x_if, x_if1, x_if2, x_neg, x_neg1, x_tup, x_tup1, x_lst, x_lst1, x_new, x_new1, x_call, x_call1, x_fn, x_fn1, x_nil, x_cons, x_cons1, x_part, x_part1, x_noPart, x_sl, x_sl1, x_sl2, x_sl3, x_slN, x_unL1, x_isi, x_isi_str, x_isi_str2, x_isi_str3, x_isi_str4, x_isi_str5, x_isi_str6, x_isi_tup, x_isi_tup2, x_isi_tup3, x_isi_tup4, x_isi_tup5, x_isi_tup6, x_isi_int, x_isi_int2, x_isi_int3, x_isi_int4, x_isi_int5, x_isi_int6, x_isi_bool, x_isi_bool2, x_isi_bool3, x_isi_bool4, x_isi_bool5, x_isi_bool6, x_isi_list, x_isi_list2, x_isi_list5, x_isi_list6, x_chain, x_bor, x_bor1, x_bor2, x_noL1, x_borT, x_borT1, x_borT2, x_rev, x_rev1, x_rev2, x_revN, x_cat, x_cat1, x_lof, x_lof1, x_lof2, x_test, x_test1, x_tru, x_tru1, x_truM1, x_truM2, x_truM3, x_truM4, x_truM5, x_truM6, x_yes, x_tand, x_tand1, x_tand2, x_tor, x_tor1, x_tor2, x_tnot, x_tnot1, x_itL, x_itT, x_unT1, x_itS, x_unS1, x_rng1, x_rng11, x_rng2, x_rng21, x_enum, x_enum1, x_zip, x_zip1, x_ez, x_ez1, x_gname, x_gnil, x_gcons, x_gs1, x_gtup, x_lc, x_lc1, x_lim1, x_lc2, x_lc21, x_mulT, x_mulS, x_bl1, x_all, x_all1, x_any, x_any1, x_cap0, x_capS, x_cap1, x_noEn, x_addI, x_addS, x_addT, x_addL, x_subI, x_mulR, x_mulL, x_div, x_mod, x_band, x_bor', x_bxor, x_ltI, x_leI, x_gtI, x_geI, x_ltS, x_leS, x_ltT, x_leT, x_isN, x_isNotN, x_notTb, x_setL, x_setL2, x_last, x_starO, x_star1, x_star2, x_bits, x_bits1, x_sort, x_sort1, x_sort2, sortT_pair, sortD_int, sortD_pair, x_fld, x_fld1, x_meth, x_meth1, x_make, x_make1, x_fz, x_fz1, x_setF, x_asgW, x_asgW1, x_frzW, x_frzW1, x_frzW2, x_frzW3, x_revI, x_revI1, x_revR, x_revR1, x_fnN, x_fnN1, x_ifN, x_ifN1, x_ifN2, x_isW, x_isNotW, x_isB, x_isNotB, x_itA, x_unA1, x_unA2, x_unA3, x_ixL, x_ixT, x_ixS, x_inT, x_inS, x_len1, x_len2, x_len3, x_int1, x_int2, x_clTup1, x_clTup2, x_max, x_min, x_minI, x_maxI, x_enT, x_enT1, x_enS, x_enS1, x_zipT, x_zipT1, x_dsp, x_pnil, x_pcons, x_pcons1, x_dG2, x_orT, orT_t, orT_f, geV_t, x_lower, x_lower1, x_words, x_words1, x_starts, x_pow, x_run, x_out1, x_out2, opEq_int, opNe_int, opEq_bool, opNe_bool, x_shr, x_shl, isN, isB, startE, List.getElem?_cons_zero, List.getElem?_cons_succ, List.set_cons_zero, List.set_cons_succ, List.map_cons, List.map_nil, List.cons_append, List.nil_append, List.replicate_zero, List.replicate_succ, List.length_cons, List.length_nil, Nat.zero_add, Nat.reduceAdd, Nat.reduceSub, Bool.not_true, Bool.not_false, Bool.and_true, Bool.and_false, Bool.true_and, Bool.false_and, Bool.or_true, Bool.or_false, Bool.true_or, Bool.false_or, decide_true, decide_false, Int.cast_ofNat_Int, Int.reduceEq, eq_self, reduceCtorEq, Int.reduceToNat, Int.natCast_zero, Int.natCast_one, Bool.false_eq_true, ↓reduceIte])
local macro_rules | `(tactic| walk_at "disch") => `(tactic| first
  | with_reducible assumption
  | omega
  | (simp only [noL_int, noL_str, noL_bool, noL_none, noL_tup, noLs_nil, noLs_cons, Bool.and_self]; done)
  | (simp only [List.length_cons, List.length_nil, List.length_map, List.length_append, List.length_singleton, List.length_range, List.length_reverse, signs_len] <;> omega)
  | (simp only [List.all_cons, List.all_nil, List.length_cons, List.length_nil, Nat.zero_add, Nat.reduceAdd, Nat.reduceLT, decide_true, Bool.and_true, Bool.and_self]; done)
  | (with_unfolding_all exact rfl))
theorem mv_test_K22S (d : D) (en : En) : mC d en = some d := by walk_at "mv"

/-! k22: wishes fulfilled -/
theorem sw_cut (w s : Str) : Txt.startswith w s = decide (cutS w none (some (s.length : Int)) = s) := by
  have e := cutS_take (z := w) (n := s.length)
  have hl : s.length = s.cps.toList.length := rfl
  have hw : w.length = w.cps.toList.length := rfl
  have key : (cutS w none (some (s.length : Int)) = s) ↔ w.cps.toList.take s.length = s.cps.toList := by
    constructor
    · intro h; rw [h] at e; exact e.symm
    · intro h
      have := e.trans h
      cases hc : cutS w none (some (s.length : Int)) with
      | mk a =>
        rw [hc] at this
        cases s with
        | mk b =>
          have : a = b := Array.toList_inj.mp this
          rw [this]
  unfold Txt.startswith PySem.Builtin.Str.subAt
  rw [decide_eq_decide.mpr key]
  have e2 : (w.cps.extract 0 (0 + s.length) == s.cps) = decide (w.cps.toList.take s.length = s.cps.toList) := by
    rw [Bool.beq_eq_decide_eq]
    refine decide_eq_decide.mpr ?_
    rw [← Array.toList_inj, Array.toList_extract]
    rw [Nat.zero_add]
    simp [List.extract]
  rw [e2]
  by_cases c : w.cps.toList.take s.length = s.cps.toList
  · rw [decide_eq_true c]
    have : s.length ≤ w.length := by
      have := congrArg List.length c
      rw [List.length_take] at this
      omega
    simp; omega
  · rw [decide_eq_false c]; simp
mutual
def fulW (ws : List Str) : W → Bool
  | .word s => decide (s ∈ ws)
  | .begins s => ws.any fun w => Txt.startswith w s
  | .none w => !fulW ws w
  | .all a ps => if a then fulA ws ps else fulY ws ps
def fulA (ws : List Str) : List W → Bool
  | [] => true
  | w :: ps => fulW ws w && fulA ws ps
def fulY (ws : List Str) : List W → Bool
  | [] => false
  | w :: ps => fulW ws w || fulY ws ps
end
theorem fulA_all (ws : List Str) : ∀ ps : List W, fulA ws ps = ps.all (fulW ws)
  | [] => by simp [fulA]
  | w :: ps => by rw [fulA, fulA_all ws ps, List.all_cons]
theorem fulY_any (ws : List Str) : ∀ ps : List W, fulY ws ps = ps.any (fulW ws)
  | [] => by simp [fulY]
  | w :: ps => by rw [fulY, fulY_any ws ps, List.any_cons]
theorem wMem_size {w : W} : ∀ {ps : List W}, w ∈ ps → wSize w ≤ wSizes ps
  | p :: ps, h => by
    rcases List.mem_cons.mp h with rfl | h
    · simp [wSizes]
    · have := wMem_size h; simp [wSizes]; omega
theorem wMem_nest {w : W} : ∀ {ps : List W}, w ∈ ps → wNest w ≤ wNests ps
  | p :: ps, h => by
    rcases List.mem_cons.mp h with rfl | h
    · simp [wNests]; omega
    · have := wMem_nest h; simp [wNests]; omega
theorem flat_strs (ws : List Str) : (ws.map PyData.str).all flatD = true := by
  rw [List.all_map, List.all_eq_true]
  intro x _
  rfl
theorem in_tup (s : Str) (ws : List Str) : opIn false (.str s) (.tuple (ws.map .str)) = some (.bool (decide (s ∈ ws))) := by
  rw [x_inT (by rw [flat_strs]; rfl), inD_strs]
  rfl
theorem in_lst {s : Str} {ws : List Str} (hs : PyData.strOk s = true) (h : ∀ w ∈ ws, PyData.strOk w = true) : opIn false (.str s) (.list (ws.map .str)) = some (.bool (decide (s ∈ ws))) := by
  unfold opIn
  simp only []
  rw [if_pos (by rw [(sh_str (n := 0) hs).ok, (sh_list (n := 0) (sh_ws h)).ok]; rfl), inD_strs]
  rfl
theorem do_eq (ws : List Str) : ∀ (n : Nat) (w : W), wOk w → wNest w < n → m_u_do_fulfil n [.tuple (ws.map .str), wE w] = some (.bool (fulW ws w))
  | 0, w, _, h => by omega
  | n + 1, .word s, ho, h => by
    show runM N_u_do_fulfil (b_u_do_fulfil (m_u_do_fulfil n)) _ = _
    unfold b_u_do_fulfil
    rw [wE]
    walk_at "mv"
    rw [kw_ww]
    walk_at "mv"
    rw [in_tup]
    walk_at "mv"
    rw [fulW]
  | n + 1, .begins s, ho, h => by
    have e : anyGo (mgName 0) (E_u_do_fulfil_2 (m_u_do_fulfil n)) [none, some (.sh (.str s))] (ws.map .str) = some (ws.any fun w => Txt.startswith w s) := anyGo_map _ _ _ fun w _ => ⟨_, rfl, by
      unfold E_u_do_fulfil_2
      walk_at "mv"⟩
    show runM N_u_do_fulfil (b_u_do_fulfil (m_u_do_fulfil n)) _ = _
    unfold b_u_do_fulfil
    rw [wE]
    walk_at "mv"
    rw [kw_bw]
    walk_at "mv"
    rw [kw_bb]
    walk_at "mv"
    rw [e]
    walk_at "mv"
    rw [fulW]
  | n + 1, .none w, ho, h => by
    have h1 : wNest w < n := by simp only [wNest] at h; omega
    have ih := do_eq ws n w (by unfold wOk at ho; exact ho) h1
    show runM N_u_do_fulfil (b_u_do_fulfil (m_u_do_fulfil n)) _ = _
    unfold b_u_do_fulfil
    rw [wE]
    walk_at "mv"
    rw [kw_nw]
    walk_at "mv"
    rw [kw_nb]
    walk_at "mv"
    rw [kw_nn]
    walk_at "mv"
    rw [ih]
    walk_at "mv"
    rw [fulW]
  | n + 1, .all a ps, ho, h => by
    unfold wOk at ho
    have h1 : wNests ps < n := by simp only [wNest] at h; omega
    have ih : ∀ p ∈ ps, m_u_do_fulfil n [.tuple (ws.map .str), wE p] = some (.bool (fulW ws p)) := fun p hp => by
      have := wMem_nest hp
      exact do_eq ws n p (wsOk_all.mp ho.2 p hp) (by omega)
    have e1 : allGo (mgName 0) (E_u_do_fulfil_1 (m_u_do_fulfil n)) [none, some (.sh (.tuple (ws.map .str)))] (ps.map wE) = some (ps.all (fulW ws)) := allGo_map _ _ _ fun p hp => ⟨_, rfl, by
      unfold E_u_do_fulfil_1
      walk_at "mv"
      rw [ih p hp]⟩
    have e2 : anyGo (mgName 0) (E_u_do_fulfil_1 (m_u_do_fulfil n)) [none, some (.sh (.tuple (ws.map .str)))] (ps.map wE) = some (ps.any (fulW ws)) := anyGo_map _ _ _ fun p hp => ⟨_, rfl, by
      unfold E_u_do_fulfil_1
      walk_at "mv"
      rw [ih p hp]⟩
    show runM N_u_do_fulfil (b_u_do_fulfil (m_u_do_fulfil n)) _ = _
    unfold b_u_do_fulfil
    rw [wE, wEs_map]
    walk_at "mv"
    rw [kw_aw]
    walk_at "mv"
    rw [kw_ab]
    walk_at "mv"
    rw [kw_an]
    walk_at "mv"
    rw [kw_aa]
    rw [fulW, fulA_all, fulY_any]
    cases a with
    | true =>
      walk_at "mv"
      rw [e1]
      walk_at "mv"
    | false =>
      walk_at "mv"
      rw [e2]
      walk_at "mv"
theorem any_cut (ws : List Str) (s : Str) : decide (s ∈ ws.map fun w => cutS w none (some (s.length : Int))) = ws.any fun w => Txt.startswith w s := by
  induction ws with
  | nil => simp
  | cons w ws ih =>
    rw [List.any_cons, ← ih, sw_cut, List.map_cons]
    by_cases c : cutS w none (some (s.length : Int)) = s
    · rw [c]; simp
    · have c2 : ¬ s = cutS w none (some (s.length : Int)) := fun z => c z.symm
      simp [c, c2]
theorem vOk_str {s : Str} (h : vOk (.t s)) : PyData.strOk s = true := str_ok fun c hc => (h.2 c hc).2
theorem cut_ok {w s : Str} (h : PyData.strOk w = true) : PyData.strOk (cutS w none (some (s.length : Int))) = true := by
  unfold PyData.strOk at h ⊢
  rw [Array.all_eq_true_iff_forall_mem] at h ⊢
  intro c hc
  have : c ∈ (cutS w none (some (s.length : Int))).cps.toList := Array.mem_toList_iff.mpr hc
  rw [cutS_take] at this
  exact h c (Array.mem_toList_iff.mp (List.mem_of_mem_take this))
theorem filt_all {α : Type} (p : α → Bool) (l : List α) : decide ((l.filter p).length = l.length) = l.all p := by
  rw [Bool.eq_iff_iff]
  simp [List.length_filter_eq_length_iff]
theorem filt_any {α : Type} (p : α → Bool) (l : List α) : decide ((l.filter p).length > 0) = l.any p := by
  induction l with
  | nil => rfl
  | cons a l ih =>
    rw [List.filter_cons, List.any_cons]
    cases p a with
    | true => simp
    | false => simpa using ih
theorem scan_wl (N : Nat) : ∀ (cs : List Nat) (ws : List Str) (r : Str), (∀ w ∈ ws, w.length ≤ N) → r.length + cs.length ≤ N → (∀ w ∈ (cs.foldl KWd.step (ws, r)).1, w.length ≤ N) ∧ (cs.foldl KWd.step (ws, r)).2.length ≤ N
  | [], ws, r, h, hr => ⟨h, by simp at hr; exact hr⟩
  | c :: cs, ws, r, h, hr => by
    rw [List.length_cons] at hr
    rw [List.foldl_cons]
    unfold KWd.step
    split
    · split
      · exact scan_wl N cs ws r h (by omega)
      · refine scan_wl N cs (ws ++ [r]) Str.empty (fun w hw => ?_) (by show 0 + _ ≤ _; omega)
        rcases List.mem_append.mp hw with hw | hw
        · exact h w hw
        · rw [List.mem_singleton.mp hw]; omega
    · refine scan_wl N cs ws (r ++ ⟨#[c]⟩) h ?_
      have : (r ++ ⟨#[c]⟩ : Str).length = r.length + 1 := by
        show (r ++ ⟨#[c]⟩ : Str).cps.size = r.cps.size + 1
        rw [Str.cps_append, Array.size_append]
        rfl
      omega
theorem words_wl (x : Str) : ∀ w ∈ Txt.words x, w.length ≤ x.length := by
  have h := scan_wl x.length x.cps.toList [] Str.empty (fun w hw => by cases hw) (by show 0 + x.cps.toList.length ≤ x.cps.size; simp)
  intro w hw
  rw [KWd.words_scan] at hw
  unfold KWd.fin KWd.scan at hw
  split at hw
  · exact h.1 w hw
  · rcases List.mem_append.mp hw with hw | hw
    · exact h.1 w hw
    · rw [List.mem_singleton.mp hw]; exact h.2
theorem lful_eq (z : Str) (hz : okT z) (hwo : ∀ w ∈ Txt.words (trS z), PyData.strOk w = true) : ∀ (n : Nat) (w : W), wOk w → wNest w < n → m_u_law_fulfils n [.str z, wE w] = some (.bool (fulW (Txt.words (trS z)) w)) := by
  have hlw := law_words_eq z hz
  have hwl := words_len (trS z)
  have hww := words_wl (trS z)
  have hzl : (trS z).length = z.length := by unfold trS; show (List.toArray _).size = z.cps.size; simp
  have hz1 := hz.1
  generalize Txt.words (trS z) = ws at *
  have hwz : (ws.map PyData.str).length < 16000000 := by rw [List.length_map]; omega
  intro n
  induction n with
  | zero => intro w _ h; omega
  | succ n IH =>
    intro w ho h
    show runM N_u_law_fulfils (b_u_law_fulfils (m_u_law_fulfils n)) _ = _
    unfold b_u_law_fulfils
    cases w with
    | word s =>
      have hs : PyData.strOk s = true := vOk_str (by unfold wOk at ho; exact ho)
      rw [wE]
      walk_at "mv"
      rw [kw_ww]
      walk_at "mv"
      rw [hlw]
      walk_at "mv"
      rw [in_lst hs hwo]
      walk_at "mv"
      rw [fulW]
    | begins s =>
      have hs : PyData.strOk s = true := vOk_str (by unfold wOk at ho; exact ho)
      have hsl : s.length ≤ 40 := by unfold wOk at ho; exact ho.1
      have hin : opIn false (.str s) (.list (ws.map fun w => PyData.str (cutS w none (some (s.length : Int))))) = some (.bool (ws.any fun w => Txt.startswith w s)) := by
        rw [show (ws.map fun w => PyData.str (cutS w none (some (s.length : Int)))) = (ws.map fun w => cutS w none (some (s.length : Int))).map .str by rw [List.map_map]; rfl]
        rw [in_lst hs (fun w hw => by obtain ⟨v, hv, rfl⟩ := List.mem_map.mp hw; exact cut_ok (hwo v hv)), any_cut]
      have elc := lcGo_map (xg := mgName 6) (xt := mYes) (xe := E_u_law_fulfils_1 (m_u_law_fulfils n)) (e0 := [some (.sh (.str z)), some (.sh (wE (.begins s))), none, some (.sh (.str "begins")), some (.sh (.str s)), none, none]) PyData.str (fun w : Str => PyData.str (cutS w none (some (s.length : Int)))) ws fun w hw => ⟨_, rfl, rfl, by
        have hw2 : w.length ≤ 16000000 := by have := hww w hw; omega
        unfold E_u_law_fulfils_1
        walk_at "mv"⟩
      rw [wE] at elc ⊢
      walk_at "mv"
      rw [kw_bw]
      walk_at "mv"
      rw [kw_bb]
      walk_at "mv"
      rw [hlw]
      walk_at "mv"
      rw [elc]
      walk_at "mv"
      rw [hin]
      walk_at "mv"
      rw [fulW]
    | none w =>
      have h1 : wNest w < n := by simp only [wNest] at h; omega
      have ih := IH w (by unfold wOk at ho; exact ho) h1
      rw [wE]
      walk_at "mv"
      rw [kw_nw]
      walk_at "mv"
      rw [kw_nb]
      walk_at "mv"
      rw [kw_nn]
      walk_at "mv"
      rw [ih]
      walk_at "mv"
      rw [fulW]
    | all a ps =>
      unfold wOk at ho
      have h1 : wNests ps < n := by simp only [wNest] at h; omega
      have hpl := ho.1
      have elc := lcGo_filter (xg := mgName 5) (xt := T_u_law_fulfils_1 (m_u_law_fulfils n)) (xe := mVar 5) (e0 := [some (.sh (.str z)), some (.sh (wE (.all a ps))), none, some (.sh (.str (if a then "all" else "any"))), some (.sh (.tuple (ps.map wE))), none, none]) wE wE (fulW ws) ps fun p hp => by
        have hp2 := wMem_nest hp
        have ih := IH p (wsOk_all.mp ho.2 p hp) (by omega)
        refine ⟨_, rfl, ?_, fun _ => rfl⟩
        unfold T_u_law_fulfils_1
        walk_at "mv"
        rw [ih]
        walk_at "mv"
      have hfl : ((ps.filter (fulW ws)).map wE).length ≤ 6 := by
        rw [List.length_map]
        exact Nat.le_trans (List.length_filter_le _ _) hpl
      rw [wE, wEs_map] at elc ⊢
      walk_at "mv"
      rw [kw_aw]
      walk_at "mv"
      rw [kw_ab]
      walk_at "mv"
      rw [kw_an]
      walk_at "mv"
      rw [elc]
      walk_at "mv"
      rw [kw_aa, fulW, fulA_all, fulY_any]
      have q1 : decide (((ps.filter (fulW ws)).length : Int) = (ps.length : Int)) = ps.all (fulW ws) := (decide_eq_decide.mpr (by omega)).trans (filt_all _ _)
      have q2 : decide ((0 : Int) < ((ps.filter (fulW ws)).length : Int)) = ps.any (fulW ws) := (decide_eq_decide.mpr (by omega)).trans (filt_any _ _)
      cases a with
      | true =>
        walk_at "mv"
        rw [List.length_map, List.length_map, q1]
      | false =>
        walk_at "mv"
        rw [List.length_map, q2]
theorem ful_ded (ws : List Str) : ∀ (n : Nat) (w : W), wNest w < n → fulW (dedS [] ws) w = fulW ws w := by
  have hm : ∀ s, s ∈ dedS [] ws ↔ s ∈ ws := fun s => by rw [dedS_mem]; simp
  intro n
  induction n with
  | zero => intro w h; omega
  | succ n IH =>
    intro w h
    cases w with
    | word s => rw [fulW, fulW, decide_eq_decide.mpr (hm s)]
    | begins s =>
      rw [fulW, fulW, Bool.eq_iff_iff, List.any_eq_true, List.any_eq_true]
      constructor
      · rintro ⟨x, hx, h⟩; exact ⟨x, (hm x).mp hx, h⟩
      · rintro ⟨x, hx, h⟩; exact ⟨x, (hm x).mpr hx, h⟩
    | none w => rw [fulW, fulW, IH w (by simp only [wNest] at h; omega)]
    | all a ps =>
      have e : ∀ p ∈ ps, fulW (dedS [] ws) p = fulW ws p := fun p hp => IH p (by have := wMem_nest hp; simp only [wNest] at h; omega)
      rw [fulW, fulW, fulA_all, fulA_all, fulY_any, fulY_any]
      have e1 : ps.all (fulW (dedS [] ws)) = ps.all (fulW ws) := by
        rw [Bool.eq_iff_iff, List.all_eq_true, List.all_eq_true]
        exact ⟨fun h p hp => (e p hp) ▸ h p hp, fun h p hp => (e p hp).symm ▸ h p hp⟩
      have e2 : ps.any (fulW (dedS [] ws)) = ps.any (fulW ws) := by
        rw [Bool.eq_iff_iff, List.any_eq_true, List.any_eq_true]
        exact ⟨fun ⟨p, hp, h⟩ => ⟨p, hp, (e p hp) ▸ h⟩, fun ⟨p, hp, h⟩ => ⟨p, hp, (e p hp).symm ▸ h⟩⟩
      rw [e1, e2]

end My
set_option Elab.async false
set_option linter.all false
set_option maxRecDepth 100000
set_option maxHeartbeats 4000000
namespace My
open PySem L2 PySem.Spec PyProof.Rows HF

local macro_rules | `(tactic| walk_at "mv") => `(tactic| try simp (disch := walk_at "disch") only [x_seq, x_seq1, x_seq2, x_seq3, x_seq4, x_asg, x_asg1, x_asgN, x_asgN1, x_asgG, x_asgG1, x_nx1, x_aug, x_aug1, x_ret, x_ret1, x_retN, x_next, x_break, x_cont, x_ifS, x_ifS1, x_ifS2, x_drop, x_drop1, x_app, x_app1, x_frz, x_frz1, x_frz2, x_frz3, x_wipe, x_wipe1, x_wipe2, x_wipe3, x_wipe4, x_wipeE0, x_wipeE1, x_for, x_for1, x_pop, x_pop1, x_var, x_var1, x_c, x_op, x_op1, x_notT, x_notT1, x_bool1, x_and, x_and1, x_and2, x_or, x_or1, x_or2, x_if, x_if1, x_if2, x_neg, x_neg1, x_tup, x_tup1, x_lst, x_lst1, x_new, x_new1, x_call, x_call1, x_fn, x_fn1, x_nil, x_cons, x_cons1, x_part, x_part1, x_noPart, x_sl, x_sl1, x_sl2, x_sl3, x_slN, x_unL1, x_isi, x_isi_str, x_isi_str2, x_isi_str3, x_isi_str4, x_isi_str5, x_isi_str6, x_isi_tup, x_isi_tup2, x_isi_tup3, x_isi_tup4, x_isi_tup5, x_isi_tup6, x_isi_int, x_isi_int2, x_isi_int3, x_isi_int4, x_isi_int5, x_isi_int6, x_isi_bool, x_isi_bool2, x_isi_bool3, x_isi_bool4, x_isi_bool5, x_isi_bool6, x_isi_list, x_isi_list2, x_isi_list5, x_isi_list6, x_chain, x_bor, x_bor1, x_bor2, x_noL1, x_borT, x_borT1, x_borT2, x_rev, x_rev1, x_rev2, x_revN, x_cat, x_cat1, x_lof, x_lof1, x_lof2, x_test, x_test1, x_tru, x_tru1, x_truM1, x_truM2, x_truM3, x_truM4, x_truM5, x_truM6, x_yes, x_tand, x_tand1, x_tand2, x_tor, x_tor1, x_tor2, x_tnot, x_tnot1, x_itL, x_itT, x_unT1, x_itS, x_unS1, x_rng1, x_rng11, x_rng2, x_rng21, x_enum, x_enum1, x_zip, x_zip1, x_ez, x_ez1, x_gname, x_gnil, x_gcons, x_gs1, x_gtup, x_lc, x_lc1, x_lim1, x_lc2, x_lc21, x_mulT, x_mulS, x_bl1, x_all, x_all1, x_any, x_any1, x_cap0, x_capS, x_cap1, x_noEn, x_addI, x_addS, x_addT, x_addL, x_subI, x_mulR, x_mulL, x_div, x_mod, x_band, x_bor', x_bxor, x_ltI, x_leI, x_gtI, x_geI, x_ltS, x_leS, x_ltT, x_leT, x_isN, x_isNotN, x_notTb, x_setL, x_setL2, x_last, x_starO, x_star1, x_star2, x_bits, x_bits1, x_sort, x_sort1, x_sort2, sortT_pair, sortD_int, sortD_pair, x_fld, x_fld1, x_meth, x_meth1, x_make, x_make1, x_fz, x_fz1, x_setF, x_asgW, x_asgW1, x_frzW, x_frzW1, x_frzW2, x_frzW3, x_revI, x_revI1, x_revR, x_revR1, x_fnN, x_fnN1, x_ifN, x_ifN1, x_ifN2, x_isW, x_isNotW, x_isB, x_isNotB, x_itA, x_unA1, x_unA2, x_unA3, x_ixL, x_ixT, x_ixS, x_inT, x_inS, x_len1, x_len2, x_len3, x_int1, x_int2, x_clTup1, x_clTup2, x_max, x_min, x_minI, x_maxI, x_enT, x_enT1, x_enS, x_enS1, x_zipT, x_zipT1, x_dsp, x_pnil, x_pcons, x_pcons1, x_dG2, x_orT, orT_t, orT_f, geV_t, x_lower, x_lower1, x_words, x_words1, x_starts, x_pow, x_run, x_out1, x_out2, opEq_int, opNe_int, opEq_bool, opNe_bool, x_shr, x_shl, isN, isB, startE, List.getElem?_cons_zero, List.getElem?_cons_succ, List.set_cons_zero, List.set_cons_succ, List.map_cons, List.map_nil, List.cons_append, List.nil_append, List.replicate_zero, List.replicate_succ, List.length_cons, List.length_nil, Nat.zero_add, Nat.reduceAdd, Nat.reduceSub, Bool.not_true, Bool.not_false, Bool.and_true, Bool.and_false, Bool.true_and, Bool.false_and, Bool.or_true, Bool.or_false, Bool.true_or, Bool.false_or, decide_true, decide_false, Int.cast_ofNat_Int, Int.reduceEq, eq_self, reduceCtorEq, Int.reduceToNat, Int.natCast_zero, Int.natCast_one, Bool.false_eq_true, ↓reduceIte])
local macro_rules | `(tactic| walk_at "disch") => `(tactic| first
  | with_reducible assumption
  | omega
  | (simp only [noL_int, noL_str, noL_bool, noL_none, noL_tup, noLs_nil, noLs_cons, Bool.and_self]; done)
  | (simp only [List.length_cons, List.length_nil, List.length_map, List.length_append, List.length_singleton, List.length_range, List.length_reverse, signs_len] <;> omega)
  | (simp only [List.all_cons, List.all_nil, List.length_cons, List.length_nil, Nat.zero_add, Nat.reduceAdd, Nat.reduceLT, decide_true, Bool.and_true, Bool.and_self]; done)
  | (with_unfolding_all exact rfl))
theorem mv_test_K22T (d : D) (en : En) : mC d en = some d := by walk_at "mv"

/-! k22: wishes drawn are wishes; the law -/
mutual
def wW : W → Prop
  | .word s => s ∈ wishW
  | .begins s => s ∈ wishW
  | .none w => wW w
  | .all _ ps => (2 ≤ ps.length ∧ ps.length ≤ 6) ∧ wWs ps
def wWs : List W → Prop
  | [] => True
  | w :: ps => wW w ∧ wWs ps
end
theorem wWs_all : ∀ {ws : List W}, wWs ws ↔ ∀ w ∈ ws, wW w
  | [] => by simp [wWs]
  | w :: ws => by simp [wWs, wWs_all (ws := ws)]
theorem wishOf_w : ∀ (n : Nat) (ds : List Int), wW (wishOf n ds)
  | 0, ds => by
    unfold wishOf wW
    exact wishS_mem ds
  | n + 1, ds => by
    have h1 := wishN_bd ds
    rw [wishOf_succ]
    split
    · unfold wW; exact wishS_mem ds
    split
    · unfold wW; exact wishS_mem ds
    split
    · unfold wW; exact wishOf_w n _
    · unfold wW
      refine ⟨⟨by simp; omega, by simp; omega⟩, wWs_all.mpr fun w hw => ?_⟩
      obtain ⟨k, _, rfl⟩ := List.mem_map.mp hw
      exact wishOf_w n _
theorem wishW_small : ∀ s ∈ wishW, s ≠ "" ∧ s.length ≤ 40 ∧ s.cps.toList.all smallB = true := by decide +kernel
theorem wish_word {s : Str} (h : s ∈ wishW) : m_is_word [.str s] = some (.bool true) := by
  have h1 := wishW_small s h
  rw [isWordE s (fun c hc => small_lt (List.all_eq_true.mp h1.2.2 c hc)), decide_eq_true h1.1, h1.2.2]
  rfl
theorem kwn_a (a : Bool) : opIn true (.str (if a then "all" else "any")) (.tuple [.str "all", .str "any"]) = some (.bool false) := by
  rw [x_inT (by rfl), show inD (.str (if a then "all" else "any")) [.str "all", .str "any"] = true from by cases a <;> (rw [inD_cons, inD_cons, inD_nil, eqv_str, eqv_str]; decide +kernel)]
  rfl
theorem neq0' (n : Nat) : opEq (.int ((n + 1 : Nat) : Int)) (.int 0) = some (.bool false) := by
  rw [opEq_int]
  exact congrArg (fun b => some (PyData.bool b)) (decide_eq_false (by omega))
theorem isw_eq : ∀ (n : Nat) (w : W) (f : Nat), wW w → wNest w < n → n < f → m_u_is_wish f [wE w, .int (n : Int)] = some (.bool true)
  | n, w, 0, _, _, hf => by omega
  | 0, w, f + 1, _, h, hf => by omega
  | n + 1, .word s, f + 1, hg, h, hf => by
    unfold wW at hg
    have hw := wish_word hg
    have hl := (wishW_small s hg).2.1
    have a0 : atI ([.str "word", .str s] : List D) 0 = some (.str "word") := rfl
    show runM N_u_is_wish (b_u_is_wish (m_u_is_wish f)) _ = _
    unfold b_u_is_wish
    rw [wE]
    walk_at "mv"
    rw [decide_eq_false (show ¬ ((n + 1 : Nat) : Int) = 0 by omega)]
    walk_at "mv"
    rw [a0]
    walk_at "mv"
    rw [kwi_w]
    walk_at "mv"
    rw [hw]
    walk_at "mv"
    rw [decide_eq_true (show (s.length : Int) ≤ 40 by omega)]
  | n + 1, .begins s, f + 1, hg, h, hf => by
    unfold wW at hg
    have hw := wish_word hg
    have hl := (wishW_small s hg).2.1
    have a0 : atI ([.str "begins", .str s] : List D) 0 = some (.str "begins") := rfl
    show runM N_u_is_wish (b_u_is_wish (m_u_is_wish f)) _ = _
    unfold b_u_is_wish
    rw [wE]
    walk_at "mv"
    rw [decide_eq_false (show ¬ ((n + 1 : Nat) : Int) = 0 by omega)]
    walk_at "mv"
    rw [a0]
    walk_at "mv"
    rw [kwi_b]
    walk_at "mv"
    rw [hw]
    walk_at "mv"
    rw [decide_eq_true (show (s.length : Int) ≤ 40 by omega)]
  | n + 1, .none w, f + 1, hg, h, hf => by
    unfold wW at hg
    have ih := isw_eq n w f hg (by simp only [wNest] at h; omega) (by omega)
    have a0 : atI ([.str "none", wE w] : List D) 0 = some (.str "none") := rfl
    show runM N_u_is_wish (b_u_is_wish (m_u_is_wish f)) _ = _
    unfold b_u_is_wish
    rw [wE]
    walk_at "mv"
    rw [decide_eq_false (show ¬ ((n + 1 : Nat) : Int) = 0 by omega)]
    walk_at "mv"
    rw [a0]
    walk_at "mv"
    rw [kwi_n]
    walk_at "mv"
    rw [kw_nn]
    walk_at "mv"
    rw [show ((n + 1 : Nat) : Int) - 1 = (n : Int) by omega, ih]
    walk_at "mv"
  | n + 1, .all a ps, f + 1, hg, h, hf => by
    unfold wW at hg
    obtain ⟨⟨hl1, hl2⟩, hg⟩ := hg
    have a0 : atI ([.str (if a then "all" else "any"), .tuple (ps.map wE)] : List D) 0 = some (.str (if a then "all" else "any")) := rfl
    have hal := allGo_map (xg := mgName 0) (fe := E_u_is_wish_1 (m_u_is_wish f)) (e0 := [none, some (.sh (.int ((n + 1 : Nat) : Int)))]) wE (fun _ => true) ps fun p hp => by
      have hp2 := wMem_nest hp
      have ih := isw_eq n p f (wWs_all.mp hg p hp) (by simp only [wNest] at h; omega) (by omega)
      refine ⟨_, rfl, ?_⟩
      simp only [E_u_is_wish_1]
      walk_at "mv"
      rw [show ((n + 1 : Nat) : Int) - 1 = (n : Int) by omega]
      exact ih
    have hal2 : ps.all (fun _ => true) = true := by simp
    rw [hal2] at hal
    show runM N_u_is_wish (b_u_is_wish (m_u_is_wish f)) _ = _
    unfold b_u_is_wish
    rw [wE, wEs_map]
    walk_at "mv"
    rw [decide_eq_false (show ¬ ((n + 1 : Nat) : Int) = 0 by omega)]
    walk_at "mv"
    rw [a0]
    walk_at "mv"
    rw [kwi_a]
    walk_at "mv"
    rw [kw_an]
    walk_at "mv"
    rw [kwn_a]
    walk_at "mv"
    rw [x_chain1 (a := true) (b := true) (show opLe (.int 2) (.int ((ps.map wE).length : Int)) = _ from by rw [x_leI]; exact congrArg (fun b => some (PyData.bool b)) (decide_eq_true (by rw [List.length_map]; omega))) (show mC (.int 6) _ = some (.int 6) from rfl) (show opLe (.int ((ps.map wE).length : Int)) (.int 6) = _ from by rw [x_leI]; exact congrArg (fun b => some (PyData.bool b)) (decide_eq_true (by rw [List.length_map]; omega)))]
    walk_at "mv"
    rw [hal]
    walk_at "mv"
theorem is_wish_true {w : W} (hg : wW w) (h : wNest w < 6) : m_is_wish [wE w] = some (.bool true) := by
  have e := isw_eq 6 w 7 hg h (by decide)
  unfold m_is_wish b_is_wish
  walk_at "mv"
  rw [show m_u_is_wish 7 [wE w, .int 6] = _ from e]
  walk_at "mv"
theorem ful_eq {z : Str} (hz : okT z) {w : W} (ho : wOk w) (h : wNest w < 6) : m_fulfils [.str z, wE w] = some (.bool (fulW (Txt.words (trS z)) w)) := by
  have e := do_eq (dedS [] (Txt.words (trS z))) 6 w ho h
  rw [ful_ded _ 6 w h] at e
  unfold m_fulfils b_fulfils
  walk_at "mv"
  rw [words_of_eq z hz]
  walk_at "mv"
  rw [e]
  walk_at "mv"
theorem okz_okT {z : Str} (h : okz 40 z) : okT z := ⟨by have := h.1; omega, fun c hc => ⟨(h.2 c hc).1, (h.2 c hc).2⟩⟩
theorem one_turn {z : Str} (hz : okz 40 z) {w : W} (ho : wOk w) (h : wNest w < 5) (s0 s1 s2 s3 : Option Sl) :
    L_law_1 [s0, s1, s2, s3, some (.sh (wE w)), some (.sh (.str z))] = some (.nx [s0, s1, s2, s3, some (.sh (wE w)), none]) := by
  have hT := okz_okT hz
  have e1 := ful_eq hT ho (by omega)
  have e2 := ful_eq hT (w := .none w) (by unfold wOk; exact ho) (by simp only [wNest]; omega)
  have hso : ∀ v ∈ Txt.words (trS z), PyData.strOk v = true := fun v hv => str_ok fun c hc => small_lt ((ws_good hT v hv).2 c hc)
  have e3 := lful_eq z hT hso 6 w ho (by omega)
  rw [wE] at e2
  rw [fulW] at e2
  simp only [L_law_1]
  walk_at "mv"
  rw [e1]
  walk_at "mv"
  rw [e3]
  walk_at "mv"
  rw [e2]
  walk_at "mv"
  generalize fulW (Txt.words (trS z)) w = b at *
  cases b with
  | true =>
    walk_at "mv"
    rw [e1]
    walk_at "mv"
  | false =>
    walk_at "mv"
    rw [e1]
    walk_at "mv"
theorem ones_loop {w : W} (ho : wOk w) (h : wNest w < 5) (s0 s1 s2 s3 : Option Sl) : ∀ zs : List Str, (∀ z ∈ zs, okz 40 z) →
    mLoop (mgName 5) L_law_1 (zs.map .str) [s0, s1, s2, s3, some (.sh (wE w)), none] = some (.nx [s0, s1, s2, s3, some (.sh (wE w)), none])
  | [], _ => by simp only [List.map_nil, mLoop]
  | z :: zs, hz => by
    rw [List.map_cons, loop_step rfl (one_turn (hz z List.mem_cons_self) ho h s0 s1 s2 s3)]
    exact ones_loop ho h s0 s1 s2 s3 zs fun x hx => hz x (List.mem_cons_of_mem _ hx)
theorem law_turn (S0 : D) (zs : List Str) (hzl : zs.length ≤ 63) (hzs : ∀ z ∈ zs, okz 40 z) (k : Nat) (c : Int) (o4 : Option Sl) : ∃ o4',
    L_law_2 [some (.sh S0), some (.sh (.list (zs.map .str))), some (.sh (.int (k : Int))), some (.sh (.int c)), o4, none] = some (.nx [some (.sh S0), some (.sh (.list (zs.map .str))), none, none, o4', none]) := by
  have e1 := draws_eq c 24 (by decide)
  have hl := draws_len c 24
  generalize draws c 24 = ds at *
  have e2 := wish_eq 3 ds hl 5 (by decide)
  have hok := wishOf_ok 3 ds
  have hw := wishOf_w 3 ds
  have hn := wishOf_nest 3 ds
  generalize wishOf 3 ds = w at *
  have his := is_wish_true hw (by omega)
  have cm := cutD_map zs PyData.str (some (max 0 ((k : Int) - 3))) (some ((k : Int) + 1))
  have hlp := ones_loop hok (by omega) (some (.sh S0)) (some (.sh (.list (zs.map .str)))) (some (.sh (.int (k : Int)))) (some (.sh (.int c))) (cutL zs (some (max 0 ((k : Int) - 3))) (some ((k : Int) + 1))) (fun z hz => hzs z (cutL_mem hz))
  have hcl := cutL_len (xs := zs) (lo := some (max 0 ((k : Int) - 3))) (hi := some ((k : Int) + 1))
  simp only [L_law_2]
  walk_at "mv"
  rw [show m_u_law_draws [.int c, .int 24] = _ from e1]
  walk_at "mv"
  rw [show m_u_law_wish 5 [PyData.list (ds.map .int), PyData.int 3] = some (wE w) from e2]
  walk_at "mv"
  rw [his]
  walk_at "mv"
  rw [cm]
  walk_at "mv"
  rw [hlp]
  walk_at "mv"
  exact ⟨_, rfl⟩

theorem law_true : ∀ ns : List Int, ns.length ≤ 63 → (∀ z ∈ ns, Builtin.Int.intBits z ≤ 1048576) → m_law [.list (ns.map .int)] = some (.bool true) := by
  intro ns hns _
  have htx : ∀ c : Int, ∃ z, okz 40 z ∧ m_u_law_text [.list ((draws c 7).map .int)] = some (.str z) := fun c => text_ex c
  obtain ⟨tz, htz⟩ : ∃ tz : Int → Str, ∀ c, okz 40 (tz c) ∧ m_u_law_text [.list ((draws c 7).map .int)] = some (.str (tz c)) := ⟨fun c => (htx c).choose, fun c => (htx c).choose_spec⟩
  have elc := lcGo_map (xg := mgName 3) (xt := mYes) (xe := E_law_1) (e0 := [some (.sh (.list (ns.map .int))), none, none, none, none, none]) PyData.int (fun c : Int => PyData.str (tz c)) ns fun c hc => ⟨_, rfl, rfl, by
    have e1 := draws_eq c 7 (by decide)
    unfold E_law_1
    walk_at "mv"
    rw [show m_u_law_draws [.int c, .int 7] = _ from e1]
    walk_at "mv"
    rw [(htz c).2]⟩
  have e2 : (ns.map fun c => PyData.str (tz c)) = (ns.map tz).map .str := by rw [List.map_map]; rfl
  have hzl : (ns.map tz).length ≤ 63 := by rw [List.length_map]; exact hns
  have hzs : ∀ z ∈ ns.map tz, okz 40 z := fun z hz => by
    obtain ⟨c, _, rfl⟩ := List.mem_map.mp hz
    exact (htz c).1
  rw [e2] at elc
  generalize ns.map tz = zs at *
  have hlen : (enumD (ns.map PyData.int)).length < 16000000 := by rw [enumD_map ns PyData.int]; simp; omega
  have lp : ∀ (l : List (Int × Nat)) (o : Option Sl), ∃ o', mLoop (mgTup 2 (mgCons (mgName 2) (mgCons (mgName 3) mgNil))) L_law_2 (l.map fun q => PyData.tuple [.int (q.2 : Int), .int q.1]) [some (.sh (.list (ns.map .int))), some (.sh (.list (zs.map .str))), none, none, o, none] = some (.nx [some (.sh (.list (ns.map .int))), some (.sh (.list (zs.map .str))), none, none, o', none]) := by
    intro l
    induction l with
    | nil => intro o; exact ⟨o, by simp only [List.map_nil, mLoop]⟩
    | cons q l ih =>
      intro o
      obtain ⟨w, e⟩ := law_turn (.list (ns.map .int)) zs hzl hzs q.2 q.1 o
      obtain ⟨w2, e2⟩ := ih w
      exact ⟨w2, by rw [List.map_cons, loop_step rfl e, e2]⟩
  obtain ⟨w, e⟩ := lp (ns.zipIdx 0) none
  unfold m_law b_law
  walk_at "mv"
  rw [elc]
  walk_at "mv"
  rw [enumD_map ns PyData.int, e]
  walk_at "mv"

end My
set_option Elab.async false
set_option linter.all false
set_option maxRecDepth 100000
set_option maxHeartbeats 4000000
namespace My
open PySem L2 PySem.Spec PyProof.Rows HF

theorem all_mk {l : PySem.W.OpenLaw} {q : Program} {w : World} {K : PySem.W.Frag} {h : Heap} {mg : Str → Option Value} {fa : Addr} (hlaw : ∀ ns : List Int, ns.length ≤ 63 → (∀ z ∈ ns, Builtin.Int.intBits z ≤ 1048576) → m_law [.list (ns.map .int)] = some (.bool true)) (X : K.In h) (G : h.Ns mainGlobals mg) (hfa : mg "law" = some (.ref fa)) (tabs : AllTabs q mg h)
    {od_u_law_text an_u_law_text : Option Addr} {sl_u_law_text : Array (Option Value)} {oc_u_law_text kv_u_law_text dc_u_law_text pm_u_law_text cd_u_law_text ct_u_law_text : Value} {f_u_law_text : Addr}
    {od_u_law_wish an_u_law_wish : Option Addr} {sl_u_law_wish : Array (Option Value)} {oc_u_law_wish kv_u_law_wish dc_u_law_wish pm_u_law_wish cd_u_law_wish ct_u_law_wish : Value} {f_u_law_wish : Addr}
    {od_u_law_draws an_u_law_draws : Option Addr} {sl_u_law_draws : Array (Option Value)} {oc_u_law_draws kv_u_law_draws dc_u_law_draws pm_u_law_draws cd_u_law_draws ct_u_law_draws : Value} {f_u_law_draws : Addr}
    {od_u_is_small an_u_is_small : Option Addr} {sl_u_is_small : Array (Option Value)} {oc_u_is_small kv_u_is_small dc_u_is_small pm_u_is_small cd_u_is_small ct_u_is_small : Value} {f_u_is_small : Addr}
    {od_is_word an_is_word : Option Addr} {sl_is_word : Array (Option Value)} {oc_is_word kv_is_word dc_is_word pm_is_word cd_is_word ct_is_word : Value} {f_is_word : Addr}
    {od_u_is_wish an_u_is_wish : Option Addr} {sl_u_is_wish : Array (Option Value)} {oc_u_is_wish kv_u_is_wish dc_u_is_wish pm_u_is_wish cd_u_is_wish ct_u_is_wish : Value} {f_u_is_wish : Addr}
    {od_is_wish an_is_wish : Option Addr} {sl_is_wish : Array (Option Value)} {oc_is_wish kv_is_wish dc_is_wish pm_is_wish cd_is_wish ct_is_wish : Value} {f_is_wish : Addr}
    {od_u_do_fulfil an_u_do_fulfil : Option Addr} {sl_u_do_fulfil : Array (Option Value)} {oc_u_do_fulfil kv_u_do_fulfil dc_u_do_fulfil pm_u_do_fulfil cd_u_do_fulfil ct_u_do_fulfil : Value} {f_u_do_fulfil : Addr}
    {od_u_is_part an_u_is_part : Option Addr} {sl_u_is_part : Array (Option Value)} {oc_u_is_part kv_u_is_part dc_u_is_part pm_u_is_part cd_u_is_part ct_u_is_part : Value} {f_u_is_part : Addr}
    {od_all_words an_all_words : Option Addr} {sl_all_words : Array (Option Value)} {oc_all_words kv_all_words dc_all_words pm_all_words cd_all_words ct_all_words : Value} {f_all_words : Addr}
    {od_words_of an_words_of : Option Addr} {sl_words_of : Array (Option Value)} {oc_words_of kv_words_of dc_words_of pm_words_of cd_words_of ct_words_of : Value} {f_words_of : Addr}
    {od_fulfils an_fulfils : Option Addr} {sl_fulfils : Array (Option Value)} {oc_fulfils kv_fulfils dc_fulfils pm_fulfils cd_fulfils ct_fulfils : Value} {f_fulfils : Addr}
    {od_u_law_words an_u_law_words : Option Addr} {sl_u_law_words : Array (Option Value)} {oc_u_law_words kv_u_law_words dc_u_law_words pm_u_law_words cd_u_law_words ct_u_law_words : Value} {f_u_law_words : Addr}
    {od_u_law_fulfils an_u_law_fulfils : Option Addr} {sl_u_law_fulfils : Array (Option Value)} {oc_u_law_fulfils kv_u_law_fulfils dc_u_law_fulfils pm_u_law_fulfils cd_u_law_fulfils ct_u_law_fulfils : Value} {f_u_law_fulfils : Addr}
    {od_law an_law : Option Addr} {sl_law : Array (Option Value)} {oc_law kv_law dc_law pm_law cd_law ct_law : Value} {f_law : Addr}
    (a_u_law_text : PySem.W.nsIn K mainGlobals "_law_text" = some (some (.ref f_u_law_text)))
    (l_u_law_text : K.lookup f_u_law_text = some ⟨oc_u_law_text, od_u_law_text, .func (PySem.W.fnOf "_law_text" "_law_text" (defArgs s_u_law_text) (defBody s_u_law_text) (defScope s_u_law_text) .none kv_u_law_text dc_u_law_text pm_u_law_text an_u_law_text cd_u_law_text ct_u_law_text), sl_u_law_text⟩) (k_u_law_text : PySem.W.codeIn K cd_u_law_text "_law_text" = true) (p_u_law_text : PySem.W.keepIn K (.ref f_u_law_text) = true)
    (a_u_law_wish : PySem.W.nsIn K mainGlobals "_law_wish" = some (some (.ref f_u_law_wish)))
    (l_u_law_wish : K.lookup f_u_law_wish = some ⟨oc_u_law_wish, od_u_law_wish, .func (PySem.W.fnOf "_law_wish" "_law_wish" (defArgs s_u_law_wish) (defBody s_u_law_wish) (defScope s_u_law_wish) .none kv_u_law_wish dc_u_law_wish pm_u_law_wish an_u_law_wish cd_u_law_wish ct_u_law_wish), sl_u_law_wish⟩) (k_u_law_wish : PySem.W.codeIn K cd_u_law_wish "_law_wish" = true) (p_u_law_wish : PySem.W.keepIn K (.ref f_u_law_wish) = true)
    (a_u_law_draws : PySem.W.nsIn K mainGlobals "_law_draws" = some (some (.ref f_u_law_draws)))
    (l_u_law_draws : K.lookup f_u_law_draws = some ⟨oc_u_law_draws, od_u_law_draws, .func (PySem.W.fnOf "_law_draws" "_law_draws" (defArgs s_u_law_draws) (defBody s_u_law_draws) (defScope s_u_law_draws) .none kv_u_law_draws dc_u_law_draws pm_u_law_draws an_u_law_draws cd_u_law_draws ct_u_law_draws), sl_u_law_draws⟩) (k_u_law_draws : PySem.W.codeIn K cd_u_law_draws "_law_draws" = true) (p_u_law_draws : PySem.W.keepIn K (.ref f_u_law_draws) = true)
    (a_u_is_small : PySem.W.nsIn K mainGlobals "_is_small" = some (some (.ref f_u_is_small)))
    (l_u_is_small : K.lookup f_u_is_small = some ⟨oc_u_is_small, od_u_is_small, .func (PySem.W.fnOf "_is_small" "_is_small" (defArgs s_u_is_small) (defBody s_u_is_small) (defScope s_u_is_small) .none kv_u_is_small dc_u_is_small pm_u_is_small an_u_is_small cd_u_is_small ct_u_is_small), sl_u_is_small⟩) (k_u_is_small : PySem.W.codeIn K cd_u_is_small "_is_small" = true) (p_u_is_small : PySem.W.keepIn K (.ref f_u_is_small) = true)
    (a_is_word : PySem.W.nsIn K mainGlobals "is_word" = some (some (.ref f_is_word)))
    (l_is_word : K.lookup f_is_word = some ⟨oc_is_word, od_is_word, .func (PySem.W.fnOf "is_word" "is_word" (defArgs s_is_word) (defBody s_is_word) (defScope s_is_word) .none kv_is_word dc_is_word pm_is_word an_is_word cd_is_word ct_is_word), sl_is_word⟩) (k_is_word : PySem.W.codeIn K cd_is_word "is_word" = true) (p_is_word : PySem.W.keepIn K (.ref f_is_word) = true)
    (a_u_is_wish : PySem.W.nsIn K mainGlobals "_is_wish" = some (some (.ref f_u_is_wish)))
    (l_u_is_wish : K.lookup f_u_is_wish = some ⟨oc_u_is_wish, od_u_is_wish, .func (PySem.W.fnOf "_is_wish" "_is_wish" (defArgs s_u_is_wish) (defBody s_u_is_wish) (defScope s_u_is_wish) .none kv_u_is_wish dc_u_is_wish pm_u_is_wish an_u_is_wish cd_u_is_wish ct_u_is_wish), sl_u_is_wish⟩) (k_u_is_wish : PySem.W.codeIn K cd_u_is_wish "_is_wish" = true) (p_u_is_wish : PySem.W.keepIn K (.ref f_u_is_wish) = true)
    (a_is_wish : PySem.W.nsIn K mainGlobals "is_wish" = some (some (.ref f_is_wish)))
    (l_is_wish : K.lookup f_is_wish = some ⟨oc_is_wish, od_is_wish, .func (PySem.W.fnOf "is_wish" "is_wish" (defArgs s_is_wish) (defBody s_is_wish) (defScope s_is_wish) .none kv_is_wish dc_is_wish pm_is_wish an_is_wish cd_is_wish ct_is_wish), sl_is_wish⟩) (k_is_wish : PySem.W.codeIn K cd_is_wish "is_wish" = true) (p_is_wish : PySem.W.keepIn K (.ref f_is_wish) = true)
    (a_u_do_fulfil : PySem.W.nsIn K mainGlobals "_do_fulfil" = some (some (.ref f_u_do_fulfil)))
    (l_u_do_fulfil : K.lookup f_u_do_fulfil = some ⟨oc_u_do_fulfil, od_u_do_fulfil, .func (PySem.W.fnOf "_do_fulfil" "_do_fulfil" (defArgs s_u_do_fulfil) (defBody s_u_do_fulfil) (defScope s_u_do_fulfil) .none kv_u_do_fulfil dc_u_do_fulfil pm_u_do_fulfil an_u_do_fulfil cd_u_do_fulfil ct_u_do_fulfil), sl_u_do_fulfil⟩) (k_u_do_fulfil : PySem.W.codeIn K cd_u_do_fulfil "_do_fulfil" = true) (p_u_do_fulfil : PySem.W.keepIn K (.ref f_u_do_fulfil) = true)
    (a_u_is_part : PySem.W.nsIn K mainGlobals "_is_part" = some (some (.ref f_u_is_part)))
    (l_u_is_part : K.lookup f_u_is_part = some ⟨oc_u_is_part, od_u_is_part, .func (PySem.W.fnOf "_is_part" "_is_part" (defArgs s_u_is_part) (defBody s_u_is_part) (defScope s_u_is_part) .none kv_u_is_part dc_u_is_part pm_u_is_part an_u_is_part cd_u_is_part ct_u_is_part), sl_u_is_part⟩) (k_u_is_part : PySem.W.codeIn K cd_u_is_part "_is_part" = true) (p_u_is_part : PySem.W.keepIn K (.ref f_u_is_part) = true)
    (a_all_words : PySem.W.nsIn K mainGlobals "all_words" = some (some (.ref f_all_words)))
    (l_all_words : K.lookup f_all_words = some ⟨oc_all_words, od_all_words, .func (PySem.W.fnOf "all_words" "all_words" (defArgs s_all_words) (defBody s_all_words) (defScope s_all_words) .none kv_all_words dc_all_words pm_all_words an_all_words cd_all_words ct_all_words), sl_all_words⟩) (k_all_words : PySem.W.codeIn K cd_all_words "all_words" = true) (p_all_words : PySem.W.keepIn K (.ref f_all_words) = true)
    (a_words_of : PySem.W.nsIn K mainGlobals "words_of" = some (some (.ref f_words_of)))
    (l_words_of : K.lookup f_words_of = some ⟨oc_words_of, od_words_of, .func (PySem.W.fnOf "words_of" "words_of" (defArgs s_words_of) (defBody s_words_of) (defScope s_words_of) .none kv_words_of dc_words_of pm_words_of an_words_of cd_words_of ct_words_of), sl_words_of⟩) (k_words_of : PySem.W.codeIn K cd_words_of "words_of" = true) (p_words_of : PySem.W.keepIn K (.ref f_words_of) = true)
    (a_fulfils : PySem.W.nsIn K mainGlobals "fulfils" = some (some (.ref f_fulfils)))
    (l_fulfils : K.lookup f_fulfils = some ⟨oc_fulfils, od_fulfils, .func (PySem.W.fnOf "fulfils" "fulfils" (defArgs s_fulfils) (defBody s_fulfils) (defScope s_fulfils) .none kv_fulfils dc_fulfils pm_fulfils an_fulfils cd_fulfils ct_fulfils), sl_fulfils⟩) (k_fulfils : PySem.W.codeIn K cd_fulfils "fulfils" = true) (p_fulfils : PySem.W.keepIn K (.ref f_fulfils) = true)
    (a_u_law_words : PySem.W.nsIn K mainGlobals "_law_words" = some (some (.ref f_u_law_words)))
    (l_u_law_words : K.lookup f_u_law_words = some ⟨oc_u_law_words, od_u_law_words, .func (PySem.W.fnOf "_law_words" "_law_words" (defArgs s_u_law_words) (defBody s_u_law_words) (defScope s_u_law_words) .none kv_u_law_words dc_u_law_words pm_u_law_words an_u_law_words cd_u_law_words ct_u_law_words), sl_u_law_words⟩) (k_u_law_words : PySem.W.codeIn K cd_u_law_words "_law_words" = true) (p_u_law_words : PySem.W.keepIn K (.ref f_u_law_words) = true)
    (a_u_law_fulfils : PySem.W.nsIn K mainGlobals "_law_fulfils" = some (some (.ref f_u_law_fulfils)))
    (l_u_law_fulfils : K.lookup f_u_law_fulfils = some ⟨oc_u_law_fulfils, od_u_law_fulfils, .func (PySem.W.fnOf "_law_fulfils" "_law_fulfils" (defArgs s_u_law_fulfils) (defBody s_u_law_fulfils) (defScope s_u_law_fulfils) .none kv_u_law_fulfils dc_u_law_fulfils pm_u_law_fulfils an_u_law_fulfils cd_u_law_fulfils ct_u_law_fulfils), sl_u_law_fulfils⟩) (k_u_law_fulfils : PySem.W.codeIn K cd_u_law_fulfils "_law_fulfils" = true) (p_u_law_fulfils : PySem.W.keepIn K (.ref f_u_law_fulfils) = true)
    (a_law : PySem.W.nsIn K mainGlobals "law" = some (some (.ref f_law)))
    (l_law : K.lookup f_law = some ⟨oc_law, od_law, .func (PySem.W.fnOf "law" "law" (defArgs s_law) (defBody s_law) (defScope s_law) .none kv_law dc_law pm_law an_law cd_law ct_law), sl_law⟩) (k_law : PySem.W.codeIn K cd_law "law" = true) (p_law : PySem.W.keepIn K (.ref f_law) = true)
    (z_range : PySem.W.nsIn K mainGlobals "range" = some none)
    (z_int : PySem.W.nsIn K mainGlobals "int" = some none)
    (z_tuple : PySem.W.nsIn K mainGlobals "tuple" = some none)
    (z_len : PySem.W.nsIn K mainGlobals "len" = some none)
    (z_all : PySem.W.nsIn K mainGlobals "all" = some none)
    (z_isinstance : PySem.W.nsIn K mainGlobals "isinstance" = some none)
    (z_str : PySem.W.nsIn K mainGlobals "str" = some none)
    {t_u_FEWEST_PARTS : Tok} (z_u_FEWEST_PARTS : PySem.W.nsIn K mainGlobals "_FEWEST_PARTS" = some (some (.int 2 t_u_FEWEST_PARTS)))
    {t_u_MOST_PARTS : Tok} (z_u_MOST_PARTS : PySem.W.nsIn K mainGlobals "_MOST_PARTS" = some (some (.int 6 t_u_MOST_PARTS)))
    {t_LONGEST : Tok} (z_LONGEST : PySem.W.nsIn K mainGlobals "LONGEST" = some (some (.int 40 t_LONGEST)))
    {t_u_DEEPEST : Tok} (z_u_DEEPEST : PySem.W.nsIn K mainGlobals "_DEEPEST" = some (some (.int 6 t_u_DEEPEST)))
    (z_any : PySem.W.nsIn K mainGlobals "any" = some none)
    (z_enumerate : PySem.W.nsIn K mainGlobals "enumerate" = some none)
    (z_max : PySem.W.nsIn K mainGlobals "max" = some none)
    (r_is_word : ((recsOf q).any fun e => e.name == "is_word") = true) (q_is_word : tabFree K cd_is_word = true)
    (r_u_is_wish : ((recsOf q).any fun e => e.name == "_is_wish") = true) (q_u_is_wish : tabFree K cd_u_is_wish = true)
    (r_u_do_fulfil : ((recsOf q).any fun e => e.name == "_do_fulfil") = true) (q_u_do_fulfil : tabFree K cd_u_do_fulfil = true) :
    LawX l w K CX0 52 63 "script" mg fa h := by
  have e := hfa.symm.trans (PySem.W.mg_of X G a_law)
  cases e
  obtain ⟨cc_is_word, tt_is_word, ec_is_word, ch_is_word, tb_is_word, nk_is_word⟩ := tab_of tabs r_is_word X (PySem.W.mg_of X G a_is_word) l_is_word q_is_word
  replace ec_is_word : cd_is_word = .ref cc_is_word := ec_is_word
  subst ec_is_word
  obtain ⟨cc_u_is_wish, tt_u_is_wish, ec_u_is_wish, ch_u_is_wish, tb_u_is_wish, nk_u_is_wish⟩ := tab_of tabs r_u_is_wish X (PySem.W.mg_of X G a_u_is_wish) l_u_is_wish q_u_is_wish
  replace ec_u_is_wish : cd_u_is_wish = .ref cc_u_is_wish := ec_u_is_wish
  subst ec_u_is_wish
  obtain ⟨cc_u_do_fulfil, tt_u_do_fulfil, ec_u_do_fulfil, ch_u_do_fulfil, tb_u_do_fulfil, nk_u_do_fulfil⟩ := tab_of tabs r_u_do_fulfil X (PySem.W.mg_of X G a_u_do_fulfil) l_u_do_fulfil q_u_do_fulfil
  replace ec_u_do_fulfil : cd_u_do_fulfil = .ref cc_u_do_fulfil := ec_u_do_fulfil
  subst ec_u_do_fulfil
  let KT : Fg := ⟨K, fun P => P ∈ ([(cc_is_word, tt_is_word), (cc_u_is_wish, tt_u_is_wish), (cc_u_do_fulfil, tt_u_do_fulfil)] : List (Addr × Addr)).map (·.2), fun n => .non, w⟩
  have Z : Gk KT := ⟨⟩
  have T : Gb KT mg := ⟨Z, PySem.W.mg_none_of X G z_range, PySem.W.mg_none_of X G z_int, PySem.W.mg_none_of X G z_tuple, PySem.W.mg_none_of X G z_len, PySem.W.mg_none_of X G z_all, PySem.W.mg_none_of X G z_isinstance, PySem.W.mg_none_of X G z_str, ⟨_, PySem.W.mg_of X G z_u_FEWEST_PARTS⟩, ⟨_, PySem.W.mg_of X G z_u_MOST_PARTS⟩, ⟨_, PySem.W.mg_of X G z_LONGEST⟩, ⟨_, PySem.W.mg_of X G z_u_DEEPEST⟩, PySem.W.mg_none_of X G z_any, PySem.W.mg_none_of X G z_enumerate, PySem.W.mg_none_of X G z_max⟩
  refine LawX.mk (KT := KT) (PySem.W.fnOf "law" "law" (defArgs s_law) (defBody s_law) (defScope s_law) .none kv_law dc_law pm_law an_law cd_law ct_law) [(cc_is_word, tt_is_word), (cc_u_is_wish, tt_u_is_wish), (cc_u_do_fulfil, tt_u_do_fulfil)] (RM 1 m_law) (fun p hp => by
    simp only [List.mem_cons, List.not_mem_nil, or_false] at hp
    rcases hp with rfl | rfl | rfl
    · exact tb_is_word
    · exact tb_u_is_wish
    · exact tb_u_do_fulfil) (fun p hp => by
    simp only [List.mem_cons, List.not_mem_nil, or_false] at hp
    rcases hp with rfl | rfl | rfl
    · exact nk_is_word
    · exact nk_u_is_wish
    · exact nk_u_do_fulfil) (fun p hp => by
    simp only [List.mem_cons, List.not_mem_nil, or_false] at hp
    rcases hp with rfl | rfl | rfl
    · exact ch_is_word
    · exact ch_u_is_wish
    · exact ch_u_do_fulfil) (fun s v => .of_eq rfl) (fun ns hl hb => ⟨rfl, hlaw ns hl hb⟩) fun base _ _ TB => ?_
  have c_u_law_text : Cal l.prog w KT mg base "_law_text" 1 (RM 1 m_u_law_text) := ⟨f_u_law_text, _, _, ok_u_law_text (K := KT) (fun_mk (st := s_u_law_text) l_u_law_text k_u_law_text p_u_law_text) T , PySem.W.mg_of X G a_u_law_text, p_u_law_text, ((fun_mk (st := s_u_law_text) l_u_law_text k_u_law_text p_u_law_text).binds (ps := ["draws"]) fun _ _ _ _ _ _ us hl => match us, hl with | [_], _ => rfl)⟩
  have c_u_law_wish : Cal l.prog w KT mg base "_law_wish" 6 (RM 2 (m_u_law_wish 5)) := cal_u_law_wish (K := KT) (fun_mk (st := s_u_law_wish) l_u_law_wish k_u_law_wish p_u_law_wish) T  (PySem.W.mg_of X G a_u_law_wish) p_u_law_wish ((fun_mk (st := s_u_law_wish) l_u_law_wish k_u_law_wish p_u_law_wish).binds (ps := ["draws", "deep"]) fun _ _ _ _ _ _ us hl => match us, hl with | [_, _], _ => rfl) 5
  have c_u_law_draws : Cal l.prog w KT mg base "_law_draws" 1 (RM 2 m_u_law_draws) := ⟨f_u_law_draws, _, _, ok_u_law_draws (K := KT) (fun_mk (st := s_u_law_draws) l_u_law_draws k_u_law_draws p_u_law_draws) T , PySem.W.mg_of X G a_u_law_draws, p_u_law_draws, ((fun_mk (st := s_u_law_draws) l_u_law_draws k_u_law_draws p_u_law_draws).binds (ps := ["cell", "many"]) fun _ _ _ _ _ _ us hl => match us, hl with | [_, _], _ => rfl)⟩
  have c_u_is_small : Cal l.prog w KT mg base "_is_small" 1 (RM 1 m_u_is_small) := ⟨f_u_is_small, _, _, ok_u_is_small (K := KT) (fun_mk (st := s_u_is_small) l_u_is_small k_u_is_small p_u_is_small) T , PySem.W.mg_of X G a_u_is_small, p_u_is_small, ((fun_mk (st := s_u_is_small) l_u_is_small k_u_is_small p_u_is_small).binds (ps := ["sign"]) fun _ _ _ _ _ _ us hl => match us, hl with | [_], _ => rfl)⟩
  have c_is_word : Cal l.prog w KT mg base "is_word" 4 (RM 1 m_is_word) := ⟨f_is_word, _, _, ok_is_word (K := KT) ⟨⟨_, _, _, _, _, _, _, _, rfl, l_is_word, k_is_word⟩, p_is_word⟩ T (tabB_of (TB (cc_is_word, tt_is_word) (by simp))) (show KT.T tt_is_word from by show _ ∈ _; simp) c_u_is_small, PySem.W.mg_of X G a_is_word, p_is_word, ((fun_mk (st := s_is_word) l_is_word k_is_word p_is_word).binds (ps := ["value"]) fun _ _ _ _ _ _ us hl => match us, hl with | [_], _ => rfl)⟩
  have c_u_is_wish : Cal l.prog w KT mg base "_is_wish" 50 (RM 2 (m_u_is_wish 7)) := cal_u_is_wish (K := KT) ⟨⟨_, _, _, _, _, _, _, _, rfl, l_u_is_wish, k_u_is_wish⟩, p_u_is_wish⟩ T c_is_word (tabB_of (TB (cc_u_is_wish, tt_u_is_wish) (by simp))) (show KT.T tt_u_is_wish from by show _ ∈ _; simp) (PySem.W.mg_of X G a_u_is_wish) p_u_is_wish ((fun_mk (st := s_u_is_wish) l_u_is_wish k_u_is_wish p_u_is_wish).binds (ps := ["value", "deep"]) fun _ _ _ _ _ _ us hl => match us, hl with | [_, _], _ => rfl) 7
  have c_is_wish : Cal l.prog w KT mg base "is_wish" 51 (RM 1 m_is_wish) := ⟨f_is_wish, _, _, ok_is_wish (K := KT) (fun_mk (st := s_is_wish) l_is_wish k_is_wish p_is_wish) T c_u_is_wish, PySem.W.mg_of X G a_is_wish, p_is_wish, ((fun_mk (st := s_is_wish) l_is_wish k_is_wish p_is_wish).binds (ps := ["value"]) fun _ _ _ _ _ _ us hl => match us, hl with | [_], _ => rfl)⟩
  have c_u_do_fulfil : Cal l.prog w KT mg base "_do_fulfil" 19 (RM 2 (m_u_do_fulfil 6)) := cal_u_do_fulfil (K := KT) ⟨⟨_, _, _, _, _, _, _, _, rfl, l_u_do_fulfil, k_u_do_fulfil⟩, p_u_do_fulfil⟩ T  (tabB_of (TB (cc_u_do_fulfil, tt_u_do_fulfil) (by simp))) (show KT.T tt_u_do_fulfil from by show _ ∈ _; simp) (PySem.W.mg_of X G a_u_do_fulfil) p_u_do_fulfil ((fun_mk (st := s_u_do_fulfil) l_u_do_fulfil k_u_do_fulfil p_u_do_fulfil).binds (ps := ["words", "wish"]) fun _ _ _ _ _ _ us hl => match us, hl with | [_, _], _ => rfl) 6
  have c_u_is_part : Cal l.prog w KT mg base "_is_part" 2 (RM 1 m_u_is_part) := ⟨f_u_is_part, _, _, ok_u_is_part (K := KT) (fun_mk (st := s_u_is_part) l_u_is_part k_u_is_part p_u_is_part) T c_u_is_small, PySem.W.mg_of X G a_u_is_part, p_u_is_part, ((fun_mk (st := s_u_is_part) l_u_is_part k_u_is_part p_u_is_part).binds (ps := ["sign"]) fun _ _ _ _ _ _ us hl => match us, hl with | [_], _ => rfl)⟩
  have c_all_words : Cal l.prog w KT mg base "all_words" 3 (RM 1 m_all_words) := ⟨f_all_words, _, _, ok_all_words (K := KT) (fun_mk (st := s_all_words) l_all_words k_all_words p_all_words) T c_u_is_part, PySem.W.mg_of X G a_all_words, p_all_words, ((fun_mk (st := s_all_words) l_all_words k_all_words p_all_words).binds (ps := ["text"]) fun _ _ _ _ _ _ us hl => match us, hl with | [_], _ => rfl)⟩
  have c_words_of : Cal l.prog w KT mg base "words_of" 4 (RM 1 m_words_of) := ⟨f_words_of, _, _, ok_words_of (K := KT) (fun_mk (st := s_words_of) l_words_of k_words_of p_words_of) T c_all_words, PySem.W.mg_of X G a_words_of, p_words_of, ((fun_mk (st := s_words_of) l_words_of k_words_of p_words_of).binds (ps := ["text"]) fun _ _ _ _ _ _ us hl => match us, hl with | [_], _ => rfl)⟩
  have c_fulfils : Cal l.prog w KT mg base "fulfils" 20 (RM 2 m_fulfils) := ⟨f_fulfils, _, _, ok_fulfils (K := KT) (fun_mk (st := s_fulfils) l_fulfils k_fulfils p_fulfils) T c_u_do_fulfil c_words_of, PySem.W.mg_of X G a_fulfils, p_fulfils, ((fun_mk (st := s_fulfils) l_fulfils k_fulfils p_fulfils).binds (ps := ["text", "wish"]) fun _ _ _ _ _ _ us hl => match us, hl with | [_, _], _ => rfl)⟩
  have c_u_law_words : Cal l.prog w KT mg base "_law_words" 1 (RM 1 m_u_law_words) := ⟨f_u_law_words, _, _, ok_u_law_words (K := KT) (fun_mk (st := s_u_law_words) l_u_law_words k_u_law_words p_u_law_words) T , PySem.W.mg_of X G a_u_law_words, p_u_law_words, ((fun_mk (st := s_u_law_words) l_u_law_words k_u_law_words p_u_law_words).binds (ps := ["text"]) fun _ _ _ _ _ _ us hl => match us, hl with | [_], _ => rfl)⟩
  have c_u_law_fulfils : Cal l.prog w KT mg base "_law_fulfils" 13 (RM 2 (m_u_law_fulfils 6)) := cal_u_law_fulfils (K := KT) (fun_mk (st := s_u_law_fulfils) l_u_law_fulfils k_u_law_fulfils p_u_law_fulfils) T c_u_law_words (PySem.W.mg_of X G a_u_law_fulfils) p_u_law_fulfils ((fun_mk (st := s_u_law_fulfils) l_u_law_fulfils k_u_law_fulfils p_u_law_fulfils).binds (ps := ["text", "wish"]) fun _ _ _ _ _ _ us hl => match us, hl with | [_, _], _ => rfl) 6
  exact ok_law (K := KT) (fun_mk (st := s_law) l_law k_law p_law) T c_u_law_text c_u_law_wish c_u_law_draws c_is_wish c_fulfils c_u_law_fulfils
theorem walkL {l : PySem.W.OpenLaw} {q : Program} {loose : List Str} {XP : (Str → Option Value) → Heap → Prop} {YP : World → Heap → Prop} {d : DefRec} {K : Params → PySem.W.Frag} (hn : l.most = some 63) (hdf : d.params.defaults = [])
    (hY : ∀ (w : World) (h : Heap), YP w h → (K w.params).In h)
    (F : ∀ (w : World) (mg : Str → Option Value) (fa : Addr) (h : Heap), (K w.params).In h → h.Ns mainGlobals mg → mg d.name = some (.ref fa) → AllTabs q mg h → LawX l w (K w.params) CX0 52 63 "script" mg fa h) :
    PySem.W.WalkO q loose XP YP l.row.toRowW d [] (fun f vs => PySem.call f vs) :=
  walk_allX (n := 63) (k := 52) (x := "script") (CX := fun _ => CX0) hn (by decide) hdf ⟨rfl, by decide, by decide⟩ hY (fun w mg fa h _ KX G hm t => F w mg fa h KX G hm t) fun _ _ _ _ _ z => z
end My
open PySem PySem.W PyProof.Rows in
set_option maxRecDepth 100000 in
set_option maxHeartbeats 0 in
theorem PySem.Challenge.cw_askedthen_k22_wishes_are_fulfilled_holds : PySem.Challenge.rw_askedthen_k22_wishes_are_fulfilled.Holds := by
  w_on; o_law; k_head; (case hw => w_witness2)
  k_fill
  refine My.walkL (l := PySem.Challenge.rw_askedthen_k22_wishes_are_fulfilled) rfl rfl (fun w h Y => by first | exact PySem.W.kIn_of Y | exact PySem.W.km_in_of Y) ?F
  case F =>
    intro w mg fa h KX G hmg tabs
    refine' My.all_mk My.law_true KX G hmg tabs ?a_u_law_text ?l_u_law_text ?k_u_law_text ?p_u_law_text ?a_u_law_wish ?l_u_law_wish ?k_u_law_wish ?p_u_law_wish ?a_u_law_draws ?l_u_law_draws ?k_u_law_draws ?p_u_law_draws ?a_u_is_small ?l_u_is_small ?k_u_is_small ?p_u_is_small ?a_is_word ?l_is_word ?k_is_word ?p_is_word ?a_u_is_wish ?l_u_is_wish ?k_u_is_wish ?p_u_is_wish ?a_is_wish ?l_is_wish ?k_is_wish ?p_is_wish ?a_u_do_fulfil ?l_u_do_fulfil ?k_u_do_fulfil ?p_u_do_fulfil ?a_u_is_part ?l_u_is_part ?k_u_is_part ?p_u_is_part ?a_all_words ?l_all_words ?k_all_words ?p_all_words ?a_words_of ?l_words_of ?k_words_of ?p_words_of ?a_fulfils ?l_fulfils ?k_fulfils ?p_fulfils ?a_u_law_words ?l_u_law_words ?k_u_law_words ?p_u_law_words ?a_u_law_fulfils ?l_u_law_fulfils ?k_u_law_fulfils ?p_u_law_fulfils ?a_law ?l_law ?k_law ?p_law ?z_range ?z_int ?z_tuple ?z_len ?z_all ?z_isinstance ?z_str ?z_u_FEWEST_PARTS ?z_u_MOST_PARTS ?z_LONGEST ?z_u_DEEPEST ?z_any ?z_enumerate ?z_max ?r_is_word ?q_is_word ?r_u_is_wish ?q_u_is_wish ?r_u_do_fulfil ?q_u_do_fulfil
    (case a_u_law_text => k_is)
    (case a_u_law_wish => k_is)
    (case a_u_law_draws => k_is)
    (case a_u_is_small => k_is)
    (case a_is_word => k_is)
    (case a_u_is_wish => k_is)
    (case a_is_wish => k_is)
    (case a_u_do_fulfil => k_is)
    (case a_u_is_part => k_is)
    (case a_all_words => k_is)
    (case a_words_of => k_is)
    (case a_fulfils => k_is)
    (case a_u_law_words => k_is)
    (case a_u_law_fulfils => k_is)
    (case a_law => k_is)
    (case z_range => k_is)
    (case z_int => k_is)
    (case z_tuple => k_is)
    (case z_len => k_is)
    (case z_all => k_is)
    (case z_isinstance => k_is)
    (case z_str => k_is)
    (case z_u_FEWEST_PARTS => k_is)
    (case z_u_MOST_PARTS => k_is)
    (case z_LONGEST => k_is)
    (case z_u_DEEPEST => k_is)
    (case z_any => k_is)
    (case z_enumerate => k_is)
    (case z_max => k_is)
    (case l_u_law_text => k_is)
    (case k_u_law_text => k_is)
    (case p_u_law_text => k_is)
    (case l_u_law_wish => k_is)
    (case k_u_law_wish => k_is)
    (case p_u_law_wish => k_is)
    (case l_u_law_draws => k_is)
    (case k_u_law_draws => k_is)
    (case p_u_law_draws => k_is)
    (case l_u_is_small => k_is)
    (case k_u_is_small => k_is)
    (case p_u_is_small => k_is)
    (case l_is_word => k_is)
    (case k_is_word => k_is)
    (case p_is_word => k_is)
    (case l_u_is_wish => k_is)
    (case k_u_is_wish => k_is)
    (case p_u_is_wish => k_is)
    (case l_is_wish => k_is)
    (case k_is_wish => k_is)
    (case p_is_wish => k_is)
    (case l_u_do_fulfil => k_is)
    (case k_u_do_fulfil => k_is)
    (case p_u_do_fulfil => k_is)
    (case l_u_is_part => k_is)
    (case k_u_is_part => k_is)
    (case p_u_is_part => k_is)
    (case l_all_words => k_is)
    (case k_all_words => k_is)
    (case p_all_words => k_is)
    (case l_words_of => k_is)
    (case k_words_of => k_is)
    (case p_words_of => k_is)
    (case l_fulfils => k_is)
    (case k_fulfils => k_is)
    (case p_fulfils => k_is)
    (case l_u_law_words => k_is)
    (case k_u_law_words => k_is)
    (case p_u_law_words => k_is)
    (case l_u_law_fulfils => k_is)
    (case k_u_law_fulfils => k_is)
    (case p_u_law_fulfils => k_is)
    (case l_law => k_is)
    (case k_law => k_is)
    (case p_law => k_is)
    (case r_is_word => first | rfl | decide +kernel)
    (case q_is_word => first | k_is | rfl | decide +kernel)
    (case r_u_is_wish => first | rfl | decide +kernel)
    (case q_u_is_wish => first | k_is | rfl | decide +kernel)
    (case r_u_do_fulfil => first | rfl | decide +kernel)
    (case q_u_do_fulfil => first | k_is | rfl | decide +kernel)