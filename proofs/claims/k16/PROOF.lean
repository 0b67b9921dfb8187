import PyProof.Rows.All
import Wide.All
import OpenK.AllK
import Wide.FinOn
import HandS.Base
import HandS.Call
import HandS.List
import HandS.Comp
import HandS.Iter
import HandS.Exc
import HandS.Words
import HandS.WordsExc
import HandS.Flow
import HandS.Wide
import HandS.Text
import HandS.IsInst
import KE.SortData
import KE.DataEq
import KE.DataIsa
import KE.DataCmp
import KE.DataMinMax
import KE.DataAny
import HandS.Dict
import HandS.Lambda
import HandS.TupAny
import HandS.TupMul
import HandS.Style
import HandS.Replace
import HandS.Walk
import HandS.Zip
import PyProof.TupleOfSeq
import PyProof.TupleOfStr
import HandS.SortKw
import HandS.Conv
import HandS.Defaults
import HandS.Head0
import HandS.Head1
import HandS.Head2
import HandS.Ends
import HandS.HeadEnd
import HandS.HeadHook1
import HandS.HeadHook2
import HandS.HeadHook3
import HandS.HeadHook4
import HandS.HeadWalk
import KE.KStateDown
import KE.GoesEnum
import KE.KMulAny
import HandS.SetFor
import HandS.TupSets
import KE.SortKeyHeap
import KE.KLam
import PySem.Challenge.RW_partpicks_k16_steps_and_words_or_none
set_option Elab.async false
set_option linter.all false
set_option autoImplicit false
set_option maxRecDepth 100000
set_option maxHeartbeats 0
/-! Values as data: what an expression gives as a function of the frame's data. -/
namespace Pt
open PySem PySem.Spec PyProof.Rows L2

abbrev D := PyData
/-- how a result lies: settled; a new list that nobody else holds; the list that slot i owns -/
inductive Kd where
  | st | fr | pk (i : Nat)
  deriving DecidableEq, Repr
/-- the tables of code objects that the defs may write (those of the defs that make a lambda) -/
class Tb where
  T : List (Addr × Str)
/-- for what speaks of data alone -/
instance (priority := low) tb0 : Tb := ⟨[]⟩
/-- a slot: nothing is told; a settled datum; a list that this frame alone may change; a dict likewise -/
inductive Slot where
  | emp | pure (d : D) | own (ds : List D) | dct (kvs : List (L2.Key × D))
abbrev Ev := List Slot

/-! ### data in a larger heap -/
/-- all but tables stays -/
def Le (R R' : Hp) : Prop := (∀ a o, (∀ ps, o ≠ .tbl ps) → R a = some o → R' a = some o) ∧ ∀ a, R' a = none → R a = none
theorem Le.refl (R : Hp) : Le R R := ⟨fun _ _ _ h => h, fun _ h => h⟩
theorem Le.trans {R R1 R2 : Hp} (h : Le R R1) (k : Le R1 R2) : Le R R2 := ⟨fun a o n e => k.1 a o n (h.1 a o n e), fun a e => h.2 a (k.2 a e)⟩
theorem Le.upd {R : Hp} {p : Addr} {o : HO} (h : R p = none) : Le R (upd R p o) := ⟨fun a u _ e => by
  rw [upd_ne (ne_of_none e h)]; exact e, fun a e => by
  by_cases z : a = p
  · subst z; exact h
  · rwa [upd_ne z] at e⟩
theorem nt_lst {xs : List V} (ps : Array Value) : HO.lst xs ≠ .tbl ps := fun z => by cases z
theorem nt_tup {xs : List V} (ps : Array Value) : HO.tup xs ≠ .tbl ps := fun z => by cases z
theorem nt_dK {xs : List (L2.Key × V)} (ps : Array Value) : HO.dK xs ≠ .tbl ps := fun z => by cases z
theorem nt_frz {o : Obj} {u : HO} (ps : Array Value) : HO.frz o u ≠ .tbl ps := fun z => by cases z
theorem Le.lst {R R' : Hp} (h : Le R R') {a : Addr} {xs : List V} (e : R a = some (.lst xs)) : R' a = some (.lst xs) := h.1 a _ nt_lst e
theorem Le.tup {R R' : Hp} (h : Le R R') {a : Addr} {xs : List V} (e : R a = some (.tup xs)) : R' a = some (.tup xs) := h.1 a _ nt_tup e
theorem Le.dK {R R' : Hp} (h : Le R R') {a : Addr} {xs : List (L2.Key × V)} (e : R a = some (.dK xs)) : R' a = some (.dK xs) := h.1 a _ nt_dK e
theorem rd_le {R R' : Hp} (h : Le R R') {a : Addr} {u : HO} (r : Rd R a u) (n : ∀ ps, u ≠ .tbl ps) : Rd R' a u := by
  rcases r with r | ⟨o, r⟩
  · exact .inl (h.1 _ _ n r)
  · exact .inr ⟨o, h.1 _ _ nt_frz r⟩
theorem sqL_le {K : PySem.W.Frag} {R R' : Hp} (h : Le R R') {a : Addr} {xs : List V} (r : SqL K R a xs) : SqL K R' a xs := by
  rcases r with r | r
  · exact .inl (rd_le h r nt_lst)
  · exact .inr r
theorem sqT_le {K : PySem.W.Frag} {R R' : Hp} (h : Le R R') {a : Addr} {xs : List V} (r : SqT K R a xs) : SqT K R' a xs := by
  rcases r with r | r
  · exact .inl (rd_le h r nt_tup)
  · exact .inr r
mutual
theorem dp_le {K : PySem.W.Frag} {R R' : Hp} (h : Le R R') : ∀ (d : D) {v : V}, Dp K R v d → Dp K R' v d
  | .none, _, x => by cases x; exact .non
  | .bool b, _, x => by cases x; exact .bl b
  | .int i, _, x => by cases x; exact .int i
  | .str s, _, x => by cases x; exact .str s
  | .list ds, _, x => by cases x with | lst a b => exact .lst (sqL_le h a) (dpAll_le h ds b)
  | .tuple ds, _, x => by cases x with | tup a b => exact .tup (sqT_le h a) (dpAll_le h ds b)
  | .dict _, _, x => by cases x
theorem dpAll_le {K : PySem.W.Frag} {R R' : Hp} (h : Le R R') : ∀ (ds : List D) {vs : List V}, DpAll K R vs ds → DpAll K R' vs ds
  | [], _, x => by cases x; exact .nil
  | d :: ds, _, x => by cases x with | cons a b => exact .cons (dp_le h d a) (dpAll_le h ds b)
end
theorem dpAll_len {K : PySem.W.Frag} {R : Hp} : ∀ {ds : List D} {vs : List V}, DpAll K R vs ds → vs.length = ds.length
  | [], _, x => by cases x; rfl
  | d :: ds, _, x => by cases x with | cons a b => simp [dpAll_len b]
theorem dpAll_get {K : PySem.W.Frag} {R : Hp} : ∀ {ds : List D} {vs : List V} {i : Nat} {v : V}, DpAll K R vs ds → vs[i]? = some v → ∃ d, ds[i]? = some d ∧ Dp K R v d
  | [], _, _, _, x, e => by cases x; simp at e
  | d :: ds, _, 0, _, x, e => by cases x with | cons a b => simp at e; subst e; exact ⟨d, rfl, a⟩
  | d :: ds, _, i + 1, _, x, e => by cases x with | cons a b => simpa using dpAll_get b (by simpa using e)
theorem dpAll_get' {K : PySem.W.Frag} {R : Hp} {ds : List D} {vs : List V} {i : Nat} {d : D} (x : DpAll K R vs ds) (e : ds[i]? = some d) : ∃ v, vs[i]? = some v ∧ Dp K R v d := by
  have hl := dpAll_len x
  have hi : i < vs.length := by rw [hl]; exact (List.getElem?_eq_some_iff.mp e).1
  obtain ⟨d', e', h⟩ := dpAll_get x (List.getElem?_eq_getElem hi)
  rw [e] at e'; cases e'
  exact ⟨_, List.getElem?_eq_getElem hi, h⟩
theorem dpAll_append {K : PySem.W.Frag} {R : Hp} : ∀ {ds es : List D} {vs us : List V}, DpAll K R vs ds → DpAll K R us es → DpAll K R (vs ++ us) (ds ++ es)
  | [], _, _, _, x, y => by cases x; exact y
  | d :: ds, _, _, _, x, y => by cases x with | cons a b => exact .cons a (dpAll_append b y)
theorem dpAll_take {K : PySem.W.Frag} {R : Hp} : ∀ (n : Nat) {ds : List D} {vs : List V}, DpAll K R vs ds → DpAll K R (vs.take n) (ds.take n)
  | 0, _, _, _ => .nil
  | _ + 1, [], _, x => by cases x; exact .nil
  | n + 1, d :: ds, _, x => by cases x with | cons a b => exact .cons a (dpAll_take n b)
theorem dpAll_drop {K : PySem.W.Frag} {R : Hp} : ∀ (n : Nat) {ds : List D} {vs : List V}, DpAll K R vs ds → DpAll K R (vs.drop n) (ds.drop n)
  | 0, _, _, x => x
  | _ + 1, [], _, x => by cases x; exact .nil
  | n + 1, d :: ds, _, x => by cases x with | cons a b => exact dpAll_drop n b
theorem dpAll_set {K : PySem.W.Frag} {R : Hp} {d : D} {v : V} (h : Dp K R v d) : ∀ (n : Nat) {ds : List D} {vs : List V}, DpAll K R vs ds → DpAll K R (vs.set n v) (ds.set n d)
  | _, [], _, x => by cases x; exact .nil
  | 0, e :: ds, _, x => by cases x with | cons a b => exact .cons h b
  | n + 1, e :: ds, _, x => by cases x with | cons a b => exact .cons a (dpAll_set h n b)
theorem dpAll_snoc {K : PySem.W.Frag} {R : Hp} {ds : List D} {vs : List V} {d : D} {v : V} (x : DpAll K R vs ds) (h : Dp K R v d) : DpAll K R (vs ++ [v]) (ds ++ [d]) := dpAll_append x (.cons h .nil)

/-- a dict's values -/
def DpKV (K : PySem.W.Frag) (R : Hp) : List (L2.Key × V) → List (L2.Key × D) → Prop := Paired fun p q => p.1 = q.1 ∧ Dp K R p.2 q.2
theorem dpKV_le {K : PySem.W.Frag} {R R' : Hp} (h : Le R R') : ∀ {ds : List (L2.Key × D)} {vs : List (L2.Key × V)}, DpKV K R vs ds → DpKV K R' vs ds
  | _, _, .nil => .nil
  | _, _, .cons a t => .cons ⟨a.1, dp_le h _ a.2⟩ (dpKV_le h t)

/-! ### the frame's state -/
section
variable [Tb]
/-- R grows, by objects that B does not hold -/
def Grow (B R R' : Hp) : Prop := Le R R' ∧ ∀ a o, R' a = some o → R a = some o ∨ B a = none
theorem Grow.refl (B R : Hp) : Grow B R R := ⟨Le.refl R, fun _ _ h => .inl h⟩
theorem Grow.trans {B R R1 R2 : Hp} (h : Grow B R R1) (k : Grow B R1 R2) : Grow B R R2 := ⟨h.1.trans k.1, fun a o e => by
  rcases k.2 a o e with e | e
  · exact h.2 a o e
  · exact .inr e⟩
theorem Grow.upd {B R : Hp} {p : Addr} {o : HO} (h : R p = none) (b : B p = none) : Grow B R (upd R p o) := ⟨Le.upd h, fun a u e => by
  by_cases z : a = p
  · subst z; exact .inr b
  · rw [upd_ne z] at e; exact .inl e⟩

def SlotOk (K : PySem.W.Frag) (B R H : Hp) (x : Option (Option V)) : Slot → Prop
  | .emp => True
  | .pure d => ∃ v, x = some (some v) ∧ Dp K R v d
  | .own ds => ∃ a vs, x = some (some (.ref a)) ∧ H a = some (.lst vs) ∧ DpAll K R vs ds ∧ R a = none ∧ B a = none
  | .dct kvs => ∃ a vs, x = some (some (.ref a)) ∧ H a = some (.dK vs) ∧ DpKV K R vs kvs ∧ R a = none ∧ B a = none

/-- no table -/
def NT (R : Hp) : Prop := ∀ a ps, R a ≠ some (.tbl ps)
/-- As: the parameters that the def assigns; vs0: its arguments; B: what must stay; R: the settled objects -/
structure Ok (K : PySem.W.Frag) (As : List Nat) (vs0 : List V) (B R H : Hp) (σ : L2.St) (env : Ev) : Prop where
  len : σ.length = env.length
  rh : Le R H
  bh : Le B H
  sl : ∀ (i : Nat) (s : Slot), env[i]? = some s → SlotOk K B R H σ[i]? s
  ap : ∀ (i j : Nat) (ds es : List D) (a : Addr), env[i]? = some (.own ds) → env[j]? = some (.own es) → σ[i]? = some (some (.ref a)) → σ[j]? = some (some (.ref a)) → i = j
  ar : ∀ (i : Nat) (v : V), vs0[i]? = some v → i ∉ As → σ[i]? = some (some v)
  ad : ∀ (i j : Nat) (ds es : List (L2.Key × D)) (a : Addr), env[i]? = some (.dct ds) → env[j]? = some (.dct es) → σ[i]? = some (some (.ref a)) → σ[j]? = some (some (.ref a)) → i = j
  tb : LamX.Tabs Tb.T H
  nt : NT R
  nb : NT B
/-- tables stay where nothing but a list or a dict is written -/
theorem tabs_upd {T : List (Addr × Str)} {H : Hp} {a : Addr} {o : HO} (t : LamX.Tabs T H) (h : H a = none ∨ (∃ xs, H a = some (.lst xs)) ∨ ∃ xs, H a = some (.dK xs)) : LamX.Tabs T (upd H a o) := fun p hp => by
  obtain ⟨ps, h1, h2, h3⟩ := t p hp
  have ne : ∀ b u, H b = some u → (∀ xs, u ≠ .lst xs) → (∀ xs, u ≠ .dK xs) → b ≠ a := fun b u e n1 n2 z => by
    subst z
    rcases h with h | ⟨xs, h⟩ | ⟨xs, h⟩
    · rw [e] at h; cases h
    · rw [e] at h; exact n1 _ (Option.some.inj h)
    · rw [e] at h; exact n2 _ (Option.some.inj h)
  refine ⟨ps, by rw [upd_ne (ne _ _ h1 (fun _ z => by cases z) (fun _ z => by cases z))]; exact h1, h2, fun pos cv hc => ?_⟩
  obtain ⟨c, e1, e2⟩ := h3 pos cv hc
  exact ⟨c, e1, by rw [upd_ne (ne _ _ e2 (fun _ z => by unfold LamX.CodeO at z; cases z) (fun _ z => by unfold LamX.CodeO at z; cases z))]; exact e2⟩

theorem NT.upd {R : Hp} {a : Addr} {o : HO} (n : NT R) (h : ∀ ps, o ≠ .tbl ps) : NT (upd R a o) := fun b ps e => by
  by_cases z : b = a
  · subst z; rw [upd_same] at e; exact h ps (Option.some.inj e)
  · rw [upd_ne z] at e; exact n b ps e
/-- nobody of the frame owns a -/
def Free (σ : L2.St) (env : Ev) (a : Addr) : Prop := ∀ (i : Nat) (ds : List D), env[i]? = some (.own ds) → σ[i]? ≠ some (some (.ref a))
def ResOk (K : PySem.W.Frag) (B R H : Hp) (σ : L2.St) (env : Ev) (v : V) (d : D) : Kd → Prop
  | .st => Dp K R v d
  | .fr => ∃ a vs ds, v = .ref a ∧ d = .list ds ∧ H a = some (.lst vs) ∧ DpAll K R vs ds ∧ R a = none ∧ B a = none ∧ Free σ env a
  | .pk i => σ[i]? = some (some v) ∧ ∃ ds, d = .list ds ∧ env[i]? = some (.own ds)
/-- what an operation may read at once -/
def UseOk (K : PySem.W.Frag) (R H : Hp) (v : V) (d : D) : Prop := Dp K R v d ∨ ∃ a vs ds, v = .ref a ∧ d = .list ds ∧ H a = some (.lst vs) ∧ DpAll K R vs ds

section
variable {K : PySem.W.Frag} {As : List Nat} {vs0 : List V} {B R R' H H' : Hp} {σ : L2.St} {env env' : Ev} {v : V} {d : D} {k : Kd} {a : Addr}
theorem SlotOk.mono (g : Grow B R R') {x : Option (Option V)} {s : Slot} (h : SlotOk K B R H x s) (hh : ∀ a o, x = some (some (.ref a)) → H a = some o → (∀ ps, o ≠ .tbl ps) → R a = none → B a = none → H' a = some o ∧ R' a = none) : SlotOk K B R' H' x s := by
  cases s with
  | emp => trivial
  | pure d => obtain ⟨v, e, h⟩ := h; exact ⟨v, e, dp_le g.1 _ h⟩
  | own ds =>
    obtain ⟨a, vs, e, h1, h2, h3, h4⟩ := h
    obtain ⟨q1, q2⟩ := hh a _ e h1 nt_lst h3 h4
    exact ⟨a, vs, e, q1, dpAll_le g.1 _ h2, q2, h4⟩
  | dct ds =>
    obtain ⟨a, vs, e, h1, h2, h3, h4⟩ := h
    obtain ⟨q1, q2⟩ := hh a _ e h1 nt_dK h3 h4
    exact ⟨a, vs, e, q1, dpKV_le g.1 h2, q2, h4⟩
theorem Ok.use (ok : Ok K As vs0 B R H σ env) (r : ResOk K B R H σ env v d k) : UseOk K R H v d := by
  cases k with
  | st => exact .inl r
  | fr =>
    obtain ⟨a, vs, ds, e, e2, h1, h2, _⟩ := r
    exact .inr ⟨a, vs, ds, e, e2, h1, h2⟩
  | pk i =>
    obtain ⟨e, ds, e2, h⟩ := r
    obtain ⟨a, vs, e3, h1, h2, _⟩ := ok.sl i _ h
    rw [e] at e3
    have : v = .ref a := by simpa using e3
    exact .inr ⟨a, vs, ds, this, e2, h1, h2⟩
theorem UseOk.dp (h : UseOk K R H v d) (rh : Le R H) : Dp K H v d := by
  rcases h with h | ⟨a, vs, ds, e, e2, h1, h2⟩
  · exact dp_le rh _ h
  · subst e; subst e2
    exact .lst (SqL.of h1) (dpAll_le rh _ h2)
theorem UseOk.list {ds : List D} (h : UseOk K R H v (.list ds)) (rh : Le R H) : ∃ a vs, v = .ref a ∧ SqL K H a vs ∧ DpAll K R vs ds := by
  rcases h with h | ⟨a, vs, ds', e, e2, h1, h2⟩
  · cases h with | lst h1 h2 => exact ⟨_, _, rfl, sqL_le rh h1, h2⟩
  · cases e2
    exact ⟨a, vs, e, SqL.of h1, h2⟩
theorem UseOk.tuple {ds : List D} (h : UseOk K R H v (.tuple ds)) (rh : Le R H) : ∃ a vs, v = .ref a ∧ SqT K H a vs ∧ DpAll K R vs ds ∧ Dp K R v (.tuple ds) := by
  rcases h with h | ⟨a, vs, ds', e, e2, h1, h2⟩
  · cases h with | tup h1 h2 => exact ⟨_, _, rfl, sqT_le rh h1, h2, .tup h1 h2⟩
  · cases e2
theorem UseOk.int {i : Int} (h : UseOk K R H v (.int i)) : v = .int i := by
  rcases h with h | ⟨a, vs, ds', e, e2, _⟩
  · cases h; rfl
  · cases e2
theorem UseOk.bl {b : Bool} (h : UseOk K R H v (.bool b)) : v = .bl b := by
  rcases h with h | ⟨a, vs, ds', e, e2, _⟩
  · cases h; rfl
  · cases e2
theorem UseOk.str {x : Str} (h : UseOk K R H v (.str x)) : v = .str x := by
  rcases h with h | ⟨a, vs, ds', e, e2, _⟩
  · cases h; rfl
  · cases e2
theorem UseOk.non (h : UseOk K R H v .none) : v = .non := by
  rcases h with h | ⟨a, vs, ds', e, e2, _⟩
  · cases h; rfl
  · cases e2
theorem UseOk.le (h : UseOk K R H v d) (l : Le R R') (hh : ∀ a vs, H a = some (.lst vs) → H' a = some (.lst vs)) : UseOk K R' H' v d := by
  rcases h with h | ⟨a, vs, ds', e, e2, h1, h2⟩
  · exact .inl (dp_le l _ h)
  · exact .inr ⟨a, vs, ds', e, e2, hh _ _ h1, dpAll_le l _ h2⟩

/-- the object at p is settled -/
theorem Ok.settle {o : HO} (ok : Ok K As vs0 B R H σ env) (hp : R a = none) (hb : B a = none) (ho : H a = some o) (fr : Free σ env a) (hk : ∀ kvs, o ≠ .dK kvs := by intro _ z; cases z) (hk2 : ∀ ps, o ≠ .tbl ps := by intro _ z; cases z) : Grow B R (upd R a o) ∧ Ok K As vs0 B (upd R a o) H σ env := by
  have g : Grow B R (upd R a o) := Grow.upd hp hb
  refine ⟨g, ⟨ok.len, ⟨fun b u n e => ?_, fun b e => ?_⟩, ok.bh, fun i s hs => ?_, ok.ap, ok.ar, ok.ad, ok.tb, ok.nt.upd hk2, ok.nb⟩⟩
  · by_cases z : b = a
    · subst z; rw [upd_same] at e; rw [← e]; exact ho
    · rw [upd_ne z] at e; exact ok.rh.1 b u n e
  · by_cases z : b = a
    · subst z; rw [ho] at e; cases e
    · rw [upd_ne z]; exact ok.rh.2 b e
  · have h0 := ok.sl i s hs
    cases s with
    | emp => trivial
    | pure d => obtain ⟨v, e, h⟩ := h0; exact ⟨v, e, dp_le g.1 _ h⟩
    | own ds =>
      obtain ⟨b, vs, e, h1, h2, h3, h4⟩ := h0
      refine ⟨b, vs, e, h1, dpAll_le g.1 _ h2, ?_, h4⟩
      rw [upd_ne (fun z => by subst z; exact fr i ds hs e)]
      exact h3
    | dct ds =>
      obtain ⟨b, vs, e, h1, h2, h3, h4⟩ := h0
      refine ⟨b, vs, e, h1, dpKV_le g.1 h2, ?_, h4⟩
      rw [upd_ne (fun z => by subst z; rw [ho] at h1; exact hk _ (Option.some.inj h1))]
      exact h3
/-- a slot is forgotten or replaced, σ as it is -/
theorem Ok.slot {s : Slot} (ok : Ok K As vs0 B R H σ env) (i : Nat) (hs : SlotOk K B R H σ[i]? s) (hn : ∀ ds, s ≠ .own ds) (hd : ∀ ds, s ≠ .dct ds := by intro _ z; cases z) : Ok K As vs0 B R H σ (env.set i s) := by
  refine ⟨by rw [List.length_set]; exact ok.len, ok.rh, ok.bh, fun j t ht => ?_, fun j l ds es b h1 h2 e1 e2 => ?_, ok.ar, fun j l ds es b h1 h2 e1 e2 => ?_, ok.tb, ok.nt, ok.nb⟩
  · by_cases z : i = j
    · subst z
      by_cases hi : i < env.length
      · rw [List.getElem?_set_self hi] at ht; cases ht; exact hs
      · rw [List.getElem?_eq_none (by rw [List.length_set]; omega)] at ht; cases ht
    · rw [List.getElem?_set_ne z] at ht; exact ok.sl j t ht
  · have aux : ∀ (j : Nat) (ds : List D), (env.set i s)[j]? = some (.own ds) → env[j]? = some (.own ds) := fun j ds h => by
      by_cases z : i = j
      · subst z
        by_cases hi : i < env.length
        · rw [List.getElem?_set_self hi] at h; exact absurd (Option.some.inj h) (hn ds)
        · rw [List.getElem?_eq_none (by rw [List.length_set]; omega)] at h; cases h
      · rw [List.getElem?_set_ne z] at h; exact h
    exact ok.ap j l ds es b (aux j ds h1) (aux l es h2) e1 e2
  · have aux : ∀ (j : Nat) (ds : List (L2.Key × D)), (env.set i s)[j]? = some (.dct ds) → env[j]? = some (.dct ds) := fun j ds h => by
      by_cases z : i = j
      · subst z
        by_cases hi : i < env.length
        · rw [List.getElem?_set_self hi] at h; exact absurd (Option.some.inj h) (hd ds)
        · rw [List.getElem?_eq_none (by rw [List.length_set]; omega)] at h; cases h
      · rw [List.getElem?_set_ne z] at h; exact h
    exact ok.ad j l ds es b (aux j ds h1) (aux l es h2) e1 e2
end

/-- a result is settled -/
def stl (d : D) (k : Kd) (env : Ev) : Ev := match k with
  | .pk i => env.set i (.pure d)
  | _ => env
section
variable {K : PySem.W.Frag} {As : List Nat} {vs0 : List V} {B R R' H H' : Hp} {σ : L2.St} {env env' : Ev} {v : V} {d : D} {k : Kd} {a : Addr}
theorem Ok.stl (ok : Ok K As vs0 B R H σ env) (r : ResOk K B R H σ env v d k) : ∃ R', Grow B R R' ∧ Ok K As vs0 B R' H σ (stl d k env) ∧ Dp K R' v d := by
  cases k with
  | st => exact ⟨R, .refl B R, ok, r⟩
  | fr =>
    obtain ⟨a, vs, ds, e, e2, h1, h2, h3, h4, h5⟩ := r
    subst e; subst e2
    obtain ⟨g, ok'⟩ := ok.settle h3 h4 h1 h5
    exact ⟨_, g, ok', .lst (SqL.of upd_same) (dpAll_le g.1 _ h2)⟩
  | pk i =>
    obtain ⟨e, ds, e2, h⟩ := r
    obtain ⟨a, vs, e3, h1, h2, h3, h4⟩ := ok.sl i _ h
    have ev : v = .ref a := by rw [e] at e3; simpa using e3
    subst ev; subst e2
    have ok1 : Ok K As vs0 B R H σ (env.set i .emp) := ok.slot i trivial (fun _ z => by cases z)
    have fr : Free σ (env.set i .emp) a := fun j es hj ej => by
      by_cases z : i = j
      · subst z
        have hi : i < env.length := (List.getElem?_eq_some_iff.mp h).1
        rw [List.getElem?_set_self hi] at hj; cases hj
      · rw [List.getElem?_set_ne z] at hj
        exact z (ok.ap i j ds es a h hj e ej)
    obtain ⟨g, ok2⟩ := ok1.settle h3 h4 h1 fr
    have dp : Dp K (upd R a (.lst vs)) (.ref a) (.list ds) := .lst (SqL.of upd_same) (dpAll_le g.1 _ h2)
    refine ⟨_, g, ?_, dp⟩
    have := ok2.slot (s := .pure (.list ds)) i ⟨_, e, dp⟩ (fun _ z => by cases z)
    rwa [List.set_set] at this
end
end
end Pt

namespace Pt
open PySem PySem.Spec PyProof.Rows L2
variable [Tb]

/-! ### readings -/
abbrev FE := Ev → Option (D × Kd × Ev)
abbrev FT := Ev → Option (Bool × Ev)
abbrev FA := Ev → Option (List D × Ev)
def tF (K : PySem.W.Frag) (F : FE) : TE := fun σ H Q => ∃ As vs0 B R env d k env', Ok K As vs0 B R H σ env ∧ F env = some (d, k, env') ∧
  ∀ v R' H', Grow B R R' → Ok K As vs0 B R' H' σ env' → ResOk K B R' H' σ env' v d k → Q v H'
def tT (K : PySem.W.Frag) (F : FT) : TT := fun σ H Q => ∃ As vs0 B R env b env', Ok K As vs0 B R H σ env ∧ F env = some (b, env') ∧
  ∀ R' H', Grow B R R' → Ok K As vs0 B R' H' σ env' → Q b H'
/-- all settled -/
def tA (K : PySem.W.Frag) (F : FA) : TA := fun σ H Q => ∃ As vs0 B R env ds env', Ok K As vs0 B R H σ env ∧ F env = some (ds, env') ∧
  ∀ vs R' H', Grow B R R' → Ok K As vs0 B R' H' σ env' → DpAll K R' vs ds → Q vs H'

section
variable {X : Cx}
theorem pe_imp {e : Expr} {t t' : TE} (h : PE X e t) (w : ∀ σ H Q, t' σ H Q → t σ H Q) : PE X e t' := ⟨fun pins s σ H Q I q => h.run pins s σ H Q I (w σ H Q q)⟩
theorem pt_imp {e : Expr} {t t' : TT} (h : PT X e t) (w : ∀ σ H Q, t' σ H Q → t σ H Q) : PT X e t' := ⟨fun pins s σ H Q I q => h.run pins s σ H Q I (w σ H Q q)⟩
theorem pw_imp {e : Expr} {t t' : TT} (h : PW X e t) (w : ∀ σ H Q, t' σ H Q → t σ H Q) : PW X e t' := ⟨fun wh pins s σ H Q I q => h.run wh pins s σ H Q I (w σ H Q q)⟩
theorem pa_imp {es : List Expr} {t t' : TA} (h : PA X es t) (w : ∀ σ H Q, t' σ H Q → t σ H Q) : PA X es t' := ⟨fun p pins s σ H Q I q => h.run p pins s σ H Q I (w σ H Q q)⟩
theorem pe_bad {e : Expr} {t : TE} (w : ∀ σ H Q, ¬ t σ H Q) : PE X e t := ⟨fun pins s σ H Q I q => (w σ H Q q).elim⟩
end

section
variable {K : PySem.W.Frag} {As : List Nat} {vs0 : List V} {B R R' H H' : Hp} {σ : L2.St} {env env' : Ev} {v x : V} {d : D} {k : Kd} {a : Addr} {Q : VK}
/-! ### results -/
/-- what a reading's end asks, at the state as it is -/
abbrev Post (K : PySem.W.Frag) (As : List Nat) (vs0 : List V) (B R : Hp) (σ : L2.St) (env : Ev) (d : D) (k : Kd) (Q : VK) : Prop :=
  ∀ v R' H', Grow B R R' → Ok K As vs0 B R' H' σ env → ResOk K B R' H' σ env v d k → Q v H'
theorem Post.int {i : Int} (ok : Ok K As vs0 B R H σ env) (q : Post K As vs0 B R σ env (.int i) .st Q) : Q (.int i) H := q _ R H (.refl _ _) ok (.int i)
theorem Post.bl {b : Bool} (ok : Ok K As vs0 B R H σ env) (q : Post K As vs0 B R σ env (.bool b) .st Q) : Q (.bl b) H := q _ R H (.refl _ _) ok (.bl b)
theorem Post.str {b : Str} (ok : Ok K As vs0 B R H σ env) (q : Post K As vs0 B R σ env (.str b) .st Q) : Q (.str b) H := q _ R H (.refl _ _) ok (.str b)
theorem Post.non (ok : Ok K As vs0 B R H σ env) (q : Post K As vs0 B R σ env .none .st Q) : Q .non H := q _ R H (.refl _ _) ok .non
theorem Post.dp (ok : Ok K As vs0 B R H σ env) (q : Post K As vs0 B R σ env d .st Q) (h : Dp K R v d) : Q v H := q _ R H (.refl _ _) ok h
theorem le_none {R H : Hp} (h : Le R H) {p : Addr} (n : H p = none) : R p = none := h.2 p n
/-- a new object stands at p -/
theorem Ok.new {o : HO} (ok : Ok K As vs0 B R H σ env) (hp : H a = none) : Ok K As vs0 B R (upd H a o) σ env := by
  refine ⟨ok.len, ok.rh.trans (.upd hp), ok.bh.trans (.upd hp), fun i s hs => ?_, ok.ap, ok.ar, ok.ad, tabs_upd ok.tb (.inl hp), ok.nt, ok.nb⟩
  exact (ok.sl i s hs).mono (.refl _ _) fun b o e h1 n h2 h3 => ⟨by rw [upd_ne (ne_of_none h1 hp)]; exact h1, h2⟩
theorem Ok.free_new (ok : Ok K As vs0 B R H σ env) (hp : H a = none) : Free σ env a := fun i ds hs e => by
  obtain ⟨b, vs, e2, h1, _⟩ := ok.sl i _ hs
  rw [e] at e2
  have : a = b := by simpa using e2
  subst this
  rw [hp] at h1; cases h1
theorem Post.newL {p : Addr} {vs : List V} {ds : List D} (ok : Ok K As vs0 B R H σ env) (hp : H p = none) (h : DpAll K R vs ds) (q : Post K As vs0 B R σ env (.list ds) .fr Q) : Q (.ref p) (upd H p (.lst vs)) :=
  q _ R _ (.refl _ _) (ok.new hp) ⟨p, vs, ds, rfl, rfl, upd_same, h, le_none ok.rh hp, le_none ok.bh hp, ok.free_new hp⟩
theorem Post.newT {p : Addr} {vs : List V} {ds : List D} (ok : Ok K As vs0 B R H σ env) (hp : H p = none) (h : DpAll K R vs ds) (q : Post K As vs0 B R σ env (.tuple ds) .st Q) : Q (.ref p) (upd H p (.tup vs)) := by
  obtain ⟨g, ok'⟩ := (ok.new (o := .tup vs) hp).settle (le_none ok.rh hp) (le_none ok.bh hp) upd_same (ok.free_new hp)
  exact q _ _ _ g ok' (.tup (SqT.of upd_same) (dpAll_le g.1 _ h))

/-! ### an operand waits for the next one -/
/-- a new list is settled meanwhile; a list of the frame's own is read later -/
def hld : Kd → Kd
  | .pk i => .pk i
  | _ => .st
/-- the datum that waited -/
def rsv (d : D) (k : Kd) (env : Ev) : Option D := match k with
  | .pk i => match env[i]? with
    | some (.own ds) => some (.list ds)
    | some (.pure d') => some d'
    | _ => none
  | _ => some d
def WaitOk (K : PySem.W.Frag) (R : Hp) (σ : L2.St) (v : V) (d : D) : Kd → Prop
  | .pk i => σ[i]? = some (some v)
  | _ => Dp K R v d
theorem Ok.hold (ok : Ok K As vs0 B R H σ env) (r : ResOk K B R H σ env v d k) : ∃ R', Grow B R R' ∧ Ok K As vs0 B R' H σ env ∧ WaitOk K R' σ v d k := by
  cases k with
  | st => exact ⟨R, .refl _ _, ok, r⟩
  | fr =>
    obtain ⟨R', g, ok', h⟩ := ok.stl r
    exact ⟨R', g, ok', h⟩
  | pk i => exact ⟨R, .refl _ _, ok, r.1⟩
theorem WaitOk.le (l : Le R R') (h : WaitOk K R σ v d k) : WaitOk K R' σ v d k := by
  cases k with
  | pk i => exact h
  | st => exact dp_le l _ h
  | fr => exact dp_le l _ h
theorem Ok.waited {d' : D} (ok : Ok K As vs0 B R H σ env) (h : WaitOk K R σ v d k) (e : rsv d k env = some d') : UseOk K R H v d' := by
  cases k with
  | st => cases e; exact .inl h
  | fr => cases e; exact .inl h
  | pk i =>
    have h : σ[i]? = some (some v) := h
    unfold rsv at e; dsimp only at e
    cases hs : env[i]? with
    | none => rw [hs] at e; cases e
    | some s =>
      rw [hs] at e
      have o := ok.sl i s hs
      cases s with
      | emp => cases e
      | pure d0 =>
        cases e
        obtain ⟨u, e2, q⟩ := o
        rw [h] at e2
        have : v = u := by simpa using e2
        subst this
        exact .inl q
      | own ds =>
        cases e
        obtain ⟨b, vs, e2, h1, h2, _⟩ := o
        rw [h] at e2
        have : v = .ref b := by simpa using e2
        subst this
        exact .inr ⟨b, vs, ds, rfl, rfl, h1, h2⟩
      | dct ds => cases e

/-! ### one operand, two operands, by what is done with the data -/
/-- what the operation does to data (never a look at the frame) -/
abbrev G1 := D → Option (D × Kd)
abbrev G2 := D → D → Option (D × Kd)
def NoPk : Kd → Prop
  | .pk _ => False
  | _ => True
def fOne (g : G1) (Fa : FE) : FE := fun env => match Fa env with
  | some (d, _, e1) => match g d with
    | some (r, k) => some (r, k, e1)
    | none => none
  | none => none
def fTwo (g : G2) (Fa Fb : FE) : FE := fun env => match Fa env with
  | some (d1, k1, e1) => match Fb e1 with
    | some (d2, _, e2) => match rsv d1 k1 e2 with
      | some d1' => match g d1' d2 with
        | some (r, k) => some (r, k, e2)
        | none => none
      | none => none
    | none => none
  | none => none
/-- the rule of an operation, in terms of data -/
def Rul1 (K : PySem.W.Frag) (g : G1) (r : V → Hp → VK → Prop) : Prop := ∀ (As : List Nat) (vs0 : List V) (B R H : Hp) (σ : L2.St) (env : Ev) (x : V) (d e : D) (k : Kd) (Q : VK),
  Ok K As vs0 B R H σ env → UseOk K R H x d → g d = some (e, k) → Post K As vs0 B R σ env e k Q → r x H Q
def Rul2 (K : PySem.W.Frag) (g : G2) (r : R2) : Prop := ∀ (As : List Nat) (vs0 : List V) (B R H : Hp) (σ : L2.St) (env : Ev) (x y : V) (d1 d2 e : D) (k : Kd) (Q : VK),
  Ok K As vs0 B R H σ env → UseOk K R H x d1 → UseOk K R H y d2 → g d1 d2 = some (e, k) → Post K As vs0 B R σ env e k Q → r x y H Q
theorem use_one {g : G1} {r : V → Hp → VK → Prop} (hr : Rul1 K g r) {Fa : FE} {Q : VK} (h : tF K (fOne g Fa) σ H Q) : tF K Fa σ H fun x H1 => r x H1 Q := by
  obtain ⟨As, vs0, B, R, env, d, k, env', ok, e, q⟩ := h
  unfold fOne at e
  cases h1 : Fa env with
  | none => rw [h1] at e; cases e
  | some z =>
    obtain ⟨d1, k1, e1⟩ := z
    rw [h1] at e
    dsimp only at e
    cases h2 : g d1 with
    | none => rw [h2] at e; cases e
    | some z2 =>
      obtain ⟨r2, k2⟩ := z2
      rw [h2] at e
      cases e
      refine ⟨As, vs0, B, R, env, d1, k1, _, ok, h1, fun v R' H' g1 ok1 r1 => ?_⟩
      exact hr As vs0 B R' H' σ _ v d1 _ _ Q ok1 (ok1.use r1) h2 fun v2 R2 H2 g2 => q v2 R2 H2 (g1.trans g2)
theorem use_two {g : G2} {r : R2} (hr : Rul2 K g r) {Fa Fb : FE} {Q : VK} (h : tF K (fTwo g Fa Fb) σ H Q) : tF K Fa σ H fun x H1 => tF K Fb σ H1 fun y H2 => r x y H2 Q := by
  obtain ⟨As, vs0, B, R, env, d, k, env', ok, e, q⟩ := h
  unfold fTwo at e
  cases h1 : Fa env with
  | none => rw [h1] at e; cases e
  | some z =>
    obtain ⟨d1, k1, e1⟩ := z
    rw [h1] at e
    dsimp only at e
    cases h2 : Fb e1 with
    | none => rw [h2] at e; cases e
    | some z2 =>
      obtain ⟨d2, k2, e2⟩ := z2
      rw [h2] at e
      dsimp only at e
      cases h3 : rsv d1 k1 e2 with
      | none => rw [h3] at e; cases e
      | some d1' =>
        rw [h3] at e
        dsimp only at e
        cases h4 : g d1' d2 with
        | none => rw [h4] at e; cases e
        | some z4 =>
          obtain ⟨r4, k4⟩ := z4
          rw [h4] at e
          cases e
          refine ⟨As, vs0, B, R, env, d1, k1, _, ok, h1, fun v R1 H1 g1 ok1 r1 => ?_⟩
          obtain ⟨R1', g1', ok1', w1⟩ := ok1.hold r1
          refine ⟨As, vs0, B, R1', e1, d2, k2, _, ok1', h2, fun u R2 H2 g2 ok2 r2 => ?_⟩
          exact hr As vs0 B R2 H2 σ _ v u d1' d2 _ _ Q ok2 (ok2.waited (w1.le g2.1) h3) (ok2.use r2) h4 fun v3 R3 H3 g3 => q v3 R3 H3 (((g1.trans g1').trans g2).trans g3)
end
end Pt

namespace Pt
open PySem PySem.Spec PyProof.Rows L2
variable [Tb]

/-- an operation on data, as a relation of values -/
def rD1 (K : PySem.W.Frag) (g : G1) : V → Hp → VK → Prop := fun x H Q => ∃ As vs0 B R σ env d e k, Ok K As vs0 B R H σ env ∧ UseOk K R H x d ∧ g d = some (e, k) ∧ Post K As vs0 B R σ env e k Q
def rD2 (K : PySem.W.Frag) (g : G2) : R2 := fun x y H Q => ∃ As vs0 B R σ env d1 d2 e k, Ok K As vs0 B R H σ env ∧ UseOk K R H x d1 ∧ UseOk K R H y d2 ∧ g d1 d2 = some (e, k) ∧ Post K As vs0 B R σ env e k Q
theorem rul1_d (K : PySem.W.Frag) (g : G1) : Rul1 K g (rD1 K g) := fun As vs0 B R H σ env x d e k Q ok u h q => ⟨As, vs0, B, R, σ, env, d, e, k, ok, u, h, q⟩
theorem rul2_d (K : PySem.W.Frag) (g : G2) : Rul2 K g (rD2 K g) := fun As vs0 B R H σ env x y d1 d2 e k Q ok u1 u2 h q => ⟨As, vs0, B, R, σ, env, d1, d2, e, k, ok, u1, u2, h, q⟩

section
variable {X : Cx} {a b c : Expr} {Fa Fb Fc : FE} {pos : Pos}
theorem pe_bin {op : Operator} {g : G2} (ho : OpR X (binaryOp op) (rD2 X.K g)) (ha : PE X a (tF X.K Fa)) (hb : PE X b (tF X.K Fb)) : PE X (.BinOp a op b pos) (tF X.K (fTwo g Fa Fb)) :=
  pe_imp (pe_op ho ha hb) fun σ H Q h => use_two (rul2_d _ _) h
theorem pe_cmp2 {op : CmpOp} {g : G2} (ho : OpR X (compareOp op) (rD2 X.K g)) (ha : PE X a (tF X.K Fa)) (hb : PE X b (tF X.K Fb)) (hm : behindInMarks op b = false) : PE X (.Compare a [op] [b] pos) (tF X.K (fTwo g Fa Fb)) :=
  pe_imp (pe_cmpR ho ha hb hm) fun σ H Q h => use_two (rul2_d _ _) h
end

/-! ### + - * // % ** -/
def gAdd : G2
  | .int i, .int j => some (.int (i + j), .st)
  | .str a, .str b => if a.length + b.length ≤ sizeLine then some (.str (a ++ b), .st) else none
  | .list a, .list b => if a.length + b.length ≤ sizeLine then some (.list (a ++ b), .fr) else none
  | .tuple a, .tuple b => if a.length + b.length ≤ sizeLine then some (.tuple (a ++ b), .st) else none
  | _, _ => none
def gSub : G2
  | .int i, .int j => some (.int (i - j), .st)
  | _, _ => none
def mulOk (i j : Int) : Bool := (decide (-(2 ^ 64) < i) && decide (i < 2 ^ 64)) || (decide (-(2 ^ 64) < j) && decide (j < 2 ^ 64))
def gMul : G2
  | .int i, .int j => if mulOk i j then some (.int (i * j), .st) else none
  | _, _ => none
def gDiv : G2
  | .int i, .int j => if decide (0 < j) && decide (j < 1073741824) then some (.int (i / j), .st) else none
  | _, _ => none
def gMod : G2
  | .int i, .int j => if decide (0 < j) then some (.int (i % j), .st) else none
  | _, _ => none
def gPow : G2
  | .int i, .int j => if decide (0 ≤ j) && decide (j ≤ 1000000) && decide (i.natAbs < 2 ^ 64) then some (.int (i ^ j.toNat), .st) else none
  | _, _ => none

section
variable {X : Cx}
theorem op_catL {pins : List (Addr × Obj)} {s : Shared} {σ : L2.St} {H : Hp} {l b : Addr} {xs zs : List V} {Q : VK} (I : Inv X pins σ H s) (h1 : SqL X.K H l xs) (h2 : SqL X.K H b zs) (hz : xs.length + zs.length ≤ sizeLine)
    (q : ∀ p, H p = none → Q (.ref p) (upd H p (.lst (xs ++ zs)))) : wpAny (model X.prog X.w) X.A (binaryOp .Add (.ref l) (.ref b)) (EP X pins σ Q) X.xe s := by
  obtain ⟨its, r, p1, z1⟩ := I.list h1
  obtain ⟨its2, r2, p2, z2⟩ := I.list h2
  obtain ⟨⟨cls, dd, data, sl⟩, n, ho, hc, hdd, hd⟩ := p1
  obtain ⟨⟨cls2, dd2, data2, sl2⟩, n2, ho2, hc2, hdd2, hd2⟩ := p2
  simp only at hc hd hc2 hd2
  subst hc hd hc2 hd2
  have e : its.toArray ++ its2.toArray = (its ++ its2).toArray := by simp
  have hs : its.toArray.size + its2.toArray.size ≤ sizeLine := by
    rw [List.size_toArray, List.size_toArray, ← r.length, ← r2.length]; exact hz
  refine PySem.concat_meets ⟨_, ho, rfl⟩ ⟨_, ho2, rfl⟩ noFill_list_add seq_list_add PySem.F.slot_list_add PySem.F.entry_list_add (PySem.F.args_list_add_2 _ _) (list_addW l b its.toArray its2.toArray n n2 dd dd2 sl sl2 hs) ⟨ho, ho2, ?_⟩
  rw [e]
  exact ⟨.ref _, _, I.lnew (t' := s.toks) (r.append r2) (by rw [List.length_append]; exact hz), rfl, q _ I.fresh⟩
theorem opr_add : OpR X (binaryOp .Add) (rD2 X.K gAdd) := by
  intro pins s σ H x y v u Q I rx ry h
  obtain ⟨As, vs0, B, R, σ', env, d1, d2, e, k, ok, u1, u2, hg, q⟩ := h
  cases d1 <;> cases d2 <;> try (cases hg; done)
  case int.int i j =>
    cases hg
    have e1 := u1.int; have e2 := u2.int
    subst e1 e2
    exact op_add pins s σ H _ _ v u Q I rx ry ⟨i, j, rfl, rfl, q.int ok⟩
  case str.str i j =>
    have e1 := u1.str; have e2 := u2.str
    subst e1 e2
    dsimp only [gAdd] at hg
    by_cases hz : i.length + j.length ≤ sizeLine
    · rw [if_pos hz] at hg
      cases hg
      exact op_add_str pins s σ H _ _ v u Q I rx ry ⟨i, j, rfl, rfl, hz, q.str ok⟩
    · rw [if_neg hz] at hg; cases hg
  case list.list xs ys =>
    dsimp only [gAdd] at hg
    by_cases hz : xs.length + ys.length ≤ sizeLine
    · rw [if_pos hz] at hg
      cases hg
      obtain ⟨a1, w1, e1, s1, p1⟩ := u1.list ok.rh
      obtain ⟨a2, w2, e2, s2, p2⟩ := u2.list ok.rh
      subst e1 e2
      cases rx; cases ry
      exact op_catL I s1 s2 (by rw [dpAll_len p1, dpAll_len p2]; exact hz) fun p hp => q.newL ok hp (dpAll_append p1 p2)
    · rw [if_neg hz] at hg; cases hg
  case tuple.tuple xs ys =>
    dsimp only [gAdd] at hg
    by_cases hz : xs.length + ys.length ≤ sizeLine
    · rw [if_pos hz] at hg
      cases hg
      obtain ⟨a1, w1, e1, s1, p1, dp1⟩ := u1.tuple ok.rh
      obtain ⟨a2, w2, e2, s2, p2, dp2⟩ := u2.tuple ok.rh
      subst e1 e2
      refine op_catA pins s σ H _ _ v u Q I rx ry ⟨a1, a2, w1, w2, rfl, rfl, s1, s2, by rw [dpAll_len p1, dpAll_len p2]; exact hz, fun z => ?_, fun z1 z2 => ?_, fun z1 z2 p hp => q.newT ok hp (dpAll_append p1 p2)⟩
      · subst z
        cases p1
        exact q.dp ok dp2
      · subst z2
        cases p2
        rw [List.append_nil] at q
        exact q.dp ok dp1
    · rw [if_neg hz] at hg; cases hg
theorem opr_sub : OpR X (binaryOp .Sub) (rD2 X.K gSub) := by
  intro pins s σ H x y v u Q I rx ry h
  obtain ⟨As, vs0, B, R, σ', env, d1, d2, e, k, ok, u1, u2, hg, q⟩ := h
  cases d1 <;> cases d2 <;> try (cases hg; done)
  case int.int i j =>
    cases hg
    have e1 := u1.int; have e2 := u2.int
    subst e1 e2
    exact op_sub pins s σ H _ _ v u Q I rx ry ⟨i, j, rfl, rfl, q.int ok⟩
theorem opr_mul : OpR X (binaryOp .Mult) (rD2 X.K gMul) := by
  intro pins s σ H x y v u Q I rx ry h
  obtain ⟨As, vs0, B, R, σ', env, d1, d2, e, k, ok, u1, u2, hg, q⟩ := h
  cases d1 <;> cases d2 <;> try (cases hg; done)
  case int.int i j =>
    have e1 := u1.int; have e2 := u2.int
    subst e1 e2
    dsimp only [gMul] at hg
    by_cases hz : mulOk i j = true
    · rw [if_pos hz] at hg
      cases hg
      refine op_mul pins s σ H _ _ v u Q I rx ry ⟨i, j, rfl, rfl, ?_, q.int ok⟩
      unfold mulOk at hz
      simp only [Bool.or_eq_true, Bool.and_eq_true, decide_eq_true_eq] at hz
      exact hz
    · rw [if_neg hz] at hg; cases hg
theorem opr_div : OpR X (binaryOp .FloorDiv) (rD2 X.K gDiv) := by
  intro pins s σ H x y v u Q I rx ry h
  obtain ⟨As, vs0, B, R, σ', env, d1, d2, e, k, ok, u1, u2, hg, q⟩ := h
  cases d1 <;> cases d2 <;> try (cases hg; done)
  case int.int i j =>
    have e1 := u1.int; have e2 := u2.int
    subst e1 e2
    dsimp only [gDiv] at hg
    by_cases hz : (decide (0 < j) && decide (j < 1073741824)) = true
    · rw [if_pos hz] at hg
      cases hg
      refine op_fdiv pins s σ H _ _ v u Q I rx ry ⟨i, j, rfl, rfl, ?_, q.int ok⟩
      simp only [Bool.and_eq_true, decide_eq_true_eq] at hz
      exact hz
    · rw [if_neg hz] at hg; cases hg
theorem opr_mod : OpR X (binaryOp .Mod) (rD2 X.K gMod) := by
  intro pins s σ H x y v u Q I rx ry h
  obtain ⟨As, vs0, B, R, σ', env, d1, d2, e, k, ok, u1, u2, hg, q⟩ := h
  cases d1 <;> cases d2 <;> try (cases hg; done)
  case int.int i j =>
    have e1 := u1.int; have e2 := u2.int
    subst e1 e2
    dsimp only [gMod] at hg
    by_cases hz : decide (0 < j) = true
    · rw [if_pos hz] at hg
      cases hg
      exact op_mod pins s σ H _ _ v u Q I rx ry ⟨i, j, rfl, rfl, of_decide_eq_true hz, q.int ok⟩
    · rw [if_neg hz] at hg; cases hg
theorem opr_pow : OpR X (binaryOp .Pow) (rD2 X.K gPow) := by
  intro pins s σ H x y v u Q I rx ry h
  obtain ⟨As, vs0, B, R, σ', env, d1, d2, e, k, ok, u1, u2, hg, q⟩ := h
  cases d1 <;> cases d2 <;> try (cases hg; done)
  case int.int i j =>
    have e1 := u1.int; have e2 := u2.int
    subst e1 e2
    dsimp only [gPow] at hg
    by_cases hz : (decide (0 ≤ j) && decide (j ≤ 1000000) && decide (i.natAbs < 2 ^ 64)) = true
    · rw [if_pos hz] at hg
      cases hg
      refine op_pow pins s σ H _ _ v u Q I rx ry ⟨i, j, rfl, rfl, ?_, q.int ok⟩
      simp only [Bool.and_eq_true, decide_eq_true_eq] at hz
      exact ⟨hz.1.1, hz.1.2, hz.2⟩
    · rw [if_neg hz] at hg; cases hg

/-! ### == != < <= > >= in, not in -/
def dOk (d e : D) : Bool := d.plain && e.plain && decide (min d.depth e.depth ≤ 64)
def gEq : G2 := fun d e => if dOk d e then some (.bool (PyData.eqv d e), .st) else none
def gNe : G2 := fun d e => if dOk d e then some (.bool (!PyData.eqv d e), .st) else none
def lOk (d e : D) : Bool := PySem.W.alike d e && (match d with | .none => false | _ => true) && decide (min d.depth e.depth ≤ 64)
def gLt : G2 := fun d e => if lOk d e then some (.bool (PySem.W.dataLt d e), .st) else none
def gGt : G2 := fun d e => if lOk d e then some (.bool (PySem.W.dataLt e d), .st) else none
def gLe : G2 := fun d e => if lOk d e then some (.bool (!PySem.W.dataLt e d), .st) else none
def gGe : G2 := fun d e => if lOk d e then some (.bool (!PySem.W.dataLt d e), .st) else none
def iOk (xs : List D) (d : D) : Bool := PyData.plainAll xs && d.plain && decide (min (PyData.depthAll xs) d.depth ≤ 60)
def gIn : G2 := fun d c => match c with
  | .list xs => if iOk xs d then some (.bool (xs.any fun y => PyData.eqv y d), .st) else none
  | .tuple xs => if iOk xs d then some (.bool (xs.any fun y => PyData.eqv y d), .st) else none
  | _ => none
def gNotIn : G2 := fun d c => match c with
  | .list xs => if iOk xs d then some (.bool (!xs.any fun y => PyData.eqv y d), .st) else none
  | .tuple xs => if iOk xs d then some (.bool (!xs.any fun y => PyData.eqv y d), .st) else none
  | _ => none
theorem reads_of {pins : List (Addr × Obj)} {s : Shared} {σ : L2.St} {H R : Hp} {x : V} {v : Value} {d : D} (I : Inv X pins σ H s) (rh : Le R H) (h : UseOk X.K R H x d) (r : RelV x v) : ∃ as, Reads s.heap v d as :=
  Dp.reads I d x v (h.dp rh) r
theorem opr_eq (hu : X.A.units + 64 < cLine) : OpR X (compareOp .Eq) (rD2 X.K gEq) := by
  intro pins s σ H x y v u Q I rx ry h
  obtain ⟨As, vs0, B, R, σ', env, d1, d2, e, k, ok, u1, u2, hg, q⟩ := h
  unfold gEq at hg
  by_cases hz : dOk d1 d2 = true
  · rw [if_pos hz] at hg
    cases hg
    obtain ⟨as, r1⟩ := reads_of I ok.rh u1 rx
    obtain ⟨bs, r2⟩ := reads_of I ok.rh u2 ry
    unfold dOk at hz
    simp only [Bool.and_eq_true, decide_eq_true_eq] at hz
    exact SeqAt.eq_plain r1 r2 hz.1.1 hz.1.2 (by have := hz.2; omega) ⟨.bl _, H, I, rfl, q.bl ok⟩
  · rw [if_neg hz] at hg; cases hg
theorem opr_ne (hu : X.A.units + 64 < cLine) : OpR X (compareOp .NotEq) (rD2 X.K gNe) := by
  intro pins s σ H x y v u Q I rx ry h
  obtain ⟨As, vs0, B, R, σ', env, d1, d2, e, k, ok, u1, u2, hg, q⟩ := h
  unfold gNe at hg
  by_cases hz : dOk d1 d2 = true
  · rw [if_pos hz] at hg
    cases hg
    obtain ⟨as, r1⟩ := reads_of I ok.rh u1 rx
    obtain ⟨bs, r2⟩ := reads_of I ok.rh u2 ry
    unfold dOk at hz
    simp only [Bool.and_eq_true, decide_eq_true_eq] at hz
    exact SeqAt.ne_plain r1 r2 hz.1.1 hz.1.2 (by have := hz.2; omega) ⟨.bl _, H, I, rfl, q.bl ok⟩
  · rw [if_neg hz] at hg; cases hg
theorem lOk_of {d e : D} (h : lOk d e = true) : PySem.W.alike d e = true ∧ d ≠ .none ∧ min d.depth e.depth ≤ 64 := by
  unfold lOk at h
  simp only [Bool.and_eq_true, decide_eq_true_eq] at h
  refine ⟨h.1.1, fun z => ?_, h.2⟩
  subst z
  cases h.1.2
theorem opr_lt (hu : X.A.units + 64 < cLine) : OpR X (compareOp .Lt) (rD2 X.K gLt) := by
  intro pins s σ H x y v u Q I rx ry h
  obtain ⟨As, vs0, B, R, σ', env, d1, d2, e, k, ok, u1, u2, hg, q⟩ := h
  unfold gLt at hg
  by_cases hz : lOk d1 d2 = true
  · rw [if_pos hz] at hg
    cases hg
    obtain ⟨as, r1⟩ := reads_of I ok.rh u1 rx
    obtain ⟨bs, r2⟩ := reads_of I ok.rh u2 ry
    obtain ⟨z1, z2, z3⟩ := lOk_of hz
    exact PySem.W.lt_data r1 r2 z1 z2 (by omega) ⟨.bl _, H, I, rfl, q.bl ok⟩
  · rw [if_neg hz] at hg; cases hg
theorem opr_gt (hu : X.A.units + 64 < cLine) : OpR X (compareOp .Gt) (rD2 X.K gGt) := by
  intro pins s σ H x y v u Q I rx ry h
  obtain ⟨As, vs0, B, R, σ', env, d1, d2, e, k, ok, u1, u2, hg, q⟩ := h
  unfold gGt at hg
  by_cases hz : lOk d1 d2 = true
  · rw [if_pos hz] at hg
    cases hg
    obtain ⟨as, r1⟩ := reads_of I ok.rh u1 rx
    obtain ⟨bs, r2⟩ := reads_of I ok.rh u2 ry
    obtain ⟨z1, z2, z3⟩ := lOk_of hz
    exact PySem.W.gt_data r1 r2 z1 z2 (by omega) ⟨.bl _, H, I, rfl, q.bl ok⟩
  · rw [if_neg hz] at hg; cases hg
theorem opr_le (hu : X.A.units + 64 < cLine) : OpR X (compareOp .LtE) (rD2 X.K gLe) := by
  intro pins s σ H x y v u Q I rx ry h
  obtain ⟨As, vs0, B, R, σ', env, d1, d2, e, k, ok, u1, u2, hg, q⟩ := h
  unfold gLe at hg
  by_cases hz : lOk d1 d2 = true
  · rw [if_pos hz] at hg
    cases hg
    obtain ⟨as, r1⟩ := reads_of I ok.rh u1 rx
    obtain ⟨bs, r2⟩ := reads_of I ok.rh u2 ry
    obtain ⟨z1, z2, z3⟩ := lOk_of hz
    exact PySem.W.le_data r1 r2 z1 z2 (by omega) ⟨.bl _, H, I, rfl, q.bl ok⟩
  · rw [if_neg hz] at hg; cases hg
theorem opr_ge (hu : X.A.units + 64 < cLine) : OpR X (compareOp .GtE) (rD2 X.K gGe) := by
  intro pins s σ H x y v u Q I rx ry h
  obtain ⟨As, vs0, B, R, σ', env, d1, d2, e, k, ok, u1, u2, hg, q⟩ := h
  unfold gGe at hg
  by_cases hz : lOk d1 d2 = true
  · rw [if_pos hz] at hg
    cases hg
    obtain ⟨as, r1⟩ := reads_of I ok.rh u1 rx
    obtain ⟨bs, r2⟩ := reads_of I ok.rh u2 ry
    obtain ⟨z1, z2, z3⟩ := lOk_of hz
    exact PySem.W.ge_data r1 r2 z1 z2 (by omega) ⟨.bl _, H, I, rfl, q.bl ok⟩
  · rw [if_neg hz] at hg; cases hg
theorem iOk_of {xs : List D} {d : D} (h : iOk xs d = true) : PyData.plainAll xs = true ∧ d.plain = true ∧ min (PyData.depthAll xs) d.depth ≤ 60 := by
  unfold iOk at h
  simp only [Bool.and_eq_true, decide_eq_true_eq] at h
  exact ⟨h.1.1, h.1.2, h.2⟩
theorem opr_in (hu : X.A.units + 64 < cLine) : OpR X (compareOp .In) (rD2 X.K gIn) := by
  intro pins s σ H x y v u Q I rx ry h
  obtain ⟨As, vs0, B, R, σ', env, d1, d2, e, k, ok, u1, u2, hg, q⟩ := h
  unfold gIn at hg
  cases d2 <;> try (cases hg; done)
  case list xs =>
    dsimp only at hg
    by_cases hz : iOk xs d1 = true
    · rw [if_pos hz] at hg
      cases hg
      obtain ⟨as, r1⟩ := reads_of I ok.rh u1 rx
      obtain ⟨bs, r2⟩ := reads_of I ok.rh u2 ry
      obtain ⟨z1, z2, z3⟩ := iOk_of hz
      exact SeqAt.in_list_data r2 r1 z1 z2 (by omega) ⟨.bl _, H, I, rfl, q.bl ok⟩
    · rw [if_neg hz] at hg; cases hg
  case tuple xs =>
    dsimp only at hg
    by_cases hz : iOk xs d1 = true
    · rw [if_pos hz] at hg
      cases hg
      obtain ⟨as, r1⟩ := reads_of I ok.rh u1 rx
      obtain ⟨bs, r2⟩ := reads_of I ok.rh u2 ry
      obtain ⟨z1, z2, z3⟩ := iOk_of hz
      exact SeqAt.in_tuple_data r2 r1 z1 z2 (by omega) ⟨.bl _, H, I, rfl, q.bl ok⟩
    · rw [if_neg hz] at hg; cases hg
theorem opr_notIn (hu : X.A.units + 64 < cLine) : OpR X (compareOp .NotIn) (rD2 X.K gNotIn) := by
  intro pins s σ H x y v u Q I rx ry h
  obtain ⟨As, vs0, B, R, σ', env, d1, d2, e, k, ok, u1, u2, hg, q⟩ := h
  unfold gNotIn at hg
  cases d2 <;> try (cases hg; done)
  case list xs =>
    dsimp only at hg
    by_cases hz : iOk xs d1 = true
    · rw [if_pos hz] at hg
      cases hg
      obtain ⟨as, r1⟩ := reads_of I ok.rh u1 rx
      obtain ⟨bs, r2⟩ := reads_of I ok.rh u2 ry
      obtain ⟨z1, z2, z3⟩ := iOk_of hz
      exact SeqAt.notIn_list_data r2 r1 z1 z2 (by omega) ⟨.bl _, H, I, rfl, q.bl ok⟩
    · rw [if_neg hz] at hg; cases hg
  case tuple xs =>
    dsimp only at hg
    by_cases hz : iOk xs d1 = true
    · rw [if_pos hz] at hg
      cases hg
      obtain ⟨as, r1⟩ := reads_of I ok.rh u1 rx
      obtain ⟨bs, r2⟩ := reads_of I ok.rh u2 ry
      obtain ⟨z1, z2, z3⟩ := iOk_of hz
      exact SeqAt.notIn_tuple_data r2 r1 z1 z2 (by omega) ⟨.bl _, H, I, rfl, q.bl ok⟩
    · rw [if_neg hz] at hg; cases hg
end
end Pt

namespace Pt
open PySem PySem.Spec PyProof.Rows L2
variable [Tb]

/-! ### names, constants -/
def fVar (i : Nat) : FE := fun env => match env[i]? with
  | some (.pure d) => some (d, .st, env)
  | some (.own ds) => some (.list ds, .pk i, env)
  | _ => none
def fCst (d : D) : FE := fun env => some (d, .st, env)
def fBad : FE := fun _ => none
section
variable {X : Cx} {a b c e : Expr} {Fa Fb Fc : FE} {pos : Pos} {rest es : List Expr}
theorem pe_nothing : PE X e (tF X.K fBad) := pe_bad fun σ H Q h => by
  obtain ⟨As, vs0, B, R, env, d, k, env', ok, z, q⟩ := h
  cases z
theorem pe_nm {i : Nat} {x : Str} (hN : X.N[i]? = some x) (hv : Vis X.env.scope x) (hd : (x == ("__debug__" : Str)) = false) (hcd : (x == ("__classdict__" : Str)) = false) : PE X (.Name x pos) (tF X.K (fVar i)) :=
  pe_imp (pe_var hN hv hd hcd) fun σ H Q h => by
    obtain ⟨As, vs0, B, R, env, d, k, env', ok, z, q⟩ := h
    unfold fVar at z
    cases hs : env[i]? with
    | none => rw [hs] at z; cases z
    | some s =>
      rw [hs] at z
      have o := ok.sl i s hs
      cases s with
      | emp => cases z
      | pure d0 =>
        cases z
        obtain ⟨v, e, h⟩ := o
        exact ⟨v, e, Post.dp ok q h⟩
      | own ds =>
        cases z
        obtain ⟨a, vs, e, h1, h2, h3, h4⟩ := o
        exact ⟨_, e, q _ R H (.refl _ _) ok ⟨e, ds, rfl, hs⟩⟩
      | dct ds => cases z
theorem cst_post {K : PySem.W.Frag} {d : D} {v : V} (h : ∀ R, Dp K R v d) : ∀ σ H Q, tF K (fCst d) σ H Q → tC v σ H Q := fun σ H Q h' => by
  obtain ⟨As, vs0, B, R, env, d', k, env', ok, z, q⟩ := h'
  cases z
  exact Post.dp ok q (h R)
theorem pe_cint {i : Int} {j : Nat} : PE X (.Constant (.int i) j pos) (tF X.K (fCst (.int i))) := pe_imp pe_int (cst_post fun _ => .int i)
theorem pe_cbl {i : Bool} {j : Nat} : PE X (.Constant (.bool i) j pos) (tF X.K (fCst (.bool i))) := pe_imp pe_bl (cst_post fun _ => .bl i)
theorem pe_cstr {i : Str} {j : Nat} : PE X (.Constant (.str i) j pos) (tF X.K (fCst (.str i))) := pe_imp pe_str (cst_post fun _ => .str i)
theorem pe_cnon {j : Nat} : PE X (.Constant .none j pos) (tF X.K (fCst .none)) := pe_imp pe_non (cst_post fun _ => .non)

/-! ### and, or, not, if-else, by truth -/
def tru : D → Option Bool
  | .none => some false
  | .bool b => some b
  | .int i => some (i != 0)
  | .str y => if y.length ≤ sizeLine then some ((y.length : Int) != 0) else none
  | .list xs => some (!xs.isEmpty)
  | .tuple xs => some (!xs.isEmpty)
  | .dict _ => none
theorem isEmpty_len {α β : Type} {xs : List α} {ys : List β} (h : xs.length = ys.length) : xs.isEmpty = ys.isEmpty := by
  cases xs <;> cases ys <;> simp at h ⊢
theorem tru_v {K : PySem.W.Frag} {R H : Hp} {x : V} {d : D} {k : Bool} (rh : Le R H) (u : UseOk K R H x d) (h : tru d = some k) : TruV K x H k := by
  cases d with
  | none => cases h; rw [u.non]; exact rfl
  | bool b => cases h; rw [u.bl]; exact rfl
  | int i => cases h; rw [u.int]; exact rfl
  | str y =>
    rw [u.str]
    dsimp only [tru] at h
    by_cases hz : y.length ≤ sizeLine
    · rw [if_pos hz] at h; cases h; exact ⟨hz, rfl⟩
    · rw [if_neg hz] at h; cases h
  | list xs =>
    cases h
    obtain ⟨a, vs, e, h1, h2⟩ := u.list rh
    subst e
    exact .inl ⟨vs, h1, by rw [isEmpty_len (dpAll_len h2)]⟩
  | tuple xs =>
    cases h
    obtain ⟨a, vs, e, h1, h2, _⟩ := u.tuple rh
    subst e
    exact .inr (.inl ⟨vs, h1, by rw [isEmpty_len (dpAll_len h2)]⟩)
  | dict _ => cases h
def fAnd (Fa Fb : FE) : FE := fun env => match Fa env with
  | some (d, k, e1) => match tru d with
    | some true => Fb e1
    | some false => some (d, k, e1)
    | none => none
  | none => none
def fOr (Fa Fb : FE) : FE := fun env => match Fa env with
  | some (d, k, e1) => match tru d with
    | some true => some (d, k, e1)
    | some false => Fb e1
    | none => none
  | none => none
theorem tF_grow {K : PySem.W.Frag} {F : FE} {σ : L2.St} {H' : Hp} {Q : VK} {As : List Nat} {vs0 : List V} {B R R' : Hp} {e1 env' : Ev} {d : D} {k : Kd} (g : Grow B R R') (ok : Ok K As vs0 B R' H' σ e1) (h : F e1 = some (d, k, env')) (q : Post K As vs0 B R σ env' d k Q) : tF K F σ H' Q :=
  ⟨As, vs0, B, R', e1, d, k, env', ok, h, fun v R2 H2 g2 => q v R2 H2 (g.trans g2)⟩
theorem pe_andD (ha : PE X a (tF X.K Fa)) (hb : PE X (.BoolOp .And (b :: rest) pos) (tF X.K Fb)) : PE X (.BoolOp .And (a :: b :: rest) pos) (tF X.K (fAnd Fa Fb)) :=
  pe_imp (pe_andT ha hb) fun σ H Q h => by
    obtain ⟨As, vs0, B, R, env, d, k, env', ok, z, q⟩ := h
    unfold fAnd at z
    cases h1 : Fa env with
    | none => rw [h1] at z; cases z
    | some y =>
      obtain ⟨d1, k1, e1⟩ := y
      rw [h1] at z
      dsimp only at z
      refine ⟨As, vs0, B, R, env, d1, k1, e1, ok, h1, fun v R' H' g ok' r => ?_⟩
      cases ht : tru d1 with
      | none => rw [ht] at z; cases z
      | some t =>
        rw [ht] at z
        refine ⟨t, tru_v ok'.rh (ok'.use r) ht, ?_⟩
        cases t with
        | true => exact iteT (tF_grow g ok' z q)
        | false => cases z; exact iteF (q v R' H' g ok' r)
theorem pe_orD (ha : PE X a (tF X.K Fa)) (hb : PE X (.BoolOp .Or (b :: rest) pos) (tF X.K Fb)) : PE X (.BoolOp .Or (a :: b :: rest) pos) (tF X.K (fOr Fa Fb)) :=
  pe_imp (pe_orT ha hb) fun σ H Q h => by
    obtain ⟨As, vs0, B, R, env, d, k, env', ok, z, q⟩ := h
    unfold fOr at z
    cases h1 : Fa env with
    | none => rw [h1] at z; cases z
    | some y =>
      obtain ⟨d1, k1, e1⟩ := y
      rw [h1] at z
      dsimp only at z
      refine ⟨As, vs0, B, R, env, d1, k1, e1, ok, h1, fun v R' H' g ok' r => ?_⟩
      cases ht : tru d1 with
      | none => rw [ht] at z; cases z
      | some t =>
        rw [ht] at z
        refine ⟨t, tru_v ok'.rh (ok'.use r) ht, ?_⟩
        cases t with
        | false => exact iteF (tF_grow g ok' z q)
        | true => cases z; exact iteT (q v R' H' g ok' r)
/-! tests -/
def fTst (F : FE) : FT := fun env => match F env with
  | some (d, _, e1) => match tru d with
    | some t => some (t, e1)
    | none => none
  | none => none
def fTAnd (Fa Fb : FT) : FT := fun env => match Fa env with
  | some (true, e1) => Fb e1
  | some (false, e1) => some (false, e1)
  | none => none
def fTOr (Fa Fb : FT) : FT := fun env => match Fa env with
  | some (true, e1) => some (true, e1)
  | some (false, e1) => Fb e1
  | none => none
def fTNot (Fa : FT) : FT := fun env => match Fa env with
  | some (t, e1) => some (!t, e1)
  | none => none
def fNotV (Fa : FT) : FE := fun env => match Fa env with
  | some (t, e1) => some (.bool (!t), .st, e1)
  | none => none
def fIf (Ft : FT) (Fa Fb : FE) : FE := fun env => match Ft env with
  | some (true, e1) => Fa e1
  | some (false, e1) => Fb e1
  | none => none
theorem pt_tst (ha : PE X a (tF X.K Fa)) (he : ∀ whole, isTrue a X.env whole = (do let v ← whole; standAt a.pos; holding [v] (truthy v))) : PT X a (tT X.K (fTst Fa)) :=
  pt_imp (pt_truth ha he) fun σ H Q h => by
    obtain ⟨As, vs0, B, R, env, t, env', ok, z, q⟩ := h
    unfold fTst at z
    cases h1 : Fa env with
    | none => rw [h1] at z; cases z
    | some y =>
      obtain ⟨d1, k1, e1⟩ := y
      rw [h1] at z
      dsimp only at z
      cases ht : tru d1 with
      | none => rw [ht] at z; cases z
      | some t1 =>
        rw [ht] at z
        cases z
        exact ⟨As, vs0, B, R, env, d1, k1, _, ok, h1, fun v R' H' g ok' r => ⟨t, tru_v ok'.rh (ok'.use r) ht, q R' H' g ok'⟩⟩
/-- an expression that gives a truth value, as a test -/
theorem tT_bool {K : PySem.W.Frag} {F : FE} {σ : L2.St} {H : Hp} {Q : Bool → Hp → Prop} (hb : ∀ env d k e', F env = some (d, k, e') → ∃ b, d = .bool b) (h : tT K (fTst F) σ H Q) : tTest (tF K F) σ H Q := by
  obtain ⟨As, vs0, B, R, env, t, env', ok, z, q⟩ := h
  unfold fTst at z
  cases h1 : F env with
  | none => rw [h1] at z; cases z
  | some y =>
    obtain ⟨d1, k1, e1⟩ := y
    rw [h1] at z
    obtain ⟨b, e⟩ := hb _ _ _ _ h1
    subst e
    cases z
    exact ⟨As, vs0, B, R, env, _, k1, _, ok, h1, fun v R' H' g ok' r => ⟨t, (ok'.use r).bl, q R' H' g ok'⟩⟩
theorem pt_cmp2 {op : CmpOp} {g : G2} (ho : OpR X (compareOp op) (rD2 X.K g)) (ha : PE X a (tF X.K Fa)) (hb : PE X b (tF X.K Fb)) (hm : behindInMarks op b = false) (hg : ∀ d e r k, g d e = some (r, k) → ∃ t, r = .bool t) : PT X (.Compare a [op] [b] pos) (tT X.K (fTst (fTwo g Fa Fb))) :=
  pt_imp (pt_cmpR ho ha hb hm) fun σ H Q h => by
    have h2 := tT_bool (fun env d k e' hf => by
      unfold fTwo at hf
      cases h1 : Fa env with
      | none => rw [h1] at hf; cases hf
      | some z =>
        obtain ⟨d1, k1, e1⟩ := z
        rw [h1] at hf
        dsimp only at hf
        cases h2 : Fb e1 with
        | none => rw [h2] at hf; cases hf
        | some z2 =>
          obtain ⟨d2, k2, e2⟩ := z2
          rw [h2] at hf
          dsimp only at hf
          cases h3 : rsv d1 k1 e2 with
          | none => rw [h3] at hf; cases hf
          | some d1' =>
            rw [h3] at hf
            dsimp only at hf
            cases h4 : g d1' d2 with
            | none => rw [h4] at hf; cases hf
            | some z4 =>
              obtain ⟨r4, k4⟩ := z4
              rw [h4] at hf
              cases hf
              exact hg _ _ _ _ h4) h
    exact use_two (rul2_d _ _) h2
variable {Ta Tb Tc : FT}
theorem pw_and1D (ha : PT X a (tT X.K Ta)) : PW X (.BoolOp .And [a] pos) (tT X.K Ta) := pw_and1 ha
theorem pw_or1D (ha : PT X a (tT X.K Ta)) : PW X (.BoolOp .Or [a] pos) (tT X.K Ta) := pw_or1 ha
theorem pw_andD (ha : PT X a (tT X.K Ta)) (hb : PW X (.BoolOp .And (b :: rest) pos) (tT X.K Tb)) : PW X (.BoolOp .And (a :: b :: rest) pos) (tT X.K (fTAnd Ta Tb)) :=
  pw_imp (pw_and ha hb) fun σ H Q h => by
    obtain ⟨As, vs0, B, R, env, t, env', ok, z, q⟩ := h
    unfold fTAnd at z
    cases h1 : Ta env with
    | none => rw [h1] at z; cases z
    | some y =>
      obtain ⟨t1, e1⟩ := y
      rw [h1] at z
      refine ⟨As, vs0, B, R, env, t1, e1, ok, h1, fun R' H' g ok' => ?_⟩
      cases t1 with
      | true => exact iteT ⟨As, vs0, B, R', e1, t, env', ok', z, fun R2 H2 g2 => q R2 H2 (g.trans g2)⟩
      | false => cases z; exact iteF (q R' H' g ok')
theorem pw_orD (ha : PT X a (tT X.K Ta)) (hb : PW X (.BoolOp .Or (b :: rest) pos) (tT X.K Tb)) : PW X (.BoolOp .Or (a :: b :: rest) pos) (tT X.K (fTOr Ta Tb)) :=
  pw_imp (pw_or ha hb) fun σ H Q h => by
    obtain ⟨As, vs0, B, R, env, t, env', ok, z, q⟩ := h
    unfold fTOr at z
    cases h1 : Ta env with
    | none => rw [h1] at z; cases z
    | some y =>
      obtain ⟨t1, e1⟩ := y
      rw [h1] at z
      refine ⟨As, vs0, B, R, env, t1, e1, ok, h1, fun R' H' g ok' => ?_⟩
      cases t1 with
      | false => exact iteF ⟨As, vs0, B, R', e1, t, env', ok', z, fun R2 H2 g2 => q R2 H2 (g.trans g2)⟩
      | true => cases z; exact iteT (q R' H' g ok')
theorem pt_notD (ha : PT X a (tT X.K Ta)) : PT X (.UnaryOp .Not a pos) (tT X.K (fTNot Ta)) :=
  pt_imp (pt_not ha) fun σ H Q h => by
    obtain ⟨As, vs0, B, R, env, t, env', ok, z, q⟩ := h
    unfold fTNot at z
    cases h1 : Ta env with
    | none => rw [h1] at z; cases z
    | some y =>
      obtain ⟨t1, e1⟩ := y
      rw [h1] at z
      cases z
      exact ⟨As, vs0, B, R, env, t1, _, ok, h1, fun R' H' g ok' => q R' H' g ok'⟩
theorem pe_ifD (hc : PT X c (tT X.K Tc)) (ha : PE X a (tF X.K Fa)) (hb : PE X b (tF X.K Fb)) : PE X (.IfExp c a b pos) (tF X.K (fIf Tc Fa Fb)) :=
  pe_imp (pe_ifExp hc ha hb) fun σ H Q h => by
    obtain ⟨As, vs0, B, R, env, d, k, env', ok, z, q⟩ := h
    unfold fIf at z
    cases h1 : Tc env with
    | none => rw [h1] at z; cases z
    | some y =>
      obtain ⟨t1, e1⟩ := y
      rw [h1] at z
      refine ⟨As, vs0, B, R, env, t1, e1, ok, h1, fun R' H' g ok' => ?_⟩
      cases t1 with
      | true => exact iteT (tF_grow g ok' z q)
      | false => exact iteF (tF_grow g ok' z q)
/-- not a, as a value -/
theorem pe_notD (ha : PE X a (tF X.K Fa)) : PE X (.UnaryOp .Not a pos) (tF X.K (fNotV (fTst Fa))) :=
  pe_imp (pe_notT ha) fun σ H Q h => by
    obtain ⟨As, vs0, B, R, env, d, k, env', ok, z, q⟩ := h
    unfold fNotV fTst at z
    cases h1 : Fa env with
    | none => rw [h1] at z; cases z
    | some y =>
      obtain ⟨d1, k1, e1⟩ := y
      rw [h1] at z
      dsimp only at z
      cases ht : tru d1 with
      | none => rw [ht] at z; cases z
      | some t1 =>
        rw [ht] at z
        cases z
        exact ⟨As, vs0, B, R, env, d1, k1, _, ok, h1, fun v R' H' g ok' r => ⟨t1, tru_v ok'.rh (ok'.use r) ht, q _ R' H' g ok' (.bl _)⟩⟩
end
end Pt

namespace Pt
open PySem PySem.Spec PyProof.Rows L2
variable [Tb]

/-! ### lists of arguments, displays -/
def faNil : FA := fun env => some ([], env)
def faCons (F : FE) (G : FA) : FA := fun env => match F env with
  | some (d, k, e1) => match G (stl d k e1) with
    | some (ds, e2) => some (d :: ds, e2)
    | none => none
  | none => none
def fTup (G : FA) : FE := fun env => match G env with
  | some (ds, e1) => if ds.length ≤ sizeLine then some (.tuple ds, .st, e1) else none
  | none => none
def fLst (G : FA) : FE := fun env => match G env with
  | some (ds, e1) => if ds.length ≤ sizeLine then some (.list ds, .fr, e1) else none
  | none => none
section
variable {X : Cx} {a b c e : Expr} {Fa Fb Fc : FE} {pos : Pos} {rest es : List Expr} {G : FA}
theorem pa_nilD : PA X [] (tA X.K faNil) := pa_imp pa_nil fun σ H Q h => by
  obtain ⟨As, vs0, B, R, env, ds, env', ok, z, q⟩ := h
  cases z
  exact q [] R H (.refl _ _) ok .nil
theorem pa_consD (ha : PE X e (tF X.K Fa)) (hr : PA X es (tA X.K G)) (hs : starEach (e :: es) X.env = (false, eval e X.env) :: starEach es X.env) : PA X (e :: es) (tA X.K (faCons Fa G)) :=
  pa_imp (pa_cons ha hr hs) fun σ H Q h => by
    obtain ⟨As, vs0, B, R, env, ds, env', ok, z, q⟩ := h
    unfold faCons at z
    cases h1 : Fa env with
    | none => rw [h1] at z; cases z
    | some y =>
      obtain ⟨d1, k1, e1⟩ := y
      rw [h1] at z
      dsimp only at z
      cases h2 : G (stl d1 k1 e1) with
      | none => rw [h2] at z; cases z
      | some y2 =>
        obtain ⟨ds2, e2⟩ := y2
        rw [h2] at z
        cases z
        refine ⟨As, vs0, B, R, env, d1, k1, e1, ok, h1, fun v R1 H1 g1 ok1 r1 => ?_⟩
        obtain ⟨R2, g2, ok2, dp⟩ := ok1.stl r1
        refine ⟨As, vs0, B, R2, _, ds2, _, ok2, h2, fun vs R3 H3 g3 ok3 dps => ?_⟩
        exact q (v :: vs) R3 H3 ((g1.trans g2).trans g3) ok3 (.cons (dp_le g3.1 _ dp) dps)
theorem pe_tupD {x1 : Nat} (h : PA X es (tA X.K G)) : PE X (.Tuple es x1 pos) (tF X.K (fTup G)) := pe_imp (pe_tup h) fun σ H Q h => by
  obtain ⟨As, vs0, B, R, env, d, k, env', ok, z, q⟩ := h
  unfold fTup at z
  cases h1 : G env with
  | none => rw [h1] at z; cases z
  | some y =>
    obtain ⟨ds, e1⟩ := y
    rw [h1] at z
    dsimp only at z
    by_cases hz : ds.length ≤ sizeLine
    · rw [if_pos hz] at z
      cases z
      refine ⟨As, vs0, B, R, env, ds, _, ok, h1, fun vs R1 H1 g1 ok1 dps => ⟨by rw [dpAll_len dps]; exact hz, fun p hp => ?_⟩⟩
      exact Post.newT ok1 hp dps fun v R2 H2 g2 => q v R2 H2 (g1.trans g2)
    · rw [if_neg hz] at z; cases z
theorem pe_lstD (h : PA X es (tA X.K G)) : PE X (.List es pos) (tF X.K (fLst G)) := pe_imp (pe_lst h) fun σ H Q h => by
  obtain ⟨As, vs0, B, R, env, d, k, env', ok, z, q⟩ := h
  unfold fLst at z
  cases h1 : G env with
  | none => rw [h1] at z; cases z
  | some y =>
    obtain ⟨ds, e1⟩ := y
    rw [h1] at z
    dsimp only at z
    by_cases hz : ds.length ≤ sizeLine
    · rw [if_pos hz] at z
      cases z
      refine ⟨As, vs0, B, R, env, ds, _, ok, h1, fun vs R1 H1 g1 ok1 dps => ⟨by rw [dpAll_len dps]; exact hz, fun p hp => ?_⟩⟩
      exact Post.newL ok1 hp dps fun v R2 H2 g2 => q v R2 H2 (g1.trans g2)
    · rw [if_neg hz] at z; cases z

/-! ### -a -/
def gNeg : G1
  | .int i => some (.int (-i), .st)
  | _ => none
theorem pe_negD (ha : PE X a (tF X.K Fa)) : PE X (.UnaryOp .USub a pos) (tF X.K (fOne gNeg Fa)) := pe_imp (pe_un un_neg ha) fun σ H Q h => by
  refine use_one (g := gNeg) (r := rU fun i => .int (-i)) (fun As vs0 B R H σ env x d e k Q ok u hg q => ?_) h
  cases d <;> try (cases hg; done)
  cases hg
  exact ⟨_, u.int, Post.int ok q⟩

/-! ### a[i] -/
def gIx : G2
  | .list xs, .int i => match atI xs i with
    | some d => some (d, .st)
    | none => none
  | .tuple xs, .int i => match atI xs i with
    | some d => some (d, .st)
    | none => none
  | .str z, .int i => if z.length ≤ sizeLine then match atI z.cps.toList i with
      | some c => some (.str ⟨#[c]⟩, .st)
      | none => none
    else none
  | _, _ => none
theorem dpAll_at {K : PySem.W.Frag} {R : Hp} {vs : List V} {ds : List D} {i : Int} {d : D} (h : DpAll K R vs ds) (e : atI ds i = some d) : ∃ v, atI vs i = some v ∧ Dp K R v d := by
  have hl := dpAll_len h
  unfold atI at e ⊢
  rw [hl]
  cases hj : ixN ds.length i with
  | none => rw [hj] at e; cases e
  | some j =>
    rw [hj] at e
    exact dpAll_get' h e
theorem rul_ix : Rul2 X.K gIx (rIx X.K) := fun As vs0 B R H σ env x y d1 d2 e k Q ok u1 u2 hg q => by
  cases d2 <;> try (cases d1 <;> cases hg; done)
  case int i =>
    have e2 := u2.int
    subst e2
    cases d1 <;> try (cases hg; done)
    case list xs =>
      dsimp only [gIx] at hg
      cases ha : atI xs i with
      | none => rw [ha] at hg; cases hg
      | some d =>
        rw [ha] at hg
        cases hg
        obtain ⟨a1, w1, e1, s1, p1⟩ := u1.list ok.rh
        obtain ⟨v, hv, dp⟩ := dpAll_at p1 ha
        exact .inl ⟨a1, w1, i, v, e1, rfl, s1, hv, Post.dp ok q dp⟩
    case tuple xs =>
      dsimp only [gIx] at hg
      cases ha : atI xs i with
      | none => rw [ha] at hg; cases hg
      | some d =>
        rw [ha] at hg
        cases hg
        obtain ⟨a1, w1, e1, s1, p1, _⟩ := u1.tuple ok.rh
        obtain ⟨v, hv, dp⟩ := dpAll_at p1 ha
        exact .inr (.inl ⟨a1, w1, i, v, e1, rfl, s1, hv, Post.dp ok q dp⟩)
    case str z =>
      dsimp only [gIx] at hg
      by_cases hz : z.length ≤ sizeLine
      · rw [if_pos hz] at hg
        cases ha : atI z.cps.toList i with
        | none => rw [ha] at hg; cases hg
        | some c =>
          rw [ha] at hg
          cases hg
          exact .inr (.inr ⟨z, i, c, u1.str, rfl, hz, ha, Post.str ok q⟩)
      · rw [if_neg hz] at hg; cases hg
theorem pe_ixD (ha : PE X a (tF X.K Fa)) (hb : PE X b (tF X.K Fb)) (hs : PlainIx b) : PE X (.Subscript a b pos) (tF X.K (fTwo gIx Fa Fb)) := pe_imp (pe_ix ix_seq ha hb hs) fun σ H Q h => use_two rul_ix h

/-! ### a[lo:hi] -/
abbrev FO := Ev → Option (Option Int × Ev)
def foNone : FO := fun env => some (none, env)
def foSome (F : FE) : FO := fun env => match F env with
  | some (.int i, _, e1) => some (some i, e1)
  | _ => none
def cutD (xs : List D) (lo hi : Option Int) : List D := (xs.drop (HT.sIx xs.length 0 lo)).take (HT.sIx xs.length xs.length hi - HT.sIx xs.length 0 lo)
def gSl (d : D) (lo hi : Option Int) : Option (D × Kd) := match d with
  | .list xs => some (.list (cutD xs lo hi), .fr)
  | .tuple xs => some (.tuple (cutD xs lo hi), .st)
  | .str z => if z.length ≤ sizeLine then some (.str (cutS z lo hi), .st) else none
  | _ => none
def fSl (Fa : FE) (Fl Fh : FO) : FE := fun env => match Fa env with
  | some (d, k, e1) => match Fl e1 with
    | some (lo, e2) => match Fh e2 with
      | some (hi, e3) => match rsv d k e3 with
        | some d' => match gSl d' lo hi with
          | some (r, kr) => some (r, kr, e3)
          | none => none
        | none => none
      | none => none
    | none => none
  | none => none
def tO (K : PySem.W.Frag) (F : FO) : TO := fun σ H Q => ∃ As vs0 B R env o env', Ok K As vs0 B R H σ env ∧ F env = some (o, env') ∧ ∀ R' H', Grow B R R' → Ok K As vs0 B R' H' σ env' → Q o H'
theorem po_imp {e : Option Expr} {t t' : TO} (h : PO X e t) (w : ∀ σ H Q, t' σ H Q → t σ H Q) : PO X e t' := ⟨fun pins s σ H Q I q => h.run pins s σ H Q I (w σ H Q q)⟩
theorem po_noneD : PO X none (tO X.K foNone) := po_imp po_none fun σ H Q h => by
  obtain ⟨As, vs0, B, R, env, o, env', ok, z, q⟩ := h
  cases z
  exact q R H (.refl _ _) ok
theorem po_someD (h : PE X e (tF X.K Fa)) : PO X (some e) (tO X.K (foSome Fa)) := po_imp (po_some h) fun σ H Q h => by
  obtain ⟨As, vs0, B, R, env, o, env', ok, z, q⟩ := h
  unfold foSome at z
  cases h1 : Fa env with
  | none => rw [h1] at z; cases z
  | some y =>
    obtain ⟨d1, k1, e1⟩ := y
    rw [h1] at z
    cases d1 <;> try (cases z; done)
    cases z
    exact ⟨As, vs0, B, R, env, _, k1, _, ok, h1, fun v R' H' g ok' r => ⟨_, (ok'.use r).int, q R' H' g ok'⟩⟩
theorem cutV_dp {K : PySem.W.Frag} {R : Hp} {vs : List V} {ds : List D} (h : DpAll K R vs ds) (lo hi : Option Int) : DpAll K R (cutV vs lo hi) (cutD ds lo hi) := by
  unfold cutV cutD
  rw [dpAll_len h]
  exact dpAll_take _ (dpAll_drop _ h)
theorem cut_whole {xs : List D} {lo hi : Option Int} (h : HT.sIx xs.length 0 lo = 0 ∧ HT.sIx xs.length xs.length hi = xs.length) : cutD xs lo hi = xs := by
  unfold cutD
  rw [h.1, h.2]
  simp
def rSlD (K : PySem.W.Frag) : V → Option Int → Option Int → Hp → VK → Prop := fun x lo hi H Q => ∃ As vs0 B R σ env d e k, Ok K As vs0 B R H σ env ∧ UseOk K R H x d ∧ gSl d lo hi = some (e, k) ∧ Post K As vs0 B R σ env e k Q
theorem sl_D : SlR X (rSlD X.K) := by
  intro pins s σ H x v vl vu lo hi sl Q I rx hs pl pu h
  obtain ⟨As, vs0, B, R, σ', env, d, e, k, ok, u, hg, q⟩ := h
  cases d <;> try (cases hg; done)
  case list xs =>
    cases hg
    obtain ⟨a1, w1, e1, s1, p1⟩ := u.list ok.rh
    exact sl_list pins s σ H x v vl vu lo hi sl Q I rx hs pl pu ⟨a1, w1, e1, s1, fun p hp => Post.newL ok hp (cutV_dp p1 lo hi) q⟩
  case tuple xs =>
    cases hg
    obtain ⟨a1, w1, e1, s1, p1, dp⟩ := u.tuple ok.rh
    refine sl_tupA pins s σ H x v vl vu lo hi sl Q I rx hs pl pu ⟨a1, w1, e1, s1, fun hw => ?_, fun hw p hp => Post.newT ok hp (cutV_dp p1 lo hi) q⟩
    rw [dpAll_len p1] at hw
    rw [cut_whole hw] at q
    subst e1
    exact Post.dp ok q dp
  case str z =>
    dsimp only [gSl] at hg
    by_cases hz : z.length ≤ sizeLine
    · rw [if_pos hz] at hg
      cases hg
      exact sl_str pins s σ H x v vl vu lo hi sl Q I rx hs pl pu ⟨z, u.str, hz, Post.str ok q⟩
    · rw [if_neg hz] at hg; cases hg
variable {lo hi : Option Expr} {Fl Fh : FO} {p2 : Pos}
theorem pe_sliceD (ha : PE X a (tF X.K Fa)) (hl : PO X lo (tO X.K Fl)) (hh : PO X hi (tO X.K Fh)) : PE X (.Subscript a (.Slice lo hi none p2) pos) (tF X.K (fSl Fa Fl Fh)) := pe_imp (pe_slice sl_D ha hl hh) fun σ H Q h => by
  obtain ⟨As, vs0, B, R, env, d, k, env', ok, z, q⟩ := h
  unfold fSl at z
  cases h1 : Fa env with
  | none => rw [h1] at z; cases z
  | some y =>
    obtain ⟨d1, k1, e1⟩ := y
    rw [h1] at z
    dsimp only at z
    cases h2 : Fl e1 with
    | none => rw [h2] at z; cases z
    | some y2 =>
      obtain ⟨l2, e2⟩ := y2
      rw [h2] at z
      dsimp only at z
      cases h3 : Fh e2 with
      | none => rw [h3] at z; cases z
      | some y3 =>
        obtain ⟨u3, e3⟩ := y3
        rw [h3] at z
        dsimp only at z
        cases h4 : rsv d1 k1 e3 with
        | none => rw [h4] at z; cases z
        | some d4 =>
          rw [h4] at z
          dsimp only at z
          cases h5 : gSl d4 l2 u3 with
          | none => rw [h5] at z; cases z
          | some y5 =>
            obtain ⟨r5, k5⟩ := y5
            rw [h5] at z
            cases z
            refine ⟨As, vs0, B, R, env, d1, k1, e1, ok, h1, fun v R1 H1 g1 ok1 r1 => ?_⟩
            obtain ⟨R1', g1', ok1', w1⟩ := ok1.hold r1
            refine ⟨As, vs0, B, R1', e1, l2, e2, ok1', h2, fun R2 H2 g2 ok2 => ?_⟩
            refine ⟨As, vs0, B, R2, e2, u3, _, ok2, h3, fun R3 H3 g3 ok3 => ?_⟩
            exact ⟨As, vs0, B, R3, σ, _, d4, _, _, ok3, ok3.waited ((w1.le g2.1).le g3.1) h4, h5, fun v3 R4 H4 g4 => q v3 R4 H4 ((((g1.trans g1').trans g2).trans g3).trans g4)⟩
/-- a[::-1] -/
def gRev : G1
  | .list xs => some (.list xs.reverse, .fr)
  | .tuple xs => some (.tuple xs.reverse, .st)
  | _ => none
theorem dpAll_rev {K : PySem.W.Frag} {R : Hp} : ∀ {ds : List D} {vs : List V}, DpAll K R vs ds → DpAll K R vs.reverse ds.reverse
  | [], _, x => by cases x; exact .nil
  | d :: ds, _, x => by
    cases x with
    | cons a b =>
      rw [List.reverse_cons, List.reverse_cons]
      exact dpAll_snoc (dpAll_rev b) a
section
open HT
variable {prog : Program} {w : World} {A : Around} {E : Value → Shared → Prop} {s : Shared}
theorem back_at (n : Nat) : Builtin.Slice.sliceAdjust none none (-1) (n : Int) = ((n : Int) - 1, -1) := rfl
theorem back_many (n : Nat) : Builtin.Slice.slicePlaces ((n : Int) - 1) (-1) (-1) = n := by
  unfold Builtin.Slice.slicePlaces
  have z : ¬ ((-1 : Int) > 0) := by decide
  rw [if_neg z]
  split
  · rw [show -(-1 : Int) = 1 from rfl, Int.ediv_one]; omega
  · omega
theorem back_pick (items : Array Value) : ((List.range items.size).filterMap fun (k : Nat) => items[(((items.size : Int) - 1) + (k : Int) * (-1)).toNat]?).toArray = items.toList.reverse.toArray := by
  congr 1
  have e : ((List.range items.size).filterMap fun (k : Nat) => items[(((items.size : Int) - 1) + (k : Int) * (-1)).toNat]?) = (List.range items.size).map fun (k : Nat) => (items[items.size - 1 - k]?).getD .none := by
    have go : ∀ (l : List Nat), (∀ k ∈ l, k < items.size) → (l.filterMap fun (k : Nat) => items[(((items.size : Int) - 1) + (k : Int) * (-1)).toNat]?) = l.map fun (k : Nat) => (items[items.size - 1 - k]?).getD .none := by
      intro l
      induction l with
      | nil => intro _; rfl
      | cons k l ih =>
        intro hl
        have hk := hl k (by simp)
        have ek : (((items.size : Int) - 1) + (k : Int) * (-1)).toNat = items.size - 1 - k := by omega
        have e1 : items[items.size - 1 - k]? = some (items[items.size - 1 - k]'(by omega)) := Array.getElem?_eq_getElem _
        rw [List.filterMap_cons, ek, List.map_cons, e1, ih fun q hq => hl q (by simp [hq])]
        rfl
    exact go _ fun k hk => List.mem_range.mp hk
  rw [e]
  apply List.ext_getElem?
  intro m
  rw [List.getElem?_map]
  by_cases hm : m < items.size
  · rw [List.getElem?_range hm, List.getElem?_reverse (by rw [Array.length_toList]; exact hm), Array.length_toList, Array.getElem?_toList, Array.getElem?_eq_getElem (by omega)]
    show some ((items[items.size - 1 - m]?).getD .none) = _
    rw [Array.getElem?_eq_getElem (by omega)]; rfl
  · rw [List.getElem?_eq_none (by rw [List.length_range]; omega), List.getElem?_eq_none (by rw [List.length_reverse, Array.length_toList]; omega)]
    rfl
/-- t[::-1], t a tuple -/
theorem turned_tuple {t sl : Addr} {items : Array Value} {vs : Value} {Q : Value → Shared → Prop} (ht : IsTup s.heap t items) (hs : s.heap.IsSliceOf sl .none .none vs) (ps : IsPart vs (some (-1)))
    (h : Q (.ref s.heap.objs.size) { s with heap := s.heap.push { cls := .type "tuple", data := .seq items.toList.reverse.toArray } }) (hz : items.size ≤ sizeLine) : wpAny (model prog w) A (getItem (.ref t) (.ref sl)) Q E s := by
  have room : sizeOk (.seq items.toList.reverse.toArray) := by
    show items.toList.reverse.toArray.size ≤ sizeLine
    rw [List.size_toArray, List.length_reverse, Array.length_toList]; exact hz
  obtain ⟨os, o1, o2, o3⟩ := id hs
  have tsl : s.TypeIs (.ref sl) "slice" := ⟨os, o1, o2⟩
  unfold getItem
  try with_reducible refine wpAny_holding ?_
  first | refine wpAny_bind (wpAny_pure ?_) | skip
  refine wpAny_bind (wpAny_sequenceKey ht.typeIs (by decide) (wpAny_bind (wpAny_callSpecial?_slot (name := Str.ofString "__getitem__") ht.typeIs PyProof.Rows.slot_tuple_getitem (wpAny_call_entry PyProof.Rows.slot_tuple_getitem ht.typeIs entry_tuple_getitem ?_ (args_tuple_getitem _ _)))))
  show wpAny (model prog w) _ (Builtin.Tuple.tupleItemsOf (.ref t) >>= _) _ _ s
  refine wpAny_bind (tupleItemsOf_ ht (wpAny_bind (wpAny_typeOf tsl ?_)))
  rw [if_pos (by decide)]
  have app : ∀ {Q' : Int × Int × Nat → Shared → Prop} {A' : Around} {E' : Value → Shared → Prop}, Q' ((items.size : Int) - 1, -1, items.size) s → wpAny (model prog w) A' (Builtin.Slice.sliceApplied (.ref sl) (pure (items.size : Int))) Q' E' s := fun {Q' A' E'} q => by
    unfold Builtin.Slice.sliceApplied Builtin.Slice.sliceFields
    refine wpAny_bind (wpAny_bind (wpAny_field o1 o3 (x := .none) rfl (wpAny_bind (wpAny_field o1 o3 (x := .none) rfl (wpAny_bind (wpAny_field o1 o3 (x := vs) rfl (wpAny_pure ?_)))))))
    refine wpAny_bind (slicePart_ ps ?_)
    show wpAny (model prog w) _ (if ((-1 : Int) == 0) = true then _ else _) _ _ s
    rw [if_neg (by decide)]
    refine wpAny_bind (slicePart_ .none (wpAny_bind (slicePart_ .none (wpAny_bind (wpAny_pure ?_)))))
    show wpAny (model prog w) _ (match Builtin.Slice.sliceAdjust none none (-1) (items.size : Int) with | (a, b) => pure (a, (-1 : Int), Builtin.Slice.slicePlaces a b (-1))) _ _ s
    rw [back_at]
    show wpAny (model prog w) _ (pure ((items.size : Int) - 1, (-1 : Int), Builtin.Slice.slicePlaces ((items.size : Int) - 1) (-1) (-1))) _ _ s
    rw [back_many]
    exact wpAny_pure q
  refine wpAny_bind (app ?_)
  have no : ¬ ((((items.size : Int) - 1) == 0 && (-1 : Int) == 1 && items.size == items.size) = true) := by simp
  show wpAny (model prog w) _ (if (((items.size : Int) - 1) == 0 && (-1 : Int) == 1 && items.size == items.size) = true then _ else _) _ _ s
  rw [if_neg no, back_pick]
  first
    | exact wpAny_bind (m := Builtin.Tuple.tupleExact _) (wpAny_newObj_type (wpAny_pure ⟨_, rfl, wpAny_pure h⟩) room)
    | exact wpAny_bind (m := Builtin.Tuple.tupleExact _) (wpAny_newObj_type (wpAny_bind (wpAny_pure (wpAny_pure ⟨_, rfl, wpAny_pure h⟩))) room)
    | exact wpAny_bind (wpAny_bind (m := Builtin.Tuple.tupleExact _) (wpAny_newObj_type (wpAny_pure (wpAny_pure ⟨_, rfl, wpAny_pure h⟩)) room))
    | exact wpAny_bind (wpAny_bind (m := Builtin.Tuple.tupleExact _) (wpAny_newObj_type (wpAny_pure ⟨_, rfl, wpAny_pure h⟩) room))
end
def tRevA (K : PySem.W.Frag) (te : TE) : TE := fun σ H Q => te σ H fun x H1 => ∃ a xs, x = .ref a ∧ ((SqL K H1 a xs ∧ ∀ p, H1 p = none → Q (.ref p) (upd H1 p (.lst xs.reverse))) ∨ (SqT K H1 a xs ∧ ∀ p, H1 p = none → Q (.ref p) (upd H1 p (.tup xs.reverse))))
theorem pe_revA {e : Expr} {te : TE} {k : Nat} {p1 p2 p3 pos : Pos} (he : PE X e te) : PE X (.Subscript e (.Slice none none (some (.UnaryOp .USub (.Constant (.int 1) k p1) p2)) p3) pos) (tRevA X.K te) := by
  refine ⟨fun pins s σ H Q I h => Subscript_ (thn (he.run pins s σ H _ I h) fun v s1 ⟨x, H1, I1, r1, a, xs, ex, hx⟩ => ?_)⟩
  subst ex
  cases r1
  have step : PO X (some (.UnaryOp .USub (.Constant (.int 1) k p1) p2)) (tPart (tUn (rU fun i => .int (-i)) (tC (.int 1)))) := po_some (pe_un un_neg pe_int)
  refine wpAny_Slice (thn (po_none.run pins s1 σ H1 (fun o G => o = none ∧ G = H1) I1 ⟨rfl, rfl⟩) fun v2 s2 ⟨l, H2, I2, p2', e2, e2'⟩ => thn (po_none.run pins s2 σ H2 (fun o G => o = none ∧ G = H2) I2 ⟨rfl, rfl⟩) fun v3 s3 ⟨u, H3, I3, p3', e3, e3'⟩ =>
    thn (step.run pins s3 σ H3 (fun o G => o = some (-1) ∧ G = H3) I3 ⟨1, rfl, -1, rfl, rfl, rfl⟩) fun v4 s4 ⟨o, H4, I4, p4', e4, e4'⟩ => ?_)
  subst e2 e2' e3 e3' e4 e4'
  have J : Inv X pins σ H4 { s4 with heap := s4.heap.push { cls := .type "slice", data := .fields #[v2, v3, v4] } } := I4.kept (t' := s4.toks) fun b ob q => Heap.get?_push_of_some _ q
  show wpAny (model X.prog X.w) X.A (subscriptTail e (.Slice none none (some (.UnaryOp .USub (.Constant (.int 1) k p1) p2)) p3) (.ref a) (.ref s4.heap.objs.size)) (EP X pins σ Q) X.xe { s4 with heap := s4.heap.push { cls := .type "slice", data := .fields #[v2, v3, v4] } }
  rcases hx with ⟨hx, q⟩ | ⟨hx, q⟩
  · obtain ⟨its, r, ht, hz⟩ := J.list hx
    have hlen := r.length
    refine tail_any (ops := [.ref a, .ref s4.heap.objs.size]) ht.isList.typeIs (PySem.slot_list_getitem.lookup) (wpAny_getItem_list_slice ht.isList (Heap.IsSliceOf.new _ v2 v3 v4) p2' p3' p4' (by decide) ?_ (by rw [List.size_toArray]; omega)) (by with_unfolding_all rfl)
    rw [PySem.W.krv_pick]
    exact ⟨.ref _, _, J.laid (t' := s4.toks) (o := .lst xs.reverse) (fun b ob z => Heap.get?_push_of_some _ z) (Nat.le_refl _) ⟨by rw [List.length_reverse]; exact hz, _, 0, r.reverse, Heap.get?_push_size _ rfl⟩, rfl, q _ (J.hok.fresh (Nat.le_refl _))⟩
  · obtain ⟨its, r, ht, hz⟩ := J.tuple hx
    have hlen := r.length
    cases p2'
    cases p3'
    refine tail_any (ops := [.ref a, .ref s4.heap.objs.size]) ht.typeIs (PyProof.Rows.slot_tuple_getitem.lookup) (turned_tuple ht (Heap.IsSliceOf.new _ _ _ v4) p4' ?_ (by rw [List.size_toArray]; omega)) (by with_unfolding_all rfl)
    exact ⟨.ref _, _, J.laid (t' := s4.toks) (o := .tup xs.reverse) (fun b ob z => Heap.get?_push_of_some _ z) (Nat.le_refl _) ⟨by rw [List.length_reverse]; exact hz, _, r.reverse, IsTup.new _ _⟩, rfl, q _ (J.hok.fresh (Nat.le_refl _))⟩
theorem pe_revD {k : Nat} {p1 p2 p3 pos : Pos} (he : PE X a (tF X.K Fa)) : PE X (.Subscript a (.Slice none none (some (.UnaryOp .USub (.Constant (.int 1) k p1) p2)) p3) pos) (tF X.K (fOne gRev Fa)) := pe_imp (pe_revA he) fun σ H Q h => by
  refine use_one (g := gRev) (r := fun x H1 Q => ∃ a xs, x = .ref a ∧ ((SqL X.K H1 a xs ∧ ∀ p, H1 p = none → Q (.ref p) (upd H1 p (.lst xs.reverse))) ∨ (SqT X.K H1 a xs ∧ ∀ p, H1 p = none → Q (.ref p) (upd H1 p (.tup xs.reverse))))) (fun As vs0 B R H σ env x d e k Q ok u hg q => ?_) h
  cases d <;> try (cases hg; done)
  case list ds =>
    cases hg
    obtain ⟨a1, w1, e1, s1, p1⟩ := u.list ok.rh
    exact ⟨a1, w1, e1, .inl ⟨s1, fun p hp => Post.newL ok hp (dpAll_rev p1) q⟩⟩
  case tuple ds =>
    cases hg
    obtain ⟨a1, w1, e1, s1, p1, _⟩ := u.tuple ok.rh
    exact ⟨a1, w1, e1, .inr ⟨s1, fun p hp => Post.newT ok hp (dpAll_rev p1) q⟩⟩
end
end Pt

namespace Pt
open PySem PySem.Spec PyProof.Rows L2
variable [Tb]

/-! ### calls of the text's own defs -/
/-- how an argument comes: a settled datum; a list of the frame's own that is lent; a new list that is given away -/
inductive AR where
  | val (d : D) | lend (i : Nat) | give (ds : List D)
def ARok (K : PySem.W.Frag) (B R H : Hp) (σ : L2.St) (env : Ev) (v : V) : AR → Prop
  | .val d => Dp K R v d
  | .lend i => σ[i]? = some (some v)
  | .give ds => ∃ a vs, v = .ref a ∧ H a = some (.lst vs) ∧ DpAll K R vs ds ∧ R a = none ∧ B a = none ∧ Free σ env a
inductive All2 {α β : Type} (P : α → β → Prop) : List α → List β → Prop
  | nil : All2 P [] []
  | cons {a : α} {b : β} {as : List α} {bs : List β} : P a b → All2 P as bs → All2 P (a :: as) (b :: bs)
theorem All2.len {α β : Type} {P : α → β → Prop} : ∀ {as : List α} {bs : List β}, All2 P as bs → as.length = bs.length
  | _, _, .nil => rfl
  | _, _, .cons _ t => by simp [t.len]
theorem All2.get {α β : Type} {P : α → β → Prop} : ∀ {as : List α} {bs : List β} {i : Nat} {b : β}, All2 P as bs → bs[i]? = some b → ∃ a, as[i]? = some a ∧ P a b
  | _, _, _, _, .nil, e => by simp at e
  | _, _, 0, _, .cons h t, e => by simp at e; subst e; exact ⟨_, rfl, h⟩
  | _, _, i + 1, _, .cons h t, e => by simpa using t.get (by simpa using e)
abbrev FR := Ev → Option (List AR × Ev)
def tR (K : PySem.W.Frag) (G : FR) : TA := fun σ H Q => ∃ As vs0 B R env ars env', Ok K As vs0 B R H σ env ∧ G env = some (ars, env') ∧
  ∀ vs R' H', Grow B R R' → Ok K As vs0 B R' H' σ env' → All2 (ARok K B R' H' σ env') vs ars → Q vs H'
/-- nothing, a last argument that is given or lent -/
def frNil : FR := fun env => some ([], env)
def frVal (F : FE) (G : FR) : FR := fun env => match F env with
  | some (d, k, e1) => match G (stl d k e1) with
    | some (as, e2) => if as.all fun | .give _ => false | _ => true then some (.val d :: as, e2) else none
    | none => none
  | none => none
def frBox (F : FE) (G : FR) : FR := fun env => match F env with
  | some (_, .pk i, e1) => match G e1 with
    | some (as, e2) => if as.all fun | .give _ => false | _ => true then some (.lend i :: as, e2) else none
    | none => none
  | _ => none
def frGive (F : FE) : FR := fun env => match F env with
  | some (.list ds, .fr, e1) => some ([.give ds], e1)
  | some (_, .pk i, e1) => some ([.lend i], e1)
  | _ => none
section
variable {K : PySem.W.Frag} {As : List Nat} {vs0 : List V} {B R R' H H' : Hp} {σ : L2.St} {env env' : Ev}
theorem arok_le {v : V} {a : AR} (l : Le R R') (h : ARok K B R H σ env v a) (n : ∀ ds, a ≠ .give ds) : ARok K B R' H' σ env' v a := by
  cases a with
  | val d => exact dp_le l _ h
  | lend i => exact h
  | give ds => exact absurd rfl (n ds)
end
section
variable {X : Cx} {e : Expr} {es : List Expr} {F : FE} {G : FR} {pos : Pos}
theorem pa_imp' {t t' : TA} (h : PA X es t) (w : ∀ σ H Q, t' σ H Q → t σ H Q) : PA X es t' := pa_imp h w
theorem pr_nil : PA X [] (tR X.K frNil) := pa_imp pa_nil fun σ H Q h => by
  obtain ⟨As, vs0, B, R, env, ars, env', ok, z, q⟩ := h
  cases z
  exact q [] R H (.refl _ _) ok .nil
theorem pr_val (ha : PE X e (tF X.K F)) (hr : PA X es (tR X.K G)) (hs : starEach (e :: es) X.env = (false, eval e X.env) :: starEach es X.env) : PA X (e :: es) (tR X.K (frVal F G)) :=
  pa_imp (pa_cons ha hr hs) fun σ H Q h => by
    obtain ⟨As, vs0, B, R, env, ars, env', ok, z, q⟩ := h
    unfold frVal at z
    cases h1 : F env with
    | none => rw [h1] at z; cases z
    | some y =>
      obtain ⟨d1, k1, e1⟩ := y
      rw [h1] at z
      dsimp only at z
      cases h2 : G (stl d1 k1 e1) with
      | none => rw [h2] at z; cases z
      | some y2 =>
        obtain ⟨as2, e2⟩ := y2
        rw [h2] at z
        dsimp only at z
        split at z
        · cases z
          refine ⟨As, vs0, B, R, env, d1, k1, e1, ok, h1, fun v R1 H1 g1 ok1 r1 => ?_⟩
          obtain ⟨R2, g2, ok2, dp⟩ := ok1.stl r1
          refine ⟨As, vs0, B, R2, _, as2, _, ok2, h2, fun vs R3 H3 g3 ok3 al => ?_⟩
          exact q (v :: vs) R3 H3 ((g1.trans g2).trans g3) ok3 (.cons (dp_le g3.1 _ dp) al)
        · cases z
theorem pr_box (ha : PE X e (tF X.K F)) (hr : PA X es (tR X.K G)) (hs : starEach (e :: es) X.env = (false, eval e X.env) :: starEach es X.env) : PA X (e :: es) (tR X.K (frBox F G)) :=
  pa_imp (pa_cons ha hr hs) fun σ H Q h => by
    obtain ⟨As, vs0, B, R, env, ars, env', ok, z, q⟩ := h
    unfold frBox at z
    cases h1 : F env with
    | none => rw [h1] at z; cases z
    | some y =>
      obtain ⟨d1, k1, e1⟩ := y
      rw [h1] at z
      cases k1 with
      | st => cases z
      | fr => cases z
      | pk i =>
        dsimp only at z
        cases h2 : G e1 with
        | none => rw [h2] at z; cases z
        | some y2 =>
          obtain ⟨as2, e2⟩ := y2
          rw [h2] at z
          dsimp only at z
          split at z
          · cases z
            refine ⟨As, vs0, B, R, env, d1, _, e1, ok, h1, fun v R1 H1 g1 ok1 r1 => ?_⟩
            refine ⟨As, vs0, B, R1, _, as2, _, ok1, h2, fun vs R3 H3 g3 ok3 al => ?_⟩
            exact q (v :: vs) R3 H3 (g1.trans g3) ok3 (.cons r1.1 al)
          · cases z
theorem pr_give (ha : PE X e (tF X.K F)) (hs : starEach [e] X.env = (false, eval e X.env) :: starEach [] X.env) : PA X [e] (tR X.K (frGive F)) :=
  pa_imp (pa_cons ha pa_nil hs) fun σ H Q h => by
    obtain ⟨As, vs0, B, R, env, ars, env', ok, z, q⟩ := h
    unfold frGive at z
    cases h1 : F env with
    | none => rw [h1] at z; cases z
    | some y =>
      obtain ⟨d1, k1, e1⟩ := y
      rw [h1] at z
      cases k1 with
      | st => cases d1 <;> cases z
      | fr =>
        cases d1 <;> try (cases z; done)
        cases z
        refine ⟨As, vs0, B, R, env, _, _, _, ok, h1, fun v R1 H1 g1 ok1 r1 => ?_⟩
        obtain ⟨a, vs, ds, e1, e2, h⟩ := r1
        cases e2
        exact q [v] R1 H1 g1 ok1 (.cons ⟨a, vs, e1, h⟩ .nil)
      | pk i =>
        have z : some ([AR.lend i], e1) = some (ars, env') := by
          cases d1 <;> exact z
        cases z
        refine ⟨As, vs0, B, R, env, _, _, _, ok, h1, fun v R1 H1 g1 ok1 r1 => ?_⟩
        exact q [v] R1 H1 g1 ok1 (.cons r1.1 .nil)
end

/-- the callee's slots -/
def mkSlots : List AR → Ev → Option Ev
  | [], _ => some []
  | .val d :: as, env => match mkSlots as env with
    | some ss => some (.pure d :: ss)
    | none => none
  | .lend i :: as, env => match env[i]? with
    | some (.own ds) => if as.all fun | .lend j => i != j | _ => true then match mkSlots as env with
        | some ss => some (.own ds :: ss)
        | none => none
      else none
    | _ => none
  | .give ds :: as, env => match as with
    | [] => some [.own ds]
    | _ => none
/-- what was lent comes back -/
def putBack : List AR → Ev → Ev → Ev
  | [], _, env => env
  | a :: as, ss, env => match ss with
    | [] => env
    | s :: ss => match a with
      | .lend i => putBack as ss (env.set i s)
      | .val _ => putBack as ss env
      | .give _ => putBack as ss env
theorem putBack_len : ∀ (as : List AR) (ss env : Ev), (putBack as ss env).length = env.length
  | [], _, _ => rfl
  | _ :: _, [], _ => rfl
  | .lend i :: as, s :: ss, env => by
    show (putBack as ss (env.set i s)).length = _
    rw [putBack_len as ss, List.length_set]
  | .val d :: as, s :: ss, env => putBack_len as ss env
  | .give d :: as, s :: ss, env => putBack_len as ss env
theorem putBack_get : ∀ (as : List AR) (ss env : Ev) (i : Nat) (s : Slot), (putBack as ss env)[i]? = some s → (env[i]? = some s ∧ ∀ (p : Nat) (t : Slot), as[p]? = some (AR.lend i) → ss[p]? ≠ some t) ∨ ∃ p : Nat, as[p]? = some (AR.lend i) ∧ ss[p]? = some s
  | [], ss, env, i, s, h => .inl ⟨h, fun p t e => by simp at e⟩
  | a :: as, [], env, i, s, h => .inl ⟨h, fun p t e e2 => by simp at e2⟩
  | .lend j :: as, s0 :: ss, env, i, s, h => by
    have h : (putBack as ss (env.set j s0))[i]? = some s := h
    rcases putBack_get as ss _ i s h with ⟨h1, h2⟩ | ⟨p, h1, h2⟩
    · by_cases hij : j = i
      · subst hij
        by_cases hl : j < env.length
        · rw [List.getElem?_set_self hl] at h1
          exact .inr ⟨0, rfl, h1⟩
        · rw [List.getElem?_eq_none (by rw [List.length_set]; omega)] at h1; cases h1
      · rw [List.getElem?_set_ne hij] at h1
        refine .inl ⟨h1, fun p t e => ?_⟩
        cases p with
        | zero => simp at e; exact absurd e hij
        | succ p => simpa using h2 p t (by simpa using e)
    · exact .inr ⟨p + 1, h1, h2⟩
  | .val d :: as, s0 :: ss, env, i, s, h => by
    have h : (putBack as ss env)[i]? = some s := h
    rcases putBack_get as ss env i s h with ⟨h1, h2⟩ | ⟨p, h1, h2⟩
    · refine .inl ⟨h1, fun p t e => ?_⟩
      cases p with
      | zero => simp at e
      | succ p => simpa using h2 p t (by simpa using e)
    · exact .inr ⟨p + 1, h1, h2⟩
  | .give d :: as, s0 :: ss, env, i, s, h => by
    have h : (putBack as ss env)[i]? = some s := h
    rcases putBack_get as ss env i s h with ⟨h1, h2⟩ | ⟨p, h1, h2⟩
    · refine .inl ⟨h1, fun p t e => ?_⟩
      cases p with
      | zero => simp at e
      | succ p => simpa using h2 p t (by simpa using e)
    · exact .inr ⟨p + 1, h1, h2⟩
theorem mkSlots_len : ∀ {as : List AR} {env ss : Ev}, mkSlots as env = some ss → ss.length = as.length
  | [], env, ss, h => by cases h; rfl
  | .val d :: as, env, ss, h => by
    unfold mkSlots at h
    cases h1 : mkSlots as env with
    | none => rw [h1] at h; cases h
    | some s1 => rw [h1] at h; cases h; simp [mkSlots_len h1]
  | .lend i :: as, env, ss, h => by
    unfold mkSlots at h
    split at h
    · split at h
      · cases h1 : mkSlots as env with
        | none => rw [h1] at h; cases h
        | some s1 => rw [h1] at h; cases h; simp [mkSlots_len h1]
      · cases h
    · cases h
  | .give ds :: as, env, ss, h => by
    unfold mkSlots at h
    cases as with
    | nil => cases h; rfl
    | cons _ _ => cases h
/-- how a slot came -/
theorem mkSlots_get : ∀ {as : List AR} {env ss : Ev} {p : Nat} {s : Slot}, mkSlots as env = some ss → ss[p]? = some s →
    (∃ d, as[p]? = some (.val d) ∧ s = .pure d) ∨ (∃ i ds, as[p]? = some (.lend i) ∧ env[i]? = some (.own ds) ∧ s = .own ds) ∨ ∃ ds, as[p]? = some (.give ds) ∧ s = .own ds
  | [], env, ss, p, s, h, e => by cases h; simp at e
  | .val d :: as, env, ss, p, s, h, e => by
    unfold mkSlots at h
    cases h1 : mkSlots as env with
    | none => rw [h1] at h; cases h
    | some s1 =>
      rw [h1] at h; cases h
      cases p with
      | zero => simp at e; exact .inl ⟨d, rfl, e.symm⟩
      | succ p => simpa using mkSlots_get (p := p) h1 (by simpa using e)
  | .lend i :: as, env, ss, p, s, h, e => by
    unfold mkSlots at h
    split at h
    · rename_i ds hi
      split at h
      · cases h1 : mkSlots as env with
        | none => rw [h1] at h; cases h
        | some s1 =>
          rw [h1] at h; cases h
          cases p with
          | zero => simp at e; exact .inr (.inl ⟨i, ds, rfl, hi, e.symm⟩)
          | succ p => simpa using mkSlots_get (p := p) h1 (by simpa using e)
      · cases h
    · cases h
  | .give ds :: as, env, ss, p, s, h, e => by
    unfold mkSlots at h
    cases as with
    | nil =>
      cases h
      cases p with
      | zero => simp at e; exact .inr (.inr ⟨ds, rfl, e.symm⟩)
      | succ p => simp at e
    | cons _ _ => cases h
theorem mkSlots_lend : ∀ {as : List AR} {env ss : Ev} {p q i : Nat}, mkSlots as env = some ss → as[p]? = some (.lend i) → as[q]? = some (.lend i) → p = q
  | [], env, ss, p, q, i, h, e1, e2 => by simp at e1
  | .val d :: as, env, ss, p, q, i, h, e1, e2 => by
    unfold mkSlots at h
    cases h1 : mkSlots as env with
    | none => rw [h1] at h; cases h
    | some s1 =>
      cases p with
      | zero => simp at e1
      | succ p =>
        cases q with
        | zero => simp at e2
        | succ q => exact congrArg (· + 1) (mkSlots_lend (p := p) (q := q) h1 (by simpa using e1) (by simpa using e2))
  | .lend j :: as, env, ss, p, q, i, h, e1, e2 => by
    unfold mkSlots at h
    split at h
    · split at h
      · rename_i ds hi ha
        have hn : ∀ (r : Nat), as[r]? = some (AR.lend j) → False := fun r er => by
          have := List.all_eq_true.mp ha _ (List.mem_of_getElem? er)
          simp at this
        cases h1 : mkSlots as env with
        | none => rw [h1] at h; cases h
        | some s1 =>
          cases p with
          | zero =>
            simp at e1
            subst e1
            cases q with
            | zero => rfl
            | succ q => exact (hn q (by simpa using e2)).elim
          | succ p =>
            cases q with
            | zero =>
              simp at e2
              subst e2
              exact (hn p (by simpa using e1)).elim
            | succ q => exact congrArg (· + 1) (mkSlots_lend (p := p) (q := q) h1 (by simpa using e1) (by simpa using e2))
      · cases h
    · cases h
  | .give ds :: as, env, ss, p, q, i, h, e1, e2 => by
    unfold mkSlots at h
    cases as with
    | nil =>
      cases p with
      | zero => simp at e1
      | succ p => simp at e1
    | cons _ _ => cases h
theorem mkSlots_give : ∀ {as : List AR} {env ss : Ev} {p q : Nat} {ds es : List D}, mkSlots as env = some ss → as[p]? = some (.give ds) → as[q]? = some (.give es) → p = q
  | [], env, ss, p, q, ds, es, h, e1, e2 => by simp at e1
  | .val d :: as, env, ss, p, q, ds, es, h, e1, e2 => by
    unfold mkSlots at h
    cases h1 : mkSlots as env with
    | none => rw [h1] at h; cases h
    | some s1 =>
      cases p with
      | zero => simp at e1
      | succ p =>
        cases q with
        | zero => simp at e2
        | succ q => exact congrArg (· + 1) (mkSlots_give (p := p) (q := q) h1 (by simpa using e1) (by simpa using e2))
  | .lend j :: as, env, ss, p, q, ds, es, h, e1, e2 => by
    unfold mkSlots at h
    split at h
    · split at h
      · cases h1 : mkSlots as env with
        | none => rw [h1] at h; cases h
        | some s1 =>
          cases p with
          | zero => simp at e1
          | succ p =>
            cases q with
            | zero => simp at e2
            | succ q => exact congrArg (· + 1) (mkSlots_give (p := p) (q := q) h1 (by simpa using e1) (by simpa using e2))
      · cases h
    · cases h
  | .give ds' :: as, env, ss, p, q, ds, es, h, e1, e2 => by
    unfold mkSlots at h
    cases as with
    | nil =>
      cases p with
      | zero => cases q with
        | zero => rfl
        | succ q => simp at e2
      | succ p => simp at e1
    | cons _ _ => cases h

/-- what a def does to data: its parameters' slots, behind it -/
abbrev FS := Ev → Option (D × Bool × Ev)
def kd (fr : Bool) : Kd := if fr then .fr else .st
def spD (K : PySem.W.Frag) (F : FS) : Sp := fun vs H Q _ => ∃ B R ss r fr ss', Ok K [] [] B R H (vs.map some) ss ∧ F ss = some (r, fr, ss') ∧
  ∀ v R' H', Grow B R R' → Ok K [] [] B R' H' (vs.map some) ss' → ResOk K B R' H' (vs.map some) ss' v r (kd fr) → Q v H'
def fCall (F : FS) (G : FR) : FE := fun env => match G env with
  | some (as, e1) => match mkSlots as e1 with
    | some ss => match F ss with
      | some (r, fr, ss') => if ss'.length == ss.length then some (r, kd fr, putBack as ss' e1) else none
      | none => none
    | none => none
  | none => none
theorem call_post {K : PySem.W.Frag} {As : List Nat} {vs0 : List V} {B R H : Hp} {σ : L2.St} {env : Ev} {vs : List V} {as : List AR} {ss : Ev} {F : FS} {Q : VK} {r : D} {fr : Bool} {ss' : Ev} {E : XK}
    (ok : Ok K As vs0 B R H σ env) (al : All2 (ARok K B R H σ env) vs as) (hm : mkSlots as env = some ss) (hf : F ss = some (r, fr, ss')) (hl : ss'.length = ss.length)
    (q : ∀ v R' H', Grow B R R' → Ok K As vs0 B R' H' σ (putBack as ss' env) → ResOk K B R' H' σ (putBack as ss' env) v r (kd fr) → Q v H') : spD K F vs H Q E := by
  classical
  have hlen : vs.length = as.length := al.len
  have hsl := mkSlots_len hm
  -- the lists that are lent or given
  let Own : Addr → Prop := fun b => ∃ (p : Nat) (ds : List D), ss[p]? = some (Slot.own ds) ∧ vs[p]? = some (V.ref b)
  let Bc : Hp := fun b => if Own b ∨ ∃ ps, H b = some (.tbl ps) then none else H b
  have hB : ∀ b, Own b → B b = none ∧ R b = none ∧ ∃ (p : Nat) (ds : List D) (ws : List V), ss[p]? = some (Slot.own ds) ∧ vs[p]? = some (V.ref b) ∧ H b = some (.lst ws) ∧ DpAll K R ws ds := by
    rintro b ⟨p, ds, h1, h2⟩
    rcases mkSlots_get hm h1 with ⟨d, _, e⟩ | ⟨i, ds', h3, h4, e⟩ | ⟨ds', h3, e⟩
    · cases e
    · cases e
      obtain ⟨v, hv, hσ⟩ := al.get h3
      rw [h2] at hv; cases hv
      have hσ : σ[i]? = some (some (.ref b)) := hσ
      obtain ⟨a, ws, e1, g1, g2, g3, g4⟩ := ok.sl i _ h4
      rw [hσ] at e1
      have : b = a := by simpa using e1
      subst this
      exact ⟨g4, g3, p, ds, ws, h1, h2, g1, g2⟩
    · cases e
      obtain ⟨v, hv, a, ws, e1, g1, g2, g3, g4, g5⟩ := al.get h3
      rw [h2] at hv; cases hv
      cases e1
      exact ⟨g4, g3, p, ds, ws, h1, h2, g1, g2⟩
  have bcn : ∀ b, Bc b = none → B b = none := fun b h => by
    by_cases z : Own b
    · exact (hB b z).1
    · by_cases t : ∃ ps, H b = some (.tbl ps)
      · obtain ⟨ps, t⟩ := t
        cases e : B b with
        | none => rfl
        | some o =>
          have nt : ∀ ps, o ≠ .tbl ps := fun ps q => ok.nb b ps (by rw [e, q])
          have := ok.bh.1 b o nt e
          rw [t] at this
          exact absurd (Option.some.inj this).symm (nt ps)
      · have : H b = none := by
          have h' : (if Own b ∨ ∃ ps, H b = some (.tbl ps) then none else H b) = none := h
          rwa [if_neg (not_or.mpr ⟨z, t⟩)] at h'
        exact le_none ok.bh this
  have bnt : NT Bc := fun b ps h => by
    have h' : (if Own b ∨ ∃ ps, H b = some (.tbl ps) then none else H b) = some (.tbl ps) := h
    by_cases z : Own b ∨ ∃ ps, H b = some (.tbl ps)
    · rw [if_pos z] at h'; cases h'
    · rw [if_neg z] at h'; exact z (.inr ⟨ps, h'⟩)
  have bch : Le Bc H := ⟨fun b o _ h => by
    have h' : (if Own b ∨ ∃ ps, H b = some (.tbl ps) then none else H b) = some o := h
    by_cases z : Own b ∨ ∃ ps, H b = some (.tbl ps)
    · rw [if_pos z] at h'; cases h'
    · rwa [if_neg z] at h', fun b h => by
    show (if Own b ∨ ∃ ps, H b = some (.tbl ps) then none else H b) = none
    split
    · rfl
    · exact h⟩
  -- a list of the frame's own that is not lent
  have apart : ∀ (i : Nat) (ds : List D) (b : Addr), env[i]? = some (.own ds) → σ[i]? = some (some (.ref b)) → (∀ (p : Nat), as[p]? ≠ some (AR.lend i)) → ¬ Own b := by
    rintro i ds b h1 h2 h3 ⟨p, es, h4, h5⟩
    rcases mkSlots_get hm h4 with ⟨d, _, e⟩ | ⟨j, ds', h6, h7, e⟩ | ⟨ds', h6, e⟩
    · cases e
    · obtain ⟨v, hv, hσ⟩ := al.get h6
      rw [h5] at hv; cases hv
      have hσ : σ[j]? = some (some (.ref b)) := hσ
      have : i = j := ok.ap i j ds ds' b h1 h7 h2 hσ
      subst this
      exact h3 p h6
    · obtain ⟨v, hv, a, ws, e1, g1, g2, g3, g4, g5⟩ := al.get h6
      rw [h5] at hv; cases hv
      cases e1
      exact g5 i ds h1 h2
  have vget : ∀ (p : Nat), (vs.map some)[p]? = (vs[p]?).map some := fun p => by rw [List.getElem?_map]
  have okc : Ok K [] [] Bc R H (vs.map some) ss := by
    refine ⟨by rw [List.length_map, hlen, hsl], ok.rh, bch, fun p s hs => ?_, fun p p' ds es b h1 h2 e1 e2 => ?_, fun i v h => by simp at h, fun p p' ds es b h1 h2 e1 e2 => ?_, ok.tb, ok.nt, bnt⟩
    · rcases mkSlots_get hm hs with ⟨d, h3, e⟩ | ⟨i, ds, h3, h4, e⟩ | ⟨ds, h3, e⟩
      · subst e
        obtain ⟨v, hv, dp⟩ := al.get h3
        exact ⟨v, by rw [vget, hv]; rfl, dp⟩
      · subst e
        obtain ⟨v, hv, hσ⟩ := al.get h3
        have hσ : σ[i]? = some (some v) := hσ
        obtain ⟨a, ws, e1, g1, g2, g3, g4⟩ := ok.sl i _ h4
        rw [hσ] at e1
        have e1 : v = .ref a := by simpa using e1
        subst e1
        exact ⟨a, ws, by rw [vget, hv]; rfl, g1, g2, g3, if_pos (.inl ⟨p, ds, hs, hv⟩)⟩
      · subst e
        obtain ⟨v, hv, a, ws, e1, g1, g2, g3, g4, g5⟩ := al.get h3
        subst e1
        exact ⟨a, ws, by rw [vget, hv]; rfl, g1, g2, g3, if_pos (.inl ⟨p, ds, hs, hv⟩)⟩
    · rw [vget] at e1 e2
      obtain ⟨v1, w1, z1⟩ := Option.map_eq_some_iff.mp e1
      obtain ⟨v2, w2, z2⟩ := Option.map_eq_some_iff.mp e2
      cases z1; cases z2
      rcases mkSlots_get hm h1 with ⟨d, _, e⟩ | ⟨i, ds1, h3, h4, e⟩ | ⟨ds1, h3, e⟩
      · cases e
      · rcases mkSlots_get hm h2 with ⟨d, _, e'⟩ | ⟨j, ds2, h5, h6, e'⟩ | ⟨ds2, h5, e'⟩
        · cases e'
        · obtain ⟨u1, hu1, s1⟩ := al.get h3
          obtain ⟨u2, hu2, s2⟩ := al.get h5
          rw [w1] at hu1; cases hu1
          rw [w2] at hu2; cases hu2
          have s1 : σ[i]? = some (some (.ref b)) := s1
          have s2 : σ[j]? = some (some (.ref b)) := s2
          have : i = j := ok.ap i j ds1 ds2 b h4 h6 s1 s2
          subst this
          exact mkSlots_lend hm h3 h5
        · obtain ⟨u1, hu1, s1⟩ := al.get h3
          obtain ⟨u2, hu2, a, ws, e3, g1, g2, g3, g4, g5⟩ := al.get h5
          rw [w1] at hu1; cases hu1
          rw [w2] at hu2; cases hu2
          cases e3
          exact (g5 i ds1 h4 s1).elim
      · rcases mkSlots_get hm h2 with ⟨d, _, e'⟩ | ⟨j, ds2, h5, h6, e'⟩ | ⟨ds2, h5, e'⟩
        · cases e'
        · obtain ⟨u1, hu1, a, ws, e3, g1, g2, g3, g4, g5⟩ := al.get h3
          obtain ⟨u2, hu2, s2⟩ := al.get h5
          rw [w1] at hu1; cases hu1
          rw [w2] at hu2; cases hu2
          cases e3
          exact (g5 j ds2 h6 s2).elim
        · exact mkSlots_give hm h3 h5
    · rcases mkSlots_get hm h1 with ⟨d, _, e⟩ | ⟨i, ds1, h3, h4, e⟩ | ⟨ds1, h3, e⟩ <;> cases e
  refine ⟨Bc, R, ss, r, fr, ss', okc, hf, fun v R' H' g ok' res => ?_⟩
  have g' : Grow B R R' := ⟨g.1, fun a o e => by
    rcases g.2 a o e with e | e
    · exact .inl e
    · exact .inr (bcn a e)⟩
  have hl2 : ss'.length = as.length := by rw [hl, hsl]
  have bnl : ∀ b, Bc b ≠ none → R b = none → R' b = none := fun b h1 h2 => by
    cases e : R' b with
    | none => rfl
    | some o =>
      rcases g.2 b o e with e' | e'
      · rw [h2] at e'; cases e'
      · exact absurd e' h1
  -- a dict of the frame's own
  have dapart : ∀ (b : Addr) (us : List (L2.Key × V)), H b = some (.dK us) → Bc b = some (.dK us) := fun b us h => by
    show (if Own b ∨ ∃ ps, H b = some (.tbl ps) then none else H b) = _
    rw [if_neg (fun z => by
      rcases z with z | ⟨ps, z⟩
      · obtain ⟨_, _, _, _, ws, _, _, h2, _⟩ := hB b z; rw [h] at h2; cases h2
      · rw [h] at z; cases z)]
    exact h
  -- own slots behind the call were own slots ahead of it
  have was : ∀ (i : Nat) (ds : List D), (putBack as ss' env)[i]? = some (.own ds) → ∃ ds0, env[i]? = some (.own ds0) := fun i ds h => by
    rcases putBack_get as ss' env i _ h with ⟨h1, _⟩ | ⟨p, h1, h2⟩
    · exact ⟨ds, h1⟩
    · have hp : p < ss.length := by rw [hsl]; exact (List.getElem?_eq_some_iff.mp h1).1
      rcases mkSlots_get hm (List.getElem?_eq_getElem hp) with ⟨d, h3, e⟩ | ⟨j, ds2, h3, h4, e⟩ | ⟨ds2, h3, e⟩
      · rw [h1] at h3; cases h3
      · rw [h1] at h3; cases h3; exact ⟨ds2, h4⟩
      · rw [h1] at h3; cases h3
  have okn : Ok K As vs0 B R' H' σ (putBack as ss' env) := by
    refine ⟨by rw [putBack_len]; exact ok.len, ok'.rh, ⟨fun b o n h => ?_, fun b h => bcn b (ok'.bh.2 b h)⟩, fun i s hs => ?_, fun i j ds es b h1 h2 e1 e2 => ?_, ok.ar, fun i j ds es b h1 h2 e1 e2 => ?_, ok'.tb, ok'.nt, ok.nb⟩
    · refine ok'.bh.1 b o n ?_
      show (if Own b ∨ ∃ ps, H b = some (.tbl ps) then none else H b) = some o
      rw [if_neg (fun z => by
        rcases z with z | ⟨ps, z⟩
        · rw [(hB b z).1] at h; cases h
        · have := ok.bh.1 b o n h
          rw [z] at this
          exact n ps (Option.some.inj this).symm)]
      exact ok.bh.1 b o n h
    · rcases putBack_get as ss' env i s hs with ⟨h1, h2⟩ | ⟨p, h1, h2⟩
      · have nl : ∀ (p : Nat), as[p]? ≠ some (AR.lend i) := fun p e => by
          have hp : p < ss'.length := by rw [hl2]; exact (List.getElem?_eq_some_iff.mp e).1
          exact h2 p _ e (List.getElem?_eq_getElem hp)
        have o := ok.sl i s h1
        cases s with
        | emp => trivial
        | pure d => obtain ⟨v, e, h⟩ := o; exact ⟨v, e, dp_le g.1 _ h⟩
        | own ds =>
          obtain ⟨a, ws, e, q1, q2, q3, q4⟩ := o
          have no := apart i ds a h1 e nl
          have bc : Bc a = some (.lst ws) := by
            show (if Own a ∨ ∃ ps, H a = some (.tbl ps) then none else H a) = _
            rw [if_neg (fun z => z.elim no fun ⟨ps, z⟩ => by rw [q1] at z; cases z)]; exact q1
          exact ⟨a, ws, e, ok'.bh.lst bc, dpAll_le g.1 _ q2, bnl a (by rw [bc]; exact fun z => by cases z) q3, q4⟩
        | dct ds =>
          obtain ⟨a, ws, e, q1, q2, q3, q4⟩ := o
          have bc := dapart a ws q1
          exact ⟨a, ws, e, ok'.bh.dK bc, dpKV_le g.1 q2, bnl a (by rw [bc]; exact fun z => by cases z) q3, q4⟩
      · obtain ⟨v, hv, hσ⟩ := al.get h1
        have hσ : σ[i]? = some (some v) := hσ
        have o := ok'.sl p s h2
        cases s with
        | emp => trivial
        | pure d =>
          obtain ⟨v', e, h⟩ := o
          rw [vget, hv] at e
          have : v = v' := by simpa using e
          subst this
          exact ⟨v, hσ, h⟩
        | own ds =>
          obtain ⟨a, ws, e, q1, q2, q3, q4⟩ := o
          rw [vget, hv] at e
          have : v = .ref a := by simpa using e
          subst this
          exact ⟨a, ws, hσ, q1, q2, q3, bcn a q4⟩
        | dct ds =>
          obtain ⟨a, ws, e, q1, q2, q3, q4⟩ := o
          rw [vget, hv] at e
          have : v = .ref a := by simpa using e
          subst this
          exact ⟨a, ws, hσ, q1, q2, q3, bcn a q4⟩
    · obtain ⟨ds0, z1⟩ := was i ds h1
      obtain ⟨es0, z2⟩ := was j es h2
      exact ok.ap i j ds0 es0 b z1 z2 e1 e2
    · -- dicts: those that stood there, or what a callee made of a list that was lent
      have dw : ∀ (i : Nat) (ds : List (L2.Key × D)), (putBack as ss' env)[i]? = some (.dct ds) → env[i]? = some (.dct ds) ∨ ∃ ds0, env[i]? = some (.own ds0) := fun i ds h => by
        rcases putBack_get as ss' env i _ h with ⟨h1, _⟩ | ⟨p, h1, h2⟩
        · exact .inl h1
        · have hp : p < ss.length := by rw [hsl]; exact (List.getElem?_eq_some_iff.mp h1).1
          rcases mkSlots_get hm (List.getElem?_eq_getElem hp) with ⟨d, h3, e⟩ | ⟨j, ds2, h3, h4, e⟩ | ⟨ds2, h3, e⟩
          · rw [h1] at h3; cases h3
          · rw [h1] at h3; cases h3; exact .inr ⟨ds2, h4⟩
          · rw [h1] at h3; cases h3
      have lstd : ∀ (i j : Nat) (ds0 : List D) (es : List (L2.Key × D)), env[i]? = some (.own ds0) → env[j]? = some (.dct es) → σ[i]? = some (some (.ref b)) → σ[j]? = some (some (.ref b)) → False := fun i j ds0 es z1 z2 e1 e2 => by
        obtain ⟨a1, w1, f1, g1, _⟩ := ok.sl i _ z1
        obtain ⟨a2, w2, f2, g2, _⟩ := ok.sl j _ z2
        rw [e1] at f1; rw [e2] at f2
        have x1 : b = a1 := by simpa using f1
        have x2 : b = a2 := by simpa using f2
        subst x1; subst x2
        rw [g1] at g2; cases g2
      rcases dw i ds h1 with z1 | ⟨ds0, z1⟩
      · rcases dw j es h2 with z2 | ⟨es0, z2⟩
        · exact ok.ad i j ds es b z1 z2 e1 e2
        · exact (lstd j i _ _ z2 z1 e2 e1).elim
      · rcases dw j es h2 with z2 | ⟨es0, z2⟩
        · exact (lstd i j _ _ z1 z2 e1 e2).elim
        · exact ok.ap i j ds0 es0 b z1 z2 e1 e2
  refine q v R' H' g' okn ?_
  cases fr with
  | false => exact res
  | true =>
    obtain ⟨a, ws, ds, e, e2, q1, q2, q3, q4, q5⟩ := res
    refine ⟨a, ws, ds, e, e2, q1, q2, q3, bcn a q4, fun i es h1 h2 => ?_⟩
    rcases putBack_get as ss' env i _ h1 with ⟨h3, h4⟩ | ⟨p, h3, h4⟩
    · have nl : ∀ (p : Nat), as[p]? ≠ some (AR.lend i) := fun p e => by
        have hp : p < ss'.length := by rw [hl2]; exact (List.getElem?_eq_some_iff.mp e).1
        exact h4 p _ e (List.getElem?_eq_getElem hp)
      have no := apart i es a h3 h2 nl
      obtain ⟨b, us, e3, z1, _⟩ := ok.sl i _ h3
      rw [h2] at e3
      have : a = b := by simpa using e3
      subst this
      have bc : Bc a = some (.lst us) := by
        show (if Own a ∨ ∃ ps, H a = some (.tbl ps) then none else H a) = _
        rw [if_neg (fun z => z.elim no fun ⟨ps, z⟩ => by rw [z1] at z; cases z)]; exact z1
      rw [q4] at bc; cases bc
    · obtain ⟨v', hv, hσ⟩ := al.get h3
      have hσ : σ[i]? = some (some v') := hσ
      rw [h2] at hσ
      have : v' = .ref a := by simpa using hσ.symm
      subst this
      exact q5 p es h4 (by rw [vget, hv]; rfl)
section
variable {X : Cx} {k : Nat} {f : Addr} {fd : FuncData} {ps : List Str} {x : Str} {p pos : Pos} {e : Expr} {es : List Expr} {F : FS} {G : FR}
theorem spD_nil {K : PySem.W.Frag} {vs : List V} {H : Hp} {Q : VK} {E : XK} (h : spD K F vs H Q E) : spD K F (vs ++ []) H Q E := by rwa [List.append_nil]
theorem use_call {K : PySem.W.Frag} {σ : L2.St} {H : Hp} {Q : VK} (h : tF K (fCall F G) σ H Q) : tCall (spD K F) [] E0 (tR K G) σ H Q := by
  obtain ⟨As, vs0, B, R, env, d, k, env', ok, z, q⟩ := h
  unfold fCall at z
  cases h1 : G env with
  | none => rw [h1] at z; cases z
  | some y =>
    obtain ⟨as, e1⟩ := y
    rw [h1] at z
    dsimp only at z
    cases h2 : mkSlots as e1 with
    | none => rw [h2] at z; cases z
    | some ss =>
      rw [h2] at z
      dsimp only at z
      cases h3 : F ss with
      | none => rw [h3] at z; cases z
      | some y3 =>
        obtain ⟨r, fr, ss'⟩ := y3
        rw [h3] at z
        dsimp only at z
        split at z
        · rename_i hl
          cases z
          refine ⟨As, vs0, B, R, env, as, e1, ok, h1, fun vs R1 H1 g1 ok1 al => spD_nil ?_⟩
          exact call_post ok1 al h2 h3 (by simpa using hl) fun v R2 H2 g2 => q v R2 H2 (g1.trans g2)
        · cases z
theorem pe_callD (Fn : FnOk X.prog X.w X.K X.mg X.base (L2.CX X.prog X.w) k f fd ps (spD X.K F)) (hr : Room k X.A) (hg : Gl X x) (hm : X.mg x = some (.ref f)) (hk : PySem.W.keepIn X.K (.ref f) = true) (hb : Binds X.K fd ps [])
    (ha : PA X (e :: es) (tR X.K G)) (hdb : (x == ("__debug__" : Str)) = false) (he : starEach (e :: es) X.env = (false, eval e X.env) :: starEach es X.env) (hpl : (backTo pos (starEach es X.env)).any (·.1) = false) :
    PE X (.Call (.Name x p) (e :: es) [] pos) (tF X.K (fCall F G)) := pe_imp (pe_call Fn hr hg hm hk hb .nil passL ha hdb he hpl) fun σ H Q h => use_call h
theorem pe_call0D (Fn : FnOk X.prog X.w X.K X.mg X.base (L2.CX X.prog X.w) k f fd ps (spD X.K F)) (hr : Room k X.A) (hg : Gl X x) (hm : X.mg x = some (.ref f)) (hk : PySem.W.keepIn X.K (.ref f) = true) (hb : Binds X.K fd ps [])
    (hdb : (x == ("__debug__" : Str)) = false) : PE X (.Call (.Name x p) [] [] pos) (tF X.K (fCall F frNil)) := pe_imp (pe_call0 Fn hr hg hm hk hb .nil passL hdb) fun σ H Q h => by
  have h' := use_call h
  obtain ⟨As, vs0, B, R, env, as, e1, ok, h1, q⟩ := h'
  cases h1
  exact q [] R H (.refl _ _) ok .nil
end
end Pt

namespace Pt
open PySem PySem.Spec PyProof.Rows L2
variable [Tb]

inductive Out where
  | nx (e : Ev) | rt (d : D) (fr : Bool) (e : Ev) | bk (e : Ev) | ct (e : Ev)
abbrev FG := Ev → Option Out
def OutOk (K : PySem.W.Frag) (As : List Nat) (vs0 : List V) (B R : Hp) (D : Ends) : Out → Prop
  | .nx env' => ∀ σ' R' H', Grow B R R' → Ok K As vs0 B R' H' σ' env' → D.nx σ' H'
  | .rt d fr env' => ∀ v σ' R' H', Grow B R R' → Ok K As vs0 B R' H' σ' env' → ResOk K B R' H' σ' env' v d (kd fr) → D.rt v H'
  | .bk env' => ∀ σ' R' H', Grow B R R' → Ok K As vs0 B R' H' σ' env' → D.bk σ' H'
  | .ct env' => ∀ σ' R' H', Grow B R R' → Ok K As vs0 B R' H' σ' env' → D.ct σ' H'
def tG (K : PySem.W.Frag) (As : List Nat) (np : Nat) (G : FG) : TS := fun D σ H => ∃ vs0 B R env out, vs0.length = np ∧ Ok K As vs0 B R H σ env ∧ G env = some out ∧ OutOk K As vs0 B R D out
section
variable {K : PySem.W.Frag} {As : List Nat} {vs0 : List V} {B R R' H H' : Hp} {σ : L2.St} {env env' : Ev} {v : V} {d : D} {k : Kd} {a : Addr} {Dn : Ends} {out : Out}
theorem OutOk.grow (g : Grow B R R') (h : OutOk K As vs0 B R Dn out) : OutOk K As vs0 B R' Dn out := by
  cases out with
  | nx e => exact fun σ' R2 H2 g2 => h σ' R2 H2 (g.trans g2)
  | bk e => exact fun σ' R2 H2 g2 => h σ' R2 H2 (g.trans g2)
  | ct e => exact fun σ' R2 H2 g2 => h σ' R2 H2 (g.trans g2)
  | rt d f e => exact fun v σ' R2 H2 g2 => h v σ' R2 H2 (g.trans g2)
/-- slot i gets v -/
theorem Ok.put {s : Slot} (ok : Ok K As vs0 B R H σ env) (i : Nat) (hs : SlotOk K B R H (some (some v)) s) (hf : ∀ ds, s = .own ds → ∀ a, v = .ref a → Free σ env a) (hi : vs0.length ≤ i ∨ i ∈ As) (hfd : ∀ ds, s = .dct ds → ∀ a, v = .ref a → ∀ (j : Nat) (es : List (L2.Key × D)), env[j]? = some (.dct es) → σ[j]? ≠ some (some (.ref a)) := by intro _ z; cases z) :
    Ok K As vs0 B R H (σ.set i (some v)) (env.set i s) := by
  have hl := ok.len
  refine ⟨by rw [List.length_set, List.length_set]; exact hl, ok.rh, ok.bh, fun j t ht => ?_, fun j l ds es b h1 h2 e1 e2 => ?_, fun j u hu hj => ?_, fun j l ds es b h1 h2 e1 e2 => ?_, ok.tb, ok.nt, ok.nb⟩
  · by_cases z : i = j
    · subst z
      by_cases hlt : i < env.length
      · rw [List.getElem?_set_self hlt] at ht; cases ht
        rw [List.getElem?_set_self (by rw [hl]; exact hlt)]
        exact hs
      · rw [List.getElem?_eq_none (by rw [List.length_set]; omega)] at ht; cases ht
    · rw [List.getElem?_set_ne z] at ht
      rw [List.getElem?_set_ne z]
      exact ok.sl j t ht
  · have aux : ∀ (j : Nat) (ds : List D), (env.set i s)[j]? = some (.own ds) → (σ.set i (some v))[j]? = some (some (V.ref b)) → (j = i ∧ s = .own ds ∧ v = .ref b) ∨ (j ≠ i ∧ env[j]? = some (.own ds) ∧ σ[j]? = some (some (V.ref b))) := fun j ds h e => by
      by_cases z : i = j
      · subst z
        by_cases hlt : i < env.length
        · rw [List.getElem?_set_self hlt] at h
          rw [List.getElem?_set_self (by rw [hl]; exact hlt)] at e
          exact .inl ⟨rfl, Option.some.inj h, Option.some.inj (Option.some.inj e)⟩
        · rw [List.getElem?_eq_none (by rw [List.length_set]; omega)] at h; cases h
      · rw [List.getElem?_set_ne z] at h e
        exact .inr ⟨fun q => z q.symm, h, e⟩
    rcases aux j ds h1 e1 with ⟨a1, a2, a3⟩ | ⟨a1, a2, a3⟩
    · rcases aux l es h2 e2 with ⟨b1, b2, b3⟩ | ⟨b1, b2, b3⟩
      · rw [a1, b1]
      · exact (hf ds a2 b a3 l es b2 b3).elim
    · rcases aux l es h2 e2 with ⟨b1, b2, b3⟩ | ⟨b1, b2, b3⟩
      · exact (hf es b2 b b3 j ds a2 a3).elim
      · exact ok.ap j l ds es b a2 b2 a3 b3
  · have : i ≠ j := fun z => by
      subst z
      rcases hi with hi | hi
      · have := (List.getElem?_eq_some_iff.mp hu).1
        omega
      · exact hj hi
    rw [List.getElem?_set_ne this]
    exact ok.ar j u hu hj
  · have aux : ∀ (j : Nat) (ds : List (L2.Key × D)), (env.set i s)[j]? = some (.dct ds) → (σ.set i (some v))[j]? = some (some (V.ref b)) → (j = i ∧ s = .dct ds ∧ v = .ref b) ∨ (j ≠ i ∧ env[j]? = some (.dct ds) ∧ σ[j]? = some (some (V.ref b))) := fun j ds h e => by
      by_cases z : i = j
      · subst z
        by_cases hlt : i < env.length
        · rw [List.getElem?_set_self hlt] at h
          rw [List.getElem?_set_self (by rw [hl]; exact hlt)] at e
          exact .inl ⟨rfl, Option.some.inj h, Option.some.inj (Option.some.inj e)⟩
        · rw [List.getElem?_eq_none (by rw [List.length_set]; omega)] at h; cases h
      · rw [List.getElem?_set_ne z] at h e
        exact .inr ⟨fun q => z q.symm, h, e⟩
    rcases aux j ds h1 e1 with ⟨a1, a2, a3⟩ | ⟨a1, a2, a3⟩
    · rcases aux l es h2 e2 with ⟨b1, b2, b3⟩ | ⟨b1, b2, b3⟩
      · rw [a1, b1]
      · exact (hfd ds a2 b a3 l es b2 b3).elim
    · rcases aux l es h2 e2 with ⟨b1, b2, b3⟩ | ⟨b1, b2, b3⟩
      · exact (hfd es b2 b b3 j ds a2 a3).elim
      · exact ok.ad j l ds es b a2 b2 a3 b3
/-- the list that slot i owns is changed -/
theorem Ok.write {i : Nat} {ds0 ds : List D} {vs : List V} (ok : Ok K As vs0 B R H σ env) (hi : env[i]? = some (.own ds0)) (hv : σ[i]? = some (some (.ref a))) (hd : DpAll K R vs ds) :
    Ok K As vs0 B R (upd H a (.lst vs)) σ (env.set i (.own ds)) := by
  obtain ⟨b, ws, e, h1, h2, h3, h4⟩ := ok.sl i _ hi
  rw [hv] at e
  have : a = b := by simpa using e
  subst this
  have hlt : i < env.length := (List.getElem?_eq_some_iff.mp hi).1
  have hne : ∀ {G : Hp}, Le G H → G a = none → Le G (upd H a (.lst vs)) := fun {G} l n => ⟨fun b u k e => by rw [upd_ne (ne_of_none e n)]; exact l.1 b u k e, fun b e => by
    by_cases z : b = a
    · subst z; exact n
    · rw [upd_ne z] at e; exact l.2 b e⟩
  refine ⟨by rw [List.length_set]; exact ok.len, hne ok.rh h3, hne ok.bh h4, fun j t ht => ?_, fun j l ds1 es1 b g1 g2 e1 e2 => ?_, ok.ar, fun j l ds1 es1 b g1 g2 e1 e2 => ?_, tabs_upd ok.tb (.inr (.inl ⟨_, h1⟩)), ok.nt, ok.nb⟩
  · by_cases z : i = j
    · subst z
      rw [List.getElem?_set_self hlt] at ht; cases ht
      exact ⟨a, vs, hv, upd_same, hd, h3, h4⟩
    · rw [List.getElem?_set_ne z] at ht
      have o := ok.sl j t ht
      cases t with
      | emp => trivial
      | pure d => exact o
      | own es =>
        obtain ⟨b, us, e9, q1, q2, q3, q4⟩ := o
        have : b ≠ a := fun w => z (ok.ap i j ds0 es a hi ht hv (by rw [← w]; exact e9))
        exact ⟨b, us, e9, by rw [upd_ne this]; exact q1, q2, q3, q4⟩
      | dct es =>
        obtain ⟨b, us, e9, q1, q2, q3, q4⟩ := o
        have : b ≠ a := fun w => by subst w; rw [h1] at q1; cases q1
        exact ⟨b, us, e9, by rw [upd_ne this]; exact q1, q2, q3, q4⟩
  · have aux : ∀ (j : Nat) (es : List D), (env.set i (.own ds))[j]? = some (.own es) → ∃ es0, env[j]? = some (.own es0) := fun j es h => by
      by_cases z : i = j
      · subst z; exact ⟨ds0, hi⟩
      · rw [List.getElem?_set_ne z] at h; exact ⟨es, h⟩
    obtain ⟨x1, y1⟩ := aux j ds1 g1
    obtain ⟨x2, y2⟩ := aux l es1 g2
    exact ok.ap j l x1 x2 b y1 y2 e1 e2
  · have aux : ∀ (j : Nat) (es : List (L2.Key × D)), (env.set i (.own ds))[j]? = some (.dct es) → env[j]? = some (.dct es) := fun j es h => by
      by_cases z : i = j
      · subst z
        rw [List.getElem?_set_self hlt] at h; cases h
      · rw [List.getElem?_set_ne z] at h; exact h
    exact ok.ad j l ds1 es1 b (aux j ds1 g1) (aux l es1 g2) e1 e2
end

/-! ### small statements -/
def gSkip : FG := fun env => some (.nx env)
def gNone : FG := fun _ => none
def gSeq (G1 G2 : FG) : FG := fun env => match G1 env with
  | some (.nx e1) => G2 e1
  | some (.rt d f e1) => some (.rt d f e1)
  | some (.bk e1) => some (.bk e1)
  | some (.ct e1) => some (.ct e1)
  | none => none
def gBrk : FG := fun env => some (.bk env)
def gCnt : FG := fun env => some (.ct env)
def gIfS (T : FT) (G1 G2 : FG) : FG := fun env => match T env with
  | some (true, e1) => G1 e1
  | some (false, e1) => G2 e1
  | none => none
def gDrop (F : FE) : FG := fun env => match F env with
  | some (d, k, e1) => some (.nx (stl d k e1))
  | none => none
/-- np: the parameters -/
def gRet (np : Nat) (F : FE) : FG := fun env => match F env with
  | some (d, .st, e1) => some (.rt d false e1)
  | some (d, .fr, e1) => some (.rt d true e1)
  | some (d, .pk i, e1) => if i < np then some (.rt d false (e1.set i (.pure d))) else some (.rt d true (e1.set i .emp))
  | none => none
def gRetN : FG := fun env => some (.rt .none false env)
def putS (i : Nat) (d : D) (k : Kd) (e1 : Ev) : Option Ev := match k with
  | .st => some (e1.set i (.pure d))
  | .fr => match d with
    | .list ds => some (e1.set i (.own ds))
    | _ => none
  | .pk j => some ((e1.set j (.pure d)).set i (.pure d))
def gSet (i : Nat) (F : FE) : FG := fun env => match F env with
  | some (d, k, e1) => match putS i d k e1 with
    | some e2 => some (.nx e2)
    | none => none
  | none => none
section
variable {X : Cx} {As : List Nat} {np : Nat} {st : Stmt} {sts rest : List Stmt} {e c : Expr} {F : FE} {T : FT} {G1 G2 : FG} {pos : Pos}
theorem ps_imp {t t' : TS} (h : PS X st t) (w : ∀ D σ H, t' D σ H → t D σ H) : PS X st t' := ⟨fun pins s σ H D I q => h.run pins s σ H D I (w D σ H q)⟩
theorem pss_imp {t t' : TS} (h : PSs X sts t) (w : ∀ D σ H, t' D σ H → t D σ H) : PSs X sts t' := ⟨fun pins s σ H D I q => h.run pins s σ H D I (w D σ H q)⟩
theorem ps_nothing : PS X st (tG X.K As np gNone) := ps_imp ps_never fun D σ H h => by
  obtain ⟨vs0, B, R, env, out, hn, ok, z, q⟩ := h
  cases z
theorem pss_nothing : PSs X sts (tG X.K As np gNone) := pss_imp pss_never fun D σ H h => by
  obtain ⟨vs0, B, R, env, out, hn, ok, z, q⟩ := h
  cases z
theorem pss_nilG : PSs X [] (tG X.K As np gSkip) := pss_imp pss_nil fun D σ H h => by
  obtain ⟨vs0, B, R, env, out, hn, ok, z, q⟩ := h
  cases z
  exact q σ R H (.refl _ _) ok
theorem pss_consG (h1 : PS X st (tG X.K As np G1)) (h2 : PSs X rest (tG X.K As np G2)) : PSs X (st :: rest) (tG X.K As np (gSeq G1 G2)) := pss_imp (pss_cons h1 h2) fun D σ H h => by
  obtain ⟨vs0, B, R, env, out, hn, ok, z, q⟩ := h
  unfold gSeq at z
  cases e1 : G1 env with
  | none => rw [e1] at z; cases z
  | some o1 =>
    rw [e1] at z
    refine ⟨vs0, B, R, env, o1, hn, ok, e1, ?_⟩
    cases o1 with
    | nx ev => exact fun σ' R' H' g ok' => ⟨vs0, B, R', ev, out, hn, ok', z, q.grow g⟩
    | rt d f ev => cases z; exact q
    | bk ev => cases z; exact q
    | ct ev => cases z; exact q
theorem ps_passG : PS X (.Pass pos) (tG X.K As np gSkip) := ps_imp ps_pass fun D σ H h => by
  obtain ⟨vs0, B, R, env, out, hn, ok, z, q⟩ := h
  cases z
  exact q σ R H (.refl _ _) ok
theorem ps_brkG : PS X (.Break pos) (tG X.K As np gBrk) := ps_imp ps_break fun D σ H h => by
  obtain ⟨vs0, B, R, env, out, hn, ok, z, q⟩ := h
  cases z
  exact q σ R H (.refl _ _) ok
theorem ps_cntG : PS X (.Continue pos) (tG X.K As np gCnt) := ps_imp ps_continue fun D σ H h => by
  obtain ⟨vs0, B, R, env, out, hn, ok, z, q⟩ := h
  cases z
  exact q σ R H (.refl _ _) ok
theorem ps_ifG {a b : List Stmt} (hc : PT X c (tT X.K T)) (ha : PSs X a (tG X.K As np G1)) (hb : PSs X b (tG X.K As np G2)) : PS X (.If c a b pos) (tG X.K As np (gIfS T G1 G2)) := ps_imp (ps_if hc ha hb) fun D σ H h => by
  obtain ⟨vs0, B, R, env, out, hn, ok, z, q⟩ := h
  unfold gIfS at z
  cases e1 : T env with
  | none => rw [e1] at z; cases z
  | some o1 =>
    obtain ⟨b1, ev⟩ := o1
    rw [e1] at z
    refine ⟨As, vs0, B, R, env, b1, ev, ok, e1, fun R' H' g ok' => ?_⟩
    cases b1 with
    | true => exact iteT ⟨vs0, B, R', ev, out, hn, ok', z, q.grow g⟩
    | false => exact iteF ⟨vs0, B, R', ev, out, hn, ok', z, q.grow g⟩
theorem ps_dropG (he : PE X e (tF X.K F)) (hs : swapsWith e none pos.line X.env = pure false) : PS X (.Expr e pos) (tG X.K As np (gDrop F)) := ps_imp (ps_expr he hs) fun D σ H h => by
  obtain ⟨vs0, B, R, env, out, hn, ok, z, q⟩ := h
  unfold gDrop at z
  cases e1 : F env with
  | none => rw [e1] at z; cases z
  | some o1 =>
    obtain ⟨d1, k1, ev⟩ := o1
    rw [e1] at z
    cases z
    refine ⟨As, vs0, B, R, env, d1, k1, ev, ok, e1, fun v R' H' g ok' r => ?_⟩
    obtain ⟨R2, g2, ok2, _⟩ := ok'.stl r
    exact q σ R2 H' (g.trans g2) ok2
theorem ps_retG (he : PE X e (tF X.K F)) : PS X (.Return (some e) pos) (tG X.K As np (gRet np F)) := ps_imp (ps_ret he) fun D σ H h => by
  obtain ⟨vs0, B, R, env, out, hn, ok, z, q⟩ := h
  unfold gRet at z
  cases e1 : F env with
  | none => rw [e1] at z; cases z
  | some o1 =>
    obtain ⟨d1, k1, ev⟩ := o1
    rw [e1] at z
    refine ⟨As, vs0, B, R, env, d1, k1, ev, ok, e1, fun v R' H' g ok' r => ?_⟩
    cases k1 with
    | st => cases z; exact q v σ R' H' g ok' r
    | fr => cases z; exact q v σ R' H' g ok' r
    | pk i =>
      dsimp only at z
      by_cases hi : i < np
      · rw [if_pos hi] at z
        cases z
        obtain ⟨R2, g2, ok2, dp⟩ := ok'.stl r
        exact q v σ R2 H' (g.trans g2) ok2 dp
      · rw [if_neg hi] at z
        cases z
        obtain ⟨hσ, ds, ed, hs⟩ := r
        obtain ⟨a, vs, e3, h1, h2, h3, h4⟩ := ok'.sl i _ hs
        rw [hσ] at e3
        have ev' : v = .ref a := by simpa using e3
        subst ev'
        have ok2 : Ok X.K As vs0 B R' H' σ (ev.set i .emp) := ok'.slot i trivial (fun _ z => by cases z)
        refine q _ σ R' H' g ok2 ⟨a, vs, ds, rfl, ed, h1, h2, h3, h4, fun j es hj ej => ?_⟩
        by_cases z : i = j
        · subst z
          have hlt : i < ev.length := (List.getElem?_eq_some_iff.mp hs).1
          rw [List.getElem?_set_self hlt] at hj; cases hj
        · rw [List.getElem?_set_ne z] at hj
          exact z (ok'.ap i j ds es a hs hj hσ ej)
theorem ps_retNG : PS X (.Return none pos) (tG X.K As np gRetN) := ps_imp ps_retN fun D σ H h => by
  obtain ⟨vs0, B, R, env, out, hn, ok, z, q⟩ := h
  cases z
  exact q .non σ R H (.refl _ _) ok .non
/-- a value is stored at slot i -/
theorem put_ok {K : PySem.W.Frag} {vs0 : List V} {B R H : Hp} {σ : L2.St} {e1 e2 : Ev} {v : V} {d : D} {k : Kd} {i : Nat} (ok : Ok K As vs0 B R H σ e1) (r : ResOk K B R H σ e1 v d k) (hp : putS i d k e1 = some e2) (hi : vs0.length ≤ i ∨ i ∈ As) :
    ∃ R', Grow B R R' ∧ Ok K As vs0 B R' H (σ.set i (some v)) e2 := by
  cases k with
  | st => cases hp; exact ⟨R, .refl _ _, ok.put i ⟨v, rfl, r⟩ (fun _ z => by cases z) hi⟩
  | fr =>
    unfold putS at hp
    cases d <;> try (cases hp; done)
    cases hp
    obtain ⟨a, vs, ds, ev, e2, h1, h2, h3, h4, h5⟩ := r
    cases e2
    refine ⟨R, .refl _ _, ok.put i ⟨a, vs, by rw [ev], h1, h2, h3, h4⟩ (fun ds z b eb => ?_) hi⟩
    rw [ev] at eb
    cases eb
    exact h5
  | pk j =>
    cases hp
    obtain ⟨R2, g2, ok2, dp⟩ := ok.stl r
    exact ⟨R2, g2, ok2.put i ⟨v, rfl, dp⟩ (fun _ z => by cases z) hi⟩
theorem asg_imp {te : TE} {i : Nat} (w : ∀ σ H Q, tF X.K F σ H Q → te σ H Q) (hi : np ≤ i ∨ i ∈ As) : ∀ D σ H, tG X.K As np (gSet i F) D σ H → tAsg te (gName i) D σ H := fun D σ H h => by
  obtain ⟨vs0, B, R, env, out, hn, ok, z, q⟩ := h
  unfold gSet at z
  cases e1 : F env with
  | none => rw [e1] at z; cases z
  | some o1 =>
    obtain ⟨d1, k1, ev⟩ := o1
    rw [e1] at z
    dsimp only at z
    cases hp : putS i d1 k1 ev with
    | none => rw [hp] at z; cases z
    | some e2 =>
      rw [hp] at z
      cases z
      refine w σ H _ ⟨As, vs0, B, R, env, d1, k1, ev, ok, e1, fun v R' H' g ok' r => ?_⟩
      obtain ⟨R2, g2, ok2⟩ := put_ok ok' r hp (by rw [hn]; exact hi)
      exact q _ R2 H' (g.trans g2) ok2
theorem ps_setG {i : Nat} {x : Str} {pos' : Pos} (hN : X.N.Nodup) (hi : X.N[i]? = some x) (hx : Loc X.env.scope x) (he : PE X e (tF X.K F)) (hs : swapsWith e (some (.Name x pos')) pos.line X.env = pure false) (hf : X.fn x = true ∨ X.env.scope.names.lookup x = some .local) (ha : np ≤ i ∨ i ∈ As) :
    PS X (.Assign [.Name x pos'] e pos) (tG X.K As np (gSet i F)) := ps_imp (ps_set hN hi hx he hs hf) (asg_imp (fun _ _ _ h => h) ha)
end
end Pt

namespace Pt
open PySem PySem.Spec PyProof.Rows L2
variable [Tb]

/-! ### what is walked -/
abbrev FI := Ev → Option (List D × Ev)
/-- x comes as d, in a heap that holds R -/
def Yld (K : PySem.W.Frag) (R : Hp) (d : D) (H : Hp) (x : V) (H' : Hp) : Prop := (H' = H ∧ Dp K R x d) ∨ ∃ T vs es, x = .ref T ∧ H T = none ∧ H' = upd H T (.tup vs) ∧ d = .tuple es ∧ DpAll K R vs es
structure Wk (K : PySem.W.Frag) (R : Hp) (ds : List D) (J : It) (G : Hp → Prop) (Y : Nat → Hp → V → Hp → Prop) : Prop where
  walk : Walk J ds.length G Y
  stays : ∀ H, Le R H → G H
  yields : ∀ i H x H' d, ds[i]? = some d → Y i H x H' → Yld K R d H x H'
def tI (K : PySem.W.Frag) (I : FI) : TI := fun σ H Rr => ∃ As vs0 B R env ds env', Ok K As vs0 B R H σ env ∧ I env = some (ds, env') ∧
  ∀ J G Y R' H', Grow B R R' → Ok K As vs0 B R' H' σ env' → Wk K R' ds J G Y → Rr J H'
theorem pi_imp {X : Cx} {tg iter : Expr} {t t' : TI} (h : PI X tg iter t) (w : ∀ σ H R, t' σ H R → t σ H R) : PI X tg iter t' := ⟨fun pins s σ H R I q => h.run pins s σ H R I (w σ H R q)⟩
/-- the items of a text -/
def chars (x : Str) : List D := x.cps.toList.map fun c => .str ⟨#[c]⟩
def itemsD : D → Option (List D)
  | .list ds => some ds
  | .tuple ds => some ds
  | .str x => some (chars x)
  | _ => none
def fiSeq (F : FE) : FI := fun env => match F env with
  | some (d, k, e1) => match itemsD d with
    | some ds => some (ds, stl d k e1)
    | none => none
  | none => none
section
variable {K : PySem.W.Frag} {R : Hp}
theorem wk_list {a : Addr} {vs : List V} {ds : List D} (h : SqL K R a vs) (p : DpAll K R vs ds) : Wk K R ds (Itl K a) (fun H => SqL K H a vs) (YAt vs) :=
  ⟨by rw [← dpAll_len p]; exact walk_list, fun H l => sqL_le l h, fun i H x H' d hd y => by
    obtain ⟨v, hv, dp⟩ := dpAll_get' p hd
    rw [y.2] at hv; cases hv
    exact .inl ⟨y.1, dp⟩⟩
theorem wk_tuple {a : Addr} {vs : List V} {ds : List D} (h : SqT K R a vs) (p : DpAll K R vs ds) : Wk K R ds (Itt K a) (fun H => SqT K H a vs) (YAt vs) :=
  ⟨by rw [← dpAll_len p]; exact walk_tup, fun H l => sqT_le l h, fun i H x H' d hd y => by
    obtain ⟨v, hv, dp⟩ := dpAll_get' p hd
    rw [y.2] at hv; cases hv
    exact .inl ⟨y.1, dp⟩⟩
theorem wk_str {z : Str} : Wk K R (chars z) (Its z) (fun _ => True) (fun i H v H' => H' = H ∧ ∃ c, z.cps[i]? = some c ∧ v = .str ⟨#[c]⟩) :=
  ⟨by
    have : (chars z).length = z.cps.size := by unfold chars; simp
    rw [this]; exact walk_str, fun _ _ => trivial, fun i H x H' d hd y => by
    obtain ⟨e, c, hc, ex⟩ := y
    unfold chars at hd
    rw [List.getElem?_map] at hd
    have hc' : z.cps.toList[i]? = some c := by simpa using hc
    rw [hc'] at hd
    cases hd
    subst ex
    exact .inl ⟨e, .str _⟩⟩
theorem wk_range {lo : Int} {n : Nat} : Wk K R ((List.range n).map fun (i : Nat) => PyData.int (lo + i)) (Itr lo n) (fun _ => True) (YFn fun i => .int (lo + i)) :=
  ⟨by rw [List.length_map, List.length_range]; exact walk_range, fun _ _ => trivial, fun i H x H' d hd y => by
    obtain ⟨e, ex⟩ := y
    rw [List.getElem?_map] at hd
    obtain ⟨j, hj, e2⟩ := Option.map_eq_some_iff.mp hd
    have : j = i := by
      obtain ⟨h1, h2⟩ := List.getElem?_eq_some_iff.mp hj
      simpa using h2.symm
    subst this
    subst e2 ex
    exact .inl ⟨e, .int _⟩⟩
end
section
variable {X : Cx} {tg l a b : Expr} {F : FE} {G : FA} {p pos : Pos}
theorem pi_seqD (hl : PE X l (tF X.K F)) : PI X tg l (tI X.K (fiSeq F)) := ⟨fun pins s σ H Rr I h => by
  obtain ⟨As, vs0, B, R, env, ds, env', ok, z, q⟩ := h
  unfold fiSeq at z
  cases h1 : F env with
  | none => rw [h1] at z; cases z
  | some y =>
    obtain ⟨d1, k1, e1⟩ := y
    rw [h1] at z
    dsimp only at z
    cases h2 : itemsD d1 with
    | none => rw [h2] at z; cases z
    | some ds1 =>
      rw [h2] at z
      cases z
      cases d1 <;> try (cases h2; done)
      case list es =>
        cases h2
        refine (pi_list hl).run pins s σ H Rr I ⟨As, vs0, B, R, env, _, k1, e1, ok, h1, fun v R' H' g ok' r => ?_⟩
        obtain ⟨R2, g2, ok2, dp⟩ := ok'.stl r
        cases dp with
        | lst s1 p1 => exact ⟨_, rfl, ⟨_, sqL_le ok2.rh s1⟩, q _ _ _ R2 H' (g.trans g2) ok2 (wk_list s1 p1)⟩
      case tuple es =>
        cases h2
        refine (pi_tup hl).run pins s σ H Rr I ⟨As, vs0, B, R, env, _, k1, e1, ok, h1, fun v R' H' g ok' r => ?_⟩
        obtain ⟨R2, g2, ok2, dp⟩ := ok'.stl r
        cases dp with
        | tup s1 p1 => exact ⟨_, rfl, ⟨_, sqT_le ok2.rh s1⟩, q _ _ _ R2 H' (g.trans g2) ok2 (wk_tuple s1 p1)⟩
      case str z =>
        cases h2
        refine (pi_str hl).run pins s σ H Rr I ⟨As, vs0, B, R, env, _, k1, e1, ok, h1, fun v R' H' g ok' r => ?_⟩
        obtain ⟨R2, g2, ok2, dp⟩ := ok'.stl r
        cases dp
        exact ⟨z, rfl, q _ _ _ R2 H' (g.trans g2) ok2 wk_str⟩⟩
/-- range(n), range(a, b) -/
def fiRng1 (G : FA) : FI := fun env => match G env with
  | some ([.int j], e1) => if decide (-(2 ^ 62) ≤ j) && decide (j < 2 ^ 62) then some ((List.range j.toNat).map fun (i : Nat) => PyData.int (0 + i), e1) else none
  | _ => none
def fiRng2 (G : FA) : FI := fun env => match G env with
  | some ([.int i, .int j], e1) => if decide (-(2 ^ 62) ≤ i) && decide (i < 2 ^ 62) && decide (-(2 ^ 62) ≤ j) && decide (j < 2 ^ 62) then some ((List.range (j - i).toNat).map fun (m : Nat) => PyData.int (i + m), e1) else none
  | _ => none
theorem pi_rng1D (hg : Gl X "range") (hm : X.mg "range" = none) (ha : PA X [a] (tA X.K G)) (hs : starEach [a] X.env = [(false, eval a X.env)]) : PI X tg (.Call (.Name "range" p) [a] [] pos) (tI X.K (fiRng1 G)) := pi_imp (pi_range1 hg hm ha hs) fun σ H Rr h => by
  obtain ⟨As, vs0, B, R, env, ds, env', ok, z, q⟩ := h
  unfold fiRng1 at z
  split at z
  · rename_i j e1 h1
    split at z
    · rename_i hz
      cases z
      simp only [Bool.and_eq_true, decide_eq_true_eq] at hz
      refine ⟨As, vs0, B, R, env, _, _, ok, h1, fun vs R' H' g ok' dps => ?_⟩
      cases dps with
      | cons d1 d2 =>
        cases d1; cases d2
        exact ⟨j, rfl, hz.1, hz.2, q _ _ _ R' H' g ok' wk_range⟩
    · cases z
  · cases z
theorem pi_rng2D (hg : Gl X "range") (hm : X.mg "range" = none) (ha : PA X [a, b] (tA X.K G)) (hs : starEach [a, b] X.env = [(false, eval a X.env), (false, eval b X.env)]) (hs2 : starEach [b] X.env = [(false, eval b X.env)]) :
    PI X tg (.Call (.Name "range" p) [a, b] [] pos) (tI X.K (fiRng2 G)) := pi_imp (pi_range2 hg hm ha hs hs2) fun σ H Rr h => by
  obtain ⟨As, vs0, B, R, env, ds, env', ok, z, q⟩ := h
  unfold fiRng2 at z
  split at z
  · rename_i i j e1 h1
    split at z
    · rename_i hz
      cases z
      simp only [Bool.and_eq_true, decide_eq_true_eq] at hz
      refine ⟨As, vs0, B, R, env, _, _, ok, h1, fun vs R' H' g ok' dps => ?_⟩
      cases dps with
      | cons d1 d2 =>
        cases d2 with
        | cons d2 d3 =>
          cases d1; cases d2; cases d3
          exact ⟨i, j, rfl, ⟨hz.1.1.1, hz.1.1.2, hz.1.2, hz.2⟩, q _ _ _ R' H' g ok' wk_range⟩
    · cases z
  · cases z
end

/-! ### targets -/
abbrev FB := D → Ev → Option Ev
def gB (K : PySem.W.Frag) (As : List Nat) (np : Nat) (ts : List Nat) (b : FB) : TG := fun v σ H Q => ∃ vs0 B R env d env', vs0.length = np ∧ Ok K As vs0 B R H σ env ∧ Dp K R v d ∧ b d env = some env' ∧
  ∀ σ', Ok K As vs0 B R H σ' env' → (∀ vs : List Nat, (∀ i ∈ ts, i ∈ vs) → wipe σ' vs = wipe σ vs) → Q σ' H
def bName (i : Nat) : FB := fun d env => some (env.set i (.pure d))
def bSets : List Nat → List D → Ev → Option Ev
  | [], [], env => some env
  | i :: is, d :: ds, env => bSets is ds (env.set i (.pure d))
  | _, _, _ => none
def bTup (is : List Nat) : FB := fun d env => match d with
  | .tuple ds => bSets is ds env
  | _ => none
theorem pg_imp {X : Cx} {e : Expr} {t t' : TG} (h : PG X e t) (w : ∀ v σ H Q, t' v σ H Q → t v σ H Q) : PG X e t' := ⟨fun pins s σ H v u Q I r q => h.run pins s σ H v u Q I r (w v σ H Q q)⟩
theorem wipe_set (σ : L2.St) (x : Option V) : ∀ (vs : List Nat) (i : Nat), i ∈ vs → wipe (σ.set i x) vs = wipe σ vs := by
  have ext : ∀ (vs : List Nat) (τ : L2.St) (j : Nat), (wipe τ vs)[j]? = if j ∈ vs then (if j < τ.length then some none else none) else τ[j]? := by
    intro vs
    induction vs with
    | nil => intro τ j; simp [wipe]
    | cons v vs ih =>
      intro τ j
      unfold wipe
      rw [List.getElem?_set]
      by_cases h : v = j
      · subst h
        rw [if_pos rfl, wipe_length]
        simp
      · rw [if_neg h, ih]
        have : (j ∈ v :: vs) = (j ∈ vs) := by
          simp only [List.mem_cons, eq_iff_iff]
          exact ⟨fun z => z.resolve_left fun q => h q.symm, .inr⟩
        simp only [this]
  intro vs i hi
  apply List.ext_getElem?
  intro j
  rw [ext, ext]
  by_cases h : j ∈ vs
  · rw [if_pos h, if_pos h, List.length_set]
  · rw [if_neg h, if_neg h, List.getElem?_set_ne (fun (z : i = j) => h (z ▸ hi))]
section
variable {X : Cx} {As : List Nat} {np : Nat} {pos : Pos}
theorem pg_nameD {i : Nat} {x : Str} (hN : X.N.Nodup) (hi : X.N[i]? = some x) (hx : Loc X.env.scope x) (hf : X.fn x = true ∨ X.env.scope.names.lookup x = some .local) (ha : np ≤ i ∨ i ∈ As) : PG X (.Name x pos) (gB X.K As np [i] (bName i)) :=
  pg_imp (pg_name hN hi hx hf) fun v σ H Q h => by
    obtain ⟨vs0, B, R, env, d, env', hn, ok, dp, z, q⟩ := h
    cases z
    exact q _ (ok.put i ⟨v, rfl, dp⟩ (fun _ z => by cases z) (by rw [hn]; exact ha)) fun vs hv => wipe_set _ _ vs i (hv i (by simp))
/-- several names -/
def gBs (K : PySem.W.Frag) (As : List Nat) (np : Nat) (ts : List Nat) : TGs := fun ws σ H Q => ∃ vs0 B R env ds env', vs0.length = np ∧ Ok K As vs0 B R H σ env ∧ DpAll K R ws ds ∧ bSets ts ds env = some env' ∧
  ∀ σ', Ok K As vs0 B R H σ' env' → (∀ vs : List Nat, (∀ i ∈ ts, i ∈ vs) → wipe σ' vs = wipe σ vs) → Q σ' H
theorem pgs_nilD : PGs X [] (gBs X.K As np []) := ⟨fun pins s σ H vs us Q I r h => by
  obtain ⟨vs0, B, R, env, ds, env', hn, ok, dp, z, q⟩ := h
  cases ds with
  | nil =>
    cases dp
    cases z
    exact pgs_nil.run pins s σ H [] us Q I r ⟨rfl, q σ ok fun _ _ => rfl⟩
  | cons _ _ => cases z⟩
theorem pgs_consD {e : Expr} {es : List Expr} {i : Nat} {ts : List Nat} (h1 : PG X e (gB X.K As np [i] (bName i))) (h2 : PGs X es (gBs X.K As np ts)) (hs : (assignEach (e :: es) X.env).map (·.2) = assign e X.env :: (assignEach es X.env).map (·.2)) : PGs X (e :: es) (gBs X.K As np (i :: ts)) :=
  ⟨fun pins s σ H vs us Q I r h => by
    obtain ⟨vs0, B, R, env, ds, env', hn, ok, dp, z, q⟩ := h
    cases ds with
    | nil => cases z
    | cons d ds =>
      cases dp with
      | cons dp1 dp2 =>
        refine (pgs_cons h1 h2 hs).run pins s σ H _ us Q I r ⟨_, _, rfl, ?_⟩
        refine ⟨vs0, B, R, env, d, _, hn, ok, dp1, rfl, fun σ1 ok1 w1 => ?_⟩
        refine ⟨vs0, B, R, _, ds, env', hn, ok1, dp2, z, fun σ2 ok2 w2 => ?_⟩
        exact q σ2 ok2 fun vs hv => (w2 vs fun j hj => hv j (by simp [hj])).trans (w1 vs fun j hj => hv j (by simp at hj; simp [hj]))⟩
theorem pg_tupD {es : List Expr} {k : Nat} {ts : List Nat} (hc : X.calm = true) (h : PGs X es (gBs X.K As np ts)) (hl : es.length = ts.length) (hn : (assignEach es X.env).length = es.length) (hst : (assignEach es X.env).findIdx? (·.1) = none) :
    PG X (.Tuple es k pos) (gB X.K As np ts (bTup ts)) := pg_imp (pg_tup hc h hn hst) fun v σ H Q h => by
  obtain ⟨vs0, B, R, env, d, env', hn', ok, dp, z, q⟩ := h
  cases d <;> try (cases z; done)
  case tuple ds =>
    cases dp with
    | tup s1 p1 =>
      have z : bSets ts ds env = some env' := z
      have len : ∀ (is : List Nat) (xs : List D) (ev ev' : Ev), bSets is xs ev = some ev' → is.length = xs.length := by
        intro is
        induction is with
        | nil => intro xs ev ev' h; cases xs with
          | nil => rfl
          | cons _ _ => cases h
        | cons i is ih => intro xs ev ev' h; cases xs with
          | nil => cases h
          | cons x xs => simp [ih xs _ _ h]
      refine ⟨_, _, rfl, sqT_le ok.rh s1, by rw [dpAll_len p1, hl, len _ _ _ _ z], ?_⟩
      exact ⟨vs0, B, R, env, ds, env', hn', ok, p1, z, q⟩
end

/-! ### for -/
def forL (b : FB) (body : FG) : List D → Ev → Option Out
  | [], env => some (.nx env)
  | d :: ds, env => match b d env with
    | some e1 => match body e1 with
      | some (.nx e2) => forL b body ds e2
      | some (.ct e2) => forL b body ds e2
      | some (.bk e2) => some (.nx e2)
      | some (.rt r f e2) => some (.rt r f e2)
      | none => none
    | none => none
def gFor (I : FI) (b : FB) (body : FG) : FG := fun env => match I env with
  | some (ds, e1) => forL b body ds e1
  | none => none
section
variable {K : PySem.W.Frag} {As : List Nat} {vs0 : List V} {B R R' H H' : Hp} {σ : L2.St} {env : Ev} {v : V} {d : D}
/-- what is yielded is settled -/
theorem Ok.yld (ok : Ok K As vs0 B R H σ env) (y : Yld K R' d H v H') (l : Le R' R) : ∃ R2, Grow B R R2 ∧ Ok K As vs0 B R2 H' σ env ∧ Dp K R2 v d := by
  rcases y with ⟨e, dp⟩ | ⟨T, vs, es, e, hT, e2, ed, dp⟩
  · subst e; exact ⟨R, .refl _ _, ok, dp_le l _ dp⟩
  · subst e e2 ed
    obtain ⟨g, ok'⟩ := (ok.new (o := .tup vs) hT).settle (le_none ok.rh hT) (le_none ok.bh hT) upd_same (ok.free_new hT)
    exact ⟨_, g, ok', .tup (SqT.of upd_same) (dpAll_le (l.trans g.1) _ dp)⟩
end
section
variable {X : Cx} {As : List Nat} {np : Nat} {pos : Pos} {tg iter : Expr} {body : List Stmt} {I : FI} {b : FB} {G : FG} {ts : List Nat}
theorem ps_forG (hp : PassesOwn (model X.prog X.w) X.A X.env X.xe) (hc : X.calm = true) (hi : PI X tg iter (tI X.K I)) (hg : PG X tg (gB X.K As np ts b)) (hb : PSs X body (tG X.K As np G))
    (hs : ∀ x, foldedSetIterable iter X.env x = pure x) : PS X (.For tg iter body [] pos) (tG X.K As np (gFor I b G)) := ps_imp (ps_for hp hc hi hg hb hs) fun D σ H h => by
  obtain ⟨vs0, B, R, env, out, hn, ok, z, q⟩ := h
  unfold gFor at z
  cases h1 : I env with
  | none => rw [h1] at z; cases z
  | some y =>
    obtain ⟨ds, e1⟩ := y
    rw [h1] at z
    dsimp only at z
    refine ⟨As, vs0, B, R, env, ds, e1, ok, h1, fun J GG Y R' H' g ok' wk => ?_⟩
    refine for_it wk.walk (fun i σ H => ∃ R1 ev, Grow B R' R1 ∧ Ok X.K As vs0 B R1 H σ ev ∧ forL b G (ds.drop i) ev = some out) ⟨R', e1, .refl _ _, ok', z⟩ (fun i σ H _ hP => ?_) (fun i x σ H H2 hi hP hY => ?_) (fun σ H hP => ?_)
    · obtain ⟨R1, ev, g1, ok1, _⟩ := hP
      exact wk.stays H (g1.1.trans ok1.rh)
    · obtain ⟨R1, ev, g1, ok1, z1⟩ := hP
      have hd : ds[i]? = some ds[i] := List.getElem?_eq_getElem hi
      have y := wk.yields i H x H2 _ hd hY
      obtain ⟨R2, g2, ok2, dp⟩ := ok1.yld y g1.1
      rw [List.drop_eq_getElem_cons hi] at z1
      unfold forL at z1
      cases h3 : b ds[i] ev with
      | none => rw [h3] at z1; cases z1
      | some e3 =>
        rw [h3] at z1
        dsimp only at z1
        refine ⟨vs0, B, R2, ev, ds[i], e3, hn, ok2, dp, h3, fun σ3 ok3 _ => ?_⟩
        cases h4 : G e3 with
        | none => rw [h4] at z1; cases z1
        | some o4 =>
          rw [h4] at z1
          refine ⟨vs0, B, R2, e3, o4, hn, ok3, h4, ?_⟩
          cases o4 with
          | nx e4 => exact fun σ' R4 H4 g4 ok4 => ⟨R4, e4, (g1.trans g2).trans g4, ok4, z1⟩
          | ct e4 => exact fun σ' R4 H4 g4 ok4 => ⟨R4, e4, (g1.trans g2).trans g4, ok4, z1⟩
          | bk e4 =>
            cases z1
            exact fun σ' R4 H4 g4 ok4 => q σ' R4 H4 (((g.trans g1).trans g2).trans g4) ok4
          | rt r f e4 =>
            cases z1
            exact fun v σ' R4 H4 g4 ok4 => q v σ' R4 H4 (((g.trans g1).trans g2).trans g4) ok4
    · obtain ⟨R1, ev, g1, ok1, z1⟩ := hP
      rw [List.drop_length] at z1
      cases z1
      exact q σ R1 H (g.trans g1) ok1
end
end Pt

namespace Pt
open PySem PySem.Spec PyProof.Rows L2
variable [Tb]

/-! ### list comprehensions -/
def wipeE : List Nat → Ev → Ev
  | [], env => env
  | v :: vs, env => (wipeE vs env).set v .emp
/-- the slots at these places as they were -/
def backE : List Nat → Ev → Ev → Ev
  | [], _, env => env
  | v :: vs, old, env => match old[v]? with
    | some s => (backE vs old env).set v s
    | none => backE vs old env
/-- none of these owns a list -/
def noOwn (vs : List Nat) (env : Ev) : Bool := vs.all fun v => match env[v]? with
  | some (.own _) => false
  | some (.dct _) => false
  | _ => true
def compL (own : List Nat) (b : FB) (T : FT) (E : FE) : List D → Ev → Option (List D × Ev)
  | [], env => some ([], env)
  | d :: ds, env => match b d env with
    | some e1 => match T e1 with
      | some (true, e2) => match E e2 with
        | some (r, k, e3) => match compL own b T E ds (wipeE own (stl r k e3)) with
          | some (rs, e4) => some (r :: rs, e4)
          | none => none
        | none => none
      | some (false, e2) => compL own b T E ds (wipeE own e2)
      | none => none
    | none => none
def fComp (own : List Nat) (I : FI) (b : FB) (T : FT) (E : FE) : FE := fun env => match I env with
  | some (ds, e1) => if noOwn own e1 then match compL own b T E ds (wipeE own e1) with
      | some (rs, e2) => if rs.length ≤ sizeLine then some (.list rs, .fr, backE own e1 e2) else none
      | none => none
    else none
  | none => none
def fTYes : FT := fun env => some (true, env)
theorem wipeE_len : ∀ (vs : List Nat) (env : Ev), (wipeE vs env).length = env.length
  | [], _ => rfl
  | v :: vs, env => by show ((wipeE vs env).set v .emp).length = _; rw [List.length_set, wipeE_len vs]
theorem wipeE_get : ∀ (vs : List Nat) (env : Ev) (j : Nat) (s : Slot), (wipeE vs env)[j]? = some s → (j ∉ vs ∧ env[j]? = some s) ∨ (j ∈ vs ∧ s = .emp)
  | [], env, j, s, h => .inl ⟨by simp, h⟩
  | v :: vs, env, j, s, h => by
    have h : ((wipeE vs env).set v .emp)[j]? = some s := h
    by_cases z : v = j
    · subst z
      by_cases hl : v < (wipeE vs env).length
      · rw [List.getElem?_set_self hl] at h; cases h; exact .inr ⟨by simp, rfl⟩
      · rw [List.getElem?_eq_none (by rw [List.length_set]; omega)] at h; cases h
    · rw [List.getElem?_set_ne z] at h
      rcases wipeE_get vs env j s h with ⟨h1, h2⟩ | ⟨h1, h2⟩
      · exact .inl ⟨by simp only [List.mem_cons, not_or]; exact ⟨fun q => z q.symm, h1⟩, h2⟩
      · exact .inr ⟨by simp [h1], h2⟩
theorem wipe_get : ∀ (vs : List Nat) (σ : L2.St) (j : Nat), j ∉ vs → (wipe σ vs)[j]? = σ[j]?
  | [], σ, j, _ => rfl
  | v :: vs, σ, j, h => by
    show ((wipe σ vs).set v none)[j]? = _
    rw [List.getElem?_set_ne (fun z => h (by simp [z])), wipe_get vs σ j (fun z => h (by simp [z]))]
theorem backE_len : ∀ (vs : List Nat) (old env : Ev), (backE vs old env).length = env.length
  | [], _, _ => rfl
  | v :: vs, old, env => by
    unfold backE
    split
    · rw [List.length_set, backE_len vs]
    · exact backE_len vs old env
theorem backE_get : ∀ (vs : List Nat) (old env : Ev) (j : Nat) (s : Slot), old.length = env.length → (backE vs old env)[j]? = some s → (j ∉ vs ∧ env[j]? = some s) ∨ (j ∈ vs ∧ old[j]? = some s)
  | [], old, env, j, s, _, h => .inl ⟨by simp, h⟩
  | v :: vs, old, env, j, s, hl, h => by
    unfold backE at h
    by_cases z : v = j
    · subst z
      cases ho : old[v]? with
      | none =>
        rw [ho] at h
        dsimp only at h
        have : v < env.length := by rw [← backE_len vs old env]; exact (List.getElem?_eq_some_iff.mp h).1
        rw [← hl] at this
        rw [List.getElem?_eq_getElem this] at ho
        cases ho
      | some s0 =>
        rw [ho] at h
        dsimp only at h
        by_cases hl2 : v < (backE vs old env).length
        · rw [List.getElem?_set_self hl2] at h; cases h; exact .inr ⟨by simp, rfl⟩
        · rw [List.getElem?_eq_none (by rw [List.length_set]; omega)] at h; cases h
    · have h' : (backE vs old env)[j]? = some s := by
        split at h
        · rwa [List.getElem?_set_ne z] at h
        · exact h
      rcases backE_get vs old env j s hl h' with ⟨h1, h2⟩ | ⟨h1, h2⟩
      · exact .inl ⟨by simp only [List.mem_cons, not_or]; exact ⟨fun q => z q.symm, h1⟩, h2⟩
      · exact .inr ⟨by simp [h1], h2⟩
section
variable {K : PySem.W.Frag} {As : List Nat} {vs0 : List V} {B R R' H H' : Hp} {σ σ' : L2.St} {env : Ev} {own : List Nat} {Dd : Addr} {acc : List V}
theorem Ok.wiped (ok : Ok K As vs0 B R H σ env) : Ok K [] [] B R H (wipe σ own) (wipeE own env) := by
  refine ⟨by rw [wipe_length, wipeE_len]; exact ok.len, ok.rh, ok.bh, fun i s hs => ?_, fun i j ds es a h1 h2 e1 e2 => ?_, fun i v h => by simp at h, fun i j ds es a h1 h2 e1 e2 => ?_, ok.tb, ok.nt, ok.nb⟩
  · rcases wipeE_get own env i s hs with ⟨h1, h2⟩ | ⟨h1, h2⟩
    · rw [wipe_get own σ i h1]; exact ok.sl i s h2
    · subst h2; trivial
  · rcases wipeE_get own env i _ h1 with ⟨a1, a2⟩ | ⟨a1, a2⟩
    · rcases wipeE_get own env j _ h2 with ⟨b1, b2⟩ | ⟨b1, b2⟩
      · rw [wipe_get own σ i a1] at e1
        rw [wipe_get own σ j b1] at e2
        exact ok.ap i j ds es a a2 b2 e1 e2
      · cases b2
    · cases a2
  · rcases wipeE_get own env i _ h1 with ⟨a1, a2⟩ | ⟨a1, a2⟩
    · rcases wipeE_get own env j _ h2 with ⟨b1, b2⟩ | ⟨b1, b2⟩
      · rw [wipe_get own σ i a1] at e1
        rw [wipe_get own σ j b1] at e2
        exact ok.ad i j ds es a a2 b2 e1 e2
      · cases b2
    · cases a2
/-- the new list at Dd is kept safe -/
theorem Ok.guard (ok : Ok K As vs0 B R H σ env) (hn : B Dd = none) (hd : H Dd = some (.lst acc)) (hf : Free σ env Dd) : Ok K As vs0 (upd B Dd (.lst acc)) R H σ env := by
  refine ⟨ok.len, ok.rh, ⟨fun b o n e => ?_, fun b e => ?_⟩, fun i s hs => ?_, ok.ap, ok.ar, ok.ad, ok.tb, ok.nt, ok.nb.upd nt_lst⟩
  · by_cases z : b = Dd
    · subst z; rw [upd_same] at e; rw [← e]; exact hd
    · rw [upd_ne z] at e; exact ok.bh.1 b o n e
  · by_cases z : b = Dd
    · subst z; rw [hd] at e; cases e
    · rw [upd_ne z]; exact ok.bh.2 b e
  · have o := ok.sl i s hs
    cases s with
    | emp => trivial
    | pure d => exact o
    | own ds =>
      obtain ⟨a, vs, e, h1, h2, h3, h4⟩ := o
      exact ⟨a, vs, e, h1, h2, h3, by rw [upd_ne (fun z => by subst z; exact hf i ds hs e)]; exact h4⟩
    | dct ds =>
      obtain ⟨a, vs, e, h1, h2, h3, h4⟩ := o
      exact ⟨a, vs, e, h1, h2, h3, by rw [upd_ne (fun z => by subst z; rw [hd] at h1; cases h1)]; exact h4⟩
theorem Ok.unguard (ok : Ok K As vs0 (upd B Dd (.lst acc)) R H σ env) (hn : B Dd = none) : Ok K As vs0 B R H σ env ∧ Free σ env Dd := by
  refine ⟨⟨ok.len, ok.rh, ⟨fun b o n e => ok.bh.1 b o n (by rw [upd_ne (ne_of_none e hn)]; exact e), fun b e => by
    by_cases z : b = Dd
    · subst z; exact hn
    · have := ok.bh.2 b e
      rwa [upd_ne z] at this⟩, fun i s hs => ?_, ok.ap, ok.ar, ok.ad, ok.tb, ok.nt, fun b ps e => by
      by_cases z : b = Dd
      · subst z; rw [hn] at e; cases e
      · exact ok.nb b ps (by rw [upd_ne z]; exact e)⟩, fun i ds hs e => ?_⟩
  · have o := ok.sl i s hs
    cases s with
    | emp => trivial
    | pure d => exact o
    | own ds =>
      obtain ⟨a, vs, e, h1, h2, h3, h4⟩ := o
      refine ⟨a, vs, e, h1, h2, h3, ?_⟩
      have : a ≠ Dd := fun z => by rw [z, upd_same] at h4; cases h4
      rwa [upd_ne this] at h4
    | dct ds =>
      obtain ⟨a, vs, e, h1, h2, h3, h4⟩ := o
      refine ⟨a, vs, e, h1, h2, h3, ?_⟩
      have : a ≠ Dd := fun z => by rw [z, upd_same] at h4; cases h4
      rwa [upd_ne this] at h4
  · obtain ⟨a, vs, e2, h1, h2, h3, h4⟩ := ok.sl i _ hs
    rw [e] at e2
    have : Dd = a := by simpa using e2
    subst this
    rw [upd_same] at h4
    cases h4
theorem Grow.unguard (g : Grow (L2.upd B Dd (.lst acc)) R R') (hn : B Dd = none) (hr : R Dd = none) : Grow B R R' ∧ R' Dd = none := by
  refine ⟨⟨g.1, fun a o e => ?_⟩, ?_⟩
  · rcases g.2 a o e with h | h
    · exact .inl h
    · by_cases z : a = Dd
      · subst z; exact .inr hn
      · rw [upd_ne z] at h; exact .inr h
  · cases e : R' Dd with
    | none => rfl
    | some o =>
      rcases g.2 Dd o e with h | h
      · rw [hr] at h; cases h
      · rw [upd_same] at h; cases h
/-- behind the block: the frame's own slots as they were -/
theorem Ok.behind {e1 ev : Ev} {R1 : Hp} (ok0 : Ok K As vs0 B R H' σ e1) (no : noOwn own e1 = true) (l : Le R R1) (ok : Ok K [] [] B R1 H (wipe σ own) ev) : Ok K As vs0 B R1 H σ (backE own e1 ev) := by
  have hl : e1.length = ev.length := by rw [← ok0.len, ← ok.len, wipe_length]
  have get : ∀ i s, (backE own e1 ev)[i]? = some s → (i ∉ own ∧ ev[i]? = some s) ∨ (i ∈ own ∧ e1[i]? = some s) := fun i s h => backE_get own e1 ev i s hl h
  have nown : ∀ (i : Nat) (ds : List D), i ∈ own → e1[i]? ≠ some (.own ds) := fun i ds h e => by
    have := List.all_eq_true.mp no i h
    rw [e] at this
    cases this
  have ndct : ∀ (i : Nat) (ds : List (L2.Key × D)), i ∈ own → e1[i]? ≠ some (.dct ds) := fun i ds h e => by
    have := List.all_eq_true.mp no i h
    rw [e] at this
    cases this
  refine ⟨by rw [backE_len, ← hl]; exact ok0.len, ok.rh, ok.bh, fun i s hs => ?_, fun i j ds es a h1 h2 a1 a2 => ?_, ok0.ar, fun i j ds es a h1 h2 a1 a2 => ?_, ok.tb, ok.nt, ok.nb⟩
  · rcases get i s hs with ⟨h1, h2⟩ | ⟨h1, h2⟩
    · have o := ok.sl i s h2
      rwa [wipe_get own σ i h1] at o
    · have o := ok0.sl i s h2
      cases s with
      | emp => trivial
      | pure d => obtain ⟨v, e, h⟩ := o; exact ⟨v, e, dp_le l _ h⟩
      | own ds => exact (nown i ds h1 h2).elim
      | dct ds => exact (ndct i ds h1 h2).elim
  · rcases get i _ h1 with ⟨b1, b2⟩ | ⟨b1, b2⟩
    · rcases get j _ h2 with ⟨c1, c2⟩ | ⟨c1, c2⟩
      · exact ok.ap i j ds es a b2 c2 (by rw [wipe_get own σ i b1]; exact a1) (by rw [wipe_get own σ j c1]; exact a2)
      · exact (nown j es c1 c2).elim
    · exact (nown i ds b1 b2).elim
  · rcases get i _ h1 with ⟨b1, b2⟩ | ⟨b1, b2⟩
    · rcases get j _ h2 with ⟨c1, c2⟩ | ⟨c1, c2⟩
      · exact ok.ad i j ds es a b2 c2 (by rw [wipe_get own σ i b1]; exact a1) (by rw [wipe_get own σ j c1]; exact a2)
      · exact (ndct j es c1 c2).elim
    · exact (ndct i ds b1 b2).elim
end
theorem tLc_imp {K : PySem.W.Frag} {I : FI} {b : FB} {T : FT} {E : FE} {own ts : List Nat} (ht : ∀ i ∈ ts, i ∈ own) : ∀ σ H Q, tF K (fComp own I b T E) σ H Q → tLc (tI K I) (gB K [] 0 ts b) (tT K T) (tF K E) own σ H Q := fun σ H Q h => by
  obtain ⟨As, vs0, B, R, env, d, k, env', ok, z, q⟩ := h
  unfold fComp at z
  cases h1 : I env with
  | none => rw [h1] at z; cases z
  | some y =>
    obtain ⟨ds, e1⟩ := y
    rw [h1] at z
    dsimp only at z
    split at z
    · rename_i no
      cases h2 : compL own b T E ds (wipeE own e1) with
      | none => rw [h2] at z; cases z
      | some y2 =>
        obtain ⟨rs, e2⟩ := y2
        rw [h2] at z
        dsimp only at z
        split at z
        · rename_i hz
          cases z
          refine ⟨As, vs0, B, R, env, ds, e1, ok, h1, fun J GG Y R' H' g ok' wk Dd hD => ?_⟩
          have bD : B Dd = none := le_none ok'.bh hD
          have rD : R' Dd = none := le_none ok'.rh hD
          have ok0 := ok'.new (o := .lst []) hD
          refine lc_it wk.walk (fun i H => ∃ R1 ev accV accD, Grow B R' R1 ∧ R1 Dd = none ∧ Ok K [] [] B R1 H (wipe σ own) ev ∧ Free (wipe σ own) ev Dd ∧ H Dd = some (.lst accV) ∧ DpAll K R1 accV accD ∧ ∃ rs', compL own b T E (ds.drop i) ev = some (rs', e2) ∧ accD ++ rs' = rs)
            ⟨R', wipeE own e1, [], [], .refl _ _, rD, ok0.wiped, fun i es hs e => ?_, upd_same, .nil, rs, h2, rfl⟩ (fun i H _ hP => ?_) (fun i x H H2 hi hP hY => ?_) (fun H hP => ?_)
          · rcases wipeE_get own e1 i _ hs with ⟨a1, a2⟩ | ⟨a1, a2⟩
            · rw [wipe_get own σ i a1] at e
              exact ok'.free_new hD i es a2 e
            · cases a2
          · obtain ⟨R1, ev, accV, accD, g1, r1, ok1, _⟩ := hP
            exact wk.stays H (g1.1.trans ok1.rh)
          · obtain ⟨R1, ev, accV, accD, g1, r1, ok1, fr1, hd1, dp1, rs', z1, hacc⟩ := hP
            have hd : ds[i]? = some ds[i] := List.getElem?_eq_getElem hi
            have y := wk.yields i H x H2 _ hd hY
            have okg := ok1.guard (acc := accV) bD hd1 fr1
            obtain ⟨R2, g2, ok2, dp2⟩ := okg.yld y g1.1
            rw [List.drop_eq_getElem_cons hi] at z1
            unfold compL at z1
            cases h3 : b ds[i] ev with
            | none => rw [h3] at z1; cases z1
            | some e3 =>
              rw [h3] at z1
              dsimp only at z1
              refine ⟨[], _, R2, ev, ds[i], e3, rfl, ok2, dp2, h3, fun σ3 ok3 w3 => ?_⟩
              have w3' : wipe σ3 own = wipe σ own := by
                rw [w3 own ht]
                have idem : ∀ (vs : List Nat) (τ : L2.St), wipe (wipe τ vs) vs = wipe τ vs := fun vs τ => by
                  apply List.ext_getElem?
                  intro j
                  by_cases hj : j ∈ vs
                  · have aux : ∀ (vs : List Nat) (τ : L2.St), j ∈ vs → (wipe τ vs)[j]? = if j < τ.length then some none else none := by
                      intro vs
                      induction vs with
                      | nil => intro τ h; simp at h
                      | cons v vs ih =>
                        intro τ h
                        show ((wipe τ vs).set v none)[j]? = _
                        by_cases hv : v = j
                        · subst hv
                          rw [List.getElem?_set, if_pos rfl, wipe_length]
                        · rw [List.getElem?_set_ne hv]
                          exact ih τ (by
                            rcases List.mem_cons.mp h with h | h
                            · exact absurd h.symm hv
                            · exact h)
                    rw [aux vs _ hj, aux vs _ hj, wipe_length]
                  · rw [wipe_get vs _ j hj]
                exact idem own σ
              refine ⟨w3', ?_⟩
              cases h4 : T e3 with
              | none => rw [h4] at z1; cases z1
              | some y4 =>
                obtain ⟨t4, e4⟩ := y4
                rw [h4] at z1
                refine ⟨[], [], _, R2, e3, t4, e4, ok3, h4, fun R4 H4 g4 ok4 => ?_⟩
                cases t4 with
                | false =>
                  refine iteF ?_
                  obtain ⟨g24, r24⟩ := (g2.trans g4).unguard bD r1
                  have okw := ok4.wiped (own := own)
                  rw [w3'] at okw
                  obtain ⟨oku, fru⟩ := okw.unguard bD
                  refine ⟨R4, _, accV, accD, g1.trans g24, r24, oku, fru, ?_, dpAll_le g24.1 _ dp1, rs', z1, hacc⟩
                  exact ok4.bh.lst upd_same
                | true =>
                  refine iteT ?_
                  dsimp only at z1
                  cases h5 : E e4 with
                  | none => rw [h5] at z1; cases z1
                  | some y5 =>
                    obtain ⟨r5, k5, e5⟩ := y5
                    rw [h5] at z1
                    dsimp only at z1
                    cases h6 : compL own b T E (ds.drop (i + 1)) (wipeE own (stl r5 k5 e5)) with
                    | none => rw [h6] at z1; cases z1
                    | some y6 =>
                      obtain ⟨rs6, e6⟩ := y6
                      rw [h6] at z1
                      cases z1
                      refine ⟨[], [], _, R4, e4, r5, k5, e5, ok4, h5, fun v R5 H5 g5 ok5 res5 => ?_⟩
                      obtain ⟨R6, g6, ok6, dp6⟩ := ok5.stl res5
                      obtain ⟨gA, rA⟩ := (((g2.trans g4).trans g5).trans g6).unguard bD r1
                      have hdD : H5 Dd = some (.lst accV) := ok6.bh.lst upd_same
                      have okw := ok6.wiped (own := own)
                      rw [w3'] at okw
                      obtain ⟨oku, fru⟩ := okw.unguard bD
                      have hlen : accV.length < sizeLine := by
                        have h1 := dpAll_len dp1
                        have h2 := congrArg List.length hacc
                        rw [List.length_append, List.length_cons] at h2
                        omega
                      refine ⟨accV, hdD, hlen, R6, _, accV ++ [v], accD ++ [r5], g1.trans gA, rA, ?_, fru, upd_same, dpAll_snoc (dpAll_le gA.1 _ dp1) dp6, rs6, h6, by rw [List.append_assoc]; exact hacc⟩
                      -- the list at Dd grows
                      have hne : ∀ {G : Hp}, Le G H5 → G Dd = none → Le G (upd H5 Dd (.lst (accV ++ [v]))) := fun {G} l n => ⟨fun b u k e => by rw [upd_ne (ne_of_none e n)]; exact l.1 b u k e, fun b e => by
                        by_cases z : b = Dd
                        · subst z; exact n
                        · rw [upd_ne z] at e; exact l.2 b e⟩
                      refine ⟨oku.len, hne oku.rh rA, hne oku.bh bD, fun j s hs => ?_, oku.ap, oku.ar, oku.ad, tabs_upd oku.tb (.inr (.inl ⟨_, hdD⟩)), oku.nt, oku.nb⟩
                      · have o := oku.sl j s hs
                        cases s with
                        | emp => trivial
                        | pure d => exact o
                        | own es =>
                          obtain ⟨a, ws, e, q1, q2, q3, q4⟩ := o
                          exact ⟨a, ws, e, by rw [upd_ne (fun z => by subst z; exact fru j es hs e)]; exact q1, q2, q3, q4⟩
                        | dct es =>
                          obtain ⟨a, ws, e, q1, q2, q3, q4⟩ := o
                          exact ⟨a, ws, e, by rw [upd_ne (fun z => by subst z; rw [hdD] at q1; cases q1)]; exact q1, q2, q3, q4⟩
          · obtain ⟨R1, ev, accV, accD, g1, r1, ok1, fr1, hd1, dp1, rs', z1, hacc⟩ := hP
            rw [List.drop_length] at z1
            cases z1
            rw [List.append_nil] at hacc
            subst hacc
            have okb := Ok.behind ok' no g1.1 ok1
            refine q (.ref Dd) R1 H (g.trans g1) okb ⟨Dd, accV, accD, rfl, rfl, hd1, dp1, r1, bD, fun i es hs e => ?_⟩
            obtain ⟨a, ws, e9, q1, q2, q3, q4⟩ := okb.sl i _ hs
            rw [e] at e9
            have : Dd = a := by simpa using e9
            subst this
            have hl : e1.length = e2.length := by rw [← ok'.len, ← ok1.len, wipe_length]
            rcases backE_get own e1 e2 i _ hl hs with ⟨c1, c2⟩ | ⟨c1, c2⟩
            · exact fr1 i es c2 (by rw [wipe_get own σ i c1]; exact e)
            · have := List.all_eq_true.mp no i c1
              rw [c2] at this
              cases this
        · cases z
    · cases z
section
variable {X : Cx} {elt tg iter : Expr} {ifs : List Expr} {scope : Scope} {own : List (Str × Nat)} {pos : Pos} {I : FI} {b : FB} {T : FT} {E : FE} {ts : List Nat}
theorem pts_nilD : PTs X [] (tT X.K fTYes) := ⟨fun pins s σ H Q I' h => by
  obtain ⟨As, vs0, B, R, env, t, env', ok, z, q⟩ := h
  cases z
  exact pts_nil.run pins s σ H Q I' (q R H (.refl _ _) ok)⟩
theorem pe_compD (hc : X.calm = true) (hN : X.N.Nodup) (hi : PI X tg iter (tI X.K I)) (ok : BlkOk X.N X.env.scope scope own)
    (hg : ∀ (s : Shared) (H : Hp) (C : Addr) (cl : List (Str × Addr)) (fp : List Addr), PG (X.blk s H scope (compEnvC scope cl C X.env) fp) tg (gB X.K [] 0 ts b))
    (ht : ∀ (s : Shared) (H : Hp) (C : Addr) (cl : List (Str × Addr)) (fp : List Addr), PTs (X.blk s H scope (compEnvC scope cl C X.env) fp) ifs (tT X.K T))
    (he : ∀ (s : Shared) (H : Hp) (C : Addr) (cl : List (Str × Addr)) (fp : List Addr), PE (X.blk s H scope (compEnvC scope cl C X.env) fp) elt (tF X.K E)) (hs : ∀ x, foldedSetIterable iter X.env x = pure x) (hts : ∀ i ∈ ts, i ∈ own.map (·.2)) :
    PE X (.ListComp elt [⟨tg, iter, ifs, 0⟩] scope pos) (tF X.K (fComp (own.map (·.2)) I b T E)) := pe_imp (pe_lc hc hN hi ok hg ht he hs) (tLc_imp hts)
theorem ps_setCompD {i : Nat} {y : Str} {py spos : Pos} {As : List Nat} {np : Nat} (hc : X.calm = true) (hN : X.N.Nodup) (hy : X.N[i]? = some y) (hyl : X.env.scope.names.lookup y = some .local)
    (hsw : swapsWith (.ListComp elt [⟨tg, iter, ifs, 0⟩] scope pos) (some (.Name y py)) spos.line X.env = pure true) (hi : PI X tg iter (tI X.K I)) (ok : BlkOk X.N X.env.scope scope own)
    (hg : ∀ (s : Shared) (H : Hp) (C : Addr) (cl : List (Str × Addr)) (fp : List Addr), PG (X.blk s H scope (compEnvC scope cl C X.env) fp) tg (gB X.K [] 0 ts b))
    (ht : ∀ (s : Shared) (H : Hp) (C : Addr) (cl : List (Str × Addr)) (fp : List Addr), PTs (X.blk s H scope (compEnvC scope cl C X.env) fp) ifs (tT X.K T))
    (he : ∀ (s : Shared) (H : Hp) (C : Addr) (cl : List (Str × Addr)) (fp : List Addr), PE (X.blk s H scope (compEnvC scope cl C X.env) fp) elt (tF X.K E)) (hs : ∀ x, foldedSetIterable iter X.env x = pure x) (hts : ∀ i ∈ ts, i ∈ own.map (·.2)) (ha : np ≤ i ∨ i ∈ As) :
    PS X (.Assign [.Name y py] (.ListComp elt [⟨tg, iter, ifs, 0⟩] scope pos) spos) (tG X.K As np (gSet i (fComp (own.map (·.2)) I b T E))) := ps_imp (ps_setLc hc hN hy hyl hsw hi ok hg ht he hs) (asg_imp (tLc_imp hts) ha)
end
end Pt

namespace Pt
open PySem PySem.Spec PyProof.Rows L2
variable [Tb]

/-! ### built-ins of one argument -/
def rC1 (K : PySem.W.Frag) (g : G1) : List V → Hp → VK → Prop := fun xs H Q => ∃ x, xs = [x] ∧ rD1 K g x H Q
def gLen : G1
  | .list xs => some (.int xs.length, .st)
  | .tuple xs => some (.int xs.length, .st)
  | .str z => if z.length ≤ sizeLine then some (.int z.length, .st) else none
  | _ => none
def gAbs : G1
  | .int i => some (.int (if i < 0 then -i else i), .st)
  | _ => none
def gInt : G1
  | .int i => some (.int i, .st)
  | .bool b => some (.int (if b then 1 else 0), .st)
  | _ => none
def gStr : G1
  | .int i => if i.natAbs.log2 < 1920 then some (.str (toString i), .st) else none
  | _ => none
def gList : G1
  | .list xs => some (.list xs, .fr)
  | .tuple xs => some (.list xs, .fr)
  | _ => none
def gTuple : G1
  | .list xs => some (.tuple xs, .st)
  | .tuple xs => some (.tuple xs, .st)
  | .str x => if x.cps.size ≤ sizeLine then some (.tuple (chars x), .st) else none
  | _ => none
/-- all of them truth values -/
def boolsL : List D → Option (List Bool)
  | [] => some []
  | .bool b :: ds => match boolsL ds with
    | some bs => some (b :: bs)
    | none => none
  | _ => none
def intsL : List D → Option (List Int)
  | [] => some []
  | .int b :: ds => match intsL ds with
    | some bs => some (b :: bs)
    | none => none
  | _ => none
def gAll : G1
  | .list xs => match boolsL xs with
    | some bs => some (.bool (bs.all id), .st)
    | none => none
  | _ => none
def gAny : G1
  | .list xs => match boolsL xs with
    | some bs => some (.bool (bs.any id), .st)
    | none => none
  | _ => none
def gSum : G1
  | .list xs => match intsL xs with
    | some bs => some (.int bs.sum, .st)
    | none => none
  | _ => none
/-- sorted: by insertion -/
def dLe (x y : D) : Bool := !PySem.W.dataLt y x
def ins (x : D) : List D → List D
  | [] => [x]
  | y :: ys => if dLe x y then x :: y :: ys else y :: ins x ys
def isort : List D → List D
  | [] => []
  | x :: xs => ins x (isort xs)
def alikes (ds : List D) : Bool := ds.all fun d => ds.all fun e => PySem.W.alike d e
def sortables (ds : List D) : Bool := (ds.all fun d => match d with | .tuple (_ :: _) => true | _ => false) || ds.all fun d => match d with | .none => false | .tuple _ => false | _ => true
def gSorted : G1
  | .list xs => if alikes xs && sortables xs && xs.all (fun d => decide (d.depth ≤ 60)) then some (.list (isort xs), .fr) else none
  | .tuple xs => if alikes xs && sortables xs && xs.all (fun d => decide (d.depth ≤ 60)) then some (.list (isort xs), .fr) else none
  | _ => none
theorem dLe_eq : dLe = PySem.W.dataLe false (id : D → PyData) := by
  funext x y
  rw [PySem.W.dataLe_eq]
  rfl
theorem dLe_total : PySem.W.TotalLe dLe := by
  rw [dLe_eq]
  exact PySem.W.sortLe_total _ _ _
theorem ins_mem {x z : D} : ∀ {ys : List D}, z ∈ ins x ys ↔ z = x ∨ z ∈ ys
  | [] => by simp [ins]
  | y :: ys => by
    unfold ins
    split
    · simp
    · simp only [List.mem_cons, ins_mem (ys := ys)]
      constructor
      · rintro (h | h | h)
        · exact .inr (.inl h)
        · exact .inl h
        · exact .inr (.inr h)
      · rintro (h | h | h)
        · exact .inr (.inl h)
        · exact .inl h
        · exact .inr (.inr h)
theorem ins_pw {x : D} : ∀ {ys : List D}, ys.Pairwise (fun a b => dLe a b = true) → (ins x ys).Pairwise (fun a b => dLe a b = true)
  | [], _ => by simp [ins]
  | y :: ys, h => by
    unfold ins
    split
    · rename_i hx
      refine List.Pairwise.cons (fun z hz => ?_) h
      rcases List.mem_cons.mp hz with rfl | hz
      · exact hx
      · exact dLe_total.trans _ _ _ hx (List.rel_of_pairwise_cons h hz)
    · rename_i hx
      have hyx : dLe y x = true := (dLe_total.total x y).resolve_left hx
      refine List.Pairwise.cons (fun z hz => ?_) (ins_pw h.of_cons)
      rcases ins_mem.mp hz with rfl | hz
      · exact hyx
      · exact List.rel_of_pairwise_cons h hz
theorem ins_rank {x c : D} : ∀ {ys : List D}, (ins x ys).filter (PySem.W.sameRank dLe c) = (x :: ys).filter (PySem.W.sameRank dLe c)
  | [] => rfl
  | y :: ys => by
    unfold ins
    split
    · rfl
    · rename_i hx
      have ih := ins_rank (x := x) (c := c) (ys := ys)
      rw [List.filter_cons, ih]
      by_cases h1 : PySem.W.sameRank dLe c x = true
      · by_cases h2 : PySem.W.sameRank dLe c y = true
        · exfalso
          unfold PySem.W.sameRank at h1 h2
          rw [Bool.and_eq_true] at h1 h2
          exact hx (dLe_total.trans _ _ _ h1.2 h2.1)
        · simp only [List.filter_cons, h1, h2, if_true, if_false, Bool.false_eq_true]
      · simp only [List.filter_cons, h1, if_false, Bool.false_eq_true]
theorem isort_pw : ∀ (ds : List D), (isort ds).Pairwise (fun a b => dLe a b = true)
  | [] => .nil
  | x :: xs => ins_pw (isort_pw xs)
theorem isort_rank {c : D} : ∀ (ds : List D), (isort ds).filter (PySem.W.sameRank dLe c) = ds.filter (PySem.W.sameRank dLe c)
  | [] => rfl
  | x :: xs => by
    show (ins x (isort xs)).filter _ = _
    rw [ins_rank, List.filter_cons, isort_rank xs, List.filter_cons]
theorem isort_eq (ds : List D) : isort ds = ds.mergeSort (PySem.W.dataLe false id) := by
  rw [← dLe_eq]
  exact PySem.W.sort_unique dLe_total (isort_pw ds) fun c => isort_rank ds
section
variable {X : Cx}
theorem cr_len : CallR X (.builtin "len") (rC1 X.K gLen) := by
  intro pins s σ H xs us Q I r h
  obtain ⟨x, rfl, As, vs0, B, R, σ', env, d, e, k, ok, u, hg, q⟩ := h
  cases d <;> try (cases hg; done)
  case list ds =>
    cases hg
    obtain ⟨a, ws, e1, s1, p1⟩ := u.list ok.rh
    exact call_len_seq pins s σ H _ us Q I r ⟨a, ws, by rw [e1], .inl s1, by rw [dpAll_len p1]; exact Post.int ok q⟩
  case tuple ds =>
    cases hg
    obtain ⟨a, ws, e1, s1, p1, _⟩ := u.tuple ok.rh
    exact call_len_seq pins s σ H _ us Q I r ⟨a, ws, by rw [e1], .inr s1, by rw [dpAll_len p1]; exact Post.int ok q⟩
  case str z =>
    dsimp only [gLen] at hg
    by_cases hz : z.length ≤ sizeLine
    · rw [if_pos hz] at hg
      cases hg
      exact L2.call_len_str pins s σ H _ us Q I r ⟨z, by rw [u.str], hz, Post.int ok q⟩
    · rw [if_neg hz] at hg; cases hg
theorem cr_abs : CallR X (.builtin "abs") (rC1 X.K gAbs) := by
  intro pins s σ H xs us Q I r h
  obtain ⟨x, rfl, As, vs0, B, R, σ', env, d, e, k, ok, u, hg, q⟩ := h
  cases d <;> try (cases hg; done)
  cases hg
  exact call_abs pins s σ H _ us Q I r ⟨_, by rw [u.int], Post.int ok q⟩
theorem cr_int : CallR X (.type "int") (rC1 X.K gInt) := by
  intro pins s σ H xs us Q I r h
  obtain ⟨x, rfl, As, vs0, B, R, σ', env, d, e, k, ok, u, hg, q⟩ := h
  cases d <;> try (cases hg; done)
  case int i => cases hg; exact call_int1 pins s σ H _ us Q I r (.inl ⟨_, by rw [u.int], Post.int ok q⟩)
  case bool i => cases hg; exact call_int1 pins s σ H _ us Q I r (.inr ⟨_, by rw [u.bl], Post.int ok q⟩)
theorem cr_str : CallR X (.type "str") (rC1 X.K gStr) := by
  intro pins s σ H xs us Q I r h
  obtain ⟨x, rfl, As, vs0, B, R, σ', env, d, e, k, ok, u, hg, q⟩ := h
  cases d <;> try (cases hg; done)
  case int i =>
    dsimp only [gStr] at hg
    by_cases hz : i.natAbs.log2 < 1920
    · rw [if_pos hz] at hg
      cases hg
      exact call_str_int pins s σ H _ us Q I r ⟨i, by rw [u.int], hz, Post.str ok q⟩
    · rw [if_neg hz] at hg; cases hg
theorem cr_list : CallR X (.type "list") (rC1 X.K gList) := by
  intro pins s σ H xs us Q I r h
  obtain ⟨x, rfl, As, vs0, B, R, σ', env, d, e, k, ok, u, hg, q⟩ := h
  cases d <;> try (cases hg; done)
  case list ds =>
    cases hg
    obtain ⟨a, ws, e1, s1, p1⟩ := u.list ok.rh
    exact call_list_of pins s σ H _ us Q I r ⟨a, ws, by rw [e1], .inl s1, fun p hp => Post.newL ok hp p1 q⟩
  case tuple ds =>
    cases hg
    obtain ⟨a, ws, e1, s1, p1, _⟩ := u.tuple ok.rh
    exact call_list_of pins s σ H _ us Q I r ⟨a, ws, by rw [e1], .inr s1, fun p hp => Post.newL ok hp p1 q⟩
theorem vals_chars {β : Type} (f : β → Str) : ∀ (cs : List β) (us : List Value), cs.length = us.length → (∀ (i : Nat) (c : β), cs[i]? = some c → ∃ u, us[i]? = some (Value.str (f c) u)) → Vals (cs.map fun c => V.str (f c)) us
  | [], [], _, _ => .nil
  | [], _ :: _, h, _ => by simp at h
  | _ :: _, [], h, _ => by simp at h
  | c :: cs, u :: us, h, g => by
    obtain ⟨t, e⟩ := g 0 c rfl
    cases e
    exact .cons ⟨t, rfl⟩ (vals_chars f cs us (by simpa using h) fun i c' hc => g (i + 1) c' hc)
theorem dps_chars {β : Type} {K : PySem.W.Frag} {R : Hp} (f : β → Str) : ∀ (cs : List β), DpAll K R (cs.map fun c => V.str (f c)) (cs.map fun c => PyData.str (f c))
  | [] => .nil
  | c :: cs => .cons (.str _) (dps_chars f cs)
theorem cr_tuple (hcm : X.calm = true) : CallR X (.type "tuple") (rC1 X.K gTuple) := by
  intro pins s σ H xs us Q I r h
  obtain ⟨x, rfl, As, vs0, B, R, σ', env, d, e, k, ok, u, hg, q⟩ := h
  cases d <;> try (cases hg; done)
  case list ds =>
    cases hg
    obtain ⟨a, ws, e1, s1, p1⟩ := u.list ok.rh
    exact call_tuple_of pins s σ H _ us Q I r ⟨a, ws, by rw [e1], .inl ⟨s1, fun p hp => Post.newT ok hp p1 q⟩⟩
  case tuple ds =>
    cases hg
    obtain ⟨a, ws, e1, s1, p1, dp⟩ := u.tuple ok.rh
    subst e1
    exact call_tuple_of pins s σ H _ us Q I r ⟨a, ws, rfl, .inr ⟨s1, Post.dp ok q dp⟩⟩
  case str z =>
    dsimp only [gTuple] at hg
    split at hg
    · rename_i hz
      cases hg
      have ex := u.str
      subst ex
      obtain ⟨u1, rfl, r1⟩ := r.one
      obtain ⟨t, rfl⟩ := r1
      refine call_tuple_str (I.ok.hd hcm) z t (fun h' tk acc kp ha => ?_) hz
      have I1 : Inv X pins σ H { s with heap := h', toks := tk } := I.kept (t' := tk) kp
      have hl : z.cps.toList.length = acc.toList.length := by rw [Array.length_toList, Array.length_toList, ha.1]
      have rv := vals_chars (fun c => (⟨#[c]⟩ : Str)) z.cps.toList acc.toList hl fun i c hi => by
        have hlt := (List.getElem?_eq_some_iff.mp hi).1
        rw [Array.length_toList] at hlt
        obtain ⟨c', u, e1, e2⟩ := ha.2 i (acc[i]'(by rw [ha.1]; exact hlt)) (Array.getElem?_eq_getElem _)
        rw [Array.getElem?_toList, e1] at hi
        cases hi
        exact ⟨u, by rw [Array.getElem?_toList, ← e2]; exact Array.getElem?_eq_getElem _⟩
      have ea : acc.toList.toArray = acc := by simp
      have I2 : Inv X pins σ (upd H h'.objs.size (.tup (z.cps.toList.map fun c => V.str ⟨#[c]⟩))) { s with heap := h'.push { cls := .type "tuple", data := .seq acc }, toks := tk } :=
        I1.laid (t' := tk) (fun b o e => Heap.get?_push_of_some _ e) (Nat.le_refl _) (show ObjOk X.prog X.w _ _ _ (.tup _) from ⟨by rw [List.length_map, Array.length_toList]; exact hz, acc.toList, rv, by rw [ea]; exact IsTup.new _ _⟩)
      exact ⟨.ref h'.objs.size, _, I2, rfl, Post.newT ok (I1.hok.fresh (Nat.le_refl _)) (dps_chars (fun c => (⟨#[c]⟩ : Str)) z.cps.toList) q⟩
    · cases hg
theorem bools_v {K : PySem.W.Frag} {R : Hp} : ∀ {ds : List D} {vs : List V} {bs : List Bool}, DpAll K R vs ds → boolsL ds = some bs → vs = bs.map V.bl
  | [], vs, bs, h, e => by cases h; cases e; rfl
  | d :: ds, vs, bs, h, e => by
    cases h with
    | cons h1 h2 =>
      cases d <;> try (cases e; done)
      case bool b =>
        dsimp only [boolsL] at e
        cases e2 : boolsL ds with
        | none => rw [e2] at e; cases e
        | some bs' =>
          rw [e2] at e
          cases e
          cases h1
          rw [bools_v h2 e2]; rfl
theorem ints_v {K : PySem.W.Frag} {R : Hp} : ∀ {ds : List D} {vs : List V} {bs : List Int}, DpAll K R vs ds → intsL ds = some bs → vs = bs.map V.int
  | [], vs, bs, h, e => by cases h; cases e; rfl
  | d :: ds, vs, bs, h, e => by
    cases h with
    | cons h1 h2 =>
      cases d <;> try (cases e; done)
      case int b =>
        dsimp only [intsL] at e
        cases e2 : intsL ds with
        | none => rw [e2] at e; cases e
        | some bs' =>
          rw [e2] at e
          cases e
          cases h1
          rw [ints_v h2 e2]; rfl
theorem cr_allD (hc : X.calm = true) : CallR X (.builtin "all") (rC1 X.K gAll) := by
  intro pins s σ H xs us Q I r h
  obtain ⟨x, rfl, As, vs0, B, R, σ', env, d, e, k, ok, u, hg, q⟩ := h
  cases d <;> try (cases hg; done)
  case list ds =>
    dsimp only [gAll] at hg
    cases hb : boolsL ds with
    | none => rw [hb] at hg; cases hg
    | some bs =>
      rw [hb] at hg
      cases hg
      obtain ⟨a, ws, e1, s1, p1⟩ := u.list ok.rh
      exact cr_all hc pins s σ H _ us Q I r ⟨a, bs, by rw [e1], by rw [← bools_v p1 hb]; exact s1, Post.bl ok q⟩
theorem cr_anyD (hc : X.calm = true) : CallR X (.builtin "any") (rC1 X.K gAny) := by
  intro pins s σ H xs us Q I r h
  obtain ⟨x, rfl, As, vs0, B, R, σ', env, d, e, k, ok, u, hg, q⟩ := h
  cases d <;> try (cases hg; done)
  case list ds =>
    dsimp only [gAny] at hg
    cases hb : boolsL ds with
    | none => rw [hb] at hg; cases hg
    | some bs =>
      rw [hb] at hg
      cases hg
      obtain ⟨a, ws, e1, s1, p1⟩ := u.list ok.rh
      exact cr_any hc pins s σ H _ us Q I r ⟨a, bs, by rw [e1], by rw [← bools_v p1 hb]; exact s1, Post.bl ok q⟩
theorem cr_sumD (hc : X.calm = true) : CallR X (.builtin "sum") (rC1 X.K gSum) := by
  intro pins s σ H xs us Q I r h
  obtain ⟨x, rfl, As, vs0, B, R, σ', env, d, e, k, ok, u, hg, q⟩ := h
  cases d <;> try (cases hg; done)
  case list ds =>
    dsimp only [gSum] at hg
    cases hb : intsL ds with
    | none => rw [hb] at hg; cases hg
    | some bs =>
      rw [hb] at hg
      cases hg
      obtain ⟨a, ws, e1, s1, p1⟩ := u.list ok.rh
      exact cr_sum hc pins s σ H _ us Q I r ⟨a, bs, by rw [e1], by rw [← ints_v p1 hb]; exact s1, Post.int ok q⟩
theorem each_of {pins : List (Addr × Obj)} {s : Shared} {σ : L2.St} {H R : Hp} (I : Inv X pins σ H s) (rh : Le R H) : ∀ {ds : List D} {vs : List V} {us : List Value}, DpAll X.K R vs ds → Vals vs us →
    PySem.W.EachIs (fun u (d : D) => ∃ v, RelV v u ∧ Dp X.K R v d) us ds ∧ PySem.W.EachIs (fun u (d : D) => ∃ as, Reads s.heap u d as) us ds
  | [], _, _, h, r => by cases h; cases r; exact ⟨.nil, .nil⟩
  | d :: ds, _, _, h, r => by
    cases h with
    | cons h1 h2 =>
      cases r with
      | cons r1 r2 =>
        obtain ⟨a, b⟩ := each_of I rh h2 r2
        exact ⟨.cons ⟨_, r1, h1⟩ a, .cons (Dp.reads I d _ _ (dp_le rh _ h1) r1) b⟩
theorem of_each {R : Hp} : ∀ {ds : List D} {us : List Value}, PySem.W.EachIs (fun u (d : D) => ∃ v, RelV v u ∧ Dp X.K R v d) us ds → ∃ vs, Vals vs us ∧ DpAll X.K R vs ds
  | _, _, .nil => ⟨[], .nil, .nil⟩
  | _, _, .cons ⟨v, r, h⟩ t => by
    obtain ⟨vs, r2, h2⟩ := of_each t
    exact ⟨v :: vs, .cons r r2, .cons h h2⟩
theorem sorted_ok {ds : List D} (h : (alikes ds && sortables ds && ds.all (fun d => decide (d.depth ≤ 60))) = true) : PySem.W.AllAlike ds ∧ PySem.W.Sortable ds ∧ ∀ d ∈ ds, d.depth ≤ 60 := by
  simp only [Bool.and_eq_true] at h
  obtain ⟨⟨h1, h2⟩, h3⟩ := h
  refine ⟨fun d hd d' hd' => ?_, ?_, fun d hd => of_decide_eq_true (List.all_eq_true.mp h3 d hd)⟩
  · exact List.all_eq_true.mp (List.all_eq_true.mp h1 d hd) d' hd'
  · rcases Bool.or_eq_true_iff.mp h2 with h | h
    · refine .inl fun d hd => ?_
      have := List.all_eq_true.mp h d hd
      split at this
      · exact ⟨_, _, rfl⟩
      · cases this
    · refine .inr fun d hd => ?_
      have := List.all_eq_true.mp h d hd
      exact ⟨fun z => (by subst z; cases this), fun xs z => (by subst z; cases this)⟩
section
open PySem.W PySem.Calls
variable {prog : Program} {w : World} {A : Around} {E : Value → Shared → Prop} {s : Shared} {β : Type} {vs : List Value} {bs : List β} {R : Value → β → Prop}
/-- sorted(xs), xs a list or a tuple -/
theorem sorted_any {T : String} {l : Addr} {o : Obj} {n : Nat} {Q : Value → Shared → Prop} (k : β → PyData) (hT : T = "list" ∨ T = "tuple") (ho : s.heap.get? l = some o) (hc : o.cls = .type T) (hd : o.data = .seq vs.toArray n)
    (e : EachIs R vs bs) (er : EachIs (fun v b => ∃ as, Reads s.heap v (k b) as) vs bs) (hal : AllAlike (bs.map k)) (hk : Sortable (bs.map k)) (hL : bs.length ≤ sizeLine)
    (hu : ∀ x, x ∈ bs → A.units + 2 + (k x).depth < cLine)
    (h : ∀ (h1 : Heap) (out : List Value) (c : Nat) (h' : Heap), (∀ b o, s.heap.get? b = some o → h1.get? b = some o) → (∀ b o, h1.get? b = some o → h'.get? b = some o) → h'.get? h1.objs.size = some (seqObj "list" (List.toArray out) c) → out.length = bs.length → EachIs R out (bs.mergeSort (dataLe false k)) →
      Q (.ref h1.objs.size) { s with heap := h' }) :
    wpAny (model prog w) A (call (.builtin "sorted") [.ref l]) Q E s := by
  have hv : vs.length ≤ sizeLine := by rw [e.length]; exact hL
  refine call_function_entry_kw kind_sorted plain_sorted entry_sorted (args_sorted1 _) ?_
  unfold Builtin.«sorted»
  refine wpAny_bind (m := checkCount "sorted" 1 1 _) (wpAny_pure ?_)
  refine wpAny_bind (wpAny_collect_seq l hT ho hc hd (fun h1 kp1 => ?_) (by simpa using hv))
  have e1 : vs.toArray.toList = vs := by simp
  rw [e1]
  refine wpAny_bind (wpAny_newList ?_ hv)
  have hnew : (h1.push (seqObj "list" vs.toArray 0)).get? h1.objs.size = some (seqObj "list" vs.toArray 0) := Heap.get?_push_size _ rfl
  have nw : ∀ b o, h1.get? b = some o → b ≠ h1.objs.size := fun b o q => Nat.ne_of_lt (Heap.lt_size q)
  have kpS : ∀ b o, s.heap.get? b = some o → (sortingHeap (h1.push (seqObj "list" vs.toArray 0)) h1.objs.size vs).get? b = some o := fun b o q => sortingHeap_old (nw b o (kp1 b o q)) (Heap.get?_push_of_some _ (kp1 b o q))
  have er' : EachIs (fun v b => ∃ as, Reads (sortingHeap (h1.push (seqObj "list" vs.toArray 0)) h1.objs.size vs) v (k b) as) vs bs := er.mono fun _ _ ⟨as, r⟩ => ⟨as, PyProof.Rows.Reads.keeps kpS r⟩
  refine wpAny_bind (wpAny_holding (wpAny_call_entry_kw slot_list_sort ⟨_, hnew, rfl⟩ entry_list_sort (list_sort_vals (s := { s with heap := h1.push (seqObj "list" vs.toArray 0) }) (κ := dataKind (sortingHeap (h1.push (seqObj "list" vs.toArray 0)) h1.objs.size vs) (bs.map k)) hnew
    (SortsAt.data (s := { s with heap := sortingHeap (h1.push (seqObj "list" vs.toArray 0)) h1.objs.size vs }) (each_map (R := fun v d => ∃ as, Reads (sortingHeap (h1.push (seqObj "list" vs.toArray 0)) h1.objs.size vs) v d as) k er') hal hk (bound_map hu)) hv ⟨.none, rfl, ?_⟩) (args_list_sort _)))
  refine wpAny_pure ⟨_, rfl, ?_⟩
  obtain ⟨c, hcc⟩ := sortedHeap_at (h := h1.push (seqObj "list" vs.toArray 0)) (vs := vs) (n := 0) (out := (sortVals (dataKind (sortingHeap (h1.push (seqObj "list" vs.toArray 0)) h1.objs.size vs) (bs.map k)) false vs vs).toArray) hnew
  exact h h1 _ c _ kp1 (fun b o q => (sortedHeap_old (nw b o q) (Heap.lt_size (Heap.get?_push_of_some _ q))).trans (Heap.get?_push_of_some _ q)) hcc (by rw [sortVals_length false rfl]; exact e.length) (sortVals_data false e er' hal)
end
theorem cr_sortedD (hu : X.A.units + 64 < cLine) : CallR X (.builtin "sorted") (rC1 X.K gSorted) := by
  intro pins s σ H xs us Q I r h
  obtain ⟨x, rfl, As, vs0, B, R, σ', env, d, e, k, ok, u, hg, q⟩ := h
  have go : ∀ {T : String} {ds : List D} {vs : List V} {its : List Value} {l : Addr} {o : Obj} {n : Nat}, (T = "list" ∨ T = "tuple") → (if alikes ds && sortables ds && ds.all (fun d => decide (d.depth ≤ 60)) then some (PyData.list (isort ds), Kd.fr) else none) = some (e, k) → Vals vs its → vs.length ≤ sizeLine → DpAll X.K R vs ds → s.heap.get? l = some o → o.cls = .type T → o.data = .seq its.toArray n →
      wpAny (model X.prog X.w) X.A (call (.builtin "sorted") [.ref l]) (EP X pins σ Q) X.xe s := by
    intro T ds vs its l o n hT hz rv hsz p1 ho hcl hd
    split at hz
    · rename_i hz'
      cases hz
      obtain ⟨hal, hso, hde⟩ := sorted_ok hz'
      obtain ⟨ea, eb⟩ := each_of I ok.rh p1 rv
      have mid : ds.map (id : D → D) = ds := List.map_id ds
      have hlen : ds.length ≤ sizeLine := by rw [← dpAll_len p1]; exact hsz
      refine sorted_any (id : D → PyData) hT ho hcl hd ea eb (by rw [mid]; exact hal) (by rw [mid]; exact hso) hlen (fun d hd => by have := hde d hd; show X.A.units + 2 + d.depth < cLine; omega) fun h1 out c h' kp1 kp2 hD hl eo => ?_
      rw [← isort_eq] at eo
      obtain ⟨vs', rvs, dps⟩ := of_each eo
      have I3 : Inv X pins σ H { s with heap := h1, toks := s.toks } := I.kept kp1
      have hl2 : vs'.length ≤ sizeLine := by rw [rvs.length, hl]; exact hlen
      have hfr : H h1.objs.size = none := I3.hok.fresh (Nat.le_refl _)
      exact ⟨.ref h1.objs.size, _, I3.laid (t' := s.toks) (o := .lst vs') kp2 (Nat.le_refl _) ⟨hl2, out, c, rvs, hD⟩, rfl, Post.newL ok hfr dps q⟩
    · cases hz
  cases d <;> try (cases hg; done)
  case list ds =>
    obtain ⟨a, ws, e1, s1, p1⟩ := u.list ok.rh
    subst e1
    obtain ⟨u1, rfl, r1⟩ := r.one
    cases r1
    obtain ⟨its, rv, ⟨o, n, ho, hc, _, hd⟩, hsz⟩ := I.list s1
    exact go (.inl rfl) hg rv hsz p1 ho hc hd
  case tuple ds =>
    obtain ⟨a, ws, e1, s1, p1, _⟩ := u.tuple ok.rh
    subst e1
    obtain ⟨u1, rfl, r1⟩ := r.one
    cases r1
    obtain ⟨its, rv, ⟨o, ho, hc, n, hd⟩, hsz⟩ := I.tuple s1
    exact go (.inr rfl) hg rv hsz p1 ho hc hd

/-- isinstance(x, T) -/
def gIs (T : String) : G1 := fun d => match T with
  | "int" => some (.bool d.isInt, .st)
  | "bool" => some (.bool d.isBool, .st)
  | "str" => some (.bool d.isStr, .st)
  | "list" => some (.bool d.isList, .st)
  | "tuple" => some (.bool d.isTuple, .st)
  | "dict" => some (.bool d.isDict, .st)
  | _ => none
variable {x : Str} {p pos : Pos} {e : Expr} {F : FE} {id T : String} {g : G1}
theorem pe_b1 (hc : CallR X (.builtin id) (rC1 X.K g)) (hg : Gl X x) (hm : X.mg x = none) (hv : bootBuiltins x = some (.builtin id)) (ha : PE X e (tF X.K F)) (hn : x ≠ "__name__") (hdb : (x == ("__debug__" : Str)) = false)
    (he : starEach [e] X.env = (false, eval e X.env) :: starEach [] X.env) : PE X (.Call (.Name x p) [e] [] pos) (tF X.K (fOne g F)) :=
  pe_imp (pe_callB hc hg hm hv (pa_cons ha pa_nil he) hn hdb he) fun σ H Q h => use_one (r := fun x H1 Q => rC1 X.K g [x] H1 Q) (fun As vs0 B R H σ env x d e k Q ok u hg q => ⟨x, rfl, rul1_d _ _ As vs0 B R H σ env x d e k Q ok u hg q⟩) h
theorem pe_t1 (hc : CallR X (.type T) (rC1 X.K g)) (hg : Gl X x) (hm : X.mg x = none) (hv : bootBuiltins x = some (.type T)) (ha : PE X e (tF X.K F)) (hn : x ≠ "__name__") (hdb : (x == ("__debug__" : Str)) = false)
    (he : starEach [e] X.env = (false, eval e X.env) :: starEach [] X.env) : PE X (.Call (.Name x p) [e] [] pos) (tF X.K (fOne g F)) :=
  pe_imp (pe_callTy hc hg hm hv (pa_cons ha pa_nil he) hn hdb he) fun σ H Q h => use_one (r := fun x H1 Q => rC1 X.K g [x] H1 Q) (fun As vs0 B R H σ env x d e k Q ok u hg q => ⟨x, rfl, rul1_d _ _ As vs0 B R H σ env x d e k Q ok u hg q⟩) h
end
end Pt

namespace Pt
open PySem PySem.Spec PyProof.Rows L2
variable [Tb]

/-! ### isinstance -/
inductive Ty where
  | int | bool | str | list | tuple | dict
  deriving DecidableEq
def Ty.nm : Ty → String
  | .int => "int" | .bool => "bool" | .str => "str" | .list => "list" | .tuple => "tuple" | .dict => "dict"
def dTy : D → String
  | .none => "NoneType" | .bool _ => "bool" | .int _ => "int" | .str _ => "str" | .list _ => "list" | .tuple _ => "tuple" | .dict _ => "dict"
def isa : D → Ty → Bool
  | .bool _, .bool => true
  | .bool _, .int => true
  | .int _, .int => true
  | .str _, .str => true
  | .list _, .list => true
  | .tuple _, .tuple => true
  | _, _ => false
def gIsa (ts : List Ty) : G1 := fun d => match d with
  | .dict _ => none
  | _ => some (.bool (ts.any (isa d)), .st)
theorem kit_isa {K : PySem.W.Frag} {d : D} (h : ∀ k, d ≠ .dict k) (t : Ty) : PySem.W.kitOne K (.type (dTy d)) (.type t.nm) = some (isa d t) := by
  cases d with
  | dict k => exact absurd rfl (h k)
  | none => cases t <;> exact kit_ty (by decide +kernel)
  | bool b => cases t <;> exact kit_ty (by simp only [isa, dTy, Ty.nm]; decide +kernel)
  | int b => cases t <;> exact kit_ty (by simp only [isa, dTy, Ty.nm]; decide +kernel)
  | str b => cases t <;> exact kit_ty (by simp only [isa, dTy, Ty.nm]; decide +kernel)
  | list b => cases t <;> exact kit_ty (by simp only [isa, dTy, Ty.nm]; decide +kernel)
  | tuple b => cases t <;> exact kit_ty (by simp only [isa, dTy, Ty.nm]; decide +kernel)
theorem kit_any {K : PySem.W.Frag} {d : D} (h : ∀ k, d ≠ .dict k) : ∀ ts : List Ty, PySem.W.kitAny K (.type (dTy d)) (ts.map fun t => .type t.nm) = some (ts.any (isa d))
  | [] => rfl
  | t :: ts => by
    refine kitAny_cons (kit_isa h t) (fun e => ?_) (fun e => ?_)
    · rw [List.any_cons, e, Bool.false_or]; exact kit_any h ts
    · rw [List.any_cons, e, Bool.true_or]
theorem ty_of {K : PySem.W.Frag} {R H : Hp} {x : V} {d : D} (rh : Le R H) (u : UseOk K R H x d) : TyX K H x (.type (dTy d)) := by
  cases d with
  | none => rw [u.non]; exact .base .non
  | bool b => rw [u.bl]; exact .base (.bl b)
  | int i => rw [u.int]; exact .base (.int i)
  | str s => rw [u.str]; exact .base (.str s)
  | list ds =>
    obtain ⟨a, vs, e, h, _⟩ := u.list rh
    subst e
    rcases h with (h | ⟨o, h⟩) | ⟨o, its, n, h1, h2, _⟩
    · exact .base (.lst h)
    · exact .base (.frz h)
    · exact .kList h1 h2
  | tuple ds =>
    obtain ⟨a, vs, e, h, _⟩ := u.tuple rh
    subst e
    rcases h with (h | ⟨o, h⟩) | ⟨o, its, n, h1, h2, _⟩
    · exact .base (.tup h)
    · exact .fTuple h
    · exact .kTuple h1 h2
  | dict k =>
    rcases u with u | ⟨a, vs, ds, e, e2, _⟩
    · cases u
    · cases e2
section
variable {X : Cx} {x : Str} {p pos p2 p3 : Pos} {e : Expr} {F : FE}
theorem gIsa_some {ts : List Ty} {d e : D} {k : Kd} (h : gIsa ts d = some (e, k)) : (∀ z, d ≠ .dict z) ∧ e = .bool (ts.any (isa d)) ∧ k = .st := by
  cases d <;> first | (cases h; done) | (refine ⟨fun z q => (by cases q), ?_⟩; cases h; exact ⟨rfl, rfl⟩)
theorem pe_isa1 {t : Ty} {y : Str} (hg : Gl X "isinstance") (hm : X.mg "isinstance" = none) (hgy : Gl X y) (hmy : X.mg y = none) (hvy : bootBuiltins y = some (.type t.nm)) (hny : y ≠ "__name__") (hdy : (y == ("__debug__" : Str)) = false) (ha : PE X e (tF X.K F))
    (he : starEach [e, .Name y p2] X.env = (false, eval e X.env) :: starEach [.Name y p2] X.env) : PE X (.Call (.Name "isinstance" p) [e, .Name y p2] [] pos) (tF X.K (fOne (gIsa [t]) F)) :=
  pe_imp (pe_callB call_isi hg hm boot_isinstance (pa_cons ha (pa_cons (pe_bltn hgy hmy hvy (show RelV (.ty t.nm) _ from rfl) hny hdy) pa_nil rfl) he) (by decide) (by decide) he rfl) fun σ H Q h =>
    use_one (r := fun x H1 Q => rIsi X.K [x, .ty t.nm] H1 Q) (fun As vs0 B R H σ env x d e k Q ok u hg q => by
      obtain ⟨h1, h2, h3⟩ := gIsa_some hg
      subst h2 h3
      refine ⟨x, .ty t.nm, _, _, isa d t, rfl, .ty _, ty_of ok.rh u, kit_isa h1 t, ?_⟩
      have : [t].any (isa d) = isa d t := by simp
      rw [this] at q
      exact Post.bl ok q) h
theorem pe_isa2 {t t2 : Ty} {y y2 : Str} {kt : Nat} {p4 : Pos} (hg : Gl X "isinstance") (hm : X.mg "isinstance" = none) (hgy : Gl X y) (hmy : X.mg y = none) (hvy : bootBuiltins y = some (.type t.nm)) (hny : y ≠ "__name__") (hdy : (y == ("__debug__" : Str)) = false)
    (hgz : Gl X y2) (hmz : X.mg y2 = none) (hvz : bootBuiltins y2 = some (.type t2.nm)) (hnz : y2 ≠ "__name__") (hdz : (y2 == ("__debug__" : Str)) = false) (ha : PE X e (tF X.K F))
    (he : starEach [e, .Tuple [.Name y p2, .Name y2 p3] kt p4] X.env = (false, eval e X.env) :: starEach [.Tuple [.Name y p2, .Name y2 p3] kt p4] X.env) : PE X (.Call (.Name "isinstance" p) [e, .Tuple [.Name y p2, .Name y2 p3] kt p4] [] pos) (tF X.K (fOne (gIsa [t, t2]) F)) :=
  pe_imp (pe_callB call_isiT hg hm boot_isinstance (pa_cons ha (pa_cons (pe_tup (pa_cons (pe_bltn hgy hmy hvy (show RelV (.ty t.nm) _ from rfl) hny hdy) (pa_cons (pe_bltn hgz hmz hvz (show RelV (.ty t2.nm) _ from rfl) hnz hdz) pa_nil rfl) rfl)) pa_nil rfl) he) (by decide) (by decide) he rfl) fun σ H Q h =>
    use_one (r := fun x H1 Q => tTup (tCons (tC (.ty t.nm)) (tCons (tC (.ty t2.nm)) tNil)) σ H1 fun y H2 => rIsiT X.K [x, y] H2 Q) (fun As vs0 B R H σ env x d e k Q ok u hg q => by
      obtain ⟨h1, h2, h3⟩ := gIsa_some hg
      subst h2 h3
      refine ⟨by show 2 ≤ sizeLine; decide, fun p hp => ?_⟩
      have ok' := ok.new (o := .tup [.ty t.nm, .ty t2.nm]) hp
      have u' : UseOk X.K R (upd H p (.tup [.ty t.nm, .ty t2.nm])) x d := u.le (Le.refl R) fun a vs h => by rw [upd_ne (ne_of_none h hp)]; exact h
      refine ⟨x, p, [.ty t.nm, .ty t2.nm], _, [.type t.nm, .type t2.nm], [t, t2].any (isa d), rfl, upd_same, .cons (.ty _) (.cons (.ty _) .nil), ty_of ok'.rh u', ?_, Post.bl ok' q⟩
      exact kit_any h1 [t, t2]) h
end
end Pt

namespace Pt
open PySem PySem.Spec PyProof.Rows L2
variable [Tb]

/-! ### a list of the frame's own is changed -/
/-- x.append(e) -/
def fApp (i : Nat) (F : FE) : FE := fun env => match env[i]? with
  | some (.own _) => match F env with
    | some (d, k, e1) => match (stl d k e1)[i]? with
      | some (.own ds) => if ds.length < sizeLine then some (.none, .st, (stl d k e1).set i (.own (ds ++ [d]))) else none
      | _ => none
    | none => none
  | _ => none
/-- x.extend(e), e a list -/
def fExt (i : Nat) (F : FE) : FE := fun env => match env[i]? with
  | some (.own _) => match F env with
    | some (.list es, .fr, e1) => match e1[i]? with
      | some (.own ds) => if ds.length + es.length ≤ sizeLine then some (.none, .st, e1.set i (.own (ds ++ es))) else none
      | _ => none
    | _ => none
  | _ => none
/-- x.pop(e) -/
def fPopAt (i : Nat) (F : FE) : FE := fun env => match env[i]? with
  | some (.own _) => match F env with
    | some (.int j, _, e1) => match e1[i]? with
      | some (.own ds) => if decide (-(2 ^ 63) ≤ j) && decide (j < 2 ^ 63) then match seqIndex? j ds.length with
          | some m => match ds[m]? with
            | some d => some (d, .st, e1.set i (.own (ds.eraseIdx m)))
            | none => none
          | none => none
        else none
      | _ => none
    | _ => none
  | _ => none
/-- x.pop() -/
def fPop (i : Nat) : FE := fun env => match env[i]? with
  | some (.own ds) => match ds[ds.length - 1]? with
    | some d => some (d, .st, env.set i (.own ds.dropLast))
    | none => none
  | _ => none
/-- x[a] = e -/
def gSetI (i : Nat) (Fi Fe : FE) : FG := fun env => match Fe env with
  | some (d, k, e1) => match (stl d k e1)[i]? with
    | some (.own _) => match Fi (stl d k e1) with
      | some (.int j, _, e2) => match e2[i]? with
        | some (.own ds) => match ixN ds.length j with
          | some m => some (.nx (e2.set i (.own (ds.set m d))))
          | none => none
        | _ => none
      | _ => none
    | _ => none
  | none => none
theorem dpAll_erase {K : PySem.W.Frag} {R : Hp} : ∀ (n : Nat) {ds : List D} {vs : List V}, DpAll K R vs ds → DpAll K R (vs.eraseIdx n) (ds.eraseIdx n)
  | _, [], _, x => by cases x; exact .nil
  | 0, e :: ds, _, x => by cases x with | cons a b => exact b
  | n + 1, e :: ds, _, x => by cases x with | cons a b => exact .cons a (dpAll_erase n b)
theorem dpAll_dropLast {K : PySem.W.Frag} {R : Hp} {ds : List D} {vs : List V} (h : DpAll K R vs ds) : DpAll K R vs.dropLast ds.dropLast := by
  rw [List.dropLast_eq_take, List.dropLast_eq_take, dpAll_len h]
  exact dpAll_take _ h
section
variable {X : Cx} {e o : Expr} {es : List Expr} {F : FE} {i : Nat} {x : Str} {p apos cpos pos : Pos}
theorem own_slot {K : PySem.W.Frag} {As : List Nat} {vs0 : List V} {B R H : Hp} {σ : L2.St} {env : Ev} {ds : List D} (ok : Ok K As vs0 B R H σ env) (h : env[i]? = some (.own ds)) : ∃ a vs, σ[i]? = some (some (V.ref a)) ∧ H a = some (.lst vs) ∧ DpAll K R vs ds := by
  obtain ⟨a, vs, e, h1, h2, _⟩ := ok.sl i _ h
  exact ⟨a, vs, e, h1, h2⟩
theorem app_imp {K : PySem.W.Frag} {te : TE} (w : ∀ σ H Q, tF K F σ H Q → te σ H Q) : ∀ σ H Q, tF K (fApp i F) σ H Q → tBM K "list" rAppend (tVar i) (tCons te tNil) σ H Q := fun σ H Q h => by
  obtain ⟨As, vs0, B, R, env, d, k, env', ok, z, q⟩ := h
  unfold fApp at z
  split at z
  · rename_i ds0 h0
    obtain ⟨a, vs, e0, h1, h2⟩ := own_slot ok h0
    refine ⟨.ref a, e0, .inl ⟨rfl, vs, SqL.of h1⟩, ?_⟩
    cases h3 : F env with
    | none => rw [h3] at z; cases z
    | some y =>
      obtain ⟨d1, k1, e1⟩ := y
      rw [h3] at z
      dsimp only at z
      split at z
      · rename_i ds1 h4
        split at z
        · rename_i hz
          cases z
          refine w σ H _ ⟨As, vs0, B, R, env, d1, k1, e1, ok, h3, fun v R1 H1 g1 ok1 r1 => ?_⟩
          obtain ⟨R2, g2, ok2, dp⟩ := ok1.stl r1
          obtain ⟨a', vs', e0', h1', h2'⟩ := own_slot ok2 h4
          rw [e0] at e0'
          have : a = a' := by simpa using e0'
          subst this
          exact ⟨a, vs', v, rfl, rfl, h1', by rw [dpAll_len h2']; exact hz, q _ R2 _ (g1.trans g2) (ok2.write h4 e0 (dpAll_snoc h2' dp)) .non⟩
        · cases z
      · cases z
  · cases z
theorem pe_appD (hN : X.N[i]? = some x) (hv : Vis X.env.scope x) (hd : (x == ("__debug__" : Str)) = false) (hcd : (x == ("__classdict__" : Str)) = false) (ha : PE X e (tF X.K F))
    (hbase : attributeBase (.Name x p) "append" X.env (eval (.Name x p) X.env) = eval (.Name x p) X.env)
    (hfew : ((backTo cpos (starEach [e] X.env)).all (fun x => !x.1) && (backToKw cpos (keywordEach [] X.env)).all (fun x => x.1.isSome) && decide ([e].length + ([] : List Keyword).length + (if ([] : List Keyword).isEmpty then 0 else 1) < 30)) = true)
    (hline : (apos.endLine == cpos.line) = true) (hs : starEach [e] X.env = (false, eval e X.env) :: starEach [] X.env) :
    PE X (.Call (.Attribute (.Name x p) "append" apos) [e] [] cpos) (tF X.K (fApp i F)) :=
  pe_imp (pe_bm PySem.F.plainAttrs_list PySem.F.slot_list_append PySem.F.type_list_append mt_append (pe_var hN hv hd hcd) (pa_cons ha pa_nil hs) hbase hfew hline hs rfl) (app_imp fun _ _ _ h => h)
theorem pe_extD (hN : X.N[i]? = some x) (hv : Vis X.env.scope x) (hd : (x == ("__debug__" : Str)) = false) (hcd : (x == ("__classdict__" : Str)) = false) (ha : PE X e (tF X.K F))
    (hbase : attributeBase (.Name x p) "extend" X.env (eval (.Name x p) X.env) = eval (.Name x p) X.env)
    (hfew : ((backTo cpos (starEach [e] X.env)).all (fun x => !x.1) && (backToKw cpos (keywordEach [] X.env)).all (fun x => x.1.isSome) && decide ([e].length + ([] : List Keyword).length + (if ([] : List Keyword).isEmpty then 0 else 1) < 30)) = true)
    (hline : (apos.endLine == cpos.line) = true) (hs : starEach [e] X.env = (false, eval e X.env) :: starEach [] X.env) :
    PE X (.Call (.Attribute (.Name x p) "extend" apos) [e] [] cpos) (tF X.K (fExt i F)) :=
  pe_imp (pe_bm PySem.F.plainAttrs_list PySem.F.slot_list_extend PySem.F.type_list_extend mt_extend (pe_var hN hv hd hcd) (pa_cons ha pa_nil hs) hbase hfew hline hs rfl) fun σ H Q h => by
  obtain ⟨As, vs0, B, R, env, d, k, env', ok, z, q⟩ := h
  unfold fExt at z
  split at z
  · rename_i ds0 h0
    obtain ⟨a, vs, e0, h1, h2⟩ := own_slot ok h0
    refine ⟨.ref a, e0, .inl ⟨rfl, vs, SqL.of h1⟩, ?_⟩
    split at z
    · rename_i es1 e1 h3
      split at z
      · rename_i ds1 h4
        split at z
        · rename_i hz
          cases z
          refine ⟨As, vs0, B, R, env, _, _, e1, ok, h3, fun v R1 H1 g1 ok1 r1 => ?_⟩
          obtain ⟨b, ws, ds, ev, ed, hb1, hb2, hb3, hb4, hb5⟩ := r1
          cases ed
          obtain ⟨a', vs', e0', h1', h2'⟩ := own_slot ok1 h4
          rw [e0] at e0'
          have : a = a' := by simpa using e0'
          subst this
          exact ⟨a, b, vs', ws, rfl, by rw [ev], h1', hb1, by rw [dpAll_len h2', dpAll_len hb2]; exact hz, q _ R1 _ g1 (ok1.write h4 e0 (dpAll_append h2' hb2)) .non⟩
        · cases z
      · cases z
    · cases z
  · cases z
theorem pe_popAtD (hN : X.N[i]? = some x) (hv : Vis X.env.scope x) (hd : (x == ("__debug__" : Str)) = false) (hcd : (x == ("__classdict__" : Str)) = false) (ha : PE X e (tF X.K F))
    (hbase : attributeBase (.Name x p) "pop" X.env (eval (.Name x p) X.env) = eval (.Name x p) X.env)
    (hfew : ((backTo cpos (starEach [e] X.env)).all (fun x => !x.1) && (backToKw cpos (keywordEach [] X.env)).all (fun x => x.1.isSome) && decide ([e].length + ([] : List Keyword).length + (if ([] : List Keyword).isEmpty then 0 else 1) < 30)) = true)
    (hline : (apos.endLine == cpos.line) = true) (hs : starEach [e] X.env = (false, eval e X.env) :: starEach [] X.env) :
    PE X (.Call (.Attribute (.Name x p) "pop" apos) [e] [] cpos) (tF X.K (fPopAt i F)) :=
  pe_imp (pe_bm PySem.F.plainAttrs_list PySem.F.slot_list_pop PySem.F.type_list_pop mt_popAt (pe_var hN hv hd hcd) (pa_cons ha pa_nil hs) hbase hfew hline hs rfl) fun σ H Q h => by
  obtain ⟨As, vs0, B, R, env, d, k, env', ok, z, q⟩ := h
  unfold fPopAt at z
  split at z
  · rename_i ds0 h0
    obtain ⟨a, vs, e0, h1, h2⟩ := own_slot ok h0
    refine ⟨.ref a, e0, .inl ⟨rfl, vs, SqL.of h1⟩, ?_⟩
    split at z
    · rename_i j k1 e1 h3
      split at z
      · rename_i ds1 h4
        split at z
        · rename_i hz
          split at z
          · rename_i m hm
            split at z
            · rename_i dd hdd
              cases z
              simp only [Bool.and_eq_true, decide_eq_true_eq] at hz
              refine ⟨As, vs0, B, R, env, _, _, e1, ok, h3, fun v R1 H1 g1 ok1 r1 => ?_⟩
              have ev := (ok1.use r1).int
              obtain ⟨a', vs', e0', h1', h2'⟩ := own_slot ok1 h4
              rw [e0] at e0'
              have : a = a' := by simpa using e0'
              subst this
              obtain ⟨w, hw, dp⟩ := dpAll_get' h2' hdd
              refine ⟨a, vs', j, m, w, rfl, by rw [ev], h1', hz.1, hz.2, by rw [dpAll_len h2']; exact hm, hw, ?_⟩
              exact q _ R1 _ g1 (ok1.write h4 e0 (dpAll_erase m h2')) dp
            · cases z
          · cases z
        · cases z
      · cases z
    · cases z
  · cases z
theorem pe_popD (hN : X.N[i]? = some x) (hv : Vis X.env.scope x) (hd : (x == ("__debug__" : Str)) = false) (hcd : (x == ("__classdict__" : Str)) = false)
    (hbase : attributeBase (.Name x p) "pop" X.env (eval (.Name x p) X.env) = eval (.Name x p) X.env)
    (hline : (apos.endLine == cpos.line) = true) :
    PE X (.Call (.Attribute (.Name x p) "pop" apos) [] [] cpos) (tF X.K (fPop i)) :=
  pe_imp (pe_bm0 PySem.F.plainAttrs_list PySem.F.slot_list_pop PySem.F.type_list_pop mt_pop (pe_var hN hv hd hcd) hbase hline) fun σ H Q h => by
  obtain ⟨As, vs0, B, R, env, d, k, env', ok, z, q⟩ := h
  unfold fPop at z
  split at z
  · rename_i ds0 h0
    obtain ⟨a, vs, e0, h1, h2⟩ := own_slot ok h0
    split at z
    · rename_i dd hdd
      cases z
      obtain ⟨w, hw, dp⟩ := dpAll_get' h2 hdd
      refine ⟨.ref a, e0, .inl ⟨rfl, vs, SqL.of h1⟩, a, vs, w, rfl, rfl, h1, by rw [dpAll_len h2]; exact hw, ?_⟩
      exact q _ R _ (.refl _ _) (ok.write h0 e0 (dpAll_dropLast h2)) dp
    · cases z
  · cases z
variable {As : List Nat} {np : Nat} {a : Expr} {Fi Fe : FE} {p2 : Pos}
theorem ps_setI (hN : X.N[i]? = some x) (hv : Vis X.env.scope x) (hd : (x == ("__debug__" : Str)) = false) (hcd : (x == ("__classdict__" : Str)) = false) (he : PE X e (tF X.K Fe)) (hi : PE X a (tF X.K Fi))
    (hs : swapsWithSole [.Subscript (.Name x p) a p2] e pos.line X.env = pure false) (hw : swappedStores [.Subscript (.Name x p) a p2] e X.env = pure none)
    (ha : ∀ v, assign (.Subscript (.Name x p) a p2) X.env v = (do
      let ov ← holding [v] (eval (.Name x p) X.env)
      let iv ← holding [v, ov] (eval a X.env)
      standAt p2
      holding [v, ov, iv] (setItem ov iv v)
      release [v, ov, iv] [])) :
    PS X (.Assign [.Subscript (.Name x p) a p2] e pos) (tG X.K As np (gSetI i Fi Fe)) :=
  ps_imp (ps_asg he (pg_sub (pe_var hN hv hd hcd) hi set_list ha) hs hw rfl) fun D σ H h => by
  obtain ⟨vs0, B, R, env, out, hn, ok, z, q⟩ := h
  unfold gSetI at z
  cases h1 : Fe env with
  | none => rw [h1] at z; cases z
  | some y =>
    obtain ⟨d1, k1, e1⟩ := y
    rw [h1] at z
    dsimp only at z
    split at z
    · rename_i ds0 h0
      split at z
      · rename_i j k2 e2 h2
        split at z
        · rename_i ds h3
          split at z
          · rename_i m hm
            cases z
            refine ⟨As, vs0, B, R, env, d1, k1, e1, ok, h1, fun v R1 H1 g1 ok1 r1 => ?_⟩
            obtain ⟨R2, g2, ok2, dp⟩ := ok1.stl r1
            obtain ⟨b, vs, e0, _, _⟩ := own_slot ok2 h0
            refine ⟨.ref b, e0, As, vs0, B, R2, _, _, _, e2, ok2, h2, fun u R3 H3 g3 ok3 r3 => ?_⟩
            obtain ⟨b', vs', e0', q1, q2⟩ := own_slot ok3 h3
            rw [e0] at e0'
            have : b = b' := by simpa using e0'
            subst this
            refine ⟨b, vs', j, m, rfl, (ok3.use r3).int, q1, by rw [dpAll_len q2]; exact hm, ?_⟩
            exact q σ R3 _ ((g1.trans g2).trans g3) (ok3.write h3 e0 (dpAll_set (dp_le g3.1 _ dp) m q2))
          · cases z
        · cases z
      · cases z
    · cases z
end
end Pt

namespace Pt
open PySem PySem.Spec PyProof.Rows L2
variable [Tb]

/-! ### several results at once, new lists kept apart -/
abbrev FK := Ev → Option (List (D × Bool) × Ev)
def isFr : Kd → Bool
  | .fr => true
  | _ => false
def fkNil : FK := fun env => some ([], env)
def fkCons (F : FE) (G : FK) : FK := fun env => match F env with
  | some (d, k, e1) => match G (stl d k e1) with
    | some (rs, e2) => some ((d, isFr k) :: rs, e2)
    | none => none
  | none => none
def FrOk (K : PySem.W.Frag) (B R H : Hp) (σ : L2.St) (env : Ev) (v : V) (d : D) : Prop := ∃ a vs ds, v = .ref a ∧ d = .list ds ∧ H a = some (.lst vs) ∧ DpAll K R vs ds ∧ R a = none ∧ B a = none ∧ Free σ env a
inductive KOk (K : PySem.W.Frag) (B R H : Hp) (σ : L2.St) (env : Ev) : List V → List (D × Bool) → Prop
  | nil : KOk K B R H σ env [] []
  | st {v : V} {vs : List V} {d : D} {rs : List (D × Bool)} : Dp K R v d → KOk K B R H σ env vs rs → KOk K B R H σ env (v :: vs) ((d, false) :: rs)
  | fr {v : V} {vs : List V} {d : D} {rs : List (D × Bool)} : FrOk K B R H σ env v d → (∀ (p : Nat) (d' : D), rs[p]? = some (d', true) → vs[p]? ≠ some v) → KOk K B R H σ env vs rs → KOk K B R H σ env (v :: vs) ((d, true) :: rs)
theorem KOk.len {K : PySem.W.Frag} {B R H : Hp} {σ : L2.St} {env : Ev} : ∀ {vs : List V} {rs : List (D × Bool)}, KOk K B R H σ env vs rs → vs.length = rs.length
  | _, _, .nil => rfl
  | _, _, .st _ t => by simp [t.len]
  | _, _, .fr _ _ t => by simp [t.len]
theorem KOk.get {K : PySem.W.Frag} {B R H : Hp} {σ : L2.St} {env : Ev} : ∀ {vs : List V} {rs : List (D × Bool)} {p : Nat} {d : D}, KOk K B R H σ env vs rs → rs[p]? = some (d, true) → ∃ v, vs[p]? = some v ∧ FrOk K B R H σ env v d
  | _, _, p, d, .nil, e => by simp at e
  | _, _, 0, d, .st _ t, e => by simp at e
  | _, _, 0, d, .fr h _ t, e => by simp at e; subst e; exact ⟨_, rfl, h⟩
  | _, _, p + 1, d, .st _ t, e => by simpa using t.get (by simpa using e)
  | _, _, p + 1, d, .fr _ _ t, e => by simpa using t.get (by simpa using e)
def tK (K : PySem.W.Frag) (G : FK) : TA := fun σ H Q => ∃ As vs0 B R env rs env', Ok K As vs0 B R H σ env ∧ G env = some (rs, env') ∧
  ∀ vs R' H', Grow B R R' → Ok K As vs0 B R' H' σ env' → KOk K B R' H' σ env' vs rs → Q vs H'
section
variable {X : Cx} {e : Expr} {es : List Expr} {F : FE} {G : FK} {pos : Pos}
theorem pk_nilD : PA X [] (tK X.K fkNil) := pa_imp pa_nil fun σ H Q h => by
  obtain ⟨As, vs0, B, R, env, rs, env', ok, z, q⟩ := h
  cases z
  exact q [] R H (.refl _ _) ok .nil
theorem kok_unguard {K : PySem.W.Frag} {B R H : Hp} {σ : L2.St} {env : Ev} {Dd : Addr} {acc : List V} (hn : B Dd = none) : ∀ {vs : List V} {rs : List (D × Bool)}, KOk K (L2.upd B Dd (.lst acc)) R H σ env vs rs → KOk K B R H σ env vs rs ∧ ∀ (p : Nat) (d' : D), rs[p]? = some (d', true) → vs[p]? ≠ some (V.ref Dd)
  | _, _, .nil => ⟨.nil, fun p d' e => by simp at e⟩
  | _, _, .st h t => by
    obtain ⟨a, b⟩ := kok_unguard hn t
    refine ⟨.st h a, fun p d' e => ?_⟩
    cases p with
    | zero => simp at e
    | succ p => simpa using b p d' (by simpa using e)
  | _, _, .fr h n t => by
    obtain ⟨a, b⟩ := kok_unguard hn t
    obtain ⟨x, ws, ds, e1, e2, h1, h2, h3, h4, h5⟩ := h
    have hx : x ≠ Dd := fun z => by rw [z, upd_same] at h4; cases h4
    refine ⟨.fr ⟨x, ws, ds, e1, e2, h1, h2, h3, by rwa [upd_ne hx] at h4, h5⟩ n a, fun p d' e => ?_⟩
    cases p with
    | zero =>
      rw [List.getElem?_cons_zero]
      intro z
      have z := Option.some.inj z
      rw [e1] at z
      exact hx (by simpa using z)
    | succ p => simpa using b p d' (by simpa using e)
theorem pk_consD (ha : PE X e (tF X.K F)) (hr : PA X es (tK X.K G)) (hs : starEach (e :: es) X.env = (false, eval e X.env) :: starEach es X.env) : PA X (e :: es) (tK X.K (fkCons F G)) :=
  pa_imp (pa_cons ha hr hs) fun σ H Q h => by
    obtain ⟨As, vs0, B, R, env, rs, env', ok, z, q⟩ := h
    unfold fkCons at z
    cases h1 : F env with
    | none => rw [h1] at z; cases z
    | some y =>
      obtain ⟨d1, k1, e1⟩ := y
      rw [h1] at z
      dsimp only at z
      cases h2 : G (stl d1 k1 e1) with
      | none => rw [h2] at z; cases z
      | some y2 =>
        obtain ⟨rs2, e2⟩ := y2
        rw [h2] at z
        cases z
        refine ⟨As, vs0, B, R, env, d1, k1, e1, ok, h1, fun v R1 H1 g1 ok1 r1 => ?_⟩
        have set1 : ∀ R2, Grow B R1 R2 → Ok X.K As vs0 B R2 H1 σ (stl d1 k1 e1) → Dp X.K R2 v d1 → tK X.K G σ H1 fun xs H2 => ∀ (hk : isFr k1 = false), Q (v :: xs) H2 := fun R2 g2 ok2 dp =>
          ⟨As, vs0, B, R2, _, rs2, _, ok2, h2, fun vs R3 H3 g3 ok3 al hk => q (v :: vs) R3 H3 ((g1.trans g2).trans g3) ok3 (by rw [hk]; exact .st (dp_le g3.1 _ dp) al)⟩
        have mono : ∀ {Q1 Q2 : List V → Hp → Prop}, (∀ xs H2, Q1 xs H2 → Q2 xs H2) → tK X.K G σ H1 Q1 → tK X.K G σ H1 Q2 := fun hm ⟨a1, a2, a3, a4, a5, a6, a7, a8, a9, a10⟩ => ⟨a1, a2, a3, a4, a5, a6, a7, a8, a9, fun vs R' H' g o k => hm _ _ (a10 vs R' H' g o k)⟩
        cases k1 with
        | st => exact mono (fun _ _ h => h rfl) (set1 R1 (.refl _ _) ok1 r1)
        | pk i =>
          obtain ⟨R2, g2, ok2, dp⟩ := ok1.stl r1
          exact mono (fun _ _ h => h rfl) (set1 R2 g2 ok2 dp)
        | fr =>
          obtain ⟨a, ws, ds, ev, ed, q1, q2, q3, q4, q5⟩ := r1
          have okg := ok1.guard q4 q1 q5
          refine ⟨As, vs0, _, R1, _, rs2, _, okg, h2, fun vs R3 H3 g3 ok3 al => ?_⟩
          obtain ⟨ok4, fr4⟩ := ok3.unguard q4
          obtain ⟨g4, r4⟩ := g3.unguard q4 q3
          obtain ⟨al4, dis⟩ := kok_unguard q4 al
          refine q (v :: vs) R3 H3 (g1.trans g4) ok4 (.fr ⟨a, ws, ds, ev, ed, ok3.bh.lst upd_same, dpAll_le g4.1 _ q2, r4, q4, fr4⟩ (fun p d' e => ?_) al4)
          rw [ev]
          exact dis p d' e
end
/-- the results are stored -/
def putK : List Nat → List (D × Bool) → Ev → Option Ev
  | [], [], env => some env
  | i :: is, (d, false) :: rs, env => putK is rs (env.set i (.pure d))
  | i :: is, (.list ds, true) :: rs, env => putK is rs (env.set i (.own ds))
  | _, _, _ => none
def setAll : List Nat → List V → L2.St → L2.St
  | i :: is, v :: vs, σ => setAll is vs (σ.set i (some v))
  | _, _, σ => σ
theorem putK_ok {K : PySem.W.Frag} {As : List Nat} {vs0 : List V} {B R H : Hp} : ∀ {is : List Nat} {vs : List V} {rs : List (D × Bool)} {σ : L2.St} {env env' : Ev}, Ok K As vs0 B R H σ env → KOk K B R H σ env vs rs → putK is rs env = some env' → (∀ i ∈ is, vs0.length ≤ i ∨ i ∈ As) → Ok K As vs0 B R H (setAll is vs σ) env'
  | [], vs, rs, σ, env, env', ok, al, h, hi => by
    cases al with
    | nil => cases h; exact ok
    | st _ _ => cases h
    | fr _ _ _ => cases h
  | i :: is, vs, rs, σ, env, env', ok, al, h, hi => by
    cases al with
    | nil => cases h
    | @st v1 vs1 d1 rs1 dp t =>
      have h : putK is _ (env.set i (.pure _)) = some env' := h
      have ok1 := ok.put i (s := .pure _) ⟨_, rfl, dp⟩ (fun _ z => by cases z) (hi i (by simp))
      have aux : ∀ {vs : List V} {rs : List (D × Bool)}, KOk K B R H σ env vs rs → KOk K B R H (σ.set i (some v1)) (env.set i (.pure d1)) vs rs := by
        intro vs rs al
        induction al with
        | nil => exact .nil
        | st dp t ih => exact .st dp ih
        | fr hf n t ih =>
          obtain ⟨a, ws, ds, ev, ed, q1, q2, q3, q4, q5⟩ := hf
          refine .fr ⟨a, ws, ds, ev, ed, q1, q2, q3, q4, fun j es hj ej => ?_⟩ n ih
          by_cases z : i = j
          · subst z
            by_cases hl : i < env.length
            · rw [List.getElem?_set_self hl] at hj; cases hj
            · rw [List.getElem?_eq_none (by rw [List.length_set]; omega)] at hj; cases hj
          · rw [List.getElem?_set_ne z] at hj ej
            exact q5 j es hj ej
      have := putK_ok ok1 (aux t) h fun j hj => hi j (by simp [hj])
      exact this
    | @fr v vs d rs hf n t =>
      obtain ⟨a, ws, ds, ev, ed, q1, q2, q3, q4, q5⟩ := hf
      subst ed
      have h : putK is _ (env.set i (.own ds)) = some env' := h
      subst ev
      have ok1 := ok.put i (s := .own ds) ⟨a, ws, rfl, q1, q2, q3, q4⟩ (fun _ _ b eb => by cases eb; exact q5) (hi i (by simp))
      have aux : ∀ {vs : List V} {rs : List (D × Bool)}, KOk K B R H σ env vs rs → (∀ (p : Nat) (d' : D), rs[p]? = some (d', true) → vs[p]? ≠ some (V.ref a)) → KOk K B R H (σ.set i (some (V.ref a))) (env.set i (.own ds)) vs rs := by
        intro vs rs al
        induction al with
        | nil => exact fun _ => .nil
        | st dp t ih => exact fun hd => .st dp (ih fun p d' e => by simpa using hd (p + 1) d' (by simpa using e))
        | @fr v vs d rs hf n t ih =>
          intro hd
          obtain ⟨b, us, es, ev, ed, z1, z2, z3, z4, z5⟩ := hf
          refine .fr ⟨b, us, es, ev, ed, z1, z2, z3, z4, fun j es' hj ej => ?_⟩ n (ih fun p d' e => by simpa using hd (p + 1) d' (by simpa using e))
          by_cases z : i = j
          · subst z
            by_cases hl : i < σ.length
            · rw [List.getElem?_set_self hl] at ej
              have : a = b := by simpa using ej
              subst this
              exact hd 0 d rfl (by rw [ev]; rfl)
            · rw [List.getElem?_eq_none (by rw [List.length_set]; omega)] at ej; cases ej
          · rw [List.getElem?_set_ne z] at hj ej
            exact z5 j es' hj ej
      have := putK_ok ok1 (aux t n) h fun j hj => hi j (by simp [hj])
      exact this
/-- a, b, .. = e1, e2, .. -/
def gPar (is : List Nat) (G : FK) : FG := fun env => match G env with
  | some (rs, e1) => match putK is rs e1 with
    | some e2 => some (.nx e2)
    | none => none
  | none => none
/-- a, b, .. = e -/
def gAsgT (is : List Nat) (F : FE) : FG := fun env => match F env with
  | some (d, k, e1) => match bTup is d (stl d k e1) with
    | some e2 => some (.nx e2)
    | none => none
  | none => none
section
variable {X : Cx} {As : List Nat} {np : Nat} {G : FK} {e : Expr} {es : List Expr} {pos : Pos} {F : FE}
theorem par_use {σ : L2.St} {H : Hp} {Dn : Ends} {is : List Nat} {Q : List V → Hp → Prop} (hi : ∀ i ∈ is, np ≤ i ∨ i ∈ As) (h : tG X.K As np (gPar is G) Dn σ H) (hq : ∀ vs H', vs.length = is.length → Dn.nx (setAll is vs σ) H' → Q vs H') : tK X.K G σ H Q := by
  obtain ⟨vs0, B, R, env, out, hn, ok, z, q⟩ := h
  unfold gPar at z
  cases h1 : G env with
  | none => rw [h1] at z; cases z
  | some y =>
    obtain ⟨rs, e1⟩ := y
    rw [h1] at z
    dsimp only at z
    cases h2 : putK is rs e1 with
    | none => rw [h2] at z; cases z
    | some e2 =>
      rw [h2] at z
      cases z
      refine ⟨As, vs0, B, R, env, rs, e1, ok, h1, fun vs R' H' g ok' al => hq vs H' ?_ (q _ R' H' g (putK_ok ok' al h2 (by rw [hn]; exact hi)))⟩
      have len : ∀ (is : List Nat) (rs : List (D × Bool)) (ev ev' : Ev), putK is rs ev = some ev' → is.length = rs.length := by
        intro is
        induction is with
        | nil => intro rs ev ev' h; cases rs with
          | nil => rfl
          | cons _ _ => cases h
        | cons i is ih => intro rs ev ev' h; cases rs with
          | nil => cases h
          | cons r rs =>
            obtain ⟨d, f⟩ := r
            cases f with
            | false => simp [ih rs _ _ (show putK is rs (ev.set i (.pure d)) = some ev' from h)]
            | true =>
              cases d <;> try (cases h; done)
              case list ds => simp [ih rs _ _ (show putK is rs (ev.set i (.own ds)) = some ev' from h)]
      rw [al.len, len is rs _ _ h2]
theorem ps_parG {i j : Nat} {x y : Str} {a b : Expr} {px py pt : Pos} {kt k2 : Nat} {pt2 : Pos} (hc : X.calm = true) (hN : X.N.Nodup) (hi : X.N[i]? = some x) (hj : X.N[j]? = some y) (hij : i ≠ j) (hx : X.env.scope.names.lookup x = some .local) (hy : X.env.scope.names.lookup y = some .local) (ha : PA X [a, b] (tK X.K G))
    (hw : swappedStores [.Tuple [.Name x px, .Name y py] kt pt] (.Tuple [a, b] k2 pt2) X.env = pure (some [x, y])) (hai : np ≤ i ∨ i ∈ As) (haj : np ≤ j ∨ j ∈ As) :
    PS X (.Assign [.Tuple [.Name x px, .Name y py] kt pt] (.Tuple [a, b] k2 pt2) pos) (tG X.K As np (gPar [i, j] G)) :=
  ps_imp (ps_par hc hN hi hj hij hx hy ha hw) fun D σ H h => par_use (by simp; exact ⟨hai, haj⟩) h fun vs H' hl q => by
    match vs, hl with
    | [v, w], _ => exact ⟨v, w, rfl, q⟩
/-- by way of a tuple -/
def gNames : List Nat → TGs
  | [] => gNil
  | i :: is => gCons (gName i) (gNames is)
theorem gNames_ok {is : List Nat} : ∀ {vs : List V} {σ : L2.St} {H : Hp} {Q : L2.St → Hp → Prop}, vs.length = is.length → Q (setAll is vs σ) H → gNames is vs σ H Q := by
  induction is with
  | nil => intro vs σ H Q hl q; cases vs with
    | nil => exact ⟨rfl, q⟩
    | cons _ _ => cases hl
  | cons i is ih => intro vs σ H Q hl q; cases vs with
    | nil => cases hl
    | cons v vs => exact ⟨v, vs, rfl, ih (by simpa using hl) q⟩
theorem ps_parT {tg : List Expr} {is : List Nat} {kt k2 : Nat} {pt pt2 : Pos} (hc : X.calm = true) (hg : PGs X tg (gNames is)) (ha : PA X es (tK X.K G))
    (hn : (assignEach tg X.env).length = is.length) (hst : (assignEach tg X.env).findIdx? (·.1) = none)
    (hs : swapsWithSole [.Tuple tg kt pt] (.Tuple es k2 pt2) pos.line X.env = pure false) (hw : swappedStores [.Tuple tg kt pt] (.Tuple es k2 pt2) X.env = pure none) (hai : ∀ i ∈ is, np ≤ i ∨ i ∈ As) :
    PS X (.Assign [.Tuple tg kt pt] (.Tuple es k2 pt2) pos) (tG X.K As np (fun env => if is.length ≤ sizeLine then gPar is G env else none)) :=
  ps_imp (ps_asg (pe_tup ha) (pg_tup hc hg hn hst) hs hw rfl) fun Dn σ H h => by
    have hz : is.length ≤ sizeLine := by
      obtain ⟨vs0, B, R, env, out, hn, ok, z, q⟩ := h
      split at z
      · assumption
      · cases z
    rw [show (fun env => if is.length ≤ sizeLine then gPar is G env else none) = gPar is G from by funext env; rw [if_pos hz]] at h
    -- the pair is made at a new place
    obtain ⟨vs0, B, R, env, out, hnp, ok, z, q⟩ := h
    unfold gPar at z
    cases h1 : G env with
    | none => rw [h1] at z; cases z
    | some y =>
      obtain ⟨rs, e1⟩ := y
      rw [h1] at z
      dsimp only at z
      cases h2 : putK is rs e1 with
      | none => rw [h2] at z; cases z
      | some e2 =>
        rw [h2] at z
        cases z
        refine ⟨As, vs0, B, R, env, rs, e1, ok, h1, fun vs R' H' g ok' al => ?_⟩
        have len : ∀ (is : List Nat) (rs : List (D × Bool)) (ev ev' : Ev), putK is rs ev = some ev' → is.length = rs.length := by
          intro is
          induction is with
          | nil => intro rs ev ev' h; cases rs with
            | nil => rfl
            | cons _ _ => cases h
          | cons i is ih => intro rs ev ev' h; cases rs with
            | nil => cases h
            | cons r rs =>
              obtain ⟨d, f⟩ := r
              cases f with
              | false => simp [ih rs _ _ (show putK is rs (ev.set i (.pure d)) = some ev' from h)]
              | true =>
                cases d <;> try (cases h; done)
                case list ds => simp [ih rs _ _ (show putK is rs (ev.set i (.own ds)) = some ev' from h)]
        have hlv : vs.length = is.length := by rw [al.len, len is rs _ _ h2]
        refine ⟨by rw [hlv]; exact hz, fun p hp => ?_⟩
        refine ⟨p, vs, rfl, SqT.of upd_same, hlv, gNames_ok hlv ?_⟩
        have okn := ok'.new (o := .tup vs) hp
        have aln : KOk X.K B R' (upd H' p (.tup vs)) σ e1 vs rs := by
          have aux : ∀ {us : List V} {rs : List (D × Bool)}, KOk X.K B R' H' σ e1 us rs → KOk X.K B R' (upd H' p (.tup vs)) σ e1 us rs := by
            intro us rs al
            induction al with
            | nil => exact .nil
            | st dp t ih => exact .st dp ih
            | fr hf n t ih =>
              obtain ⟨a, ws, ds, ev, ed, q1, q2, q3, q4, q5⟩ := hf
              exact .fr ⟨a, ws, ds, ev, ed, by rw [upd_ne (ne_of_none q1 hp)]; exact q1, q2, q3, q4, q5⟩ n ih
          exact aux al
        exact q _ R' _ g (putK_ok okn aln h2 (by rw [hnp]; exact hai))
theorem ps_asgT {tg : List Expr} {is : List Nat} {kt : Nat} {pt : Pos} (he : PE X e (tF X.K F)) (hg : PG X (.Tuple tg kt pt) (gB X.K As np is (bTup is)))
    (hs : swapsWithSole [.Tuple tg kt pt] e pos.line X.env = pure false) (hw : swappedStores [.Tuple tg kt pt] e X.env = pure none) : PS X (.Assign [.Tuple tg kt pt] e pos) (tG X.K As np (gAsgT is F)) :=
  ps_imp (ps_asg he hg hs hw rfl) fun D σ H h => by
    obtain ⟨vs0, B, R, env, out, hn, ok, z, q⟩ := h
    unfold gAsgT at z
    cases h1 : F env with
    | none => rw [h1] at z; cases z
    | some y =>
      obtain ⟨d1, k1, e1⟩ := y
      rw [h1] at z
      dsimp only at z
      cases h2 : bTup is d1 (stl d1 k1 e1) with
      | none => rw [h2] at z; cases z
      | some e2 =>
        rw [h2] at z
        cases z
        refine ⟨As, vs0, B, R, env, d1, k1, e1, ok, h1, fun v R' H' g ok' r => ?_⟩
        obtain ⟨R2, g2, ok2, dp⟩ := ok'.stl r
        exact ⟨vs0, B, R2, _, d1, e2, hn, ok2, dp, h2, fun σ' ok3 _ => q σ' R2 H' (g.trans g2) ok3⟩

/-! ### while -/
def whileL (T : FT) (body : FG) : Nat → Ev → Option Out
  | 0, _ => none
  | n + 1, env => match T env with
    | some (true, e1) => match body e1 with
      | some (.nx e2) => whileL T body n e2
      | some (.ct e2) => whileL T body n e2
      | some (.bk e2) => some (.nx e2)
      | some (.rt r f e2) => some (.rt r f e2)
      | none => none
    | some (false, e1) => some (.nx e1)
    | none => none
theorem ps_whileG {c : Expr} {body : List Stmt} {T : FT} {Gb : FG} {n : Nat} (hp : PassesOwn (model X.prog X.w) X.A X.env X.xe) (hc : PT X c (tT X.K T)) (hb : PSs X body (tG X.K As np Gb)) : PS X (.While c body [] pos) (tG X.K As np (whileL T Gb n)) :=
  ps_imp (ps_while hp hc hb) fun D σ H h => by
    obtain ⟨vs0, B, R, env, out, hn, ok, z, q⟩ := h
    refine ⟨fun m σ H => ∃ R1 ev, Grow B R R1 ∧ Ok X.K As vs0 B R1 H σ ev ∧ whileL T Gb m ev = some out, ⟨n, R, env, .refl _ _, ok, z⟩, ?_⟩
    rintro m σ1 H1 ⟨R1, ev, g1, ok1, z1⟩
    cases m with
    | zero => cases z1
    | succ m =>
      unfold whileL at z1
      cases h1 : T ev with
      | none => rw [h1] at z1; cases z1
      | some y =>
        obtain ⟨t, e1⟩ := y
        rw [h1] at z1
        refine ⟨As, vs0, B, R1, ev, t, e1, ok1, h1, fun R2 H2 g2 ok2 => ?_⟩
        cases t with
        | false => cases z1; exact iteF (q σ1 R2 H2 (g1.trans g2) ok2)
        | true =>
          refine iteT ⟨fun σ' H' => ∃ R3 ev3, Grow B R R3 ∧ Ok X.K As vs0 B R3 H' σ' ev3 ∧ whileL T Gb m ev3 = some out, fun σ' H' ⟨R3, ev3, g3, ok3, z3⟩ => ⟨m, Nat.lt_succ_self _, R3, ev3, g3, ok3, z3⟩, ?_⟩
          dsimp only at z1
          cases h2 : Gb e1 with
          | none => rw [h2] at z1; cases z1
          | some o =>
            rw [h2] at z1
            refine ⟨vs0, B, R2, e1, o, hn, ok2, h2, ?_⟩
            cases o with
            | nx e2 => exact fun σ' R3 H3 g3 ok3 => ⟨R3, e2, (g1.trans g2).trans g3, ok3, z1⟩
            | ct e2 => exact fun σ' R3 H3 g3 ok3 => ⟨R3, e2, (g1.trans g2).trans g3, ok3, z1⟩
            | bk e2 => cases z1; exact fun σ' R3 H3 g3 ok3 => q σ' R3 H3 ((g1.trans g2).trans g3) ok3
            | rt r f e2 => cases z1; exact fun v σ' R3 H3 g3 ok3 => q v σ' R3 H3 ((g1.trans g2).trans g3) ok3
end

/-! ### a def -/
/-- the parameters' slots -/
def outS (np : Nat) (e : Ev) : Ev := (e ++ List.replicate np Slot.emp).take np
theorem outS_len (np : Nat) (e : Ev) : (outS np e).length = np := by unfold outS; rw [List.length_take, List.length_append, List.length_replicate]; omega
theorem outS_get {np : Nat} {e : Ev} {i : Nat} {s : Slot} (h : (outS np e)[i]? = some s) : i < np ∧ (s = .emp ∨ e[i]? = some s) := by
  have hi : i < np := by have := (List.getElem?_eq_some_iff.mp h).1; rwa [outS_len] at this
  refine ⟨hi, ?_⟩
  unfold outS at h
  rw [List.getElem?_take_of_lt hi] at h
  by_cases hl : i < e.length
  · rw [List.getElem?_append_left hl] at h; exact .inr h
  · rw [List.getElem?_append_right (by omega)] at h; exact .inl (List.eq_of_mem_replicate (List.mem_of_getElem? h))
def fDef (n np : Nat) (As : List Nat) (G : FG) : FS := fun ss => if ss.length = np then match G (ss ++ List.replicate (n - np) .emp) with
    | some (.rt d f e) => some (d, f, wipeE As (outS np e))
    | some (.nx e) => some (.none, false, wipeE As (outS np e))
    | _ => none
  else none
theorem def_read {K : PySem.W.Frag} {N : List Str} {np : Nat} {As : List Nat} {G : FG} {vs : List V} {H : Hp} {Q : VK} {E : XK} (hN : np ≤ N.length) (h : spD K (fDef N.length np As G) vs H Q E) : vs.length = np ∧ tG K As np G { nx := fun _ H' => Q .non H', rt := Q } (L2.start N vs) H := by
  obtain ⟨B, R, ss, r, fr, ss', ok, z, q⟩ := h
  unfold fDef at z
  split at z
  · rename_i hl
    have hv : vs.length = np := by
      have := ok.len
      rw [List.length_map] at this
      rw [this, hl]
    refine ⟨hv, vs, B, R, ss ++ List.replicate (N.length - np) .emp, ?_⟩
    have ok0 : Ok K As vs B R H (L2.start N vs) (ss ++ List.replicate (N.length - np) .emp) := by
      unfold L2.start
      rw [hv]
      refine ⟨by rw [List.length_append, List.length_append, List.length_replicate, List.length_replicate, ok.len], ok.rh, ok.bh, fun i s hs => ?_, fun i j ds es a h1 h2 e1 e2 => ?_, fun i v h _ => ?_, fun i j ds es a h1 h2 e1 e2 => ?_, ok.tb, ok.nt, ok.nb⟩
      · by_cases hi : i < ss.length
        · rw [List.getElem?_append_left hi] at hs
          rw [List.getElem?_append_left (by rw [ok.len]; exact hi)]
          exact ok.sl i s hs
        · rw [List.getElem?_append_right (by omega)] at hs
          have := List.mem_of_getElem? hs
          rw [List.eq_of_mem_replicate this]
          trivial
      · have own : ∀ (i : Nat) (ds : List D), (ss ++ List.replicate (N.length - np) Slot.emp)[i]? = some (.own ds) → i < ss.length ∧ ss[i]? = some (.own ds) := fun i ds h => by
          by_cases hi : i < ss.length
          · rw [List.getElem?_append_left hi] at h; exact ⟨hi, h⟩
          · rw [List.getElem?_append_right (by omega)] at h
            have := List.eq_of_mem_replicate (List.mem_of_getElem? h)
            cases this
        obtain ⟨l1, w1⟩ := own i ds h1
        obtain ⟨l2, w2⟩ := own j es h2
        rw [List.getElem?_append_left (by rw [ok.len]; exact l1)] at e1
        rw [List.getElem?_append_left (by rw [ok.len]; exact l2)] at e2
        exact ok.ap i j ds es a w1 w2 e1 e2
      · rw [List.getElem?_append_left (by rw [List.length_map]; exact (List.getElem?_eq_some_iff.mp h).1), List.getElem?_map, h]
        rfl
      · have own : ∀ (i : Nat) (ds : List (L2.Key × D)), (ss ++ List.replicate (N.length - np) Slot.emp)[i]? = some (.dct ds) → i < ss.length ∧ ss[i]? = some (.dct ds) := fun i ds h => by
          by_cases hi : i < ss.length
          · rw [List.getElem?_append_left hi] at h; exact ⟨hi, h⟩
          · rw [List.getElem?_append_right (by omega)] at h
            have := List.eq_of_mem_replicate (List.mem_of_getElem? h)
            cases this
        obtain ⟨l1, w1⟩ := own i ds h1
        obtain ⟨l2, w2⟩ := own j es h2
        rw [List.getElem?_append_left (by rw [ok.len]; exact l1)] at e1
        rw [List.getElem?_append_left (by rw [ok.len]; exact l2)] at e2
        exact ok.ad i j ds es a w1 w2 e1 e2
    -- the parameters' slots behind the body
    have fin : ∀ {σ' : L2.St} {R' H' : Hp} {e : Ev}, Ok K As vs B R' H' σ' e → Ok K [] [] B R' H' (vs.map some) (wipeE As (outS np e)) ∧ ∀ a, Free σ' e a → Free (vs.map some) (wipeE As (outS np e)) a := fun {σ' R' H' e} okE => by
      have get : ∀ (i : Nat) (s : Slot), (wipeE As (outS np e))[i]? = some s → s = .emp ∨ (i ∉ As ∧ i < np ∧ e[i]? = some s ∧ σ'[i]? = (vs.map some)[i]?) := fun i s h => by
        rcases wipeE_get As _ i s h with ⟨h1, h2⟩ | ⟨h1, h2⟩
        · obtain ⟨hi, h3 | h3⟩ := outS_get h2
          · exact .inl h3
          · have hv' : vs[i]? = some vs[i] := List.getElem?_eq_getElem (by omega)
            exact .inr ⟨h1, hi, h3, by rw [okE.ar i _ hv' h1, List.getElem?_map, hv']; rfl⟩
        · exact .inl h2
      refine ⟨⟨?_, okE.rh, okE.bh, fun i s hs => ?_, fun i j ds es a h1 h2 e1 e2 => ?_, fun i v h => by simp at h, fun i j ds es a h1 h2 e1 e2 => ?_, okE.tb, okE.nt, okE.nb⟩, fun a hf i ds h1 e1 => ?_⟩
      · rw [wipeE_len, List.length_map, outS_len, hv]
      · rcases get i s hs with h | ⟨h1, h2, h3, h4⟩
        · subst h; trivial
        · rw [← h4]; exact okE.sl i s h3
      · rcases get i _ h1 with h | ⟨a1, a2, a3, a4⟩
        · cases h
        · rcases get j _ h2 with h | ⟨b1, b2, b3, b4⟩
          · cases h
          · exact okE.ap i j ds es a a3 b3 (by rw [a4]; exact e1) (by rw [b4]; exact e2)
      · rcases get i _ h1 with h | ⟨a1, a2, a3, a4⟩
        · cases h
        · rcases get j _ h2 with h | ⟨b1, b2, b3, b4⟩
          · cases h
          · exact okE.ad i j ds es a a3 b3 (by rw [a4]; exact e1) (by rw [b4]; exact e2)
      · rcases get i _ h1 with h | ⟨a1, a2, a3, a4⟩
        · cases h
        · exact hf i ds a3 (by rw [a4]; exact e1)
    split at z
    · rename_i d f0 e hG
      cases z
      refine ⟨_, hv, ok0, hG, fun v σ' R' H' g okE res => ?_⟩
      obtain ⟨okF, fr⟩ := fin okE
      refine q v R' H' g okF ?_
      generalize hkd : kd _ = kk at res ⊢
      cases kk with
      | st => exact res
      | fr =>
        obtain ⟨a, ws, ds, ev, ed, q1, q2, q3, q4, q5⟩ := res
        exact ⟨a, ws, ds, ev, ed, q1, q2, q3, q4, fr a q5⟩
      | pk i => unfold kd at hkd; split at hkd <;> cases hkd
    · rename_i e hG
      cases z
      exact ⟨_, hv, ok0, hG, fun σ' R' H' g okE => q .non R' H' g (fin okE).1 .non⟩
    · cases z
  · cases z
section
variable {P : Program} {w : World} {K : PySem.W.Frag} {mg : Str → Option Value} {base : Heap}
/-- a def of the text: its body read as G -/
theorem fn_D {x qual : Str} {st : Stmt} {f : Addr} {fd : FuncData} {N ps : List Str} {k : Nat} {As : List Nat} {G : FG} (Fn : Fun K x qual st f fd) (S : FnScope N ps (defScope st)) (hN : ps.length ≤ N.length)
    (body : ∀ (cdv : Value) (A : Around) (outer : List Env) (s : Shared) (H : Hp) (E : XK), Room k (A.deeper (envOfC qual (defScope st) s.heap.objs.size f cdv)) →
      PSs (cxOf (L2.CX P w) P w K mg base N qual (defScope st) f cdv A outer s H E).nox (defBody st) (tG K As ps.length G)) :
    FnOk P w K mg base (L2.CX P w) (k + 1) f fd ps (spD K (fDef N.length ps.length As G)) :=
  Fn.okX S (fun vs H Q E h => (def_read hN h).1) fun cdv A outer s H vs Q E hr h => ⟨_, (body cdv A outer s H E hr).nox, (def_read hN h).2⟩
end
end Pt

namespace Pt
open PySem PySem.Spec PyProof.Rows L2
variable [Tb]

/-! ### is None -/
def gIsN : G1
  | .none => some (.bool true, .st)
  | .dict _ => none
  | _ => some (.bool false, .st)
def gNotN : G1
  | .none => some (.bool false, .st)
  | .dict _ => none
  | _ => some (.bool true, .st)
def isNone : D → Bool
  | .none => true
  | _ => false
theorem non_of {K : PySem.W.Frag} {R H : Hp} {x : V} {d : D} (h : ∀ k, d ≠ .dict k) (u : UseOk K R H x d) : decide (x = .non) = isNone d := by
  cases d with
  | none => rw [u.non]; rfl
  | bool b => rw [u.bl]; rfl
  | int b => rw [u.int]; rfl
  | str b => rw [u.str]; rfl
  | list b =>
    rcases u with u | ⟨a, vs, ds, e, _⟩
    · cases u; rfl
    · rw [e]; rfl
  | tuple b =>
    rcases u with u | ⟨a, vs, ds, e, e2, _⟩
    · cases u; rfl
    · cases e2
  | dict k => exact absurd rfl (h k)
section
variable {X : Cx} {a b c : Expr} {Fa Fb Fc : FE} {pos p2 : Pos} {j : Nat}
theorem isN_imp {σ : L2.St} {H : Hp} {Q : VK} (h : tF X.K (fOne gIsN Fa) σ H Q) : tOp (fun x y H Q => y = .non ∧ Q (.bl (decide (x = .non))) H) (tF X.K Fa) (tC .non) σ H Q :=
  use_one (r := fun x H1 Q => V.non = .non ∧ Q (.bl (decide (x = .non))) H1) (fun As vs0 B R H σ env x d e k Q ok u hg q => by
    refine ⟨rfl, ?_⟩
    have hd : ∀ z, d ≠ .dict z := fun z e => by subst e; cases hg
    rw [non_of hd u]
    cases d <;> first | (cases hg; exact Post.bl ok q) | (cases hg; done)) h
theorem notN_imp {σ : L2.St} {H : Hp} {Q : VK} (h : tF X.K (fOne gNotN Fa) σ H Q) : tOp (fun x y H Q => y = .non ∧ Q (.bl (!decide (x = .non))) H) (tF X.K Fa) (tC .non) σ H Q :=
  use_one (r := fun x H1 Q => V.non = .non ∧ Q (.bl (!decide (x = .non))) H1) (fun As vs0 B R H σ env x d e k Q ok u hg q => by
    refine ⟨rfl, ?_⟩
    have hd : ∀ z, d ≠ .dict z := fun z e => by subst e; cases hg
    rw [non_of hd u]
    cases d <;> first | (cases hg; exact Post.bl ok q) | (cases hg; done)) h
theorem pe_isND (ha : PE X a (tF X.K Fa)) : PE X (.Compare a [.Is] [.Constant .none j p2] pos) (tF X.K (fOne gIsN Fa)) := pe_imp (pe_cmpR op_isN ha pe_non rfl) fun _ _ _ h => isN_imp h
theorem pe_notND (ha : PE X a (tF X.K Fa)) : PE X (.Compare a [.IsNot] [.Constant .none j p2] pos) (tF X.K (fOne gNotN Fa)) := pe_imp (pe_cmpR op_notN ha pe_non rfl) fun _ _ _ h => notN_imp h
theorem one_bool {g : G1} {F : FE} (hg : ∀ d r k, g d = some (r, k) → ∃ t, r = .bool t) : ∀ env d k e', fOne g F env = some (d, k, e') → ∃ b, d = .bool b := fun env d k e' h => by
  unfold fOne at h
  cases h1 : F env with
  | none => rw [h1] at h; cases h
  | some z =>
    obtain ⟨d1, k1, e1⟩ := z
    rw [h1] at h
    dsimp only at h
    cases h2 : g d1 with
    | none => rw [h2] at h; cases h
    | some z2 =>
      obtain ⟨r2, k2⟩ := z2
      rw [h2] at h
      cases h
      exact hg _ _ _ h2
theorem pt_isND (ha : PE X a (tF X.K Fa)) : PT X (.Compare a [.Is] [.Constant .none j p2] pos) (tT X.K (fTst (fOne gIsN Fa))) :=
  pt_imp (pt_cmpR op_isN ha pe_non rfl) fun _ _ _ h => isN_imp (tT_bool (one_bool fun d r k h => by cases d <;> first | (cases h; exact ⟨_, rfl⟩) | (cases h; done)) h)
theorem pt_notND (ha : PE X a (tF X.K Fa)) : PT X (.Compare a [.IsNot] [.Constant .none j p2] pos) (tT X.K (fTst (fOne gNotN Fa))) :=
  pt_imp (pt_cmpR op_notN ha pe_non rfl) fun _ _ _ h => notN_imp (tT_bool (one_bool fun d r k h => by cases d <;> first | (cases h; exact ⟨_, rfl⟩) | (cases h; done)) h)

/-! ### zip -/
def pairs (xs ys : List D) : List D := List.zipWith (fun x y => PyData.tuple [x, y]) xs ys
def fiZip (G : FA) : FI := fun env => match G env with
  | some ([.list xs, .list ys], e1) => some (pairs xs ys, e1)
  | some ([.tuple xs, .tuple ys], e1) => some (pairs xs ys, e1)
  | _ => none
theorem pairs_get {xs ys : List D} {i : Nat} {d : D} (h : (pairs xs ys)[i]? = some d) : ∃ x y, xs[i]? = some x ∧ ys[i]? = some y ∧ d = .tuple [x, y] := by
  unfold pairs at h
  rw [List.getElem?_zipWith] at h
  cases h1 : xs[i]? with
  | none => rw [h1] at h; simp at h
  | some x =>
    cases h2 : ys[i]? with
    | none => rw [h1, h2] at h; simp at h
    | some y => rw [h1, h2] at h; simp at h; exact ⟨x, y, rfl, rfl, h.symm⟩
theorem yld_pair {K : PySem.W.Frag} {R : Hp} {xs ys : List D} {vs us : List V} (p1 : DpAll K R vs xs) (p2 : DpAll K R us ys) {i : Nat} {H H' : Hp} {x : V} {d : D} (hd : (pairs xs ys)[i]? = some d) (y : YPair (fun i => vs[i]?) (fun i => us[i]?) i H x H') : Yld K R d H x H' := by
  obtain ⟨a, b, h1, h2, e⟩ := pairs_get hd
  obtain ⟨T, v, u, e1, e2, e3, e4, e5⟩ := y
  obtain ⟨v', hv, dv⟩ := dpAll_get' p1 h1
  obtain ⟨u', hu, du⟩ := dpAll_get' p2 h2
  have e4 : vs[i]? = some v := e4
  have e5 : us[i]? = some u := e5
  rw [e4] at hv; cases hv
  rw [e5] at hu; cases hu
  exact .inr ⟨T, _, _, e1, e2, e3, e, .cons dv (.cons du .nil)⟩
theorem pi_zipD {e e2 : Expr} {p tpos : Pos} {elts : List Expr} {kk : Nat} {G : FA} (hg : Gl X "zip") (hm : X.mg "zip" = none) (ha : PA X [e, e2] (tA X.K G))
    (hs : starEach [e, e2] X.env = (false, eval e X.env) :: starEach [e2] X.env) (hpl : (backTo pos (starEach [e2] X.env)).any (·.1) = false) : PI X (.Tuple elts kk tpos) (.Call (.Name "zip" p) [e, e2] [] pos) (tI X.K (fiZip G)) :=
  pi_imp (RZ.pi_zipA hg hm ha hs hpl) fun σ H Rr h => by
    obtain ⟨As, vs0, B, R, env, ds, env', ok, z, q⟩ := h
    unfold fiZip at z
    split at z
    · rename_i xs ys e1 h1
      cases z
      refine ⟨As, vs0, B, R, env, _, _, ok, h1, fun vs R' H' g ok' dps => ?_⟩
      cases dps with
      | cons d1 d2 =>
        cases d2 with
        | cons d2 d3 =>
          cases d3
          cases d1 with
          | lst s1 p1 =>
            cases d2 with
            | lst s2 p2 =>
              refine ⟨_, _, _, _, rfl, .inl ⟨sqL_le ok'.rh s1, sqL_le ok'.rh s2, q _ _ _ R' H' g ok' ⟨walk_zip ?_, fun H l => ⟨sqL_le l s1, sqL_le l s2⟩, fun i H x H' d hd y => yld_pair p1 p2 hd y⟩⟩⟩
              unfold pairs
              rw [List.length_zipWith, dpAll_len p1, dpAll_len p2]
    · rename_i xs ys e1 h1
      cases z
      refine ⟨As, vs0, B, R, env, _, _, ok, h1, fun vs R' H' g ok' dps => ?_⟩
      cases dps with
      | cons d1 d2 =>
        cases d2 with
        | cons d2 d3 =>
          cases d3
          cases d1 with
          | @tup a1 vs1 _ s1 p1 =>
            cases d2 with
            | @tup a2 vs2 _ s2 p2 =>
              have w : Walk (RZ.ItzT X.K a1 a2) (pairs xs ys).length (fun H => SqT X.K H a1 vs1 ∧ SqT X.K H a2 vs2) (YPair (fun i => vs1[i]?) (fun i => vs2[i]?)) := by
                refine ⟨fun i H hi q => ?_, fun H q => ?_, fun i H v H' hi q y => ?_⟩
                rotate_left
                rotate_left
                · obtain ⟨T, x, z, h1, h2, h3, h4, h5⟩ := y
                  exact ⟨T, x, z, h1, h2, h3, h4 _ q.1, h5 _ q.2⟩
                · have hl : (pairs xs ys).length = min xs.length ys.length := by unfold pairs; rw [List.length_zipWith]
                  have l1 := dpAll_len p1
                  have l2 := dpAll_len p2
                  exact ⟨_, _, _, _, q.1, q.2, List.getElem?_eq_getElem (by omega), List.getElem?_eq_getElem (by omega)⟩
                · have hl : (pairs xs ys).length = min xs.length ys.length := by unfold pairs; rw [List.length_zipWith]
                  have l1 := dpAll_len p1
                  have l2 := dpAll_len p2
                  exact ⟨_, _, q.1, q.2, by omega⟩
              exact ⟨_, _, _, _, rfl, .inr ⟨sqT_le ok'.rh s1, sqT_le ok'.rh s2, q _ _ _ R' H' g ok' ⟨w, fun H l => ⟨sqT_le l s1, sqT_le l s2⟩, fun i H x H' d hd y => yld_pair p1 p2 hd y⟩⟩⟩
    · cases z
end

/-! ### max, min with a default -/
def foldMM (mx : Bool) (n : Int) (ns : List Int) : Int := ns.foldl (if mx then max else min) n
def itemsLT : D → Option (List D)
  | .list xs => some xs
  | .tuple xs => some xs
  | _ => none
def gMM (mx : Bool) : G2 := fun d dflt => match itemsLT d with
  | some xs => match intsL xs with
    | some [] => match dflt with
      | .int i => some (.int i, .st)
      | .none => some (.none, .st)
      | _ => none
    | some (n :: ns) => some (.int (foldMM mx n ns), .st)
    | none => none
  | none => none
def gMM1 (mx : Bool) : G1 := fun d => match itemsLT d with
  | some xs => match intsL xs with
    | some (n :: ns) => some (.int (foldMM mx n ns), .st)
    | _ => none
  | none => none
theorem intsL_map : ∀ {ds : List D} {ns : List Int}, intsL ds = some ns → ds = ns.map PyData.int
  | [], ns, h => by cases h; rfl
  | d :: ds, ns, h => by
    cases d <;> try (cases h; done)
    case int i =>
      dsimp only [intsL] at h
      cases e : intsL ds with
      | none => rw [e] at h; cases h
      | some ms =>
        rw [e] at h
        cases h
        rw [intsL_map e]; rfl
theorem alike_ints_all (ns : List Int) : PySem.W.AlikeAll (ns.map PyData.int) := by
  refine ⟨fun x hx y hy => ?_, fun x hx => ?_⟩
  · obtain ⟨a, _, rfl⟩ := List.mem_map.mp hx
    obtain ⟨b, _, rfl⟩ := List.mem_map.mp hy
    simp [PySem.W.alike]
  · obtain ⟨a, _, rfl⟩ := List.mem_map.mp hx
    exact fun z => by cases z
section
variable {X : Cx}
theorem depth_ints_all (ns : List Int) : PyData.depthAll (ns.map PyData.int) = 0 := PySem.W.depth_ints ns
theorem readsAll_of {pins : List (Addr × Obj)} {s : Shared} {σ : L2.St} {H R : Hp} (I : Inv X pins σ H s) (rh : Le R H) {ds : List D} {vs : List V} {us : List Value} (h : DpAll X.K R vs ds) (r : Vals vs us) : ∃ as, ReadsAll s.heap us ds as :=
  Dp.readsAll I ds vs us (dpAll_le rh _ h) r
theorem int_read {h : Heap} {v : Value} {n : Int} {as : List Addr} (r : Reads h v (.int n) as) : ∃ t, v = .int n t := by cases r; exact ⟨_, rfl⟩
theorem ck_mm (mx : Bool) (hc : X.calm = true) (hu : X.A.units + 64 < cLine) : CallRK X (.builtin (if mx then "max" else "min")) ["default"] (fun vs zs H Q => ∃ x y, vs = [x] ∧ zs = [y] ∧ rD2 X.K (gMM mx) x y H Q) := by
  intro pins s σ H xs zs us ws Q I r rz h
  obtain ⟨x, y, rfl, rfl, As, vs0, B, R, σ', env, d1, d2, e, k, ok, u1, u2, hg, q⟩ := h
  obtain ⟨v, rfl, r1⟩ := r.one
  obtain ⟨w, rfl, r2⟩ := rz.one
  unfold gMM at hg
  cases hi : itemsLT d1 with
  | none => rw [hi] at hg; cases hg
  | some ds =>
    rw [hi] at hg
    dsimp only at hg
    cases hn : intsL ds with
    | none => rw [hn] at hg; cases hg
    | some ns =>
      rw [hn] at hg
      have hds := intsL_map hn
      -- the answers
      have dflt : ns = [] → ∀ h' tk, (∀ b o, s.heap.get? b = some o → h'.get? b = some o) → EP X pins σ Q w { s with heap := h', toks := tk } := fun en h' tk hk => by
        subst en
        dsimp only at hg
        cases d2 <;> try (cases hg; done)
        case none => cases hg; exact ⟨y, H, I.kept hk, r2, by rw [u2.non]; exact Post.non ok q⟩
        case int i => cases hg; exact ⟨y, H, I.kept hk, r2, by rw [u2.int]; exact Post.int ok q⟩
      have item : ∀ (z : PyData) (zs : List PyData) v' h' tk bs (_ : ds = z :: zs), Reads h' v' (if mx then PySem.W.maxD z zs else PySem.W.minD z zs) bs → (∀ b o, s.heap.get? b = some o → h'.get? b = some o) → EP X pins σ Q v' { s with heap := h', toks := tk } := fun z zs v' h' tk bs ez rd hk => by
        cases ns with
        | nil => rw [hds] at ez; cases ez
        | cons n ms =>
          rw [hds] at ez
          cases ez
          cases hg
          have e1 : (if mx then PySem.W.maxD (.int n) (ms.map .int) else PySem.W.minD (.int n) (ms.map .int)) = .int (foldMM mx n ms) := by
            unfold foldMM
            cases mx with
            | true => exact PySem.W.maxD_ints n ms
            | false => exact PySem.W.minD_ints n ms
          rw [e1] at rd
          obtain ⟨t, ev⟩ := int_read rd
          exact ⟨.int _, H, I.kept hk, ⟨t, ev⟩, Post.int ok q⟩
      have hal : PySem.W.AlikeAll ds := by rw [hds]; exact alike_ints_all ns
      have hdp : PyData.depthAll ds = 0 := by rw [hds]; exact depth_ints_all ns
      have ded : ds = [] → ns = [] := fun e => by
        rw [hds] at e
        cases ns with
        | nil => rfl
        | cons _ _ => cases e
      cases d1 <;> try (cases hi; done)
      case list es =>
        cases hi
        obtain ⟨a, vs, ea, s1, p1⟩ := u1.list ok.rh
        subst ea
        cases r1
        obtain ⟨its, rv, pl, hz⟩ := I.list s1
        obtain ⟨as, ra⟩ := readsAll_of I ok.rh p1 rv
        cases mx with
        | true => exact PySem.W.max_list_default (vs := its.toArray) (I.ok.hd hc) pl.isList (by simpa using ra) hal (by rw [hdp]; omega) (fun e => dflt (ded e)) fun z zs i v' h' tk bs ez _ rd hk => item z zs v' h' tk bs ez rd hk
        | false => exact PySem.W.min_list_default (vs := its.toArray) (I.ok.hd hc) pl.isList (by simpa using ra) hal (by rw [hdp]; omega) (fun e => dflt (ded e)) fun z zs i v' h' tk bs ez _ rd hk => item z zs v' h' tk bs ez rd hk
      case tuple es =>
        cases hi
        obtain ⟨a, vs, ea, s1, p1, _⟩ := u1.tuple ok.rh
        subst ea
        cases r1
        obtain ⟨its, rv, pl, hz⟩ := I.tuple s1
        obtain ⟨as, ra⟩ := readsAll_of I ok.rh p1 rv
        cases mx with
        | true => exact PySem.W.max_tuple_default (vs := its.toArray) (I.ok.hd hc) pl (by simpa using ra) hal (by rw [hdp]; omega) (fun e => dflt (ded e)) fun z zs i v' h' tk bs ez _ rd hk => item z zs v' h' tk bs ez rd hk
        | false => exact PySem.W.min_tuple_default (vs := its.toArray) (I.ok.hd hc) pl (by simpa using ra) hal (by rw [hdp]; omega) (fun e => dflt (ded e)) fun z zs i v' h' tk bs ez _ rd hk => item z zs v' h' tk bs ez rd hk
theorem cr_mm1 (mx : Bool) (hc : X.calm = true) (hu : X.A.units + 64 < cLine) : CallR X (.builtin (if mx then "max" else "min")) (rC1 X.K (gMM1 mx)) := by
  intro pins s σ H xs us Q I r h
  obtain ⟨x, rfl, As, vs0, B, R, σ', env, d1, e, k, ok, u1, hg, q⟩ := h
  obtain ⟨v, rfl, r1⟩ := r.one
  unfold gMM1 at hg
  cases hi : itemsLT d1 with
  | none => rw [hi] at hg; cases hg
  | some ds =>
    rw [hi] at hg
    dsimp only at hg
    cases hn : intsL ds with
    | none => rw [hn] at hg; cases hg
    | some ns =>
      rw [hn] at hg
      have hds := intsL_map hn
      cases ns with
      | nil => cases hg
      | cons n ms =>
        cases hg
        have item : ∀ v' h' tk bs, Reads h' v' (if mx then PySem.W.maxD (.int n) (ms.map .int) else PySem.W.minD (.int n) (ms.map .int)) bs → (∀ b o, s.heap.get? b = some o → h'.get? b = some o) → EP X pins σ Q v' { s with heap := h', toks := tk } := fun v' h' tk bs rd hk => by
          have e1 : (if mx then PySem.W.maxD (.int n) (ms.map .int) else PySem.W.minD (.int n) (ms.map .int)) = .int (foldMM mx n ms) := by
            unfold foldMM
            cases mx with
            | true => exact PySem.W.maxD_ints n ms
            | false => exact PySem.W.minD_ints n ms
          rw [e1] at rd
          obtain ⟨t, ev⟩ := int_read rd
          exact ⟨.int _, H, I.kept hk, ⟨t, ev⟩, Post.int ok q⟩
        have hds' : ds = .int n :: ms.map .int := hds
        have hal : PySem.W.AlikeAll (.int n :: ms.map .int) := alike_ints_all (n :: ms)
        have hdp : PyData.depthAll (.int n :: ms.map .int) = 0 := depth_ints_all (n :: ms)
        cases d1 <;> try (cases hi; done)
        case list es =>
          cases hi
          obtain ⟨a, vs, ea, s1, p1⟩ := u1.list ok.rh
          subst ea
          cases r1
          obtain ⟨its, rv, pl, hz⟩ := I.list s1
          obtain ⟨as, ra⟩ := readsAll_of I ok.rh p1 rv
          rw [hds'] at ra
          cases mx with
          | true => exact PySem.W.max_list_data (vs := its.toArray) (I.ok.hd hc) pl.isList (by simpa using ra) hal (by rw [hdp]; omega) fun i v' h' tk bs _ rd hk => item v' h' tk bs rd hk
          | false => exact PySem.W.min_list_data (vs := its.toArray) (I.ok.hd hc) pl.isList (by simpa using ra) hal (by rw [hdp]; omega) fun i v' h' tk bs _ rd hk => item v' h' tk bs rd hk
        case tuple es =>
          cases hi
          obtain ⟨a, vs, ea, s1, p1, _⟩ := u1.tuple ok.rh
          subst ea
          cases r1
          obtain ⟨its, rv, pl, hz⟩ := I.tuple s1
          obtain ⟨as, ra⟩ := readsAll_of I ok.rh p1 rv
          rw [hds'] at ra
          cases mx with
          | true => exact PySem.W.max_tuple_data (vs := its.toArray) (I.ok.hd hc) pl (by simpa using ra) hal (by rw [hdp]; omega) fun i v' h' tk bs _ rd hk => item v' h' tk bs rd hk
          | false => exact PySem.W.min_tuple_data (vs := its.toArray) (I.ok.hd hc) pl (by simpa using ra) hal (by rw [hdp]; omega) fun i v' h' tk bs _ rd hk => item v' h' tk bs rd hk
variable {e d : Expr} {F Fd : FE} {p pos kp : Pos}
theorem pe_mm (mx : Bool) (hc : X.calm = true) (hu : X.A.units + 64 < cLine) (hg : Gl X (if mx then "max" else "min")) (hm : X.mg (if mx then "max" else "min") = none) (ha : PE X e (tF X.K F)) (hd : PE X d (tF X.K Fd))
    (he : starEach [e] X.env = (false, eval e X.env) :: starEach [] X.env) :
    PE X (.Call (.Name (if mx then "max" else "min") p) [e] [⟨some "default", d, kp⟩] pos) (tF X.K (fTwo (gMM mx) F Fd)) :=
  pe_imp (pe_callBK (ck_mm mx hc hu) hg hm (by cases mx <;> decide +kernel) (pa_cons ha pa_nil he) (pk_cons hd pk_nil) (by cases mx <;> decide) (by cases mx <;> decide) (by rw [he]; rfl) (by rw [he]; rfl) rfl rfl rfl) fun σ H Q h => by
    have h2 := use_two (rul2_d X.K (gMM mx)) h
    obtain ⟨a1, a2, a3, a4, a5, a6, a7, a8, a9, a10, a11⟩ := h2
    refine ⟨a1, a2, a3, a4, a5, a6, a7, a8, a9, a10, fun v R' H' g o r => ?_⟩
    obtain ⟨b1, b2, b3, b4, b5, b6, b7, b8, b9, b10, b11⟩ := a11 v R' H' g o r
    exact ⟨b1, b2, b3, b4, b5, b6, b7, b8, b9, b10, fun v2 R2 H2 g2 o2 r2 => ⟨v, v2, rfl, rfl, b11 v2 R2 H2 g2 o2 r2⟩⟩
end

/-! ### own defs called with keywords alone -/
/-- the keywords' values in the parameters' order -/
def perm {α : Type} (pm : List Nat) (xs : List α) : List α := pm.filterMap fun i => xs[i]?
structure KBn (K : PySem.W.Frag) (fd : FuncData) (ps ks : List Str) (pm : List Nat) : Prop where
  to : ∀ (s : Shared) (ws : List Value), K.In s.heap → ws.length = ks.length → BindsTo s fd ⟨[], ks.zip ws⟩ (ps.zip (perm pm ws))
def fCallK (F : FS) (G : FR) (n : Nat) (pm : List Nat) : FE := fun env => match G env with
  | some (as, e1) => if as.length == n then match mkSlots (perm pm as) e1 with
    | some ss => match F ss with
      | some (r, fr, ss') => if ss'.length == ss.length then some (r, kd fr, putBack (perm pm as) ss' e1) else none
      | none => none
    | none => none
    else none
  | none => none
theorem vals_perm {vs : List V} {us : List Value} (r : Vals vs us) : ∀ pm : List Nat, Vals (perm pm vs) (perm pm us)
  | [] => .nil
  | i :: pm => by
    unfold perm
    rw [List.filterMap_cons, List.filterMap_cons]
    cases h : vs[i]? with
    | none => rw [r.none_of h]; exact vals_perm r pm
    | some v =>
      obtain ⟨u, hu, ru⟩ := r.get h
      rw [hu]
      exact .cons ru (vals_perm r pm)
theorem all2_none {α β : Type} {P : α → β → Prop} {as : List α} {bs : List β} {i : Nat} (h : All2 P as bs) (e : bs[i]? = none) : as[i]? = none := by
  rw [List.getElem?_eq_none_iff] at e ⊢
  rw [h.len]; exact e
theorem all2_perm {α β : Type} {P : α → β → Prop} {as : List α} {bs : List β} (h : All2 P as bs) : ∀ pm : List Nat, All2 P (perm pm as) (perm pm bs)
  | [] => .nil
  | i :: pm => by
    unfold perm
    rw [List.filterMap_cons, List.filterMap_cons]
    cases e : bs[i]? with
    | none => rw [all2_none h e]; exact all2_perm h pm
    | some b =>
      obtain ⟨a, ha, p⟩ := h.get e
      rw [ha]
      exact .cons p (all2_perm h pm)
section
variable {X : Cx} {k : Nat} {f : Addr} {fd : FuncData} {ps ks : List Str} {x : Str} {p pos kp : Pos} {e : Expr} {kws : List Keyword} {F : FS} {Fe : FE} {G : FR} {pm : List Nat} {nm : Option Str}
theorem pk_imp {t t' : TA} (h : PK X kws t) (w : ∀ σ H Q, t' σ H Q → t σ H Q) : PK X kws t' := ⟨fun p pins s σ H Q I q => h.run p pins s σ H Q I (w σ H Q q)⟩
theorem pkr_nil : PK X [] (tR X.K frNil) := pk_imp pk_nil fun σ H Q h => by
  obtain ⟨As, vs0, B, R, env, ars, env', ok, z, q⟩ := h
  cases z
  exact q [] R H (.refl _ _) ok .nil
theorem pkr_cons (ha : PE X e (tF X.K Fe)) (hr : PK X kws (tR X.K G)) : PK X (⟨nm, e, kp⟩ :: kws) (tR X.K (frVal Fe G)) :=
  pk_imp (pk_cons ha hr) fun σ H Q h => by
    obtain ⟨As, vs0, B, R, env, ars, env', ok, z, q⟩ := h
    unfold frVal at z
    cases h1 : Fe env with
    | none => rw [h1] at z; cases z
    | some y =>
      obtain ⟨d1, k1, e1⟩ := y
      rw [h1] at z
      dsimp only at z
      cases h2 : G (stl d1 k1 e1) with
      | none => rw [h2] at z; cases z
      | some y2 =>
        obtain ⟨as2, e2⟩ := y2
        rw [h2] at z
        dsimp only at z
        split at z
        · cases z
          refine ⟨As, vs0, B, R, env, d1, k1, e1, ok, h1, fun v R1 H1 g1 ok1 r1 => ?_⟩
          obtain ⟨R2, g2, ok2, dp⟩ := ok1.stl r1
          refine ⟨As, vs0, B, R2, _, as2, _, ok2, h2, fun vs R3 H3 g3 ok3 al => ?_⟩
          exact q (v :: vs) R3 H3 ((g1.trans g2).trans g3) ok3 (.cons (dp_le g3.1 _ dp) al)
        · cases z
theorem pe_callKD (Fn : FnOk X.prog X.w X.K X.mg X.base (L2.CX X.prog X.w) k f fd ps (spD X.K F)) (hr : Room k X.A) (hg : Gl X x) (hm : X.mg x = some (.ref f)) (hk : PySem.W.keepIn X.K (.ref f) = true) (hb : KBn X.K fd ps ks pm)
    (hkw : PK X kws (tR X.K G)) (hdb : (x == ("__debug__" : Str)) = false) (hall : (backToKw pos (keywordEach kws X.env)).all (·.1.isSome) = true) (hks : (backToKw pos (keywordEach kws X.env)).filterMap (·.1) = ks)
    (hno : (backToKw pos (keywordEach kws X.env)).any (·.1.isNone) = false) (hl : kws.length = ks.length) :
    PE X (.Call (.Name x p) [] kws pos) (tF X.K (fCallK F G ks.length pm)) := by
  refine ⟨fun pins s σ H Q I h => ?_⟩
  obtain ⟨As, vs0, B, R, env, d, kk, env', ok, z, q⟩ := h
  unfold fCallK at z
  cases h1 : G env with
  | none => rw [h1] at z; cases z
  | some y =>
    obtain ⟨as, e1⟩ := y
    rw [h1] at z
    dsimp only at z
    split at z
    · rename_i hln
      cases h2 : mkSlots (perm pm as) e1 with
      | none => rw [h2] at z; cases z
      | some ss =>
        rw [h2] at z
        dsimp only at z
        cases h3 : F ss with
        | none => rw [h3] at z; cases z
        | some y3 =>
          obtain ⟨r, fr, ss'⟩ := y3
          rw [h3] at z
          dsimp only at z
          split at z
          · rename_i hls
            cases z
            refine wpAny_Call_Name_kw (ld_glob I hg hm ?_ hdb)
            have goal := hkw.run pos pins s σ H (fun vs H1 => ∃ R1, Grow B R R1 ∧ Ok X.K As vs0 B R1 H1 σ e1 ∧ All2 (ARok X.K B R1 H1 σ e1) vs as) I ⟨As, vs0, B, R, env, as, e1, ok, h1, fun vs R1 H1 g1 ok1 al => ⟨R1, g1, ok1, al⟩⟩
            refine PySem.W.callWith_KW0 (h₀ := X.base) (first := []) I.ok.mod.kin hk hall (thn goal ?_) (by rw [hno]; rfl)
            rintro ws s2 ⟨zs, H2, I2, rz, R1, g1, ok1, al⟩
            refine ⟨I2.kIn, ?_⟩
            rw [hks]
            have hw : ws.length = ks.length := by
              rw [← rz.length, al.len]
              simpa using hln
            have sp := call_post (Q := Q) (E := E0) ok1 (all2_perm al pm) h2 h3 (by simpa using hls) fun v R2 H2 g2 => q v R2 H2 (g1.trans g2)
            refine wpAny_call (codeAny_mono (Fn.run X.A X.stack s2 H2 ⟨[], ks.zip ws⟩ (perm pm ws) (perm pm zs) Q E0 hr I2.env0 (hb.to s2 ws I2.kIn hw) (vals_perm rz pm) sp) ?_)
            intro r3 s3 hq
            cases r3 with
            | error x => exact passL pins σ H2 s2 x s3 I2 hq
            | ok fl =>
              cases fl with
              | ret u => exact I2.after hq
              | next => exact hq.elim
              | brk => exact hq.elim
              | cont => exact hq.elim
          · cases z
    · cases z
end
end Pt

namespace Pt
open PySem PySem.Spec PyProof.Rows L2
variable [Tb]

/-! ### list(range(..)) -/
def rgD (a b : Int) : List D := (List.range (b - a).toNat).map fun i => PyData.int (a + (i : Nat))
def gRgL : G2
  | .int a, .int b => if decide (-(2 ^ 62) ≤ a) && decide (a < 2 ^ 62) && decide (-(2 ^ 62) ≤ b) && decide (b < 2 ^ 62) && decide ((b - a).toNat ≤ 2 ^ 24) then some (.list (rgD a b), .fr) else none
  | _, _ => none
theorem dpAll_ints {K : PySem.W.Frag} {R : Hp} (f : Nat → Int) : ∀ ns : List Nat, DpAll K R (ns.map fun i => V.int (f i)) (ns.map fun i => PyData.int (f i))
  | [] => .nil
  | n :: ns => .cons (.int _) (dpAll_ints f ns)
section
variable {X : Cx} {a b : Expr} {Fa Fb : FE} {p p2 pos pos2 : Pos}
theorem rgOk_of {a b : Int} (h : (decide (-(2 ^ 62) ≤ a) && decide (a < 2 ^ 62) && decide (-(2 ^ 62) ≤ b) && decide (b < 2 ^ 62) && decide ((b - a).toNat ≤ 2 ^ 24)) = true) : RgOk a b := by
  simp only [Bool.and_eq_true, decide_eq_true_eq] at h
  exact ⟨h.1.1.1.1, h.1.1.1.2, h.1.1.2, h.1.2, h.2⟩
/-- the range's list as an operation -/
def rRgL (x y : V) (H : Hp) (Q : VK) : Prop := ∃ i j, x = .int i ∧ y = .int j ∧ RgOk i j ∧ ∀ q, H q = none → Q (.ref q) (upd H q (.lst (rgV i j)))
theorem rgL_of {K : PySem.W.Frag} {x y : V} {H : Hp} {Q : VK} (h : rD2 K gRgL x y H Q) : rRgL x y H Q := by
  obtain ⟨As, vs0, B, R, σ', env, d1, d2, e, k, ok, u1, u2, hg, q⟩ := h
  cases d1 <;> cases d2 <;> try (cases hg; done)
  case int.int i j =>
    dsimp only [gRgL] at hg
    split at hg
    · rename_i hz
      cases hg
      exact ⟨i, j, u1.int, u2.int, rgOk_of hz, fun q hq => Post.newL ok hq (dpAll_ints _ _) ‹_›⟩
    · cases hg
theorem pe_lrg1D (hc : X.calm = true) (hgl : Gl X "list") (hml : X.mg "list" = none) (hg : Gl X "range") (hm : X.mg "range" = none) (ha : PE X a (tF X.K Fa)) (na : starEach [a] X.env = (false, eval a X.env) :: starEach [] X.env)
    (nl : starEach [.Call (.Name "range" p) [a] [] pos] X.env = (false, eval (.Call (.Name "range" p) [a] [] pos) X.env) :: starEach [] X.env) :
    PE X (.Call (.Name "list" p2) [.Call (.Name "range" p) [a] [] pos] [] pos2) (tF X.K (fTwo gRgL (fCst (.int 0)) Fa)) :=
  pe_imp (pe_listRg hc hgl hml (prg_1 hg hm ha na) nl) fun σ H Q h => by
    have h2 := use_two (rul2_d X.K gRgL) h
    have h3 := cst_post (v := .int 0) (fun _ => .int 0) _ _ _ h2
    obtain ⟨a1, a2, a3, a4, a5, a6, a7, a8, a9, a10, a11⟩ := h3
    refine ⟨a1, a2, a3, a4, a5, a6, a7, a8, a9, a10, fun v R' H' g o r => ?_⟩
    obtain ⟨i, j, e1, e2, ok, q⟩ := rgL_of (a11 v R' H' g o r)
    cases e1
    exact ⟨j, e2, ok, q⟩
theorem pe_lrg2D (hc : X.calm = true) (hgl : Gl X "list") (hml : X.mg "list" = none) (hg : Gl X "range") (hm : X.mg "range" = none) (ha : PE X a (tF X.K Fa)) (hb : PE X b (tF X.K Fb)) (na : starEach [a, b] X.env = (false, eval a X.env) :: starEach [b] X.env)
    (nb : starEach [b] X.env = (false, eval b X.env) :: starEach [] X.env) (hp : (backTo pos (starEach [b] X.env)).any (·.1) = false)
    (nl : starEach [.Call (.Name "range" p) [a, b] [] pos] X.env = (false, eval (.Call (.Name "range" p) [a, b] [] pos) X.env) :: starEach [] X.env) :
    PE X (.Call (.Name "list" p2) [.Call (.Name "range" p) [a, b] [] pos] [] pos2) (tF X.K (fTwo gRgL Fa Fb)) :=
  pe_imp (pe_listRg hc hgl hml (prg_2 hg hm ha hb na nb hp) nl) fun σ H Q h => by
    have h3 := use_two (rul2_d X.K gRgL) h
    obtain ⟨a1, a2, a3, a4, a5, a6, a7, a8, a9, a10, a11⟩ := h3
    refine ⟨a1, a2, a3, a4, a5, a6, a7, a8, a9, a10, fun v R' H' g o r => ?_⟩
    obtain ⟨b1, b2, b3, b4, b5, b6, b7, b8, b9, b10, b11⟩ := a11 v R' H' g o r
    refine ⟨b1, b2, b3, b4, b5, b6, b7, b8, b9, b10, fun v2 R2 H2 g2 o2 r2 => ?_⟩
    obtain ⟨i, j, e1, e2, ok, q⟩ := rgL_of (b11 v2 R2 H2 g2 o2 r2)
    exact ⟨i, j, e1, e2, ok, q⟩

/-! ### enumerate -/
def enumD (n : Nat) : List D → List D
  | [] => []
  | d :: ds => .tuple [.int n, d] :: enumD (n + 1) ds
def fiEnum (G : FA) : FI := fun env => match G env with
  | some ([.list xs], e1) => some (enumD 0 xs, e1)
  | _ => none
theorem enumD_len : ∀ (n : Nat) (ds : List D), (enumD n ds).length = ds.length
  | _, [] => rfl
  | n, d :: ds => by simp [enumD, enumD_len (n + 1) ds]
theorem enumD_get : ∀ (n : Nat) (ds : List D) (i : Nat) (d : D), (enumD n ds)[i]? = some d → ∃ x, ds[i]? = some x ∧ d = .tuple [.int ((n + i : Nat) : Int), x]
  | _, [], i, d, h => by simp [enumD] at h
  | n, x :: ds, 0, d, h => by simp [enumD] at h; exact ⟨x, rfl, by rw [← h]; rfl⟩
  | n, x :: ds, i + 1, d, h => by
    obtain ⟨y, h1, h2⟩ := enumD_get (n + 1) ds i d (by simpa [enumD] using h)
    exact ⟨y, by simpa using h1, by rw [h2, show n + 1 + i = n + (i + 1) from by omega]⟩
theorem pi_enumD {e : Expr} {p tpos : Pos} {elts : List Expr} {kk : Nat} {G : FA} (hg : Gl X "enumerate") (hm : X.mg "enumerate" = none) (ha : PA X [e] (tA X.K G))
    (hs : starEach [e] X.env = [(false, eval e X.env)]) : PI X (.Tuple elts kk tpos) (.Call (.Name "enumerate" p) [e] [] pos) (tI X.K (fiEnum G)) :=
  pi_imp (pi_enum hg hm ha hs) fun σ H Rr h => by
    obtain ⟨As, vs0, B, R, env, ds, env', ok, z, q⟩ := h
    unfold fiEnum at z
    split at z
    · rename_i xs e1 h1
      cases z
      refine ⟨As, vs0, B, R, env, _, _, ok, h1, fun vs R' H' g ok' dps => ?_⟩
      cases dps with
      | cons d1 d2 =>
        cases d2
        cases d1 with
        | @lst ad vs1 _ s1 p1 =>
          refine ⟨_, _, rfl, sqL_le ok'.rh s1, q _ _ (YPair (fun i => some (.int (i : Nat))) (fun i => vs1[i]?)) R' H' g ok' ⟨?_, fun H l => sqL_le l s1, fun i H x H' d hd y => ?_⟩⟩
          · rw [enumD_len, ← dpAll_len p1]; exact walk_enum
          · obtain ⟨b, h1, e⟩ := enumD_get _ _ _ _ hd
            obtain ⟨T, v, u, e1, e2, e3, e4, e5⟩ := y
            obtain ⟨u', hu, du⟩ := dpAll_get' p1 h1
            have e5 : vs1[i]? = some u := e5
            rw [e5] at hu; cases hu
            cases e4
            exact .inr ⟨T, _, _, e1, e2, e3, e, .cons (by rw [Nat.zero_add]; exact .int _) (.cons du .nil)⟩
    · cases z
end
end Pt

namespace Pt
open PySem PySem.Spec PyProof.Rows L2
variable [Tb]

/-! ### a op b op c -/
def fChain (g h : G2) (Fa Fb Fc : FE) : FE := fun env => match Fa env with
  | some (d1, k1, e1) => match Fb e1 with
    | some (d2, k2, e2) => match rsv d1 k1 e2 with
      | some x => match rsv d2 k2 e2 with
        | some y => match g x y with
          | some (.bool true, .st) => match Fc e2 with
            | some (d3, _, e3) => match rsv d2 k2 e3 with
              | some z => match h z d3 with
                | some (r, k) => some (r, k, e3)
                | none => none
              | none => none
            | none => none
          | some (.bool false, .st) => some (.bool false, .st, e2)
          | _ => none
        | none => none
      | none => none
    | none => none
  | none => none
section
variable {X : Cx} {a b c : Expr} {Fa Fb Fc : FE} {pos : Pos} {op op' : CmpOp} {g h : G2}
theorem use_chain {K : PySem.W.Frag} {σ : L2.St} {H : Hp} {Q : VK} (hh : tF K (fChain g h Fa Fb Fc) σ H Q) : tChain (rD2 K g) (rD2 K h) (tF K Fa) (tF K Fb) (tF K Fc) σ H Q := by
  obtain ⟨As, vs0, B, R, env, d, k, env', ok, z, q⟩ := hh
  unfold fChain at z
  cases h1 : Fa env with
  | none => rw [h1] at z; cases z
  | some z1 =>
    obtain ⟨d1, k1, e1⟩ := z1
    rw [h1] at z
    dsimp only at z
    cases h2 : Fb e1 with
    | none => rw [h2] at z; cases z
    | some z2 =>
      obtain ⟨d2, k2, e2⟩ := z2
      rw [h2] at z
      dsimp only at z
      cases h3 : rsv d1 k1 e2 with
      | none => rw [h3] at z; cases z
      | some x' =>
        rw [h3] at z
        dsimp only at z
        cases h4 : rsv d2 k2 e2 with
        | none => rw [h4] at z; cases z
        | some y' =>
          rw [h4] at z
          dsimp only at z
          refine ⟨As, vs0, B, R, env, d1, k1, _, ok, h1, fun v R1 H1 g1 ok1 r1 => ?_⟩
          obtain ⟨R1', g1', ok1', w1⟩ := ok1.hold r1
          refine ⟨As, vs0, B, R1', e1, d2, k2, _, ok1', h2, fun u R2 H2 g2 ok2 r2 => ?_⟩
          obtain ⟨R2', g2', ok2', w2⟩ := ok2.hold r2
          have g02 : Grow B R R2' := ((g1.trans g1').trans g2).trans g2'
          have u1 := ok2'.waited (w1.le (g2.trans g2').1) h3
          have u2 := ok2'.waited w2 h4
          split at z
          · rename_i h5
            refine ⟨As, vs0, B, R2', σ, e2, x', y', _, _, ok2', u1, u2, h5, fun v3 R3 H3 g3 ok3 r3 => ?_⟩
            cases r3
            refine ⟨true, rfl, ?_⟩
            rw [if_pos rfl]
            cases h6 : Fc e2 with
            | none => rw [h6] at z; cases z
            | some z3 =>
              obtain ⟨d3, k3, e3⟩ := z3
              rw [h6] at z
              dsimp only at z
              cases h7 : rsv d2 k2 e3 with
              | none => rw [h7] at z; cases z
              | some z' =>
                rw [h7] at z
                dsimp only at z
                cases h8 : h z' d3 with
                | none => rw [h8] at z; cases z
                | some z4 =>
                  obtain ⟨r4, k4⟩ := z4
                  rw [h8] at z
                  cases z
                  refine ⟨As, vs0, B, R3, e2, d3, k3, _, ok3, h6, fun v4 R4 H4 g4 ok4 r4' => ?_⟩
                  exact ⟨As, vs0, B, R4, σ, _, z', d3, _, _, ok4, ok4.waited (w2.le (g3.trans g4).1) h7, ok4.use r4', h8, fun v5 R5 H5 g5 => q v5 R5 H5 (((g02.trans g3).trans g4).trans g5)⟩
          · rename_i h5
            cases z
            refine ⟨As, vs0, B, R2', σ, _, x', y', _, _, ok2', u1, u2, h5, fun v3 R3 H3 g3 ok3 r3 => ?_⟩
            cases r3
            refine ⟨false, rfl, ?_⟩
            rw [if_neg (by decide)]
            exact q _ R3 H3 (g02.trans g3) ok3 (.bl false)
          · cases z
theorem pe_chainD (ho : OpR X (compareOp op) (rD2 X.K g)) (ho' : OpR X (compareOp op') (rD2 X.K h)) (ha : PE X a (tF X.K Fa)) (hb : PE X b (tF X.K Fb)) (hc : PE X c (tF X.K Fc))
    (hm : lastMarks [op, op'] [b, c] = false) : PE X (.Compare a [op, op'] [b, c] pos) (tF X.K (fChain g h Fa Fb Fc)) := pe_imp (pe_chain ho ho' ha hb hc hm) fun _ _ _ => use_chain
theorem chain_bool (hg : ∀ d e r k, h d e = some (r, k) → ∃ t, r = .bool t) {env : Ev} {d : D} {k : Kd} {e' : Ev} (z : fChain g h Fa Fb Fc env = some (d, k, e')) : ∃ b, d = .bool b := by
  unfold fChain at z
  repeat' (first | (cases z; done) | (split at z))
  all_goals first | (cases z; exact hg _ _ _ _ ‹_›) | (cases z; exact ⟨_, rfl⟩)
theorem pt_chainD (ho : OpR X (compareOp op) (rD2 X.K g)) (ho' : OpR X (compareOp op') (rD2 X.K h)) (ha : PE X a (tF X.K Fa)) (hb : PE X b (tF X.K Fb)) (hc : PE X c (tF X.K Fc))
    (hm : lastMarks [op, op'] [b, c] = false) (hg : ∀ d e r k, h d e = some (r, k) → ∃ t, r = .bool t) : PT X (.Compare a [op, op'] [b, c] pos) (tT X.K (fTst (fChain g h Fa Fb Fc))) :=
  pt_imp (pt_chain ho ho' ha hb hc hm) fun σ H Q hh => use_chain (tT_bool (fun env d k e' hf => chain_bool hg hf) hh)
end
section
variable {X : Cx} {e d : Expr} {F Fd : FE} {p pos kp : Pos}
theorem pe_maxD (hc : X.calm = true) (hu : X.A.units + 64 < cLine) (hg : Gl X "max") (hm : X.mg "max" = none) (ha : PE X e (tF X.K F)) (hd : PE X d (tF X.K Fd)) (he : starEach [e] X.env = (false, eval e X.env) :: starEach [] X.env) :
    PE X (.Call (.Name "max" p) [e] [⟨some "default", d, kp⟩] pos) (tF X.K (fTwo (gMM true) F Fd)) := pe_mm true hc hu hg hm ha hd he
theorem pe_minD (hc : X.calm = true) (hu : X.A.units + 64 < cLine) (hg : Gl X "min") (hm : X.mg "min" = none) (ha : PE X e (tF X.K F)) (hd : PE X d (tF X.K Fd)) (he : starEach [e] X.env = (false, eval e X.env) :: starEach [] X.env) :
    PE X (.Call (.Name "min" p) [e] [⟨some "default", d, kp⟩] pos) (tF X.K (fTwo (gMM false) F Fd)) := pe_mm false hc hu hg hm ha hd he
theorem cr_max1 (hc : X.calm = true) (hu : X.A.units + 64 < cLine) : CallR X (.builtin "max") (rC1 X.K (gMM1 true)) := cr_mm1 true hc hu
theorem cr_min1 (hc : X.calm = true) (hu : X.A.units + 64 < cLine) : CallR X (.builtin "min") (rC1 X.K (gMM1 false)) := cr_mm1 false hc hu
end
/-! which operations give truth values -/
def GB (g : G2) : Prop := ∀ d e r k, g d e = some (r, k) → ∃ t, r = .bool t
theorem gb_eq : GB gEq := fun d e r k h => by unfold gEq at h; split at h <;> cases h; exact ⟨_, rfl⟩
theorem gb_ne : GB gNe := fun d e r k h => by unfold gNe at h; split at h <;> cases h; exact ⟨_, rfl⟩
theorem gb_lt : GB gLt := fun d e r k h => by unfold gLt at h; split at h <;> cases h; exact ⟨_, rfl⟩
theorem gb_gt : GB gGt := fun d e r k h => by unfold gGt at h; split at h <;> cases h; exact ⟨_, rfl⟩
theorem gb_le : GB gLe := fun d e r k h => by unfold gLe at h; split at h <;> cases h; exact ⟨_, rfl⟩
theorem gb_ge : GB gGe := fun d e r k h => by unfold gGe at h; split at h <;> cases h; exact ⟨_, rfl⟩
theorem gb_in : GB gIn := fun d e r k h => by unfold gIn at h; split at h <;> first | (split at h <;> cases h; exact ⟨_, rfl⟩) | cases h
theorem gb_notIn : GB gNotIn := fun d e r k h => by unfold gNotIn at h; split at h <;> first | (split at h <;> cases h; exact ⟨_, rfl⟩) | cases h

/-- by way of a tuple -/
def gParT (is : List Nat) (G : FK) : FG := fun env => if is.length ≤ sizeLine then gPar is G env else none
theorem ps_parTG {X : Cx} {As : List Nat} {np : Nat} {G : FK} {es : List Expr} {pos : Pos} {tg : List Expr} {is : List Nat} {kt k2 : Nat} {pt pt2 : Pos} (hc : X.calm = true) (hg : PGs X tg (gNames is)) (ha : PA X es (tK X.K G))
    (hn : (assignEach tg X.env).length = is.length) (hst : (assignEach tg X.env).findIdx? (·.1) = none)
    (hs : swapsWithSole [.Tuple tg kt pt] (.Tuple es k2 pt2) pos.line X.env = pure false) (hw : swappedStores [.Tuple tg kt pt] (.Tuple es k2 pt2) X.env = pure none) (hai : ∀ i ∈ is, np ≤ i ∨ i ∈ As) :
    PS X (.Assign [.Tuple tg kt pt] (.Tuple es k2 pt2) pos) (tG X.K As np (gParT is G)) := ps_parT hc hg ha hn hst hs hw hai
/-! ### a def with its row's defaults (none) -/
section
variable {P : Program} {w : World} {K : PySem.W.Frag} {mg : Str → Option Value} {base : Heap} {x qual : Str} {params : Arguments} {body : List Stmt} {scope : Scope} {f : Addr} {fd : FuncData}
theorem fn_DD {kws : List (Str × V)} {dvs : List V} {N ps : List Str} {k : Nat} {As : List Nat} {G : FG} (Fn : FunD K x qual params body scope dvs kws f fd) (S : FnScope N ps scope) (hN : ps.length ≤ N.length)
    (hb : ∀ (cdv : Value) (A : Around) (outer : List Env) (s : Shared) (H : Hp) (E : XK), Room k (A.deeper (envOfC qual scope s.heap.objs.size f cdv)) →
      PSs (cxOf (L2.CX P w) P w K mg base N qual scope f cdv A outer s H E).nox body (tG K As ps.length G)) :
    FnOk P w K mg base (L2.CX P w) (k + 1) f fd ps (spD K (fDef N.length ps.length As G)) :=
  Fn.ok S (fun vs H Q E h => (def_read hN h).1) fun cdv A outer s H vs Q E hr h => ⟨_, (hb cdv A outer s H E hr).nox, (def_read hN h).2⟩
theorem kbn_D {ps ks : List Str} {pm : List Nat} (F : FunD K x qual params body scope [] [] f fd)
    (h : ∀ (kV doc pv : Value) (an : Option Addr) (cdv ct : Value) (ws : List Value), ws.length = ks.length → bindArgs (PySem.W.fnOf x qual params body scope .none kV doc pv an cdv ct) ⟨[], ks.zip ws⟩ = pure (ps.zip (perm pm ws))) : Pt.KBn K fd ps ks pm := by
  obtain ⟨oc, od, dV, kV, doc, pv, an, cdv, ct, osl, rfl, lk, hcd, hD, hK⟩ := F.ex
  rcases hD with ⟨_, rfl⟩ | ⟨e, _⟩
  · exact ⟨fun s ws _ hl => .of_eq (h kV doc pv an cdv ct ws hl)⟩
  · exact absurd rfl e
end
end Pt

namespace Pt
open PySem PySem.Spec PyProof.Rows L2
variable [Tb]

/-! ### a law's end -/
def scr (ns : List Int) : Ev := [.pure (.list (ns.map PyData.int))]
def spL (K : PySem.W.Frag) (n : Nat) : Sp := fun vs H Q _ => ∃ (a : Addr) (ns : List Int), vs = [.ref a] ∧ ns.length ≤ n ∧ SqL K H a (ns.map V.int) ∧ LamX.Tabs Tb.T H ∧ ∀ H', Q (.bl true) H'
/-- without tables -/
def noT (H : Hp) : Hp := fun a => match H a with
  | some (.tbl _) => none
  | x => x
theorem noT_get {H : Hp} {a : Addr} {o : HO} (e : H a = some o) (n : ∀ ps, o ≠ .tbl ps) : noT H a = some o := by
  unfold noT
  rw [e]
  cases o with
  | tbl ps => exact absurd rfl (n ps)
  | _ => rfl
theorem noT_of {H : Hp} {a : Addr} {o : HO} (e : noT H a = some o) : H a = some o ∧ ∀ ps, o ≠ .tbl ps := by
  unfold noT at e
  cases h : H a with
  | none => rw [h] at e; cases e
  | some u =>
    rw [h] at e
    cases u with
    | tbl ps => cases e
    | _ => cases e; exact ⟨rfl, fun ps z => by cases z⟩
theorem noT_le (H : Hp) : Le (noT H) H := ⟨fun a o _ e => (noT_of e).1, fun a e => by unfold noT; rw [e]⟩
theorem noT_nt (H : Hp) : NT (noT H) := fun a ps e => (noT_of e).2 ps rfl
theorem noT_rd {H : Hp} {a : Addr} {u : HO} (r : Rd H a u) (n : ∀ ps, u ≠ .tbl ps) : Rd (noT H) a u := by
  rcases r with r | ⟨o, r⟩
  · exact .inl (noT_get r n)
  · exact .inr ⟨o, noT_get r nt_frz⟩
theorem noT_sq {K : PySem.W.Frag} {H : Hp} {a : Addr} {xs : List V} (r : SqL K H a xs) : SqL K (noT H) a xs := by
  rcases r with r | r
  · exact .inl (noT_rd r nt_lst)
  · exact .inr r
theorem dpAll_intL {K : PySem.W.Frag} {R : Hp} : ∀ ns : List Int, DpAll K R (ns.map V.int) (ns.map PyData.int)
  | [] => .nil
  | n :: ns => .cons (.int n) (dpAll_intL ns)
theorem spL_imp {K : PySem.W.Frag} {n : Nat} {F : FS} (hF : ∀ ns : List Int, ns.length ≤ n → ∃ ss', F (scr ns) = some (.bool true, false, ss')) : ∀ vs H Q E, spL K n vs H Q E → spD K F vs H Q E := by
  rintro vs H Q E ⟨a, ns, rfl, hl, hs, ht, q⟩
  obtain ⟨ss', hf⟩ := hF ns hl
  refine ⟨fun _ => none, noT H, scr ns, .bool true, false, ss', ⟨rfl, noT_le H, ⟨(fun _ _ _ h => by cases h), fun _ _ => rfl⟩, fun i s h => ?_, fun i j ds es b h => ?_, fun i v h => ?_, fun i j ds es b h => ?_, ht, noT_nt H, fun _ _ z => by cases z⟩, hf, fun v R' H' g ok r => ?_⟩
  · cases i with
    | zero => cases h; exact ⟨_, rfl, .lst (noT_sq hs) (dpAll_intL ns)⟩
    | succ i => simp [scr] at h
  · cases i with
    | zero => cases h
    | succ i => simp [scr] at h
  · simp at h
  · cases i with
    | zero => cases h
    | succ i => simp [scr] at h
  · cases r
    exact q H'
end Pt
namespace Pt
open PySem PySem.Spec PyProof.Rows L2
/-- what stands at the law's head: the code objects and the tables cs of the defs that make a lambda, nm their names -/
theorem walk_D {l : PySem.W.OpenLaw} {n k : Nat} {q : Program} {loose : List Str} {XP : (Str → Option Value) → Heap → Prop} {YP : World → Heap → Prop} {d : DefRec} {x : Str} {Flaw : FS}
    (hn : l.most = some n) (hn2 : n ≤ sizeLine) (hdf : d.params.defaults = []) (hr : Room k callerA) (hF : ∀ ns : List Int, ns.length ≤ n → ∃ ss', Flaw (scr ns) = some (.bool true, false, ss'))
    (F : ∀ (w : World) (mg : Str → Option Value) (fa : Addr) (h : Heap), YP w h → h.Ns mainGlobals mg → mg d.name = some (.ref fa) →
      ∃ (K : PySem.W.Frag) (fd : FuncData) (cs : List (Addr × Addr)) (nm : Addr → Str), K.In h ∧ (∀ p ∈ cs, h.get? p.2 = some { cls := .none, data := .fields #[] }) ∧ (∀ p ∈ cs, K.lookup p.2 = none) ∧ (∀ p ∈ cs, PySem.W.CodeHd h p.1 p.2) ∧
        (∀ (s : Shared) (u : Value), BindsTo s fd ⟨[u], []⟩ [(x, u)]) ∧
        ∀ base : Heap, K.In base → base.Ns mainGlobals mg → (∀ p ∈ cs, LamX.TabB base mg p.1 p.2) → FnOk l.prog w K mg base (L2.CX l.prog w) k fa fd [x] (@spD ⟨cs.map fun p => (p.2, nm p.2)⟩ K Flaw)) :
    PySem.W.WalkO q loose XP YP l.row.toRowW d [] (fun f vs => PySem.call f vs) :=
  LamX.walk_ofTsE (CX := fun w => L2.CX l.prog w) hn hn2 hdf hr (fun w mg fa h hy hg hm => by
    obtain ⟨K, fd, cs, nm, h1, t1, t2, t3, h2, h3⟩ := F w mg fa h hy hg hm
    letI : Tb := ⟨cs.map fun p => (p.2, nm p.2)⟩
    refine ⟨K, h1, fd, cs, spL K n, t1, t2, t3, h2, fun H a ns hl _ hT hs => ⟨a, ns, rfl, hl, hs, fun p hp => ?_, fun _ => rfl⟩, fun base b1 b2 b3 => (h3 base b1 b2 b3).imp (spL_imp hF)⟩
    obtain ⟨c, hc, rfl⟩ := List.mem_map.mp hp
    exact LamX.TabS.nil (hT c hc)) fun w H s e s' h => by
    obtain ⟨a, B, H', cls, d, _, _, _, _, _, _, _, z⟩ := h
    exact z
end Pt

namespace Pt
open PySem PySem.Spec PyProof.Rows L2
variable [Tb]

/-! ### evaluation of readings -/
section
variable {i j : Int} {a b c d : D} {ds es : List D} {x y : Str} {p q : Bool}
@[simp] theorem gIx_l0 : gIx (.list (a :: ds)) (.int 0) = some (a, .st) := by simp [gIx, atI, ixN]
@[simp] theorem gIx_t0 : gIx (.tuple (a :: ds)) (.int 0) = some (a, .st) := by simp [gIx, atI, ixN]
@[simp] theorem gIx_l1 : gIx (.list (a :: b :: ds)) (.int 1) = some (b, .st) := by
  have : (1 : Int) < ((a :: b :: ds).length : Nat) := by simp only [List.length_cons]; omega
  simp only [gIx, atI, ixN]; rw [if_pos (by decide), if_pos this]; rfl
@[simp] theorem gIx_t1 : gIx (.tuple (a :: b :: ds)) (.int 1) = some (b, .st) := by
  have : (1 : Int) < ((a :: b :: ds).length : Nat) := by simp only [List.length_cons]; omega
  simp only [gIx, atI, ixN]; rw [if_pos (by decide), if_pos this]; rfl
@[simp] theorem gIx_l2 : gIx (.list (a :: b :: c :: ds)) (.int 2) = some (c, .st) := by
  have : (2 : Int) < ((a :: b :: c :: ds).length : Nat) := by simp only [List.length_cons]; omega
  simp only [gIx, atI, ixN]; rw [if_pos (by decide), if_pos this]; rfl
@[simp] theorem gIx_t2 : gIx (.tuple (a :: b :: c :: ds)) (.int 2) = some (c, .st) := by
  have : (2 : Int) < ((a :: b :: c :: ds).length : Nat) := by simp only [List.length_cons]; omega
  simp only [gIx, atI, ixN]; rw [if_pos (by decide), if_pos this]; rfl
theorem atI_nat {α : Type} {xs : List α} {n : Nat} (h : n < xs.length) : atI xs (n : Int) = xs[n]? := by
  simp only [atI, ixN]; rw [if_pos (by omega), if_pos (by omega)]; rfl
theorem atI_last {α : Type} {xs : List α} (h : xs ≠ []) : atI xs (-1) = xs.getLast? := by
  have hl : 0 < xs.length := List.length_pos_iff.mpr h
  simp only [atI, ixN]
  rw [if_neg (by decide), if_pos (by omega)]
  rw [List.getLast?_eq_getElem?]
  show xs[((-1 : Int) + xs.length).toNat]? = _
  congr 1
  omega
@[simp] theorem gLt_i : gLt (.int i) (.int j) = some (.bool (decide (i < j)), .st) := by simp [gLt, lOk, PySem.W.alike, PyData.depth, PySem.W.dataLt_int]
@[simp] theorem gGt_i : gGt (.int i) (.int j) = some (.bool (decide (j < i)), .st) := by simp [gGt, lOk, PySem.W.alike, PyData.depth, PySem.W.dataLt_int]
@[simp] theorem gLe_i : gLe (.int i) (.int j) = some (.bool (decide (i ≤ j)), .st) := by simp [gLe, lOk, PySem.W.alike, PyData.depth, PySem.W.dataLt_int]; rw [← decide_not]; congr 1; simp
@[simp] theorem gGe_i : gGe (.int i) (.int j) = some (.bool (decide (j ≤ i)), .st) := by simp [gGe, lOk, PySem.W.alike, PyData.depth, PySem.W.dataLt_int]; rw [← decide_not]; congr 1; simp
@[simp] theorem gEq_i : gEq (.int i) (.int j) = some (.bool (i == j), .st) := by simp [gEq, dOk, PyData.plain, PyData.depth, PyData.eqv]
@[simp] theorem gNe_i : gNe (.int i) (.int j) = some (.bool (!(i == j)), .st) := by simp [gNe, dOk, PyData.plain, PyData.depth, PyData.eqv]
@[simp] theorem gEq_b : gEq (.bool p) (.bool q) = some (.bool (p == q), .st) := by simp [gEq, dOk, PyData.plain, PyData.depth, PyData.eqv]
@[simp] theorem gNe_b : gNe (.bool p) (.bool q) = some (.bool (!(p == q)), .st) := by simp [gNe, dOk, PyData.plain, PyData.depth, PyData.eqv]
@[simp] theorem gEq_s : gEq (.str x) (.str y) = some (.bool (x == y), .st) := by simp [gEq, dOk, PyData.plain, PyData.depth, PyData.eqv]
@[simp] theorem gNe_s : gNe (.str x) (.str y) = some (.bool (!(x == y)), .st) := by simp [gNe, dOk, PyData.plain, PyData.depth, PyData.eqv]
@[simp] theorem gIsN_eq : gIsN d = some (.bool (isNone d), .st) ∨ True := .inr trivial
@[simp] theorem gAdd_i : gAdd (.int i) (.int j) = some (.int (i + j), .st) := rfl
@[simp] theorem gSub_i : gSub (.int i) (.int j) = some (.int (i - j), .st) := rfl
@[simp] theorem gNeg_i : gNeg (.int i) = some (.int (-i), .st) := rfl
@[simp] theorem gAbs_i : gAbs (.int i) = some (.int (if i < 0 then -i else i), .st) := rfl
@[simp] theorem gInt_i : gInt (.int i) = some (.int i, .st) := rfl
@[simp] theorem gInt_b : gInt (.bool p) = some (.int (if p then 1 else 0), .st) := rfl
theorem gMod_i (h : 0 < j) : gMod (.int i) (.int j) = some (.int (i % j), .st) := by simp [gMod, h]
theorem gDiv_i (h : 0 < j) (h2 : j < 1073741824) : gDiv (.int i) (.int j) = some (.int (i / j), .st) := by simp [gDiv, h, h2]
theorem gMul_i (h : (-(2 ^ 64) < i ∧ i < 2 ^ 64) ∨ (-(2 ^ 64) < j ∧ j < 2 ^ 64)) : gMul (.int i) (.int j) = some (.int (i * j), .st) := by
  simp only [gMul]
  rw [if_pos]
  simp only [mulOk, Bool.or_eq_true, Bool.and_eq_true, decide_eq_true_eq]
  exact h
@[simp] theorem tru_b : tru (.bool p) = some p := rfl
@[simp] theorem tru_i : tru (.int i) = some (i != 0) := rfl
@[simp] theorem tru_l : tru (.list ds) = some (!ds.isEmpty) := rfl
@[simp] theorem tru_t : tru (.tuple ds) = some (!ds.isEmpty) := rfl
@[simp] theorem tru_n : tru .none = some false := rfl
@[simp] theorem gLen_l : gLen (.list ds) = some (.int ds.length, .st) := rfl
@[simp] theorem gLen_t : gLen (.tuple ds) = some (.int ds.length, .st) := rfl
@[simp] theorem gList_l : gList (.list ds) = some (.list ds, .fr) := rfl
@[simp] theorem gList_t : gList (.tuple ds) = some (.list ds, .fr) := rfl
@[simp] theorem gTuple_l : gTuple (.list ds) = some (.tuple ds, .st) := rfl
@[simp] theorem gTuple_t : gTuple (.tuple ds) = some (.tuple ds, .st) := rfl
theorem gAdd_l (h : ds.length + es.length ≤ sizeLine) : gAdd (.list ds) (.list es) = some (.list (ds ++ es), .fr) := by simp [gAdd, h]
end
@[simp] theorem fVar_ap {i : Nat} {env : Ev} : fVar i env = (match env[i]? with
  | some (.pure d) => some (d, .st, env)
  | some (.own ds) => some (.list ds, .pk i, env)
  | _ => none) := rfl
@[simp] theorem fCst_ap {d : D} {env : Ev} : fCst d env = (some (d, .st, env)) := rfl
@[simp] theorem fOne_ap {g : G1} {Fa : FE} {env : Ev} : fOne g Fa env = (match Fa env with
  | some (d, _, e1) => match g d with
    | some (r, k) => some (r, k, e1)
    | none => none
  | none => none) := rfl
@[simp] theorem fTwo_ap {g : G2} {Fa Fb : FE} {env : Ev} : fTwo g Fa Fb env = (match Fa env with
  | some (d1, k1, e1) => match Fb e1 with
    | some (d2, _, e2) => match rsv d1 k1 e2 with
      | some d1' => match g d1' d2 with
        | some (r, k) => some (r, k, e2)
        | none => none
      | none => none
    | none => none
  | none => none) := rfl
@[simp] theorem fAnd_ap {Fa Fb : FE} {env : Ev} : fAnd Fa Fb env = (match Fa env with
  | some (d, k, e1) => match tru d with
    | some true => Fb e1
    | some false => some (d, k, e1)
    | none => none
  | none => none) := rfl
@[simp] theorem fOr_ap {Fa Fb : FE} {env : Ev} : fOr Fa Fb env = (match Fa env with
  | some (d, k, e1) => match tru d with
    | some true => some (d, k, e1)
    | some false => Fb e1
    | none => none
  | none => none) := rfl
@[simp] theorem fTst_ap {F : FE} {env : Ev} : fTst F env = (match F env with
  | some (d, _, e1) => match tru d with
    | some t => some (t, e1)
    | none => none
  | none => none) := rfl
@[simp] theorem fTAnd_ap {Fa Fb : FT} {env : Ev} : fTAnd Fa Fb env = (match Fa env with
  | some (true, e1) => Fb e1
  | some (false, e1) => some (false, e1)
  | none => none) := rfl
@[simp] theorem fTOr_ap {Fa Fb : FT} {env : Ev} : fTOr Fa Fb env = (match Fa env with
  | some (true, e1) => some (true, e1)
  | some (false, e1) => Fb e1
  | none => none) := rfl
@[simp] theorem fTNot_ap {Fa : FT} {env : Ev} : fTNot Fa env = (match Fa env with
  | some (t, e1) => some (!t, e1)
  | none => none) := rfl
@[simp] theorem fNotV_ap {Fa : FT} {env : Ev} : fNotV Fa env = (match Fa env with
  | some (t, e1) => some (.bool (!t), .st, e1)
  | none => none) := rfl
@[simp] theorem fIf_ap {Ft : FT} {Fa Fb : FE} {env : Ev} : fIf Ft Fa Fb env = (match Ft env with
  | some (true, e1) => Fa e1
  | some (false, e1) => Fb e1
  | none => none) := rfl
@[simp] theorem faNil_ap {env : Ev} : faNil  env = (some ([], env)) := rfl
@[simp] theorem faCons_ap {F : FE} {G : FA} {env : Ev} : faCons F G env = (match F env with
  | some (d, k, e1) => match G (stl d k e1) with
    | some (ds, e2) => some (d :: ds, e2)
    | none => none
  | none => none) := rfl
@[simp] theorem fTup_ap {G : FA} {env : Ev} : fTup G env = (match G env with
  | some (ds, e1) => if ds.length ≤ sizeLine then some (.tuple ds, .st, e1) else none
  | none => none) := rfl
@[simp] theorem fLst_ap {G : FA} {env : Ev} : fLst G env = (match G env with
  | some (ds, e1) => if ds.length ≤ sizeLine then some (.list ds, .fr, e1) else none
  | none => none) := rfl
@[simp] theorem foNone_ap {env : Ev} : foNone  env = (some (none, env)) := rfl
@[simp] theorem foSome_ap {F : FE} {env : Ev} : foSome F env = (match F env with
  | some (.int i, _, e1) => some (some i, e1)
  | _ => none) := rfl
@[simp] theorem fSl_ap {Fa : FE} {Fl Fh : FO} {env : Ev} : fSl Fa Fl Fh env = (match Fa env with
  | some (d, k, e1) => match Fl e1 with
    | some (lo, e2) => match Fh e2 with
      | some (hi, e3) => match rsv d k e3 with
        | some d' => match gSl d' lo hi with
          | some (r, kr) => some (r, kr, e3)
          | none => none
        | none => none
      | none => none
    | none => none
  | none => none) := rfl
@[simp] theorem frNil_ap {env : Ev} : frNil  env = (some ([], env)) := rfl
@[simp] theorem frVal_ap {F : FE} {G : FR} {env : Ev} : frVal F G env = (match F env with
  | some (d, k, e1) => match G (stl d k e1) with
    | some (as, e2) => if as.all fun | .give _ => false | _ => true then some (.val d :: as, e2) else none
    | none => none
  | none => none) := rfl
@[simp] theorem frBox_ap {F : FE} {G : FR} {env : Ev} : frBox F G env = (match F env with
  | some (_, .pk i, e1) => match G e1 with
    | some (as, e2) => if as.all fun | .give _ => false | _ => true then some (.lend i :: as, e2) else none
    | none => none
  | _ => none) := rfl
@[simp] theorem frGive_ap {F : FE} {env : Ev} : frGive F env = (match F env with
  | some (.list ds, .fr, e1) => some ([.give ds], e1)
  | some (_, .pk i, e1) => some ([.lend i], e1)
  | _ => none) := rfl
@[simp] theorem fCall_ap {F : FS} {G : FR} {env : Ev} : fCall F G env = (match G env with
  | some (as, e1) => match mkSlots as e1 with
    | some ss => match F ss with
      | some (r, fr, ss') => if ss'.length == ss.length then some (r, kd fr, putBack as ss' e1) else none
      | none => none
    | none => none
  | none => none) := rfl
@[simp] theorem gSkip_ap {env : Ev} : gSkip  env = (some (.nx env)) := rfl
@[simp] theorem gSeq_ap {G1 G2 : FG} {env : Ev} : gSeq G1 G2 env = (match G1 env with
  | some (.nx e1) => G2 e1
  | some (.rt d f e1) => some (.rt d f e1)
  | some (.bk e1) => some (.bk e1)
  | some (.ct e1) => some (.ct e1)
  | none => none) := rfl
@[simp] theorem gIfS_ap {T : FT} {G1 G2 : FG} {env : Ev} : gIfS T G1 G2 env = (match T env with
  | some (true, e1) => G1 e1
  | some (false, e1) => G2 e1
  | none => none) := rfl
@[simp] theorem gDrop_ap {F : FE} {env : Ev} : gDrop F env = (match F env with
  | some (d, k, e1) => some (.nx (stl d k e1))
  | none => none) := rfl
@[simp] theorem gRet_ap {np : Nat} {F : FE} {env : Ev} : gRet np F env = (match F env with
  | some (d, .st, e1) => some (.rt d false e1)
  | some (d, .fr, e1) => some (.rt d true e1)
  | some (d, .pk i, e1) => if i < np then some (.rt d false (e1.set i (.pure d))) else some (.rt d true (e1.set i .emp))
  | none => none) := rfl
@[simp] theorem gRetN_ap {env : Ev} : gRetN  env = (some (.rt .none false env)) := rfl
@[simp] theorem gSet_ap {i : Nat} {F : FE} {env : Ev} : gSet i F env = (match F env with
  | some (d, k, e1) => match putS i d k e1 with
    | some e2 => some (.nx e2)
    | none => none
  | none => none) := rfl
@[simp] theorem gPar_ap {is : List Nat} {G : FK} {env : Ev} : gPar is G env = (match G env with
  | some (rs, e1) => match putK is rs e1 with
    | some e2 => some (.nx e2)
    | none => none
  | none => none) := rfl
@[simp] theorem fkNil_ap {env : Ev} : fkNil  env = (some ([], env)) := rfl
@[simp] theorem fkCons_ap {F : FE} {G : FK} {env : Ev} : fkCons F G env = (match F env with
  | some (d, k, e1) => match G (stl d k e1) with
    | some (rs, e2) => some ((d, isFr k) :: rs, e2)
    | none => none
  | none => none) := rfl
@[simp] theorem gSetI_ap {i : Nat} {Fi Fe : FE} {env : Ev} : gSetI i Fi Fe env = (match Fe env with
  | some (d, k, e1) => match (stl d k e1)[i]? with
    | some (.own _) => match Fi (stl d k e1) with
      | some (.int j, _, e2) => match e2[i]? with
        | some (.own ds) => match ixN ds.length j with
          | some m => some (.nx (e2.set i (.own (ds.set m d))))
          | none => none
        | _ => none
      | _ => none
    | _ => none
  | none => none) := rfl
@[simp] theorem fApp_ap {i : Nat} {F : FE} {env : Ev} : fApp i F env = (match env[i]? with
  | some (.own _) => match F env with
    | some (d, k, e1) => match (stl d k e1)[i]? with
      | some (.own ds) => if ds.length < sizeLine then some (.none, .st, (stl d k e1).set i (.own (ds ++ [d]))) else none
      | _ => none
    | none => none
  | _ => none) := rfl
@[simp] theorem fChain_ap {g h : G2} {Fa Fb Fc : FE} {env : Ev} : fChain g h Fa Fb Fc env = (match Fa env with
  | some (d1, k1, e1) => match Fb e1 with
    | some (d2, k2, e2) => match rsv d1 k1 e2 with
      | some x => match rsv d2 k2 e2 with
        | some y => match g x y with
          | some (.bool true, .st) => match Fc e2 with
            | some (d3, _, e3) => match rsv d2 k2 e3 with
              | some z => match h z d3 with
                | some (r, k) => some (r, k, e3)
                | none => none
              | none => none
            | none => none
          | some (.bool false, .st) => some (.bool false, .st, e2)
          | _ => none
        | none => none
      | none => none
    | none => none
  | none => none) := rfl
@[simp] theorem gBrk_ap {env : Ev} : gBrk  env = (some (.bk env)) := rfl
@[simp] theorem gCnt_ap {env : Ev} : gCnt  env = (some (.ct env)) := rfl
@[simp] theorem fTYes_ap {env : Ev} : fTYes  env = (some (true, env)) := rfl
@[simp] theorem gFor_ap {I : FI} {b : FB} {body : FG} {env : Ev} : gFor I b body env = (match I env with
  | some (ds, e1) => forL b body ds e1
  | none => none) := rfl
@[simp] theorem fiSeq_ap {F : FE} {env : Ev} : fiSeq F env = (match F env with
  | some (d, k, e1) => match itemsD d with
    | some ds => some (ds, stl d k e1)
    | none => none
  | none => none) := rfl
theorem fiRng1_ap {G : FA} {env : Ev} : fiRng1 G env = (match G env with
  | some ([.int j], e1) => if decide (-(2 ^ 62) ≤ j) && decide (j < 2 ^ 62) then some ((List.range j.toNat).map fun (i : Nat) => PyData.int (0 + i), e1) else none
  | _ => none) := rfl
theorem fiRng2_ap {G : FA} {env : Ev} : fiRng2 G env = (match G env with
  | some ([.int i, .int j], e1) => if decide (-(2 ^ 62) ≤ i) && decide (i < 2 ^ 62) && decide (-(2 ^ 62) ≤ j) && decide (j < 2 ^ 62) then some ((List.range (j - i).toNat).map fun (m : Nat) => PyData.int (i + m), e1) else none
  | _ => none) := rfl
@[simp] theorem fiEnum_ap {G : FA} {env : Ev} : fiEnum G env = (match G env with
  | some ([.list xs], e1) => some (enumD 0 xs, e1)
  | _ => none) := rfl
@[simp] theorem fiZip_ap {G : FA} {env : Ev} : fiZip G env = (match G env with
  | some ([.list xs, .list ys], e1) => some (pairs xs ys, e1)
  | some ([.tuple xs, .tuple ys], e1) => some (pairs xs ys, e1)
  | _ => none) := rfl
@[simp] theorem fCallK_ap {F : FS} {G : FR} {n : Nat} {pm : List Nat} {env : Ev} : fCallK F G n pm env = (match G env with
  | some (as, e1) => if as.length == n then match mkSlots (perm pm as) e1 with
    | some ss => match F ss with
      | some (r, fr, ss') => if ss'.length == ss.length then some (r, kd fr, putBack (perm pm as) ss' e1) else none
      | none => none
    | none => none
    else none
  | none => none) := rfl
theorem fDef_ap {n np : Nat} {As : List Nat} {G : FG} {ss : Ev} : fDef n np As G ss = (if ss.length = np then match G (ss ++ List.replicate (n - np) .emp) with
    | some (.rt d f e) => some (d, f, wipeE As (outS np e))
    | some (.nx e) => some (.none, false, wipeE As (outS np e))
    | _ => none
  else none) := rfl
@[simp] theorem gParT_ap {is : List Nat} {G : FK} {env : Ev} : gParT is G env = (if is.length ≤ sizeLine then gPar is G env else none) := rfl
@[simp] theorem gAsgT_ap {is : List Nat} {F : FE} {env : Ev} : gAsgT is F env = (match F env with
  | some (d, k, e1) => match bTup is d (stl d k e1) with
    | some e2 => some (.nx e2)
    | none => none
  | none => none) := rfl
def rngI (i j : Int) (e : Ev) : Option (List D × Ev) := if decide (-(2 ^ 62) ≤ i) && decide (i < 2 ^ 62) && decide (-(2 ^ 62) ≤ j) && decide (j < 2 ^ 62) then some ((List.range (j - i).toNat).map fun (m : Nat) => PyData.int (i + m), e) else none
theorem rngI_ok {i j : Int} {e : Ev} (h1 : -1000000 ≤ i) (h2 : i < 1000000) (h3 : -1000000 ≤ j) (h4 : j < 1000000) : rngI i j e = some ((List.range (j - i).toNat).map fun (m : Nat) => PyData.int (i + m), e) := by
  unfold rngI
  rw [if_pos]
  simp only [Bool.and_eq_true, decide_eq_true_eq]
  omega
theorem rngI_0 {j : Int} {e : Ev} (h3 : -1000000 ≤ j) (h4 : j < 1000000) : rngI 0 j e = some ((List.range j.toNat).map fun (m : Nat) => PyData.int (0 + m), e) := by
  rw [rngI_ok (by omega) (by omega) h3 h4, show j - 0 = j from by omega]
theorem rngI_nat {n : Nat} {e : Ev} (h : n < 1000000) : rngI 0 (n : Int) e = some ((List.range n).map fun (m : Nat) => PyData.int (0 + m), e) := by
  rw [rngI_ok (by omega) (by omega) (by omega) (by omega), show ((n : Int) - 0).toNat = n from by omega]
@[simp] theorem fiRng1_ap2 {G : FA} {env : Ev} : fiRng1 G env = match G env with
  | some ([.int j], e1) => rngI 0 j e1
  | _ => none := by
  rw [fiRng1_ap]
  split
  · rename_i j e1 h
    unfold rngI
    simp
  · rfl
@[simp] theorem fiRng2_ap2 {G : FA} {env : Ev} : fiRng2 G env = match G env with
  | some ([.int i, .int j], e1) => rngI i j e1
  | _ => none := rfl
theorem fiRng1_ok {G : FA} {env e1 : Ev} {j : Int} (hG : G env = some ([.int j], e1)) (h3 : -1000000 ≤ j) (h4 : j < 1000000) : fiRng1 G env = some ((List.range j.toNat).map fun (m : Nat) => PyData.int (0 + m), e1) := by
  have h : fiRng1 G env = rngI 0 j e1 := by
    rw [fiRng1_ap, hG]
    unfold rngI
    simp
  rw [h]
  exact rngI_0 h3 h4
theorem gRgL_ok {i j : Int} (h1 : -1000000 ≤ i) (h2 : i < 1000000) (h3 : -1000000 ≤ j) (h4 : j < 1000000) : gRgL (.int i) (.int j) = some (.list (rgD i j), .fr) := by
  simp only [gRgL]
  rw [if_pos]
  simp only [Bool.and_eq_true, decide_eq_true_eq]
  omega
@[simp] theorem mkSlots_0 {env : Ev} : mkSlots [] env = some [] := rfl
@[simp] theorem mkSlots_v {d : D} {as : List AR} {env : Ev} : mkSlots (.val d :: as) env = (match mkSlots as env with | some ss => some (.pure d :: ss) | none => none) := rfl
@[simp] theorem mkSlots_l {i : Nat} {as : List AR} {env : Ev} : mkSlots (.lend i :: as) env = (match env[i]? with
    | some (.own ds) => if as.all fun | .lend j => i != j | _ => true then match mkSlots as env with
        | some ss => some (.own ds :: ss)
        | none => none
      else none
    | _ => none) := rfl
@[simp] theorem mkSlots_g {ds : List D} {env : Ev} : mkSlots [.give ds] env = some [.own ds] := rfl
@[simp] theorem putBack_0 {ss env : Ev} : putBack [] ss env = env := by cases ss <;> rfl
@[simp] theorem putBack_n {a : AR} {as : List AR} {env : Ev} : putBack (a :: as) [] env = env := rfl
@[simp] theorem putBack_l {i : Nat} {as : List AR} {s : Slot} {ss env : Ev} : putBack (.lend i :: as) (s :: ss) env = putBack as ss (env.set i s) := rfl
@[simp] theorem putBack_v {d : D} {as : List AR} {s : Slot} {ss env : Ev} : putBack (.val d :: as) (s :: ss) env = putBack as ss env := rfl
@[simp] theorem putBack_g {ds : List D} {as : List AR} {s : Slot} {ss env : Ev} : putBack (.give ds :: as) (s :: ss) env = putBack as ss env := rfl
@[simp] theorem kd_eq {b : Bool} : kd b = if b then .fr else .st := rfl
@[simp] theorem putS_s {i : Nat} {d : D} {e : Ev} : putS i d .st e = some (e.set i (.pure d)) := rfl
@[simp] theorem putS_f {i : Nat} {ds : List D} {e : Ev} : putS i (.list ds) .fr e = some (e.set i (.own ds)) := rfl
@[simp] theorem putS_p {i j : Nat} {d : D} {e : Ev} : putS i d (.pk j) e = some ((e.set j (.pure d)).set i (.pure d)) := rfl
@[simp] theorem putK_0 {e : Ev} : putK [] [] e = some e := rfl
@[simp] theorem putK_s {i : Nat} {is : List Nat} {d : D} {rs : List (D × Bool)} {e : Ev} : putK (i :: is) ((d, false) :: rs) e = putK is rs (e.set i (.pure d)) := by cases d <;> rfl
@[simp] theorem putK_f {i : Nat} {is : List Nat} {ds : List D} {rs : List (D × Bool)} {e : Ev} : putK (i :: is) ((.list ds, true) :: rs) e = putK is rs (e.set i (.own ds)) := rfl
@[simp] theorem isFr_s : isFr .st = false := rfl
@[simp] theorem isFr_f : isFr .fr = true := rfl
@[simp] theorem isFr_p {i : Nat} : isFr (.pk i) = false := rfl
@[simp] theorem bTup_t {is : List Nat} {ds : List D} {e : Ev} : bTup is (.tuple ds) e = bSets is ds e := rfl
@[simp] theorem bSets_0 {e : Ev} : bSets [] [] e = some e := rfl
@[simp] theorem bSets_c {i : Nat} {is : List Nat} {d : D} {ds : List D} {e : Ev} : bSets (i :: is) (d :: ds) e = bSets is ds (e.set i (.pure d)) := rfl
@[simp] theorem wipeE_0 {e : Ev} : wipeE [] e = e := rfl
@[simp] theorem wipeE_c {i : Nat} {is : List Nat} {e : Ev} : wipeE (i :: is) e = (wipeE is e).set i .emp := rfl
@[simp] theorem stl_s {d : D} {e : Ev} : stl d .st e = e := rfl
@[simp] theorem stl_f {d : D} {e : Ev} : stl d .fr e = e := rfl
@[simp] theorem stl_p {d : D} {i : Nat} {e : Ev} : stl d (.pk i) e = e.set i (.pure d) := rfl
@[simp] theorem rsv_s {d : D} {e : Ev} : rsv d .st e = some d := rfl
@[simp] theorem rsv_f {d : D} {e : Ev} : rsv d .fr e = some d := rfl
@[simp] theorem rsv_p {d : D} {i : Nat} {e : Ev} : rsv d (.pk i) e = (match e[i]? with
    | some (.own ds) => some (.list ds)
    | some (.pure d') => some d'
    | _ => none) := rfl
@[simp] theorem outS_eq {n : Nat} {e : Ev} : outS n e = (e ++ List.replicate n Slot.emp).take n := rfl
@[simp] theorem itemsD_l {ds : List D} : itemsD (.list ds) = some ds := rfl
@[simp] theorem itemsD_t {ds : List D} : itemsD (.tuple ds) = some ds := rfl
@[simp] theorem itemsD_s {x : Str} : itemsD (.str x) = some (chars x) := rfl
@[simp] theorem bName_ap {i : Nat} {d : D} {env : Ev} : bName i d env = some (env.set i (.pure d)) := rfl

@[simp] theorem sz1 : 1 ≤ sizeLine := by rw [sizeLine_eq]; decide
@[simp] theorem sz2 : 2 ≤ sizeLine := by rw [sizeLine_eq]; decide
@[simp] theorem sz3 : 3 ≤ sizeLine := by rw [sizeLine_eq]; decide
@[simp] theorem sz4 : 4 ≤ sizeLine := by rw [sizeLine_eq]; decide
@[simp] theorem sz5 : 5 ≤ sizeLine := by rw [sizeLine_eq]; decide
@[simp] theorem sz6 : 6 ≤ sizeLine := by rw [sizeLine_eq]; decide
@[simp] theorem sz7 : 7 ≤ sizeLine := by rw [sizeLine_eq]; decide
@[simp] theorem sz8 : 8 ≤ sizeLine := by rw [sizeLine_eq]; decide
@[simp] theorem sz9 : 9 ≤ sizeLine := by rw [sizeLine_eq]; decide
@[simp] theorem sz10 : 10 ≤ sizeLine := by rw [sizeLine_eq]; decide
@[simp] theorem sz11 : 11 ≤ sizeLine := by rw [sizeLine_eq]; decide
@[simp] theorem sz12 : 12 ≤ sizeLine := by rw [sizeLine_eq]; decide
theorem fTwo_ok {g : G2} {Fa Fb : FE} {env e1 e2 : Ev} {d1 d2 x r : D} {k1 k2 k : Kd} (h1 : Fa env = some (d1, k1, e1)) (h2 : Fb e1 = some (d2, k2, e2)) (h3 : rsv d1 k1 e2 = some x) (h4 : g x d2 = some (r, k)) : fTwo g Fa Fb env = some (r, k, e2) := by
  rw [fTwo_ap, h1]; dsimp only; rw [h2]; dsimp only; rw [h3]; dsimp only; rw [h4]
theorem gPar2_ok {i j : Nat} {Fa Fb : FE} {env e1 e2 : Ev} {d1 d2 : D} {k1 k2 : Kd} (h1 : Fa env = some (d1, k1, e1)) (h2 : Fb (stl d1 k1 e1) = some (d2, k2, e2)) :
    gPar [i, j] (fkCons Fa (fkCons Fb fkNil)) env = match putK [i, j] [(d1, isFr k1), (d2, isFr k2)] (stl d2 k2 e2) with | some e => some (.nx e) | none => none := by
  rw [gPar_ap, fkCons_ap, h1]; dsimp only; rw [fkCons_ap, h2]; rfl
/-! ### whole numbers in lists -/
theorem intsL_int : ∀ ns : List Int, intsL (ns.map PyData.int) = some ns
  | [] => rfl
  | n :: ns => by simp [intsL, intsL_int ns]
def optD (mx : Bool) (z : D) : List Int → D
  | [] => z
  | n :: ns => .int (foldMM mx n ns)
theorem gMM_l {mx : Bool} {ns : List Int} : gMM mx (.list (ns.map PyData.int)) .none = some (optD mx .none ns, .st) := by
  unfold gMM
  simp only [itemsLT, intsL_int]
  cases ns <;> rfl
theorem gMM_t {mx : Bool} {ns : List Int} {i : Int} : gMM mx (.tuple (ns.map PyData.int)) (.int i) = some (optD mx (.int i) ns, .st) := by
  unfold gMM
  simp only [itemsLT, intsL_int]
  cases ns <;> rfl
theorem gMM1_l {mx : Bool} {ns : List Int} (h : ns ≠ []) : gMM1 mx (.list (ns.map PyData.int)) = some (optD mx .none ns, .st) := by
  unfold gMM1
  simp only [itemsLT, intsL_int]
  cases ns with
  | nil => exact absurd rfl h
  | cons n ns => rfl
theorem fold_max {n : Int} : ∀ {ns : List Int} {m : Int}, foldMM true m ns ∈ m :: ns ∧ ∀ x ∈ m :: ns, x ≤ foldMM true m ns
  | [], m => by simp [foldMM]
  | k :: ns, m => by
    have ih := fold_max (n := n) (ns := ns) (m := max m k)
    have e : foldMM true m (k :: ns) = foldMM true (max m k) ns := rfl
    rw [e]
    obtain ⟨h1, h2⟩ := ih
    constructor
    · rcases List.mem_cons.mp h1 with h | h
      · rw [h]
        rcases Int.le_total m k with z | z
        · rw [Int.max_eq_right z]; simp
        · rw [Int.max_eq_left z]; simp
      · exact List.mem_cons_of_mem _ (List.mem_cons_of_mem _ h)
    · intro x hx
      have hm := h2 (max m k) (by simp)
      rcases List.mem_cons.mp hx with h | h
      · subst h; exact Int.le_trans (Int.le_max_left _ _) hm
      rcases List.mem_cons.mp h with h | h
      · subst h; exact Int.le_trans (Int.le_max_right _ _) hm
      · exact h2 x (List.mem_cons_of_mem _ h)
theorem fold_min {n : Int} : ∀ {ns : List Int} {m : Int}, foldMM false m ns ∈ m :: ns ∧ ∀ x ∈ m :: ns, foldMM false m ns ≤ x
  | [], m => by simp [foldMM]
  | k :: ns, m => by
    have ih := fold_min (n := n) (ns := ns) (m := min m k)
    have e : foldMM false m (k :: ns) = foldMM false (min m k) ns := rfl
    rw [e]
    obtain ⟨h1, h2⟩ := ih
    constructor
    · rcases List.mem_cons.mp h1 with h | h
      · rw [h]
        rcases Int.le_total m k with z | z
        · rw [Int.min_eq_left z]; simp
        · rw [Int.min_eq_right z]; simp
      · exact List.mem_cons_of_mem _ (List.mem_cons_of_mem _ h)
    · intro x hx
      have hm := h2 (min m k) (by simp)
      rcases List.mem_cons.mp hx with h | h
      · subst h; exact Int.le_trans hm (Int.min_le_left _ _)
      rcases List.mem_cons.mp h with h | h
      · subst h; exact Int.le_trans hm (Int.min_le_right _ _)
      · exact h2 x (List.mem_cons_of_mem _ h)
theorem isort_mem {z : D} : ∀ {ds : List D}, z ∈ isort ds ↔ z ∈ ds
  | [] => Iff.rfl
  | d :: ds => by show z ∈ ins d (isort ds) ↔ _; rw [ins_mem, isort_mem, List.mem_cons]
theorem dLe_i {a b : Int} : dLe (.int a) (.int b) = decide (a ≤ b) := by
  unfold dLe
  rw [PySem.W.dataLt_int, ← decide_not]
  congr 1
  simp
theorem ints_of : ∀ {ds : List D}, (∀ d ∈ ds, ∃ i : Int, d = .int i) → ∃ ns : List Int, ds = ns.map PyData.int
  | [], _ => ⟨[], rfl⟩
  | d :: ds, h => by
    obtain ⟨i, e⟩ := h d (by simp)
    obtain ⟨ns, e2⟩ := ints_of (ds := ds) fun d hd => h d (by simp [hd])
    exact ⟨i :: ns, by rw [e, e2]; rfl⟩
theorem isort_ints (ns : List Int) : ∃ ms : List Int, isort (ns.map PyData.int) = ms.map PyData.int ∧ (∀ x, x ∈ ms ↔ x ∈ ns) ∧ ms.Pairwise (· ≤ ·) := by
  obtain ⟨ms, e⟩ := ints_of (ds := isort (ns.map PyData.int)) fun d hd => by
    obtain ⟨i, _, e⟩ := List.mem_map.mp (isort_mem.mp hd)
    exact ⟨i, e.symm⟩
  refine ⟨ms, e, fun x => ?_, ?_⟩
  · have h : PyData.int x ∈ ms.map PyData.int ↔ PyData.int x ∈ ns.map PyData.int := by rw [← e]; exact isort_mem
    simpa using h
  · have h := isort_pw (ns.map PyData.int)
    rw [e, List.pairwise_map] at h
    exact h.imp fun {a b} z => by rw [dLe_i] at z; exact of_decide_eq_true z
theorem gSorted_i {ns : List Int} : gSorted (.list (ns.map PyData.int)) = some (.list (isort (ns.map PyData.int)), .fr) := by
  simp only [gSorted]
  rw [if_pos]
  simp [alikes, sortables, PySem.W.alike, PyData.depth]
theorem sort_last {ns ms : List Int} (h : ∀ x, x ∈ ms ↔ x ∈ ns) (hp : ms.Pairwise (· ≤ ·)) (hn : ns ≠ []) : ms ≠ [] ∧ ∃ L, ms.getLast? = some L ∧ optD true .none ns = .int L := by
  cases ns with
  | nil => exact absurd rfl hn
  | cons n ns =>
    have hm : ms ≠ [] := fun z => by
      have := (h n).mpr (by simp)
      rw [z] at this; cases this
    refine ⟨hm, ms.getLast hm, List.getLast?_eq_some_getLast hm, ?_⟩
    obtain ⟨h1, h2⟩ := fold_max (n := 0) (ns := ns) (m := n)
    have h3 : ms.getLast hm ∈ n :: ns := (h _).mp (List.getLast_mem hm)
    have h4 : ∀ x ∈ ms, x ≤ ms.getLast hm := fun x hx => by
      have e := List.dropLast_concat_getLast hm
      rw [← e] at hx hp
      rcases List.mem_append.mp hx with z | z
      · exact (List.pairwise_append.mp hp).2.2 x z _ (by simp)
      · simp at z; rw [z]; exact Int.le_refl _
    show PyData.int (foldMM true n ns) = _
    rw [Int.le_antisymm (h4 _ ((h _).mpr h1)) (h2 _ h3)]
theorem sort_head {ns ms : List Int} (h : ∀ x, x ∈ ms ↔ x ∈ ns) (hp : ms.Pairwise (· ≤ ·)) (hn : ns ≠ []) : ∃ L ls, ms = L :: ls ∧ optD false .none ns = .int L := by
  cases ns with
  | nil => exact absurd rfl hn
  | cons n ns =>
    cases ms with
    | nil =>
      have := (h n).mpr (by simp)
      cases this
    | cons L ls =>
      refine ⟨L, ls, rfl, ?_⟩
      obtain ⟨h1, h2⟩ := fold_min (n := 0) (ns := ns) (m := n)
      have h3 : L ∈ n :: ns := (h _).mp (by simp)
      have h4 : ∀ x ∈ L :: ls, L ≤ x := fun x hx => by
        rcases List.mem_cons.mp hx with z | z
        · rw [z]; exact Int.le_refl _
        · exact List.rel_of_pairwise_cons hp z
      show PyData.int (foldMM false n ns) = _
      rw [Int.le_antisymm (h2 _ h3) (h4 _ ((h _).mpr h1))]
@[simp] theorem sl0 : 0 < sizeLine := by rw [sizeLine_eq]; decide
@[simp] theorem sl1 : 1 < sizeLine := by rw [sizeLine_eq]; decide
@[simp] theorem sl2 : 2 < sizeLine := by rw [sizeLine_eq]; decide
@[simp] theorem sl3 : 3 < sizeLine := by rw [sizeLine_eq]; decide
@[simp] theorem sl4 : 4 < sizeLine := by rw [sizeLine_eq]; decide
@[simp] theorem sl5 : 5 < sizeLine := by rw [sizeLine_eq]; decide
@[simp] theorem sl6 : 6 < sizeLine := by rw [sizeLine_eq]; decide
@[simp] theorem sl7 : 7 < sizeLine := by rw [sizeLine_eq]; decide
@[simp] theorem sl8 : 8 < sizeLine := by rw [sizeLine_eq]; decide
@[simp] theorem sl9 : 9 < sizeLine := by rw [sizeLine_eq]; decide
@[simp] theorem sl10 : 10 < sizeLine := by rw [sizeLine_eq]; decide
@[simp] theorem sl11 : 11 < sizeLine := by rw [sizeLine_eq]; decide
@[simp] theorem sl12 : 12 < sizeLine := by rw [sizeLine_eq]; decide
/-! ### loops -/
theorem compL_inv {own : List Nat} {b : FB} {T : FT} {E : FE} {p : D → Bool} {f : D → D} {P : Ev → Prop} : ∀ (ds : List D) (e : Ev),
    (∀ d ∈ ds, ∀ e, P e → ∃ e1 e2, b d e = some e1 ∧ T e1 = some (p d, e2) ∧ (p d = false → P (wipeE own e2)) ∧ (p d = true → ∃ k e3, E e2 = some (f d, k, e3) ∧ P (wipeE own (stl (f d) k e3)))) →
    P e → ∃ e', compL own b T E ds e = some ((ds.filter p).map f, e') ∧ P e'
  | [], e, _, h => ⟨e, rfl, h⟩
  | d :: ds, e, hs, h => by
    obtain ⟨e1, e2, h1, h2, h3, h4⟩ := hs d (by simp) e h
    have hs' : ∀ d ∈ ds, _ := fun d hd => hs d (by simp [hd])
    cases hp : p d with
    | false =>
      obtain ⟨e', h5, h6⟩ := compL_inv ds _ hs' (h3 hp)
      refine ⟨e', ?_, h6⟩
      rw [List.filter_cons_of_neg (by rw [hp]; decide)]
      unfold compL
      rw [h1]; dsimp only; rw [h2, hp]
      exact h5
    | true =>
      obtain ⟨k, e3, h7, h8⟩ := h4 hp
      obtain ⟨e', h5, h6⟩ := compL_inv ds _ hs' h8
      refine ⟨e', ?_, h6⟩
      rw [List.filter_cons_of_pos hp]
      unfold compL
      rw [h1]; dsimp only; rw [h2, hp]; dsimp only; rw [h7]; dsimp only; rw [h5]; rfl
/-- the frame stays as it is -/
theorem comp_eq {i : Nat} {I : FI} {T : FT} {E : FE} {ds : List D} {env e1 : Ev} {s : Slot} (p : D → Bool) (f : D → D) (hI : I env = some (ds, e1)) (hs : e1[i]? = some s) (hn : ∀ l, s ≠ .own l) (hz : ds.length ≤ sizeLine) (hnd : ∀ l, s ≠ .dct l := by intro _ z; cases z)
    (h : ∀ d ∈ ds, T ((e1.set i .emp).set i (.pure d)) = some (p d, (e1.set i .emp).set i (.pure d)) ∧ (p d = true → ∃ k, NoPk k ∧ E ((e1.set i .emp).set i (.pure d)) = some (f d, k, (e1.set i .emp).set i (.pure d)))) :
    fComp [i] I (bName i) T E env = some (.list ((ds.filter p).map f), .fr, e1) := by
  have hl : i < e1.length := (List.getElem?_eq_some_iff.mp hs).1
  obtain ⟨e', h1, h2⟩ := compL_inv (own := [i]) (b := bName i) (T := T) (E := E) (p := p) (f := f) (P := fun e => e = e1.set i .emp) ds (e1.set i .emp) (fun d hd e he => by
    subst he
    obtain ⟨h1, h2⟩ := h d hd
    refine ⟨_, _, rfl, h1, fun _ => ?_, fun hp => ?_⟩
    · show (((e1.set i .emp).set i (.pure d)).set i .emp) = _
      rw [List.set_set, List.set_set]
    · obtain ⟨k, hk, h3⟩ := h2 hp
      refine ⟨k, _, h3, ?_⟩
      have : stl (f d) k ((e1.set i .emp).set i (.pure d)) = (e1.set i .emp).set i (.pure d) := by cases k <;> first | rfl | exact hk.elim
      rw [this]
      show (((e1.set i .emp).set i (.pure d)).set i .emp) = _
      rw [List.set_set, List.set_set]) rfl
  unfold fComp
  rw [hI]
  dsimp only
  have hno : noOwn [i] e1 = true := by
    unfold noOwn
    simp only [List.all_cons, List.all_nil, Bool.and_true]
    rw [hs]
    cases s with
    | own l => exact absurd rfl (hn l)
    | dct l => exact absurd rfl (hnd l)
    | _ => rfl
  rw [if_pos hno]
  have hw : wipeE [i] e1 = e1.set i .emp := rfl
  rw [hw, h1]
  dsimp only
  rw [if_pos (by rw [List.length_map]; exact Nat.le_trans (List.length_filter_le _ _) hz), h2]
  have hb : backE [i] e1 (e1.set i .emp) = e1 := by
    show (match e1[i]? with | some s => (e1.set i .emp).set i s | none => e1.set i .emp) = e1
    rw [hs]
    dsimp only
    rw [List.set_set]
    refine List.ext_getElem? fun j => ?_
    by_cases z : i = j
    · subst z; rw [List.getElem?_set_self hl, hs]
    · rw [List.getElem?_set_ne z]
  rw [hb]
theorem compL_M {α : Type} {own : List Nat} {b : FB} {T : FT} {E : FE} {e : α → D} {p : α → Bool} {f : α → D} {ew : Ev} : ∀ (l : List α),
    (∀ a ∈ l, ∃ e2, b (e a) ew = some e2 ∧ T e2 = some (p a, e2) ∧ wipeE own e2 = ew ∧ (p a = true → ∃ k, NoPk k ∧ E e2 = some (f a, k, e2))) → compL own b T E (l.map e) ew = some ((l.filter p).map f, ew)
  | [], _ => rfl
  | a :: l, h => by
    obtain ⟨e2, h1, h2, h3, h4⟩ := h a (by simp)
    have ih := compL_M (own := own) (b := b) (T := T) (E := E) (e := e) (p := p) (f := f) (ew := ew) l fun a ha => h a (by simp [ha])
    rw [List.map_cons]
    unfold compL
    rw [h1]; dsimp only; rw [h2]
    cases hp : p a with
    | false =>
      rw [List.filter_cons_of_neg (by rw [hp]; decide)]
      dsimp only
      rw [h3]; exact ih
    | true =>
      rw [List.filter_cons_of_pos hp]
      obtain ⟨k, hk, h5⟩ := h4 hp
      dsimp only
      rw [h5]
      have : stl (f a) k e2 = e2 := by cases k <;> first | rfl | exact hk.elim
      dsimp only
      rw [this, h3, ih]
      rfl
theorem compG {α : Type} {own : List Nat} {I : FI} {b : FB} {T : FT} {E : FE} {env e1 : Ev} (l : List α) (e : α → D) (p : α → Bool) (f : α → D) (hI : I env = some (l.map e, e1)) (hno : noOwn own e1 = true) (hb : backE own e1 (wipeE own e1) = e1) (hz : l.length ≤ sizeLine)
    (h : ∀ a ∈ l, ∃ e2, b (e a) (wipeE own e1) = some e2 ∧ T e2 = some (p a, e2) ∧ wipeE own e2 = wipeE own e1 ∧ (p a = true → ∃ k, NoPk k ∧ E e2 = some (f a, k, e2))) : fComp own I b T E env = some (.list ((l.filter p).map f), .fr, e1) := by
  unfold fComp
  rw [hI]
  dsimp only
  rw [if_pos hno, compL_M l h]
  dsimp only
  rw [if_pos (by rw [List.length_map]; exact Nat.le_trans (List.length_filter_le _ _) hz), hb]
theorem forL_inv {b : FB} {body : FG} {P : Nat → Ev → Prop} {J : Nat} : ∀ (ds : List D) (j : Nat) (e : Ev),
    (∀ d ∈ ds, ∀ j e, j < J → P j e → ∃ e1 e2, b d e = some e1 ∧ body e1 = some (.nx e2) ∧ P (j + 1) e2) → j + ds.length ≤ J → P j e → ∃ e', forL b body ds e = some (.nx e') ∧ P (j + ds.length) e'
  | [], j, e, _, _, h => ⟨e, rfl, h⟩
  | d :: ds, j, e, hs, hj, h => by
    rw [List.length_cons] at hj
    obtain ⟨e1, e2, h1, h2, h3⟩ := hs d (by simp) j e (by omega) h
    obtain ⟨e', h4, h5⟩ := forL_inv ds (j + 1) e2 (fun d hd => hs d (by simp [hd])) (by omega) h3
    refine ⟨e', ?_, by rw [List.length_cons]; rw [show j + (ds.length + 1) = j + 1 + ds.length from by omega]; exact h5⟩
    unfold forL
    rw [h1]; dsimp only; rw [h2]; exact h4
end Pt

namespace Pt
open PySem PySem.Spec PyProof.Rows L2
variable [Tb]

/-! ### enumerate over a tuple -/
/-- its turns: the tuple's items in new pairs -/
def ItU (K : PySem.W.Frag) (a : Addr) (n : Nat) : It :=
  ⟨fun m H => ∃ (ws : List V) (x : V), SqT K H a ws ∧ ws[m]? = some x, fun m H v H' => ∃ T x, v = .ref T ∧ H T = none ∧ H' = upd H T (.tup [.int (m : Nat), x]) ∧ ∀ ws, SqT K H a ws → ws[m]? = some x,
    fun m H => ∃ ws : List V, SqT K H a ws ∧ ws.length = n ∧ m = n⟩
theorem turn_U {P : Program} {w : World} {K : PySem.W.Frag} {elts : List Expr} {kk : Nat} {tpos : Pos} (a e r : Addr) (n : Nat) :
    Turn P w K (.Tuple elts kk tpos) (ItU K a n) [e, r] e (fun m h => (∃ old, IsEnum h e r ((m : Nat) : Int) old) ∧ h.IsTupleIter r a m ∧ e ≠ r ∧ a ≠ r ∧ a ≠ e) where
  mem := List.mem_cons_self ..
  obj := fun m h st b hb => by
    obtain ⟨⟨old, h1⟩, ⟨o, h2, h3, h4⟩, _⟩ := st
    rcases List.mem_cons.mp hb with z | z
    · subst z; exact ⟨_, h1, fun v q => nomatch q⟩
    · have z : b = r := by simpa using z
      subst z; exact ⟨o, h2, fun v q => by rw [h4] at q; cases q⟩
  keep := fun m h h' st k => by
    obtain ⟨⟨old, h1⟩, h2, h3⟩ := st
    exact ⟨⟨old, k e (by simp) _ h1⟩, h2.at fun o q => k r (by simp) o q, h3⟩
  item := by
    intro X hP hw hK hc m pins s σ H E I hf st hg
    subst hP hw hK
    obtain ⟨⟨old, h1⟩, h2, n1, n2, n3⟩ := st
    obtain ⟨ws, x, hq, hx⟩ := hg
    obtain ⟨its, rv, pt, hz⟩ := I.tuple hq
    obtain ⟨u, hu, ru⟩ := rv.get hx
    have le : e < s.heap.objs.size := Heap.lt_size h1
    have lr : r < s.heap.objs.size := by obtain ⟨_, q, _⟩ := h2; exact Heap.lt_size q
    have hlt : m < its.toArray.size := by
      have := (List.getElem?_eq_some_iff.mp hu).1
      simpa using this
    have Dr := Draws.tuple (prog := X.prog) (w := X.w) (A := X.A.in1) (I.ok.hd hc) r a n2 its.toArray
    refine wpAny_pyNext_enum_itemC Dr h1 ⟨h2, pt⟩ hlt n1 (by simp; exact ⟨n1, fun z => n3 z.symm⟩) fun y h' tk py ho hs hT hsz hk => ?_
    obtain ⟨hr', ht'⟩ := hs
    have ey : y = u := by
      have py : its[m]? = some y := by simpa using py
      rw [hu] at py
      exact (Option.some.inj py).symm
    subst ey
    refine ⟨_, rfl, wpAny_letOwnedTupleGo_enum (s := { s with heap := h', toks := tk + 1 }) ho fun h'' hE sb => ?_⟩
    have hT2 : h''.get? s.heap.objs.size = some { cls := .type "tuple", data := .seq #[.int m tk, y] } := (sb.2 _ (Nat.ne_of_gt le)).trans hT
    have nw : ObjOk X.prog X.w (upd H s.heap.objs.size (.tup [.int (m : Nat), x])) h'' s.heap.objs.size (.tup [.int (m : Nat), x]) :=
      ⟨by show 2 ≤ sizeLine; decide, [.int m tk, y], .cons ⟨_, rfl⟩ (.cons ru .nil), ⟨_, hT2, rfl, _, rfl⟩⟩
    have I1 : Inv X pins σ (upd H s.heap.objs.size (.tup [.int (m : Nat), x])) { s with heap := h'', toks := tk + 1 } :=
      I.turnedNew (ch := [e, r]) (fun b ob hb q => (sb.2 b (fun z => hb (by simp [z]))).trans (hk b ob (fun z => hb (by simp [z])) (fun z => hb (by simp [z])) q)) hf (Nat.le_refl _) nw
    refine ⟨.ref s.heap.objs.size, _, I1, rfl, ⟨_, x, rfl, I.hok.fresh (Nat.le_refl _), rfl, fun ys hy => by rw [I.tuple_inj hy hq]; exact hx⟩, ⟨⟨y, ?_⟩, hr'.at fun o q => (sb.2 r (Ne.symm n1)).trans q, n1, n2, n3⟩, fun b hb => ?_⟩
    · rw [show ((m + 1 : Nat) : Int) = (m : Int) + 1 from by omega]
      exact hE
    · have lb : b < s.heap.objs.size := by
        rcases List.mem_cons.mp hb with z | z
        · rw [z]; exact le
        · rw [show b = r from by simpa using z]; exact lr
      rw [upd_ne (Nat.ne_of_lt lb)]
      exact (hf b hb).1
  done := by
    intro X hP hw hK hc m pins s σ H E I hf st hg
    subst hP hw hK
    obtain ⟨⟨old, h1⟩, h2, n1, n2, n3⟩ := st
    obtain ⟨ws, hq, hx, hm⟩ := hg
    obtain ⟨its, rv, pt, hz⟩ := I.tuple hq
    obtain ⟨f0, f1, f2, f3, f4, f5⟩ := hf r (by simp)
    have Dr := Draws.tuple (prog := X.prog) (w := X.w) (A := X.A.in1) (I.ok.hd hc) r a n2 its.toArray
    have lm : m = its.toArray.size := by
      have := rv.length
      rw [List.size_toArray]
      omega
    subst lm
    exact wpAny_pyNext_enum_endD Dr h1 ⟨h2, pt⟩ fun h' eb => ⟨rfl, I.turned (t' := s.toks) (fun b o hb q => eb b o hb q) f0 f1 f3 f4 f5⟩
  self := fun A m s Q E st h => by
    obtain ⟨⟨old, h1⟩, _⟩ := st
    exact wpAny_pyIter_enum h1 h
theorem walk_U {K : PySem.W.Frag} {a : Addr} {ws : List V} : Walk (ItU K a ws.length) ws.length (fun H => SqT K H a ws) (YPair (fun i => some (.int (i : Nat))) (fun i => ws[i]?)) := by
  refine ⟨fun m _ hm q => ⟨ws, ws[m], q, by simp [hm]⟩, fun _ q => ⟨ws, q, rfl, rfl⟩, fun m H v H' _ q y => ?_⟩
  obtain ⟨T, x, h1, h2, h3, h4⟩ := y
  exact ⟨T, .int (m : Nat), x, h1, h2, h3, rfl, h4 ws q⟩
theorem new_U (a : Addr) (its : Array Value) :
    Meets (Builtin.«enumerate.__new__» ⟨[.type "enumerate", .ref a], []⟩) (fun _ R s => s.heap.IsTuple a its ∧
      R (.ok (.ret (.ref (s.heap.push { cls := .type "tuple_iterator", data := .fields #[.ref a, .int 0 0] }).objs.size)))
        { s with heap := (s.heap.push { cls := .type "tuple_iterator", data := .fields #[.ref a, .int 0 0] }).push { cls := .type "enumerate", data := .fields #[.none, .bool false, .ref s.heap.objs.size, rawInt 0, .none, .none] } }) :=
  .of_wp fun prog w A R s hh => by
    obtain ⟨hp, gs, dr, tk, os⟩ := s
    obtain ⟨h1, h⟩ := hh
    have hsub := sub_enumerate
    have q1 : ∀ {A' : Around} {E : Value → Shared → Prop} {Q : Value → Shared → Prop}, Q (.ref hp.objs.size) ⟨hp.push { cls := .type "tuple_iterator", data := .fields #[.ref a, .int 0 0] }, gs, dr, tk, os⟩ → wpAny (model prog w) A' (pyIter (.ref a)) Q E ⟨hp, gs, dr, tk, os⟩ :=
      fun q => (begins_tuple a its).iter prog w _ _ ⟨hp, gs, dr, tk, os⟩ _ h1 q
    obtain ⟨o, ho, hc, n, hd⟩ := id h1
    wp_walk using AutoSeq1.wpAny_loadPart' ho, q1
    refine wpAny_stack_any fun st => wpAny_pure ?_
    split
    · rename_i cl _ _ _ _ _
      cases (cl == Value.type "enumerate") <;> (wp_walk using AutoSeq1.wpAny_loadPart' ho, q1; exact ⟨_, rfl, h⟩)
    · wp_walk using AutoSeq1.wpAny_loadPart' ho, q1
      exact ⟨_, rfl, h⟩
theorem call_U {prog : Program} {w : World} {A : Around} {E : Value → Shared → Prop} {s : Shared} {a : Addr} {its : Array Value} {Q : Value → Shared → Prop} (ht : s.heap.IsTuple a its)
    (h : ∀ h', IsEnum h' (s.heap.objs.size + 1) s.heap.objs.size 0 .none → h'.IsTupleIter s.heap.objs.size a 0 → (∀ b o, s.heap.get? b = some o → h'.get? b = some o) → Q (.ref (s.heap.objs.size + 1)) { s with heap := h' }) :
    wpAny (model prog w) A (call (.type "enumerate") [.ref a]) Q E s := by
  refine callType_new F.called_enumerate (by decide) (F.typeCall_enumerate_1 _) (F.newCall_enumerate_1 _) (fun obj => F.args_object_init_2 obj _) F.entry_enumerate_new (new_U a its) ⟨ht, ?_⟩
  have z1 : (s.heap.push { cls := .type "tuple_iterator", data := .fields #[.ref a, .int 0 0] }).objs.size = s.heap.objs.size + 1 := Heap.size_push ..
  show _ ∧ _
  rw [z1]
  have hE : IsEnum ((s.heap.push { cls := .type "tuple_iterator", data := .fields #[.ref a, .int 0 0] }).push { cls := .type "enumerate", data := .fields #[.none, .bool false, .ref s.heap.objs.size, rawInt 0, .none, .none] }) (s.heap.objs.size + 1) s.heap.objs.size 0 .none := by
    have q := Heap.get?_push_size (s.heap.push { cls := .type "tuple_iterator", data := .fields #[.ref a, .int 0 0] }) (o := { cls := .type "enumerate", data := .fields #[.none, .bool false, .ref s.heap.objs.size, rawInt 0, .none, .none] }) rfl
    rw [z1] at q
    exact q
  exact ⟨⟨_, hE, rfl⟩, h _ hE ⟨_, Heap.get?_push_of_some _ (Heap.get?_push_size _ rfl), rfl, rfl⟩ fun b o q => Heap.get?_push_of_some _ (Heap.get?_push_of_some _ q)⟩
def iU (K : PySem.W.Frag) (ta : TA) : TI := fun σ H R => ta σ H fun vs H1 => ∃ a ws, vs = [.ref a] ∧ SqT K H1 a ws ∧ R (ItU K a ws.length) H1
theorem pi_U {X : Cx} {e : Expr} {ta : TA} {p pos tpos : Pos} {elts : List Expr} {kk : Nat} (hg : Gl X "enumerate") (hm : X.mg "enumerate" = none) (ha : PA X [e] ta) (hs : starEach [e] X.env = [(false, eval e X.env)]) :
    PI X (.Tuple elts kk tpos) (.Call (.Name "enumerate" p) [e] [] pos) (iU X.K ta) := by
  refine ⟨fun pins s σ H R I h => ?_⟩
  refine Call_ (ld_blt I hg hm boot_enumerate (PyProof.Rows.callWith_type1 (thn (ha.run pos pins s σ H _ I h) fun us s1 ⟨vs, H1, I1, r1, q1⟩ => ?_) hs rfl))
  obtain ⟨a, ws, ev, hq, q⟩ := q1
  subst ev
  obtain ⟨u, rfl, r2⟩ := r1.one
  cases r2
  obtain ⟨its, rv, pt, hz⟩ := I1.tuple hq
  have pt' : s1.heap.IsTuple a its.toArray := pt
  have la : a < s1.heap.objs.size := by obtain ⟨o, ho, _⟩ := pt'; exact Heap.lt_size ho
  refine call_U pt' fun h' hE hit hk => wpAny_pyIter_enum hE ?_
  have I2 : Inv X pins σ H1 { s1 with heap := h' } := I1.kept (t' := s1.toks) hk
  refine ⟨s1.heap.objs.size + 1, [s1.heap.objs.size + 1, s1.heap.objs.size], _, _, H1, rfl, I2, turn_U a (s1.heap.objs.size + 1) s1.heap.objs.size ws.length, ⟨⟨.none, hE⟩, hit, Nat.succ_ne_self _, Nat.ne_of_lt la, Nat.ne_of_lt (Nat.lt_succ_of_lt la)⟩, fun b hb => ?_, q⟩
  have hle : s1.heap.objs.size ≤ b := by
    rcases List.mem_cons.mp hb with z | z
    · rw [z]; exact Nat.le_succ _
    · rw [show b = s1.heap.objs.size from by simpa using z]; exact Nat.le_refl _
  exact I1.fpOk hle (I1.hok.fresh hle)
/-- of a list or of a tuple -/
def fiEnumB (G : FA) : FI := fun env => match G env with
  | some ([.list xs], e1) => some (enumD 0 xs, e1)
  | some ([.tuple xs], e1) => some (enumD 0 xs, e1)
  | _ => none
theorem pi_enumB {X : Cx} {pos : Pos} {e : Expr} {p tpos : Pos} {elts : List Expr} {kk : Nat} {G : FA} (hg : Gl X "enumerate") (hm : X.mg "enumerate" = none) (ha : PA X [e] (tA X.K G))
    (hs : starEach [e] X.env = [(false, eval e X.env)]) : PI X (.Tuple elts kk tpos) (.Call (.Name "enumerate" p) [e] [] pos) (tI X.K (fiEnumB G)) := ⟨fun pins s σ H Rr I h => by
  obtain ⟨As, vs0, B, R, env, ds, env', ok, z, q⟩ := h
  unfold fiEnumB at z
  split at z
  · rename_i xs e1 h1
    cases z
    exact (pi_enumD hg hm ha hs).run pins s σ H Rr I ⟨As, vs0, B, R, env, _, _, ok, by unfold fiEnum; rw [h1], q⟩
  · rename_i xs e1 h1
    cases z
    refine (pi_U hg hm ha hs).run pins s σ H Rr I ⟨As, vs0, B, R, env, _, _, ok, h1, fun vs R' H' g ok' dps => ?_⟩
    cases dps with
    | cons d1 d2 =>
      cases d2
      cases d1 with
      | @tup ad vs1 _ s1 p1 =>
        refine ⟨_, _, rfl, sqT_le ok'.rh s1, q _ _ (YPair (fun i => some (.int (i : Nat))) (fun i => vs1[i]?)) R' H' g ok' ⟨?_, fun H l => sqT_le l s1, fun i H x H' d hd y => ?_⟩⟩
        · rw [enumD_len, ← dpAll_len p1]; exact walk_U
        · obtain ⟨b, h1, e⟩ := enumD_get _ _ _ _ hd
          obtain ⟨T, v, u, e1, e2, e3, e4, e5⟩ := y
          obtain ⟨u', hu, du⟩ := dpAll_get' p1 h1
          have e5 : vs1[i]? = some u := e5
          rw [e5] at hu; cases hu
          cases e4
          exact .inr ⟨T, _, _, e1, e2, e3, e, .cons (by rw [Nat.zero_add]; exact .int _) (.cons du .nil)⟩
  · cases z⟩
@[simp] theorem fiEnumB_ap {G : FA} {env : Ev} : fiEnumB G env = (match G env with
  | some ([.list xs], e1) => some (enumD 0 xs, e1)
  | some ([.tuple xs], e1) => some (enumD 0 xs, e1)
  | _ => none) := rfl
end Pt

namespace Pt
open PySem PySem.Spec PyProof.Rows L2
variable [Tb]
/-! ### a list times an int -/
def mulLOk (n : Nat) (k : Int) : Bool := decide (-(2 ^ 63) ≤ k) && decide (k < 2 ^ 63) && decide (n * k.toNat ≤ sizeLine)
def gMulL : G2
  | .list xs, .int k => if mulLOk xs.length k then some (.list (List.replicate k.toNat xs).flatten, .fr) else none
  | _, _ => none
theorem dpAll_rep {K : PySem.W.Frag} {R : Hp} {ds : List D} {vs : List V} (h : DpAll K R vs ds) : ∀ n : Nat, DpAll K R (List.replicate n vs).flatten (List.replicate n ds).flatten
  | 0 => .nil
  | n + 1 => by
    rw [List.replicate_succ, List.replicate_succ, List.flatten_cons, List.flatten_cons]
    exact dpAll_append h (dpAll_rep h n)
theorem vals_rep {vs : List V} {us : List Value} (h : Vals vs us) : ∀ n : Nat, Vals (List.replicate n vs).flatten (List.replicate n us).flatten
  | 0 => .nil
  | n + 1 => by
    rw [List.replicate_succ, List.replicate_succ, List.flatten_cons, List.flatten_cons]
    exact h.append (vals_rep h n)
theorem flat_len {α : Type} (xs : List α) : ∀ n : Nat, (List.replicate n xs).flatten.length = xs.length * n
  | 0 => rfl
  | n + 1 => by rw [List.replicate_succ, List.flatten_cons, List.length_append, flat_len xs n, Nat.mul_succ, Nat.add_comm]
section
variable {X : Cx}
theorem op_repL {pins : List (Addr × Obj)} {s : Shared} {σ : L2.St} {H : Hp} {l : Addr} {xs : List V} {n : Int} {u : Tok} {Q : VK} (I : Inv X pins σ H s) (h1 : SqL X.K H l xs) (hz : mulLOk xs.length n = true)
    (q : ∀ p, H p = none → Q (.ref p) (upd H p (.lst (List.replicate n.toNat xs).flatten))) : wpAny (model X.prog X.w) X.A (binaryOp .Mult (.ref l) (.int n u)) (EP X pins σ Q) X.xe s := by
  obtain ⟨its, r, pl, hsz⟩ := I.list h1
  obtain ⟨⟨cls, dd, data, sl⟩, k, ho, hcl, hdd, hd⟩ := pl
  simp only at hcl hd
  subst hcl hd
  unfold mulLOk at hz
  simp only [Bool.and_eq_true, decide_eq_true_eq] at hz
  obtain ⟨⟨lo, hi⟩, sz⟩ := hz
  have el : its.toArray.size = xs.length := by rw [List.size_toArray, ← r.length]
  have e24 : sizeLine = 16777216 := sizeLine_eq
  rw [← el] at sz
  have sz2 : its.length * n.toNat ≤ 16777216 := by
    have h := sz
    rw [List.size_toArray] at h
    omega
  refine wpAny_binaryOp_repeat_ref (T := "list") (U := "int") (by decide) ⟨_, ho, rfl⟩ (fun s' => typeIs_int s' n u) noFill_list_mul F.fills_int_mul F.slot_int_rmul repeat_list F.slot_int_index.lookup
    (call_meets F.slot_int_rmul (typeIs_int s n u) F.entry_int_rmul (F.args_int_rmul_2 _ _) (lm_int_rmul_list_any n u l its.toArray k dd sl)
      ⟨ho, rfl, ⟨_, ho, rfl⟩, call_meets F.slot_list_mul ⟨_, ho, rfl⟩ F.entry_list_mul (F.args_list_mul_2 _ _)
        (lm_list_mul_any l its.toArray k dd sl n u (by simp [Builtin.List.listFitsIndex]; omega) (by omega) (by simp [Builtin.List.listTooLong, sizeLine]; omega)) ⟨ho, ?_⟩⟩)
  rw [listMul_foldl_if]
  exact ⟨.ref _, _, I.lnew (t' := s.toks) (vals_rep r n.toNat) (by rw [flat_len, ← el]; exact sz), rfl, q _ I.fresh⟩
theorem opr_mulL : OpR X (binaryOp .Mult) (rD2 X.K gMulL) := by
  intro pins s σ H x y v u Q I rx ry h
  obtain ⟨As, vs0, B, R, σ', env, d1, d2, e, k, ok, u1, u2, hg, q⟩ := h
  cases d1 <;> cases d2 <;> try (cases hg; done)
  case list.int xs n =>
    dsimp only [gMulL] at hg
    split at hg
    · rename_i hz
      cases hg
      obtain ⟨a1, w1, e1, s1, p1⟩ := u1.list ok.rh
      have e2 := u2.int
      subst e1 e2
      cases rx
      obtain ⟨t, rfl⟩ := ry
      exact op_repL I s1 (by rw [dpAll_len p1]; exact hz) fun p hp => q.newL ok hp (dpAll_rep p1 _)
    · cases hg
end
/-! ### a, b, c = e1, e2, e3 -/
theorem ps_par3G {X : Cx} {As : List Nat} {np : Nat} {G : FK} {i j l : Nat} {x y z : Str} {a b c : Expr} {px py pz pt pos : Pos} {kt k2 : Nat} {pt2 : Pos} (hc : X.calm = true) (hN : X.N.Nodup) (hi : X.N[i]? = some x) (hj : X.N[j]? = some y) (hl : X.N[l]? = some z)
    (hij : i ≠ j) (hil : i ≠ l) (hjl : j ≠ l) (hx : X.env.scope.names.lookup x = some .local) (hy : X.env.scope.names.lookup y = some .local) (hz : X.env.scope.names.lookup z = some .local) (ha : PA X [a, b, c] (tK X.K G))
    (hw : swappedStores [.Tuple [.Name x px, .Name y py, .Name z pz] kt pt] (.Tuple [a, b, c] k2 pt2) X.env = pure (some [x, y, z]))
    (hs : swapsWithSole [.Tuple [.Name x px, .Name y py, .Name z pz] kt pt] (.Tuple [a, b, c] k2 pt2) pos.line X.env = pure false) (hai : ∀ m ∈ [i, j, l], np ≤ m ∨ m ∈ As) :
    PS X (.Assign [.Tuple [.Name x px, .Name y py, .Name z pz] kt pt] (.Tuple [a, b, c] k2 pt2) pos) (tG X.K As np (gPar [i, j, l] G)) :=
  ps_imp (ps_par3 hc hN hi hj hl hij hil hjl hx hy hz ha hw hs) fun D σ H h => par_use hai h fun vs H' hl q => by
    match vs, hl with
    | [v, w, u], _ => exact ⟨v, w, u, rfl, q⟩
end Pt

namespace Pt
open PySem PySem.Spec PyProof.Rows L2
variable [Tb]
/-! ### len(set(..)) of ints -/
def nub : List Int → List Int
  | [] => []
  | x :: xs => if x ∈ xs then nub xs else x :: nub xs
theorem nub_mem {k : Int} : ∀ {ns : List Int}, k ∈ nub ns ↔ k ∈ ns
  | [] => Iff.rfl
  | x :: xs => by
    unfold nub
    split
    · rename_i h
      rw [nub_mem, List.mem_cons]
      exact ⟨.inr, fun z => z.elim (fun e => e ▸ h) id⟩
    · rw [List.mem_cons, List.mem_cons, nub_mem]
theorem nub_nd : ∀ ns : List Int, (nub ns).Nodup
  | [] => List.nodup_nil
  | x :: xs => by
    unfold nub
    split
    · exact nub_nd xs
    · rename_i h
      exact List.nodup_cons.mpr ⟨fun z => h (nub_mem.mp z), nub_nd xs⟩
theorem nub_len {l ns : List Int} (h : l.Nodup) (m : ∀ k, k ∈ l ↔ k ∈ ns) : l.length = (nub ns).length :=
  ((List.perm_ext_iff_of_nodup h (nub_nd ns)).mpr fun k => (m k).trans nub_mem.symm).length_eq
def gLS : G1 := fun d => match itemsLT d with
  | some ds => match intsL ds with
    | some ns => if ns.length < 1000 then some (.int (nub ns).length, .st) else none
    | none => none
  | none => none
theorem met_nd (f : Nat → Int) : ∀ n, (firstMet f n).Nodup
  | 0 => List.nodup_nil
  | n + 1 => by
    rw [firstMet_succ]
    unfold step_dedup
    have ih := met_nd f n
    split
    · exact ih
    · rename_i h
      refine List.nodup_append.mpr ⟨ih, List.nodup_cons.mpr ⟨List.not_mem_nil, List.nodup_nil⟩, fun a ha b hb e => h ?_⟩
      rw [List.mem_singleton.mp hb] at e
      rw [List.any_eq_true]
      exact ⟨a, ha, by simp [e]⟩
theorem met_mem (f : Nat → Int) (n : Nat) (k : Int) : k ∈ firstMet f n ↔ k ∈ (List.range n).map f := by
  have h := firstMet_any f n k
  rw [Bool.eq_iff_iff, List.any_eq_true, List.any_eq_true] at h
  constructor
  · intro z
    obtain ⟨y, hy, e⟩ := h.mp ⟨k, z, by simp⟩
    rw [beq_iff_eq] at e
    exact e ▸ hy
  · intro z
    obtain ⟨y, hy, e⟩ := h.mpr ⟨k, z, by simp⟩
    rw [beq_iff_eq] at e
    exact e ▸ hy
theorem range_get (ns : List Int) : (List.range ns.length).map (fun i => ns.getD i 0) = ns := by
  refine List.ext_getElem (by simp) fun i h1 h2 => ?_
  simp [List.getD_eq_getElem?_getD, List.getElem?_eq_getElem h2]
section
variable {X : Cx} {a : Expr} {Fa : FE} {p p2 q pos : Pos}
theorem pe_lenSetD (cm : X.calm = true) (g1 : Gl X "len") (m1 : X.mg "len" = none) (g2 : Gl X "set") (m2 : X.mg "set" = none) (ha : PE X a (tF X.K Fa)) (na : starEach [a] X.env = (false, eval a X.env) :: starEach [] X.env) :
    PE X (.Call (.Name "len" p) [.Call (.Name "set" p2) [a] [] q] [] pos) (tF X.K (fOne gLS Fa)) := ⟨fun pins s σ H Q I h => by
  have hh := use_one (rul1_d X.K gLS) h
  refine Call_ (ld_blt I g1 m1 PySem.boot_len (PyProof.Rows.callWith_builtin1 (PyProof.Rows.args_cons ?_ rfl) rfl rfl))
  refine Call_ (ld_blt I g2 m2 PyProof.Rows.boot_set (PyProof.Rows.callWith_type1 (PyProof.Rows.args_cons (thn (ha.run pins s σ H _ I hh) fun v s1 ⟨x, H1, I1, r1, q1⟩ => PyProof.Rows.args_nil ?_) na) na rfl))
  obtain ⟨As, vs0, B, R, σ', env, d, e, k, ok, u, hg, post⟩ := q1
  unfold gLS at hg
  cases hi : itemsLT d with
  | none => rw [hi] at hg; cases hg
  | some ds =>
    rw [hi] at hg
    dsimp only at hg
    cases hn : intsL ds with
    | none => rw [hn] at hg; cases hg
    | some ns =>
      rw [hn] at hg
      dsimp only at hg
      split at hg
      · rename_i hlt
        cases hg
        have hds := intsL_map hn
        have fin : ∀ (its : List Value) (vs : List V), Vals vs its → DpAll X.K R vs ds → IntsAre its ns ∧ its.toArray.size = ns.length := fun its vs rv dp => by
          have ev := ints_v dp hn
          subst ev
          have hi := rv.ints
          exact ⟨hi, by rw [List.size_toArray]; exact hi.length⟩
        cases d <;> try (cases hi; done)
        case list es =>
          cases hi
          obtain ⟨l, vs, ev, sq, dp⟩ := u.list ok.rh
          subst ev
          cases r1
          obtain ⟨its, rv, pl, hz⟩ := I1.list sq
          obtain ⟨hia, hsz⟩ := fin its vs rv dp
          refine call_set_list (I1.ok.hd cm) pl.isList (ns := ns) (by simpa using hia) (by unfold scanBound; omega) fun h' tk hS hk => PyProof.Rows.args_nil ?_
          obtain ⟨o, st, ep, t, ho, hex, hdt, _, _, _, hf, hn2⟩ := hS
          have I2 : Inv X pins σ H1 { s1 with heap := h', toks := tk } := I1.kept fun b o e => hk b o (Heap.lt_size e) e
          have hc : st.size = (nub ns).length := by
            rw [hn2, hsz]
            exact nub_len (met_nd _ _) fun k => by rw [met_mem, range_get]
          have hle : (nub ns).length ≤ ns.length := by
            rw [← hc, hn2, hsz]
            exact firstMet_length_le _ _
          refine call_len_set ho hex hdt hf (by omega) ⟨.int (nub ns).length, H1, I2.tok _, ⟨_, by rw [hc]⟩, Post.int ok post⟩
        case tuple es =>
          cases hi
          obtain ⟨l, vs, ev, sq, dp, _⟩ := u.tuple ok.rh
          subst ev
          cases r1
          obtain ⟨its, rv, pt, hz⟩ := I1.tuple sq
          obtain ⟨hia, hsz⟩ := fin its vs rv dp
          refine call_set_tupI ns (I1.ok.hd cm) (show s1.heap.IsTuple l its.toArray from pt) (by simpa using hia) (by unfold scanBound; omega) fun h' tk c hS hcl hk => PyProof.Rows.args_nil ?_
          obtain ⟨o, st, ep, t, ho, hex, hdt, _, hnd, hmem, _, hf, hn2, _⟩ := hS
          have I2 : Inv X pins σ H1 { s1 with heap := h', toks := tk } := I1.kept hk
          have hc : st.size = (nub ns).length := by
            have h1 := nub_len (ns := ns) hnd fun k => by
              rw [← hmem k]
              simp
            rw [← h1, List.length_map, Array.length_toList]
          refine call_len_set ho hex hdt hf (by omega) ⟨.int (nub ns).length, H1, I2.tok _, ⟨_, by rw [hc]⟩, Post.int ok post⟩
      · cases hg⟩
end
/-! ### a tuple times an int -/
def gMulT : G2
  | .tuple xs, .int k => if (!xs.isEmpty) && decide (2 ≤ k) && decide (k ≤ 1000) && decide (xs.length ≤ 1000) then some (.tuple (List.replicate k.toNat xs).flatten, .st) else none
  | _, _ => none
theorem opr_mulT {X : Cx} : OpR X (binaryOp .Mult) (rD2 X.K gMulT) := by
  intro pins s σ H x y v u Q I rx ry h
  obtain ⟨As, vs0, B, R, σ', env, d1, d2, e, k, ok, u1, u2, hg, q⟩ := h
  cases d1 <;> cases d2 <;> try (cases hg; done)
  case tuple.int xs n =>
    dsimp only [gMulT] at hg
    split at hg
    · rename_i hz
      cases hg
      simp only [Bool.and_eq_true, decide_eq_true_eq] at hz
      obtain ⟨⟨⟨z1, z2⟩, z3⟩, z4⟩ := hz
      obtain ⟨a1, w1, e1, s1, p1, _⟩ := u1.tuple ok.rh
      have hne : w1 ≠ [] := fun z => by
        subst z
        cases p1
        cases z1
      exact op_repT pins s σ H x y v u Q I rx ry ⟨a1, n, w1, e1, u2.int, s1, hne, z2, z3, by rw [dpAll_len p1]; exact z4, fun p hp => q.newT ok hp (dpAll_rep p1 _)⟩
    · cases hg
end Pt

namespace Pt
open PySem PySem.Spec PyProof.Rows L2

/-! ### lambda hit: (-hit[1], hit[0]) -/
abbrev rkPar (p : Pos) : Arguments := { posonlyargs := [], args := [{ arg := "hit", annotation := none, pos := p }], vararg := none, kwonlyargs := [], kw_defaults := [], kwarg := none, defaults := [] }
abbrev rkScope : Scope := { kind := .function, names := [("hit", .local)], isGenerator := false, isCoroutine := false, more := [] }
abbrev rkBody (k1 k2 k3 : Nat) (p2 p3 p4 p5 p6 p7 p8 p9 : Pos) : Expr :=
  .Tuple [.UnaryOp .USub (.Subscript (.Name "hit" p2) (.Constant (.int 1) k1 p3) p4) p5, .Subscript (.Name "hit" p6) (.Constant (.int 0) k2 p7) p8] k3 p9
/-- the key of a hit -/
def keyD : D → Option D
  | .tuple (.str n :: .int s :: _) => some (.tuple [.int (-s), .str n])
  | .list (.str n :: .int s :: _) => some (.tuple [.int (-s), .str n])
  | _ => none
section
variable {prog : Program} {w : World} {A : Around} {E : Value → Shared → Prop} {s : Shared}
/-- v's items 0 and 1 -/
structure Hit2 (h : Heap) (v : Value) (n : Str) (i : Int) : Prop where
  it : ∃ (a : Addr) (o : Obj) (items : Array Value) (k : Nat) (t u : Tok), v = .ref a ∧ h.get? a = some o ∧ (o.cls = .type "tuple" ∨ o.cls = .type "list") ∧ o.data = .seq items k ∧ items[0]? = some (.str n t) ∧ items[1]? = some (.int i u)
theorem readsAll_cons {h : Heap} {vs : List Value} {d : D} {ds : List D} {as : List Addr} (r : ReadsAll h vs (d :: ds) as) : ∃ v us bs cs, vs = v :: us ∧ Reads h v d bs ∧ ReadsAll h us ds cs := by
  cases r with
  | cons a b => exact ⟨_, _, _, _, rfl, a, b⟩
theorem hit_items {h : Heap} {vs : Array Value} {n : Str} {i : Int} {r : List D} {as : List Addr} (x : ReadsAll h vs.toList (.str n :: .int i :: r) as) : ∃ t u, vs[0]? = some (.str n t) ∧ vs[1]? = some (.int i u) := by
  obtain ⟨v, us, _, _, e1, r1, r2⟩ := readsAll_cons x
  obtain ⟨v2, us2, _, _, e2, r3, _⟩ := readsAll_cons r2
  cases r1; cases r3
  rw [e2] at e1
  obtain ⟨l⟩ := vs
  have e1 : l = _ := e1
  subst e1
  exact ⟨_, _, rfl, rfl⟩
theorem Hit2.of {h : Heap} {v : Value} {d : D} {as : List Addr} {n : Str} {i : Int} (r : Reads h v d as) (k : keyD d = some (.tuple [.int (-i), .str n])) : Hit2 h v n i := by
  unfold keyD at k
  split at k
  · rename_i n' i' rest
    have hn : -i' = -i ∧ n' = n := by simpa using k
    have hi : i' = i := by omega
    rw [hi, hn.2] at r
    cases r with
    | tuple h1 h2 h3 h4 =>
      obtain ⟨t, u, g1, g2⟩ := hit_items h4
      exact ⟨_, _, _, _, t, u, rfl, h1, .inl h2, h3, g1, g2⟩
  · rename_i n' i' rest
    have hn : -i' = -i ∧ n' = n := by simpa using k
    have hi : i' = i := by omega
    rw [hi, hn.2] at r
    cases r with
    | list h1 h2 h3 h4 =>
      obtain ⟨t, u, g1, g2⟩ := hit_items h4
      exact ⟨_, _, _, _, t, u, rfl, h1, .inr h2, h3, g1, g2⟩
  · cases k
theorem Hit2.keeps {h h' : Heap} {v : Value} {n : Str} {i : Int} (x : Hit2 h v n i) (k : ∀ b o, h.get? b = some o → h'.get? b = some o) : Hit2 h' v n i := by
  obtain ⟨a, o, items, kk, t, u, e1, e2, e3⟩ := x
  exact ⟨a, o, items, kk, t, u, e1, k _ _ e2, e3⟩
/-- hit[c] -/
theorem hit_get {env : Env} {m : Str → Option Value} {a : Addr} {o : Obj} {items : Array Value} {k kc : Nat} {c : Int} {x : Value} {p2 p3 p4 : Pos} {Q : Value → Shared → Prop} (hk : env.scope.kind = .function) (hl : env.kindOf "hit" = some .local) (hn : s.heap.Ns env.locals m) (hv : m "hit" = some (.ref a))
    (ho : s.heap.get? a = some o) (hc : o.cls = .type "tuple" ∨ o.cls = .type "list") (hd : o.data = .seq items k) (h0 : 0 ≤ c) (hb : c < 2 ^ 62) (hx : items[c.toNat]? = some x)
    (h : Q x { s with toks := s.toks + 1 }) : wpAny (model prog w) A (eval (.Subscript (.Name "hit" p2) (.Constant (.int c) kc p3) p4) env) Q E s := by
  refine wpAny_Subscript_Constant_late (wpAny_Name (wpAny_loadName_local hk hl hn hv (wpAny_Constant_int ?_)))
  have hlt : c.toNat < items.size := (Array.getElem?_eq_some_iff.mp hx).1
  rcases hc with hc | hc
  · refine ⟨"tuple", _, slot_tuple_getitem.lookup, ⟨o, ho, hc⟩, ?_⟩
    refine getItem_tuple (j := c.toNat) ⟨o, ho, hc, k, hd⟩ (by omega) (by omega) ?_ hx h
    unfold seqIndex?
    have h1 : ¬ c < 0 := by omega
    have h2 : (decide ((0 : Int) ≤ c) && decide (c < items.size)) = true := by
      rw [Bool.and_eq_true, decide_eq_true_eq, decide_eq_true_eq]; omega
    dsimp only
    rw [if_neg h1, if_pos h2]
  · refine ⟨"list", _, PySem.F.slot_list_getitem.lookup, ⟨o, ho, hc⟩, ?_⟩
    refine getItem_listL (l := items.toList) ⟨o, ho, hc, k, by simpa using hd⟩ (by omega) (by omega) ?_ h
    simpa using hx
theorem key_body {env : Env} {m : Str → Option Value} {v : Value} {n : Str} {i : Int} {k1 k2 k3 : Nat} {p2 p3 p4 p5 p6 p7 p8 p9 : Pos} {h0 : Heap} {tk0 : Nat} (hk : env.scope.kind = .function) (hl : env.kindOf "hit" = some .local) (hn : s.heap.Ns env.locals m) (hv : m "hit" = some v)
    (x : Hit2 s.heap v n i) (kp : ∀ b o, h0.get? b = some o → s.heap.get? b = some o) :
    wpAny (model prog w) A (eval (rkBody k1 k2 k3 p2 p3 p4 p5 p6 p7 p8 p9) env) (PySem.W.KeyPure (.tuple [.int (-i), .str n]) { s with heap := h0, toks := tk0 }) E s := by
  obtain ⟨a, o, items, kk, t, u, e1, ho, hc, hd, h0', h1⟩ := x
  subst e1
  refine wpAny_Tuple (wpAny_items_cons (wpAny_UnaryOp (hit_get hk hl hn hv ho hc hd (by decide) (by decide) h1 (P.neg_int ?_))) (by rfl))
  refine wpAny_items_cons (hit_get hk hl hn hv ho hc hd (by decide) (by decide) h0' ?_) (by rfl)
  refine wpAny_items_nil ⟨by show 2 ≤ sizeLine; decide, _, _, rfl, fun b o e => Heap.get?_push_of_some _ (kp b o e), ?_⟩
  exact .tuple (Heap.get?_push_size _ rfl) rfl rfl (.cons (.int _ _) (.cons (.str _ _) .nil))
theorem key_call {f c' : Addr} {q : Str} {pm ctv v : Value} {n : Str} {i : Int} {k1 k2 k3 : Nat} {p1 p2 p3 p4 p5 p6 p7 p8 p9 : Pos} (hroom : A.depth < recursionLimit) (hf : s.heap.get? f = some (PySem.W.kla_obj "<lambda>" q (rkPar p1) (rkBody k1 k2 k3 p2 p3 p4 p5 p6 p7 p8 p9) rkScope [] pm c' ctv))
    (hlim : s.heap.NoLimit) (hcd : s.heap.CodeRec (.ref c') q) (hv : Hit2 s.heap v n i) : wpAny (model prog w) A (call (.ref f) [v]) (PySem.W.KeyPure (.tuple [.int (-i), .str n]) s) (fun _ _ => False) s := by
  refine wpAny_call (PySem.W.kla_callFunE hroom hf rfl rfl rfl rfl hcd ?_)
  have hb : bindArgs (PySem.W.kla_fn "<lambda>" q (rkPar p1) (rkBody k1 k2 k3 p2 p3 p4 p5 p6 p7 p8 p9) rkScope [] pm (.ref c') ctv) ⟨[v], []⟩ = pure [(("hit" : Str), v)] := by rfl
  rw [hb]
  refine wpAny_pure (wpAny_newFunctionEnv (fun y hy => by simp at hy; subst hy; decide) (fun y hy => by simp at hy; subst hy; rfl) (fun h₁ hns hsb => ⟨hlim.fresh _ hsb, ?_⟩) rfl)
  have kp : ∀ b o, s.heap.get? b = some o → h₁.get? b = some o := fun b o e => hsb.extBut b o (Nat.ne_of_lt (Heap.lt_size e)) (Heap.get?_push_of_some _ e)
  refine PySem.W.kla_codeExpr (wpAny_mono (key_body (m := fun x => List.lookup x [(("hit" : Str), v)].reverse) (h0 := s.heap) (tk0 := s.toks) (E := fun _ _ => False) rfl rfl hns rfl (hv.keeps kp) kp) (fun v s' h => h) fun e s' h => h.elim)
end
end Pt

namespace Pt
open PySem PySem.Spec PyProof.Rows L2
section
open PySem.W PySem.Calls
variable {prog : Program} {w : World} {A : Around} {E : Value → Shared → Prop} {s : Shared} {β : Type} {vs : List Value} {bs : List β} {R : Value → β → Prop}
/-- sorted(xs, key=f), xs a list or a tuple -/
theorem sorted_key_any {T : String} {l : Addr} {o : Obj} {n : Nat} {f : Value} {kw : List (Str × Value)} {b : Bool} {Q : Value → Shared → Prop} (k : β → PyData) (hT : T = "list" ∨ T = "tuple") (ho : s.heap.get? l = some o) (hc : o.cls = .type T) (hd : o.data = .seq vs.toArray n)
    (e : EachIs R vs bs) (hal : AllAlike (bs.map k)) (hk : Sortable (bs.map k)) (hL : bs.length ≤ sizeLine)
    (hu : ∀ x, x ∈ bs → A.units + 2 + (k x).depth < cLine) (ha1 : argsOk "sorted" ⟨[.ref l], kw⟩) (ha2 : ∀ x, argsOk "list.sort" ⟨[.ref x], kw⟩) (ht : ∀ x, Builtin.«list.sort» ⟨[.ref x], kw⟩ = ksk_tree x f b)
    (turn : ∀ (v : Value) (x : β), R v x → x ∈ bs → ∀ (h : Heap) (tk : Nat), (∀ b o, s.heap.get? b = some o → h.get? b = some o) →
      wpAny (model prog w) A.in1.in1 (call f [v]) (KeyPure (k x) { s with heap := h, toks := tk }) (fun _ _ => False) { s with heap := h, toks := tk })
    (h : ∀ (h1 : Heap) (out : List Value) (c : Nat) (h' : Heap) (tk : Nat), (∀ b o, s.heap.get? b = some o → h1.get? b = some o) → (∀ b o, h1.get? b = some o → h'.get? b = some o) → h'.get? h1.objs.size = some (seqObj "list" (List.toArray out) c) → out.length = bs.length → EachIs R out (bs.mergeSort (dataLe b k)) →
      Q (.ref h1.objs.size) { s with heap := h', toks := tk }) :
    wpAny (model prog w) A (call (.builtin "sorted") [.ref l] kw) Q E s := by
  have hv : vs.length ≤ sizeLine := by rw [e.length]; exact hL
  refine call_function_entry_kw kind_sorted plain_sorted entry_sorted ha1 ?_
  unfold Builtin.«sorted»
  refine wpAny_bind (m := checkCount "sorted" 1 1 _) (wpAny_pure ?_)
  refine wpAny_bind (wpAny_collect_seq l hT ho hc hd (fun h1 kp1 => ?_) (by simpa using hv))
  have e1 : vs.toArray.toList = vs := by simp
  rw [e1]
  refine wpAny_bind (wpAny_newList ?_ hv)
  have hnew : (h1.push (seqObj "list" vs.toArray 0)).get? h1.objs.size = some (seqObj "list" vs.toArray 0) := Heap.get?_push_size _ rfl
  have kp2 : ∀ b o, s.heap.get? b = some o → (h1.push (seqObj "list" vs.toArray 0)).get? b = some o := fun b o q => Heap.get?_push_of_some _ (kp1 b o q)
  have nw : ∀ b o, h1.get? b = some o → b ≠ h1.objs.size := fun b o q => Nat.ne_of_lt (Heap.lt_size q)
  refine wpAny_bind (wpAny_holding (list_sort_key_data (a := h1.objs.size) (s := { s with heap := h1.push (seqObj "list" vs.toArray 0) }) (A := A.in1) k hnew e hal hk hL (fun x hx => by have := hu x hx; show A.units + 1 + 1 + _ < _; omega) (ha2 _) (ht _) (fun v x hR hx h tk kp => turn v x hR hx h tk fun b o q => kp b o (nw b o (kp1 b o q)) (kp2 b o q)) fun out c h' tk kp hD hl eo => ?_))
  refine wpAny_pure ⟨_, rfl, ?_⟩
  exact h h1 out c h' tk kp1 (fun b o q => kp b o (nw b o q) (Heap.get?_push_of_some _ q)) hD hl eo
end

/-! ### sorted by a total order, by insertion -/
def insBy (le : D → D → Bool) (x : D) : List D → List D
  | [] => [x]
  | y :: ys => if le x y then x :: y :: ys else y :: insBy le x ys
def isortBy (le : D → D → Bool) : List D → List D
  | [] => []
  | x :: xs => insBy le x (isortBy le xs)
section
variable {le : D → D → Bool}
theorem insBy_mem {x z : D} : ∀ {ys : List D}, z ∈ insBy le x ys ↔ z = x ∨ z ∈ ys
  | [] => by simp [insBy]
  | y :: ys => by
    unfold insBy
    split
    · simp
    · simp only [List.mem_cons, insBy_mem (ys := ys)]
      constructor
      · rintro (h | h | h)
        · exact .inr (.inl h)
        · exact .inl h
        · exact .inr (.inr h)
      · rintro (h | h | h)
        · exact .inr (.inl h)
        · exact .inl h
        · exact .inr (.inr h)
theorem insBy_pw (T : PySem.W.TotalLe le) {x : D} : ∀ {ys : List D}, ys.Pairwise (fun a b => le a b = true) → (insBy le x ys).Pairwise (fun a b => le a b = true)
  | [], _ => by simp [insBy]
  | y :: ys, h => by
    unfold insBy
    split
    · rename_i hx
      refine List.Pairwise.cons (fun z hz => ?_) h
      rcases List.mem_cons.mp hz with rfl | hz
      · exact hx
      · exact T.trans _ _ _ hx (List.rel_of_pairwise_cons h hz)
    · rename_i hx
      have hyx : le y x = true := (T.total x y).resolve_left hx
      refine List.Pairwise.cons (fun z hz => ?_) (insBy_pw T h.of_cons)
      rcases insBy_mem.mp hz with rfl | hz
      · exact hyx
      · exact List.rel_of_pairwise_cons h hz
theorem insBy_rank (T : PySem.W.TotalLe le) {x c : D} : ∀ {ys : List D}, (insBy le x ys).filter (PySem.W.sameRank le c) = (x :: ys).filter (PySem.W.sameRank le c)
  | [] => rfl
  | y :: ys => by
    unfold insBy
    split
    · rfl
    · rename_i hx
      have ih := insBy_rank T (x := x) (c := c) (ys := ys)
      rw [List.filter_cons, ih]
      by_cases h1 : PySem.W.sameRank le c x = true
      · by_cases h2 : PySem.W.sameRank le c y = true
        · exfalso
          unfold PySem.W.sameRank at h1 h2
          rw [Bool.and_eq_true] at h1 h2
          exact hx (T.trans _ _ _ h1.2 h2.1)
        · simp only [List.filter_cons, h1, h2, if_true, if_false, Bool.false_eq_true]
      · simp only [List.filter_cons, h1, if_false, Bool.false_eq_true]
theorem isortBy_pw (T : PySem.W.TotalLe le) : ∀ (ds : List D), (isortBy le ds).Pairwise (fun a b => le a b = true)
  | [] => .nil
  | x :: xs => insBy_pw T (isortBy_pw T xs)
theorem isortBy_rank (T : PySem.W.TotalLe le) {c : D} : ∀ (ds : List D), (isortBy le ds).filter (PySem.W.sameRank le c) = ds.filter (PySem.W.sameRank le c)
  | [] => rfl
  | x :: xs => by
    show (insBy le x (isortBy le xs)).filter _ = _
    rw [insBy_rank T, List.filter_cons, isortBy_rank T xs, List.filter_cons]
theorem isortBy_eq (T : PySem.W.TotalLe le) (ds : List D) : isortBy le ds = ds.mergeSort le := PySem.W.sort_unique T (isortBy_pw T ds) fun c => isortBy_rank T ds
end
def keyT (d : D) : D := (keyD d).getD .none
def kLe (x y : D) : Bool := !PySem.W.dataLt (keyT y) (keyT x)
theorem kLe_eq : kLe = PySem.W.dataLe false keyT := by
  funext x y
  rw [PySem.W.dataLe_eq]
  rfl
theorem kLe_total : PySem.W.TotalLe kLe := by
  rw [kLe_eq]
  exact PySem.W.sortLe_total _ _ _
/-- sorted by (-hit[1], hit[0]) -/
def rkL (xs : List D) : Option (D × Kd) := if xs.all (fun d => (keyD d).isSome) && decide (xs.length ≤ sizeLine) then some (.list (isortBy kLe xs), .fr) else none
def gRank : G1
  | .list xs => rkL xs
  | .tuple xs => rkL xs
  | _ => none
theorem keyD_some {d : D} (h : (keyD d).isSome = true) : ∃ n i, keyD d = some (.tuple [.int (-i), .str n]) := by
  unfold keyD at h ⊢
  split at h
  · exact ⟨_, _, rfl⟩
  · exact ⟨_, _, rfl⟩
  · cases h
theorem keyT_some {d : D} {k : D} (h : keyD d = some k) : keyT d = k := by unfold keyT; rw [h]; rfl
variable [Tb]
section
variable {K : PySem.W.Frag} {As : List Nat} {vs0 : List V} {B R H H1 : Hp} {σ : L2.St} {env : Ev} {X : Cx}
/-- the heap with other tables -/
theorem Ok.extN (ok : Ok K As vs0 B R H σ env) (e : LamX.ExtN H H1) (t : LamX.Tabs Tb.T H1) : Ok K As vs0 B R H1 σ env := by
  have le : ∀ {G : Hp}, Le G H → NT G → Le G H1 := fun {G} l n => ⟨fun a o k h => e a o (l.1 a o k h) k, fun a h => by
    cases z : G a with
    | none => rfl
    | some o =>
      have k : ∀ ps, o ≠ .tbl ps := fun ps q => n a ps (by rw [z, q])
      have := e a o (l.1 a o k z) k
      rw [h] at this; cases this⟩
  exact ⟨ok.len, le ok.rh ok.nt, le ok.bh ok.nb, fun i s hs => (ok.sl i s hs).mono (.refl _ _) fun a o _ h k n _ => ⟨e a o h k, n⟩, ok.ap, ok.ar, ok.ad, t, ok.nt, ok.nb⟩
theorem ResOk.extN {v : V} {d : D} {k : Kd} (r : ResOk K B R H σ env v d k) (e : LamX.ExtN H H1) : ResOk K B R H1 σ env v d k := by
  cases k with
  | st => exact r
  | fr =>
    obtain ⟨a, vs, ds, e1, e2, h1, h2⟩ := r
    exact ⟨a, vs, ds, e1, e2, e a _ h1 nt_lst, h2⟩
  | pk i => exact r
/-- the def's code object, its table -/
structure LamD (X : Cx) : Prop where
  ex : ∃ c P, X.env.code = .ref c ∧ LamX.TabB X.base X.mg c P ∧ (P, X.env.qual ++ "<lambda>") ∈ Tb.T ∧ ∀ p ∈ Tb.T, p.1 = P → p.2 = X.env.qual ++ "<lambda>"
variable {e : Expr} {F : FE} {p pos kp lpos p1 p2 p3 p4 p5 p6 p7 p8 p9 : Pos} {k1 k2 k3 k : Nat}
theorem rank_ok {xs : List D} {r : D} {k : Kd} (h : rkL xs = some (r, k)) : (∀ d ∈ xs, ∃ n i, keyD d = some (.tuple [.int (-i), .str n])) ∧ xs.length ≤ sizeLine ∧ r = .list (isortBy kLe xs) ∧ k = .fr := by
  unfold rkL at h
  split at h
  · rename_i hz
    rw [Bool.and_eq_true, decide_eq_true_eq] at hz
    cases h
    exact ⟨fun d hd => keyD_some (List.all_eq_true.mp hz.1 d hd), hz.2, rfl, rfl⟩
  · cases h
theorem each_and {β : Type} {P Q : Value → β → Prop} : ∀ {us : List Value} {ds : List β}, PySem.W.EachIs P us ds → PySem.W.EachIs Q us ds → PySem.W.EachIs (fun u d => P u d ∧ Q u d) us ds
  | _, _, .nil, _ => .nil
  | _, _, .cons a t, b => by
    cases b with
    | cons b1 b2 => exact .cons ⟨a, b1⟩ (each_and t b2)
theorem pe_rankD (hr : Room k X.A) (L : LamD X) (hg : Gl X "sorted") (hm : X.mg "sorted" = none) (ha : PE X e (tF X.K F)) (he : starEach [e] X.env = (false, eval e X.env) :: starEach [] X.env) :
    PE X (.Call (.Name "sorted" p) [e] [⟨some "key", .Lambda (rkPar p1) (rkBody k1 k2 k3 p2 p3 p4 p5 p6 p7 p8 p9) rkScope lpos, kp⟩] pos) (tF X.K (fOne gRank F)) := by
  refine ⟨fun pins s σ H Q I h => ?_⟩
  obtain ⟨c, P, hcode, TB, hmem, huni⟩ := L.ex
  have h' := use_one (rul1_d X.K gRank) h
  refine wpAny_Call_Name_kw (ld_blt (u := .builtin "sorted") I hg hm (by decide +kernel) ?_)
  have hA : tCons (tF X.K F) tNil σ H fun vs H1 => ∃ x, vs = [x] ∧ rD1 X.K gRank x H1 Q := ?hA
  refine PyProof.Rows.callWith_kw (thn ((pa_cons ha pa_nil he).run pos pins s σ H (fun vs H1 => ∃ x, vs = [x] ∧ rD1 X.K gRank x H1 Q) I hA) fun us s1 ⟨vs, H1, I1, r1, q1⟩ => ?_) (by rw [he]; rfl) (by rw [he]; rfl) rfl rfl
  case hA =>
    obtain ⟨a1, a2, a3, a4, a5, a6, a7, a8, a9, a10, a11⟩ := h'
    exact ⟨a1, a2, a3, a4, a5, a6, a7, a8, a9, a10, fun v R' H' g o r => ⟨v, rfl, a11 v R' H' g o r⟩⟩
  obtain ⟨x, rfl, As, vs0, B, R, σ', env, d, r, kd, ok, u, hgk, q⟩ := q1
  obtain ⟨u0, rfl, rx⟩ := r1.one
  show wpAny _ _ (evalAll ((do let v ← eval (.Lambda _ _ _ _) X.env; standAt pos; pure v) :: [])) _ _ s1
  refine wpAny_evalAll_cons (wpAny_bind (LamX.lam_make2 I1 TB hcode hmem huni ok.tb rfl (fun y hy hf => by simp at hy; subst hy; cases hf) fun f c' pm ctv H2 s2 I2 eN T2 hf hfn _ hco => wpAny_bind (wpAny_standAt (wpAny_pure ?_))))
  refine wpAny_evalAll_nil ?_
  have ok2 := ok.extN eN T2
  have u2 := u.le (Le.refl R) (fun a vs h => eN a _ h nt_lst)
  -- the rest, for a list and a tuple alike
  have go : ∀ {T : String} {xs : List D} {vs : List V} {its : List Value} {l : Addr} {o : Obj} {n : Nat}, (T = "list" ∨ T = "tuple") → rkL xs = some (r, kd) → Vals vs its → DpAll X.K R vs xs → s2.heap.get? l = some o → o.cls = .type T → o.data = .seq its.toArray n →
      wpAny (model X.prog X.w) X.A (call (.builtin "sorted") [.ref l] [(Str.ofString "key", .ref f)]) (EP X pins σ Q) X.xe s2 := by
    intro T xs vs its l o n hT hrk rv dp ho hc hd
    obtain ⟨hk, hlen, er, ek⟩ := rank_ok hrk
    subst er ek
    obtain ⟨ea, eb⟩ := each_of I2 ok2.rh dp rv
    have eab : PySem.W.EachIs (fun u (d : D) => (∃ v, RelV v u ∧ Dp X.K R v d) ∧ ∃ as, Reads s2.heap u d as) its xs := each_and ea eb
    refine sorted_key_any (b := false) keyT hT ho hc hd eab ?_ ?_ hlen (fun d hd => ?_) (ksk_s1 _ _) (fun _ => ksk_l1 _ _) (fun _ => ksk_t1 _ _) (fun v d ⟨_, as, rd⟩ hd h tk kp => ?_) fun h1 out c0 h' tk kp1 kp2 hD hl eo => ?_
    · intro d1 h1 d2 h2
      obtain ⟨z1, g1, rfl⟩ := List.mem_map.mp h1
      obtain ⟨z2, g2, rfl⟩ := List.mem_map.mp h2
      obtain ⟨n1, i1, e1⟩ := hk _ g1
      obtain ⟨n2, i2, e2⟩ := hk _ g2
      rw [keyT_some e1, keyT_some e2]
      simp [PySem.W.alike, PySem.W.alikeAll]
    · refine .inl fun d1 h1 => ?_
      obtain ⟨z1, g1, rfl⟩ := List.mem_map.mp h1
      obtain ⟨n1, i1, e1⟩ := hk _ g1
      rw [keyT_some e1]
      exact ⟨_, _, rfl⟩
    · obtain ⟨n1, i1, e1⟩ := hk _ hd
      rw [keyT_some e1]
      have hd : (PyData.tuple [.int (-i1), .str n1]).depth = 1 := by simp [PyData.depth, PyData.depthAll]
      have := hr.units
      omega
    · obtain ⟨n1, i1, e1⟩ := hk _ hd
      rw [keyT_some e1]
      have hcr : s2.heap.CodeRec (.ref c') (X.env.qual ++ "<lambda>") := by
        obtain ⟨⟨oc, vs, t, g1, g2, g3⟩, _⟩ := (show ObjOk X.prog X.w H2 s2.heap c' (LamX.CodeO c' (X.env.qual ++ "<lambda>")) from I2.hok c' _ hco)
        exact ⟨c', oc, vs, t, rfl, g1, g2, g3⟩
      exact key_call (show X.A.depth < recursionLimit from hr.depth) (kp _ _ hf) (I2.nolimit.keeps kp) (hcr.keeps kp) ((Hit2.of rd e1).keeps kp)
    · rw [← kLe_eq, ← isortBy_eq kLe_total] at eo
      obtain ⟨vs', rvs, dps⟩ := of_each (eo.mono fun _ _ h => h.1)
      have I3 : Inv X pins σ H2 { s2 with heap := h1, toks := s2.toks } := I2.kept kp1
      have hl2 : vs'.length ≤ sizeLine := by rw [rvs.length, hl]; exact hlen
      have hfr : H2 h1.objs.size = none := I3.hok.fresh (Nat.le_refl _)
      exact ⟨.ref h1.objs.size, _, I3.laid (t' := tk) (o := .lst vs') kp2 (Nat.le_refl _) ⟨hl2, out, c0, rvs, hD⟩, rfl, Post.newL ok2 hfr dps q⟩
  cases d <;> try (cases hgk; done)
  case list ds =>
    obtain ⟨a, ws, e1, s1, p1⟩ := u2.list ok2.rh
    subst e1
    cases rx
    obtain ⟨its, rv, ⟨o, n, ho, hc, _, hd⟩, hsz⟩ := I2.list s1
    exact go (.inl rfl) hgk rv p1 ho hc hd
  case tuple ds =>
    obtain ⟨a, ws, e1, s1, p1, _⟩ := u2.tuple ok2.rh
    subst e1
    cases rx
    obtain ⟨its, rv, ⟨o, ho, hc, n, hd⟩, hsz⟩ := I2.tuple s1
    exact go (.inr rfl) hgk rv p1 ho hc hd
end
end Pt

namespace Pt
open PySem PySem.Spec PyProof.Rows L2

/-! ### a dict of the frame's own, its keys ints and texts -/
abbrev KD := List (L2.Key × D)
def keyOfD : D → Option L2.Key
  | .int i => some (.inl i)
  | .str s => some (.inr s)
  | _ => none
def getKV (kvs : KD) (k : L2.Key) : Option D := (kvs.find? fun kv => decide (kv.1 = k)).map (·.2)
/-- in its place, or at the end -/
def setKV (k : L2.Key) (d : D) (kvs : KD) : KD := if (kvs.any fun kv => decide (kv.1 = k)) = true then kvs.map (fun kv => if kv.1 = k then (kv.1, d) else kv) else kvs ++ [(k, d)]
theorem getKV_nil {k : L2.Key} : getKV [] k = none := rfl
theorem getKV_cons {p : L2.Key × D} {r : KD} {k : L2.Key} : getKV (p :: r) k = if p.1 = k then some p.2 else getKV r k := by
  unfold getKV
  rw [List.find?_cons]
  by_cases e : p.1 = k
  · rw [if_pos e, decide_eq_true e]; rfl
  · rw [if_neg e, decide_eq_false e]
theorem getKV_any {k : L2.Key} : ∀ kvs : KD, (kvs.any fun kv => decide (kv.1 = k)) = (getKV kvs k).isSome
  | [] => rfl
  | p :: r => by
    rw [List.any_cons, getKV_cons, getKV_any r]
    by_cases e : p.1 = k
    · rw [if_pos e, decide_eq_true e]; rfl
    · rw [if_neg e, decide_eq_false e]; rfl
theorem getKV_map {k j : L2.Key} {d : D} : ∀ kvs : KD, getKV (kvs.map fun kv => if kv.1 = k then (kv.1, d) else kv) j = (getKV kvs j).map fun x => if j = k then d else x
  | [] => rfl
  | p :: r => by
    rw [List.map_cons, getKV_cons, getKV_cons, getKV_map r]
    by_cases h : p.1 = k
    · rw [if_pos h]
      dsimp only
      by_cases e : p.1 = j
      · rw [if_pos e, if_pos e, Option.map_some, if_pos (by rw [← e, h])]
      · rw [if_neg e, if_neg e]
    · rw [if_neg h]
      by_cases e : p.1 = j
      · rw [if_pos e, if_pos e, Option.map_some, if_neg (fun z => h (by rw [e, z]))]
      · rw [if_neg e, if_neg e]
theorem getKV_snoc {k j : L2.Key} {d : D} : ∀ kvs : KD, getKV kvs k = none → getKV (kvs ++ [(k, d)]) j = if j = k then some d else getKV kvs j
  | [], _ => by
    show getKV [(k, d)] j = _
    rw [getKV_cons]
    by_cases e : k = j
    · rw [if_pos e, if_pos e.symm]
    · rw [if_neg e, if_neg (fun z => e z.symm)]
  | p :: r, hn => by
    rw [getKV_cons] at hn
    by_cases h : p.1 = k
    · rw [if_pos h] at hn; cases hn
    · rw [if_neg h] at hn
      rw [List.cons_append, getKV_cons, getKV_cons, getKV_snoc r hn]
      by_cases e : p.1 = j
      · rw [if_pos e, if_pos e, if_neg (fun z => h (by rw [e, z]))]
      · rw [if_neg e, if_neg e]
theorem getKV_set {k j : L2.Key} {d : D} (kvs : KD) : getKV (setKV k d kvs) j = if j = k then some d else getKV kvs j := by
  unfold setKV
  rw [getKV_any]
  cases h : getKV kvs k with
  | none => rw [if_neg (by decide)]; exact getKV_snoc kvs h
  | some x =>
    rw [if_pos (show (some x).isSome = true from rfl), getKV_map]
    by_cases e : j = k
    · rw [if_pos e, e, h, Option.map_some, if_pos rfl]
    · rw [if_neg e]
      cases getKV kvs j with
      | none => rfl
      | some y => rw [Option.map_some, if_neg e]
section
variable {K : PySem.W.Frag} {R H : Hp}
theorem dpKV_len : ∀ {vs : List (L2.Key × V)} {ds : KD}, DpKV K R vs ds → vs.length = ds.length
  | _, _, .nil => rfl
  | _, _, .cons _ t => by simp [dpKV_len t]
theorem dpKV_get {k : L2.Key} : ∀ {vs : List (L2.Key × V)} {ds : KD}, DpKV K R vs ds → (valV vs k = none ∧ getKV ds k = none) ∨ ∃ v d, valV vs k = some v ∧ getKV ds k = some d ∧ Dp K R v d
  | _, _, .nil => .inl ⟨rfl, rfl⟩
  | _, _, .cons (a := p) (b := q) h t => by
    by_cases e : p.1 = k
    · exact .inr ⟨p.2, q.2, valV_pos e, by rw [getKV_cons, if_pos (h.1 ▸ e)], h.2⟩
    · rw [valV_neg e, getKV_cons, if_neg (h.1 ▸ e)]
      exact dpKV_get t
theorem dpKV_any {k : L2.Key} : ∀ {vs : List (L2.Key × V)} {ds : KD}, DpKV K R vs ds → (ds.any fun kv => decide (kv.1 = k)) = (vs.any fun kv => decide (kv.1 = k))
  | _, _, .nil => rfl
  | _, _, .cons (a := p) (b := q) h t => by rw [List.any_cons, List.any_cons, dpKV_any t, h.1]
theorem dpKV_map {k : L2.Key} {v : V} {d : D} (dp : Dp K R v d) : ∀ {vs : List (L2.Key × V)} {ds : KD}, DpKV K R vs ds → DpKV K R (vs.map fun kv => if kv.1 = k then (kv.1, v) else kv) (ds.map fun kv => if kv.1 = k then (kv.1, d) else kv)
  | _, _, .nil => .nil
  | _, _, .cons (a := p) (b := q) h t => by
    rw [List.map_cons, List.map_cons]
    refine .cons ?_ (dpKV_map dp t)
    by_cases e : p.1 = k
    · rw [if_pos e, if_pos (h.1 ▸ e)]; exact ⟨h.1, dp⟩
    · rw [if_neg e, if_neg (h.1 ▸ e)]; exact h
theorem dpKV_snoc {k : L2.Key} {v : V} {d : D} (dp : Dp K R v d) : ∀ {vs : List (L2.Key × V)} {ds : KD}, DpKV K R vs ds → DpKV K R (vs ++ [(k, v)]) (ds ++ [(k, d)])
  | _, _, .nil => .cons ⟨rfl, dp⟩ .nil
  | _, _, .cons h t => .cons h (dpKV_snoc dp t)
theorem dpKV_put {k : L2.Key} {v : V} {d : D} {vs : List (L2.Key × V)} {ds : KD} (h : DpKV K R vs ds) (dp : Dp K R v d) : DpKV K R (L2.putK vs k v) (setKV k d ds) := by
  unfold L2.putK setKV
  rw [dpKV_any h]
  by_cases a : (vs.any fun kv => decide (kv.1 = k)) = true
  · rw [if_pos a, if_pos a]; exact dpKV_map dp h
  · rw [if_neg a, if_neg a]; exact dpKV_snoc dp h
end
variable [Tb]
theorem key_of' {K : PySem.W.Frag} {R H : Hp} {x : V} {d : D} {k : L2.Key} (u : UseOk K R H x d) (h : keyOfD d = some k) : x = kV k := by
  unfold keyOfD at h
  split at h
  · cases h; exact u.int
  · cases h; exact u.str
  · cases h
section
variable {K : PySem.W.Frag} {As : List Nat} {vs0 : List V} {B R R' H H' : Hp} {σ : L2.St} {env env' : Ev} {v : V} {d : D} {k : Kd} {a : Addr}
theorem dct_slot {i : Nat} {ds : KD} (ok : Ok K As vs0 B R H σ env) (h : env[i]? = some (.dct ds)) : ∃ a vs, σ[i]? = some (some (V.ref a)) ∧ H a = some (.dK vs) ∧ DpKV K R vs ds ∧ R a = none ∧ B a = none := ok.sl i _ h
/-- the dict that slot i owns is changed -/
theorem Ok.writeD {i : Nat} {ds0 ds : KD} {vs : List (L2.Key × V)} (ok : Ok K As vs0 B R H σ env) (hi : env[i]? = some (.dct ds0)) (hv : σ[i]? = some (some (.ref a))) (hd : DpKV K R vs ds) :
    Ok K As vs0 B R (upd H a (.dK vs)) σ (env.set i (.dct ds)) := by
  obtain ⟨b, ws, e, h1, h2, h3, h4⟩ := ok.sl i _ hi
  rw [hv] at e
  have : a = b := by simpa using e
  subst this
  have hlt : i < env.length := (List.getElem?_eq_some_iff.mp hi).1
  have hne : ∀ {G : Hp}, Le G H → G a = none → Le G (upd H a (.dK vs)) := fun {G} l n => ⟨fun b u k e => by rw [upd_ne (ne_of_none e n)]; exact l.1 b u k e, fun b e => by
    by_cases z : b = a
    · subst z; exact n
    · rw [upd_ne z] at e; exact l.2 b e⟩
  refine ⟨by rw [List.length_set]; exact ok.len, hne ok.rh h3, hne ok.bh h4, fun j t ht => ?_, fun j l ds1 es1 b g1 g2 e1 e2 => ?_, ok.ar, fun j l ds1 es1 b g1 g2 e1 e2 => ?_, tabs_upd ok.tb (.inr (.inr ⟨_, h1⟩)), ok.nt, ok.nb⟩
  · by_cases z : i = j
    · subst z
      rw [List.getElem?_set_self hlt] at ht; cases ht
      exact ⟨a, vs, hv, upd_same, hd, h3, h4⟩
    · rw [List.getElem?_set_ne z] at ht
      have o := ok.sl j t ht
      cases t with
      | emp => trivial
      | pure d => exact o
      | own es =>
        obtain ⟨b, us, e9, q1, q2, q3, q4⟩ := o
        have : b ≠ a := fun w => by subst w; rw [h1] at q1; cases q1
        exact ⟨b, us, e9, by rw [upd_ne this]; exact q1, q2, q3, q4⟩
      | dct es =>
        obtain ⟨b, us, e9, q1, q2, q3, q4⟩ := o
        have : b ≠ a := fun w => z (ok.ad i j ds0 es a hi ht hv (by rw [← w]; exact e9))
        exact ⟨b, us, e9, by rw [upd_ne this]; exact q1, q2, q3, q4⟩
  · have aux : ∀ (j : Nat) (es : List D), (env.set i (.dct ds))[j]? = some (.own es) → env[j]? = some (.own es) := fun j es h => by
      by_cases z : i = j
      · subst z
        rw [List.getElem?_set_self hlt] at h; cases h
      · rw [List.getElem?_set_ne z] at h; exact h
    exact ok.ap j l ds1 es1 b (aux j ds1 g1) (aux l es1 g2) e1 e2
  · have aux : ∀ (j : Nat) (es : KD), (env.set i (.dct ds))[j]? = some (.dct es) → ∃ es0, env[j]? = some (.dct es0) := fun j es h => by
      by_cases z : i = j
      · subst z; exact ⟨ds0, hi⟩
      · rw [List.getElem?_set_ne z] at h; exact ⟨es, h⟩
    obtain ⟨x1, y1⟩ := aux j ds1 g1
    obtain ⟨x2, y2⟩ := aux l es1 g2
    exact ok.ad j l x1 x2 b y1 y2 e1 e2
/-- a new dict at slot i -/
theorem Ok.putD {i : Nat} {p : Addr} (ok : Ok K As vs0 B R H σ env) (hp : H p = none) (hi : vs0.length ≤ i ∨ i ∈ As) : Ok K As vs0 B R (upd H p (.dK [])) (σ.set i (some (.ref p))) (env.set i (.dct [])) := by
  refine (ok.new (o := .dK []) hp).put i ⟨p, [], rfl, upd_same, .nil, le_none ok.rh hp, le_none ok.bh hp⟩ (fun _ z => by cases z) hi fun ds _ a ea j es hj ej => ?_
  cases ea
  obtain ⟨b, vs, e2, h1, _⟩ := ok.sl j _ hj
  rw [ej] at e2
  have : p = b := by simpa using e2
  subst this
  rw [hp] at h1; cases h1
end

/-- x = {} -/
def gNewD (i : Nat) : FG := fun env => some (.nx (env.set i (.dct [])))
/-- x, y = e, {} -/
def gParD (i j : Nat) (F : FE) : FG := fun env => match F env with
  | some (d, k, e1) => match putS i d k e1 with
    | some e2 => some (.nx (e2.set j (.dct [])))
    | none => none
  | none => none
/-- x[a] = e -/
def gPutD (i : Nat) (Fi Fe : FE) : FG := fun env => match Fe env with
  | some (d, k, e1) => match (stl d k e1)[i]? with
    | some (.dct _) => match Fi (stl d k e1) with
      | some (dk, _, e2) => match keyOfD dk with
        | some key => match e2[i]? with
          | some (.dct kvs) => if kvs.length < sizeLine then some (.nx (e2.set i (.dct (setKV key d kvs)))) else none
          | _ => none
        | none => none
      | none => none
    | _ => none
  | none => none
/-- x[a] -/
def fGetD (i : Nat) (Fi : FE) : FE := fun env => match env[i]? with
  | some (.dct _) => match Fi env with
    | some (dk, _, e2) => match keyOfD dk with
      | some key => match e2[i]? with
        | some (.dct kvs) => match getKV kvs key with
          | some d => some (d, .st, e2)
          | none => none
        | _ => none
      | none => none
    | none => none
  | _ => none
/-- x.get(a, e) -/
def fGetD2 (i : Nat) (Fi Fe : FE) : FE := fun env => match env[i]? with
  | some (.dct _) => match Fi env with
    | some (dk, _, e2) => match keyOfD dk with
      | some key => match Fe e2 with
        | some (d, .st, e3) => match e3[i]? with
          | some (.dct kvs) => some ((getKV kvs key).getD d, .st, e3)
          | _ => none
        | _ => none
      | none => none
    | none => none
  | _ => none
section
variable {X : Cx} {As : List Nat} {np : Nat} {i j : Nat} {x : Str} {e a : Expr} {F Fi Fe : FE} {p pos pos' p2 dpos : Pos}
theorem ps_newD (hN : X.N.Nodup) (hi : X.N[i]? = some x) (hx : Loc X.env.scope x) (hs : swapsWith (.Dict [] [] dpos) (some (.Name x pos')) pos.line X.env = pure false) (hf : X.fn x = true ∨ X.env.scope.names.lookup x = some .local) (ha : np ≤ i ∨ i ∈ As) :
    PS X (.Assign [.Name x pos'] (.Dict [] [] dpos) pos) (tG X.K As np (gNewD i)) := ps_imp (ps_set hN hi hx pe_dnewK hs hf) fun D σ H h => by
  obtain ⟨vs0, B, R, env, out, hn, ok, z, q⟩ := h
  cases z
  intro p hp
  exact q _ R _ (.refl _ _) (ok.putD hp (by rw [hn]; exact ha))
theorem ps_parD {y : Str} {px py pt : Pos} {kt k2 : Nat} {pt2 : Pos} (hc : X.calm = true) (hN : X.N.Nodup) (hi : X.N[i]? = some x) (hj : X.N[j]? = some y) (hij : i ≠ j) (hx : X.env.scope.names.lookup x = some .local) (hy : X.env.scope.names.lookup y = some .local) (he : PE X e (tF X.K F))
    (hst : starEach [e, .Dict [] [] dpos] X.env = (false, eval e X.env) :: starEach [.Dict [] [] dpos] X.env)
    (hw : swappedStores [.Tuple [.Name x px, .Name y py] kt pt] (.Tuple [e, .Dict [] [] dpos] k2 pt2) X.env = pure (some [x, y])) (hai : np ≤ i ∨ i ∈ As) (haj : np ≤ j ∨ j ∈ As) :
    PS X (.Assign [.Tuple [.Name x px, .Name y py] kt pt] (.Tuple [e, .Dict [] [] dpos] k2 pt2) pos) (tG X.K As np (gParD i j F)) :=
  ps_imp (ps_par hc hN hi hj hij hx hy (pa_cons he (pa_cons pe_dnewK pa_nil rfl) hst) hw) fun D σ H h => by
  obtain ⟨vs0, B, R, env, out, hn, ok, z, q⟩ := h
  unfold gParD at z
  cases h1 : F env with
  | none => rw [h1] at z; cases z
  | some o1 =>
    obtain ⟨d1, k1, e1⟩ := o1
    rw [h1] at z
    dsimp only at z
    cases hp : putS i d1 k1 e1 with
    | none => rw [hp] at z; cases z
    | some e2 =>
      rw [hp] at z
      cases z
      refine ⟨As, vs0, B, R, env, d1, k1, e1, ok, h1, fun v R1 H1 g1 ok1 r1 => ?_⟩
      intro p hpn
      refine ⟨v, .ref p, rfl, ?_⟩
      obtain ⟨R2, g2, ok2⟩ := put_ok ok1 r1 hp (by rw [hn]; exact hai)
      exact q _ R2 _ (g1.trans g2) (ok2.putD hpn (by rw [hn]; exact haj))
theorem ps_putD (hu : X.A.units + 64 < cLine) (hN : X.N[i]? = some x) (hv : Vis X.env.scope x) (hd : (x == ("__debug__" : Str)) = false) (hcd : (x == ("__classdict__" : Str)) = false) (he : PE X e (tF X.K Fe)) (hi : PE X a (tF X.K Fi))
    (hs : swapsWith e (some (.Subscript (.Name x p) a p2)) pos.line X.env = pure false) :
    PS X (.Assign [.Subscript (.Name x p) a p2] e pos) (tG X.K As np (gPutD i Fi Fe)) :=
  ps_imp (ps_dput (by omega) (pe_var hN hv hd hcd) hi he hs) fun D σ H h => by
  obtain ⟨vs0, B, R, env, out, hn, ok, z, q⟩ := h
  unfold gPutD at z
  cases h1 : Fe env with
  | none => rw [h1] at z; cases z
  | some y =>
    obtain ⟨d1, k1, e1⟩ := y
    rw [h1] at z
    dsimp only at z
    split at z
    · rename_i ds0 h0
      split at z
      · rename_i dk k2 e2 h2
        split at z
        · rename_i key hk
          split at z
          · rename_i kvs h3
            split at z
            · rename_i hl
              cases z
              refine ⟨As, vs0, B, R, env, d1, k1, e1, ok, h1, fun v R1 H1 g1 ok1 r1 => ?_⟩
              obtain ⟨R2, g2, ok2, dp⟩ := ok1.stl r1
              obtain ⟨b, ws, eb, hb, _⟩ := dct_slot ok2 h0
              refine ⟨.ref b, eb, As, vs0, B, R2, _, dk, k2, e2, ok2, h2, fun u R3 H3 g3 ok3 r3 => ?_⟩
              obtain ⟨c, us, ec, hc, dpk, _, _⟩ := dct_slot ok3 h3
              rw [eb] at ec
              have : b = c := by simpa using ec
              subst this
              have ek := key_of' (ok3.use r3) hk
              subst ek
              exact ⟨b, _, rfl, .k hc (by rw [dpKV_len dpk]; exact hl), q σ R3 _ ((g1.trans g2).trans g3) (ok3.writeD h3 eb (dpKV_put dpk (dp_le g3.1 _ dp)))⟩
            · cases z
          · cases z
        · cases z
      · cases z
    · cases z
theorem pe_getD (hu : X.A.units + 64 < cLine) (hN : X.N[i]? = some x) (hv : Vis X.env.scope x) (hd : (x == ("__debug__" : Str)) = false) (hcd : (x == ("__classdict__" : Str)) = false) (hi : PE X a (tF X.K Fi)) (hs : NoSl a) :
    PE X (.Subscript (.Name x p) a pos) (tF X.K (fGetD i Fi)) := pe_imp (pe_dget (by omega) (pe_var hN hv hd hcd) hi hs) fun σ H Q h => by
  obtain ⟨As, vs0, B, R, env, d, k, env', ok, z, q⟩ := h
  unfold fGetD at z
  split at z
  · rename_i ds0 h0
    split at z
    · rename_i dk k2 e2 h2
      split at z
      · rename_i key hk
        split at z
        · rename_i kvs h3
          split at z
          · rename_i d' hg
            cases z
            obtain ⟨b, ws, eb, hb, _⟩ := dct_slot ok h0
            refine ⟨.ref b, eb, As, vs0, B, R, _, dk, k2, _, ok, h2, fun u R3 H3 g3 ok3 r3 => ?_⟩
            obtain ⟨c, us, ec, hc, dpk, _, _⟩ := dct_slot ok3 h3
            rw [eb] at ec
            have : b = c := by simpa using ec
            subst this
            have ek := key_of' (ok3.use r3) hk
            subst ek
            rcases dpKV_get (k := key) dpk with ⟨_, h5⟩ | ⟨v, d2, h4, h5, dp⟩
            · rw [hg] at h5; cases h5
            · rw [hg] at h5
              cases h5
              exact ⟨b, v, rfl, by rw [← h4]; exact .k hc, q v R3 H3 g3 ok3 dp⟩
          · cases z
        · cases z
      · cases z
    · cases z
  · cases z
theorem pe_getD2 {apos : Pos} (hu : X.A.units + 64 < cLine) (hN : X.N[i]? = some x) (hv : Vis X.env.scope x) (hd : (x == ("__debug__" : Str)) = false) (hcd : (x == ("__classdict__" : Str)) = false) (hi : PE X a (tF X.K Fi)) (he : PE X e (tF X.K Fe)) (m : M2 X (.Name x p) "get" apos a e pos) :
    PE X (.Call (.Attribute (.Name x p) "get" apos) [a, e] [] pos) (tF X.K (fGetD2 i Fi Fe)) := pe_imp (pe_dget2 (by omega) (pe_var hN hv hd hcd) hi he m) fun σ H Q h => by
  obtain ⟨As, vs0, B, R, env, d, k, env', ok, z, q⟩ := h
  unfold fGetD2 at z
  split at z
  · rename_i ds0 h0
    split at z
    · rename_i dk k2 e2 h2
      split at z
      · rename_i key hk
        split at z
        · rename_i d3 e3 h3
          split at z
          · rename_i kvs h4
            cases z
            obtain ⟨b, ws, eb, hb, _⟩ := dct_slot ok h0
            refine ⟨.ref b, eb, b, rfl, .inl ⟨ws, .inl hb⟩, As, vs0, B, R, _, dk, k2, e2, ok, h2, fun u R3 H3 g3 ok3 r3 => ?_⟩
            have ek := key_of' (ok3.use r3) hk
            subst ek
            refine ⟨As, vs0, B, R3, _, d3, .st, _, ok3, h3, fun w R4 H4 g4 ok4 r4 => ?_⟩
            obtain ⟨c, us, ec, hc, dpk, _, _⟩ := dct_slot ok4 h4
            rw [eb] at ec
            have : b = c := by simpa using ec
            subst this
            refine ⟨_, .k hc, ?_⟩
            rcases dpKV_get (k := key) dpk with ⟨h5, h6⟩ | ⟨v, d2, h5, h6, dp⟩
            · rw [h5]
              rw [h6] at q
              exact q w R4 H4 (g3.trans g4) ok4 r4
            · rw [h5]
              rw [h6] at q
              exact q v R4 H4 (g3.trans g4) ok4 dp
          · cases z
        · cases z
      · cases z
    · cases z
  · cases z
end
end Pt

namespace Pt
open PySem PySem.Spec PyProof.Rows L2
variable [Tb]
/-- a def that makes a lambda: its code object and table -/
def LamT (base : Heap) (mg : Str → Option Value) (fd : FuncData) (qual : Str) : Prop :=
  ∃ c P, fd.code = .ref c ∧ LamX.TabB base mg c P ∧ (P, (qual ++ ".<locals>.") ++ "<lambda>") ∈ Tb.T ∧ ∀ p ∈ Tb.T, p.1 = P → p.2 = (qual ++ ".<locals>.") ++ "<lambda>"
section
variable {P : Program} {w : World} {K : PySem.W.Frag} {mg : Str → Option Value} {base : Heap} {x qual : Str} {params : Arguments} {body : List Stmt} {scope : Scope} {f : Addr} {fd : FuncData}
theorem fn_DT {kws : List (Str × V)} {dvs : List V} {N ps : List Str} {k : Nat} {As : List Nat} {G : FG} (Fn : FunD K x qual params body scope dvs kws f fd) (S : FnScope N ps scope) (hN : ps.length ≤ N.length)
    (hb : ∀ (cdv : Value) (A : Around) (outer : List Env) (s : Shared) (H : Hp) (E : XK), fd.code = cdv → Room k (A.deeper (envOfC qual scope s.heap.objs.size f cdv)) →
      PSs (cxOf (L2.CX P w) P w K mg base N qual scope f cdv A outer s H E).nox body (tG K As ps.length G)) :
    FnOk P w K mg base (L2.CX P w) (k + 1) f fd ps (spD K (fDef N.length ps.length As G)) := by
  obtain ⟨oc, od, dV, kV, doc, pm, an, cdv, ct, osl, rfl, lk, hcd, _, _⟩ := Fn.ex
  exact fn_of lk hcd S (fun vs H Q E h => (def_read hN h).1) fun A outer s H vs Q E hr h => ⟨_, (hb cdv A outer s H E rfl hr).nox, (def_read hN h).2⟩
theorem lamD {CX : CXT} {N : List Str} {A : Around} {outer : List Env} {s : Shared} {H : Hp} {E : XK} {cdv : Value} (L : LamT base mg fd qual) (h : fd.code = cdv) :
    LamD (cxOf CX P w K mg base N qual scope f cdv A outer s H E).nox := by
  obtain ⟨c, P, h1, h2, h3, h4⟩ := L
  exact ⟨c, P, h.symm.trans h1, h2, h3, h4⟩
/-- the def's code object -/
theorem code_of {p : He.Defn} {dvs : List V} {kws : List (Str × V)} (F : FunD K x qual params body scope dvs kws (He.fAd K p) fd) : fd.code = .ref (He.codeOf K p) := by
  obtain ⟨oc, od, dV, kV, doc, pm, an, cdv, ct, osl, e, lk, hcd, _, _⟩ := F.ex
  obtain ⟨c, hc⟩ := He.codeIn_ref hcd
  have h1 : fd.code = .ref c := by rw [e]; exact hc
  rw [He.codeOf_eq lk h1, h1]
theorem lamT1 {K : PySem.W.Frag} {p : He.Defn} {nm : Str} {T : Tb} (hT : T = ⟨[((He.cT K p).2, nm)]⟩) (h : fd.code = .ref (He.codeOf K p)) (hb : LamX.TabB base mg (He.cT K p).1 (He.cT K p).2) (hn : nm = (qual ++ ".<locals>.") ++ "<lambda>") :
    @LamT T base mg fd qual := by
  subst hT
  exact ⟨_, _, h, hb, by subst hn; exact List.mem_singleton.mpr rfl, fun q hq _ => by rw [List.mem_singleton.mp hq, ← hn]⟩
end
end Pt

namespace Sh
open PySem PySem.Spec PyProof.Rows L2 Pt
def G_own_word : FG := (gSeq (gRet 1 (fOne gTuple (fComp [1] (fiSeq (fVar 0)) (bName 1) fTYes (fOne gTuple (fVar 1))))) gSkip)
def F_own_word : FS := fDef 2 1 [] G_own_word
def G_is_cap : FG := (gSeq (gRet 1 (fTwo gIn (fTwo gIx (fVar 0) (fCst (.int 0))) (fTup (faCons (fCst (.str "top")) (faCons (fCst (.str "each")) faNil))))) gSkip)
def F_is_cap : FS := fDef 1 1 [] G_is_cap
def G_caps : FG := (gSeq (gRet 1 (fCall Sh.F_own_word (frVal (fComp [1] (fiSeq (fVar 0)) (bName 1) (fTst (fCall Sh.F_is_cap (frVal (fVar 1) frNil))) (fVar 1)) frNil))) gSkip)
def F_caps : FS := fDef 2 1 [] G_caps
def G_rules_for : FG := (gSeq (gParT [3, 4] (fkCons (fTwo gEq (fTwo gIx (fVar 1) (fCst (.int 0))) (fCst (.str "top"))) (fkCons (fTwo gIx (fVar 1) (fOne gNeg (fCst (.int 1)))) fkNil))) (gSeq (gSet 5 (fLst faNil)) (gSeq (gIfS (fTst (fComp [6] (fiSeq (fVar 0)) (bName 6) (fTAnd (fTst (fTwo gEq (fTwo gIx (fVar 6) (fCst (.int 0))) (fCst (.str "top")))) (fTst (fTwo gLe (fTwo gIx (fVar 6) (fCst (.int 1))) (fVar 4)))) (fVar 6))) (gSeq (gDrop (fApp 5 (fIf (fTst (fVar 3)) (fCst (.int 1)) (fCst (.int 2))))) gSkip) gSkip) (gSeq (gIfS (fTAnd (fTst (fVar 2)) (fTst (fTwo gEq (fTwo gIx (fTwo gIx (fVar 2) (fCst (.int 0))) (fCst (.int 0))) (fCst (.str "top"))))) (gSeq (gIfS (fTAnd (fTst (fVar 3)) (fTst (fTwo gLt (fTwo gIx (fTwo gIx (fVar 2) (fCst (.int 0))) (fCst (.int 1))) (fVar 4)))) (gSeq (gDrop (fApp 5 (fCst (.int 3)))) gSkip) gSkip) (gSeq (gIfS (fTAnd (fTNot (fTst (fVar 3))) (fTst (fTwo gLe (fTwo gIx (fTwo gIx (fVar 2) (fCst (.int 0))) (fCst (.int 1))) (fVar 4)))) (gSeq (gDrop (fApp 5 (fCst (.int 4)))) gSkip) gSkip) gSkip)) gSkip) (gSeq (gIfS (fTst (fTwo gIn (fTup (faCons (fCst (.str "top")) (faCons (fCst (.int 1)) faNil))) (fVar 2))) (gSeq (gDrop (fApp 5 (fCst (.int 5)))) gSkip) gSkip) (gSeq (gRet 3 (fVar 5)) gSkip))))))
def F_rules_for : FS := fDef 7 3 [] G_rules_for
def B0_takes_out : FG := (gSeq (gIfS (fTst (fCall Sh.F_is_cap (frVal (fVar 3) frNil))) (gSeq (gSet 4 (fCall Sh.F_rules_for (frVal (fCall Sh.F_caps (frVal (fSl (fVar 0) foNone (foSome (fVar 2))) frNil)) (frVal (fVar 3) (frVal (fCall Sh.F_caps (frVal (fSl (fVar 0) (foSome (fTwo gAdd (fVar 2) (fCst (.int 1)))) foNone) frNil)) frNil))))) (gSeq (gDrop (fExt 1 (fComp [5] (fiSeq (fVar 4)) (bName 5) fTYes (fTup (faCons (fVar 5) (faCons (fVar 2) faNil)))))) gSkip)) gSkip) gSkip)
def G_takes_out : FG := (gSeq (gSet 1 (fLst faNil)) (gSeq (gFor (fiEnumB (faCons (fVar 0) faNil)) (bTup [2, 3]) B0_takes_out) (gSeq (gRet 1 (fOne gSorted (fVar 1))) gSkip)))
def F_takes_out : FS := fDef 6 1 [] G_takes_out
def G__law_take : FG := (gSeq (gIfS (fTst (fTwo gGt (fTwo gIx (fVar 0) (fCst (.int 0))) (fCst (.int 0)))) (gSeq (gSet 2 (fTwo gMod (fOne gInt (fTwo gIx (fVar 0) (fCst (.int 0)))) (fVar 1))) (gSeq (gSetI 0 (fCst (.int 0)) (fTwo gDiv (fTwo gIx (fVar 0) (fCst (.int 0))) (fVar 1))) (gSeq (gRet 2 (fVar 2)) gSkip))) gSkip) (gSeq (gSetI 0 (fCst (.int 2)) (fTwo gAdd (fTwo gIx (fVar 0) (fCst (.int 2))) (fCst (.int 1)))) (gSeq (gSet 3 (fTwo gMod (fOne gInt (fTwo gMul (fTwo gAdd (fTwo gIx (fVar 0) (fCst (.int 1))) (fTwo gMul (fCst (.int 48271)) (fTwo gIx (fVar 0) (fCst (.int 2))))) (fTwo gAdd (fCst (.int 39373)) (fTwo gIx (fVar 0) (fCst (.int 2)))))) (fCst (.int 2147483647)))) (gSeq (gSet 4 (fTwo gAdd (fTwo gMod (fOne gInt (fVar 3)) (fCst (.int 40009))) (fCst (.int 7)))) (gSeq (gSet 5 (fTwo gMod (fOne gInt (fTwo gMul (fTwo gAdd (fTwo gAdd (fVar 3) (fTwo gIx (fVar 0) (fCst (.int 2)))) (fTwo gDiv (fTwo gIx (fVar 0) (fCst (.int 1))) (fCst (.int 1000003)))) (fVar 4))) (fCst (.int 2147483629)))) (gSeq (gRet 2 (fTwo gMod (fOne gInt (fTwo gDiv (fTwo gMod (fOne gInt (fTwo gAdd (fTwo gMul (fVar 5) (fCst (.int 48271))) (fVar 3))) (fCst (.int 2147483587))) (fCst (.int 64)))) (fVar 1))) gSkip))))))
def F__law_take : FS := fDef 6 2 [] G__law_take
def B0__law_cells : FG := (gSeq (gSet 5 (fTwo gMod (fOne gInt (fVar 3)) (fVar 1))) (gSeq (gSetI 2 (fVar 5) (fTwo gAdd (fTwo gIx (fVar 2) (fVar 5)) (fTwo gMul (fVar 4) (fTwo gAdd (fVar 3) (fCst (.int 2)))))) gSkip))
def G__law_cells : FG := (gSeq (gSet 2 (fOr (fOne gList (fSl (fVar 0) foNone (foSome (fVar 1)))) (fLst (faCons (fCst (.int 0)) faNil)))) (gSeq (gFor (fiEnumB (faCons (fSl (fVar 0) (foSome (fVar 1)) (foSome (fCst (.int 63)))) faNil)) (bTup [3, 4]) B0__law_cells) (gSeq (gRet 2 (fVar 2)) gSkip)))
def F__law_cells : FS := fDef 6 2 [] G__law_cells
def G__law_of : FG := (gSeq (gRet 2 (fTwo gIx (fVar 1) (fCall Sh.F__law_take (frBox (fVar 0) (frVal (fOne gLen (fVar 1)) frNil))))) gSkip)
def F__law_of : FS := fDef 2 2 [] G__law_of
def G__law_lists (S : FS) : FG := (gSeq (gRet 1 (fIf (fTst (fOne (gIsa [.list, .tuple]) (fVar 0))) (fComp [1] (fiSeq (fVar 0)) (bName 1) fTYes (fCall S (frVal (fVar 1) frNil))) (fVar 0))) gSkip)
def F__law_lists : Nat → FS
  | 0 => fDef 2 1 [] gNone
  | m + 1 => fDef 2 1 [] (G__law_lists (F__law_lists m))
def G__law_same (S : FS) : FG := (gSeq (gIfS (fTst (fOne (gIsa [.list, .tuple]) (fVar 1))) (gSeq (gIfS (fTOr (fTst (fTwo gNe (fOne (gIsa [.list]) (fVar 0)) (fOne (gIsa [.list]) (fVar 1)))) (fTst (fTwo gNe (fOne (gIsa [.tuple]) (fVar 0)) (fOne (gIsa [.tuple]) (fVar 1))))) (gSeq (gRet 2 (fCst (.bool false))) gSkip) gSkip) (gSeq (gRet 2 (fAnd (fTwo gEq (fOne gLen (fVar 0)) (fOne gLen (fVar 1))) (fOne gAll (fComp [2, 3] (fiZip (faCons (fVar 0) (faCons (fVar 1) faNil))) (bTup [2, 3]) fTYes (fCall S (frVal (fVar 2) (frVal (fVar 3) frNil))))))) gSkip)) gSkip) (gSeq (gIfS (fTst (fOne (gIsa [.dict]) (fVar 1))) gNone gSkip) (gSeq (gIfS (fTOr (fTst (fOne gIsN (fVar 1))) (fTst (fOne (gIsa [.bool, .str]) (fVar 1)))) (gSeq (gRet 2 (fAnd (fTwo gEq (fVar 0) (fVar 1)) (fAnd (fTwo gEq (fOne (gIsa [.bool]) (fVar 0)) (fOne (gIsa [.bool]) (fVar 1))) (fTwo gEq (fOne gIsN (fVar 0)) (fOne gIsN (fVar 1)))))) gSkip) gSkip) (gSeq (gRet 2 (fAnd (fOne (gIsa [.int]) (fVar 0)) (fAnd (fNotV (fTst (fOne (gIsa [.bool]) (fVar 0)))) (fTwo gEq (fVar 0) (fVar 1))))) gSkip))))
def F__law_same : Nat → FS
  | 0 => fDef 5 2 [] gNone
  | m + 1 => fDef 5 2 [] (G__law_same (F__law_same m))
def B0__law_row : FG := (gSeq (gSet 6 (fCall Sh.F__law_take (frBox (fVar 0) (frVal (fCst (.int 5)) frNil)))) (gSeq (gIfS (fTst (fTwo gEq (fVar 6) (fCst (.int 0)))) (gSeq (gDrop (fApp 4 (fTup (faCons (fCst (.str "floor")) (faCons (fTwo gSub (fCall Sh.F__law_take (frBox (fVar 0) (frVal (fCst (.int 30)) frNil))) (fCst (.int 10))) faNil))))) gSkip) (gSeq (gIfS (fTst (fTwo gEq (fVar 6) (fCst (.int 1)))) (gSeq (gDrop (fApp 4 (fTup (faCons (fCst (.str "near")) (faCons (fCall Sh.F__law_take (frBox (fVar 0) (frVal (fCst (.int 25)) frNil))) faNil))))) gSkip) (gSeq (gIfS (fTOr (fTst (fTwo gEq (fVar 6) (fCst (.int 2)))) (fTst (fTwo gEq (fVar 3) (fLst faNil)))) (gSeq (gDrop (fApp 4 (fTup (faCons (fCst (.str "top")) (faCons (fTwo gAdd (fCst (.int 1)) (fCall Sh.F__law_take (frBox (fVar 0) (frVal (fCst (.int 5)) frNil)))) faNil))))) gSkip) (gSeq (gSet 7 (fCall Sh.F__law_of (frBox (fVar 0) (frVal (fVar 3) frNil)))) (gSeq (gSet 3 (fComp [8] (fiSeq (fVar 3)) (bName 8) (fTst (fTwo gNe (fVar 8) (fVar 7))) (fVar 8))) (gSeq (gDrop (fApp 4 (fTup (faCons (fCst (.str "each")) (faCons (fVar 7) (faCons (fTwo gAdd (fCst (.int 1)) (fCall Sh.F__law_take (frBox (fVar 0) (frVal (fCst (.int 3)) frNil)))) faNil)))))) gSkip)))) gSkip)) gSkip)) gSkip))
def G__law_row : FG := (gSeq (gPar [3, 4] (fkCons (fTwo gRgL (fCst (.int 0)) (fVar 2)) (fkCons (fLst faNil) fkNil))) (gSeq (gFor (fiRng1 (faCons (fCall Sh.F__law_take (frBox (fVar 0) (frVal (fTwo gAdd (fVar 1) (fCst (.int 1))) frNil))) faNil)) (bName 5) B0__law_row) (gSeq (gRet 3 (fOne gTuple (fVar 4))) gSkip)))
def F__law_row : FS := fDef 9 3 [] G__law_row
def B0__law_rules : FG := (gSeq (gIfS (fTst (fTwo gNe (fComp [4] (fiSeq (fSl (fVar 0) foNone (foSome (fVar 2)))) (bName 4) (fTAnd (fTst (fTwo gEq (fTwo gIx (fVar 4) (fCst (.int 0))) (fCst (.str "top")))) (fTst (fTwo gLe (fTwo gIx (fVar 4) (fCst (.int 1))) (fTwo gIx (fVar 3) (fOne gNeg (fCst (.int 1))))))) (fVar 4)) (fLst faNil))) (gSeq (gDrop (fApp 1 (fTup (faCons (fIf (fTst (fTwo gEq (fTwo gIx (fVar 3) (fCst (.int 0))) (fCst (.str "top")))) (fCst (.int 1)) (fCst (.int 2))) (faCons (fVar 2) faNil))))) gSkip) gSkip) (gSeq (gSet 5 (fSl (fVar 0) (foSome (fTwo gAdd (fVar 2) (fCst (.int 1)))) (foSome (fTwo gAdd (fVar 2) (fCst (.int 2)))))) (gSeq (gIfS (fTAnd (fTst (fTwo gNe (fVar 5) (fTup faNil))) (fTst (fTwo gEq (fTwo gIx (fTwo gIx (fVar 5) (fCst (.int 0))) (fCst (.int 0))) (fCst (.str "top"))))) (gSeq (gSet 6 (fTwo gIx (fTwo gIx (fVar 5) (fCst (.int 0))) (fCst (.int 1)))) (gSeq (gSet 1 (fTwo gAdd (fVar 1) (fTwo gMulL (fLst (faCons (fTup (faCons (fCst (.int 3)) (faCons (fVar 2) faNil))) faNil)) (fOne gInt (fAnd (fTwo gEq (fTwo gIx (fVar 3) (fCst (.int 0))) (fCst (.str "top"))) (fTwo gLt (fVar 6) (fTwo gIx (fVar 3) (fOne gNeg (fCst (.int 1)))))))))) (gSeq (gSet 1 (fTwo gAdd (fVar 1) (fTwo gMulL (fLst (faCons (fTup (faCons (fCst (.int 4)) (faCons (fVar 2) faNil))) faNil)) (fOne gInt (fAnd (fTwo gEq (fTwo gIx (fVar 3) (fCst (.int 0))) (fCst (.str "each"))) (fTwo gLe (fVar 6) (fTwo gIx (fVar 3) (fOne gNeg (fCst (.int 1)))))))))) gSkip))) gSkip) (gSeq (gSet 1 (fTwo gAdd (fVar 1) (fTwo gMulL (fLst (faCons (fTup (faCons (fCst (.int 5)) (faCons (fVar 2) faNil))) faNil)) (fOne gInt (fTwo gIn (fTup (faCons (fCst (.str "top")) (faCons (fCst (.int 1)) faNil))) (fSl (fVar 0) (foSome (fTwo gAdd (fVar 2) (fCst (.int 1)))) foNone)))))) gSkip))))
def G__law_rules : FG := (gSeq (gSet 1 (fLst faNil)) (gSeq (gFor (fiEnumB (faCons (fVar 0) faNil)) (bTup [2, 3]) B0__law_rules) (gSeq (gRet 1 (fVar 1)) gSkip)))
def F__law_rules : FS := fDef 7 1 [] G__law_rules
def G_floor_of : FG := (gSeq (gRet 1 (fTwo (gMM true) (fComp [1] (fiSeq (fVar 0)) (bName 1) (fTst (fTwo gEq (fTwo gIx (fVar 1) (fCst (.int 0))) (fCst (.str "floor")))) (fTwo gIx (fVar 1) (fCst (.int 1)))) (fCst .none))) gSkip)
def F_floor_of : FS := fDef 2 1 [] G_floor_of
def G_near_of : FG := (gSeq (gRet 1 (fTwo (gMM false) (fComp [1] (fiSeq (fVar 0)) (bName 1) (fTst (fTwo gEq (fTwo gIx (fVar 1) (fCst (.int 0))) (fCst (.str "near")))) (fTwo gIx (fVar 1) (fCst (.int 1)))) (fCst .none))) gSkip)
def F_near_of : FS := fDef 2 1 [] G_near_of
def G_without_step : FG := (gSeq (gIfS (fTNot (fTst (fChain gLe gLt (fCst (.int 0)) (fVar 1) (fOne gLen (fVar 0))))) (gSeq gNone gSkip) gSkip) (gSeq (gSet 2 (fCall Sh.F_own_word (frVal (fVar 0) frNil))) (gSeq (gRet 2 (fTwo gAdd (fSl (fVar 2) foNone (foSome (fVar 1))) (fSl (fVar 2) (foSome (fTwo gAdd (fVar 1) (fCst (.int 1)))) foNone))) gSkip)))
def F_without_step : FS := fDef 3 2 [] G_without_step
def B0_caps_left : FG := (gSeq (gSet 1 (fCall Sh.F_without_step (frVal (fVar 1) (frVal (fTwo gIx (fTwo gIx (fVar 2) (fCst (.int 0))) (fCst (.int 1))) frNil)))) (gSeq (gSet 2 (fCall Sh.F_takes_out (frVal (fVar 1) frNil))) gSkip))
def G_caps_left : FG := (gSeq (gSet 1 (fCall Sh.F_caps (frVal (fVar 0) frNil))) (gSeq (gSet 2 (fCall Sh.F_takes_out (frVal (fVar 1) frNil))) (gSeq (whileL (fTst (fVar 2)) B0_caps_left 64) (gSeq (gRet 1 (fVar 1)) gSkip))))
def F_caps_left : FS := fDef 3 1 [] G_caps_left
def G_reduced : FG := (gSeq (gSet 1 (fCall Sh.F_caps_left (frVal (fVar 0) frNil))) (gSeq (gSet 2 (fLst faNil)) (gSeq (gIfS (fTst (fOne gNotN (fCall Sh.F_floor_of (frVal (fVar 0) frNil)))) (gSeq (gDrop (fApp 2 (fTup (faCons (fCst (.str "floor")) (faCons (fCall Sh.F_floor_of (frVal (fVar 0) frNil)) faNil))))) gSkip) gSkip) (gSeq (gIfS (fTAnd (fTst (fOne gNotN (fCall Sh.F_near_of (frVal (fVar 0) frNil)))) (fTst (fTwo gNotIn (fTup (faCons (fCst (.str "top")) (faCons (fCst (.int 1)) faNil))) (fVar 1)))) (gSeq (gDrop (fApp 2 (fTup (faCons (fCst (.str "near")) (faCons (fCall Sh.F_near_of (frVal (fVar 0) frNil)) faNil))))) gSkip) gSkip) (gSeq (gRet 1 (fTwo gAdd (fOne gTuple (fVar 2)) (fVar 1))) gSkip)))))
def F_reduced : FS := fDef 3 1 [] G_reduced
def G_is_reduced : FG := (gSeq (gRet 1 (fTwo gEq (fCall Sh.F_reduced (frVal (fVar 0) frNil)) (fCall Sh.F_own_word (frVal (fVar 0) frNil)))) gSkip)
def F_is_reduced : FS := fDef 1 1 [] G_is_reduced
def B0__law_reduced : FG := (gSeq (gSet 4 (fOne (gMM1 true) (fComp [5] (fiSeq (fVar 3)) (bName 5) fTYes (fTwo gIx (fVar 5) (fCst (.int 1)))))) (gSeq (gSet 1 (fTwo gAdd (fSl (fVar 1) foNone (foSome (fVar 4))) (fSl (fVar 1) (foSome (fTwo gAdd (fVar 4) (fCst (.int 1)))) foNone))) (gSeq (gSet 3 (fCall Sh.F__law_rules (frVal (fVar 1) frNil))) gSkip)))
def G__law_reduced : FG := (gSeq (gSet 1 (fOne gTuple (fComp [2] (fiSeq (fVar 0)) (bName 2) (fTst (fTwo gIn (fTwo gIx (fVar 2) (fCst (.int 0))) (fTup (faCons (fCst (.str "top")) (faCons (fCst (.str "each")) faNil))))) (fVar 2)))) (gSeq (gSet 3 (fCall Sh.F__law_rules (frVal (fVar 1) frNil))) (gSeq (whileL (fTst (fTwo gNe (fVar 3) (fLst faNil))) B0__law_reduced 64) (gSeq (gSet 6 (fTup faNil)) (gSeq (gSet 7 (fComp [2] (fiSeq (fVar 0)) (bName 2) (fTst (fTwo gEq (fTwo gIx (fVar 2) (fCst (.int 0))) (fCst (.str "floor")))) (fTwo gIx (fVar 2) (fCst (.int 1))))) (gSeq (gIfS (fTst (fTwo gNe (fVar 7) (fLst faNil))) (gSeq (gSet 6 (fTup (faCons (fTup (faCons (fCst (.str "floor")) (faCons (fOne (gMM1 true) (fVar 7)) faNil))) faNil))) gSkip) gSkip) (gSeq (gSet 8 (fComp [2] (fiSeq (fVar 0)) (bName 2) (fTst (fTwo gEq (fTwo gIx (fVar 2) (fCst (.int 0))) (fCst (.str "near")))) (fTwo gIx (fVar 2) (fCst (.int 1))))) (gSeq (gIfS (fTAnd (fTst (fTwo gNe (fVar 8) (fLst faNil))) (fTst (fTwo gNotIn (fTup (faCons (fCst (.str "top")) (faCons (fCst (.int 1)) faNil))) (fVar 1)))) (gSeq (gSet 6 (fTwo gAdd (fVar 6) (fTup (faCons (fTup (faCons (fCst (.str "near")) (faCons (fOne (gMM1 false) (fVar 8)) faNil))) faNil)))) gSkip) gSkip) (gSeq (gRet 1 (fTwo gAdd (fVar 6) (fVar 1))) gSkip)))))))))
def F__law_reduced : FS := fDef 9 1 [] G__law_reduced
def B0_barred_at : FG := (gSeq (gIfS (fTAnd (fTst (fCall Sh.F_is_cap (frVal (fTwo gIx (fVar 1) (fVar 2)) frNil))) (fTst (fTwo gEq (fTwo gIx (fTwo gIx (fVar 1) (fVar 3)) (fCst (.int 0))) (fCst (.str "each"))))) (gSeq (gRet 1 (fTup (faCons (fVar 2) (faCons (fVar 3) faNil)))) gSkip) gSkip) gSkip)
def B1_barred_at : FG := (gSeq (gFor (fiRng2 (faCons (fTwo gAdd (fVar 2) (fCst (.int 1))) (faCons (fOne gLen (fVar 1)) faNil))) (bName 3) B0_barred_at) gSkip)
def G_barred_at : FG := (gSeq (gSet 1 (fCall Sh.F_reduced (frVal (fVar 0) frNil))) (gSeq (gFor (fiRng1 (faCons (fOne gLen (fVar 1)) faNil)) (bName 2) B1_barred_at) (gSeq (gRet 1 (fCst .none)) gSkip)))
def F_barred_at : FS := fDef 4 1 [] G_barred_at
def G_may_be_parted : FG := (gSeq (gRet 1 (fOne gIsN (fCall Sh.F_barred_at (frVal (fVar 0) frNil)))) gSkip)
def F_may_be_parted : FS := fDef 1 1 [] G_may_be_parted
def G_kinds_in : FG := (gSeq (gRet 1 (fOne gTuple (fComp [1] (fiSeq (fVar 0)) (bName 1) (fTst (fTwo gEq (fTwo gIx (fVar 1) (fCst (.int 0))) (fCst (.str "each")))) (fTwo gIx (fVar 1) (fCst (.int 1)))))) gSkip)
def F_kinds_in : FS := fDef 2 1 [] G_kinds_in
def G_kinds_needed : FG := (gSeq (gRet 1 (fTwo gAdd (fTwo (gMM true) (fCall Sh.F_kinds_in (frVal (fVar 0) frNil)) (fOne gNeg (fCst (.int 1)))) (fCst (.int 1)))) gSkip)
def F_kinds_needed : FS := fDef 1 1 [] G_kinds_needed
def G_raised_step : FG := (gSeq (gIfS (fTst (fTwo gEq (fTwo gIx (fVar 0) (fCst (.int 0))) (fCst (.str "floor")))) (gSeq (gRet 2 (fTup (faCons (fCst (.str "floor")) (faCons (fTwo gAdd (fTwo gIx (fVar 0) (fCst (.int 1))) (fVar 1)) faNil)))) gSkip) gSkip) (gSeq (gRet 2 (fOne gTuple (fVar 0))) gSkip))
def F_raised_step : FS := fDef 2 2 [] G_raised_step
def G_raised_word : FG := (gSeq (gRet 2 (fOne gTuple (fComp [2] (fiSeq (fVar 0)) (bName 2) fTYes (fCall Sh.F_raised_step (frVal (fVar 2) (frVal (fVar 1) frNil)))))) gSkip)
def F_raised_word : FS := fDef 3 2 [] G_raised_word
def G_turned_step : FG := (gSeq (gIfS (fTst (fTwo gEq (fTwo gIx (fVar 0) (fCst (.int 0))) (fCst (.str "each")))) (gSeq (gRet 2 (fTup (faCons (fCst (.str "each")) (faCons (fTwo gIx (fVar 1) (fTwo gIx (fVar 0) (fCst (.int 1)))) (faCons (fTwo gIx (fVar 0) (fCst (.int 2))) faNil))))) gSkip) gSkip) (gSeq (gRet 2 (fOne gTuple (fVar 0))) gSkip))
def F_turned_step : FS := fDef 2 2 [] G_turned_step
def G_turned_kinds : FG := (gSeq (gRet 2 (fOne gTuple (fComp [2] (fiSeq (fVar 0)) (bName 2) fTYes (fCall Sh.F_turned_step (frVal (fVar 2) (frVal (fVar 1) frNil)))))) gSkip)
def F_turned_kinds : FS := fDef 3 2 [] G_turned_kinds
def G_is_number : FG := (gSeq (gRet 1 (fAnd (fOne (gIsa [.int]) (fVar 0)) (fNotV (fTst (fOne (gIsa [.bool]) (fVar 0)))))) gSkip)
def F_is_number : FS := fDef 1 1 [] G_is_number
def G_is_step : FG := (gSeq (gIfS (fTNot (fTAnd (fTst (fOne (gIsa [.tuple]) (fVar 0))) (fTst (fOne gAll (fComp [1] (fiSeq (fSl (fVar 0) (foSome (fCst (.int 1))) foNone)) (bName 1) fTYes (fCall Sh.F_is_number (frVal (fVar 1) frNil))))))) (gSeq (gRet 1 (fCst (.bool false))) gSkip) gSkip) (gSeq (gIfS (fTst (fTwo gEq (fOne gLen (fVar 0)) (fCst (.int 3)))) (gSeq (gRet 1 (fAnd (fTwo gEq (fTwo gIx (fVar 0) (fCst (.int 0))) (fCst (.str "each"))) (fAnd (fChain gLe gLe (fCst (.int 0)) (fTwo gIx (fVar 0) (fCst (.int 1))) (fCst (.int 2))) (fTwo gGe (fTwo gIx (fVar 0) (fCst (.int 2))) (fCst (.int 1)))))) gSkip) gSkip) (gSeq (gIfS (fTst (fTwo gNe (fOne gLen (fVar 0)) (fCst (.int 2)))) (gSeq (gRet 1 (fCst (.bool false))) gSkip) gSkip) (gSeq (gAsgT [2, 1] (fVar 0)) (gSeq (gRet 1 (fOr (fTwo gEq (fVar 2) (fCst (.str "floor"))) (fOr (fAnd (fTwo gEq (fVar 2) (fCst (.str "near"))) (fTwo gGe (fVar 1) (fCst (.int 0)))) (fAnd (fTwo gEq (fVar 2) (fCst (.str "top"))) (fTwo gGe (fVar 1) (fCst (.int 1))))))) gSkip)))))
def F_is_step : FS := fDef 3 1 [] G_is_step
def G_is_word : FG := (gSeq (gIfS (fTNot (fTAnd (fTst (fOne (gIsa [.tuple]) (fVar 0))) (fTst (fOne gAll (fComp [1] (fiSeq (fVar 0)) (bName 1) fTYes (fCall Sh.F_is_step (frVal (fVar 1) frNil))))))) (gSeq (gRet 1 (fCst (.bool false))) gSkip) gSkip) (gSeq (gRet 1 (fTwo gEq (fOne gLS (fCall Sh.F_kinds_in (frVal (fVar 0) frNil))) (fOne gLen (fCall Sh.F_kinds_in (frVal (fVar 0) frNil))))) gSkip))
def F_is_word : FS := fDef 2 1 [] G_is_word
def G_name_set : FG := (gSeq (gRet 1 (fOne gTuple (fOne gSorted (fComp [1] (fiSeq (fVar 0)) (bName 1) fTYes (fTwo gIx (fVar 1) (fCst (.int 0))))))) gSkip)
def F_name_set : FS := fDef 2 1 [] G_name_set
def G_kinds : FG := (gSeq (gIfS (fTNot (fTst (fVar 0))) (gSeq (gRet 1 (fCst (.int 0))) gSkip) gSkip) (gSeq (gRet 1 (fOne gLen (fTwo gIx (fTwo gIx (fVar 0) (fCst (.int 0))) (fCst (.int 2))))) gSkip))
def F_kinds : FS := fDef 1 1 [] G_kinds
def G_ranked : FG := (gSeq (gRet 1 (fOne gRank (fVar 0))) gSkip)
def F_ranked : FS := fDef 1 1 [] G_ranked
def B0_check_kinds : FG := (gSeq (gIfS (fTAnd (fTst (fVar 0)) (fTst (fTwo gGe (fVar 2) (fCall Sh.F_kinds (frVal (fVar 0) frNil))))) (gSeq gNone gSkip) gSkip) gSkip)
def G_check_kinds : FG := (gSeq (gFor (fiSeq (fCall Sh.F_kinds_in (frVal (fVar 1) frNil))) (bName 2) B0_check_kinds) gSkip)
def F_check_kinds : FS := fDef 3 2 [] G_check_kinds
def B0_best_of_each : FG := (gSeq (gSet 6 (fTwo gIx (fTwo gIx (fVar 5) (fCst (.int 2))) (fVar 1))) (gSeq (gPutD 3 (fVar 6) (fTwo gAdd (fGetD2 3 (fVar 6) (fCst (.int 0))) (fCst (.int 1)))) (gSeq (gIfS (fTst (fTwo gLe (fGetD 3 (fVar 6)) (fVar 2))) (gSeq (gDrop (fApp 4 (fVar 5))) gSkip) gSkip) gSkip)))
def G_best_of_each : FG := (gSeq (gNewD 3) (gSeq (gSet 4 (fLst faNil)) (gSeq (gFor (fiSeq (fVar 0)) (bName 5) B0_best_of_each) (gSeq (gRet 3 (fVar 4)) gSkip))))
def F_best_of_each : FS := fDef 7 3 [] G_best_of_each
def G_left_by : FG := (gSeq (gIfS (fTst (fTwo gEq (fTwo gIx (fVar 1) (fCst (.int 0))) (fCst (.str "floor")))) (gSeq (gRet 2 (fComp [2] (fiSeq (fVar 0)) (bName 2) (fTst (fTwo gGe (fTwo gIx (fVar 2) (fCst (.int 1))) (fTwo gIx (fVar 1) (fCst (.int 1))))) (fVar 2))) gSkip) gSkip) (gSeq (gIfS (fTst (fTwo gEq (fTwo gIx (fVar 1) (fCst (.int 0))) (fCst (.str "near")))) (gSeq (gRet 2 (fComp [2] (fiSeq (fVar 0)) (bName 2) (fTst (fTwo gLe (fTwo gSub (fTwo gIx (fTwo gIx (fVar 0) (fCst (.int 0))) (fCst (.int 1))) (fTwo gIx (fVar 2) (fCst (.int 1)))) (fTwo gIx (fVar 1) (fCst (.int 1))))) (fVar 2))) gSkip) gSkip) (gSeq (gIfS (fTst (fTwo gEq (fTwo gIx (fVar 1) (fCst (.int 0))) (fCst (.str "each")))) (gSeq (gRet 2 (fCall Sh.F_best_of_each (frVal (fVar 0) (frVal (fTwo gIx (fVar 1) (fCst (.int 1))) (frVal (fTwo gIx (fVar 1) (fCst (.int 2))) frNil))))) gSkip) gSkip) (gSeq (gRet 2 (fSl (fVar 0) foNone (foSome (fTwo gIx (fVar 1) (fCst (.int 1)))))) gSkip))))
def F_left_by : FS := fDef 3 2 [] G_left_by
def B0_ranks_along : FG := (gSeq (gDrop (fApp 2 (fCall Sh.F_left_by (frVal (fTwo gIx (fVar 2) (fOne gNeg (fCst (.int 1)))) (frVal (fVar 3) frNil))))) gSkip)
def G_ranks_along : FG := (gSeq (gDrop (fCall Sh.F_check_kinds (frVal (fVar 0) (frVal (fVar 1) frNil)))) (gSeq (gSet 2 (fLst (faCons (fCall Sh.F_ranked (frVal (fVar 0) frNil)) faNil))) (gSeq (gFor (fiSeq (fVar 1)) (bName 3) B0_ranks_along) (gSeq (gRet 2 (fVar 2)) gSkip))))
def F_ranks_along : FS := fDef 4 2 [] G_ranks_along
def G_picked : FG := (gSeq (gRet 2 (fCall Sh.F_name_set (frVal (fTwo gIx (fCall Sh.F_ranks_along (frVal (fVar 0) (frVal (fVar 1) frNil))) (fOne gNeg (fCst (.int 1)))) frNil))) gSkip)
def F_picked : FS := fDef 2 2 [] G_picked
def B0__law_goods : FG := (gSeq (gDrop (fApp 10 (fTup (faCons (fVar 8) (faCons (fTwo gIx (fVar 7) (fVar 11)) (faCons (fOne gTuple (fComp [12] (fiRng1 (faCons (fVar 2) faNil)) (bName 12) fTYes (fCall Sh.F__law_of (frBox (fVar 0) (frVal (fVar 9) frNil))))) faNil)))))) gSkip)
def G__law_goods : FG := (gSeq (gSet 4 (fSl (fComp [5] (fiSeq (fCst (.str "abcdefghijkl"))) (bName 5) fTYes (fTwo gAdd (fCst (.str "r")) (fVar 5))) foNone (foSome (fCall Sh.F__law_take (frBox (fVar 0) (frVal (fTwo gAdd (fVar 1) (fCst (.int 1))) frNil)))))) (gSeq (gSet 6 (fCall Sh.F__law_of (frBox (fVar 0) (frVal (fLst (faCons (fCst (.int 4)) (faCons (fCst (.int 12)) (faCons (fCst (.int 40)) faNil)))) frNil)))) (gSeq (gSet 7 (fComp [8] (fiSeq (fVar 4)) (bName 8) fTYes (fTwo gSub (fCall Sh.F__law_take (frBox (fVar 0) (frVal (fVar 6) frNil))) (fCst (.int 3))))) (gSeq (gSet 9 (fSl (fComp [5] (fiSeq (fCst (.str "abcdef"))) (bName 5) fTYes (fTwo gAdd (fVar 5) (fCst (.str "x")))) foNone (foSome (fVar 3)))) (gSeq (gSet 10 (fLst faNil)) (gSeq (gFor (fiEnumB (faCons (fVar 4) faNil)) (bTup [11, 8]) B0__law_goods) (gSeq (gRet 4 (fOne gTuple (fVar 10))) gSkip)))))))
def F__law_goods : FS := fDef 13 4 [] G__law_goods
def B0__law_step : FG := (gSeq (gSet 7 (fTwo gIx (fTwo gIx (fVar 3) (fCst (.int 2))) (fTwo gIx (fVar 1) (fCst (.int 1))))) (gSeq (gPutD 5 (fVar 7) (fTwo gAdd (fGetD2 5 (fVar 7) (fCst (.int 0))) (fCst (.int 1)))) (gSeq (gIfS (fTst (fTwo gLe (fGetD 5 (fVar 7)) (fTwo gIx (fVar 1) (fCst (.int 2))))) (gSeq (gDrop (fApp 4 (fVar 3))) gSkip) gSkip) gSkip)))
def G__law_step : FG := (gSeq (gSet 2 (fOne gSorted (fComp [3] (fiSeq (fVar 0)) (bName 3) fTYes (fTup (faCons (fOne gNeg (fTwo gIx (fVar 3) (fCst (.int 1)))) (faCons (fVar 3) faNil)))))) (gSeq (gIfS (fTst (fTwo gEq (fTwo gIx (fVar 1) (fCst (.int 0))) (fCst (.str "floor")))) (gSeq (gRet 2 (fComp [3] (fiSeq (fVar 0)) (bName 3) (fTst (fTwo gGe (fTwo gIx (fVar 3) (fCst (.int 1))) (fTwo gIx (fVar 1) (fCst (.int 1))))) (fVar 3))) gSkip) gSkip) (gSeq (gIfS (fTst (fTwo gEq (fTwo gIx (fVar 1) (fCst (.int 0))) (fCst (.str "near")))) (gSeq (gRet 2 (fComp [3] (fiSeq (fVar 0)) (bName 3) (fTst (fTwo gLe (fTwo gSub (fOne gNeg (fTwo gIx (fTwo gIx (fVar 2) (fCst (.int 0))) (fCst (.int 0)))) (fTwo gIx (fVar 3) (fCst (.int 1)))) (fTwo gIx (fVar 1) (fCst (.int 1))))) (fVar 3))) gSkip) gSkip) (gSeq (gIfS (fTst (fTwo gEq (fTwo gIx (fVar 1) (fCst (.int 0))) (fCst (.str "top")))) (gSeq (gRet 2 (fOne gSorted (fComp [3] (fiSeq (fSl (fVar 2) foNone (foSome (fTwo gIx (fVar 1) (fCst (.int 1)))))) (bName 3) fTYes (fTwo gIx (fVar 3) (fCst (.int 1)))))) gSkip) gSkip) (gSeq (gParD 4 5 (fLst faNil)) (gSeq (gFor (fiSeq (fVar 2)) (bTup [6, 3]) B0__law_step) (gSeq (gRet 2 (fOne gSorted (fVar 4))) gSkip)))))))
def F__law_step : FS := fDef 8 2 [] G__law_step
def B0__law_left : FG := (gSeq (gSet 2 (fIf (fTst (fTwo gNe (fVar 2) (fLst faNil))) (fCall Sh.F__law_step (frVal (fVar 2) (frVal (fVar 3) frNil))) (fLst faNil))) gSkip)
def G__law_left : FG := (gSeq (gSet 2 (fOne gList (fVar 0))) (gSeq (gFor (fiSeq (fVar 1)) (bName 3) B0__law_left) (gSeq (gRet 2 (fVar 2)) gSkip)))
def F__law_left : FS := fDef 4 2 [] G__law_left
def G__law_picked : FG := (gSeq (gRet 2 (fOne gTuple (fComp [2] (fiSeq (fCall Sh.F__law_left (frVal (fVar 0) (frVal (fVar 1) frNil)))) (bName 2) fTYes (fTwo gIx (fVar 2) (fCst (.int 0)))))) gSkip)
def F__law_picked : FS := fDef 3 2 [] G__law_picked
def G_names_of : FG := (gSeq (gRet 1 (fOne gTuple (fComp [1] (fiSeq (fVar 0)) (bName 1) fTYes (fTwo gIx (fVar 1) (fCst (.int 0)))))) gSkip)
def F_names_of : FS := fDef 2 1 [] G_names_of
def B0_hit_of : FG := (gSeq (gIfS (fTst (fTwo gEq (fTwo gIx (fVar 2) (fCst (.int 0))) (fVar 1))) (gSeq (gRet 2 (fVar 2)) gSkip) gSkip) gSkip)
def G_hit_of : FG := (gSeq (gFor (fiSeq (fVar 0)) (bName 2) B0_hit_of) (gSeq gNone gSkip))
def F_hit_of : FS := fDef 3 2 [] G_hit_of
def G_own_hits : FG := (gSeq (gRet 1 (fOne gTuple (fComp [1, 2, 3] (fiSeq (fVar 0)) (bTup [1, 2, 3]) fTYes (fTup (faCons (fVar 1) (faCons (fVar 2) (faCons (fOne gTuple (fVar 3)) faNil))))))) gSkip)
def F_own_hits : FS := fDef 4 1 [] G_own_hits
def B0_part_of : FG := (gSeq (gDrop (fCall Sh.F_hit_of (frVal (fVar 0) (frVal (fVar 2) frNil)))) gSkip)
def G_part_of : FG := (gSeq (gFor (fiSeq (fVar 1)) (bName 2) B0_part_of) (gSeq (gRet 2 (fCall Sh.F_own_hits (frVal (fComp [3] (fiSeq (fVar 0)) (bName 3) (fTst (fTwo gIn (fTwo gIx (fVar 3) (fCst (.int 0))) (fVar 1))) (fVar 3)) frNil))) gSkip))
def F_part_of : FS := fDef 4 2 [] G_part_of
def G_raised : FG := (gSeq (gRet 2 (fCall Sh.F_own_hits (frVal (fComp [2, 3, 4] (fiSeq (fVar 0)) (bTup [2, 3, 4]) fTYes (fTup (faCons (fVar 2) (faCons (fTwo gAdd (fVar 3) (fVar 1)) (faCons (fVar 4) faNil))))) frNil))) gSkip)
def F_raised : FS := fDef 5 2 [] G_raised
def G_page : FG := (gSeq (gRet 2 (fCall Sh.F_names_of (frVal (fTwo gIx (fCall Sh.F_ranks_along (frVal (fVar 0) (frVal (fVar 1) frNil))) (fOne gNeg (fCst (.int 1)))) frNil))) gSkip)
def F_page : FS := fDef 2 2 [] G_page
def G_left_along : FG := (gSeq (gRet 2 (fComp [2] (fiSeq (fSl (fCall Sh.F_ranks_along (frVal (fVar 0) (frVal (fVar 1) frNil))) (foSome (fCst (.int 1))) foNone)) (bName 2) fTYes (fCall Sh.F_name_set (frVal (fVar 2) frNil)))) gSkip)
def F_left_along : FS := fDef 3 2 [] G_left_along
def G_labels_of : FG := (gSeq (gRet 2 (fOne gTuple (fTwo gIx (fCall Sh.F_hit_of (frVal (fVar 0) (frVal (fVar 1) frNil))) (fCst (.int 2))))) gSkip)
def F_labels_of : FS := fDef 2 2 [] G_labels_of
def G_with_hit : FG := (gSeq (gIfS (fTst (fTwo gIn (fVar 1) (fCall Sh.F_names_of (frVal (fVar 0) frNil)))) (gSeq gNone gSkip) gSkip) (gSeq (gRet 4 (fOne gTuple (fOne gSorted (fTwo gAdd (fCall Sh.F_own_hits (frVal (fVar 0) frNil)) (fTup (faCons (fTup (faCons (fVar 1) (faCons (fVar 2) (faCons (fOne gTuple (fVar 3)) faNil)))) faNil)))))) gSkip))
def F_with_hit : FS := fDef 4 4 [] G_with_hit
def G_without_hit : FG := (gSeq (gDrop (fCall Sh.F_hit_of (frVal (fVar 0) (frVal (fVar 1) frNil)))) (gSeq (gRet 2 (fCall Sh.F_own_hits (frVal (fComp [2] (fiSeq (fVar 0)) (bName 2) (fTst (fTwo gNe (fTwo gIx (fVar 2) (fCst (.int 0))) (fVar 1))) (fVar 2)) frNil))) gSkip))
def F_without_hit : FS := fDef 3 2 [] G_without_hit
def B0_best_left_out : FG := (gSeq (gIfS (fTst (fTwo gNotIn (fVar 3) (fTwo gIx (fVar 2) (fOne gNeg (fCst (.int 1)))))) (gSeq (gRet 2 (fTwo gIx (fVar 3) (fCst (.int 0)))) gSkip) gSkip) gSkip)
def G_best_left_out : FG := (gSeq (gSet 2 (fCall Sh.F_ranks_along (frVal (fVar 0) (frVal (fVar 1) frNil)))) (gSeq (gFor (fiSeq (fTwo gIx (fVar 2) (fCst (.int 0)))) (bName 3) B0_best_left_out) (gSeq (gRet 2 (fCst .none)) gSkip)))
def F_best_left_out : FS := fDef 4 2 [] G_best_left_out
def B0_goes_at : FG := (gSeq (gIfS (fTst (fTwo gNotIn (fVar 2) (fVar 5))) (gSeq (gRet 3 (fVar 4)) gSkip) gSkip) gSkip)
def G_goes_at : FG := (gSeq (gSet 3 (fCall Sh.F_left_along (frVal (fVar 0) (frVal (fVar 1) frNil)))) (gSeq (gDrop (fCall Sh.F_hit_of (frVal (fVar 0) (frVal (fVar 2) frNil)))) (gSeq (gFor (fiEnumB (faCons (fVar 3) faNil)) (bTup [4, 5]) B0_goes_at) (gSeq (gRet 3 (fCst .none)) gSkip))))
def F_goes_at : FS := fDef 6 3 [] G_goes_at
def G_barred_by : FG := (gSeq (gSet 3 (fCall Sh.F_goes_at (frVal (fVar 0) (frVal (fVar 1) (frVal (fVar 2) frNil))))) (gSeq (gIfS (fTOr (fTst (fOne gIsN (fVar 3))) (fTst (fTwo gEq (fTwo gIx (fTwo gIx (fVar 1) (fVar 3)) (fCst (.int 0))) (fCst (.str "floor"))))) (gSeq (gRet 3 (fTup faNil)) gSkip) gSkip) (gSeq (gSet 4 (fCall Sh.F_ranks_along (frVal (fVar 0) (frVal (fVar 1) frNil)))) (gSeq (gIfS (fTst (fTwo gEq (fTwo gIx (fTwo gIx (fVar 1) (fVar 3)) (fCst (.int 0))) (fCst (.str "near")))) (gSeq (gRet 3 (fCall Sh.F_names_of (frVal (fSl (fTwo gIx (fVar 4) (fVar 3)) foNone (foSome (fCst (.int 1)))) frNil))) gSkip) gSkip) (gSeq (gIfS (fTst (fTwo gEq (fTwo gIx (fTwo gIx (fVar 1) (fVar 3)) (fCst (.int 0))) (fCst (.str "top")))) (gSeq (gRet 3 (fCall Sh.F_name_set (frVal (fTwo gIx (fVar 4) (fTwo gAdd (fVar 3) (fCst (.int 1)))) frNil))) gSkip) gSkip) (gSeq (gSet 5 (fTwo gIx (fTwo gIx (fVar 1) (fVar 3)) (fCst (.int 1)))) (gSeq (gSet 6 (fTwo gIx (fCall Sh.F_labels_of (frVal (fVar 0) (frVal (fVar 2) frNil))) (fVar 5))) (gSeq (gRet 3 (fCall Sh.F_name_set (frVal (fComp [7] (fiSeq (fTwo gIx (fVar 4) (fTwo gAdd (fVar 3) (fCst (.int 1))))) (bName 7) (fTst (fTwo gEq (fTwo gIx (fTwo gIx (fVar 7) (fCst (.int 2))) (fVar 5)) (fVar 6))) (fVar 7)) frNil))) gSkip))))))))
def F_barred_by : FS := fDef 8 3 [] G_barred_by
def B0_turning_scores : FG := (gSeq (gDrop (fExt 2 (fLst (faCons (fTwo gIx (fVar 4) (fCst (.int 1))) (faCons (fTwo gAdd (fTwo gIx (fVar 4) (fCst (.int 1))) (fCst (.int 1))) faNil))))) (gSeq (gDrop (fExt 2 (fComp [3] (fiSeq (fVar 1)) (bName 3) (fTst (fTwo gEq (fTwo gIx (fVar 3) (fCst (.int 0))) (fCst (.str "near")))) (fTwo gSub (fTwo gIx (fVar 4) (fCst (.int 1))) (fTwo gIx (fVar 3) (fCst (.int 1))))))) gSkip))
def G_turning_scores : FG := (gSeq (gSet 2 (fComp [3] (fiSeq (fVar 1)) (bName 3) (fTst (fTwo gEq (fTwo gIx (fVar 3) (fCst (.int 0))) (fCst (.str "floor")))) (fTwo gIx (fVar 3) (fCst (.int 1))))) (gSeq (gFor (fiSeq (fVar 0)) (bName 4) B0_turning_scores) (gSeq (gRet 2 (fOne gSorted (fVar 2))) gSkip)))
def F_turning_scores : FS := fDef 5 2 [] G_turning_scores
def G_score_needed : FG := (gSeq (gDrop (fCall Sh.F_check_kinds (frVal (fVar 0) (frVal (fVar 1) frNil)))) (gSeq (gSet 3 (fCall Sh.F_labels_of (frVal (fVar 0) (frVal (fVar 2) frNil)))) (gSeq (gSet 4 (fCall Sh.F_without_hit (frVal (fVar 0) (frVal (fVar 2) frNil)))) (gSeq (gSet 5 (fCall Sh.F_turning_scores (frVal (fVar 4) (frVal (fVar 1) frNil)))) (gSeq (gIfS (fTOr (fTNot (fTst (fVar 5))) (fTst (fTwo gIn (fVar 2) (fCall Sh.F_picked (frVal (fCall Sh.F_with_hit (frVal (fVar 4) (frVal (fVar 2) (frVal (fTwo gSub (fTwo gIx (fVar 5) (fCst (.int 0))) (fCst (.int 1))) (frVal (fVar 3) frNil))))) (frVal (fVar 1) frNil)))))) (gSeq (gRet 3 (fCst .none)) gSkip) gSkip) (gSeq (gRet 3 (fOne (gMM1 false) (fComp [6] (fiSeq (fVar 5)) (bName 6) (fTst (fTwo gIn (fVar 2) (fCall Sh.F_picked (frVal (fCall Sh.F_with_hit (frVal (fVar 4) (frVal (fVar 2) (frVal (fVar 6) (frVal (fVar 3) frNil))))) (frVal (fVar 1) frNil))))) (fVar 6)))) gSkip))))))
def F_score_needed : FS := fDef 7 3 [] G_score_needed
def G_best_first : FG := (gSeq (gRet 1 (fOne gTuple (fComp [1] (fiSeq (fCall Sh.F_ranked (frVal (fVar 0) frNil))) (bName 1) fTYes (fTwo gIx (fVar 1) (fCst (.int 0)))))) gSkip)
def F_best_first : FS := fDef 2 1 [] G_best_first
def G_is_name : FG := (gSeq (gRet 1 (fAnd (fOne (gIsa [.str]) (fVar 0)) (fAnd (fChain gLe gLe (fCst (.int 1)) (fOne gLen (fVar 0)) (fCst (.int 8))) (fOne gAll (fComp [1] (fiSeq (fVar 0)) (bName 1) fTYes (fChain gLe gLe (fCst (.str "a")) (fVar 1) (fCst (.str "z")))))))) gSkip)
def F_is_name : FS := fDef 2 1 [] G_is_name
def G_is_ascending : FG := (gSeq (gRet 1 (fOne gAll (fComp [1] (fiRng1 (faCons (fTwo gSub (fOne gLen (fVar 0)) (fCst (.int 1))) faNil)) (bName 1) fTYes (fTwo gLt (fTwo gIx (fVar 0) (fVar 1)) (fTwo gIx (fVar 0) (fTwo gAdd (fVar 1) (fCst (.int 1)))))))) gSkip)
def F_is_ascending : FS := fDef 2 1 [] G_is_ascending
def G_is_name_set : FG := (gSeq (gRet 1 (fAnd (fOne (gIsa [.tuple]) (fVar 0)) (fAnd (fOne gAll (fComp [1] (fiSeq (fVar 0)) (bName 1) fTYes (fCall Sh.F_is_name (frVal (fVar 1) frNil)))) (fCall Sh.F_is_ascending (frVal (fVar 0) frNil))))) gSkip)
def F_is_name_set : FS := fDef 2 1 [] G_is_name_set
def B0_is_parts : FG := (gSeq (gDrop (fExt 3 (fVar 2))) gSkip)
def G_is_parts : FG := (gSeq (gIfS (fTNot (fTAnd (fTst (fOne (gIsa [.tuple]) (fVar 1))) (fTAnd (fTst (fVar 1)) (fTst (fOne gAll (fComp [2] (fiSeq (fVar 1)) (bName 2) fTYes (fCall Sh.F_is_name_set (frVal (fVar 2) frNil)))))))) (gSeq (gRet 2 (fCst (.bool false))) gSkip) gSkip) (gSeq (gSet 3 (fLst faNil)) (gSeq (gFor (fiSeq (fVar 1)) (bName 2) B0_is_parts) (gSeq (gRet 2 (fTwo gEq (fOne gSorted (fVar 3)) (fOne gList (fCall Sh.F_names_of (frVal (fVar 0) frNil))))) gSkip))))
def F_is_parts : FS := fDef 4 2 [] G_is_parts
def G_check_parts : FG := (gSeq (gIfS (fTNot (fTst (fCall Sh.F_is_parts (frVal (fVar 0) (frVal (fOne gTuple (fComp [2] (fiSeq (fVar 1)) (bName 2) fTYes (fOne gTuple (fVar 2)))) frNil))))) (gSeq gNone gSkip) gSkip) gSkip)
def F_check_parts : FS := fDef 3 2 [] G_check_parts
def G_picked_among : FG := (gSeq (gRet 3 (fCall Sh.F_picked (frVal (fComp [3] (fiSeq (fVar 0)) (bName 3) (fTst (fTwo gIn (fTwo gIx (fVar 3) (fCst (.int 0))) (fVar 1))) (fVar 3)) (frVal (fVar 2) frNil)))) gSkip)
def F_picked_among : FS := fDef 4 3 [] G_picked_among
def G_picked_in_parts : FG := (gSeq (gRet 3 (fComp [3] (fiSeq (fVar 1)) (bName 3) fTYes (fCall Sh.F_picked_among (frVal (fVar 0) (frVal (fVar 3) (frVal (fVar 2) frNil)))))) gSkip)
def F_picked_in_parts : FS := fDef 4 3 [] G_picked_in_parts
def G_without_names : FG := (gSeq (gRet 2 (fOne gTuple (fComp [2] (fiSeq (fVar 0)) (bName 2) (fTst (fTwo gNotIn (fVar 2) (fVar 1))) (fVar 2)))) gSkip)
def F_without_names : FS := fDef 3 2 [] G_without_names
def G_first_steps : FG := (gSeq (gSet 2 (fCall Sh.F_reduced (frVal (fVar 0) frNil))) (gSeq (gIfS (fTNot (fTst (fChain gLe gLe (fCst (.int 0)) (fVar 1) (fOne gLen (fVar 2))))) (gSeq gNone gSkip) gSkip) (gSeq (gRet 2 (fSl (fVar 2) foNone (foSome (fVar 1)))) gSkip)))
def F_first_steps : FS := fDef 3 2 [] G_first_steps
def G_enough : FG := (gSeq (gSet 1 (fCall Sh.F_barred_at (frVal (fVar 0) frNil))) (gSeq (gRet 1 (fIf (fTst (fOne gIsN (fVar 1))) (fOne gLen (fCall Sh.F_reduced (frVal (fVar 0) frNil))) (fTwo gIx (fVar 1) (fCst (.int 1))))) gSkip))
def F_enough : FS := fDef 2 1 [] G_enough
def G_send_word : FG := (gSeq (gRet 1 (fCall Sh.F_first_steps (frVal (fVar 0) (frVal (fCall Sh.F_enough (frVal (fVar 0) frNil)) frNil)))) gSkip)
def F_send_word : FS := fDef 1 1 [] G_send_word
def G_sent : FG := (gSeq (gDrop (fCall Sh.F_check_parts (frVal (fVar 0) (frVal (fVar 1) frNil)))) (gSeq (gDrop (fCall Sh.F_check_kinds (frVal (fVar 0) (frVal (fVar 2) frNil)))) (gSeq (gRet 3 (fCall Sh.F_picked_in_parts (frVal (fVar 0) (frVal (fVar 1) (frVal (fCall Sh.F_send_word (frVal (fVar 2) frNil)) frNil))))) gSkip)))
def F_sent : FS := fDef 3 3 [] G_sent
def G_how_many_sent : FG := (gSeq (gRet 3 (fOne gSum (fComp [3] (fiSeq (fCall Sh.F_sent (frVal (fVar 0) (frVal (fVar 1) (frVal (fVar 2) frNil))))) (bName 3) fTYes (fOne gLen (fVar 3))))) gSkip)
def F_how_many_sent : FS := fDef 4 3 [] G_how_many_sent
end Sh

namespace Lk16
open PySem PySem.Spec PyProof.Rows L2 Pt
def top (i : Nat) : Stmt := PySem.Challenge.pw_partpicks_k16_steps_and_words_or_none.main.body.getD i (.Pass ⟨0, 0, 0, 0⟩)
abbrev FnR (K : PySem.W.Frag) (x : Str) (st : Stmt) (f : Addr) (fd : FuncData) : Prop := FunD K x x (defArgs st) (defBody st) (defScope st) [] [] f fd
/-- the defs as they stand behind the top -/
structure Ds [Tb] (K : PySem.W.Frag) (mg : Str → Option Value) (base : Heap) where
  f_is_number : Addr
  fd_is_number : FuncData
  F_is_number : FnR K "is_number" (top 1) f_is_number fd_is_number
  g_is_number : mg "is_number" = some (.ref f_is_number)
  B_is_number : Binds K fd_is_number ["thing"] []
  f_is_step : Addr
  fd_is_step : FuncData
  F_is_step : FnR K "is_step" (top 3) f_is_step fd_is_step
  g_is_step : mg "is_step" = some (.ref f_is_step)
  B_is_step : Binds K fd_is_step ["thing"] []
  f_is_word : Addr
  fd_is_word : FuncData
  F_is_word : FnR K "is_word" (top 4) f_is_word fd_is_word
  g_is_word : mg "is_word" = some (.ref f_is_word)
  B_is_word : Binds K fd_is_word ["thing"] []
  f_kinds_in : Addr
  fd_kinds_in : FuncData
  F_kinds_in : FnR K "kinds_in" (top 5) f_kinds_in fd_kinds_in
  g_kinds_in : mg "kinds_in" = some (.ref f_kinds_in)
  B_kinds_in : Binds K fd_kinds_in ["word"] []
  f__law_box : Addr
  fd__law_box : FuncData
  F__law_box : FnR K "_law_box" (top 7) f__law_box fd__law_box
  g__law_box : mg "_law_box" = some (.ref f__law_box)
  B__law_box : Binds K fd__law_box ["_law_script", "_law_k"] []
  f__law_take : Addr
  fd__law_take : FuncData
  F__law_take : FnR K "_law_take" (top 8) f__law_take fd__law_take
  g__law_take : mg "_law_take" = some (.ref f__law_take)
  B__law_take : Binds K fd__law_take ["_law_tin", "_law_top_so"] []
  f__law_cells : Addr
  fd__law_cells : FuncData
  F__law_cells : FnR K "_law_cells" (top 9) f__law_cells fd__law_cells
  g__law_cells : mg "_law_cells" = some (.ref f__law_cells)
  B__law_cells : Binds K fd__law_cells ["_law_script", "_law_most"] []
  f__law_of : Addr
  fd__law_of : FuncData
  F__law_of : FnR K "_law_of" (top 10) f__law_of fd__law_of
  g__law_of : mg "_law_of" = some (.ref f__law_of)
  B__law_of : Binds K fd__law_of ["_law_tin", "_law_lot"] []
  f__law_lists : Addr
  fd__law_lists : FuncData
  F__law_lists : FnR K "_law_lists" (top 11) f__law_lists fd__law_lists
  g__law_lists : mg "_law_lists" = some (.ref f__law_lists)
  B__law_lists : Binds K fd__law_lists ["_law_matter"] []
  f__law_same : Addr
  fd__law_same : FuncData
  F__law_same : FnR K "_law_same" (top 12) f__law_same fd__law_same
  g__law_same : mg "_law_same" = some (.ref f__law_same)
  B__law_same : Binds K fd__law_same ["_law_got", "_law_due"] []
  f__law_row : Addr
  fd__law_row : FuncData
  F__law_row : FnR K "_law_row" (top 13) f__law_row fd__law_row
  g__law_row : mg "_law_row" = some (.ref f__law_row)
  B__law_row : Binds K fd__law_row ["_law_tin", "_law_many", "_law_width"] []
  f__law_fine : Addr
  fd__law_fine : FuncData
  F__law_fine : FnR K "_law_fine" (top 14) f__law_fine fd__law_fine
  g__law_fine : mg "_law_fine" = some (.ref f__law_fine)
  B__law_fine : Binds K fd__law_fine ["_law_bit"] []
  f__law_is_row : Addr
  fd__law_is_row : FuncData
  F__law_is_row : FnR K "_law_is_row" (top 15) f__law_is_row fd__law_is_row
  g__law_is_row : mg "_law_is_row" = some (.ref f__law_is_row)
  B__law_is_row : Binds K fd__law_is_row ["_law_matter"] []
  f__law_hand_right : Addr
  fd__law_hand_right : FuncData
  F__law_hand_right : FnR K "_law_hand_right" (top 16) f__law_hand_right fd__law_hand_right
  g__law_hand_right : mg "_law_hand_right" = some (.ref f__law_hand_right)
  B__law_hand_right : Binds K fd__law_hand_right [] []
  f__law_bent : Addr
  fd__law_bent : FuncData
  F__law_bent : FnR K "_law_bent" (top 17) f__law_bent fd__law_bent
  g__law_bent : mg "_law_bent" = some (.ref f__law_bent)
  B__law_bent : Binds K fd__law_bent ["_law_tin", "_law_row_so"] []
  f__law_case_right : Addr
  fd__law_case_right : FuncData
  F__law_case_right : FnR K "_law_case_right" (top 18) f__law_case_right fd__law_case_right
  g__law_case_right : mg "_law_case_right" = some (.ref f__law_case_right)
  B__law_case_right : Binds K fd__law_case_right ["_law_tin"] []
  f__law_right : Addr
  fd__law_right : FuncData
  F__law_right : FnR K "_law_right" (top 19) f__law_right fd__law_right
  g__law_right : mg "_law_right" = some (.ref f__law_right)
  B__law_right : Binds K fd__law_right ["_law_tin"] []
  f_law : Addr
  fd_law : FuncData
  F_law : FnR K "law" (top 20) f_law fd_law
  g_law : mg "law" = some (.ref f_law)
  B_law : Binds K fd_law ["_law_script"] []
  K_is_step_thing : Pt.KBn K fd_is_step ["thing"] ["thing"] [0]
  K_is_word_thing : Pt.KBn K fd_is_word ["thing"] ["thing"] [0]
  K_kinds_in_word : Pt.KBn K fd_kinds_in ["word"] ["word"] [0]
  b_isinstance : mg "isinstance" = none
  b_int : mg "int" = none
  b_bool : mg "bool" = none
  b_len : mg "len" = none
  b_tuple : mg "tuple" = none
  b_all : mg "all" = none
  b_set : mg "set" = none
  b_abs : mg "abs" = none
  b_enumerate : mg "enumerate" = none
  b_list : mg "list" = none
  b_str : mg "str" = none
  b_dict : mg "dict" = none
  b_zip : mg "zip" = none
  b_range : mg "range" = none
section
variable [Tb] {P : Program} {w : World} {K : PySem.W.Frag} {mg : Str → Option Value} {base : Heap}
abbrev N_is_number : List Str := ["thing"]
theorem nd_is_number : (N_is_number).Nodup := by decide +kernel
theorem sc_is_number : FnScope N_is_number ["thing"] (defScope (top 1)) := ⟨rfl, rfl, rfl, nd_is_number, rfl, by decide +kernel, by decide +kernel⟩
theorem ok_is_number (D : Ds K mg base) : FnOk P w K mg base (L2.CX P w) 1 D.f_is_number D.fd_is_number ["thing"] (spD K Sh.F_is_number) :=
  fn_DD (N := N_is_number) (k := 0) (As := []) D.F_is_number sc_is_number (by decide) fun cdv A outer s H E hr =>
    (pss_consG (ps_retG (pe_andD (pe_isa1 (t := .int) rfl D.b_isinstance rfl D.b_int boot_int (by decide) rfl (pe_nm (i := 0) rfl (by first | exact Or.inl rfl | exact Or.inr (Or.inl rfl) | exact Or.inr (Or.inr rfl)) rfl rfl) rfl) (pe_one (pe_notD (pe_isa1 (t := .bool) rfl D.b_isinstance rfl D.b_bool boot_bool (by decide) rfl (pe_nm (i := 0) rfl (by first | exact Or.inl rfl | exact Or.inr (Or.inl rfl) | exact Or.inr (Or.inr rfl)) rfl rfl) rfl))))) pss_nilG)
abbrev N_is_step : List Str := ["thing", "number", "first"]
theorem nd_is_step : (N_is_step).Nodup := by decide +kernel
theorem sc_is_step : FnScope N_is_step ["thing"] (defScope (top 3)) := ⟨rfl, rfl, rfl, nd_is_step, rfl, by decide +kernel, by decide +kernel⟩
theorem ok_is_step (D : Ds K mg base) : FnOk P w K mg base (L2.CX P w) 2 D.f_is_step D.fd_is_step ["thing"] (spD K Sh.F_is_step) :=
  fn_DD (N := N_is_step) (k := 1) (As := []) D.F_is_step sc_is_step (by decide) fun cdv A outer s H E hr =>
    (pss_consG (ps_ifG (pt_notD (PW.pt (pw_andD (pt_tst (pe_isa1 (t := .tuple) rfl D.b_isinstance rfl D.b_tuple boot_tuple (by decide) rfl (pe_nm (i := 0) rfl (by first | exact Or.inl rfl | exact Or.inr (Or.inl rfl) | exact Or.inr (Or.inr rfl)) rfl rfl) rfl) (fun _ => rfl)) (pw_and1D (pt_tst (pe_b1 (cr_allD rfl) rfl D.b_all boot_all (pe_compD (own := [("number", 1)]) rfl nd_is_step (pi_seqD (pe_sliceD (pe_nm (i := 0) rfl (by first | exact Or.inl rfl | exact Or.inr (Or.inl rfl) | exact Or.inr (Or.inr rfl)) rfl rfl) (po_someD pe_cint) po_noneD)) (blkOk_by (N := N_is_step) (sc := defScope (top 3)) (by decide +kernel)) (fun _ _ _ _ _ => (pg_nameD (i := 1) nd_is_step rfl (by first | exact Or.inl rfl | exact Or.inr rfl) (by first | exact Or.inl rfl | exact Or.inr rfl) (.inl (Nat.zero_le _)))) (fun _ _ _ _ _ => pts_nilD) (fun _ _ _ _ _ => (pe_callD (ok_is_number D) (hr.mono (by decide)) rfl D.g_is_number D.F_is_number.kp D.B_is_number (pr_val (pe_nm (i := 1) rfl (by first | exact Or.inl rfl | exact Or.inr (Or.inl rfl) | exact Or.inr (Or.inr rfl)) rfl rfl) pr_nil rfl) rfl rfl rfl)) (fun _ => rfl) (by decide)) (by decide) rfl rfl) (fun _ => rfl)))))) (pss_consG (ps_retG pe_cbl) pss_nilG) pss_nilG) (pss_consG (ps_ifG (pt_cmp2 (opr_eq (Room.units hr)) (pe_b1 cr_len rfl D.b_len boot_len (pe_nm (i := 0) rfl (by first | exact Or.inl rfl | exact Or.inr (Or.inl rfl) | exact Or.inr (Or.inr rfl)) rfl rfl) (by decide) rfl rfl) pe_cint rfl gb_eq) (pss_consG (ps_retG (pe_andD (pe_cmp2 (opr_eq (Room.units hr)) (pe_ixD (pe_nm (i := 0) rfl (by first | exact Or.inl rfl | exact Or.inr (Or.inl rfl) | exact Or.inr (Or.inr rfl)) rfl rfl) pe_cint (fun _ _ => rfl)) pe_cstr rfl) (pe_andD (pe_chainD (opr_le (Room.units hr)) (opr_le (Room.units hr)) pe_cint (pe_ixD (pe_nm (i := 0) rfl (by first | exact Or.inl rfl | exact Or.inr (Or.inl rfl) | exact Or.inr (Or.inr rfl)) rfl rfl) pe_cint (fun _ _ => rfl)) pe_cint (by with_unfolding_all rfl)) (pe_one (pe_cmp2 (opr_ge (Room.units hr)) (pe_ixD (pe_nm (i := 0) rfl (by first | exact Or.inl rfl | exact Or.inr (Or.inl rfl) | exact Or.inr (Or.inr rfl)) rfl rfl) pe_cint (fun _ _ => rfl)) pe_cint rfl))))) pss_nilG) pss_nilG) (pss_consG (ps_ifG (pt_cmp2 (opr_ne (Room.units hr)) (pe_b1 cr_len rfl D.b_len boot_len (pe_nm (i := 0) rfl (by first | exact Or.inl rfl | exact Or.inr (Or.inl rfl) | exact Or.inr (Or.inr rfl)) rfl rfl) (by decide) rfl rfl) pe_cint rfl gb_ne) (pss_consG (ps_retG pe_cbl) pss_nilG) pss_nilG) (pss_consG (ps_asgT (pe_nm (i := 0) rfl (by first | exact Or.inl rfl | exact Or.inr (Or.inl rfl) | exact Or.inr (Or.inr rfl)) rfl rfl) (pg_tupD rfl (pgs_consD (pg_nameD (i := 2) nd_is_step rfl (by first | exact Or.inl rfl | exact Or.inr rfl) (by first | exact Or.inl rfl | exact Or.inr rfl) (.inl (by decide))) (pgs_consD (pg_nameD (i := 1) nd_is_step rfl (by first | exact Or.inl rfl | exact Or.inr rfl) (by first | exact Or.inl rfl | exact Or.inr rfl) (.inl (by decide))) pgs_nilD rfl) rfl) rfl rfl rfl) rfl rfl) (pss_consG (ps_retG (pe_orD (pe_cmp2 (opr_eq (Room.units hr)) (pe_nm (i := 2) rfl (by first | exact Or.inl rfl | exact Or.inr (Or.inl rfl) | exact Or.inr (Or.inr rfl)) rfl rfl) pe_cstr rfl) (pe_orD (pe_andD (pe_cmp2 (opr_eq (Room.units hr)) (pe_nm (i := 2) rfl (by first | exact Or.inl rfl | exact Or.inr (Or.inl rfl) | exact Or.inr (Or.inr rfl)) rfl rfl) pe_cstr rfl) (pe_one (pe_cmp2 (opr_ge (Room.units hr)) (pe_nm (i := 1) rfl (by first | exact Or.inl rfl | exact Or.inr (Or.inl rfl) | exact Or.inr (Or.inr rfl)) rfl rfl) pe_cint rfl))) (pe_one (pe_andD (pe_cmp2 (opr_eq (Room.units hr)) (pe_nm (i := 2) rfl (by first | exact Or.inl rfl | exact Or.inr (Or.inl rfl) | exact Or.inr (Or.inr rfl)) rfl rfl) pe_cstr rfl) (pe_one (pe_cmp2 (opr_ge (Room.units hr)) (pe_nm (i := 1) rfl (by first | exact Or.inl rfl | exact Or.inr (Or.inl rfl) | exact Or.inr (Or.inr rfl)) rfl rfl) pe_cint rfl))))))) pss_nilG)))))
abbrev N_kinds_in : List Str := ["word", "step"]
theorem nd_kinds_in : (N_kinds_in).Nodup := by decide +kernel
theorem sc_kinds_in : FnScope N_kinds_in ["word"] (defScope (top 5)) := ⟨rfl, rfl, rfl, nd_kinds_in, rfl, by decide +kernel, by decide +kernel⟩
theorem ok_kinds_in (D : Ds K mg base) : FnOk P w K mg base (L2.CX P w) 1 D.f_kinds_in D.fd_kinds_in ["word"] (spD K Sh.F_kinds_in) :=
  fn_DD (N := N_kinds_in) (k := 0) (As := []) D.F_kinds_in sc_kinds_in (by decide) fun cdv A outer s H E hr =>
    (pss_consG (ps_retG (pe_t1 (cr_tuple rfl) rfl D.b_tuple boot_tuple (pe_compD (own := [("step", 1)]) rfl nd_kinds_in (pi_seqD (pe_nm (i := 0) rfl (by first | exact Or.inl rfl | exact Or.inr (Or.inl rfl) | exact Or.inr (Or.inr rfl)) rfl rfl)) (blkOk_by (N := N_kinds_in) (sc := defScope (top 5)) (by decide +kernel)) (fun _ _ _ _ _ => (pg_nameD (i := 1) nd_kinds_in rfl (by first | exact Or.inl rfl | exact Or.inr rfl) (by first | exact Or.inl rfl | exact Or.inr rfl) (.inl (Nat.zero_le _)))) (fun _ _ _ _ _ => (pts_one (pt_cmp2 (opr_eq (Room.units hr)) (pe_ixD (pe_nm (i := 1) rfl (by first | exact Or.inl rfl | exact Or.inr (Or.inl rfl) | exact Or.inr (Or.inr rfl)) rfl rfl) pe_cint (fun _ _ => rfl)) pe_cstr rfl gb_eq))) (fun _ _ _ _ _ => (pe_ixD (pe_nm (i := 1) rfl (by first | exact Or.inl rfl | exact Or.inr (Or.inl rfl) | exact Or.inr (Or.inr rfl)) rfl rfl) pe_cint (fun _ _ => rfl))) (fun _ => rfl) (by decide)) (by decide) rfl rfl)) pss_nilG)
abbrev N_is_word : List Str := ["thing", "step"]
theorem nd_is_word : (N_is_word).Nodup := by decide +kernel
theorem sc_is_word : FnScope N_is_word ["thing"] (defScope (top 4)) := ⟨rfl, rfl, rfl, nd_is_word, rfl, by decide +kernel, by decide +kernel⟩
theorem ok_is_word (D : Ds K mg base) : FnOk P w K mg base (L2.CX P w) 3 D.f_is_word D.fd_is_word ["thing"] (spD K Sh.F_is_word) :=
  fn_DD (N := N_is_word) (k := 2) (As := []) D.F_is_word sc_is_word (by decide) fun cdv A outer s H E hr =>
    (pss_consG (ps_ifG (pt_notD (PW.pt (pw_andD (pt_tst (pe_isa1 (t := .tuple) rfl D.b_isinstance rfl D.b_tuple boot_tuple (by decide) rfl (pe_nm (i := 0) rfl (by first | exact Or.inl rfl | exact Or.inr (Or.inl rfl) | exact Or.inr (Or.inr rfl)) rfl rfl) rfl) (fun _ => rfl)) (pw_and1D (pt_tst (pe_b1 (cr_allD rfl) rfl D.b_all boot_all (pe_compD (own := [("step", 1)]) rfl nd_is_word (pi_seqD (pe_nm (i := 0) rfl (by first | exact Or.inl rfl | exact Or.inr (Or.inl rfl) | exact Or.inr (Or.inr rfl)) rfl rfl)) (blkOk_by (N := N_is_word) (sc := defScope (top 4)) (by decide +kernel)) (fun _ _ _ _ _ => (pg_nameD (i := 1) nd_is_word rfl (by first | exact Or.inl rfl | exact Or.inr rfl) (by first | exact Or.inl rfl | exact Or.inr rfl) (.inl (Nat.zero_le _)))) (fun _ _ _ _ _ => pts_nilD) (fun _ _ _ _ _ => (pe_callD (ok_is_step D) (hr.mono (by decide)) rfl D.g_is_step D.F_is_step.kp D.B_is_step (pr_val (pe_nm (i := 1) rfl (by first | exact Or.inl rfl | exact Or.inr (Or.inl rfl) | exact Or.inr (Or.inr rfl)) rfl rfl) pr_nil rfl) rfl rfl rfl)) (fun _ => rfl) (by decide)) (by decide) rfl rfl) (fun _ => rfl)))))) (pss_consG (ps_retG pe_cbl) pss_nilG) pss_nilG) (pss_consG (ps_retG (pe_cmp2 (opr_eq (Room.units hr)) (pe_lenSetD rfl rfl D.b_len rfl D.b_set (pe_callD (ok_kinds_in D) (hr.mono (by decide)) rfl D.g_kinds_in D.F_kinds_in.kp D.B_kinds_in (pr_val (pe_nm (i := 0) rfl (by first | exact Or.inl rfl | exact Or.inr (Or.inl rfl) | exact Or.inr (Or.inr rfl)) rfl rfl) pr_nil rfl) rfl rfl rfl) rfl) (pe_b1 cr_len rfl D.b_len boot_len (pe_callD (ok_kinds_in D) (hr.mono (by decide)) rfl D.g_kinds_in D.F_kinds_in.kp D.B_kinds_in (pr_val (pe_nm (i := 0) rfl (by first | exact Or.inl rfl | exact Or.inr (Or.inl rfl) | exact Or.inr (Or.inr rfl)) rfl rfl) pr_nil rfl) rfl rfl rfl) (by decide) rfl rfl) rfl)) pss_nilG))
abbrev N__law_box : List Str := ["_law_script", "_law_k", "_law_great_so"]
def G__law_box : FG := (gSeq (gSet 2 (fIf (fTst (fTwo gLt (fVar 1) (fOne gLen (fVar 0)))) (fTwo gIx (fVar 0) (fVar 1)) (fCst (.int 0)))) (gSeq (gRet 2 (fLst (faCons (fTwo gMul (fOne gAbs (fVar 2)) (fOne gInt (fTwo gGe (fOne gAbs (fVar 2)) (fTwo gPow (fCst (.int 10)) (fCst (.int 18)))))) (faCons (fTwo gAdd (fTwo gAdd (fTwo gMod (fOne gInt (fVar 2)) (fCst (.int 2305843009213693951))) (fTwo gMul (fCst (.int 39373)) (fVar 1))) (fCst (.int 1199))) (faCons (fCst (.int 0)) faNil))))) gSkip))
def F__law_box : FS := fDef 3 2 [] G__law_box
theorem nd__law_box : (N__law_box).Nodup := by decide +kernel
theorem sc__law_box : FnScope N__law_box ["_law_script", "_law_k"] (defScope (top 7)) := ⟨rfl, rfl, rfl, nd__law_box, rfl, by decide +kernel, by decide +kernel⟩
theorem ok__law_box (D : Ds K mg base) : FnOk P w K mg base (L2.CX P w) 1 D.f__law_box D.fd__law_box ["_law_script", "_law_k"] (spD K F__law_box) :=
  fn_DD (N := N__law_box) (k := 0) (As := []) D.F__law_box sc__law_box (by decide) fun cdv A outer s H E hr =>
    (pss_consG (ps_setG (i := 2) nd__law_box rfl (by first | exact Or.inl rfl | exact Or.inr rfl) (pe_ifD (pt_cmp2 (opr_lt (Room.units hr)) (pe_nm (i := 1) rfl (by first | exact Or.inl rfl | exact Or.inr (Or.inl rfl) | exact Or.inr (Or.inr rfl)) rfl rfl) (pe_b1 cr_len rfl D.b_len boot_len (pe_nm (i := 0) rfl (by first | exact Or.inl rfl | exact Or.inr (Or.inl rfl) | exact Or.inr (Or.inr rfl)) rfl rfl) (by decide) rfl rfl) rfl gb_lt) (pe_ixD (pe_nm (i := 0) rfl (by first | exact Or.inl rfl | exact Or.inr (Or.inl rfl) | exact Or.inr (Or.inr rfl)) rfl rfl) (pe_nm (i := 1) rfl (by first | exact Or.inl rfl | exact Or.inr (Or.inl rfl) | exact Or.inr (Or.inr rfl)) rfl rfl) (fun _ _ => rfl)) pe_cint) rfl (.inl rfl) (.inl (by decide))) (pss_consG (ps_retG (pe_lstD (pa_consD (pe_bin opr_mul (pe_b1 cr_abs rfl D.b_abs boot_abs (pe_nm (i := 2) rfl (by first | exact Or.inl rfl | exact Or.inr (Or.inl rfl) | exact Or.inr (Or.inr rfl)) rfl rfl) (by decide) rfl rfl) (pe_t1 cr_int rfl D.b_int boot_int (pe_cmp2 (opr_ge (Room.units hr)) (pe_b1 cr_abs rfl D.b_abs boot_abs (pe_nm (i := 2) rfl (by first | exact Or.inl rfl | exact Or.inr (Or.inl rfl) | exact Or.inr (Or.inr rfl)) rfl rfl) (by decide) rfl rfl) (pe_bin opr_pow pe_cint pe_cint) rfl) (by decide) rfl rfl)) (pa_consD (pe_bin opr_add (pe_bin opr_add (pe_bin opr_mod (pe_t1 cr_int rfl D.b_int boot_int (pe_nm (i := 2) rfl (by first | exact Or.inl rfl | exact Or.inr (Or.inl rfl) | exact Or.inr (Or.inr rfl)) rfl rfl) (by decide) rfl rfl) pe_cint) (pe_bin opr_mul pe_cint (pe_nm (i := 1) rfl (by first | exact Or.inl rfl | exact Or.inr (Or.inl rfl) | exact Or.inr (Or.inr rfl)) rfl rfl))) pe_cint) (pa_consD pe_cint pa_nilD rfl) rfl) rfl))) pss_nilG))
abbrev N__law_take : List Str := ["_law_tin", "_law_top_so", "_law_digit_so", "_law_once", "_law_far", "_law_twice"]
theorem nd__law_take : (N__law_take).Nodup := by decide +kernel
theorem sc__law_take : FnScope N__law_take ["_law_tin", "_law_top_so"] (defScope (top 8)) := ⟨rfl, rfl, rfl, nd__law_take, rfl, by decide +kernel, by decide +kernel⟩
theorem ok__law_take (D : Ds K mg base) : FnOk P w K mg base (L2.CX P w) 1 D.f__law_take D.fd__law_take ["_law_tin", "_law_top_so"] (spD K Sh.F__law_take) :=
  fn_DD (N := N__law_take) (k := 0) (As := []) D.F__law_take sc__law_take (by decide) fun cdv A outer s H E hr =>
    (pss_consG (ps_ifG (pt_cmp2 (opr_gt (Room.units hr)) (pe_ixD (pe_nm (i := 0) rfl (by first | exact Or.inl rfl | exact Or.inr (Or.inl rfl) | exact Or.inr (Or.inr rfl)) rfl rfl) pe_cint (fun _ _ => rfl)) pe_cint rfl gb_gt) (pss_consG (ps_setG (i := 2) nd__law_take rfl (by first | exact Or.inl rfl | exact Or.inr rfl) (pe_bin opr_mod (pe_t1 cr_int rfl D.b_int boot_int (pe_ixD (pe_nm (i := 0) rfl (by first | exact Or.inl rfl | exact Or.inr (Or.inl rfl) | exact Or.inr (Or.inr rfl)) rfl rfl) pe_cint (fun _ _ => rfl)) (by decide) rfl rfl) (pe_nm (i := 1) rfl (by first | exact Or.inl rfl | exact Or.inr (Or.inl rfl) | exact Or.inr (Or.inr rfl)) rfl rfl)) rfl (.inl rfl) (.inl (by decide))) (pss_consG (ps_setI (i := 0) rfl (by first | exact Or.inl rfl | exact Or.inr (Or.inl rfl) | exact Or.inr (Or.inr rfl)) rfl rfl (pe_bin opr_div (pe_ixD (pe_nm (i := 0) rfl (by first | exact Or.inl rfl | exact Or.inr (Or.inl rfl) | exact Or.inr (Or.inr rfl)) rfl rfl) pe_cint (fun _ _ => rfl)) (pe_nm (i := 1) rfl (by first | exact Or.inl rfl | exact Or.inr (Or.inl rfl) | exact Or.inr (Or.inr rfl)) rfl rfl)) pe_cint rfl rfl (fun _ => rfl)) (pss_consG (ps_retG (pe_nm (i := 2) rfl (by first | exact Or.inl rfl | exact Or.inr (Or.inl rfl) | exact Or.inr (Or.inr rfl)) rfl rfl)) pss_nilG))) pss_nilG) (pss_consG (ps_setI (i := 0) rfl (by first | exact Or.inl rfl | exact Or.inr (Or.inl rfl) | exact Or.inr (Or.inr rfl)) rfl rfl (pe_bin opr_add (pe_ixD (pe_nm (i := 0) rfl (by first | exact Or.inl rfl | exact Or.inr (Or.inl rfl) | exact Or.inr (Or.inr rfl)) rfl rfl) pe_cint (fun _ _ => rfl)) pe_cint) pe_cint rfl rfl (fun _ => rfl)) (pss_consG (ps_setG (i := 3) nd__law_take rfl (by first | exact Or.inl rfl | exact Or.inr rfl) (pe_bin opr_mod (pe_t1 cr_int rfl D.b_int boot_int (pe_bin opr_mul (pe_bin opr_add (pe_ixD (pe_nm (i := 0) rfl (by first | exact Or.inl rfl | exact Or.inr (Or.inl rfl) | exact Or.inr (Or.inr rfl)) rfl rfl) pe_cint (fun _ _ => rfl)) (pe_bin opr_mul pe_cint (pe_ixD (pe_nm (i := 0) rfl (by first | exact Or.inl rfl | exact Or.inr (Or.inl rfl) | exact Or.inr (Or.inr rfl)) rfl rfl) pe_cint (fun _ _ => rfl)))) (pe_bin opr_add pe_cint (pe_ixD (pe_nm (i := 0) rfl (by first | exact Or.inl rfl | exact Or.inr (Or.inl rfl) | exact Or.inr (Or.inr rfl)) rfl rfl) pe_cint (fun _ _ => rfl)))) (by decide) rfl rfl) pe_cint) rfl (.inl rfl) (.inl (by decide))) (pss_consG (ps_setG (i := 4) nd__law_take rfl (by first | exact Or.inl rfl | exact Or.inr rfl) (pe_bin opr_add (pe_bin opr_mod (pe_t1 cr_int rfl D.b_int boot_int (pe_nm (i := 3) rfl (by first | exact Or.inl rfl | exact Or.inr (Or.inl rfl) | exact Or.inr (Or.inr rfl)) rfl rfl) (by decide) rfl rfl) pe_cint) pe_cint) rfl (.inl rfl) (.inl (by decide))) (pss_consG (ps_setG (i := 5) nd__law_take rfl (by first | exact Or.inl rfl | exact Or.inr rfl) (pe_bin opr_mod (pe_t1 cr_int rfl D.b_int boot_int (pe_bin opr_mul (pe_bin opr_add (pe_bin opr_add (pe_nm (i := 3) rfl (by first | exact Or.inl rfl | exact Or.inr (Or.inl rfl) | exact Or.inr (Or.inr rfl)) rfl rfl) (pe_ixD (pe_nm (i := 0) rfl (by first | exact Or.inl rfl | exact Or.inr (Or.inl rfl) | exact Or.inr (Or.inr rfl)) rfl rfl) pe_cint (fun _ _ => rfl))) (pe_bin opr_div (pe_ixD (pe_nm (i := 0) rfl (by first | exact Or.inl rfl | exact Or.inr (Or.inl rfl) | exact Or.inr (Or.inr rfl)) rfl rfl) pe_cint (fun _ _ => rfl)) pe_cint)) (pe_nm (i := 4) rfl (by first | exact Or.inl rfl | exact Or.inr (Or.inl rfl) | exact Or.inr (Or.inr rfl)) rfl rfl)) (by decide) rfl rfl) pe_cint) rfl (.inl rfl) (.inl (by decide))) (pss_consG (ps_retG (pe_bin opr_mod (pe_t1 cr_int rfl D.b_int boot_int (pe_bin opr_div (pe_bin opr_mod (pe_t1 cr_int rfl D.b_int boot_int (pe_bin opr_add (pe_bin opr_mul (pe_nm (i := 5) rfl (by first | exact Or.inl rfl | exact Or.inr (Or.inl rfl) | exact Or.inr (Or.inr rfl)) rfl rfl) pe_cint) (pe_nm (i := 3) rfl (by first | exact Or.inl rfl | exact Or.inr (Or.inl rfl) | exact Or.inr (Or.inr rfl)) rfl rfl)) (by decide) rfl rfl) pe_cint) pe_cint) (by decide) rfl rfl) (pe_nm (i := 1) rfl (by first | exact Or.inl rfl | exact Or.inr (Or.inl rfl) | exact Or.inr (Or.inr rfl)) rfl rfl))) pss_nilG))))))
abbrev N__law_cells : List Str := ["_law_script", "_law_most", "_law_cells_here", "_law_k", "_law_great_so", "_law_at_so"]
theorem nd__law_cells : (N__law_cells).Nodup := by decide +kernel
theorem sc__law_cells : FnScope N__law_cells ["_law_script", "_law_most"] (defScope (top 9)) := ⟨rfl, rfl, rfl, nd__law_cells, rfl, by decide +kernel, by decide +kernel⟩
theorem ok__law_cells (D : Ds K mg base) : FnOk P w K mg base (L2.CX P w) 1 D.f__law_cells D.fd__law_cells ["_law_script", "_law_most"] (spD K Sh.F__law_cells) :=
  fn_DD (N := N__law_cells) (k := 0) (As := []) D.F__law_cells sc__law_cells (by decide) fun cdv A outer s H E hr =>
    (pss_consG (ps_setG (i := 2) nd__law_cells rfl (by first | exact Or.inl rfl | exact Or.inr rfl) (pe_orD (pe_t1 cr_list rfl D.b_list boot_list (pe_sliceD (pe_nm (i := 0) rfl (by first | exact Or.inl rfl | exact Or.inr (Or.inl rfl) | exact Or.inr (Or.inr rfl)) rfl rfl) po_noneD (po_someD (pe_nm (i := 1) rfl (by first | exact Or.inl rfl | exact Or.inr (Or.inl rfl) | exact Or.inr (Or.inr rfl)) rfl rfl))) (by decide) rfl rfl) (pe_one (pe_lstD (pa_consD pe_cint pa_nilD rfl)))) rfl (.inl rfl) (.inl (by decide))) (pss_consG (ps_forG PassesOwn.never rfl (pi_enumB rfl D.b_enumerate (pa_consD (pe_sliceD (pe_nm (i := 0) rfl (by first | exact Or.inl rfl | exact Or.inr (Or.inl rfl) | exact Or.inr (Or.inr rfl)) rfl rfl) (po_someD (pe_nm (i := 1) rfl (by first | exact Or.inl rfl | exact Or.inr (Or.inl rfl) | exact Or.inr (Or.inr rfl)) rfl rfl)) (po_someD pe_cint)) pa_nilD rfl) rfl) (pg_tupD rfl (pgs_consD (pg_nameD (i := 3) nd__law_cells rfl (by first | exact Or.inl rfl | exact Or.inr rfl) (by first | exact Or.inl rfl | exact Or.inr rfl) (.inl (by decide))) (pgs_consD (pg_nameD (i := 4) nd__law_cells rfl (by first | exact Or.inl rfl | exact Or.inr rfl) (by first | exact Or.inl rfl | exact Or.inr rfl) (.inl (by decide))) pgs_nilD rfl) rfl) rfl rfl rfl) (pss_consG (ps_setG (i := 5) nd__law_cells rfl (by first | exact Or.inl rfl | exact Or.inr rfl) (pe_bin opr_mod (pe_t1 cr_int rfl D.b_int boot_int (pe_nm (i := 3) rfl (by first | exact Or.inl rfl | exact Or.inr (Or.inl rfl) | exact Or.inr (Or.inr rfl)) rfl rfl) (by decide) rfl rfl) (pe_nm (i := 1) rfl (by first | exact Or.inl rfl | exact Or.inr (Or.inl rfl) | exact Or.inr (Or.inr rfl)) rfl rfl)) rfl (.inl rfl) (.inl (by decide))) (pss_consG (ps_setI (i := 2) rfl (by first | exact Or.inl rfl | exact Or.inr (Or.inl rfl) | exact Or.inr (Or.inr rfl)) rfl rfl (pe_bin opr_add (pe_ixD (pe_nm (i := 2) rfl (by first | exact Or.inl rfl | exact Or.inr (Or.inl rfl) | exact Or.inr (Or.inr rfl)) rfl rfl) (pe_nm (i := 5) rfl (by first | exact Or.inl rfl | exact Or.inr (Or.inl rfl) | exact Or.inr (Or.inr rfl)) rfl rfl) (fun _ _ => rfl)) (pe_bin opr_mul (pe_nm (i := 4) rfl (by first | exact Or.inl rfl | exact Or.inr (Or.inl rfl) | exact Or.inr (Or.inr rfl)) rfl rfl) (pe_bin opr_add (pe_nm (i := 3) rfl (by first | exact Or.inl rfl | exact Or.inr (Or.inl rfl) | exact Or.inr (Or.inr rfl)) rfl rfl) pe_cint))) (pe_nm (i := 5) rfl (by first | exact Or.inl rfl | exact Or.inr (Or.inl rfl) | exact Or.inr (Or.inr rfl)) rfl rfl) rfl rfl (fun _ => rfl)) pss_nilG)) (fun _ => rfl)) (pss_consG (ps_retG (pe_nm (i := 2) rfl (by first | exact Or.inl rfl | exact Or.inr (Or.inl rfl) | exact Or.inr (Or.inr rfl)) rfl rfl)) pss_nilG)))
abbrev N__law_of : List Str := ["_law_tin", "_law_lot"]
theorem nd__law_of : (N__law_of).Nodup := by decide +kernel
theorem sc__law_of : FnScope N__law_of ["_law_tin", "_law_lot"] (defScope (top 10)) := ⟨rfl, rfl, rfl, nd__law_of, rfl, by decide +kernel, by decide +kernel⟩
theorem ok__law_of (D : Ds K mg base) : FnOk P w K mg base (L2.CX P w) 2 D.f__law_of D.fd__law_of ["_law_tin", "_law_lot"] (spD K Sh.F__law_of) :=
  fn_DD (N := N__law_of) (k := 1) (As := []) D.F__law_of sc__law_of (by decide) fun cdv A outer s H E hr =>
    (pss_consG (ps_retG (pe_ixD (pe_nm (i := 1) rfl (by first | exact Or.inl rfl | exact Or.inr (Or.inl rfl) | exact Or.inr (Or.inr rfl)) rfl rfl) (pe_callD (ok__law_take D) (hr.mono (by decide)) rfl D.g__law_take D.F__law_take.kp D.B__law_take (pr_box (pe_nm (i := 0) rfl (by first | exact Or.inl rfl | exact Or.inr (Or.inl rfl) | exact Or.inr (Or.inr rfl)) rfl rfl) (pr_val (pe_b1 cr_len rfl D.b_len boot_len (pe_nm (i := 1) rfl (by first | exact Or.inl rfl | exact Or.inr (Or.inl rfl) | exact Or.inr (Or.inr rfl)) rfl rfl) (by decide) rfl rfl) pr_nil rfl) rfl) rfl rfl rfl) (fun _ _ => rfl))) pss_nilG)
abbrev N__law_lists : List Str := ["_law_matter", "_law_bit"]
theorem nd__law_lists : (N__law_lists).Nodup := by decide +kernel
theorem sc__law_lists : FnScope N__law_lists ["_law_matter"] (defScope (top 11)) := ⟨rfl, rfl, rfl, nd__law_lists, rfl, by decide +kernel, by decide +kernel⟩
theorem ok__law_lists (D : Ds K mg base) : ∀ m : Nat, FnOk P w K mg base (L2.CX P w) (m + 1) D.f__law_lists D.fd__law_lists ["_law_matter"] (spD K (Sh.F__law_lists m))
  | 0 => (fn_DD (N := N__law_lists) (k := 0 + 0) (As := []) (G := gNone) D.F__law_lists sc__law_lists (by decide) fun cdv A outer s H E hr => pss_nothing)
  | m + 1 => (fn_DD (N := N__law_lists) (k := m + 1 + 0) (As := []) D.F__law_lists sc__law_lists (by decide) fun cdv A outer s H E hr =>
    (pss_consG (ps_retG (pe_ifD (pt_tst (pe_isa2 (t := .list) (t2 := .tuple) rfl D.b_isinstance rfl D.b_list boot_list (by decide) rfl rfl D.b_tuple boot_tuple (by decide) rfl (pe_nm (i := 0) rfl (by first | exact Or.inl rfl | exact Or.inr (Or.inl rfl) | exact Or.inr (Or.inr rfl)) rfl rfl) rfl) (fun _ => rfl)) (pe_compD (own := [("_law_bit", 1)]) rfl nd__law_lists (pi_seqD (pe_nm (i := 0) rfl (by first | exact Or.inl rfl | exact Or.inr (Or.inl rfl) | exact Or.inr (Or.inr rfl)) rfl rfl)) (blkOk_by (N := N__law_lists) (sc := defScope (top 11)) (by decide +kernel)) (fun _ _ _ _ _ => (pg_nameD (i := 1) nd__law_lists rfl (by first | exact Or.inl rfl | exact Or.inr rfl) (by first | exact Or.inl rfl | exact Or.inr rfl) (.inl (Nat.zero_le _)))) (fun _ _ _ _ _ => pts_nilD) (fun _ _ _ _ _ => (pe_callD (ok__law_lists D m) (hr.mono (by omega)) rfl D.g__law_lists D.F__law_lists.kp D.B__law_lists (pr_val (pe_nm (i := 1) rfl (by first | exact Or.inl rfl | exact Or.inr (Or.inl rfl) | exact Or.inr (Or.inr rfl)) rfl rfl) pr_nil rfl) rfl rfl rfl)) (fun _ => rfl) (by decide)) (pe_nm (i := 0) rfl (by first | exact Or.inl rfl | exact Or.inr (Or.inl rfl) | exact Or.inr (Or.inr rfl)) rfl rfl))) pss_nilG))
abbrev N__law_same : List Str := ["_law_got", "_law_due", "_law_mine", "_law_its", "_law_lot_so"]
theorem nd__law_same : (N__law_same).Nodup := by decide +kernel
theorem sc__law_same : FnScope N__law_same ["_law_got", "_law_due"] (defScope (top 12)) := ⟨rfl, rfl, rfl, nd__law_same, rfl, by decide +kernel, by decide +kernel⟩
theorem ok__law_same (D : Ds K mg base) : ∀ m : Nat, FnOk P w K mg base (L2.CX P w) (m + 1) D.f__law_same D.fd__law_same ["_law_got", "_law_due"] (spD K (Sh.F__law_same m))
  | 0 => (fn_DD (N := N__law_same) (k := 0 + 0) (As := []) (G := gNone) D.F__law_same sc__law_same (by decide) fun cdv A outer s H E hr => pss_nothing)
  | m + 1 => (fn_DD (N := N__law_same) (k := m + 1 + 0) (As := []) D.F__law_same sc__law_same (by decide) fun cdv A outer s H E hr =>
    (pss_consG (ps_ifG (pt_tst (pe_isa2 (t := .list) (t2 := .tuple) rfl D.b_isinstance rfl D.b_list boot_list (by decide) rfl rfl D.b_tuple boot_tuple (by decide) rfl (pe_nm (i := 1) rfl (by first | exact Or.inl rfl | exact Or.inr (Or.inl rfl) | exact Or.inr (Or.inr rfl)) rfl rfl) rfl) (fun _ => rfl)) (pss_consG (ps_ifG (PW.pt (pw_orD (pt_cmp2 (opr_ne (Room.units hr)) (pe_isa1 (t := .list) rfl D.b_isinstance rfl D.b_list boot_list (by decide) rfl (pe_nm (i := 0) rfl (by first | exact Or.inl rfl | exact Or.inr (Or.inl rfl) | exact Or.inr (Or.inr rfl)) rfl rfl) rfl) (pe_isa1 (t := .list) rfl D.b_isinstance rfl D.b_list boot_list (by decide) rfl (pe_nm (i := 1) rfl (by first | exact Or.inl rfl | exact Or.inr (Or.inl rfl) | exact Or.inr (Or.inr rfl)) rfl rfl) rfl) rfl gb_ne) (pw_or1D (pt_cmp2 (opr_ne (Room.units hr)) (pe_isa1 (t := .tuple) rfl D.b_isinstance rfl D.b_tuple boot_tuple (by decide) rfl (pe_nm (i := 0) rfl (by first | exact Or.inl rfl | exact Or.inr (Or.inl rfl) | exact Or.inr (Or.inr rfl)) rfl rfl) rfl) (pe_isa1 (t := .tuple) rfl D.b_isinstance rfl D.b_tuple boot_tuple (by decide) rfl (pe_nm (i := 1) rfl (by first | exact Or.inl rfl | exact Or.inr (Or.inl rfl) | exact Or.inr (Or.inr rfl)) rfl rfl) rfl) rfl gb_ne)))) (pss_consG (ps_retG pe_cbl) pss_nilG) pss_nilG) (pss_consG (ps_retG (pe_andD (pe_cmp2 (opr_eq (Room.units hr)) (pe_b1 cr_len rfl D.b_len boot_len (pe_nm (i := 0) rfl (by first | exact Or.inl rfl | exact Or.inr (Or.inl rfl) | exact Or.inr (Or.inr rfl)) rfl rfl) (by decide) rfl rfl) (pe_b1 cr_len rfl D.b_len boot_len (pe_nm (i := 1) rfl (by first | exact Or.inl rfl | exact Or.inr (Or.inl rfl) | exact Or.inr (Or.inr rfl)) rfl rfl) (by decide) rfl rfl) rfl) (pe_one (pe_b1 (cr_allD rfl) rfl D.b_all boot_all (pe_compD (own := [("_law_mine", 2), ("_law_its", 3)]) rfl nd__law_same (pi_zipD rfl D.b_zip (pa_consD (pe_nm (i := 0) rfl (by first | exact Or.inl rfl | exact Or.inr (Or.inl rfl) | exact Or.inr (Or.inr rfl)) rfl rfl) (pa_consD (pe_nm (i := 1) rfl (by first | exact Or.inl rfl | exact Or.inr (Or.inl rfl) | exact Or.inr (Or.inr rfl)) rfl rfl) pa_nilD rfl) rfl) rfl rfl) (blkOk_by (N := N__law_same) (sc := defScope (top 12)) (by decide +kernel)) (fun _ _ _ _ _ => (pg_tupD rfl (pgs_consD (pg_nameD (i := 2) nd__law_same rfl (by first | exact Or.inl rfl | exact Or.inr rfl) (by first | exact Or.inl rfl | exact Or.inr rfl) (.inl (Nat.zero_le _))) (pgs_consD (pg_nameD (i := 3) nd__law_same rfl (by first | exact Or.inl rfl | exact Or.inr rfl) (by first | exact Or.inl rfl | exact Or.inr rfl) (.inl (Nat.zero_le _))) pgs_nilD rfl) rfl) rfl rfl rfl)) (fun _ _ _ _ _ => pts_nilD) (fun _ _ _ _ _ => (pe_callD (ok__law_same D m) (hr.mono (by omega)) rfl D.g__law_same D.F__law_same.kp D.B__law_same (pr_val (pe_nm (i := 2) rfl (by first | exact Or.inl rfl | exact Or.inr (Or.inl rfl) | exact Or.inr (Or.inr rfl)) rfl rfl) (pr_val (pe_nm (i := 3) rfl (by first | exact Or.inl rfl | exact Or.inr (Or.inl rfl) | exact Or.inr (Or.inr rfl)) rfl rfl) pr_nil rfl) rfl) rfl rfl rfl)) (fun _ => rfl) (by decide)) (by decide) rfl rfl)))) pss_nilG)) pss_nilG) (pss_consG (ps_ifG (pt_tst (pe_isa1 (t := .dict) rfl D.b_isinstance rfl D.b_dict boot_dict (by decide) rfl (pe_nm (i := 1) rfl (by first | exact Or.inl rfl | exact Or.inr (Or.inl rfl) | exact Or.inr (Or.inr rfl)) rfl rfl) rfl) (fun _ => rfl)) pss_nothing pss_nilG) (pss_consG (ps_ifG (PW.pt (pw_orD (pt_isND (pe_nm (i := 1) rfl (by first | exact Or.inl rfl | exact Or.inr (Or.inl rfl) | exact Or.inr (Or.inr rfl)) rfl rfl)) (pw_or1D (pt_tst (pe_isa2 (t := .bool) (t2 := .str) rfl D.b_isinstance rfl D.b_bool boot_bool (by decide) rfl rfl D.b_str boot_str (by decide) rfl (pe_nm (i := 1) rfl (by first | exact Or.inl rfl | exact Or.inr (Or.inl rfl) | exact Or.inr (Or.inr rfl)) rfl rfl) rfl) (fun _ => rfl))))) (pss_consG (ps_retG (pe_andD (pe_cmp2 (opr_eq (Room.units hr)) (pe_nm (i := 0) rfl (by first | exact Or.inl rfl | exact Or.inr (Or.inl rfl) | exact Or.inr (Or.inr rfl)) rfl rfl) (pe_nm (i := 1) rfl (by first | exact Or.inl rfl | exact Or.inr (Or.inl rfl) | exact Or.inr (Or.inr rfl)) rfl rfl) rfl) (pe_andD (pe_cmp2 (opr_eq (Room.units hr)) (pe_isa1 (t := .bool) rfl D.b_isinstance rfl D.b_bool boot_bool (by decide) rfl (pe_nm (i := 0) rfl (by first | exact Or.inl rfl | exact Or.inr (Or.inl rfl) | exact Or.inr (Or.inr rfl)) rfl rfl) rfl) (pe_isa1 (t := .bool) rfl D.b_isinstance rfl D.b_bool boot_bool (by decide) rfl (pe_nm (i := 1) rfl (by first | exact Or.inl rfl | exact Or.inr (Or.inl rfl) | exact Or.inr (Or.inr rfl)) rfl rfl) rfl) rfl) (pe_one (pe_cmp2 (opr_eq (Room.units hr)) (pe_isND (pe_nm (i := 0) rfl (by first | exact Or.inl rfl | exact Or.inr (Or.inl rfl) | exact Or.inr (Or.inr rfl)) rfl rfl)) (pe_isND (pe_nm (i := 1) rfl (by first | exact Or.inl rfl | exact Or.inr (Or.inl rfl) | exact Or.inr (Or.inr rfl)) rfl rfl)) rfl))))) pss_nilG) pss_nilG) (pss_consG (ps_retG (pe_andD (pe_isa1 (t := .int) rfl D.b_isinstance rfl D.b_int boot_int (by decide) rfl (pe_nm (i := 0) rfl (by first | exact Or.inl rfl | exact Or.inr (Or.inl rfl) | exact Or.inr (Or.inr rfl)) rfl rfl) rfl) (pe_andD (pe_notD (pe_isa1 (t := .bool) rfl D.b_isinstance rfl D.b_bool boot_bool (by decide) rfl (pe_nm (i := 0) rfl (by first | exact Or.inl rfl | exact Or.inr (Or.inl rfl) | exact Or.inr (Or.inr rfl)) rfl rfl) rfl)) (pe_one (pe_cmp2 (opr_eq (Room.units hr)) (pe_nm (i := 0) rfl (by first | exact Or.inl rfl | exact Or.inr (Or.inl rfl) | exact Or.inr (Or.inr rfl)) rfl rfl) (pe_nm (i := 1) rfl (by first | exact Or.inl rfl | exact Or.inr (Or.inl rfl) | exact Or.inr (Or.inr rfl)) rfl rfl) rfl))))) pss_nilG)))))
abbrev N__law_row : List Str := ["_law_tin", "_law_many", "_law_width", "_law_left_so", "_law_found", "_law_lap", "_law_sort", "_law_spot", "_law_own"]
theorem nd__law_row : (N__law_row).Nodup := by decide +kernel
theorem sc__law_row : FnScope N__law_row ["_law_tin", "_law_many", "_law_width"] (defScope (top 13)) := ⟨rfl, rfl, rfl, nd__law_row, rfl, by decide +kernel, by decide +kernel⟩
theorem ok__law_row (D : Ds K mg base) : FnOk P w K mg base (L2.CX P w) 3 D.f__law_row D.fd__law_row ["_law_tin", "_law_many", "_law_width"] (spD K Sh.F__law_row) :=
  fn_DD (N := N__law_row) (k := 2) (As := []) D.F__law_row sc__law_row (by decide) fun cdv A outer s H E hr =>
    (pss_consG (ps_parG (i := 3) (j := 4) rfl nd__law_row rfl rfl (by decide) rfl rfl (pk_consD (pe_lrg1D rfl rfl D.b_list rfl D.b_range (pe_nm (i := 2) rfl (by first | exact Or.inl rfl | exact Or.inr (Or.inl rfl) | exact Or.inr (Or.inr rfl)) rfl rfl) rfl rfl) (pk_consD (pe_lstD pa_nilD) pk_nilD rfl) rfl) rfl (.inl (by decide)) (.inl (by decide))) (pss_consG (ps_forG PassesOwn.never rfl (pi_rng1D rfl D.b_range (pa_consD (pe_callD (ok__law_take D) (hr.mono (by decide)) rfl D.g__law_take D.F__law_take.kp D.B__law_take (pr_box (pe_nm (i := 0) rfl (by first | exact Or.inl rfl | exact Or.inr (Or.inl rfl) | exact Or.inr (Or.inr rfl)) rfl rfl) (pr_val (pe_bin opr_add (pe_nm (i := 1) rfl (by first | exact Or.inl rfl | exact Or.inr (Or.inl rfl) | exact Or.inr (Or.inr rfl)) rfl rfl) pe_cint) pr_nil rfl) rfl) rfl rfl rfl) pa_nilD rfl) rfl) (pg_nameD (i := 5) nd__law_row rfl (by first | exact Or.inl rfl | exact Or.inr rfl) (by first | exact Or.inl rfl | exact Or.inr rfl) (.inl (by decide))) (pss_consG (ps_setG (i := 6) nd__law_row rfl (by first | exact Or.inl rfl | exact Or.inr rfl) (pe_callD (ok__law_take D) (hr.mono (by decide)) rfl D.g__law_take D.F__law_take.kp D.B__law_take (pr_box (pe_nm (i := 0) rfl (by first | exact Or.inl rfl | exact Or.inr (Or.inl rfl) | exact Or.inr (Or.inr rfl)) rfl rfl) (pr_val pe_cint pr_nil rfl) rfl) rfl rfl rfl) rfl (.inl rfl) (.inl (by decide))) (pss_consG (ps_ifG (pt_cmp2 (opr_eq (Room.units hr)) (pe_nm (i := 6) rfl (by first | exact Or.inl rfl | exact Or.inr (Or.inl rfl) | exact Or.inr (Or.inr rfl)) rfl rfl) pe_cint rfl gb_eq) (pss_consG (ps_dropG (pe_appD (i := 4) rfl (by first | exact Or.inl rfl | exact Or.inr (Or.inl rfl) | exact Or.inr (Or.inr rfl)) rfl rfl (pe_tupD (pa_consD pe_cstr (pa_consD (pe_bin opr_sub (pe_callD (ok__law_take D) (hr.mono (by decide)) rfl D.g__law_take D.F__law_take.kp D.B__law_take (pr_box (pe_nm (i := 0) rfl (by first | exact Or.inl rfl | exact Or.inr (Or.inl rfl) | exact Or.inr (Or.inr rfl)) rfl rfl) (pr_val pe_cint pr_nil rfl) rfl) rfl rfl rfl) pe_cint) pa_nilD rfl) rfl)) rfl rfl rfl rfl) rfl) pss_nilG) (pss_consG (ps_ifG (pt_cmp2 (opr_eq (Room.units hr)) (pe_nm (i := 6) rfl (by first | exact Or.inl rfl | exact Or.inr (Or.inl rfl) | exact Or.inr (Or.inr rfl)) rfl rfl) pe_cint rfl gb_eq) (pss_consG (ps_dropG (pe_appD (i := 4) rfl (by first | exact Or.inl rfl | exact Or.inr (Or.inl rfl) | exact Or.inr (Or.inr rfl)) rfl rfl (pe_tupD (pa_consD pe_cstr (pa_consD (pe_callD (ok__law_take D) (hr.mono (by decide)) rfl D.g__law_take D.F__law_take.kp D.B__law_take (pr_box (pe_nm (i := 0) rfl (by first | exact Or.inl rfl | exact Or.inr (Or.inl rfl) | exact Or.inr (Or.inr rfl)) rfl rfl) (pr_val pe_cint pr_nil rfl) rfl) rfl rfl rfl) pa_nilD rfl) rfl)) rfl rfl rfl rfl) rfl) pss_nilG) (pss_consG (ps_ifG (PW.pt (pw_orD (pt_cmp2 (opr_eq (Room.units hr)) (pe_nm (i := 6) rfl (by first | exact Or.inl rfl | exact Or.inr (Or.inl rfl) | exact Or.inr (Or.inr rfl)) rfl rfl) pe_cint rfl gb_eq) (pw_or1D (pt_cmp2 (opr_eq (Room.units hr)) (pe_nm (i := 3) rfl (by first | exact Or.inl rfl | exact Or.inr (Or.inl rfl) | exact Or.inr (Or.inr rfl)) rfl rfl) (pe_lstD pa_nilD) rfl gb_eq)))) (pss_consG (ps_dropG (pe_appD (i := 4) rfl (by first | exact Or.inl rfl | exact Or.inr (Or.inl rfl) | exact Or.inr (Or.inr rfl)) rfl rfl (pe_tupD (pa_consD pe_cstr (pa_consD (pe_bin opr_add pe_cint (pe_callD (ok__law_take D) (hr.mono (by decide)) rfl D.g__law_take D.F__law_take.kp D.B__law_take (pr_box (pe_nm (i := 0) rfl (by first | exact Or.inl rfl | exact Or.inr (Or.inl rfl) | exact Or.inr (Or.inr rfl)) rfl rfl) (pr_val pe_cint pr_nil rfl) rfl) rfl rfl rfl)) pa_nilD rfl) rfl)) rfl rfl rfl rfl) rfl) pss_nilG) (pss_consG (ps_setG (i := 7) nd__law_row rfl (by first | exact Or.inl rfl | exact Or.inr rfl) (pe_callD (ok__law_of D) (hr.mono (by decide)) rfl D.g__law_of D.F__law_of.kp D.B__law_of (pr_box (pe_nm (i := 0) rfl (by first | exact Or.inl rfl | exact Or.inr (Or.inl rfl) | exact Or.inr (Or.inr rfl)) rfl rfl) (pr_val (pe_nm (i := 3) rfl (by first | exact Or.inl rfl | exact Or.inr (Or.inl rfl) | exact Or.inr (Or.inr rfl)) rfl rfl) pr_nil rfl) rfl) rfl rfl rfl) rfl (.inl rfl) (.inl (by decide))) (pss_consG (ps_setCompD (i := 3) (own := [("_law_own", 8)]) rfl nd__law_row rfl rfl (sw_true rfl rfl rfl (by decide +kernel)) (pi_seqD (pe_nm (i := 3) rfl (by first | exact Or.inl rfl | exact Or.inr (Or.inl rfl) | exact Or.inr (Or.inr rfl)) rfl rfl)) (blkOk_by (N := N__law_row) (sc := defScope (top 13)) (by decide +kernel)) (fun _ _ _ _ _ => (pg_nameD (i := 8) nd__law_row rfl (by first | exact Or.inl rfl | exact Or.inr rfl) (by first | exact Or.inl rfl | exact Or.inr rfl) (.inl (Nat.zero_le _)))) (fun _ _ _ _ _ => (pts_one (pt_cmp2 (opr_ne (Room.units hr)) (pe_nm (i := 8) rfl (by first | exact Or.inl rfl | exact Or.inr (Or.inl rfl) | exact Or.inr (Or.inr rfl)) rfl rfl) (pe_nm (i := 7) rfl (by first | exact Or.inl rfl | exact Or.inr (Or.inl rfl) | exact Or.inr (Or.inr rfl)) rfl rfl) rfl gb_ne))) (fun _ _ _ _ _ => (pe_nm (i := 8) rfl (by first | exact Or.inl rfl | exact Or.inr (Or.inl rfl) | exact Or.inr (Or.inr rfl)) rfl rfl)) (fun _ => rfl) (by decide) (.inl (by decide))) (pss_consG (ps_dropG (pe_appD (i := 4) rfl (by first | exact Or.inl rfl | exact Or.inr (Or.inl rfl) | exact Or.inr (Or.inr rfl)) rfl rfl (pe_tupD (pa_consD pe_cstr (pa_consD (pe_nm (i := 7) rfl (by first | exact Or.inl rfl | exact Or.inr (Or.inl rfl) | exact Or.inr (Or.inr rfl)) rfl rfl) (pa_consD (pe_bin opr_add pe_cint (pe_callD (ok__law_take D) (hr.mono (by decide)) rfl D.g__law_take D.F__law_take.kp D.B__law_take (pr_box (pe_nm (i := 0) rfl (by first | exact Or.inl rfl | exact Or.inr (Or.inl rfl) | exact Or.inr (Or.inr rfl)) rfl rfl) (pr_val pe_cint pr_nil rfl) rfl) rfl rfl rfl)) pa_nilD rfl) rfl) rfl)) rfl rfl rfl rfl) rfl) pss_nilG)))) pss_nilG)) pss_nilG)) pss_nilG)) (fun _ => rfl)) (pss_consG (ps_retG (pe_t1 (cr_tuple rfl) rfl D.b_tuple boot_tuple (pe_nm (i := 4) rfl (by first | exact Or.inl rfl | exact Or.inr (Or.inl rfl) | exact Or.inr (Or.inr rfl)) rfl rfl) (by decide) rfl rfl)) pss_nilG)))
abbrev N__law_fine : List Str := ["_law_bit", "_law_own"]
def G__law_fine : FG := (gSeq (gIfS (fTOr (fTNot (fTst (fOne (gIsa [.tuple]) (fVar 0)))) (fTOr (fTst (fTwo gNotIn (fOne gLen (fVar 0)) (fTup (faCons (fCst (.int 2)) (faCons (fCst (.int 3)) faNil))))) (fTNot (fTst (fOne (gIsa [.str]) (fTwo gIx (fVar 0) (fCst (.int 0)))))))) (gSeq (gRet 1 (fCst (.bool false))) gSkip) gSkip) (gSeq (gIfS (fTst (fTwo gNe (fComp [1] (fiSeq (fSl (fVar 0) (foSome (fCst (.int 1))) foNone)) (bName 1) (fTOr (fTNot (fTst (fOne (gIsa [.int]) (fVar 1)))) (fTst (fOne (gIsa [.bool]) (fVar 1)))) (fVar 1)) (fLst faNil))) (gSeq (gRet 1 (fCst (.bool false))) gSkip) gSkip) (gSeq (gIfS (fTst (fTwo gEq (fOne gLen (fVar 0)) (fCst (.int 3)))) (gSeq (gRet 1 (fAnd (fTwo gEq (fTwo gIx (fVar 0) (fCst (.int 0))) (fCst (.str "each"))) (fAnd (fChain gLe gLe (fCst (.int 0)) (fTwo gIx (fVar 0) (fCst (.int 1))) (fCst (.int 2))) (fTwo gGe (fTwo gIx (fVar 0) (fCst (.int 2))) (fCst (.int 1)))))) gSkip) gSkip) (gSeq (gRet 1 (fOr (fTwo gEq (fTwo gIx (fVar 0) (fCst (.int 0))) (fCst (.str "floor"))) (fOr (fAnd (fTwo gEq (fTwo gIx (fVar 0) (fCst (.int 0))) (fCst (.str "near"))) (fTwo gGe (fTwo gIx (fVar 0) (fCst (.int 1))) (fCst (.int 0)))) (fAnd (fTwo gEq (fTwo gIx (fVar 0) (fCst (.int 0))) (fCst (.str "top"))) (fTwo gGe (fTwo gIx (fVar 0) (fCst (.int 1))) (fCst (.int 1))))))) gSkip))))
def F__law_fine : FS := fDef 2 1 [] G__law_fine
theorem nd__law_fine : (N__law_fine).Nodup := by decide +kernel
theorem sc__law_fine : FnScope N__law_fine ["_law_bit"] (defScope (top 14)) := ⟨rfl, rfl, rfl, nd__law_fine, rfl, by decide +kernel, by decide +kernel⟩
theorem ok__law_fine (D : Ds K mg base) : FnOk P w K mg base (L2.CX P w) 1 D.f__law_fine D.fd__law_fine ["_law_bit"] (spD K F__law_fine) :=
  fn_DD (N := N__law_fine) (k := 0) (As := []) D.F__law_fine sc__law_fine (by decide) fun cdv A outer s H E hr =>
    (pss_consG (ps_ifG (PW.pt (pw_orD (pt_notD (pt_tst (pe_isa1 (t := .tuple) rfl D.b_isinstance rfl D.b_tuple boot_tuple (by decide) rfl (pe_nm (i := 0) rfl (by first | exact Or.inl rfl | exact Or.inr (Or.inl rfl) | exact Or.inr (Or.inr rfl)) rfl rfl) rfl) (fun _ => rfl))) (pw_orD (pt_cmp2 (opr_notIn (Room.units hr)) (pe_b1 cr_len rfl D.b_len boot_len (pe_nm (i := 0) rfl (by first | exact Or.inl rfl | exact Or.inr (Or.inl rfl) | exact Or.inr (Or.inr rfl)) rfl rfl) (by decide) rfl rfl) (pe_tupD (pa_consD pe_cint (pa_consD pe_cint pa_nilD rfl) rfl)) rfl gb_notIn) (pw_or1D (pt_notD (pt_tst (pe_isa1 (t := .str) rfl D.b_isinstance rfl D.b_str boot_str (by decide) rfl (pe_ixD (pe_nm (i := 0) rfl (by first | exact Or.inl rfl | exact Or.inr (Or.inl rfl) | exact Or.inr (Or.inr rfl)) rfl rfl) pe_cint (fun _ _ => rfl)) rfl) (fun _ => rfl))))))) (pss_consG (ps_retG pe_cbl) pss_nilG) pss_nilG) (pss_consG (ps_ifG (pt_cmp2 (opr_ne (Room.units hr)) (pe_compD (own := [("_law_own", 1)]) rfl nd__law_fine (pi_seqD (pe_sliceD (pe_nm (i := 0) rfl (by first | exact Or.inl rfl | exact Or.inr (Or.inl rfl) | exact Or.inr (Or.inr rfl)) rfl rfl) (po_someD pe_cint) po_noneD)) (blkOk_by (N := N__law_fine) (sc := defScope (top 14)) (by decide +kernel)) (fun _ _ _ _ _ => (pg_nameD (i := 1) nd__law_fine rfl (by first | exact Or.inl rfl | exact Or.inr rfl) (by first | exact Or.inl rfl | exact Or.inr rfl) (.inl (Nat.zero_le _)))) (fun _ _ _ _ _ => (pts_one (PW.pt (pw_orD (pt_notD (pt_tst (pe_isa1 (t := .int) rfl D.b_isinstance rfl D.b_int boot_int (by decide) rfl (pe_nm (i := 1) rfl (by first | exact Or.inl rfl | exact Or.inr (Or.inl rfl) | exact Or.inr (Or.inr rfl)) rfl rfl) rfl) (fun _ => rfl))) (pw_or1D (pt_tst (pe_isa1 (t := .bool) rfl D.b_isinstance rfl D.b_bool boot_bool (by decide) rfl (pe_nm (i := 1) rfl (by first | exact Or.inl rfl | exact Or.inr (Or.inl rfl) | exact Or.inr (Or.inr rfl)) rfl rfl) rfl) (fun _ => rfl))))))) (fun _ _ _ _ _ => (pe_nm (i := 1) rfl (by first | exact Or.inl rfl | exact Or.inr (Or.inl rfl) | exact Or.inr (Or.inr rfl)) rfl rfl)) (fun _ => rfl) (by decide)) (pe_lstD pa_nilD) rfl gb_ne) (pss_consG (ps_retG pe_cbl) pss_nilG) pss_nilG) (pss_consG (ps_ifG (pt_cmp2 (opr_eq (Room.units hr)) (pe_b1 cr_len rfl D.b_len boot_len (pe_nm (i := 0) rfl (by first | exact Or.inl rfl | exact Or.inr (Or.inl rfl) | exact Or.inr (Or.inr rfl)) rfl rfl) (by decide) rfl rfl) pe_cint rfl gb_eq) (pss_consG (ps_retG (pe_andD (pe_cmp2 (opr_eq (Room.units hr)) (pe_ixD (pe_nm (i := 0) rfl (by first | exact Or.inl rfl | exact Or.inr (Or.inl rfl) | exact Or.inr (Or.inr rfl)) rfl rfl) pe_cint (fun _ _ => rfl)) pe_cstr rfl) (pe_andD (pe_chainD (opr_le (Room.units hr)) (opr_le (Room.units hr)) pe_cint (pe_ixD (pe_nm (i := 0) rfl (by first | exact Or.inl rfl | exact Or.inr (Or.inl rfl) | exact Or.inr (Or.inr rfl)) rfl rfl) pe_cint (fun _ _ => rfl)) pe_cint (by with_unfolding_all rfl)) (pe_one (pe_cmp2 (opr_ge (Room.units hr)) (pe_ixD (pe_nm (i := 0) rfl (by first | exact Or.inl rfl | exact Or.inr (Or.inl rfl) | exact Or.inr (Or.inr rfl)) rfl rfl) pe_cint (fun _ _ => rfl)) pe_cint rfl))))) pss_nilG) pss_nilG) (pss_consG (ps_retG (pe_orD (pe_cmp2 (opr_eq (Room.units hr)) (pe_ixD (pe_nm (i := 0) rfl (by first | exact Or.inl rfl | exact Or.inr (Or.inl rfl) | exact Or.inr (Or.inr rfl)) rfl rfl) pe_cint (fun _ _ => rfl)) pe_cstr rfl) (pe_orD (pe_andD (pe_cmp2 (opr_eq (Room.units hr)) (pe_ixD (pe_nm (i := 0) rfl (by first | exact Or.inl rfl | exact Or.inr (Or.inl rfl) | exact Or.inr (Or.inr rfl)) rfl rfl) pe_cint (fun _ _ => rfl)) pe_cstr rfl) (pe_one (pe_cmp2 (opr_ge (Room.units hr)) (pe_ixD (pe_nm (i := 0) rfl (by first | exact Or.inl rfl | exact Or.inr (Or.inl rfl) | exact Or.inr (Or.inr rfl)) rfl rfl) pe_cint (fun _ _ => rfl)) pe_cint rfl))) (pe_one (pe_andD (pe_cmp2 (opr_eq (Room.units hr)) (pe_ixD (pe_nm (i := 0) rfl (by first | exact Or.inl rfl | exact Or.inr (Or.inl rfl) | exact Or.inr (Or.inr rfl)) rfl rfl) pe_cint (fun _ _ => rfl)) pe_cstr rfl) (pe_one (pe_cmp2 (opr_ge (Room.units hr)) (pe_ixD (pe_nm (i := 0) rfl (by first | exact Or.inl rfl | exact Or.inr (Or.inl rfl) | exact Or.inr (Or.inr rfl)) rfl rfl) pe_cint (fun _ _ => rfl)) pe_cint rfl))))))) pss_nilG))))
abbrev N__law_is_row : List Str := ["_law_matter", "_law_bit", "_law_spots"]
def G__law_is_row : FG := (gSeq (gIfS (fTOr (fTNot (fTst (fOne (gIsa [.tuple]) (fVar 0)))) (fTst (fTwo gNe (fComp [1] (fiSeq (fVar 0)) (bName 1) (fTNot (fTst (fCall F__law_fine (frVal (fVar 1) frNil)))) (fVar 1)) (fLst faNil)))) (gSeq (gRet 1 (fCst (.bool false))) gSkip) gSkip) (gSeq (gSet 2 (fComp [1] (fiSeq (fVar 0)) (bName 1) (fTst (fTwo gEq (fTwo gIx (fVar 1) (fCst (.int 0))) (fCst (.str "each")))) (fTwo gIx (fVar 1) (fCst (.int 1))))) (gSeq (gRet 1 (fTwo gEq (fOne gLen (fVar 2)) (fOne gLS (fVar 2)))) gSkip)))
def F__law_is_row : FS := fDef 3 1 [] G__law_is_row
theorem nd__law_is_row : (N__law_is_row).Nodup := by decide +kernel
theorem sc__law_is_row : FnScope N__law_is_row ["_law_matter"] (defScope (top 15)) := ⟨rfl, rfl, rfl, nd__law_is_row, rfl, by decide +kernel, by decide +kernel⟩
theorem ok__law_is_row (D : Ds K mg base) : FnOk P w K mg base (L2.CX P w) 2 D.f__law_is_row D.fd__law_is_row ["_law_matter"] (spD K F__law_is_row) :=
  fn_DD (N := N__law_is_row) (k := 1) (As := []) D.F__law_is_row sc__law_is_row (by decide) fun cdv A outer s H E hr =>
    (pss_consG (ps_ifG (PW.pt (pw_orD (pt_notD (pt_tst (pe_isa1 (t := .tuple) rfl D.b_isinstance rfl D.b_tuple boot_tuple (by decide) rfl (pe_nm (i := 0) rfl (by first | exact Or.inl rfl | exact Or.inr (Or.inl rfl) | exact Or.inr (Or.inr rfl)) rfl rfl) rfl) (fun _ => rfl))) (pw_or1D (pt_cmp2 (opr_ne (Room.units hr)) (pe_compD (own := [("_law_bit", 1)]) rfl nd__law_is_row (pi_seqD (pe_nm (i := 0) rfl (by first | exact Or.inl rfl | exact Or.inr (Or.inl rfl) | exact Or.inr (Or.inr rfl)) rfl rfl)) (blkOk_by (N := N__law_is_row) (sc := defScope (top 15)) (by decide +kernel)) (fun _ _ _ _ _ => (pg_nameD (i := 1) nd__law_is_row rfl (by first | exact Or.inl rfl | exact Or.inr rfl) (by first | exact Or.inl rfl | exact Or.inr rfl) (.inl (Nat.zero_le _)))) (fun _ _ _ _ _ => (pts_one (pt_notD (pt_tst (pe_callD (ok__law_fine D) (hr.mono (by decide)) rfl D.g__law_fine D.F__law_fine.kp D.B__law_fine (pr_val (pe_nm (i := 1) rfl (by first | exact Or.inl rfl | exact Or.inr (Or.inl rfl) | exact Or.inr (Or.inr rfl)) rfl rfl) pr_nil rfl) rfl rfl rfl) (fun _ => rfl))))) (fun _ _ _ _ _ => (pe_nm (i := 1) rfl (by first | exact Or.inl rfl | exact Or.inr (Or.inl rfl) | exact Or.inr (Or.inr rfl)) rfl rfl)) (fun _ => rfl) (by decide)) (pe_lstD pa_nilD) rfl gb_ne)))) (pss_consG (ps_retG pe_cbl) pss_nilG) pss_nilG) (pss_consG (ps_setCompD (i := 2) (own := [("_law_bit", 1)]) rfl nd__law_is_row rfl rfl (sw_true rfl rfl rfl (by decide +kernel)) (pi_seqD (pe_nm (i := 0) rfl (by first | exact Or.inl rfl | exact Or.inr (Or.inl rfl) | exact Or.inr (Or.inr rfl)) rfl rfl)) (blkOk_by (N := N__law_is_row) (sc := defScope (top 15)) (by decide +kernel)) (fun _ _ _ _ _ => (pg_nameD (i := 1) nd__law_is_row rfl (by first | exact Or.inl rfl | exact Or.inr rfl) (by first | exact Or.inl rfl | exact Or.inr rfl) (.inl (Nat.zero_le _)))) (fun _ _ _ _ _ => (pts_one (pt_cmp2 (opr_eq (Room.units hr)) (pe_ixD (pe_nm (i := 1) rfl (by first | exact Or.inl rfl | exact Or.inr (Or.inl rfl) | exact Or.inr (Or.inr rfl)) rfl rfl) pe_cint (fun _ _ => rfl)) pe_cstr rfl gb_eq))) (fun _ _ _ _ _ => (pe_ixD (pe_nm (i := 1) rfl (by first | exact Or.inl rfl | exact Or.inr (Or.inl rfl) | exact Or.inr (Or.inr rfl)) rfl rfl) pe_cint (fun _ _ => rfl))) (fun _ => rfl) (by decide) (.inl (by decide))) (pss_consG (ps_retG (pe_cmp2 (opr_eq (Room.units hr)) (pe_b1 cr_len rfl D.b_len boot_len (pe_nm (i := 2) rfl (by first | exact Or.inl rfl | exact Or.inr (Or.inl rfl) | exact Or.inr (Or.inr rfl)) rfl rfl) (by decide) rfl rfl) (pe_lenSetD rfl rfl D.b_len rfl D.b_set (pe_nm (i := 2) rfl (by first | exact Or.inl rfl | exact Or.inr (Or.inl rfl) | exact Or.inr (Or.inr rfl)) rfl rfl) rfl) rfl)) pss_nilG)))
abbrev N__law_hand_right : List Str := ["_law_far", "_law_fine_here", "_law_odd", "_law_got", "_law_own", "_law_due", "_law_rows"]
def G__law_hand_right : FG := (gSeq (gSet 0 (fTwo gPow (fCst (.int 10)) (fCst (.int 41)))) (gSeq (gSet 1 (fLst (faCons (fTup (faCons (fCst (.str "floor")) (faCons (fOne gNeg (fCst (.int 3))) faNil))) (faCons (fTup (faCons (fCst (.str "floor")) (faCons (fVar 0) faNil))) (faCons (fTup (faCons (fCst (.str "near")) (faCons (fCst (.int 0)) faNil))) (faCons (fTup (faCons (fCst (.str "near")) (faCons (fVar 0) faNil))) (faCons (fTup (faCons (fCst (.str "each")) (faCons (fCst (.int 0)) (faCons (fCst (.int 1)) faNil)))) (faCons (fTup (faCons (fCst (.str "each")) (faCons (fCst (.int 2)) (faCons (fVar 0) faNil)))) faNil)))))))) (gSeq (gSet 1 (fTwo gAdd (fVar 1) (fLst (faCons (fTup (faCons (fCst (.str "top")) (faCons (fCst (.int 1)) faNil))) (faCons (fTup (faCons (fCst (.str "top")) (faCons (fVar 0) faNil))) faNil))))) (gSeq (gSet 2 (fLst (faCons (fTup (faCons (fCst (.str "floor")) faNil)) (faCons (fTup (faCons (fCst (.str "floor")) (faCons (fCst (.int 1)) (faCons (fCst (.int 2)) faNil)))) (faCons (fTup (faCons (fCst (.str "floor")) (faCons (fCst (.bool true)) faNil))) (faCons (fTup (faCons (fCst (.str "floor")) (faCons (fCst .none) faNil))) (faCons (fTup (faCons (fCst (.str "floor")) (faCons (fCst (.str "1")) faNil))) (faCons (fTup (faCons (fCst (.str "near")) (faCons (fOne gNeg (fCst (.int 1))) faNil))) faNil)))))))) (gSeq (gSet 2 (fTwo gAdd (fVar 2) (fLst (faCons (fTup (faCons (fCst (.str "near")) (faCons (fCst (.bool true)) faNil))) (faCons (fTup (faCons (fCst (.str "near")) faNil)) faNil))))) (gSeq (gSet 2 (fTwo gAdd (fVar 2) (fLst (faCons (fTup (faCons (fCst (.str "each")) (faCons (fCst (.int 0)) faNil))) (faCons (fTup (faCons (fCst (.str "each")) (faCons (fCst (.int 3)) (faCons (fCst (.int 1)) faNil)))) (faCons (fTup (faCons (fCst (.str "each")) (faCons (fOne gNeg (fCst (.int 1))) (faCons (fCst (.int 1)) faNil)))) (faCons (fTup (faCons (fCst (.str "each")) (faCons (fCst (.int 0)) (faCons (fCst (.int 0)) faNil)))) (faCons (fTup (faCons (fCst (.str "each")) (faCons (fCst (.int 0)) (faCons (fOne gNeg (fCst (.int 2))) faNil)))) faNil)))))))) (gSeq (gSet 2 (fTwo gAdd (fVar 2) (fLst (faCons (fTup (faCons (fCst (.str "each")) (faCons (fCst (.bool true)) (faCons (fCst (.int 1)) faNil)))) (faCons (fTup (faCons (fCst (.str "each")) (faCons (fCst (.int 0)) (faCons (fCst (.bool true)) faNil)))) faNil))))) (gSeq (gSet 2 (fTwo gAdd (fVar 2) (fLst (faCons (fTup (faCons (fCst (.str "each")) (faCons (fCst (.int 0)) (faCons (fCst (.int 1)) (faCons (fCst (.int 1)) faNil))))) (faCons (fTup (faCons (fCst (.str "top")) (faCons (fCst (.int 0)) faNil))) (faCons (fTup (faCons (fCst (.str "top")) (faCons (fOne gNeg (fCst (.int 1))) faNil))) (faCons (fTup (faCons (fCst (.str "top")) (faCons (fCst (.int 1)) (faCons (fCst (.int 1)) faNil)))) (faCons (fTup (faCons (fCst (.str "top")) (faCons (fCst (.bool false)) faNil))) (faCons (fLst (faCons (fCst (.str "top")) (faCons (fCst (.int 2)) faNil))) (faCons (fCst (.str "top")) faNil)))))))))) (gSeq (gSet 2 (fTwo gAdd (fVar 2) (fLst (faCons (fTup (faCons (fCst (.str "TOP")) (faCons (fCst (.int 2)) faNil))) (faCons (fTup (faCons (fCst (.str "tops")) (faCons (fCst (.int 2)) faNil))) faNil))))) (gSeq (gSet 2 (fTwo gAdd (fVar 2) (fLst (faCons (fTup faNil) (faCons (fCst .none) (faCons (fCst (.int 0)) (faCons (fCst (.bool true)) (faCons (fTup (faCons (fCst (.int 2)) (faCons (fCst (.str "top")) faNil))) (faCons (fTup (faCons (fTup (faCons (fCst (.str "top")) (faCons (fCst (.int 2)) faNil))) faNil)) (faCons (fTup (faCons (fCst (.str "top")) (faCons (fTup (faCons (fCst (.int 2)) faNil)) faNil))) (faCons (fTup (faCons (fCst (.str "each")) (faCons (fTup (faCons (fCst (.int 0)) faNil)) (faCons (fCst (.int 1)) faNil)))) (faCons (fTup (faCons (fCst (.str "top\n")) (faCons (fCst (.int 2)) faNil))) faNil)))))))))))) (gSeq (gSet 2 (fTwo gAdd (fVar 2) (fLst (faCons (fTup (faCons (fLst (faCons (fCst (.str "top")) faNil)) (faCons (fCst (.int 2)) faNil))) (faCons (fTup (faCons (fTup (faCons (fCst (.str "top")) faNil)) (faCons (fCst (.int 2)) faNil))) faNil))))) (gSeq (gSet 3 (fLst (faCons (fComp [4] (fiSeq (fVar 1)) (bName 4) fTYes (fCall Sh.F_is_step (frVal (fVar 4) frNil))) (faCons (fComp [4] (fiSeq (fVar 2)) (bName 4) fTYes (fCall Sh.F_is_step (frVal (fVar 4) frNil))) faNil)))) (gSeq (gSet 5 (fLst (faCons (fTwo gMulL (fLst (faCons (fCst (.bool true)) faNil)) (fOne gLen (fVar 1))) (faCons (fTwo gMulL (fLst (faCons (fCst (.bool false)) faNil)) (fOne gLen (fVar 2))) faNil)))) (gSeq (gSet 6 (fLst (faCons (fTup faNil) (faCons (fTup (faCons (fTup (faCons (fCst (.str "top")) (faCons (fCst (.int 2)) faNil))) faNil)) (faCons (fTup (faCons (fTup (faCons (fCst (.str "each")) (faCons (fCst (.int 0)) (faCons (fCst (.int 1)) faNil)))) (faCons (fTup (faCons (fCst (.str "each")) (faCons (fCst (.int 1)) (faCons (fCst (.int 1)) faNil)))) (faCons (fTup (faCons (fCst (.str "each")) (faCons (fCst (.int 2)) (faCons (fCst (.int 1)) faNil)))) faNil)))) faNil))))) (gSeq (gSet 6 (fTwo gAdd (fVar 6) (fLst (faCons (fTup (faCons (fTup (faCons (fCst (.str "floor")) (faCons (fCst (.int 1)) faNil))) (faCons (fTup (faCons (fCst (.str "floor")) (faCons (fCst (.int 2)) faNil))) (faCons (fTup (faCons (fCst (.str "near")) (faCons (fCst (.int 1)) faNil))) (faCons (fTup (faCons (fCst (.str "near")) (faCons (fCst (.int 1)) faNil))) faNil))))) faNil)))) (gSeq (gSet 6 (fTwo gAdd (fVar 6) (fLst (faCons (fTup (faCons (fTup (faCons (fCst (.str "top")) (faCons (fCst (.int 3)) faNil))) (faCons (fTup (faCons (fCst (.str "top")) (faCons (fCst (.int 3)) faNil))) faNil))) (faCons (fTwo gMulT (fTup (faCons (fTup (faCons (fCst (.str "top")) (faCons (fCst (.int 3)) faNil))) faNil)) (fCst (.int 12))) (faCons (fOne gTuple (fSl (fVar 1) foNone (foSome (fCst (.int 4))))) faNil)))))) (gSeq (gSet 2 (fLst (faCons (fTup (faCons (fTup (faCons (fCst (.str "each")) (faCons (fCst (.int 0)) (faCons (fCst (.int 1)) faNil)))) (faCons (fTup (faCons (fCst (.str "each")) (faCons (fCst (.int 0)) (faCons (fCst (.int 2)) faNil)))) faNil))) (faCons (fTup (faCons (fTup (faCons (fCst (.str "each")) (faCons (fCst (.int 0)) (faCons (fCst (.int 1)) faNil)))) (faCons (fTup (faCons (fCst (.str "top")) (faCons (fCst (.int 2)) faNil))) (faCons (fTup (faCons (fCst (.str "each")) (faCons (fCst (.int 0)) (faCons (fCst (.int 1)) faNil)))) faNil)))) (faCons (fLst (faCons (fTup (faCons (fCst (.str "top")) (faCons (fCst (.int 2)) faNil))) faNil)) faNil))))) (gSeq (gSet 2 (fTwo gAdd (fVar 2) (fLst (faCons (fTup (faCons (fLst (faCons (fCst (.str "top")) (faCons (fCst (.int 2)) faNil))) faNil)) (faCons (fTup (faCons (fTup (faCons (fCst (.str "top")) (faCons (fCst (.int 0)) faNil))) faNil)) faNil))))) (gSeq (gSet 2 (fTwo gAdd (fVar 2) (fLst (faCons (fTup (faCons (fCst (.str "top")) (faCons (fCst (.int 2)) faNil))) (faCons (fCst .none) (faCons (fCst (.int 0)) (faCons (fCst (.str "")) (faCons (fCst (.str "top")) (faCons (fCst (.bool true)) (faCons (fTup (faCons (fTup faNil) faNil)) (faCons (fTup (faCons (fCst .none) faNil)) (faCons (fTup (faCons (fTup (faCons (fCst (.str "top")) (faCons (fCst (.int 2)) faNil))) (faCons (fCst .none) faNil))) (faCons (fTup (faCons (fTup (faCons (fTup (faCons (fCst (.str "top")) (faCons (fCst (.int 2)) faNil))) faNil)) faNil)) faNil))))))))))))) (gSeq (gSet 2 (fTwo gAdd (fVar 2) (fLst (faCons (fTup (faCons (fTup (faCons (fCst (.str "near")) (faCons (fOne gNeg (fCst (.int 1))) faNil))) faNil)) (faCons (fLst faNil) (faCons (fTup (faCons (fTup (faCons (fCst (.str "top")) (faCons (fCst (.int 2)) faNil))) (faCons (fCst (.str "top")) faNil))) faNil)))))) (gSeq (gDrop (fApp 2 (fOne gTuple (fVar 1)))) (gSeq (gSet 3 (fTwo gAdd (fVar 3) (fLst (faCons (fComp [4] (fiSeq (fVar 6)) (bName 4) fTYes (fCall Sh.F_is_word (frVal (fVar 4) frNil))) (faCons (fComp [4] (fiSeq (fVar 2)) (bName 4) fTYes (fCall Sh.F_is_word (frVal (fVar 4) frNil))) faNil))))) (gSeq (gSet 5 (fTwo gAdd (fVar 5) (fLst (faCons (fTwo gMulL (fLst (faCons (fCst (.bool true)) faNil)) (fOne gLen (fVar 6))) (faCons (fTwo gAdd (fTwo gMulL (fLst (faCons (fCst (.bool false)) faNil)) (fTwo gSub (fOne gLen (fVar 2)) (fCst (.int 1)))) (fLst (faCons (fCst (.bool true)) faNil))) faNil))))) (gSeq (gSet 3 (fTwo gAdd (fVar 3) (fLst (faCons (fCall Sh.F_kinds_in (frVal (fTup faNil) frNil)) (faCons (fCall Sh.F_kinds_in (frVal (fTup (faCons (fTup (faCons (fCst (.str "each")) (faCons (fCst (.int 2)) (faCons (fCst (.int 1)) faNil)))) (faCons (fTup (faCons (fCst (.str "top")) (faCons (fCst (.int 2)) faNil))) (faCons (fTup (faCons (fCst (.str "each")) (faCons (fCst (.int 0)) (faCons (fCst (.int 3)) faNil)))) faNil)))) frNil)) faNil))))) (gSeq (gSet 3 (fTwo gAdd (fVar 3) (fLst (faCons (fCallK Sh.F_kinds_in (frVal (fLst (faCons (fLst (faCons (fCst (.str "each")) (faCons (fCst (.int 1)) (faCons (fCst (.int 1)) faNil)))) (faCons (fTup (faCons (fCst (.str "near")) (faCons (fCst (.int 0)) faNil))) faNil))) frNil) 1 [0]) faNil)))) (gSeq (gSet 3 (fTwo gAdd (fVar 3) (fLst (faCons (fCallK Sh.F_is_step (frVal (fTup (faCons (fCst (.str "top")) (faCons (fCst (.int 1)) faNil))) frNil) 1 [0]) (faCons (fCallK Sh.F_is_word (frVal (fTup (faCons (fTup (faCons (fCst (.str "top")) (faCons (fCst (.int 1)) faNil))) faNil)) frNil) 1 [0]) faNil))))) (gSeq (gRet 0 (fCall (Sh.F__law_same 8) (frVal (fVar 3) (frVal (fTwo gAdd (fVar 5) (fLst (faCons (fTup faNil) (faCons (fTup (faCons (fCst (.int 2)) (faCons (fCst (.int 0)) faNil))) (faCons (fTup (faCons (fCst (.int 1)) faNil)) (faCons (fCst (.bool true)) (faCons (fCst (.bool true)) faNil))))))) frNil)))) gSkip)))))))))))))))))))))))))))
def F__law_hand_right : FS := fDef 7 0 [] G__law_hand_right
theorem nd__law_hand_right : (N__law_hand_right).Nodup := by decide +kernel
theorem sc__law_hand_right : FnScope N__law_hand_right [] (defScope (top 16)) := ⟨rfl, rfl, rfl, nd__law_hand_right, rfl, by decide +kernel, by decide +kernel⟩
theorem ok__law_hand_right (D : Ds K mg base) : FnOk P w K mg base (L2.CX P w) 10 D.f__law_hand_right D.fd__law_hand_right [] (spD K F__law_hand_right) :=
  fn_DD (N := N__law_hand_right) (k := 9) (As := []) D.F__law_hand_right sc__law_hand_right (by decide) fun cdv A outer s H E hr =>
    (pss_consG (ps_setG (i := 0) nd__law_hand_right rfl (by first | exact Or.inl rfl | exact Or.inr rfl) (pe_bin opr_pow pe_cint pe_cint) rfl (.inl rfl) (.inl (by decide))) (pss_consG (ps_setG (i := 1) nd__law_hand_right rfl (by first | exact Or.inl rfl | exact Or.inr rfl) (pe_lstD (pa_consD (pe_tupD (pa_consD pe_cstr (pa_consD (pe_negD pe_cint) pa_nilD rfl) rfl)) (pa_consD (pe_tupD (pa_consD pe_cstr (pa_consD (pe_nm (i := 0) rfl (by first | exact Or.inl rfl | exact Or.inr (Or.inl rfl) | exact Or.inr (Or.inr rfl)) rfl rfl) pa_nilD rfl) rfl)) (pa_consD (pe_tupD (pa_consD pe_cstr (pa_consD pe_cint pa_nilD rfl) rfl)) (pa_consD (pe_tupD (pa_consD pe_cstr (pa_consD (pe_nm (i := 0) rfl (by first | exact Or.inl rfl | exact Or.inr (Or.inl rfl) | exact Or.inr (Or.inr rfl)) rfl rfl) pa_nilD rfl) rfl)) (pa_consD (pe_tupD (pa_consD pe_cstr (pa_consD pe_cint (pa_consD pe_cint pa_nilD rfl) rfl) rfl)) (pa_consD (pe_tupD (pa_consD pe_cstr (pa_consD pe_cint (pa_consD (pe_nm (i := 0) rfl (by first | exact Or.inl rfl | exact Or.inr (Or.inl rfl) | exact Or.inr (Or.inr rfl)) rfl rfl) pa_nilD rfl) rfl) rfl)) pa_nilD rfl) rfl) rfl) rfl) rfl) rfl)) rfl (.inl rfl) (.inl (by decide))) (pss_consG (ps_setG (i := 1) nd__law_hand_right rfl (by first | exact Or.inl rfl | exact Or.inr rfl) (pe_bin opr_add (pe_nm (i := 1) rfl (by first | exact Or.inl rfl | exact Or.inr (Or.inl rfl) | exact Or.inr (Or.inr rfl)) rfl rfl) (pe_lstD (pa_consD (pe_tupD (pa_consD pe_cstr (pa_consD pe_cint pa_nilD rfl) rfl)) (pa_consD (pe_tupD (pa_consD pe_cstr (pa_consD (pe_nm (i := 0) rfl (by first | exact Or.inl rfl | exact Or.inr (Or.inl rfl) | exact Or.inr (Or.inr rfl)) rfl rfl) pa_nilD rfl) rfl)) pa_nilD rfl) rfl))) rfl (.inl rfl) (.inl (by decide))) (pss_consG (ps_setG (i := 2) nd__law_hand_right rfl (by first | exact Or.inl rfl | exact Or.inr rfl) (pe_lstD (pa_consD (pe_tupD (pa_consD pe_cstr pa_nilD rfl)) (pa_consD (pe_tupD (pa_consD pe_cstr (pa_consD pe_cint (pa_consD pe_cint pa_nilD rfl) rfl) rfl)) (pa_consD (pe_tupD (pa_consD pe_cstr (pa_consD pe_cbl pa_nilD rfl) rfl)) (pa_consD (pe_tupD (pa_consD pe_cstr (pa_consD pe_cnon pa_nilD rfl) rfl)) (pa_consD (pe_tupD (pa_consD pe_cstr (pa_consD pe_cstr pa_nilD rfl) rfl)) (pa_consD (pe_tupD (pa_consD pe_cstr (pa_consD (pe_negD pe_cint) pa_nilD rfl) rfl)) pa_nilD rfl) rfl) rfl) rfl) rfl) rfl)) rfl (.inl rfl) (.inl (by decide))) (pss_consG (ps_setG (i := 2) nd__law_hand_right rfl (by first | exact Or.inl rfl | exact Or.inr rfl) (pe_bin opr_add (pe_nm (i := 2) rfl (by first | exact Or.inl rfl | exact Or.inr (Or.inl rfl) | exact Or.inr (Or.inr rfl)) rfl rfl) (pe_lstD (pa_consD (pe_tupD (pa_consD pe_cstr (pa_consD pe_cbl pa_nilD rfl) rfl)) (pa_consD (pe_tupD (pa_consD pe_cstr pa_nilD rfl)) pa_nilD rfl) rfl))) rfl (.inl rfl) (.inl (by decide))) (pss_consG (ps_setG (i := 2) nd__law_hand_right rfl (by first | exact Or.inl rfl | exact Or.inr rfl) (pe_bin opr_add (pe_nm (i := 2) rfl (by first | exact Or.inl rfl | exact Or.inr (Or.inl rfl) | exact Or.inr (Or.inr rfl)) rfl rfl) (pe_lstD (pa_consD (pe_tupD (pa_consD pe_cstr (pa_consD pe_cint pa_nilD rfl) rfl)) (pa_consD (pe_tupD (pa_consD pe_cstr (pa_consD pe_cint (pa_consD pe_cint pa_nilD rfl) rfl) rfl)) (pa_consD (pe_tupD (pa_consD pe_cstr (pa_consD (pe_negD pe_cint) (pa_consD pe_cint pa_nilD rfl) rfl) rfl)) (pa_consD (pe_tupD (pa_consD pe_cstr (pa_consD pe_cint (pa_consD pe_cint pa_nilD rfl) rfl) rfl)) (pa_consD (pe_tupD (pa_consD pe_cstr (pa_consD pe_cint (pa_consD (pe_negD pe_cint) pa_nilD rfl) rfl) rfl)) pa_nilD rfl) rfl) rfl) rfl) rfl))) rfl (.inl rfl) (.inl (by decide))) (pss_consG (ps_setG (i := 2) nd__law_hand_right rfl (by first | exact Or.inl rfl | exact Or.inr rfl) (pe_bin opr_add (pe_nm (i := 2) rfl (by first | exact Or.inl rfl | exact Or.inr (Or.inl rfl) | exact Or.inr (Or.inr rfl)) rfl rfl) (pe_lstD (pa_consD (pe_tupD (pa_consD pe_cstr (pa_consD pe_cbl (pa_consD pe_cint pa_nilD rfl) rfl) rfl)) (pa_consD (pe_tupD (pa_consD pe_cstr (pa_consD pe_cint (pa_consD pe_cbl pa_nilD rfl) rfl) rfl)) pa_nilD rfl) rfl))) rfl (.inl rfl) (.inl (by decide))) (pss_consG (ps_setG (i := 2) nd__law_hand_right rfl (by first | exact Or.inl rfl | exact Or.inr rfl) (pe_bin opr_add (pe_nm (i := 2) rfl (by first | exact Or.inl rfl | exact Or.inr (Or.inl rfl) | exact Or.inr (Or.inr rfl)) rfl rfl) (pe_lstD (pa_consD (pe_tupD (pa_consD pe_cstr (pa_consD pe_cint (pa_consD pe_cint (pa_consD pe_cint pa_nilD rfl) rfl) rfl) rfl)) (pa_consD (pe_tupD (pa_consD pe_cstr (pa_consD pe_cint pa_nilD rfl) rfl)) (pa_consD (pe_tupD (pa_consD pe_cstr (pa_consD (pe_negD pe_cint) pa_nilD rfl) rfl)) (pa_consD (pe_tupD (pa_consD pe_cstr (pa_consD pe_cint (pa_consD pe_cint pa_nilD rfl) rfl) rfl)) (pa_consD (pe_tupD (pa_consD pe_cstr (pa_consD pe_cbl pa_nilD rfl) rfl)) (pa_consD (pe_lstD (pa_consD pe_cstr (pa_consD pe_cint pa_nilD rfl) rfl)) (pa_consD pe_cstr pa_nilD rfl) rfl) rfl) rfl) rfl) rfl) rfl))) rfl (.inl rfl) (.inl (by decide))) (pss_consG (ps_setG (i := 2) nd__law_hand_right rfl (by first | exact Or.inl rfl | exact Or.inr rfl) (pe_bin opr_add (pe_nm (i := 2) rfl (by first | exact Or.inl rfl | exact Or.inr (Or.inl rfl) | exact Or.inr (Or.inr rfl)) rfl rfl) (pe_lstD (pa_consD (pe_tupD (pa_consD pe_cstr (pa_consD pe_cint pa_nilD rfl) rfl)) (pa_consD (pe_tupD (pa_consD pe_cstr (pa_consD pe_cint pa_nilD rfl) rfl)) pa_nilD rfl) rfl))) rfl (.inl rfl) (.inl (by decide))) (pss_consG (ps_setG (i := 2) nd__law_hand_right rfl (by first | exact Or.inl rfl | exact Or.inr rfl) (pe_bin opr_add (pe_nm (i := 2) rfl (by first | exact Or.inl rfl | exact Or.inr (Or.inl rfl) | exact Or.inr (Or.inr rfl)) rfl rfl) (pe_lstD (pa_consD (pe_tupD pa_nilD) (pa_consD pe_cnon (pa_consD pe_cint (pa_consD pe_cbl (pa_consD (pe_tupD (pa_consD pe_cint (pa_consD pe_cstr pa_nilD rfl) rfl)) (pa_consD (pe_tupD (pa_consD (pe_tupD (pa_consD pe_cstr (pa_consD pe_cint pa_nilD rfl) rfl)) pa_nilD rfl)) (pa_consD (pe_tupD (pa_consD pe_cstr (pa_consD (pe_tupD (pa_consD pe_cint pa_nilD rfl)) pa_nilD rfl) rfl)) (pa_consD (pe_tupD (pa_consD pe_cstr (pa_consD (pe_tupD (pa_consD pe_cint pa_nilD rfl)) (pa_consD pe_cint pa_nilD rfl) rfl) rfl)) (pa_consD (pe_tupD (pa_consD pe_cstr (pa_consD pe_cint pa_nilD rfl) rfl)) pa_nilD rfl) rfl) rfl) rfl) rfl) rfl) rfl) rfl) rfl))) rfl (.inl rfl) (.inl (by decide))) (pss_consG (ps_setG (i := 2) nd__law_hand_right rfl (by first | exact Or.inl rfl | exact Or.inr rfl) (pe_bin opr_add (pe_nm (i := 2) rfl (by first | exact Or.inl rfl | exact Or.inr (Or.inl rfl) | exact Or.inr (Or.inr rfl)) rfl rfl) (pe_lstD (pa_consD (pe_tupD (pa_consD (pe_lstD (pa_consD pe_cstr pa_nilD rfl)) (pa_consD pe_cint pa_nilD rfl) rfl)) (pa_consD (pe_tupD (pa_consD (pe_tupD (pa_consD pe_cstr pa_nilD rfl)) (pa_consD pe_cint pa_nilD rfl) rfl)) pa_nilD rfl) rfl))) rfl (.inl rfl) (.inl (by decide))) (pss_consG (ps_setG (i := 3) nd__law_hand_right rfl (by first | exact Or.inl rfl | exact Or.inr rfl) (pe_lstD (pa_consD (pe_compD (own := [("_law_own", 4)]) rfl nd__law_hand_right (pi_seqD (pe_nm (i := 1) rfl (by first | exact Or.inl rfl | exact Or.inr (Or.inl rfl) | exact Or.inr (Or.inr rfl)) rfl rfl)) (blkOk_by (N := N__law_hand_right) (sc := defScope (top 16)) (by decide +kernel)) (fun _ _ _ _ _ => (pg_nameD (i := 4) nd__law_hand_right rfl (by first | exact Or.inl rfl | exact Or.inr rfl) (by first | exact Or.inl rfl | exact Or.inr rfl) (.inl (Nat.zero_le _)))) (fun _ _ _ _ _ => pts_nilD) (fun _ _ _ _ _ => (pe_callD (ok_is_step D) (hr.mono (by decide)) rfl D.g_is_step D.F_is_step.kp D.B_is_step (pr_val (pe_nm (i := 4) rfl (by first | exact Or.inl rfl | exact Or.inr (Or.inl rfl) | exact Or.inr (Or.inr rfl)) rfl rfl) pr_nil rfl) rfl rfl rfl)) (fun _ => rfl) (by decide)) (pa_consD (pe_compD (own := [("_law_own", 4)]) rfl nd__law_hand_right (pi_seqD (pe_nm (i := 2) rfl (by first | exact Or.inl rfl | exact Or.inr (Or.inl rfl) | exact Or.inr (Or.inr rfl)) rfl rfl)) (blkOk_by (N := N__law_hand_right) (sc := defScope (top 16)) (by decide +kernel)) (fun _ _ _ _ _ => (pg_nameD (i := 4) nd__law_hand_right rfl (by first | exact Or.inl rfl | exact Or.inr rfl) (by first | exact Or.inl rfl | exact Or.inr rfl) (.inl (Nat.zero_le _)))) (fun _ _ _ _ _ => pts_nilD) (fun _ _ _ _ _ => (pe_callD (ok_is_step D) (hr.mono (by decide)) rfl D.g_is_step D.F_is_step.kp D.B_is_step (pr_val (pe_nm (i := 4) rfl (by first | exact Or.inl rfl | exact Or.inr (Or.inl rfl) | exact Or.inr (Or.inr rfl)) rfl rfl) pr_nil rfl) rfl rfl rfl)) (fun _ => rfl) (by decide)) pa_nilD rfl) rfl)) rfl (.inl rfl) (.inl (by decide))) (pss_consG (ps_setG (i := 5) nd__law_hand_right rfl (by first | exact Or.inl rfl | exact Or.inr rfl) (pe_lstD (pa_consD (pe_bin opr_mulL (pe_lstD (pa_consD pe_cbl pa_nilD rfl)) (pe_b1 cr_len rfl D.b_len boot_len (pe_nm (i := 1) rfl (by first | exact Or.inl rfl | exact Or.inr (Or.inl rfl) | exact Or.inr (Or.inr rfl)) rfl rfl) (by decide) rfl rfl)) (pa_consD (pe_bin opr_mulL (pe_lstD (pa_consD pe_cbl pa_nilD rfl)) (pe_b1 cr_len rfl D.b_len boot_len (pe_nm (i := 2) rfl (by first | exact Or.inl rfl | exact Or.inr (Or.inl rfl) | exact Or.inr (Or.inr rfl)) rfl rfl) (by decide) rfl rfl)) pa_nilD rfl) rfl)) rfl (.inl rfl) (.inl (by decide))) (pss_consG (ps_setG (i := 6) nd__law_hand_right rfl (by first | exact Or.inl rfl | exact Or.inr rfl) (pe_lstD (pa_consD (pe_tupD pa_nilD) (pa_consD (pe_tupD (pa_consD (pe_tupD (pa_consD pe_cstr (pa_consD pe_cint pa_nilD rfl) rfl)) pa_nilD rfl)) (pa_consD (pe_tupD (pa_consD (pe_tupD (pa_consD pe_cstr (pa_consD pe_cint (pa_consD pe_cint pa_nilD rfl) rfl) rfl)) (pa_consD (pe_tupD (pa_consD pe_cstr (pa_consD pe_cint (pa_consD pe_cint pa_nilD rfl) rfl) rfl)) (pa_consD (pe_tupD (pa_consD pe_cstr (pa_consD pe_cint (pa_consD pe_cint pa_nilD rfl) rfl) rfl)) pa_nilD rfl) rfl) rfl)) pa_nilD rfl) rfl) rfl)) rfl (.inl rfl) (.inl (by decide))) (pss_consG (ps_setG (i := 6) nd__law_hand_right rfl (by first | exact Or.inl rfl | exact Or.inr rfl) (pe_bin opr_add (pe_nm (i := 6) rfl (by first | exact Or.inl rfl | exact Or.inr (Or.inl rfl) | exact Or.inr (Or.inr rfl)) rfl rfl) (pe_lstD (pa_consD (pe_tupD (pa_consD (pe_tupD (pa_consD pe_cstr (pa_consD pe_cint pa_nilD rfl) rfl)) (pa_consD (pe_tupD (pa_consD pe_cstr (pa_consD pe_cint pa_nilD rfl) rfl)) (pa_consD (pe_tupD (pa_consD pe_cstr (pa_consD pe_cint pa_nilD rfl) rfl)) (pa_consD (pe_tupD (pa_consD pe_cstr (pa_consD pe_cint pa_nilD rfl) rfl)) pa_nilD rfl) rfl) rfl) rfl)) pa_nilD rfl))) rfl (.inl rfl) (.inl (by decide))) (pss_consG (ps_setG (i := 6) nd__law_hand_right rfl (by first | exact Or.inl rfl | exact Or.inr rfl) (pe_bin opr_add (pe_nm (i := 6) rfl (by first | exact Or.inl rfl | exact Or.inr (Or.inl rfl) | exact Or.inr (Or.inr rfl)) rfl rfl) (pe_lstD (pa_consD (pe_tupD (pa_consD (pe_tupD (pa_consD pe_cstr (pa_consD pe_cint pa_nilD rfl) rfl)) (pa_consD (pe_tupD (pa_consD pe_cstr (pa_consD pe_cint pa_nilD rfl) rfl)) pa_nilD rfl) rfl)) (pa_consD (pe_bin opr_mulT (pe_tupD (pa_consD (pe_tupD (pa_consD pe_cstr (pa_consD pe_cint pa_nilD rfl) rfl)) pa_nilD rfl)) pe_cint) (pa_consD (pe_t1 (cr_tuple rfl) rfl D.b_tuple boot_tuple (pe_sliceD (pe_nm (i := 1) rfl (by first | exact Or.inl rfl | exact Or.inr (Or.inl rfl) | exact Or.inr (Or.inr rfl)) rfl rfl) po_noneD (po_someD pe_cint)) (by decide) rfl rfl) pa_nilD rfl) rfl) rfl))) rfl (.inl rfl) (.inl (by decide))) (pss_consG (ps_setG (i := 2) nd__law_hand_right rfl (by first | exact Or.inl rfl | exact Or.inr rfl) (pe_lstD (pa_consD (pe_tupD (pa_consD (pe_tupD (pa_consD pe_cstr (pa_consD pe_cint (pa_consD pe_cint pa_nilD rfl) rfl) rfl)) (pa_consD (pe_tupD (pa_consD pe_cstr (pa_consD pe_cint (pa_consD pe_cint pa_nilD rfl) rfl) rfl)) pa_nilD rfl) rfl)) (pa_consD (pe_tupD (pa_consD (pe_tupD (pa_consD pe_cstr (pa_consD pe_cint (pa_consD pe_cint pa_nilD rfl) rfl) rfl)) (pa_consD (pe_tupD (pa_consD pe_cstr (pa_consD pe_cint pa_nilD rfl) rfl)) (pa_consD (pe_tupD (pa_consD pe_cstr (pa_consD pe_cint (pa_consD pe_cint pa_nilD rfl) rfl) rfl)) pa_nilD rfl) rfl) rfl)) (pa_consD (pe_lstD (pa_consD (pe_tupD (pa_consD pe_cstr (pa_consD pe_cint pa_nilD rfl) rfl)) pa_nilD rfl)) pa_nilD rfl) rfl) rfl)) rfl (.inl rfl) (.inl (by decide))) (pss_consG (ps_setG (i := 2) nd__law_hand_right rfl (by first | exact Or.inl rfl | exact Or.inr rfl) (pe_bin opr_add (pe_nm (i := 2) rfl (by first | exact Or.inl rfl | exact Or.inr (Or.inl rfl) | exact Or.inr (Or.inr rfl)) rfl rfl) (pe_lstD (pa_consD (pe_tupD (pa_consD (pe_lstD (pa_consD pe_cstr (pa_consD pe_cint pa_nilD rfl) rfl)) pa_nilD rfl)) (pa_consD (pe_tupD (pa_consD (pe_tupD (pa_consD pe_cstr (pa_consD pe_cint pa_nilD rfl) rfl)) pa_nilD rfl)) pa_nilD rfl) rfl))) rfl (.inl rfl) (.inl (by decide))) (pss_consG (ps_setG (i := 2) nd__law_hand_right rfl (by first | exact Or.inl rfl | exact Or.inr rfl) (pe_bin opr_add (pe_nm (i := 2) rfl (by first | exact Or.inl rfl | exact Or.inr (Or.inl rfl) | exact Or.inr (Or.inr rfl)) rfl rfl) (pe_lstD (pa_consD (pe_tupD (pa_consD pe_cstr (pa_consD pe_cint pa_nilD rfl) rfl)) (pa_consD pe_cnon (pa_consD pe_cint (pa_consD pe_cstr (pa_consD pe_cstr (pa_consD pe_cbl (pa_consD (pe_tupD (pa_consD (pe_tupD pa_nilD) pa_nilD rfl)) (pa_consD (pe_tupD (pa_consD pe_cnon pa_nilD rfl)) (pa_consD (pe_tupD (pa_consD (pe_tupD (pa_consD pe_cstr (pa_consD pe_cint pa_nilD rfl) rfl)) (pa_consD pe_cnon pa_nilD rfl) rfl)) (pa_consD (pe_tupD (pa_consD (pe_tupD (pa_consD (pe_tupD (pa_consD pe_cstr (pa_consD pe_cint pa_nilD rfl) rfl)) pa_nilD rfl)) pa_nilD rfl)) pa_nilD rfl) rfl) rfl) rfl) rfl) rfl) rfl) rfl) rfl) rfl))) rfl (.inl rfl) (.inl (by decide))) (pss_consG (ps_setG (i := 2) nd__law_hand_right rfl (by first | exact Or.inl rfl | exact Or.inr rfl) (pe_bin opr_add (pe_nm (i := 2) rfl (by first | exact Or.inl rfl | exact Or.inr (Or.inl rfl) | exact Or.inr (Or.inr rfl)) rfl rfl) (pe_lstD (pa_consD (pe_tupD (pa_consD (pe_tupD (pa_consD pe_cstr (pa_consD (pe_negD pe_cint) pa_nilD rfl) rfl)) pa_nilD rfl)) (pa_consD (pe_lstD pa_nilD) (pa_consD (pe_tupD (pa_consD (pe_tupD (pa_consD pe_cstr (pa_consD pe_cint pa_nilD rfl) rfl)) (pa_consD pe_cstr pa_nilD rfl) rfl)) pa_nilD rfl) rfl) rfl))) rfl (.inl rfl) (.inl (by decide))) (pss_consG (ps_dropG (pe_appD (i := 2) rfl (by first | exact Or.inl rfl | exact Or.inr (Or.inl rfl) | exact Or.inr (Or.inr rfl)) rfl rfl (pe_t1 (cr_tuple rfl) rfl D.b_tuple boot_tuple (pe_nm (i := 1) rfl (by first | exact Or.inl rfl | exact Or.inr (Or.inl rfl) | exact Or.inr (Or.inr rfl)) rfl rfl) (by decide) rfl rfl) rfl rfl rfl rfl) rfl) (pss_consG (ps_setG (i := 3) nd__law_hand_right rfl (by first | exact Or.inl rfl | exact Or.inr rfl) (pe_bin opr_add (pe_nm (i := 3) rfl (by first | exact Or.inl rfl | exact Or.inr (Or.inl rfl) | exact Or.inr (Or.inr rfl)) rfl rfl) (pe_lstD (pa_consD (pe_compD (own := [("_law_own", 4)]) rfl nd__law_hand_right (pi_seqD (pe_nm (i := 6) rfl (by first | exact Or.inl rfl | exact Or.inr (Or.inl rfl) | exact Or.inr (Or.inr rfl)) rfl rfl)) (blkOk_by (N := N__law_hand_right) (sc := defScope (top 16)) (by decide +kernel)) (fun _ _ _ _ _ => (pg_nameD (i := 4) nd__law_hand_right rfl (by first | exact Or.inl rfl | exact Or.inr rfl) (by first | exact Or.inl rfl | exact Or.inr rfl) (.inl (Nat.zero_le _)))) (fun _ _ _ _ _ => pts_nilD) (fun _ _ _ _ _ => (pe_callD (ok_is_word D) (hr.mono (by decide)) rfl D.g_is_word D.F_is_word.kp D.B_is_word (pr_val (pe_nm (i := 4) rfl (by first | exact Or.inl rfl | exact Or.inr (Or.inl rfl) | exact Or.inr (Or.inr rfl)) rfl rfl) pr_nil rfl) rfl rfl rfl)) (fun _ => rfl) (by decide)) (pa_consD (pe_compD (own := [("_law_own", 4)]) rfl nd__law_hand_right (pi_seqD (pe_nm (i := 2) rfl (by first | exact Or.inl rfl | exact Or.inr (Or.inl rfl) | exact Or.inr (Or.inr rfl)) rfl rfl)) (blkOk_by (N := N__law_hand_right) (sc := defScope (top 16)) (by decide +kernel)) (fun _ _ _ _ _ => (pg_nameD (i := 4) nd__law_hand_right rfl (by first | exact Or.inl rfl | exact Or.inr rfl) (by first | exact Or.inl rfl | exact Or.inr rfl) (.inl (Nat.zero_le _)))) (fun _ _ _ _ _ => pts_nilD) (fun _ _ _ _ _ => (pe_callD (ok_is_word D) (hr.mono (by decide)) rfl D.g_is_word D.F_is_word.kp D.B_is_word (pr_val (pe_nm (i := 4) rfl (by first | exact Or.inl rfl | exact Or.inr (Or.inl rfl) | exact Or.inr (Or.inr rfl)) rfl rfl) pr_nil rfl) rfl rfl rfl)) (fun _ => rfl) (by decide)) pa_nilD rfl) rfl))) rfl (.inl rfl) (.inl (by decide))) (pss_consG (ps_setG (i := 5) nd__law_hand_right rfl (by first | exact Or.inl rfl | exact Or.inr rfl) (pe_bin opr_add (pe_nm (i := 5) rfl (by first | exact Or.inl rfl | exact Or.inr (Or.inl rfl) | exact Or.inr (Or.inr rfl)) rfl rfl) (pe_lstD (pa_consD (pe_bin opr_mulL (pe_lstD (pa_consD pe_cbl pa_nilD rfl)) (pe_b1 cr_len rfl D.b_len boot_len (pe_nm (i := 6) rfl (by first | exact Or.inl rfl | exact Or.inr (Or.inl rfl) | exact Or.inr (Or.inr rfl)) rfl rfl) (by decide) rfl rfl)) (pa_consD (pe_bin opr_add (pe_bin opr_mulL (pe_lstD (pa_consD pe_cbl pa_nilD rfl)) (pe_bin opr_sub (pe_b1 cr_len rfl D.b_len boot_len (pe_nm (i := 2) rfl (by first | exact Or.inl rfl | exact Or.inr (Or.inl rfl) | exact Or.inr (Or.inr rfl)) rfl rfl) (by decide) rfl rfl) pe_cint)) (pe_lstD (pa_consD pe_cbl pa_nilD rfl))) pa_nilD rfl) rfl))) rfl (.inl rfl) (.inl (by decide))) (pss_consG (ps_setG (i := 3) nd__law_hand_right rfl (by first | exact Or.inl rfl | exact Or.inr rfl) (pe_bin opr_add (pe_nm (i := 3) rfl (by first | exact Or.inl rfl | exact Or.inr (Or.inl rfl) | exact Or.inr (Or.inr rfl)) rfl rfl) (pe_lstD (pa_consD (pe_callD (ok_kinds_in D) (hr.mono (by decide)) rfl D.g_kinds_in D.F_kinds_in.kp D.B_kinds_in (pr_val (pe_tupD pa_nilD) pr_nil rfl) rfl rfl rfl) (pa_consD (pe_callD (ok_kinds_in D) (hr.mono (by decide)) rfl D.g_kinds_in D.F_kinds_in.kp D.B_kinds_in (pr_val (pe_tupD (pa_consD (pe_tupD (pa_consD pe_cstr (pa_consD pe_cint (pa_consD pe_cint pa_nilD rfl) rfl) rfl)) (pa_consD (pe_tupD (pa_consD pe_cstr (pa_consD pe_cint pa_nilD rfl) rfl)) (pa_consD (pe_tupD (pa_consD pe_cstr (pa_consD pe_cint (pa_consD pe_cint pa_nilD rfl) rfl) rfl)) pa_nilD rfl) rfl) rfl)) pr_nil rfl) rfl rfl rfl) pa_nilD rfl) rfl))) rfl (.inl rfl) (.inl (by decide))) (pss_consG (ps_setG (i := 3) nd__law_hand_right rfl (by first | exact Or.inl rfl | exact Or.inr rfl) (pe_bin opr_add (pe_nm (i := 3) rfl (by first | exact Or.inl rfl | exact Or.inr (Or.inl rfl) | exact Or.inr (Or.inr rfl)) rfl rfl) (pe_lstD (pa_consD (pe_callKD (ks := ["word"]) (pm := [0]) (ok_kinds_in D) (hr.mono (by decide)) rfl D.g_kinds_in D.F_kinds_in.kp D.K_kinds_in_word (pkr_cons (pe_lstD (pa_consD (pe_lstD (pa_consD pe_cstr (pa_consD pe_cint (pa_consD pe_cint pa_nilD rfl) rfl) rfl)) (pa_consD (pe_tupD (pa_consD pe_cstr (pa_consD pe_cint pa_nilD rfl) rfl)) pa_nilD rfl) rfl)) pkr_nil) rfl rfl rfl rfl rfl) pa_nilD rfl))) rfl (.inl rfl) (.inl (by decide))) (pss_consG (ps_setG (i := 3) nd__law_hand_right rfl (by first | exact Or.inl rfl | exact Or.inr rfl) (pe_bin opr_add (pe_nm (i := 3) rfl (by first | exact Or.inl rfl | exact Or.inr (Or.inl rfl) | exact Or.inr (Or.inr rfl)) rfl rfl) (pe_lstD (pa_consD (pe_callKD (ks := ["thing"]) (pm := [0]) (ok_is_step D) (hr.mono (by decide)) rfl D.g_is_step D.F_is_step.kp D.K_is_step_thing (pkr_cons (pe_tupD (pa_consD pe_cstr (pa_consD pe_cint pa_nilD rfl) rfl)) pkr_nil) rfl rfl rfl rfl rfl) (pa_consD (pe_callKD (ks := ["thing"]) (pm := [0]) (ok_is_word D) (hr.mono (by decide)) rfl D.g_is_word D.F_is_word.kp D.K_is_word_thing (pkr_cons (pe_tupD (pa_consD (pe_tupD (pa_consD pe_cstr (pa_consD pe_cint pa_nilD rfl) rfl)) pa_nilD rfl)) pkr_nil) rfl rfl rfl rfl rfl) pa_nilD rfl) rfl))) rfl (.inl rfl) (.inl (by decide))) (pss_consG (ps_retG (pe_callD (ok__law_same D 8) (hr.mono (by decide)) rfl D.g__law_same D.F__law_same.kp D.B__law_same (pr_val (pe_nm (i := 3) rfl (by first | exact Or.inl rfl | exact Or.inr (Or.inl rfl) | exact Or.inr (Or.inr rfl)) rfl rfl) (pr_val (pe_bin opr_add (pe_nm (i := 5) rfl (by first | exact Or.inl rfl | exact Or.inr (Or.inl rfl) | exact Or.inr (Or.inr rfl)) rfl rfl) (pe_lstD (pa_consD (pe_tupD pa_nilD) (pa_consD (pe_tupD (pa_consD pe_cint (pa_consD pe_cint pa_nilD rfl) rfl)) (pa_consD (pe_tupD (pa_consD pe_cint pa_nilD rfl)) (pa_consD pe_cbl (pa_consD pe_cbl pa_nilD rfl) rfl) rfl) rfl) rfl))) pr_nil rfl) rfl) rfl rfl rfl)) pss_nilG)))))))))))))))))))))))))))
abbrev N__law_bent : List Str := ["_law_tin", "_law_row_so", "_law_odd", "_law_k", "_law_bit", "_law_j", "_law_rows", "_law_fresh"]
def G__law_bent : FG := (gSeq (gSet 2 (fLst (faCons (fCst .none) (faCons (fCst (.int 0)) (faCons (fOne gNeg (fCst (.int 1))) (faCons (fCst (.bool true)) (faCons (fCst (.str "top")) (faCons (fCst (.str "each")) (faCons (fCst (.str "near")) (faCons (fTup faNil) (faCons (fTup (faCons (fCst (.str "top")) faNil)) (faCons (fTup (faCons (fCst (.str "top")) (faCons (fCst (.int 0)) faNil))) (faCons (fTup (faCons (fCst (.str "near")) (faCons (fOne gNeg (fCst (.int 1))) faNil))) (faCons (fTup (faCons (fCst (.str "each")) (faCons (fCst (.int 0)) (faCons (fCst (.int 1)) faNil)))) faNil)))))))))))))) (gSeq (gSet 2 (fTwo gAdd (fVar 2) (fLst (faCons (fLst (faCons (fCst (.str "top")) (faCons (fCst (.int 1)) faNil))) (faCons (fTup (faCons (fCst (.str "each")) (faCons (fCst (.int 3)) (faCons (fCst (.int 1)) faNil)))) faNil))))) (gSeq (gIfS (fTOr (fTst (fTwo gEq (fVar 1) (fTup faNil))) (fTst (fTwo gEq (fCall Sh.F__law_take (frBox (fVar 0) (frVal (fCst (.int 4)) frNil))) (fCst (.int 0))))) (gSeq (gRet 2 (fTwo gAdd (fVar 1) (fTup (faCons (fCall Sh.F__law_of (frBox (fVar 0) (frVal (fVar 2) frNil))) faNil)))) gSkip) gSkip) (gSeq (gSet 3 (fCall Sh.F__law_take (frBox (fVar 0) (frVal (fOne gLen (fVar 1)) frNil)))) (gSeq (gSet 4 (fTwo gIx (fVar 1) (fVar 3))) (gSeq (gSet 5 (fCall Sh.F__law_take (frBox (fVar 0) (frVal (fOne gLen (fVar 4)) frNil)))) (gSeq (gSet 6 (fLst (faCons (fTwo gAdd (fTwo gAdd (fSl (fVar 4) foNone (foSome (fVar 5))) (fTup (faCons (fCall Sh.F__law_of (frBox (fVar 0) (frVal (fVar 2) frNil))) faNil))) (fSl (fVar 4) (foSome (fTwo gAdd (fVar 5) (fCst (.int 1)))) foNone)) (faCons (fTwo gAdd (fSl (fVar 4) foNone (foSome (fVar 5))) (fSl (fVar 4) (foSome (fTwo gAdd (fVar 5) (fCst (.int 1)))) foNone)) (faCons (fTwo gAdd (fVar 4) (fSl (fVar 4) (foSome (fVar 5)) (foSome (fTwo gAdd (fVar 5) (fCst (.int 1)))))) faNil))))) (gSeq (gSet 7 (fCall Sh.F__law_of (frBox (fVar 0) (frVal (fTwo gAdd (fVar 6) (fLst (faCons (fOne gList (fVar 4)) (faCons (fOne gRev (fVar 4)) faNil)))) frNil)))) (gSeq (gRet 2 (fTwo gAdd (fTwo gAdd (fSl (fVar 1) foNone (foSome (fVar 3))) (fTup (faCons (fVar 7) faNil))) (fSl (fVar 1) (foSome (fTwo gAdd (fVar 3) (fCst (.int 1)))) foNone))) gSkip)))))))))
def F__law_bent : FS := fDef 8 2 [] G__law_bent
theorem nd__law_bent : (N__law_bent).Nodup := by decide +kernel
theorem sc__law_bent : FnScope N__law_bent ["_law_tin", "_law_row_so"] (defScope (top 17)) := ⟨rfl, rfl, rfl, nd__law_bent, rfl, by decide +kernel, by decide +kernel⟩
theorem ok__law_bent (D : Ds K mg base) : FnOk P w K mg base (L2.CX P w) 3 D.f__law_bent D.fd__law_bent ["_law_tin", "_law_row_so"] (spD K F__law_bent) :=
  fn_DD (N := N__law_bent) (k := 2) (As := []) D.F__law_bent sc__law_bent (by decide) fun cdv A outer s H E hr =>
    (pss_consG (ps_setG (i := 2) nd__law_bent rfl (by first | exact Or.inl rfl | exact Or.inr rfl) (pe_lstD (pa_consD pe_cnon (pa_consD pe_cint (pa_consD (pe_negD pe_cint) (pa_consD pe_cbl (pa_consD pe_cstr (pa_consD pe_cstr (pa_consD pe_cstr (pa_consD (pe_tupD pa_nilD) (pa_consD (pe_tupD (pa_consD pe_cstr pa_nilD rfl)) (pa_consD (pe_tupD (pa_consD pe_cstr (pa_consD pe_cint pa_nilD rfl) rfl)) (pa_consD (pe_tupD (pa_consD pe_cstr (pa_consD (pe_negD pe_cint) pa_nilD rfl) rfl)) (pa_consD (pe_tupD (pa_consD pe_cstr (pa_consD pe_cint (pa_consD pe_cint pa_nilD rfl) rfl) rfl)) pa_nilD rfl) rfl) rfl) rfl) rfl) rfl) rfl) rfl) rfl) rfl) rfl) rfl)) rfl (.inl rfl) (.inl (by decide))) (pss_consG (ps_setG (i := 2) nd__law_bent rfl (by first | exact Or.inl rfl | exact Or.inr rfl) (pe_bin opr_add (pe_nm (i := 2) rfl (by first | exact Or.inl rfl | exact Or.inr (Or.inl rfl) | exact Or.inr (Or.inr rfl)) rfl rfl) (pe_lstD (pa_consD (pe_lstD (pa_consD pe_cstr (pa_consD pe_cint pa_nilD rfl) rfl)) (pa_consD (pe_tupD (pa_consD pe_cstr (pa_consD pe_cint (pa_consD pe_cint pa_nilD rfl) rfl) rfl)) pa_nilD rfl) rfl))) rfl (.inl rfl) (.inl (by decide))) (pss_consG (ps_ifG (PW.pt (pw_orD (pt_cmp2 (opr_eq (Room.units hr)) (pe_nm (i := 1) rfl (by first | exact Or.inl rfl | exact Or.inr (Or.inl rfl) | exact Or.inr (Or.inr rfl)) rfl rfl) (pe_tupD pa_nilD) rfl gb_eq) (pw_or1D (pt_cmp2 (opr_eq (Room.units hr)) (pe_callD (ok__law_take D) (hr.mono (by decide)) rfl D.g__law_take D.F__law_take.kp D.B__law_take (pr_box (pe_nm (i := 0) rfl (by first | exact Or.inl rfl | exact Or.inr (Or.inl rfl) | exact Or.inr (Or.inr rfl)) rfl rfl) (pr_val pe_cint pr_nil rfl) rfl) rfl rfl rfl) pe_cint rfl gb_eq)))) (pss_consG (ps_retG (pe_bin opr_add (pe_nm (i := 1) rfl (by first | exact Or.inl rfl | exact Or.inr (Or.inl rfl) | exact Or.inr (Or.inr rfl)) rfl rfl) (pe_tupD (pa_consD (pe_callD (ok__law_of D) (hr.mono (by decide)) rfl D.g__law_of D.F__law_of.kp D.B__law_of (pr_box (pe_nm (i := 0) rfl (by first | exact Or.inl rfl | exact Or.inr (Or.inl rfl) | exact Or.inr (Or.inr rfl)) rfl rfl) (pr_val (pe_nm (i := 2) rfl (by first | exact Or.inl rfl | exact Or.inr (Or.inl rfl) | exact Or.inr (Or.inr rfl)) rfl rfl) pr_nil rfl) rfl) rfl rfl rfl) pa_nilD rfl)))) pss_nilG) pss_nilG) (pss_consG (ps_setG (i := 3) nd__law_bent rfl (by first | exact Or.inl rfl | exact Or.inr rfl) (pe_callD (ok__law_take D) (hr.mono (by decide)) rfl D.g__law_take D.F__law_take.kp D.B__law_take (pr_box (pe_nm (i := 0) rfl (by first | exact Or.inl rfl | exact Or.inr (Or.inl rfl) | exact Or.inr (Or.inr rfl)) rfl rfl) (pr_val (pe_b1 cr_len rfl D.b_len boot_len (pe_nm (i := 1) rfl (by first | exact Or.inl rfl | exact Or.inr (Or.inl rfl) | exact Or.inr (Or.inr rfl)) rfl rfl) (by decide) rfl rfl) pr_nil rfl) rfl) rfl rfl rfl) rfl (.inl rfl) (.inl (by decide))) (pss_consG (ps_setG (i := 4) nd__law_bent rfl (by first | exact Or.inl rfl | exact Or.inr rfl) (pe_ixD (pe_nm (i := 1) rfl (by first | exact Or.inl rfl | exact Or.inr (Or.inl rfl) | exact Or.inr (Or.inr rfl)) rfl rfl) (pe_nm (i := 3) rfl (by first | exact Or.inl rfl | exact Or.inr (Or.inl rfl) | exact Or.inr (Or.inr rfl)) rfl rfl) (fun _ _ => rfl)) rfl (.inl rfl) (.inl (by decide))) (pss_consG (ps_setG (i := 5) nd__law_bent rfl (by first | exact Or.inl rfl | exact Or.inr rfl) (pe_callD (ok__law_take D) (hr.mono (by decide)) rfl D.g__law_take D.F__law_take.kp D.B__law_take (pr_box (pe_nm (i := 0) rfl (by first | exact Or.inl rfl | exact Or.inr (Or.inl rfl) | exact Or.inr (Or.inr rfl)) rfl rfl) (pr_val (pe_b1 cr_len rfl D.b_len boot_len (pe_nm (i := 4) rfl (by first | exact Or.inl rfl | exact Or.inr (Or.inl rfl) | exact Or.inr (Or.inr rfl)) rfl rfl) (by decide) rfl rfl) pr_nil rfl) rfl) rfl rfl rfl) rfl (.inl rfl) (.inl (by decide))) (pss_consG (ps_setG (i := 6) nd__law_bent rfl (by first | exact Or.inl rfl | exact Or.inr rfl) (pe_lstD (pa_consD (pe_bin opr_add (pe_bin opr_add (pe_sliceD (pe_nm (i := 4) rfl (by first | exact Or.inl rfl | exact Or.inr (Or.inl rfl) | exact Or.inr (Or.inr rfl)) rfl rfl) po_noneD (po_someD (pe_nm (i := 5) rfl (by first | exact Or.inl rfl | exact Or.inr (Or.inl rfl) | exact Or.inr (Or.inr rfl)) rfl rfl))) (pe_tupD (pa_consD (pe_callD (ok__law_of D) (hr.mono (by decide)) rfl D.g__law_of D.F__law_of.kp D.B__law_of (pr_box (pe_nm (i := 0) rfl (by first | exact Or.inl rfl | exact Or.inr (Or.inl rfl) | exact Or.inr (Or.inr rfl)) rfl rfl) (pr_val (pe_nm (i := 2) rfl (by first | exact Or.inl rfl | exact Or.inr (Or.inl rfl) | exact Or.inr (Or.inr rfl)) rfl rfl) pr_nil rfl) rfl) rfl rfl rfl) pa_nilD rfl))) (pe_sliceD (pe_nm (i := 4) rfl (by first | exact Or.inl rfl | exact Or.inr (Or.inl rfl) | exact Or.inr (Or.inr rfl)) rfl rfl) (po_someD (pe_bin opr_add (pe_nm (i := 5) rfl (by first | exact Or.inl rfl | exact Or.inr (Or.inl rfl) | exact Or.inr (Or.inr rfl)) rfl rfl) pe_cint)) po_noneD)) (pa_consD (pe_bin opr_add (pe_sliceD (pe_nm (i := 4) rfl (by first | exact Or.inl rfl | exact Or.inr (Or.inl rfl) | exact Or.inr (Or.inr rfl)) rfl rfl) po_noneD (po_someD (pe_nm (i := 5) rfl (by first | exact Or.inl rfl | exact Or.inr (Or.inl rfl) | exact Or.inr (Or.inr rfl)) rfl rfl))) (pe_sliceD (pe_nm (i := 4) rfl (by first | exact Or.inl rfl | exact Or.inr (Or.inl rfl) | exact Or.inr (Or.inr rfl)) rfl rfl) (po_someD (pe_bin opr_add (pe_nm (i := 5) rfl (by first | exact Or.inl rfl | exact Or.inr (Or.inl rfl) | exact Or.inr (Or.inr rfl)) rfl rfl) pe_cint)) po_noneD)) (pa_consD (pe_bin opr_add (pe_nm (i := 4) rfl (by first | exact Or.inl rfl | exact Or.inr (Or.inl rfl) | exact Or.inr (Or.inr rfl)) rfl rfl) (pe_sliceD (pe_nm (i := 4) rfl (by first | exact Or.inl rfl | exact Or.inr (Or.inl rfl) | exact Or.inr (Or.inr rfl)) rfl rfl) (po_someD (pe_nm (i := 5) rfl (by first | exact Or.inl rfl | exact Or.inr (Or.inl rfl) | exact Or.inr (Or.inr rfl)) rfl rfl)) (po_someD (pe_bin opr_add (pe_nm (i := 5) rfl (by first | exact Or.inl rfl | exact Or.inr (Or.inl rfl) | exact Or.inr (Or.inr rfl)) rfl rfl) pe_cint)))) pa_nilD rfl) rfl) rfl)) rfl (.inl rfl) (.inl (by decide))) (pss_consG (ps_setG (i := 7) nd__law_bent rfl (by first | exact Or.inl rfl | exact Or.inr rfl) (pe_callD (ok__law_of D) (hr.mono (by decide)) rfl D.g__law_of D.F__law_of.kp D.B__law_of (pr_box (pe_nm (i := 0) rfl (by first | exact Or.inl rfl | exact Or.inr (Or.inl rfl) | exact Or.inr (Or.inr rfl)) rfl rfl) (pr_val (pe_bin opr_add (pe_nm (i := 6) rfl (by first | exact Or.inl rfl | exact Or.inr (Or.inl rfl) | exact Or.inr (Or.inr rfl)) rfl rfl) (pe_lstD (pa_consD (pe_t1 cr_list rfl D.b_list boot_list (pe_nm (i := 4) rfl (by first | exact Or.inl rfl | exact Or.inr (Or.inl rfl) | exact Or.inr (Or.inr rfl)) rfl rfl) (by decide) rfl rfl) (pa_consD (pe_revD (pe_nm (i := 4) rfl (by first | exact Or.inl rfl | exact Or.inr (Or.inl rfl) | exact Or.inr (Or.inr rfl)) rfl rfl)) pa_nilD rfl) rfl))) pr_nil rfl) rfl) rfl rfl rfl) rfl (.inl rfl) (.inl (by decide))) (pss_consG (ps_retG (pe_bin opr_add (pe_bin opr_add (pe_sliceD (pe_nm (i := 1) rfl (by first | exact Or.inl rfl | exact Or.inr (Or.inl rfl) | exact Or.inr (Or.inr rfl)) rfl rfl) po_noneD (po_someD (pe_nm (i := 3) rfl (by first | exact Or.inl rfl | exact Or.inr (Or.inl rfl) | exact Or.inr (Or.inr rfl)) rfl rfl))) (pe_tupD (pa_consD (pe_nm (i := 7) rfl (by first | exact Or.inl rfl | exact Or.inr (Or.inl rfl) | exact Or.inr (Or.inr rfl)) rfl rfl) pa_nilD rfl))) (pe_sliceD (pe_nm (i := 1) rfl (by first | exact Or.inl rfl | exact Or.inr (Or.inl rfl) | exact Or.inr (Or.inr rfl)) rfl rfl) (po_someD (pe_bin opr_add (pe_nm (i := 3) rfl (by first | exact Or.inl rfl | exact Or.inr (Or.inl rfl) | exact Or.inr (Or.inr rfl)) rfl rfl) pe_cint)) po_noneD))) pss_nilG)))))))))
abbrev N__law_case_right : List Str := ["_law_tin", "_law_row_so", "_law_some_so", "_law_got", "_law_own", "_law_bit", "_law_due", "_law_kinds_so"]
def G__law_case_right : FG := (gSeq (gSet 1 (fCall Sh.F__law_row (frBox (fVar 0) (frVal (fCst (.int 6)) (frVal (fCst (.int 3)) frNil))))) (gSeq (gSet 2 (fLst (faCons (fVar 1) (faCons (fCall F__law_bent (frBox (fVar 0) (frVal (fVar 1) frNil))) (faCons (fOne gList (fVar 1)) (faCons (fTwo gAdd (fVar 1) (fVar 1)) faNil)))))) (gSeq (gSet 3 (fTwo gAdd (fComp [4] (fiSeq (fVar 2)) (bName 4) fTYes (fCall Sh.F_is_word (frVal (fVar 4) frNil))) (fComp [5] (fiSeq (fTwo gIx (fVar 2) (fCst (.int 1)))) (bName 5) fTYes (fCall Sh.F_is_step (frVal (fVar 5) frNil))))) (gSeq (gSet 6 (fTwo gAdd (fComp [4] (fiSeq (fVar 2)) (bName 4) fTYes (fCall F__law_is_row (frVal (fVar 4) frNil))) (fComp [5] (fiSeq (fTwo gIx (fVar 2) (fCst (.int 1)))) (bName 5) fTYes (fCall F__law_fine (frVal (fVar 5) frNil))))) (gSeq (gSet 3 (fTwo gAdd (fVar 3) (fLst (faCons (fCall Sh.F_kinds_in (frVal (fVar 1) frNil)) (faCons (fCall Sh.F_kinds_in (frVal (fCall (Sh.F__law_lists 8) (frVal (fVar 1) frNil)) frNil)) faNil))))) (gSeq (gSet 7 (fOne gTuple (fComp [5] (fiSeq (fVar 1)) (bName 5) (fTst (fTwo gEq (fTwo gIx (fVar 5) (fCst (.int 0))) (fCst (.str "each")))) (fTwo gIx (fVar 5) (fCst (.int 1)))))) (gSeq (gRet 1 (fCall (Sh.F__law_same 8) (frVal (fVar 3) (frVal (fTwo gAdd (fVar 6) (fLst (faCons (fVar 7) (faCons (fVar 7) faNil)))) frNil)))) gSkip)))))))
def F__law_case_right : FS := fDef 8 1 [] G__law_case_right
theorem nd__law_case_right : (N__law_case_right).Nodup := by decide +kernel
theorem sc__law_case_right : FnScope N__law_case_right ["_law_tin"] (defScope (top 18)) := ⟨rfl, rfl, rfl, nd__law_case_right, rfl, by decide +kernel, by decide +kernel⟩
theorem ok__law_case_right (D : Ds K mg base) : FnOk P w K mg base (L2.CX P w) 10 D.f__law_case_right D.fd__law_case_right ["_law_tin"] (spD K F__law_case_right) :=
  fn_DD (N := N__law_case_right) (k := 9) (As := []) D.F__law_case_right sc__law_case_right (by decide) fun cdv A outer s H E hr =>
    (pss_consG (ps_setG (i := 1) nd__law_case_right rfl (by first | exact Or.inl rfl | exact Or.inr rfl) (pe_callD (ok__law_row D) (hr.mono (by decide)) rfl D.g__law_row D.F__law_row.kp D.B__law_row (pr_box (pe_nm (i := 0) rfl (by first | exact Or.inl rfl | exact Or.inr (Or.inl rfl) | exact Or.inr (Or.inr rfl)) rfl rfl) (pr_val pe_cint (pr_val pe_cint pr_nil rfl) rfl) rfl) rfl rfl rfl) rfl (.inl rfl) (.inl (by decide))) (pss_consG (ps_setG (i := 2) nd__law_case_right rfl (by first | exact Or.inl rfl | exact Or.inr rfl) (pe_lstD (pa_consD (pe_nm (i := 1) rfl (by first | exact Or.inl rfl | exact Or.inr (Or.inl rfl) | exact Or.inr (Or.inr rfl)) rfl rfl) (pa_consD (pe_callD (ok__law_bent D) (hr.mono (by decide)) rfl D.g__law_bent D.F__law_bent.kp D.B__law_bent (pr_box (pe_nm (i := 0) rfl (by first | exact Or.inl rfl | exact Or.inr (Or.inl rfl) | exact Or.inr (Or.inr rfl)) rfl rfl) (pr_val (pe_nm (i := 1) rfl (by first | exact Or.inl rfl | exact Or.inr (Or.inl rfl) | exact Or.inr (Or.inr rfl)) rfl rfl) pr_nil rfl) rfl) rfl rfl rfl) (pa_consD (pe_t1 cr_list rfl D.b_list boot_list (pe_nm (i := 1) rfl (by first | exact Or.inl rfl | exact Or.inr (Or.inl rfl) | exact Or.inr (Or.inr rfl)) rfl rfl) (by decide) rfl rfl) (pa_consD (pe_bin opr_add (pe_nm (i := 1) rfl (by first | exact Or.inl rfl | exact Or.inr (Or.inl rfl) | exact Or.inr (Or.inr rfl)) rfl rfl) (pe_nm (i := 1) rfl (by first | exact Or.inl rfl | exact Or.inr (Or.inl rfl) | exact Or.inr (Or.inr rfl)) rfl rfl)) pa_nilD rfl) rfl) rfl) rfl)) rfl (.inl rfl) (.inl (by decide))) (pss_consG (ps_setG (i := 3) nd__law_case_right rfl (by first | exact Or.inl rfl | exact Or.inr rfl) (pe_bin opr_add (pe_compD (own := [("_law_own", 4)]) rfl nd__law_case_right (pi_seqD (pe_nm (i := 2) rfl (by first | exact Or.inl rfl | exact Or.inr (Or.inl rfl) | exact Or.inr (Or.inr rfl)) rfl rfl)) (blkOk_by (N := N__law_case_right) (sc := defScope (top 18)) (by decide +kernel)) (fun _ _ _ _ _ => (pg_nameD (i := 4) nd__law_case_right rfl (by first | exact Or.inl rfl | exact Or.inr rfl) (by first | exact Or.inl rfl | exact Or.inr rfl) (.inl (Nat.zero_le _)))) (fun _ _ _ _ _ => pts_nilD) (fun _ _ _ _ _ => (pe_callD (ok_is_word D) (hr.mono (by decide)) rfl D.g_is_word D.F_is_word.kp D.B_is_word (pr_val (pe_nm (i := 4) rfl (by first | exact Or.inl rfl | exact Or.inr (Or.inl rfl) | exact Or.inr (Or.inr rfl)) rfl rfl) pr_nil rfl) rfl rfl rfl)) (fun _ => rfl) (by decide)) (pe_compD (own := [("_law_bit", 5)]) rfl nd__law_case_right (pi_seqD (pe_ixD (pe_nm (i := 2) rfl (by first | exact Or.inl rfl | exact Or.inr (Or.inl rfl) | exact Or.inr (Or.inr rfl)) rfl rfl) pe_cint (fun _ _ => rfl))) (blkOk_by (N := N__law_case_right) (sc := defScope (top 18)) (by decide +kernel)) (fun _ _ _ _ _ => (pg_nameD (i := 5) nd__law_case_right rfl (by first | exact Or.inl rfl | exact Or.inr rfl) (by first | exact Or.inl rfl | exact Or.inr rfl) (.inl (Nat.zero_le _)))) (fun _ _ _ _ _ => pts_nilD) (fun _ _ _ _ _ => (pe_callD (ok_is_step D) (hr.mono (by decide)) rfl D.g_is_step D.F_is_step.kp D.B_is_step (pr_val (pe_nm (i := 5) rfl (by first | exact Or.inl rfl | exact Or.inr (Or.inl rfl) | exact Or.inr (Or.inr rfl)) rfl rfl) pr_nil rfl) rfl rfl rfl)) (fun _ => rfl) (by decide))) rfl (.inl rfl) (.inl (by decide))) (pss_consG (ps_setG (i := 6) nd__law_case_right rfl (by first | exact Or.inl rfl | exact Or.inr rfl) (pe_bin opr_add (pe_compD (own := [("_law_own", 4)]) rfl nd__law_case_right (pi_seqD (pe_nm (i := 2) rfl (by first | exact Or.inl rfl | exact Or.inr (Or.inl rfl) | exact Or.inr (Or.inr rfl)) rfl rfl)) (blkOk_by (N := N__law_case_right) (sc := defScope (top 18)) (by decide +kernel)) (fun _ _ _ _ _ => (pg_nameD (i := 4) nd__law_case_right rfl (by first | exact Or.inl rfl | exact Or.inr rfl) (by first | exact Or.inl rfl | exact Or.inr rfl) (.inl (Nat.zero_le _)))) (fun _ _ _ _ _ => pts_nilD) (fun _ _ _ _ _ => (pe_callD (ok__law_is_row D) (hr.mono (by decide)) rfl D.g__law_is_row D.F__law_is_row.kp D.B__law_is_row (pr_val (pe_nm (i := 4) rfl (by first | exact Or.inl rfl | exact Or.inr (Or.inl rfl) | exact Or.inr (Or.inr rfl)) rfl rfl) pr_nil rfl) rfl rfl rfl)) (fun _ => rfl) (by decide)) (pe_compD (own := [("_law_bit", 5)]) rfl nd__law_case_right (pi_seqD (pe_ixD (pe_nm (i := 2) rfl (by first | exact Or.inl rfl | exact Or.inr (Or.inl rfl) | exact Or.inr (Or.inr rfl)) rfl rfl) pe_cint (fun _ _ => rfl))) (blkOk_by (N := N__law_case_right) (sc := defScope (top 18)) (by decide +kernel)) (fun _ _ _ _ _ => (pg_nameD (i := 5) nd__law_case_right rfl (by first | exact Or.inl rfl | exact Or.inr rfl) (by first | exact Or.inl rfl | exact Or.inr rfl) (.inl (Nat.zero_le _)))) (fun _ _ _ _ _ => pts_nilD) (fun _ _ _ _ _ => (pe_callD (ok__law_fine D) (hr.mono (by decide)) rfl D.g__law_fine D.F__law_fine.kp D.B__law_fine (pr_val (pe_nm (i := 5) rfl (by first | exact Or.inl rfl | exact Or.inr (Or.inl rfl) | exact Or.inr (Or.inr rfl)) rfl rfl) pr_nil rfl) rfl rfl rfl)) (fun _ => rfl) (by decide))) rfl (.inl rfl) (.inl (by decide))) (pss_consG (ps_setG (i := 3) nd__law_case_right rfl (by first | exact Or.inl rfl | exact Or.inr rfl) (pe_bin opr_add (pe_nm (i := 3) rfl (by first | exact Or.inl rfl | exact Or.inr (Or.inl rfl) | exact Or.inr (Or.inr rfl)) rfl rfl) (pe_lstD (pa_consD (pe_callD (ok_kinds_in D) (hr.mono (by decide)) rfl D.g_kinds_in D.F_kinds_in.kp D.B_kinds_in (pr_val (pe_nm (i := 1) rfl (by first | exact Or.inl rfl | exact Or.inr (Or.inl rfl) | exact Or.inr (Or.inr rfl)) rfl rfl) pr_nil rfl) rfl rfl rfl) (pa_consD (pe_callD (ok_kinds_in D) (hr.mono (by decide)) rfl D.g_kinds_in D.F_kinds_in.kp D.B_kinds_in (pr_val (pe_callD (ok__law_lists D 8) (hr.mono (by decide)) rfl D.g__law_lists D.F__law_lists.kp D.B__law_lists (pr_val (pe_nm (i := 1) rfl (by first | exact Or.inl rfl | exact Or.inr (Or.inl rfl) | exact Or.inr (Or.inr rfl)) rfl rfl) pr_nil rfl) rfl rfl rfl) pr_nil rfl) rfl rfl rfl) pa_nilD rfl) rfl))) rfl (.inl rfl) (.inl (by decide))) (pss_consG (ps_setG (i := 7) nd__law_case_right rfl (by first | exact Or.inl rfl | exact Or.inr rfl) (pe_t1 (cr_tuple rfl) rfl D.b_tuple boot_tuple (pe_compD (own := [("_law_bit", 5)]) rfl nd__law_case_right (pi_seqD (pe_nm (i := 1) rfl (by first | exact Or.inl rfl | exact Or.inr (Or.inl rfl) | exact Or.inr (Or.inr rfl)) rfl rfl)) (blkOk_by (N := N__law_case_right) (sc := defScope (top 18)) (by decide +kernel)) (fun _ _ _ _ _ => (pg_nameD (i := 5) nd__law_case_right rfl (by first | exact Or.inl rfl | exact Or.inr rfl) (by first | exact Or.inl rfl | exact Or.inr rfl) (.inl (Nat.zero_le _)))) (fun _ _ _ _ _ => (pts_one (pt_cmp2 (opr_eq (Room.units hr)) (pe_ixD (pe_nm (i := 5) rfl (by first | exact Or.inl rfl | exact Or.inr (Or.inl rfl) | exact Or.inr (Or.inr rfl)) rfl rfl) pe_cint (fun _ _ => rfl)) pe_cstr rfl gb_eq))) (fun _ _ _ _ _ => (pe_ixD (pe_nm (i := 5) rfl (by first | exact Or.inl rfl | exact Or.inr (Or.inl rfl) | exact Or.inr (Or.inr rfl)) rfl rfl) pe_cint (fun _ _ => rfl))) (fun _ => rfl) (by decide)) (by decide) rfl rfl) rfl (.inl rfl) (.inl (by decide))) (pss_consG (ps_retG (pe_callD (ok__law_same D 8) (hr.mono (by decide)) rfl D.g__law_same D.F__law_same.kp D.B__law_same (pr_val (pe_nm (i := 3) rfl (by first | exact Or.inl rfl | exact Or.inr (Or.inl rfl) | exact Or.inr (Or.inr rfl)) rfl rfl) (pr_val (pe_bin opr_add (pe_nm (i := 6) rfl (by first | exact Or.inl rfl | exact Or.inr (Or.inl rfl) | exact Or.inr (Or.inr rfl)) rfl rfl) (pe_lstD (pa_consD (pe_nm (i := 7) rfl (by first | exact Or.inl rfl | exact Or.inr (Or.inl rfl) | exact Or.inr (Or.inr rfl)) rfl rfl) (pa_consD (pe_nm (i := 7) rfl (by first | exact Or.inl rfl | exact Or.inr (Or.inl rfl) | exact Or.inr (Or.inr rfl)) rfl rfl) pa_nilD rfl) rfl))) pr_nil rfl) rfl) rfl rfl rfl)) pss_nilG)))))))
abbrev N__law_right : List Str := ["_law_tin", "_law_turn"]
def G__law_right : FG := (gSeq (gRet 1 (fOne gAll (fComp [1] (fiRng1 (faCons (fCst (.int 30)) faNil)) (bName 1) fTYes (fCall F__law_case_right (frBox (fVar 0) frNil))))) gSkip)
def F__law_right : FS := fDef 2 1 [] G__law_right
theorem nd__law_right : (N__law_right).Nodup := by decide +kernel
theorem sc__law_right : FnScope N__law_right ["_law_tin"] (defScope (top 19)) := ⟨rfl, rfl, rfl, nd__law_right, rfl, by decide +kernel, by decide +kernel⟩
theorem ok__law_right (D : Ds K mg base) : FnOk P w K mg base (L2.CX P w) 11 D.f__law_right D.fd__law_right ["_law_tin"] (spD K F__law_right) :=
  fn_DD (N := N__law_right) (k := 10) (As := []) D.F__law_right sc__law_right (by decide) fun cdv A outer s H E hr =>
    (pss_consG (ps_retG (pe_b1 (cr_allD rfl) rfl D.b_all boot_all (pe_compD (own := [("_law_turn", 1)]) rfl nd__law_right (pi_rng1D rfl D.b_range (pa_consD pe_cint pa_nilD rfl) rfl) (blkOk_by (N := N__law_right) (sc := defScope (top 19)) (by decide +kernel)) (fun _ _ _ _ _ => (pg_nameD (i := 1) nd__law_right rfl (by first | exact Or.inl rfl | exact Or.inr rfl) (by first | exact Or.inl rfl | exact Or.inr rfl) (.inl (Nat.zero_le _)))) (fun _ _ _ _ _ => pts_nilD) (fun _ _ _ _ _ => (pe_callD (ok__law_case_right D) (hr.mono (by decide)) rfl D.g__law_case_right D.F__law_case_right.kp D.B__law_case_right (pr_box (pe_nm (i := 0) rfl (by first | exact Or.inl rfl | exact Or.inr (Or.inl rfl) | exact Or.inr (Or.inr rfl)) rfl rfl) pr_nil rfl) rfl rfl rfl)) (fun _ => rfl) (by decide)) (by decide) rfl rfl)) pss_nilG)
abbrev N_law : List Str := ["_law_script", "_law_cells_here", "_law_k"]
def G_law : FG := (gSeq (gIfS (fTNot (fTst (fCall F__law_hand_right frNil))) (gSeq (gRet 1 (fCst (.bool false))) gSkip) gSkip) (gSeq (gSet 1 (fCall Sh.F__law_cells (frVal (fVar 0) (frVal (fCst (.int 3)) frNil)))) (gSeq (gRet 1 (fOne gAll (fComp [2] (fiRng1 (faCons (fOne gLen (fVar 1)) faNil)) (bName 2) fTYes (fCall F__law_right (frGive (fCall F__law_box (frVal (fVar 1) (frVal (fVar 2) frNil)))))))) gSkip)))
def F_law : FS := fDef 3 1 [] G_law
theorem nd_law : (N_law).Nodup := by decide +kernel
theorem sc_law : FnScope N_law ["_law_script"] (defScope (top 20)) := ⟨rfl, rfl, rfl, nd_law, rfl, by decide +kernel, by decide +kernel⟩
theorem ok_law (D : Ds K mg base) : FnOk P w K mg base (L2.CX P w) 12 D.f_law D.fd_law ["_law_script"] (spD K F_law) :=
  fn_DD (N := N_law) (k := 11) (As := []) D.F_law sc_law (by decide) fun cdv A outer s H E hr =>
    (pss_consG (ps_ifG (pt_notD (pt_tst (pe_call0D (ok__law_hand_right D) (hr.mono (by decide)) rfl D.g__law_hand_right D.F__law_hand_right.kp D.B__law_hand_right rfl) (fun _ => rfl))) (pss_consG (ps_retG pe_cbl) pss_nilG) pss_nilG) (pss_consG (ps_setG (i := 1) nd_law rfl (by first | exact Or.inl rfl | exact Or.inr rfl) (pe_callD (ok__law_cells D) (hr.mono (by decide)) rfl D.g__law_cells D.F__law_cells.kp D.B__law_cells (pr_val (pe_nm (i := 0) rfl (by first | exact Or.inl rfl | exact Or.inr (Or.inl rfl) | exact Or.inr (Or.inr rfl)) rfl rfl) (pr_val pe_cint pr_nil rfl) rfl) rfl rfl rfl) rfl (.inl rfl) (.inl (by decide))) (pss_consG (ps_retG (pe_b1 (cr_allD rfl) rfl D.b_all boot_all (pe_compD (own := [("_law_k", 2)]) rfl nd_law (pi_rng1D rfl D.b_range (pa_consD (pe_b1 cr_len rfl D.b_len boot_len (pe_nm (i := 1) rfl (by first | exact Or.inl rfl | exact Or.inr (Or.inl rfl) | exact Or.inr (Or.inr rfl)) rfl rfl) (by decide) rfl rfl) pa_nilD rfl) rfl) (blkOk_by (N := N_law) (sc := defScope (top 20)) (by decide +kernel)) (fun _ _ _ _ _ => (pg_nameD (i := 2) nd_law rfl (by first | exact Or.inl rfl | exact Or.inr rfl) (by first | exact Or.inl rfl | exact Or.inr rfl) (.inl (Nat.zero_le _)))) (fun _ _ _ _ _ => pts_nilD) (fun _ _ _ _ _ => (pe_callD (ok__law_right D) (hr.mono (by decide)) rfl D.g__law_right D.F__law_right.kp D.B__law_right (pr_give (pe_callD (ok__law_box D) (hr.mono (by decide)) rfl D.g__law_box D.F__law_box.kp D.B__law_box (pr_val (pe_nm (i := 1) rfl (by first | exact Or.inl rfl | exact Or.inr (Or.inl rfl) | exact Or.inr (Or.inr rfl)) rfl rfl) (pr_val (pe_nm (i := 2) rfl (by first | exact Or.inl rfl | exact Or.inr (Or.inl rfl) | exact Or.inr (Or.inr rfl)) rfl rfl) pr_nil rfl) rfl) rfl rfl rfl) rfl) rfl rfl rfl)) (fun _ => rfl) (by decide)) (by decide) rfl rfl)) pss_nilG)))
end
def d_is_number : He.DefD := ⟨("is_number", none), "is_number", "is_number", defArgs (top 1), defBody (top 1), defScope (top 1), [], []⟩
def d_is_step : He.DefD := ⟨("is_step", none), "is_step", "is_step", defArgs (top 3), defBody (top 3), defScope (top 3), [], []⟩
def d_is_word : He.DefD := ⟨("is_word", none), "is_word", "is_word", defArgs (top 4), defBody (top 4), defScope (top 4), [], []⟩
def d_kinds_in : He.DefD := ⟨("kinds_in", none), "kinds_in", "kinds_in", defArgs (top 5), defBody (top 5), defScope (top 5), [], []⟩
def d__law_box : He.DefD := ⟨("_law_box", none), "_law_box", "_law_box", defArgs (top 7), defBody (top 7), defScope (top 7), [], []⟩
def d__law_take : He.DefD := ⟨("_law_take", none), "_law_take", "_law_take", defArgs (top 8), defBody (top 8), defScope (top 8), [], []⟩
def d__law_cells : He.DefD := ⟨("_law_cells", none), "_law_cells", "_law_cells", defArgs (top 9), defBody (top 9), defScope (top 9), [], []⟩
def d__law_of : He.DefD := ⟨("_law_of", none), "_law_of", "_law_of", defArgs (top 10), defBody (top 10), defScope (top 10), [], []⟩
def d__law_lists : He.DefD := ⟨("_law_lists", none), "_law_lists", "_law_lists", defArgs (top 11), defBody (top 11), defScope (top 11), [], []⟩
def d__law_same : He.DefD := ⟨("_law_same", none), "_law_same", "_law_same", defArgs (top 12), defBody (top 12), defScope (top 12), [], []⟩
def d__law_row : He.DefD := ⟨("_law_row", none), "_law_row", "_law_row", defArgs (top 13), defBody (top 13), defScope (top 13), [], []⟩
def d__law_fine : He.DefD := ⟨("_law_fine", none), "_law_fine", "_law_fine", defArgs (top 14), defBody (top 14), defScope (top 14), [], []⟩
def d__law_is_row : He.DefD := ⟨("_law_is_row", none), "_law_is_row", "_law_is_row", defArgs (top 15), defBody (top 15), defScope (top 15), [], []⟩
def d__law_hand_right : He.DefD := ⟨("_law_hand_right", none), "_law_hand_right", "_law_hand_right", defArgs (top 16), defBody (top 16), defScope (top 16), [], []⟩
def d__law_bent : He.DefD := ⟨("_law_bent", none), "_law_bent", "_law_bent", defArgs (top 17), defBody (top 17), defScope (top 17), [], []⟩
def d__law_case_right : He.DefD := ⟨("_law_case_right", none), "_law_case_right", "_law_case_right", defArgs (top 18), defBody (top 18), defScope (top 18), [], []⟩
def d__law_right : He.DefD := ⟨("_law_right", none), "_law_right", "_law_right", defArgs (top 19), defBody (top 19), defScope (top 19), [], []⟩
def d_law : He.DefD := ⟨("law", none), "law", "law", defArgs (top 20), defBody (top 20), defScope (top 20), [], []⟩
def defL : List He.DefD := [d_is_number, d_is_step, d_is_word, d_kinds_in, d__law_box, d__law_take, d__law_cells, d__law_of, d__law_lists, d__law_same, d__law_row, d__law_fine, d__law_is_row, d__law_hand_right, d__law_bent, d__law_case_right, d__law_right, d_law]
def facL : List He.Fa := [.glo "is_number", .glo "is_step", .glo "is_word", .glo "kinds_in", .glo "_law_box", .glo "_law_take", .glo "_law_cells", .glo "_law_of", .glo "_law_lists", .glo "_law_same", .glo "_law_row", .glo "_law_fine", .glo "_law_is_row", .glo "_law_hand_right", .glo "_law_bent", .glo "_law_case_right", .glo "_law_right", .glo "law", .free "isinstance", .free "int", .free "bool", .free "len", .free "tuple", .free "all", .free "set", .free "abs", .free "enumerate", .free "list", .free "str", .free "dict", .free "zip", .free "range"]
def tfL : List He.Defn := []
def exT : PySem.W.Frag → Bool := fun _ => true
abbrev R : PySem.W.OpenRow := PySem.W.OpenLaw.row PySem.Challenge.rw_partpicks_k16_steps_and_words_or_none
abbrev hokF : PySem.W.Hook := He.hookX 4 facL defL [] tfL exT
def obsF (s : PySem.W.SharedT) : He.AlX := He.obsX 4 facL defL [] tfL exT (HandSHeadRun.getT s)
theorem obsF_eq (s : PySem.W.SharedT) : obsF s = hokF.obs s.abs := He.obsX_eq (HandSHeadRun.getT_eq s)
def loose0 : List Str := ["is_number", "is_step", "is_word", "kinds_in", "_law_box", "_law_take", "_law_cells", "_law_of", "_law_lists", "_law_same", "_law_row", "_law_fine", "_law_is_row", "_law_hand_right", "_law_bent", "_law_case_right", "_law_right"]
def loose : List Str := loose0
theorem run (w : World) : HandSHeadRun.RunEq R (PySem.W.view R.prog [20]) hokF obsF 4000 loose w := by
  intro os
  kernel_rfl
def nmL : Str := ""
theorem facts {P : Program} {w : World} {K : PySem.W.Frag} {h : Heap} {mg : Str → Option Value} {f : Addr} (X : K.In h) (Gn : h.Ns mainGlobals mg) (hfa : mg ("law" : Str) = some (.ref f)) (c0 : He.SaysX facL defL [] tfL exT w h K) :
    ∃ fd : FuncData, (∀ (s : Shared) (v : Value), BindsTo s fd ⟨[v], []⟩ [("_law_script", v)]) ∧ ∀ base : Heap, K.In base → base.Ns mainGlobals mg → (∀ p ∈ tfL.map (He.cT K), LamX.TabB base mg p.1 p.2) → FnOk P w K mg base (L2.CX P w) 12 f fd ["_law_script"] (@spD ⟨(tfL.map (He.cT K)).map fun p => (p.2, nmL)⟩ K F_law) := by
  have c := c0.t.d
  obtain ⟨fd0, F0⟩ := c.def_ 0 (d := d_is_number) rfl
  obtain ⟨fd1, F1⟩ := c.def_ 1 (d := d_is_step) rfl
  obtain ⟨fd2, F2⟩ := c.def_ 2 (d := d_is_word) rfl
  obtain ⟨fd3, F3⟩ := c.def_ 3 (d := d_kinds_in) rfl
  obtain ⟨fd4, F4⟩ := c.def_ 4 (d := d__law_box) rfl
  obtain ⟨fd5, F5⟩ := c.def_ 5 (d := d__law_take) rfl
  obtain ⟨fd6, F6⟩ := c.def_ 6 (d := d__law_cells) rfl
  obtain ⟨fd7, F7⟩ := c.def_ 7 (d := d__law_of) rfl
  obtain ⟨fd8, F8⟩ := c.def_ 8 (d := d__law_lists) rfl
  obtain ⟨fd9, F9⟩ := c.def_ 9 (d := d__law_same) rfl
  obtain ⟨fd10, F10⟩ := c.def_ 10 (d := d__law_row) rfl
  obtain ⟨fd11, F11⟩ := c.def_ 11 (d := d__law_fine) rfl
  obtain ⟨fd12, F12⟩ := c.def_ 12 (d := d__law_is_row) rfl
  obtain ⟨fd13, F13⟩ := c.def_ 13 (d := d__law_hand_right) rfl
  obtain ⟨fd14, F14⟩ := c.def_ 14 (d := d__law_bent) rfl
  obtain ⟨fd15, F15⟩ := c.def_ 15 (d := d__law_case_right) rfl
  obtain ⟨fd16, F16⟩ := c.def_ 16 (d := d__law_right) rfl
  obtain ⟨fd17, F17⟩ := c.def_ 17 (d := d_law) rfl
  have e := hfa.symm.trans (He.glo_ok X Gn (c.fact 17 (f := .glo "law") rfl))
  cases e
  refine ⟨fd17, fun s v => FunD.bindsA (ps := ["_law_script"]) F17 (fun _ _ _ _ _ _ us hl => match us, hl with | [_], _ => rfl) s [v] rfl, fun base _ _ hT => ?_⟩
  letI : Tb := ⟨(tfL.map (He.cT K)).map fun p => (p.2, nmL)⟩
  let D : Ds K mg base := {
    f_is_number := _, fd_is_number := fd0, F_is_number := F0, g_is_number := He.glo_ok X Gn (c.fact 0 (f := .glo "is_number") rfl), B_is_number := FunD.bindsN (ps := ["thing"]) F0 fun _ _ _ _ _ _ us hl => match us, hl with | [_], _ => rfl,
    f_is_step := _, fd_is_step := fd1, F_is_step := F1, g_is_step := He.glo_ok X Gn (c.fact 1 (f := .glo "is_step") rfl), B_is_step := FunD.bindsN (ps := ["thing"]) F1 fun _ _ _ _ _ _ us hl => match us, hl with | [_], _ => rfl,
    f_is_word := _, fd_is_word := fd2, F_is_word := F2, g_is_word := He.glo_ok X Gn (c.fact 2 (f := .glo "is_word") rfl), B_is_word := FunD.bindsN (ps := ["thing"]) F2 fun _ _ _ _ _ _ us hl => match us, hl with | [_], _ => rfl,
    f_kinds_in := _, fd_kinds_in := fd3, F_kinds_in := F3, g_kinds_in := He.glo_ok X Gn (c.fact 3 (f := .glo "kinds_in") rfl), B_kinds_in := FunD.bindsN (ps := ["word"]) F3 fun _ _ _ _ _ _ us hl => match us, hl with | [_], _ => rfl,
    f__law_box := _, fd__law_box := fd4, F__law_box := F4, g__law_box := He.glo_ok X Gn (c.fact 4 (f := .glo "_law_box") rfl), B__law_box := FunD.bindsN (ps := ["_law_script", "_law_k"]) F4 fun _ _ _ _ _ _ us hl => match us, hl with | [_, _], _ => rfl,
    f__law_take := _, fd__law_take := fd5, F__law_take := F5, g__law_take := He.glo_ok X Gn (c.fact 5 (f := .glo "_law_take") rfl), B__law_take := FunD.bindsN (ps := ["_law_tin", "_law_top_so"]) F5 fun _ _ _ _ _ _ us hl => match us, hl with | [_, _], _ => rfl,
    f__law_cells := _, fd__law_cells := fd6, F__law_cells := F6, g__law_cells := He.glo_ok X Gn (c.fact 6 (f := .glo "_law_cells") rfl), B__law_cells := FunD.bindsN (ps := ["_law_script", "_law_most"]) F6 fun _ _ _ _ _ _ us hl => match us, hl with | [_, _], _ => rfl,
    f__law_of := _, fd__law_of := fd7, F__law_of := F7, g__law_of := He.glo_ok X Gn (c.fact 7 (f := .glo "_law_of") rfl), B__law_of := FunD.bindsN (ps := ["_law_tin", "_law_lot"]) F7 fun _ _ _ _ _ _ us hl => match us, hl with | [_, _], _ => rfl,
    f__law_lists := _, fd__law_lists := fd8, F__law_lists := F8, g__law_lists := He.glo_ok X Gn (c.fact 8 (f := .glo "_law_lists") rfl), B__law_lists := FunD.bindsN (ps := ["_law_matter"]) F8 fun _ _ _ _ _ _ us hl => match us, hl with | [_], _ => rfl,
    f__law_same := _, fd__law_same := fd9, F__law_same := F9, g__law_same := He.glo_ok X Gn (c.fact 9 (f := .glo "_law_same") rfl), B__law_same := FunD.bindsN (ps := ["_law_got", "_law_due"]) F9 fun _ _ _ _ _ _ us hl => match us, hl with | [_, _], _ => rfl,
    f__law_row := _, fd__law_row := fd10, F__law_row := F10, g__law_row := He.glo_ok X Gn (c.fact 10 (f := .glo "_law_row") rfl), B__law_row := FunD.bindsN (ps := ["_law_tin", "_law_many", "_law_width"]) F10 fun _ _ _ _ _ _ us hl => match us, hl with | [_, _, _], _ => rfl,
    f__law_fine := _, fd__law_fine := fd11, F__law_fine := F11, g__law_fine := He.glo_ok X Gn (c.fact 11 (f := .glo "_law_fine") rfl), B__law_fine := FunD.bindsN (ps := ["_law_bit"]) F11 fun _ _ _ _ _ _ us hl => match us, hl with | [_], _ => rfl,
    f__law_is_row := _, fd__law_is_row := fd12, F__law_is_row := F12, g__law_is_row := He.glo_ok X Gn (c.fact 12 (f := .glo "_law_is_row") rfl), B__law_is_row := FunD.bindsN (ps := ["_law_matter"]) F12 fun _ _ _ _ _ _ us hl => match us, hl with | [_], _ => rfl,
    f__law_hand_right := _, fd__law_hand_right := fd13, F__law_hand_right := F13, g__law_hand_right := He.glo_ok X Gn (c.fact 13 (f := .glo "_law_hand_right") rfl), B__law_hand_right := FunD.bindsN (ps := []) F13 fun _ _ _ _ _ _ us hl => match us, hl with | [], _ => rfl,
    f__law_bent := _, fd__law_bent := fd14, F__law_bent := F14, g__law_bent := He.glo_ok X Gn (c.fact 14 (f := .glo "_law_bent") rfl), B__law_bent := FunD.bindsN (ps := ["_law_tin", "_law_row_so"]) F14 fun _ _ _ _ _ _ us hl => match us, hl with | [_, _], _ => rfl,
    f__law_case_right := _, fd__law_case_right := fd15, F__law_case_right := F15, g__law_case_right := He.glo_ok X Gn (c.fact 15 (f := .glo "_law_case_right") rfl), B__law_case_right := FunD.bindsN (ps := ["_law_tin"]) F15 fun _ _ _ _ _ _ us hl => match us, hl with | [_], _ => rfl,
    f__law_right := _, fd__law_right := fd16, F__law_right := F16, g__law_right := He.glo_ok X Gn (c.fact 16 (f := .glo "_law_right") rfl), B__law_right := FunD.bindsN (ps := ["_law_tin"]) F16 fun _ _ _ _ _ _ us hl => match us, hl with | [_], _ => rfl,
    f_law := _, fd_law := fd17, F_law := F17, g_law := He.glo_ok X Gn (c.fact 17 (f := .glo "law") rfl), B_law := FunD.bindsN (ps := ["_law_script"]) F17 fun _ _ _ _ _ _ us hl => match us, hl with | [_], _ => rfl,
    K_is_step_thing := Pt.kbn_D F1 fun _ _ _ _ _ _ ws hl => match ws, hl with | [_], _ => rfl,
    K_is_word_thing := Pt.kbn_D F2 fun _ _ _ _ _ _ ws hl => match ws, hl with | [_], _ => rfl,
    K_kinds_in_word := Pt.kbn_D F3 fun _ _ _ _ _ _ ws hl => match ws, hl with | [_], _ => rfl,
    b_isinstance := He.free_ok X Gn (c.fact 18 (f := .free "isinstance") rfl),
    b_int := He.free_ok X Gn (c.fact 19 (f := .free "int") rfl),
    b_bool := He.free_ok X Gn (c.fact 20 (f := .free "bool") rfl),
    b_len := He.free_ok X Gn (c.fact 21 (f := .free "len") rfl),
    b_tuple := He.free_ok X Gn (c.fact 22 (f := .free "tuple") rfl),
    b_all := He.free_ok X Gn (c.fact 23 (f := .free "all") rfl),
    b_set := He.free_ok X Gn (c.fact 24 (f := .free "set") rfl),
    b_abs := He.free_ok X Gn (c.fact 25 (f := .free "abs") rfl),
    b_enumerate := He.free_ok X Gn (c.fact 26 (f := .free "enumerate") rfl),
    b_list := He.free_ok X Gn (c.fact 27 (f := .free "list") rfl),
    b_str := He.free_ok X Gn (c.fact 28 (f := .free "str") rfl),
    b_dict := He.free_ok X Gn (c.fact 29 (f := .free "dict") rfl),
    b_zip := He.free_ok X Gn (c.fact 30 (f := .free "zip") rfl),
    b_range := He.free_ok X Gn (c.fact 31 (f := .free "range") rfl) }
  exact ok_law D
/-- the law, when its own def answers True -/
theorem holds (hF : ∀ ns : List Int, ns.length ≤ 63 → ∃ ss', F_law (scr ns) = some (.bool true, false, ss')) : PySem.Challenge.rw_partpicks_k16_steps_and_words_or_none.Holds := by
  open PySem.W in
  w_on; o_law
  refine HandSHeadRun.head_any (r := PySem.W.OpenLaw.row PySem.Challenge.rw_partpicks_k16_steps_and_words_or_none) (q := PySem.W.view (PySem.W.OpenLaw.row PySem.Challenge.rw_partpicks_k16_steps_and_words_or_none).prog [20]) (H := hokF) (ob := obsF) (M := 4000) (loose := loose) (d := HandSHeadRun.topDef (PySem.W.OpenLaw.row PySem.Challenge.rw_partpicks_k16_steps_and_words_or_none).prog 20) (kwd := []) obsF_eq
    (by kernel_rfl) (fun s => by kernel_rfl) run (by kernel_rfl) (by kernel_rfl) (by kernel_rfl) (by rfl) (by first | assumption | decide +kernel) (by decide +kernel) ⟨rfl, rfl, rfl, rfl, rfl, by decide +kernel⟩ ?hw ?hc
  case hw => w_witness2
  case hc =>
    refine Pt.walk_D (l := PySem.Challenge.rw_partpicks_k16_steps_and_words_or_none) (n := 63) (k := 12) (x := "_law_script") (Flaw := F_law) rfl (by decide) (by kernel_rfl) ⟨rfl, by decide, by decide⟩ hF ?F
    intro w mg fa h Y Gn hm0
    obtain ⟨K0, hKX, c0⟩ := Y
    have hm1 : mg ("law" : PySem.Str) = some (.ref fa) := by
      have e : (HandSHeadRun.topDef (PySem.W.OpenLaw.row PySem.Challenge.rw_partpicks_k16_steps_and_words_or_none).prog 20).name = ("law" : PySem.Str) := by kernel_rfl
      rw [← e]
      exact hm0
    obtain ⟨fd, hb, hF⟩ := facts (P := (PySem.Challenge.rw_partpicks_k16_steps_and_words_or_none).prog) (w := w) hKX Gn hm1 c0
    refine ⟨K0, fd, tfL.map (He.cT K0), fun _ => nmL, hKX, fun p hp => ?_, fun p hp => ?_, fun p hp => ?_, hb, hF⟩
    · obtain ⟨p0, h0, rfl⟩ := List.mem_map.mp hp
      exact c0.empty p0 h0
    · obtain ⟨p0, h0, rfl⟩ := List.mem_map.mp hp
      exact c0.out p0 h0
    · obtain ⟨p0, h0, rfl⟩ := List.mem_map.mp hp
      exact PySem.W.codeHd_of_K hKX (c0.hd p0 h0)
end Lk16

/-! The rules by which caps take out caps: the end of it is one, in whatever order (for k66, k69, k70). A cap: top n, or each (its kind and n). -/
namespace Cf
inductive Cap where
  | top (n : Int) | each (k n : Int)
  deriving DecidableEq
def Cap.last : Cap → Int
  | .top n => n
  | .each _ n => n
/-- a top of the caps ahead is not more -/
def J1 (pre : List Cap) (s : Cap) : Prop := ∃ n, Cap.top n ∈ pre ∧ n ≤ s.last
/-- the next one is a top that is less (or as much, behind an each) -/
def J2 (s : Cap) (suf : List Cap) : Prop := ∃ n q, suf = Cap.top n :: q ∧ ((∃ m, s = .top m ∧ n < m) ∨ ∃ k m, s = .each k m ∧ n ≤ m)
def J3 (suf : List Cap) : Prop := Cap.top 1 ∈ suf
def J (pre : List Cap) (s : Cap) (suf : List Cap) : Prop := J1 pre s ∨ J2 s suf ∨ J3 suf
def R (w v : List Cap) : Prop := ∃ pre s suf, w = pre ++ s :: suf ∧ v = pre ++ suf ∧ J pre s suf
inductive Rs : List Cap → List Cap → Prop
  | refl (w : List Cap) : Rs w w
  | step {w v u : List Cap} : R w v → Rs v u → Rs w u
theorem Rs.one {w v : List Cap} (h : R w v) : Rs w v := .step h (.refl v)
theorem Rs.trans {w v u : List Cap} (h : Rs w v) (k : Rs v u) : Rs w u := by
  induction h with
  | refl => exact k
  | step h1 _ ih => exact .step h1 (ih k)
def Good (w : List Cap) : Prop := ∀ s ∈ w, 1 ≤ s.last
theorem R.good {w v : List Cap} (h : R w v) (g : Good w) : Good v := by
  obtain ⟨pre, s, suf, rfl, rfl, _⟩ := h
  intro x hx
  refine g x ?_
  rcases List.mem_append.mp hx with h | h
  · exact List.mem_append_left _ h
  · exact List.mem_append_right _ (List.mem_cons_of_mem _ h)
theorem Rs.good {w v : List Cap} (h : Rs w v) : Good w → Good v := by
  induction h with
  | refl => exact id
  | step h1 _ ih => exact fun g => ih (h1.good g)
theorem R.len {w v : List Cap} (h : R w v) : w.length = v.length + 1 := by
  obtain ⟨pre, s, suf, rfl, rfl, _⟩ := h
  simp
  omega
theorem J2.le {s : Cap} {n : Int} {q : List Cap} (h : J2 s (Cap.top n :: q)) : n ≤ s.last := by
  obtain ⟨n', q', e, h⟩ := h
  cases e
  rcases h with ⟨m, rfl, h⟩ | ⟨k, m, rfl, h⟩
  · show n ≤ m; omega
  · exact h
/-- ahead of a top 1 all goes -/
theorem clear_ahead : ∀ (p q : List Cap), Cap.top 1 ∈ q → Rs (p ++ q) q
  | [], q, _ => .refl q
  | s :: p, q, h => by
    refine .step ⟨[], s, p ++ q, rfl, rfl, .inr (.inr (List.mem_append_right _ h))⟩ (clear_ahead p q h)
/-- behind a top 1 all goes -/
theorem clear_behind (p : List Cap) : ∀ (q : List Cap), Good q → Rs (p ++ Cap.top 1 :: q) (p ++ [Cap.top 1])
  | [], _ => .refl _
  | s :: q, g => by
    refine .step ⟨p ++ [Cap.top 1], s, q, by simp, rfl, .inl ⟨1, by simp, g s (by simp)⟩⟩ ?_
    have := clear_behind p q fun x hx => g x (by simp [hx])
    simpa using this
theorem apart {p s m t q} (g : Good (p ++ s :: (m ++ t :: q))) (hs : J p s (m ++ t :: q)) (ht : J (p ++ s :: m) t q) :
    (J (p ++ m) t q ∧ J p s (m ++ q)) ∨ (s = .top 1 ∧ t = .top 1) := by
  have gs : 1 ≤ s.last := g s (by simp)
  have gt : 1 ≤ t.last := g t (by simp)
  by_cases hx : s = .top 1 ∧ t = .top 1
  · exact .inr hx
  refine .inl ⟨?_, ?_⟩
  · rcases ht with ⟨n, hn, hle⟩ | h | h
    · rcases List.mem_append.mp hn with hn | hn
      · exact .inl ⟨n, List.mem_append_left _ hn, hle⟩
      rcases List.mem_cons.mp hn with e | hn
      · -- s itself was the reason
        have es : s = .top n := e.symm
        rcases hs with ⟨c, hc, hcl⟩ | h2 | h3
        · rw [es] at hcl
          exact .inl ⟨c, List.mem_append_left _ hc, by have : c ≤ n := hcl; omega⟩
        · obtain ⟨c, q', e2, h2⟩ := h2
          rcases h2 with ⟨m', e3, hlt⟩ | ⟨k, m', e3, _⟩
          · rw [es] at e3
            cases e3
            cases m with
            | nil =>
              cases e2
              exfalso
              have : n ≤ c := hle
              omega
            | cons x m =>
              cases e2
              exact .inl ⟨c, by simp, by omega⟩
          · rw [es] at e3; cases e3
        · rcases List.mem_append.mp h3 with h3 | h3
          · exact .inl ⟨1, List.mem_append_right _ h3, gt⟩
          rcases List.mem_cons.mp h3 with e4 | h3
          · exfalso
            have et : t = .top 1 := e4.symm
            refine hx ⟨?_, et⟩
            rw [et] at hle
            rw [es] at gs ⊢
            have h1 : n ≤ 1 := hle
            have h2 : 1 ≤ n := gs
            rw [show n = 1 from by omega]
          · exact .inr (.inr h3)
      · exact .inl ⟨n, List.mem_append_right _ hn, hle⟩
    · exact .inr (.inl h)
    · exact .inr (.inr h)
  · rcases hs with h | h | h
    · exact .inl h
    · cases m with
      | cons x m =>
        obtain ⟨n, q', e, h⟩ := h
        cases e
        exact .inr (.inl ⟨n, m ++ q, rfl, h⟩)
      | nil =>
        obtain ⟨n, q', e, h⟩ := h
        cases e
        have hns : n ≤ s.last := by
          rcases h with ⟨m', rfl, h⟩ | ⟨k, m', rfl, h⟩
          · show n ≤ m'; omega
          · exact h
        rcases ht with ⟨c, hc, hcl⟩ | h2 | h3
        · have hcl : c ≤ n := hcl
          rcases List.mem_append.mp hc with hc | hc
          · exact .inl ⟨c, hc, by omega⟩
          · have es : s = .top c := by
              rcases List.mem_cons.mp hc with e | e
              · exact e.symm
              · cases e
            exfalso
            rcases h with ⟨m', e3, hlt⟩ | ⟨k, m', e3, _⟩
            · rw [es] at e3; cases e3; omega
            · rw [es] at e3; cases e3
        · obtain ⟨d, q'', e2, h2⟩ := h2
          rcases h2 with ⟨m', e3, hlt⟩ | ⟨k, m', e3, _⟩
          · cases e3
            subst e2
            refine .inr (.inl ⟨d, q'', rfl, ?_⟩)
            rcases h with ⟨m', e4, h⟩ | ⟨k, m', e4, h⟩
            · exact .inl ⟨m', e4, by omega⟩
            · exact .inr ⟨k, m', e4, by omega⟩
          · cases e3
        · exact .inr (.inr h3)
    · rcases List.mem_append.mp h with h | h
      · exact .inr (.inr (List.mem_append_left _ h))
      rcases List.mem_cons.mp h with e | h
      · have et : t = .top 1 := e.symm
        rcases ht with ⟨c, hc, hcl⟩ | h2 | h3
        · rw [et] at hcl
          have hcl : c ≤ 1 := hcl
          rcases List.mem_append.mp hc with hc | hc
          · exact .inl ⟨c, hc, by omega⟩
          rcases List.mem_cons.mp hc with es | hc
          · exfalso
            refine hx ⟨?_, et⟩
            rw [← es] at gs ⊢
            have h2 : 1 ≤ c := gs
            rw [show c = 1 from by omega]
          · have gc : 1 ≤ c := g (.top c) (by simp [hc])
            rw [show c = 1 from by omega] at hc
            exact .inr (.inr (List.mem_append_left _ hc))
        · exfalso
          obtain ⟨d, q'', e2, h2⟩ := h2
          have gd : 1 ≤ d := g (.top d) (by rw [e2]; simp)
          rcases h2 with ⟨m', e3, hlt⟩ | ⟨k, m', e3, _⟩
          · rw [et] at e3; cases e3; omega
          · rw [et] at e3; cases e3
        · exact .inr (.inr (List.mem_append_right _ h3))
      · exact .inr (.inr (List.mem_append_right _ h))
/-- two ways meet again -/
theorem meet {w a b : List Cap} (g : Good w) (h1 : R w a) (h2 : R w b) : ∃ c, Rs a c ∧ Rs b c := by
  have main : ∀ {p s m t q}, Good (p ++ s :: (m ++ t :: q)) → J p s (m ++ t :: q) → J (p ++ s :: m) t q → ∃ c, Rs (p ++ (m ++ t :: q)) c ∧ Rs ((p ++ s :: m) ++ q) c := by
    intro p s m t q g hs ht
    rcases apart g hs ht with ⟨k1, k2⟩ | ⟨rfl, rfl⟩
    · refine ⟨p ++ (m ++ q), .one ⟨p ++ m, t, q, by simp, by simp, k1⟩, .one ⟨p, s, m ++ q, by simp, rfl, k2⟩⟩
    · have gq : Good q := fun x hx => g x (by simp [hx])
      have gm : Good (m ++ q) := fun x hx => g x (by
        rcases List.mem_append.mp hx with h | h
        · simp [h]
        · simp [h])
      refine ⟨[.top 1], ?_, ?_⟩
      · have h1 := clear_ahead (p ++ m) (Cap.top 1 :: q) (by simp)
        have h2 := clear_behind [] q gq
        rw [List.append_assoc] at h1
        exact h1.trans h2
      · have h1 := clear_behind p (m ++ q) gm
        have h2 := clear_ahead p [Cap.top 1] (by simp)
        rw [List.append_assoc, List.cons_append]
        exact h1.trans h2
  obtain ⟨p1, s, q1, e1, rfl, k1⟩ := h1
  obtain ⟨p2, t, q2, e2, rfl, k2⟩ := h2
  have e : p1 ++ s :: q1 = p2 ++ t :: q2 := e1.symm.trans e2
  rcases List.append_eq_append_iff.mp e with ⟨l, ha, hb⟩ | ⟨l, ha, hb⟩
  · -- p2 = p1 ++ l, s :: q1 = l ++ t :: q2
    cases l with
    | nil =>
      rw [List.append_nil] at ha
      cases hb
      subst ha
      exact ⟨_, .refl _, .refl _⟩
    | cons x l =>
      cases hb
      subst ha
      subst e1
      exact main g k1 k2
  · cases l with
    | nil =>
      rw [List.append_nil] at ha
      cases hb
      subst ha
      exact ⟨_, .refl _, .refl _⟩
    | cons x l =>
      cases hb
      subst ha
      subst e2
      obtain ⟨c, c1, c2⟩ := main g k2 k1
      exact ⟨c, c2, c1⟩
def End (w : List Cap) : Prop := ∀ v, ¬ R w v
theorem End.rs {w v : List Cap} (h : End w) (k : Rs w v) : v = w := by
  cases k with
  | refl => rfl
  | step h1 _ => exact absurd h1 (h _)
theorem ends : ∀ (n : Nat) (w : List Cap), w.length ≤ n → ∃ v, Rs w v ∧ End v := by
  intro n
  induction n with
  | zero => 
    intro w h
    refine ⟨w, .refl w, fun v k => ?_⟩
    have := k.len
    omega
  | succ n ih =>
    intro w h
    by_cases k : ∃ v, R w v
    · obtain ⟨v, k⟩ := k
      obtain ⟨u, h1, h2⟩ := ih v (by have := k.len; omega)
      exact ⟨u, .step k h1, h2⟩
    · exact ⟨w, .refl w, fun v hv => k ⟨v, hv⟩⟩
/-- the end is one -/
theorem one : ∀ (n : Nat) (w a b : List Cap), w.length ≤ n → Good w → Rs w a → End a → Rs w b → End b → a = b := by
  intro n
  induction n with
  | zero =>
    intro w a b hl g ha ea hb eb
    have hw : End w := fun v k => by have := k.len; omega
    rw [hw.rs ha, hw.rs hb]
  | succ n ih =>
    intro w a b hl g ha ea hb eb
    cases ha with
    | refl => exact (ea.rs hb).symm
    | @step _ a1 _ h1 ha =>
      cases hb with
      | refl => exact absurd h1 (eb _)
      | @step _ b1 _ h2 hb =>
        obtain ⟨c, c1, c2⟩ := meet g h1 h2
        obtain ⟨d, d1, d2⟩ := ends _ c (Nat.le_refl _)
        have l1 := h1.len
        have l2 := h2.len
        rw [ih a1 a d (by omega) (h1.good g) ha ea (c1.trans d1) d2]
        exact (ih b1 b d (by omega) (h2.good g) hb eb (c2.trans d1) d2).symm
end Cf

/-! More of caps that take out caps (for k69): within a longer word, a top 1, other kinds. -/
namespace Cf
theorem J.ctx {p q x y : List Cap} {s : Cap} (h : J p s q) : J (x ++ p) s (q ++ y) := by
  rcases h with ⟨n, h, hl⟩ | ⟨n, q', e, h⟩ | h
  · exact .inl ⟨n, List.mem_append_right _ h, hl⟩
  · subst e
    exact .inr (.inl ⟨n, q' ++ y, rfl, h⟩)
  · exact .inr (.inr (List.mem_append_left _ h))
theorem R.ctx {w v : List Cap} (h : R w v) (x y : List Cap) : R (x ++ (w ++ y)) (x ++ (v ++ y)) := by
  obtain ⟨p, s, q, rfl, rfl, hj⟩ := h
  exact ⟨x ++ p, s, q ++ y, by simp, by simp, hj.ctx⟩
theorem Rs.ctx {w v : List Cap} (h : Rs w v) (x y : List Cap) : Rs (x ++ (w ++ y)) (x ++ (v ++ y)) := by
  induction h with
  | refl => exact .refl _
  | step h1 _ ih => exact .step (h1.ctx x y) ih
/-- the end of a joined word is the end of the ends joined -/
theorem join {a b a' b' c d : List Cap} (ga : Good (a ++ b)) (ha : Rs a a') (hb : Rs b b') (hc : Rs (a ++ b) c) (ec : End c) (hd : Rs (a' ++ b') d) (ed : End d) : c = d := by
  have h1 : Rs (a ++ b) (a' ++ b) := by simpa using ha.ctx [] b
  have h2 : Rs (a' ++ b) (a' ++ b') := by simpa using hb.ctx a' []
  exact one _ _ c d (Nat.le_refl _) ga hc ec (h1.trans (h2.trans hd)) ed
theorem R.top1 {w v : List Cap} (g : Good w) (h : R w v) : Cap.top 1 ∈ w ↔ Cap.top 1 ∈ v := by
  obtain ⟨p, s, q, rfl, rfl, hj⟩ := h
  constructor
  · intro hm
    rcases List.mem_append.mp hm with h | h
    · exact List.mem_append_left _ h
    rcases List.mem_cons.mp h with e | h
    · rcases hj with ⟨n, hn, hl⟩ | ⟨n, q', e2, h2⟩ | h3
      · have gn : 1 ≤ n := g (.top n) (by simp [hn])
        rw [← e] at hl
        have hl : n ≤ 1 := hl
        rw [show n = 1 from by omega] at hn
        exact List.mem_append_left _ hn
      · have gn : 1 ≤ n := g (.top n) (by rw [e2]; simp)
        exfalso
        rcases h2 with ⟨m, e3, h⟩ | ⟨k, m, e3, _⟩
        · rw [← e] at e3; cases e3; omega
        · rw [← e] at e3; cases e3
      · exact List.mem_append_right _ h3
    · exact List.mem_append_right _ h
  · intro hm
    rcases List.mem_append.mp hm with h | h
    · exact List.mem_append_left _ h
    · exact List.mem_append_right _ (List.mem_cons_of_mem _ h)
theorem Rs.top1 {w v : List Cap} (h : Rs w v) : Good w → (Cap.top 1 ∈ w ↔ Cap.top 1 ∈ v) := by
  induction h with
  | refl => exact fun _ => Iff.rfl
  | step h1 _ ih => exact fun g => (h1.top1 g).trans (ih (h1.good g))
theorem Rs.sub {w v : List Cap} (h : Rs w v) : ∀ x ∈ v, x ∈ w := by
  induction h with
  | refl => exact fun _ h => h
  | step h1 _ ih =>
    obtain ⟨p, s, q, rfl, rfl, _⟩ := h1
    intro x hx
    rcases List.mem_append.mp (ih x hx) with h | h
    · exact List.mem_append_left _ h
    · exact List.mem_append_right _ (List.mem_cons_of_mem _ h)
/-! ### other kinds -/
def Cap.turn (f : Int → Int) : Cap → Cap
  | .top n => .top n
  | .each k n => .each (f k) n
theorem turn_last {f : Int → Int} {s : Cap} : (s.turn f).last = s.last := by cases s <;> rfl
theorem turn_top {f : Int → Int} {w : List Cap} {n : Int} : Cap.top n ∈ w.map (Cap.turn f) ↔ Cap.top n ∈ w := by
  rw [List.mem_map]
  constructor
  · rintro ⟨x, hx, e⟩
    cases x with
    | top m => cases e; exact hx
    | each k m => cases e
  · exact fun h => ⟨_, h, rfl⟩
theorem turn_J {f : Int → Int} {p q : List Cap} {s : Cap} : J (p.map (Cap.turn f)) (s.turn f) (q.map (Cap.turn f)) ↔ J p s q := by
  unfold J
  refine or_congr ?_ (or_congr ?_ ?_)
  · unfold J1
    simp only [turn_top, turn_last]
  · unfold J2
    constructor
    · rintro ⟨n, q', e, h⟩
      cases q with
      | nil => cases e
      | cons x q =>
        cases x with
        | each k m => cases e
        | top m =>
          cases e
          refine ⟨n, q, rfl, ?_⟩
          cases s with
          | top l =>
            rcases h with ⟨m, e, h⟩ | ⟨k, m, e, _⟩
            · cases e; exact .inl ⟨_, rfl, h⟩
            · cases e
          | each k l =>
            rcases h with ⟨m, e, _⟩ | ⟨k, m, e, h⟩
            · cases e
            · cases e; exact .inr ⟨_, _, rfl, h⟩
    · rintro ⟨n, q', rfl, h⟩
      refine ⟨n, q'.map (Cap.turn f), rfl, ?_⟩
      rcases h with ⟨m, rfl, h⟩ | ⟨k, m, rfl, h⟩
      · exact .inl ⟨m, rfl, h⟩
      · exact .inr ⟨f k, m, rfl, h⟩
  · unfold J3
    exact turn_top
theorem R.turn {f : Int → Int} {w v : List Cap} (h : R w v) : R (w.map (Cap.turn f)) (v.map (Cap.turn f)) := by
  obtain ⟨p, s, q, rfl, rfl, hj⟩ := h
  exact ⟨p.map (Cap.turn f), s.turn f, q.map (Cap.turn f), by simp, by simp, turn_J.mpr hj⟩
theorem Rs.turn {f : Int → Int} {w v : List Cap} (h : Rs w v) : Rs (w.map (Cap.turn f)) (v.map (Cap.turn f)) := by
  induction h with
  | refl => exact .refl _
  | step h1 _ ih => exact .step h1.turn ih
theorem End.turn {f : Int → Int} {w : List Cap} (h : End w) : End (w.map (Cap.turn f)) := fun v hv => by
  obtain ⟨p, s, q, e, _, hj⟩ := hv
  obtain ⟨p', r, e1, e2, e3⟩ := List.map_eq_append_iff.mp e
  obtain ⟨s', q', e4, e5, e6⟩ := List.map_eq_cons_iff.mp e3
  subst e1 e2 e4 e5 e6
  exact h (p' ++ q') ⟨p', s', q', rfl, rfl, turn_J.mp hj⟩
end Cf

namespace Sh
open PySem PySem.Spec PyProof.Rows L2 Pt
theorem take_pos {g s n top : Int} (hg : 0 < g) (ht : 0 < top) (ht2 : top < 1073741824) : F__law_take [.own [.int g, .int s, .int n], .pure (.int top)] = some (.int (g % top), false, [.own [.int (g / top), .int s, .int n], .pure (.int top)]) := by
  simp [F__law_take, G__law_take, fDef, hg, gMod_i ht, gDiv_i ht ht2, ixN]
theorem take_neg {g s n top : Int} (hg : ¬ 0 < g) (ht : 0 < top) (hn : 0 ≤ n) (hn2 : n < 1000000000000) :
    ∃ r, F__law_take [.own [.int g, .int s, .int n], .pure (.int top)] = some (.int r, false, [.own [.int g, .int s, .int (n + 1)], .pure (.int top)]) ∧ 0 ≤ r ∧ r < top := by
  have m1 : gMul (.int 48271) (.int (n + 1)) = some (.int (48271 * (n + 1)), .st) := gMul_i (.inl (by omega))
  have m2 : gMul (.int (s + 48271 * (n + 1))) (.int (39373 + (n + 1))) = some (.int ((s + 48271 * (n + 1)) * (39373 + (n + 1))), .st) := gMul_i (.inr (by omega))
  have m3 : ∀ x y : Int, gMul (.int x) (.int (y % 40009 + 7)) = some (.int (x * (y % 40009 + 7)), .st) := fun x y => gMul_i (.inr (by omega))
  have m4 : ∀ x : Int, gMul (.int x) (.int 48271) = some (.int (x * 48271), .st) := fun x => gMul_i (.inr (by omega))
  refine ⟨?r, ?_, ?h1, ?h2⟩
  case r => exact ((((((s + 48271 * (n + 1)) * (39373 + (n + 1)) % 2147483647 + (n + 1) + s / 1000003) * ((s + 48271 * (n + 1)) * (39373 + (n + 1)) % 2147483647 % 40009 + 7)) % 2147483629 * 48271 + (s + 48271 * (n + 1)) * (39373 + (n + 1)) % 2147483647) % 2147483587 / 64) % top)
  · simp [F__law_take, G__law_take, fDef, hg, ixN, m1, m2, m3, m4, gMod_i ht, gMod_i, gDiv_i]
  case h1 => exact Int.emod_nonneg _ (by omega)
  case h2 => exact Int.emod_lt_of_pos _ ht
def TinP (n : Nat) (ds : List D) : Prop := ∃ g s m : Int, ds = [.int g, .int s, .int m] ∧ 0 ≤ m ∧ m ≤ n
theorem TinP.mono {n m : Nat} {ds : List D} (h : TinP n ds) (k : n ≤ m) : TinP m ds := by
  obtain ⟨g, s, c, e, h1, h2⟩ := h
  exact ⟨g, s, c, e, h1, by omega⟩
theorem take_ok {n : Nat} {ds : List D} {top : Int} (h : TinP n ds) (hn : n < 1000000000000) (ht : 0 < top) (ht2 : top < 1073741824) :
    ∃ r ds', F__law_take [.own ds, .pure (.int top)] = some (.int r, false, [.own ds', .pure (.int top)]) ∧ 0 ≤ r ∧ r < top ∧ TinP (n + 1) ds' := by
  obtain ⟨g, s, m, rfl, h1, h2⟩ := h
  by_cases hg : 0 < g
  · exact ⟨_, _, take_pos hg ht ht2, Int.emod_nonneg _ (by omega), Int.emod_lt_of_pos _ ht, _, _, _, rfl, h1, by omega⟩
  · obtain ⟨r, h3, h4, h5⟩ := take_neg (s := s) hg ht h1 (by omega)
    exact ⟨r, _, h3, h4, h5, _, _, _, rfl, by omega, by omega⟩
theorem take_call {n : Nat} {i : Nat} {ds : List D} {top : Int} {env : Ev} {Fa : FE} (h : TinP n ds) (hn : n < 1000000000000) (ht : 0 < top) (ht2 : top < 1073741824) (he : env[i]? = some (.own ds)) (hF : Fa env = some (.int top, .st, env)) :
    ∃ r ds', fCall F__law_take (frBox (fVar i) (frVal Fa frNil)) env = some (.int r, .st, env.set i (.own ds')) ∧ 0 ≤ r ∧ r < top ∧ TinP (n + 1) ds' := by
  obtain ⟨r, ds', h1, h2, h3, h4⟩ := take_ok h hn ht ht2
  exact ⟨r, ds', by simp [he, hF, h1], h2, h3, h4⟩
theorem of_ok {n : Nat} {ds xs : List D} (h : TinP n ds) (hn : n < 1000000000000) (hx : xs ≠ []) (hl : xs.length < 1073741824) :
    ∃ x ds', F__law_of [.own ds, .pure (.list xs)] = some (x, false, [.own ds', .pure (.list xs)]) ∧ x ∈ xs ∧ TinP (n + 1) ds' := by
  have hp : 0 < xs.length := List.length_pos_iff.mpr hx
  obtain ⟨r, ds', h1, h2, h3, h4⟩ := take_call (i := 0) (env := [.own ds, .pure (.list xs)]) (Fa := fOne gLen (fVar 1)) (top := xs.length) h hn (by omega) (by omega) rfl (by simp)
  obtain ⟨m, rfl⟩ := Int.eq_ofNat_of_zero_le h2
  have hm : m < xs.length := by omega
  have ix : gIx (.list xs) (.int (m : Int)) = some (xs[m], .st) := by
    simp only [gIx]
    rw [atI_nat hm, List.getElem?_eq_getElem hm]
  refine ⟨xs[m], ds', ?_, List.getElem_mem hm, h4⟩
  unfold F__law_of G__law_of fDef
  simp [-fCall_ap, -frBox_ap, -frVal_ap, h1, ix]
/-! ### words -/
inductive Stp where
  | floor (i : Int) | near (i : Int) | top (i : Int) | each (k i : Int)
  deriving DecidableEq
def enc : Stp → D
  | .floor i => .tuple [.str "floor", .int i]
  | .near i => .tuple [.str "near", .int i]
  | .top i => .tuple [.str "top", .int i]
  | .each k i => .tuple [.str "each", .int k, .int i]
theorem gEq_nil {xs : List D} (h : PyData.plainAll xs = true) : gEq (.list xs) (.list []) = some (.bool xs.isEmpty, .st) := by
  have e : PyData.eqvAll xs [] = xs.isEmpty := by cases xs <;> simp [PyData.eqvAll]
  simp [gEq, dOk, PyData.plain, PyData.plainAll, PyData.depth, PyData.depthAll, PyData.eqv, h, e]
theorem gNe_nil {xs : List D} (h : PyData.plainAll xs = true) : gNe (.list xs) (.list []) = some (.bool (!xs.isEmpty), .st) := by
  have e : PyData.eqvAll xs [] = xs.isEmpty := by cases xs <;> simp [PyData.eqvAll]
  simp [gNe, dOk, PyData.plain, PyData.plainAll, PyData.depth, PyData.depthAll, PyData.eqv, h, e]
/-- whole numbers -/
def IntL (xs : List D) : Prop := ∀ d ∈ xs, ∃ i : Int, d = .int i
theorem IntL.plain {xs : List D} : IntL xs → PyData.plainAll xs = true := by
  induction xs with
  | nil => intro _; rfl
  | cons d ds ih => intro h; obtain ⟨i, rfl⟩ := h d (by simp); simp [PyData.plainAll, PyData.plain, ih fun d hd => h d (by simp [hd])]
def NoOwn : Slot → Prop
  | .own _ => False
  | .dct _ => False
  | _ => True
theorem noOwn_pure (d : D) : NoOwn (.pure d) := trivial
/-! ### steps and words as data -/
def tg : Stp → Str
  | .floor _ => "floor"
  | .near _ => "near"
  | .top _ => "top"
  | .each _ _ => "each"
def num : Stp → Int
  | .floor i => i
  | .near i => i
  | .top i => i
  | .each k _ => k
def items : Stp → List D
  | .floor i => [.str "floor", .int i]
  | .near i => [.str "near", .int i]
  | .top i => [.str "top", .int i]
  | .each k i => [.str "each", .int k, .int i]
/-- as a list or as a tuple -/
def sq (b : Bool) (xs : List D) : D := if b then .list xs else .tuple xs
def encB (b : Bool) (s : Stp) : D := sq b (items s)
theorem enc_eq : enc = encB false := by funext s; cases s <;> rfl
@[simp] theorem ix0 {b : Bool} {s : Stp} : gIx (encB b s) (.int 0) = some (.str (tg s), .st) := by cases b <;> cases s <;> simp [encB, sq, items, tg]
@[simp] theorem ix1 {b : Bool} {s : Stp} : gIx (encB b s) (.int 1) = some (.int (num s), .st) := by cases b <;> cases s <;> simp [encB, sq, items, num]
theorem gIn_2 {x a c : Str} : gIn (.str x) (.tuple [.str a, .str c]) = some (.bool (a == x || c == x), .st) := by
  simp [gIn, iOk, PyData.plainAll, PyData.plain, PyData.depth, PyData.depthAll, PyData.eqv]
def isC (s : Stp) : Bool := (Str.ofString "top" == tg s || Str.ofString "each" == tg s)
theorem is_cap_ok {b : Bool} {s : Stp} : F_is_cap [.pure (encB b s)] = some (.bool (isC s), false, [.pure (encB b s)]) := by
  simp [F_is_cap, fDef_ap, G_is_cap, gIn_2, isC]
theorem own_word_ok {b c : Bool} {w : List Stp} (hw : w.length ≤ 1000000) : F_own_word [.pure (sq c (w.map (encB b)))] = some (.tuple (w.map (encB false)), false, [.pure (sq c (w.map (encB b)))]) := by
  have hc := compG (own := [1]) (b := bName 1) (T := fTYes) (E := fOne gTuple (fVar 1)) (I := fiSeq (fVar 0)) (env := [.pure (sq c (w.map (encB b))), .emp]) (e1 := [.pure (sq c (w.map (encB b))), .emp]) w (encB b) (fun _ => true) (encB false) (by cases c <;> simp [sq]) rfl rfl (by rw [sizeLine_eq]; omega)
    (fun s _ => ⟨_, rfl, rfl, rfl, fun _ => ⟨.st, trivial, by cases b <;> simp [encB, sq]⟩⟩)
  rw [List.filter_eq_self.mpr (fun _ _ => rfl)] at hc
  simp [F_own_word, fDef_ap, G_own_word, hc]
theorem caps_ok {b c : Bool} {w : List Stp} (hw : w.length ≤ 1000000) : F_caps [.pure (sq c (w.map (encB b)))] = some (.tuple ((w.filter isC).map (encB false)), false, [.pure (sq c (w.map (encB b)))]) := by
  have hc := compG (own := [1]) (b := bName 1) (T := fTst (fCall F_is_cap (frVal (fVar 1) frNil))) (E := fVar 1) (I := fiSeq (fVar 0)) (env := [.pure (sq c (w.map (encB b))), .emp]) (e1 := [.pure (sq c (w.map (encB b))), .emp]) w (encB b) isC (encB b) (by cases c <;> simp [sq]) rfl rfl (by rw [sizeLine_eq]; omega)
    (fun s _ => ⟨[.pure (sq c (w.map (encB b))), .pure (encB b s)], rfl, by simp [is_cap_ok], rfl, fun _ => ⟨.st, trivial, by simp⟩⟩)
  have ho := own_word_ok (b := b) (c := true) (w := w.filter isC) (Nat.le_trans (List.length_filter_le _ _) hw)
  have e : sq true ((w.filter isC).map (encB b)) = .list ((w.filter isC).map (encB b)) := rfl
  rw [e] at ho
  simp [F_caps, fDef_ap, G_caps, hc, ho]
/-! ### lists -/
theorem lists_int {m : Nat} {i : Int} : F__law_lists (m + 1) [.pure (.int i)] = some (.int i, false, [.pure (.int i)]) := by
  simp [F__law_lists, fDef_ap, G__law_lists, gIsa, isa]
theorem lists_str {m : Nat} {x : Str} : F__law_lists (m + 1) [.pure (.str x)] = some (.str x, false, [.pure (.str x)]) := by
  simp [F__law_lists, fDef_ap, G__law_lists, gIsa, isa]
theorem isa_sq {b : Bool} {xs : List D} : gIsa [.list, .tuple] (sq b xs) = some (.bool true, .st) := by
  cases b <;> simp [sq, gIsa, isa]
theorem seq_sq {b : Bool} {xs : List D} {env : Ev} {i : Nat} (h : env[i]? = some (.pure (sq b xs))) : fiSeq (fVar i) env = some (xs, env) := by
  cases b <;> simp [sq] at h <;> simp [h]
/-- a sequence of data whose own list form is known -/
theorem lists_sq {m : Nat} {α : Type} {b : Bool} (l : List α) (e : α → D) (f : α → D) (hl : l.length ≤ 1000000) (h : ∀ a ∈ l, ∃ fr, F__law_lists m [.pure (e a)] = some (f a, fr, [.pure (e a)])) :
    F__law_lists (m + 1) [.pure (sq b (l.map e))] = some (.list (l.map f), true, [.pure (sq b (l.map e))]) := by
  have hc := compG (own := [1]) (b := bName 1) (T := fTYes) (E := fCall (F__law_lists m) (frVal (fVar 1) frNil)) (I := fiSeq (fVar 0)) (env := [.pure (sq b (l.map e)), .emp]) (e1 := [.pure (sq b (l.map e)), .emp]) l e (fun _ => true) f (seq_sq rfl) rfl rfl (by rw [sizeLine_eq]; omega)
    (fun a ha => by
      obtain ⟨fr, h1⟩ := h a ha
      refine ⟨[.pure (sq b (l.map e)), .pure (e a)], rfl, rfl, rfl, fun _ => ⟨_, ?_, by simp [h1]; rfl⟩⟩
      cases fr <;> trivial)
  rw [List.filter_eq_self.mpr (fun _ _ => rfl)] at hc
  simp [F__law_lists, fDef_ap, G__law_lists, isa_sq, hc]
theorem lists_step {m : Nat} {b : Bool} {s : Stp} : F__law_lists (m + 2) [.pure (encB b s)] = some (encB true s, true, [.pure (encB b s)]) := by
  have h := lists_sq (m := m + 1) (b := b) (items s) id id (by cases s <;> simp [items]) (fun a ha => by
    cases s <;> simp [items] at ha <;> rcases ha with rfl | rfl | rfl <;> exact ⟨false, by first | exact lists_int | exact lists_str⟩)
  rw [List.map_id] at h
  exact h
theorem lists_word {m : Nat} {b c : Bool} {w : List Stp} (hw : w.length ≤ 1000000) : F__law_lists (m + 3) [.pure (sq c (w.map (encB b)))] = some (.list (w.map (encB true)), true, [.pure (sq c (w.map (encB b)))]) :=
  lists_sq w (encB b) (encB true) hw fun s _ => ⟨true, lists_step⟩

/-! ### the same -/
def AtD (d : D) : Prop := ((d = .none ∨ ∃ i : Int, d = .int i) ∨ ∃ x, d = .str x) ∨ ∃ t, d = .bool t
inductive Fine : Nat → D → Prop
  | at (m : Nat) {d : D} (h : AtD d) : Fine m d
  | sq (m : Nat) (b : Bool) (ds : List D) (hl : ds.length ≤ 1000000) (h : ∀ x ∈ ds, Fine m x) : Fine (m + 1) (sq b ds)
theorem same_atom {m : Nat} {d : D} (h : AtD d) : F__law_same (m + 1) [.pure d, .pure d] = some (.bool true, false, [.pure d, .pure d]) := by
  rcases h with ((rfl | ⟨i, rfl⟩) | ⟨x, rfl⟩) | ⟨t, rfl⟩
  · simp [F__law_same, fDef_ap, G__law_same, gIsa, isa, gIsN, gEq, dOk, PyData.plain, PyData.depth, PyData.eqv]
  · simp [F__law_same, fDef_ap, G__law_same, gIsa, isa, gIsN]
  · simp [F__law_same, fDef_ap, G__law_same, gIsa, isa, gIsN]
  · simp [F__law_same, fDef_ap, G__law_same, gIsa, isa, gIsN]
theorem pairs_self : ∀ ds : List D, pairs ds ds = ds.map fun x => PyData.tuple [x, x]
  | [] => rfl
  | d :: ds => by
    have := pairs_self ds
    unfold pairs at this ⊢
    rw [List.zipWith_cons_cons, this]; rfl
theorem boolsL_true : ∀ n : Nat, boolsL (List.replicate n (.bool true)) = some (List.replicate n true)
  | 0 => rfl
  | n + 1 => by rw [List.replicate_succ]; simp [boolsL, boolsL_true n, List.replicate_succ]
theorem gAll_true {α : Type} {l : List α} : gAll (.list (l.map fun _ => PyData.bool true)) = some (.bool true, .st) := by
  have e : (l.map fun _ => PyData.bool true) = List.replicate l.length (PyData.bool true) := by rw [List.map_const']
  rw [e]
  simp only [gAll, boolsL_true]
  simp
theorem gLen_sq {b : Bool} {ds : List D} : gLen (sq b ds) = some (.int ds.length, .st) := by cases b <;> rfl
theorem isa_l {b : Bool} {ds : List D} : gIsa [.list] (sq b ds) = some (.bool b, .st) := by cases b <;> simp [sq, gIsa, isa]
theorem isa_t {b : Bool} {ds : List D} : gIsa [.tuple] (sq b ds) = some (.bool (!b), .st) := by cases b <;> simp [sq, gIsa, isa]
theorem same_succ {m : Nat} : F__law_same (m + 1) = fDef 5 2 [] (G__law_same (F__law_same m)) := rfl
theorem same_fine : ∀ {m : Nat} {d : D}, Fine m d → F__law_same (m + 1) [.pure d, .pure d] = some (.bool true, false, [.pure d, .pure d]) := by
  intro m d h
  induction h with
  | «at» m h => exact same_atom h
  | sq m b ds hl h ih =>
    have hi : fiZip (faCons (fVar 0) (faCons (fVar 1) faNil)) [.pure (sq b ds), .pure (sq b ds), .emp, .emp, .emp] = some (ds.map fun x => PyData.tuple [x, x], [.pure (sq b ds), .pure (sq b ds), .emp, .emp, .emp]) := by
      rw [← pairs_self]
      cases b <;> simp [sq]
    have hc := compG (own := [2, 3]) (b := bTup [2, 3]) (T := fTYes) (E := fCall (F__law_same (m + 1)) (frVal (fVar 2) (frVal (fVar 3) frNil))) (I := fiZip (faCons (fVar 0) (faCons (fVar 1) faNil))) (env := [.pure (sq b ds), .pure (sq b ds), .emp, .emp, .emp]) (e1 := [.pure (sq b ds), .pure (sq b ds), .emp, .emp, .emp]) ds (fun x => PyData.tuple [x, x]) (fun _ => true) (fun _ => .bool true) hi rfl rfl (by rw [sizeLine_eq]; omega)
      (fun a ha => ⟨[.pure (sq b ds), .pure (sq b ds), .pure a, .pure a, .emp], rfl, rfl, rfl, fun _ => ⟨.st, trivial, by simp [ih a ha]⟩⟩)
    rw [List.filter_eq_self.mpr (fun _ _ => rfl)] at hc
    rw [same_succ, fDef_ap]
    simp [G__law_same, isa_sq, isa_l, isa_t, gLen_sq, hc, gAll_true]
theorem intL_ints (ns : List Int) : IntL (ns.map PyData.int) := fun d hd => by
  obtain ⟨i, _, e⟩ := List.mem_map.mp hd
  exact ⟨i, e.symm⟩
theorem gPow_18 : gPow (.int 10) (.int 18) = some (.int 1000000000000000000, .st) := rfl
theorem ix_int {cs : List Int} {k : Int} (h0 : 0 ≤ k) (h1 : k < cs.length) : ∃ c : Int, gIx (.list (cs.map PyData.int)) (.int k) = some (.int c, .st) := by
  obtain ⟨m, rfl⟩ := Int.eq_ofNat_of_zero_le h0
  have hk : m < cs.length := by omega
  refine ⟨cs[m], ?_⟩
  simp only [gIx]
  rw [atI_nat (by rw [List.length_map]; exact hk), List.getElem?_map]
  simp [hk]
theorem cut_lo {m : Nat} {xs : List D} : Pt.cutD xs none (some (m : Int)) = xs.take m := by
  unfold Pt.cutD
  rw [HT.sIx_none, HT.sIx_nat, List.drop_zero, Nat.sub_zero]
  rcases Nat.le_total m xs.length with h | h
  · rw [Nat.min_eq_left h]
  · rw [Nat.min_eq_right h, List.take_of_length_le (Nat.le_refl _), List.take_of_length_le h]
theorem cut_hi {m : Nat} {xs : List D} (h : xs.length ≤ 63) : Pt.cutD xs (some (m : Int)) (some 63) = xs.drop m := by
  unfold Pt.cutD
  rw [show (some (63 : Int)) = some ((63 : Nat) : Int) from rfl, HT.sIx_nat, HT.sIx_nat, Nat.min_eq_right h]
  rcases Nat.le_total m xs.length with h3 | h3
  · rw [Nat.min_eq_left h3, List.take_of_length_le (by rw [List.length_drop]; omega)]
  · rw [Nat.min_eq_right h3, Nat.sub_self, List.take_zero, List.drop_eq_nil_of_le h3]
theorem enum_mem : ∀ (n : Nat) (ds : List D) (d : D), d ∈ enumD n ds → ∃ (i : Nat) (x : D), d = .tuple [.int (i : Int), x] ∧ n ≤ i ∧ i < n + ds.length ∧ x ∈ ds
  | _, [], d, h => by simp [enumD] at h
  | n, y :: ds, d, h => by
    simp only [enumD, List.mem_cons] at h
    rcases h with rfl | h
    · exact ⟨n, y, rfl, Nat.le_refl _, by simp, by simp⟩
    · obtain ⟨i, x, e, h1, h2, h3⟩ := enum_mem (n + 1) ds d h
      exact ⟨i, x, e, by omega, by rw [List.length_cons]; omega, by simp [h3]⟩
structure CellP (m : Nat) (sc : D) (j : Nat) (e : Ev) : Prop where
  ex : ∃ (cs : List Int) (s3 s4 s5 : Slot), e = [.pure sc, .pure (.int (m : Int)), .own (cs.map PyData.int), s3, s4, s5] ∧ cs.length = m
theorem cell_step {M : Nat} {sc : D} {j : Nat} {e : Ev} {i x : Int} (hM : 0 < M) (h : CellP M sc j e) (h0 : 0 ≤ i) (h1 : i < 1000) : ∃ e2, B0__law_cells ((e.set 3 (.pure (.int i))).set 4 (.pure (.int x))) = some (.nx e2) ∧ CellP M sc (j + 1) e2 := by
  obtain ⟨cs, s3, s4, s5, rfl, hc⟩ := h.ex
  have hm0 : 0 ≤ i % (M : Int) := Int.emod_nonneg _ (by omega)
  have hm1 : i % (M : Int) < cs.length := by rw [hc]; exact Int.emod_lt_of_pos _ (by omega)
  obtain ⟨c, ix⟩ := ix_int hm0 hm1
  have m1 : gMod (.int i) (.int (M : Int)) = some (.int (i % (M : Int)), .st) := gMod_i (by omega)
  have m2 : gMul (.int x) (.int (i + 2)) = some (.int (x * (i + 2)), .st) := gMul_i (.inr (by omega))
  have hx : ∃ m, ixN cs.length (i % (M : Int)) = some m := by
    unfold ixN
    rw [if_pos hm0, if_pos hm1]
    exact ⟨_, rfl⟩
  obtain ⟨m, hx⟩ := hx
  refine ⟨[.pure sc, .pure (.int (M : Int)), .own ((cs.set m (c + x * (i + 2))).map PyData.int), .pure (.int i), .pure (.int x), .pure (.int (i % (M : Int)))], ?_, ⟨_, _, _, _, rfl, by rw [List.length_set]; exact hc⟩⟩
  rw [List.map_set]
  simp [B0__law_cells, m1, m2, ix, hx]
theorem cells_ok {M : Nat} {ns : List Int} (hM : 0 < M) (hM2 : M < 60) (hl : ns.length ≤ 63) : ∃ cs : List Int, F__law_cells [.pure (.list (ns.map PyData.int)), .pure (.int (M : Int))] = some (.list (cs.map PyData.int), true, [.pure (.list (ns.map PyData.int)), .pure (.int (M : Int))]) ∧ cs.length ≤ M := by
  have hh : Pt.cutD (ns.map PyData.int) (some (M : Int)) (some 63) = (ns.drop M).map PyData.int := by rw [cut_hi (by rw [List.length_map]; exact hl), List.map_drop]
  have h1 : Pt.cutD (ns.map PyData.int) none (some (M : Int)) = (ns.take M).map PyData.int := by rw [cut_lo, List.map_take]
  by_cases h3 : ns.length ≤ M
  · have hd : ns.drop M = [] := List.drop_eq_nil_of_le h3
    by_cases hn : ns = []
    · subst hn
      refine ⟨[0], ?_, by simp; omega⟩
      simp [F__law_cells, fDef_ap, G__law_cells, gSl, Pt.cutD, enumD, forL]
    · refine ⟨ns, ?_, h3⟩
      have ht : ns.take M = ns := List.take_of_length_le h3
      rw [hd] at hh
      rw [ht] at h1
      have hn' : ns.isEmpty = false := by simpa using hn
      simp [F__law_cells, fDef_ap, G__law_cells, gSl, hh, h1, enumD, forL, hn']
  · obtain ⟨e', hf, hp⟩ := forL_inv (b := bTup [3, 4]) (body := B0__law_cells) (P := CellP M (.list (ns.map PyData.int))) (J := 63) (enumD 0 ((ns.drop M).map PyData.int)) 0 [.pure (.list (ns.map PyData.int)), .pure (.int (M : Int)), .own ((ns.take M).map PyData.int), .emp, .emp, .emp] (fun d hd j e hj he => by
      obtain ⟨i, x, rfl, _, hi, hx⟩ := enum_mem _ _ _ hd
      obtain ⟨y, _, rfl⟩ := List.mem_map.mp hx
      rw [List.length_map, List.length_drop] at hi
      obtain ⟨e2, g1, g2⟩ := cell_step (M := M) hM (i := (i : Int)) (x := y) he (by omega) (by omega)
      exact ⟨_, e2, rfl, g1, g2⟩) (by rw [enumD_len, List.length_map, List.length_drop]; omega) ⟨_, _, _, _, rfl, by rw [List.length_take]; omega⟩
    obtain ⟨cs, s3, s4, s5, rfl, hc⟩ := hp.ex
    refine ⟨cs, ?_, by omega⟩
    have hne : ns.take M ≠ [] := fun z => by
      have := congrArg List.length z
      rw [List.length_take, List.length_nil] at this
      omega
    have hne' : (ns.take M).isEmpty = false := by simpa using hne
    simp [-List.map_drop, -List.map_take, F__law_cells, fDef_ap, G__law_cells, gSl, hh, h1, hne', hf]
def lastN : Stp → Int
  | .floor i => i
  | .near i => i
  | .top i => i
  | .each _ i => i
@[simp] theorem ixm1 {b : Bool} {s : Stp} : gIx (encB b s) (.int (-1)) = some (.int (lastN s), .st) := by cases b <;> cases s <;> rfl
def isTp (s : Stp) : Bool := tg s == Str.ofString "top"
def pA (m : Int) (t : Stp) : Bool := isTp t && decide (num t ≤ m)
def one1 : D := .tuple [.str "top", .int 1]
def has1 (l : List Stp) : Bool := (l.map (encB false)).any fun y => PyData.eqv y one1
def r34 (s : Stp) : List Stp → List Int
  | [] => []
  | b :: _ => if isTp b then ((if isTp s && decide (num b < lastN s) then [3] else []) ++ (if !isTp s && decide (num b ≤ lastN s) then [4] else [])) else []
def rules (ah : List Stp) (s : Stp) (bh : List Stp) : List Int :=
  (if (ah.filter (pA (lastN s))).isEmpty then [] else [if isTp s then 1 else 2]) ++ (r34 s bh ++ (if has1 bh then [5] else []))
theorem plain_encB {b : Bool} {s : Stp} : PyData.plain (encB b s) = true := by cases b <;> cases s <;> rfl
theorem plain_encs {b : Bool} : ∀ w : List Stp, PyData.plainAll (w.map (encB b)) = true
  | [] => rfl
  | s :: w => by simp [PyData.plainAll, plain_encB, plain_encs w]
theorem in1_ok {bh : List Stp} : gIn (.tuple [.str "top", .int 1]) (.tuple (bh.map (encB false))) = some (.bool (has1 bh), .st) := by
  simp only [gIn]
  rw [if_pos]
  · rfl
  · simp [iOk, plain_encs, PyData.plain, PyData.plainAll, PyData.depth, PyData.depthAll]
    omega
theorem test_any {ah bh : List Stp} {b : Bool} {s : Stp} {rs : List D} (hl : ah.length ≤ 1000000) :
    fComp [6] (fiSeq (fVar 0)) (bName 6) (fTAnd (fTst (fTwo gEq (fTwo gIx (fVar 6) (fCst (.int 0))) (fCst (.str "top")))) (fTst (fTwo gLe (fTwo gIx (fVar 6) (fCst (.int 1))) (fVar 4)))) (fVar 6)
      [.pure (.tuple (ah.map (encB false))), .pure (encB b s), .pure (.tuple (bh.map (encB false))), .pure (.bool (isTp s)), .pure (.int (lastN s)), .own rs, .emp]
    = some (.list ((ah.filter (pA (lastN s))).map (encB false)), .fr, [.pure (.tuple (ah.map (encB false))), .pure (encB b s), .pure (.tuple (bh.map (encB false))), .pure (.bool (isTp s)), .pure (.int (lastN s)), .own rs, .emp]) :=
  compG (own := [6]) (b := bName 6) (I := fiSeq (fVar 0)) (e1 := [.pure (.tuple (ah.map (encB false))), .pure (encB b s), .pure (.tuple (bh.map (encB false))), .pure (.bool (isTp s)), .pure (.int (lastN s)), .own rs, .emp]) ah (encB false) (pA (lastN s)) (encB false) (by simp) rfl rfl (by rw [sizeLine_eq]; omega)
    (fun t _ => ⟨[.pure (.tuple (ah.map (encB false))), .pure (encB b s), .pure (.tuple (bh.map (encB false))), .pure (.bool (isTp s)), .pure (.int (lastN s)), .own rs, .pure (encB false t)], rfl, by
      cases ht : (tg t == Str.ofString "top") <;> simp [pA, isTp, ht], rfl, fun _ => ⟨.st, trivial, by simp⟩⟩)
theorem rules_ok {ah bh : List Stp} {b : Bool} {s : Stp} (hl : ah.length ≤ 1000000) :
    F_rules_for [.pure (.tuple (ah.map (encB false))), .pure (encB b s), .pure (.tuple (bh.map (encB false)))] = some (.list ((rules ah s bh).map PyData.int), true, [.pure (.tuple (ah.map (encB false))), .pure (encB b s), .pure (.tuple (bh.map (encB false)))]) := by
  have hc := test_any (ah := ah) (bh := bh) (b := b) (s := s) (rs := []) hl
  have h5 := in1_ok (bh := bh)
  have hem : ((ah.filter (pA (lastN s))).map (encB false)).isEmpty = (ah.filter (pA (lastN s))).isEmpty := by cases (ah.filter (pA (lastN s))) <;> rfl
  have ht0 : (tg s == Str.ofString "top") = isTp s := rfl
  simp only [F_rules_for, fDef_ap, G_rules_for]
  cases hA : (ah.filter (pA (lastN s))).isEmpty <;> cases ht : isTp s <;> cases h1 : has1 bh <;> rw [ht] at hc <;> rw [hA] at hem <;> rw [h1] at h5
  all_goals
    cases bh with
    | nil =>
      simp only [List.map_nil] at hc h5
      simp [hc, hA, ht0, ht, h5, rules, r34, h1]
    | cons d bs =>
      simp only [List.map_cons] at hc h5
      have hd0 : (tg d == Str.ofString "top") = isTp d := rfl
      by_cases hlt : num d < lastN s
      · have hle : num d ≤ lastN s := by omega
        cases hd : isTp d <;> simp [hc, hA, ht0, ht, h5, rules, r34, h1, hd0, hd, hlt, hle]
      · by_cases hle : num d ≤ lastN s
        · cases hd : isTp d <;> simp [hc, hA, ht0, ht, h5, rules, r34, h1, hd0, hd, hlt, hle]
        · cases hd : isTp d <;> simp [hc, hA, ht0, ht, h5, rules, r34, h1, hd0, hd, hlt, hle]
theorem fExt_ap {i : Nat} {F : FE} {env : Ev} : fExt i F env = (match env[i]? with
  | some (.own _) => match F env with
    | some (.list es, .fr, e1) => match e1[i]? with
      | some (.own ds) => if ds.length + es.length ≤ sizeLine then some (.none, .st, e1.set i (.own (ds ++ es))) else none
      | _ => none
    | _ => none
  | _ => none) := rfl
theorem cut_take {xs : List D} {p : Nat} (h : p ≤ xs.length) : Pt.cutD xs none (some (p : Int)) = xs.take p := by
  unfold Pt.cutD
  rw [HT.sIx_none, HT.sIx_nat, List.drop_zero, Nat.sub_zero, Nat.min_eq_left h]
theorem cut_drop {xs : List D} {p : Nat} : Pt.cutD xs (some (p : Int)) none = xs.drop p := by
  unfold Pt.cutD
  rw [HT.sIx_none, HT.sIx_nat]
  rcases Nat.le_total p xs.length with h | h
  · rw [Nat.min_eq_left h, List.take_of_length_le (by rw [List.length_drop]; omega)]
  · rw [Nat.min_eq_right h, Nat.sub_self, List.take_zero, List.drop_eq_nil_of_le h]
def mk (p : Int) (r : Int) : D := .tuple [.int r, .int p]
theorem gSl_sq {c : Bool} {xs : List D} {lo hi : Option Int} : gSl (sq c xs) lo hi = some (sq c (Pt.cutD xs lo hi), if c then .fr else .st) := by cases c <;> rfl
theorem comp_mk {word : D} {acc : List D} {p : Int} {d : D} {rs : List Int} (h : rs.length ≤ 1000) :
    fComp [5] (fiSeq (fVar 4)) (bName 5) fTYes (fTup (faCons (fVar 5) (faCons (fVar 2) faNil))) [.pure word, .own acc, .pure (.int p), .pure d, .own (rs.map PyData.int), .emp]
    = some (.list (rs.map (mk p)), .fr, [.pure word, .own acc, .pure (.int p), .pure d, .pure (.list (rs.map PyData.int)), .emp]) := by
  have hc := compG (own := [5]) (b := bName 5) (T := fTYes) (E := fTup (faCons (fVar 5) (faCons (fVar 2) faNil))) (I := fiSeq (fVar 4)) (env := [.pure word, .own acc, .pure (.int p), .pure d, .own (rs.map PyData.int), .emp]) (e1 := [.pure word, .own acc, .pure (.int p), .pure d, .pure (.list (rs.map PyData.int)), .emp]) rs PyData.int (fun _ => true) (mk p) (by simp) rfl rfl (by rw [sizeLine_eq]; omega)
    (fun r _ => ⟨[.pure word, .own acc, .pure (.int p), .pure d, .pure (.list (rs.map PyData.int)), .pure (.int r)], rfl, rfl, rfl, fun _ => ⟨.st, trivial, by simp [mk]⟩⟩)
  rw [List.filter_eq_self.mpr (fun _ _ => rfl)] at hc
  exact hc
theorem ite_l {q : Prop} [Decidable q] {x : Int} : (if q then [x] else []).length ≤ 1 := by split <;> simp
theorem ite_r {q : Prop} [Decidable q] {x : Int} : (if q then [] else [x]).length ≤ 1 := by split <;> simp
theorem r34_len {s : Stp} : ∀ l, (r34 s l).length ≤ 2
  | [] => by simp [r34]
  | b :: bs => by
    rw [show r34 s (b :: bs) = (if isTp b then ((if isTp s && decide (num b < lastN s) then [3] else []) ++ (if !isTp s && decide (num b ≤ lastN s) then [4] else [])) else []) from rfl]
    split
    · rw [List.length_append]
      have h1 := ite_l (q := (isTp s && decide (num b < lastN s)) = true) (x := 3)
      have h2 := ite_l (q := ((!isTp s) && decide (num b ≤ lastN s)) = true) (x := 4)
      omega
    · simp
theorem rules_len {ah bh : List Stp} {s : Stp} : (rules ah s bh).length ≤ 4 := by
  unfold rules
  rw [List.length_append, List.length_append]
  have h1 := r34_len (s := s) bh
  have h2 := ite_r (q := (ah.filter (pA (lastN s))).isEmpty = true) (x := if isTp s = true then 1 else 2)
  have h3 := ite_l (q := has1 bh = true) (x := 5)
  omega
/-- what the program finds at a place -/
def at_ (pre : List Stp) (s : Stp) (suf : List Stp) (p : Int) : List D := if isC s then (rules (pre.filter isC) s (suf.filter isC)).map (mk p) else []
theorem tk_step {c b : Bool} {pre suf : List Stp} {s : Stp} {acc : List D} {s4 : Slot} (hl : (pre ++ s :: suf).length ≤ 1000) (ha : acc.length ≤ 100000) :
    ∃ s4', B0_takes_out [.pure (sq c ((pre ++ s :: suf).map (encB b))), .own acc, .pure (.int (pre.length : Int)), .pure (encB b s), s4, .emp]
      = some (.nx [.pure (sq c ((pre ++ s :: suf).map (encB b))), .own (acc ++ at_ pre s suf pre.length), .pure (.int (pre.length : Int)), .pure (encB b s), s4', .emp]) := by
  have hlen : (pre ++ s :: suf).length = pre.length + (suf.length + 1) := by simp
  have h1 : Pt.cutD ((pre ++ s :: suf).map (encB b)) none (some ((pre.length : Nat) : Int)) = pre.map (encB b) := by
    rw [cut_take (by simp)]
    simp
  have h2 : Pt.cutD ((pre ++ s :: suf).map (encB b)) (some ((pre.length : Int) + 1)) none = suf.map (encB b) := by
    have e : ((pre.length : Int) + 1) = ((pre.length + 1 : Nat) : Int) := by omega
    have e2 : pre ++ s :: suf = (pre ++ [s]) ++ suf := by simp
    have e3 : pre.length + 1 = ((pre ++ [s]).map (encB b)).length := by simp
    rw [e, cut_drop, e2, List.map_append, e3, List.drop_left]
  have hpl : (pre.filter isC).length ≤ 1000000 := Nat.le_trans (List.length_filter_le _ _) (by omega)
  have c1 := caps_ok (b := b) (c := c) (w := pre) (by omega)
  have c2 := caps_ok (b := b) (c := c) (w := suf) (by omega)
  have hr := rules_ok (ah := pre.filter isC) (bh := suf.filter isC) (b := b) (s := s) hpl
  have hrl := rules_len (ah := pre.filter isC) (bh := suf.filter isC) (s := s)
  have hz : acc.length + (rules (pre.filter isC) s (suf.filter isC)).length ≤ sizeLine := by rw [sizeLine_eq]; omega
  generalize (pre.length : Int) = p at h1 h2 ⊢
  have hm := comp_mk (word := sq c ((pre ++ s :: suf).map (encB b))) (acc := acc) (p := p) (d := encB b s) (rs := rules (pre.filter isC) s (suf.filter isC)) (by omega)
  generalize (pre ++ s :: suf).map (encB b) = W at h1 h2 hm ⊢
  cases hC : isC s with
  | false => exact ⟨s4, by simp [B0_takes_out, is_cap_ok, hC, at_]⟩
  | true =>
    refine ⟨.pure (.list ((rules (pre.filter isC) s (suf.filter isC)).map PyData.int)), ?_⟩
    cases c <;> simp [B0_takes_out, is_cap_ok, hC, at_, gSl_sq, h1, h2, c1, c2, hr, fExt_ap, hm, hz]
def PR (pre : List Stp) : List Stp → List D
  | [] => []
  | s :: suf => at_ pre s suf pre.length ++ PR (pre ++ [s]) suf
theorem at_len {pre suf : List Stp} {s : Stp} {p : Int} : (at_ pre s suf p).length ≤ 4 := by
  unfold at_
  split
  · rw [List.length_map]; exact rules_len
  · simp
theorem tk_loop {c b : Bool} : ∀ (suf pre : List Stp) (acc : List D) (s2 s3 s4 : Slot), (pre ++ suf).length ≤ 1000 → acc.length ≤ 4 * pre.length →
    ∃ s2' s3' s4', forL (bTup [2, 3]) B0_takes_out (enumD pre.length (suf.map (encB b))) [.pure (sq c ((pre ++ suf).map (encB b))), .own acc, s2, s3, s4, .emp]
      = some (.nx [.pure (sq c ((pre ++ suf).map (encB b))), .own (acc ++ PR pre suf), s2', s3', s4', .emp])
  | [], pre, acc, s2, s3, s4, _, _ => ⟨s2, s3, s4, by rw [PR, List.append_nil, List.append_nil]; rfl⟩
  | s :: suf, pre, acc, s2, s3, s4, hl, ha => by
    have hlen : (pre ++ s :: suf).length = pre.length + (suf.length + 1) := by simp
    obtain ⟨t4, h1⟩ := tk_step (c := c) (b := b) (pre := pre) (suf := suf) (s := s) (acc := acc) (s4 := s4) hl (by omega)
    have hat := at_len (pre := pre) (suf := suf) (s := s) (p := pre.length)
    have e2 : pre ++ s :: suf = (pre ++ [s]) ++ suf := by simp
    obtain ⟨t2, t3, u4, h2⟩ := tk_loop (c := c) (b := b) suf (pre ++ [s]) (acc ++ at_ pre s suf pre.length) (.pure (.int (pre.length : Int))) (.pure (encB b s)) t4 (by rw [← e2]; exact hl) (by
      rw [List.length_append, List.length_append]
      simp
      omega)
    refine ⟨t2, t3, u4, ?_⟩
    rw [List.map_cons, enumD]
    unfold forL
    have hb : bTup [2, 3] (.tuple [.int ((pre.length : Nat) : Int), encB b s]) [.pure (sq c ((pre ++ s :: suf).map (encB b))), .own acc, s2, s3, s4, .emp] = some [.pure (sq c ((pre ++ s :: suf).map (encB b))), .own acc, .pure (.int (pre.length : Int)), .pure (encB b s), s4, .emp] := rfl
    rw [hb]
    dsimp only
    rw [h1]
    dsimp only
    rw [show (pre ++ [s]).length = pre.length + 1 from by simp, ← e2] at h2
    rw [h2, PR, List.append_assoc]
theorem gSorted_mk {l : List D} (h : ∀ d ∈ l, ∃ p r, d = mk p r) : gSorted (.list l) = some (.list (isort l), .fr) := by
  simp only [gSorted]
  rw [if_pos]
  simp only [Bool.and_eq_true]
  refine ⟨⟨?_, ?_⟩, ?_⟩
  · unfold alikes
    rw [List.all_eq_true]
    intro d hd
    rw [List.all_eq_true]
    intro e he
    obtain ⟨p, r, rfl⟩ := h d hd
    obtain ⟨p', r', rfl⟩ := h e he
    rfl
  · unfold sortables
    rw [Bool.or_eq_true]
    left
    rw [List.all_eq_true]
    intro d hd
    obtain ⟨p, r, rfl⟩ := h d hd
    rfl
  · rw [List.all_eq_true]
    intro d hd
    obtain ⟨p, r, rfl⟩ := h d hd
    simp [mk, PyData.depth, PyData.depthAll]
theorem PR_mk : ∀ (suf pre : List Stp) (d : D), d ∈ PR pre suf → ∃ p r, d = mk p r
  | [], pre, d, h => by cases h
  | s :: suf, pre, d, h => by
    rw [PR] at h
    rcases List.mem_append.mp h with h | h
    · unfold at_ at h
      split at h
      · obtain ⟨r, _, rfl⟩ := List.mem_map.mp h
        exact ⟨_, r, rfl⟩
      · cases h
    · exact PR_mk suf _ d h
theorem takes_ok {c b : Bool} {w : List Stp} (hw : w.length ≤ 1000) : F_takes_out [.pure (sq c (w.map (encB b)))] = some (.list (isort (PR [] w)), true, [.pure (sq c (w.map (encB b)))]) := by
  obtain ⟨s2, s3, s4, h⟩ := tk_loop (c := c) (b := b) w [] [] .emp .emp .emp hw (by simp)
  rw [List.nil_append, List.nil_append] at h
  have hs := gSorted_mk (l := PR [] w) fun d hd => PR_mk w [] d hd
  have he : fiEnumB (faCons (fVar 0) faNil) [.pure (sq c (w.map (encB b))), .own [], .emp, .emp, .emp, .emp] = some (enumD 0 (w.map (encB b)), [.pure (sq c (w.map (encB b))), .own [], .emp, .emp, .emp, .emp]) := by cases c <;> simp [sq]
  rw [List.length_nil] at h
  simp [F_takes_out, fDef_ap, G_takes_out, -fiEnumB_ap, he, h, hs]
theorem mulL_1 {d : D} : gMulL (.list [d]) (.int 1) = some (.list [d], .fr) := rfl
theorem mulL_0 {d : D} : gMulL (.list [d]) (.int 0) = some (.list [], .fr) := rfl
theorem gNe_nilT {xs : List D} (h : PyData.plainAll xs = true) : gNe (.tuple xs) (.tuple []) = some (.bool (!xs.isEmpty), .st) := by
  have e : PyData.eqvAll xs [] = xs.isEmpty := by cases xs <;> simp [PyData.eqvAll]
  simp [gNe, dOk, PyData.plain, PyData.plainAll, PyData.depth, PyData.depthAll, PyData.eqv, h, e]
theorem cut_mid {xs : List D} {p q : Nat} (h : p ≤ q) : Pt.cutD xs (some (p : Int)) (some (q : Int)) = (xs.drop p).take (q - p) := by
  unfold Pt.cutD
  rw [HT.sIx_nat, HT.sIx_nat]
  rcases Nat.le_total q xs.length with h1 | h1
  · rw [Nat.min_eq_left h1, Nat.min_eq_left (Nat.le_trans h h1)]
  · rw [Nat.min_eq_right h1]
    rcases Nat.le_total p xs.length with h2 | h2
    · rw [Nat.min_eq_left h2, List.take_of_length_le (by rw [List.length_drop]; omega), List.take_of_length_le (by rw [List.length_drop]; omega)]
    · rw [Nat.min_eq_right h2, Nat.sub_self, List.take_zero, List.drop_eq_nil_of_le h2, List.take_nil]
theorem each_of {s : Stp} (h : isC s = true) : (tg s == Str.ofString "each") = !isTp s := by
  cases s with
  | floor i =>
    have h' : (Str.ofString "top" == Str.ofString "floor" || Str.ofString "each" == Str.ofString "floor") = true := h
    exact absurd h' (by decide +kernel)
  | near i =>
    have h' : (Str.ofString "top" == Str.ofString "near" || Str.ofString "each" == Str.ofString "near") = true := h
    exact absurd h' (by decide +kernel)
  | top i =>
    show (Str.ofString "top" == Str.ofString "each") = !(Str.ofString "top" == Str.ofString "top")
    decide +kernel
  | each k i =>
    show (Str.ofString "each" == Str.ofString "each") = !(Str.ofString "each" == Str.ofString "top")
    decide +kernel
theorem comp_ahead {C pre : List Stp} {acc : List D} {k : Int} {s : Stp} {s5 s6 : Slot} (hl : pre.length ≤ 1000000) (h1 : Pt.cutD (C.map (encB false)) none (some k) = pre.map (encB false)) :
    fComp [4] (fiSeq (fSl (fVar 0) foNone (foSome (fVar 2)))) (bName 4) (fTAnd (fTst (fTwo gEq (fTwo gIx (fVar 4) (fCst (.int 0))) (fCst (.str "top")))) (fTst (fTwo gLe (fTwo gIx (fVar 4) (fCst (.int 1))) (fTwo gIx (fVar 3) (fOne gNeg (fCst (.int 1))))))) (fVar 4)
      [.pure (.tuple (C.map (encB false))), .own acc, .pure (.int k), .pure (encB false s), .emp, s5, s6]
    = some (.list ((pre.filter (pA (lastN s))).map (encB false)), .fr, [.pure (.tuple (C.map (encB false))), .own acc, .pure (.int k), .pure (encB false s), .emp, s5, s6]) :=
  compG (own := [4]) (b := bName 4) (I := fiSeq (fSl (fVar 0) foNone (foSome (fVar 2)))) (e1 := [.pure (.tuple (C.map (encB false))), .own acc, .pure (.int k), .pure (encB false s), .emp, s5, s6]) pre (encB false) (pA (lastN s)) (encB false) (by simp [gSl, h1]) rfl rfl (by rw [sizeLine_eq]; omega)
    (fun t _ => ⟨[.pure (.tuple (C.map (encB false))), .own acc, .pure (.int k), .pure (encB false s), .pure (encB false t), s5, s6], rfl, by
      cases ht : (tg t == Str.ofString "top") <;> simp [pA, isTp, ht], rfl, fun _ => ⟨.st, trivial, by simp⟩⟩)
def LR (pre : List Stp) : List Stp → List D
  | [] => []
  | s :: suf => (rules pre s suf).map (mk pre.length) ++ LR (pre ++ [s]) suf
theorem lr_step {pre suf : List Stp} {s : Stp} {acc : List D} {s5 s6 : Slot} (hl : (pre ++ s :: suf).length ≤ 1000) (ha : acc.length ≤ 100000) (hC : isC s = true) :
    ∃ t5 t6, B0__law_rules [.pure (.tuple ((pre ++ s :: suf).map (encB false))), .own acc, .pure (.int (pre.length : Int)), .pure (encB false s), .emp, s5, s6]
      = some (.nx [.pure (.tuple ((pre ++ s :: suf).map (encB false))), .own (acc ++ (rules pre s suf).map (mk pre.length)), .pure (.int (pre.length : Int)), .pure (encB false s), .emp, t5, t6]) := by
  have hlen : (pre ++ s :: suf).length = pre.length + (suf.length + 1) := by simp
  have h1 : Pt.cutD ((pre ++ s :: suf).map (encB false)) none (some ((pre.length : Nat) : Int)) = pre.map (encB false) := by
    rw [cut_take (by simp)]
    simp
  have e2 : pre ++ s :: suf = (pre ++ [s]) ++ suf := by simp
  have e3 : pre.length + 1 = ((pre ++ [s]).map (encB false)).length := by simp
  have h2 : Pt.cutD ((pre ++ s :: suf).map (encB false)) (some ((pre.length : Int) + 1)) none = suf.map (encB false) := by
    have e : ((pre.length : Int) + 1) = ((pre.length + 1 : Nat) : Int) := by omega
    rw [e, cut_drop, e2, List.map_append, e3, List.drop_left]
  have h3 : Pt.cutD ((pre ++ s :: suf).map (encB false)) (some ((pre.length : Int) + 1)) (some ((pre.length : Int) + 2)) = (suf.map (encB false)).take 1 := by
    have e : ((pre.length : Int) + 1) = ((pre.length + 1 : Nat) : Int) := by omega
    have e' : ((pre.length : Int) + 2) = ((pre.length + 2 : Nat) : Int) := by omega
    rw [e, e', cut_mid (by omega), show pre.length + 2 - (pre.length + 1) = 1 from by omega, e2, List.map_append, e3, List.drop_left]
  have hc := comp_ahead (C := pre ++ s :: suf) (acc := acc) (s := s) (s5 := s5) (s6 := s6) (by omega) h1
  have h5 := in1_ok (bh := suf)
  have hne : gNe (.list ((pre.filter (pA (lastN s))).map (encB false))) (.list []) = some (.bool (!(pre.filter (pA (lastN s))).isEmpty), .st) := by
    rw [gNe_nil (plain_encs _)]
    cases (pre.filter (pA (lastN s))) <;> rfl
  have ht0 : (tg s == Str.ofString "top") = isTp s := rfl
  have he0 := each_of hC
  have hz : ∀ l : List D, l.length ≤ 10 → gAdd (.list acc) (.list l) = some (.list (acc ++ l), .fr) := fun l h => gAdd_l (by rw [sizeLine_eq]; omega)
  have hz2 : ∀ (x : D) (l : List D), l.length ≤ 10 → gAdd (.list (acc ++ [x])) (.list l) = some (.list (acc ++ [x] ++ l), .fr) := fun x l h => gAdd_l (by rw [sizeLine_eq]; simp; omega)
  have hz3 : ∀ (x y : D) (l : List D), l.length ≤ 10 → gAdd (.list (acc ++ [x, y])) (.list l) = some (.list (acc ++ [x, y] ++ l), .fr) := fun x y l h => gAdd_l (by rw [sizeLine_eq]; simp; omega)
  have hz4 : ∀ (x y z : D) (l : List D), l.length ≤ 10 → gAdd (.list (acc ++ [x, y, z])) (.list l) = some (.list (acc ++ [x, y, z] ++ l), .fr) := fun x y z l h => gAdd_l (by rw [sizeLine_eq]; simp; omega)
  have ha2 : acc.length < sizeLine := by rw [sizeLine_eq]; omega
  generalize (pre.length : Int) = p at h1 h2 h3 hc ⊢
  generalize (pre ++ s :: suf).map (encB false) = W at h1 h2 h3 hc ⊢
  cases hA : (pre.filter (pA (lastN s))).isEmpty <;> cases ht : isTp s <;> cases h9 : has1 suf <;> rw [hA] at hne <;> rw [ht] at he0 ht0 <;> rw [h9] at h5
  all_goals
    cases suf with
    | nil =>
      simp only [List.map_nil, List.take_nil] at h2 h3 h5
      exact ⟨_, _, by simp [B0__law_rules, hc, hne, ht0, he0, gSl, h2, h3, h5, gNe_nilT (xs := []) rfl, mulL_1, mulL_0, hz, hz2, ha2, rules, r34, hA, ht, h9, mk]; exact ⟨rfl, rfl⟩⟩
    | cons d ds =>
      simp only [List.map_cons, List.take_succ_cons, List.take_zero] at h2 h3 h5
      have hd0 : (tg d == Str.ofString "top") = isTp d := rfl
      have hn1 : gNe (.tuple [encB false d]) (.tuple []) = some (.bool true, .st) := gNe_nilT (xs := [encB false d]) (by simp [PyData.plainAll, plain_encB])
      cases hd : isTp d with
      | false => exact ⟨_, _, by simp [B0__law_rules, hc, hne, ht0, he0, gSl, h2, h3, h5, hn1, hd0, hd, mulL_1, mulL_0, hz, hz2, ha2, rules, r34, hA, ht, h9, mk]; exact ⟨rfl, rfl⟩⟩
      | true =>
        by_cases hlt : num d < lastN s
        · have hle : num d ≤ lastN s := by omega
          exact ⟨_, _, by simp [B0__law_rules, hc, hne, ht0, he0, gSl, h2, h3, h5, hn1, hd0, hd, hlt, hle, mulL_1, mulL_0, hz, hz2, hz3, hz4, ha2, rules, r34, hA, ht, h9, mk]; exact ⟨rfl, rfl⟩⟩
        · by_cases hle : num d ≤ lastN s
          · exact ⟨_, _, by simp [B0__law_rules, hc, hne, ht0, he0, gSl, h2, h3, h5, hn1, hd0, hd, hlt, hle, mulL_1, mulL_0, hz, hz2, hz3, hz4, ha2, rules, r34, hA, ht, h9, mk]; exact ⟨rfl, rfl⟩⟩
          · exact ⟨_, _, by simp [B0__law_rules, hc, hne, ht0, he0, gSl, h2, h3, h5, hn1, hd0, hd, hlt, hle, mulL_1, mulL_0, hz, hz2, hz3, hz4, ha2, rules, r34, hA, ht, h9, mk]; exact ⟨rfl, rfl⟩⟩
theorem lr_loop : ∀ (suf pre : List Stp) (acc : List D) (s2 s3 s5 s6 : Slot), (pre ++ suf).length ≤ 1000 → acc.length ≤ 4 * pre.length → (∀ s ∈ suf, isC s = true) →
    ∃ s2' s3' s5' s6', forL (bTup [2, 3]) B0__law_rules (enumD pre.length (suf.map (encB false))) [.pure (.tuple ((pre ++ suf).map (encB false))), .own acc, s2, s3, .emp, s5, s6]
      = some (.nx [.pure (.tuple ((pre ++ suf).map (encB false))), .own (acc ++ LR pre suf), s2', s3', .emp, s5', s6'])
  | [], pre, acc, s2, s3, s5, s6, _, _, _ => ⟨s2, s3, s5, s6, by rw [LR, List.append_nil, List.append_nil]; rfl⟩
  | s :: suf, pre, acc, s2, s3, s5, s6, hl, ha, hC => by
    have hlen : (pre ++ s :: suf).length = pre.length + (suf.length + 1) := by simp
    obtain ⟨t5, t6, h1⟩ := lr_step (pre := pre) (suf := suf) (s := s) (acc := acc) (s5 := s5) (s6 := s6) hl (by omega) (hC s (by simp))
    have hat := rules_len (ah := pre) (bh := suf) (s := s)
    have e2 : pre ++ s :: suf = (pre ++ [s]) ++ suf := by simp
    obtain ⟨u2, u3, u5, u6, h2⟩ := lr_loop suf (pre ++ [s]) (acc ++ (rules pre s suf).map (mk pre.length)) (.pure (.int (pre.length : Int))) (.pure (encB false s)) t5 t6 (by rw [← e2]; exact hl) (by
      rw [List.length_append, List.length_append, List.length_map]
      simp
      omega) (fun x hx => hC x (by simp [hx]))
    refine ⟨u2, u3, u5, u6, ?_⟩
    rw [List.map_cons, enumD]
    unfold forL
    have hb : bTup [2, 3] (.tuple [.int ((pre.length : Nat) : Int), encB false s]) [.pure (.tuple ((pre ++ s :: suf).map (encB false))), .own acc, s2, s3, .emp, s5, s6] = some [.pure (.tuple ((pre ++ s :: suf).map (encB false))), .own acc, .pure (.int (pre.length : Int)), .pure (encB false s), .emp, s5, s6] := rfl
    rw [hb]
    dsimp only
    rw [h1]
    dsimp only
    rw [show (pre ++ [s]).length = pre.length + 1 from by simp, ← e2] at h2
    rw [h2, LR, List.append_assoc]
theorem rules_law_ok {C : List Stp} (hw : C.length ≤ 1000) (hC : ∀ s ∈ C, isC s = true) : F__law_rules [.pure (.tuple (C.map (encB false)))] = some (.list (LR [] C), true, [.pure (.tuple (C.map (encB false)))]) := by
  obtain ⟨s2, s3, s5, s6, h⟩ := lr_loop C [] [] .emp .emp .emp .emp hw (by simp) hC
  rw [List.nil_append, List.nil_append, List.length_nil] at h
  have he : fiEnumB (faCons (fVar 0) faNil) [.pure (.tuple (C.map (encB false))), .own [], .emp, .emp, .emp, .emp, .emp] = some (enumD 0 (C.map (encB false)), [.pure (.tuple (C.map (encB false))), .own [], .emp, .emp, .emp, .emp, .emp]) := by simp
  simp [F__law_rules, fDef_ap, G__law_rules, -fiEnumB_ap, he, h]
theorem pr_len : ∀ (suf pre : List Stp), (PR pre suf).length ≤ 4 * suf.length
  | [], _ => Nat.le_refl _
  | s :: suf, pre => by
    have h1 := at_len (pre := pre) (suf := suf) (s := s) (p := pre.length)
    have h2 := pr_len suf (pre ++ [s])
    rw [PR, List.length_append, List.length_cons]
    omega
theorem ins_len {x : D} : ∀ ys : List D, (ins x ys).length = ys.length + 1
  | [] => rfl
  | y :: ys => by
    unfold ins
    split
    · rfl
    · rw [List.length_cons, ins_len ys, List.length_cons]
theorem isort_len : ∀ ds : List D, (isort ds).length = ds.length
  | [] => rfl
  | d :: ds => by show (ins d (isort ds)).length = _; rw [ins_len, isort_len ds, List.length_cons]
theorem fine_mk {m : Nat} {p r : Int} : Fine (m + 1) (mk p r) := .sq m false [.int r, .int p] (by simp) fun x hx => by
  simp at hx
  rcases hx with rfl | rfl <;> exact .at _ (.inl (.inl (.inr ⟨_, rfl⟩)))
end Sh

namespace Sh
open PySem PySem.Spec PyProof.Rows L2 Pt
def pc : Cf.Cap → Stp
  | .top n => .top n
  | .each k n => .each k n
theorem pc_isC {x : Cf.Cap} : isC (pc x) = true := by
  cases x with
  | top n => show (Str.ofString "top" == Str.ofString "top" || Str.ofString "each" == Str.ofString "top") = true; decide +kernel
  | each k n => show (Str.ofString "top" == Str.ofString "each" || Str.ofString "each" == Str.ofString "each") = true; decide +kernel
theorem pc_last {x : Cf.Cap} : lastN (pc x) = x.last := by cases x <;> rfl
theorem pc_top {n : Int} : isTp (pc (.top n)) = true := by show (Str.ofString "top" == Str.ofString "top") = true; decide +kernel
theorem pc_each {k n : Int} : isTp (pc (.each k n)) = false := by show (Str.ofString "each" == Str.ofString "top") = false; decide +kernel
theorem pc_all (W : List Cf.Cap) : (W.map pc).filter isC = W.map pc := List.filter_eq_self.mpr fun s hs => by
  obtain ⟨x, _, rfl⟩ := List.mem_map.mp hs
  exact pc_isC
theorem one1_iff {x : Cf.Cap} : PyData.eqv (encB false (pc x)) one1 = true ↔ x = .top 1 := by
  cases x with
  | top n =>
    show PyData.eqv (.tuple [.str "top", .int n]) (.tuple [.str "top", .int 1]) = true ↔ _
    simp [PyData.eqv, PyData.eqvAll]
  | each k n =>
    show PyData.eqv (.tuple [.str "each", .int k, .int n]) (.tuple [.str "top", .int 1]) = true ↔ _
    simp [PyData.eqv, PyData.eqvAll]
theorem has1_iff {q : List Cf.Cap} : has1 (q.map pc) = true ↔ Cf.J3 q := by
  unfold has1 Cf.J3
  rw [List.any_eq_true]
  constructor
  · rintro ⟨y, hy, h⟩
    obtain ⟨s, hs, rfl⟩ := List.mem_map.mp hy
    obtain ⟨x, hx, rfl⟩ := List.mem_map.mp hs
    rw [one1_iff.mp h] at hx
    exact hx
  · intro h
    exact ⟨_, List.mem_map.mpr ⟨_, List.mem_map.mpr ⟨_, h, rfl⟩, rfl⟩, one1_iff.mpr rfl⟩
theorem pA_iff {p : List Cf.Cap} {s : Cf.Cap} : ((p.map pc).filter (pA (lastN (pc s)))).isEmpty = false ↔ Cf.J1 p s := by
  rw [pc_last]
  constructor
  · intro h
    cases e : (p.map pc).filter (pA s.last) with
    | nil => rw [e] at h; cases h
    | cons y ys =>
      have hy : y ∈ (p.map pc).filter (pA s.last) := by rw [e]; simp
      obtain ⟨h1, h2⟩ := List.mem_filter.mp hy
      obtain ⟨x, hx, rfl⟩ := List.mem_map.mp h1
      cases x with
      | top n =>
        refine ⟨n, hx, ?_⟩
        unfold pA at h2
        rw [pc_top, Bool.true_and] at h2
        exact of_decide_eq_true h2
      | each k n =>
        unfold pA at h2
        rw [pc_each, Bool.false_and] at h2
        cases h2
  · rintro ⟨n, hn, hle⟩
    have hm : pc (.top n) ∈ (p.map pc).filter (pA s.last) := List.mem_filter.mpr ⟨List.mem_map.mpr ⟨_, hn, rfl⟩, by
      unfold pA
      rw [pc_top, Bool.true_and]
      exact decide_eq_true hle⟩
    cases e : (p.map pc).filter (pA s.last) with
    | nil => rw [e] at hm; cases hm
    | cons y ys => rfl
theorem r34_iff {s : Cf.Cap} {q : List Cf.Cap} : r34 (pc s) (q.map pc) ≠ [] ↔ Cf.J2 s q := by
  cases q with
  | nil => exact ⟨fun h => absurd rfl h, fun ⟨n, q', e, _⟩ => by cases e⟩
  | cons x q =>
    rw [List.map_cons, show r34 (pc s) (pc x :: q.map pc) = (if isTp (pc x) then ((if isTp (pc s) && decide (num (pc x) < lastN (pc s)) then [3] else []) ++ (if !isTp (pc s) && decide (num (pc x) ≤ lastN (pc s)) then [4] else [])) else []) from rfl]
    cases x with
    | each k n =>
      rw [pc_each]
      exact ⟨fun h => absurd rfl h, fun ⟨n', q', e, _⟩ => by cases e⟩
    | top n =>
      rw [pc_top]
      cases s with
      | top m =>
        rw [pc_top]
        have e1 : num (pc (.top n)) = n := rfl
        have e2 : lastN (pc (.top m)) = m := rfl
        rw [e1, e2]
        constructor
        · intro h
          refine ⟨n, q, rfl, .inl ⟨m, rfl, ?_⟩⟩
          by_cases hl : n < m
          · exact hl
          · exact absurd (by simp [hl]) h
        · rintro ⟨n', q', e, h⟩
          cases e
          rcases h with ⟨m', e, h⟩ | ⟨k, m', e, _⟩
          · cases e; simp [h]
          · cases e
      | each k m =>
        rw [pc_each]
        have e1 : num (pc (.top n)) = n := rfl
        have e2 : lastN (pc (.each k m)) = m := rfl
        rw [e1, e2]
        constructor
        · intro h
          refine ⟨n, q, rfl, .inr ⟨k, m, rfl, ?_⟩⟩
          by_cases hl : n ≤ m
          · exact hl
          · exact absurd (by simp [hl]) h
        · rintro ⟨n', q', e, h⟩
          cases e
          rcases h with ⟨m', e, _⟩ | ⟨k', m', e, h⟩
          · cases e
          · cases e; simp [h]
theorem rules_iff {p q : List Cf.Cap} {s : Cf.Cap} : rules (p.map pc) (pc s) (q.map pc) ≠ [] ↔ Cf.J p s q := by
  unfold rules Cf.J
  rw [← pA_iff, ← r34_iff, ← has1_iff]
  cases h1 : ((p.map pc).filter (pA (lastN (pc s)))).isEmpty <;> cases h2 : has1 (q.map pc) <;> simp
theorem lr_mem : ∀ (Q P : List Cf.Cap) (d : D), d ∈ LR (P.map pc) (Q.map pc) → ∃ a s b r, Q = a ++ s :: b ∧ d = mk ((P.length + a.length : Nat) : Int) r ∧ Cf.J (P ++ a) s b
  | [], P, d, h => by cases h
  | s :: Q, P, d, h => by
    rw [List.map_cons, LR] at h
    rcases List.mem_append.mp h with h | h
    · obtain ⟨r, hr, rfl⟩ := List.mem_map.mp h
      exact ⟨[], s, Q, r, rfl, by rw [List.length_map]; rfl, by rw [List.append_nil]; exact rules_iff.mp fun z => by rw [z] at hr; cases hr⟩
    · have e : P.map pc ++ [pc s] = (P ++ [s]).map pc := by simp
      rw [e] at h
      obtain ⟨a, t, b, r, e1, e2, e3⟩ := lr_mem Q (P ++ [s]) d h
      refine ⟨s :: a, t, b, r, by rw [e1]; rfl, ?_, by simpa using e3⟩
      rw [e2]
      congr 2
      simp
      omega
theorem lr_nil : ∀ (Q P : List Cf.Cap), LR (P.map pc) (Q.map pc) = [] → ∀ a s b, Q = a ++ s :: b → ¬ Cf.J (P ++ a) s b
  | [], P, h, a, s, b, e => by cases a <;> cases e
  | x :: Q, P, h, a, s, b, e => by
    rw [List.map_cons, LR] at h
    obtain ⟨h1, h2⟩ := List.append_eq_nil_iff.mp h
    cases a with
    | nil =>
      cases e
      rw [List.append_nil]
      intro hj
      exact rules_iff.mpr hj (List.map_eq_nil_iff.mp h1)
    | cons y a =>
      cases e
      have e : P.map pc ++ [pc x] = (P ++ [x]).map pc := by simp
      rw [e] at h2
      have := lr_nil _ (P ++ [x]) h2 a s b rfl
      simpa using this
theorem lr_end {W : List Cf.Cap} (h : LR [] (W.map pc) = []) : Cf.End W := fun v hv => by
  obtain ⟨a, s, b, e, _, hj⟩ := hv
  exact lr_nil W [] h a s b e hj
theorem pr_lr : ∀ (Q P : List Cf.Cap), PR (P.map pc) (Q.map pc) = LR (P.map pc) (Q.map pc)
  | [], _ => rfl
  | s :: Q, P => by
    have e : P.map pc ++ [pc s] = (P ++ [s]).map pc := by simp
    rw [List.map_cons, PR, LR, e, pr_lr Q (P ++ [s])]
    unfold at_
    rw [if_pos pc_isC, pc_all, pc_all]
end Sh

namespace Sh
open PySem PySem.Spec PyProof.Rows L2 Pt
def TW (W : List Cf.Cap) : List D := (W.map pc).map (encB false)
theorem tw_len {W : List Cf.Cap} : (TW W).length = W.length := by unfold TW; rw [List.length_map, List.length_map]
theorem tw_app {a b : List Cf.Cap} : TW (a ++ b) = TW a ++ TW b := by unfold TW; rw [List.map_append, List.map_append]
theorem gAdd_t {xs ys : List D} (h : xs.length + ys.length ≤ sizeLine) : gAdd (.tuple xs) (.tuple ys) = some (.tuple (xs ++ ys), .st) := by simp [gAdd, h]
theorem tw_cut1 {a b : List Cf.Cap} {s : Cf.Cap} : Pt.cutD (TW (a ++ s :: b)) none (some ((a.length : Nat) : Int)) = TW a := by
  rw [cut_take (by rw [tw_len]; simp), tw_app, ← tw_len, List.take_left]
theorem tw_cut2 {a b : List Cf.Cap} {s : Cf.Cap} : Pt.cutD (TW (a ++ s :: b)) (some ((a.length : Int) + 1)) none = TW b := by
  have e : ((a.length : Int) + 1) = ((a.length + 1 : Nat) : Int) := by omega
  have e2 : a ++ s :: b = (a ++ [s]) ++ b := by simp
  have e3 : a.length + 1 = (TW (a ++ [s])).length := by rw [tw_len]; simp
  rw [e, cut_drop, e2, tw_app, e3, List.drop_left]
theorem own_tw {W : List Cf.Cap} (h : W.length ≤ 1000) : F_own_word [.pure (.tuple (TW W))] = some (.tuple (TW W), false, [.pure (.tuple (TW W))]) :=
  own_word_ok (b := false) (c := false) (w := W.map pc) (by rw [List.length_map]; omega)
theorem without_ok {a b : List Cf.Cap} {s : Cf.Cap} (h : (a ++ s :: b).length ≤ 1000) : F_without_step [.pure (.tuple (TW (a ++ s :: b))), .pure (.int (a.length : Int))] = some (.tuple (TW (a ++ b)), false, [.pure (.tuple (TW (a ++ s :: b))), .pure (.int (a.length : Int))]) := by
  have ho := own_tw h
  have h1 := tw_cut1 (a := a) (b := b) (s := s)
  have h2 := tw_cut2 (a := a) (b := b) (s := s)
  have hl : (a ++ s :: b).length = a.length + (b.length + 1) := by simp
  have hadd : gAdd (.tuple (TW a)) (.tuple (TW b)) = some (.tuple (TW (a ++ b)), .st) := by rw [tw_app]; exact gAdd_t (by rw [tw_len, tw_len, sizeLine_eq]; omega)
  have hlen : (TW (a ++ s :: b)).length = a.length + (b.length + 1) := by rw [tw_len, hl]
  have g1 : gLe (.int 0) (.int (a.length : Int)) = some (.bool true, .st) := by rw [gLe_i]; simp
  have g2 : gLt (.int (a.length : Int)) (.int ((TW (a ++ s :: b)).length : Int)) = some (.bool true, .st) := by
    rw [gLt_i, hlen, decide_eq_true (by omega)]
  generalize (a.length : Int) = k at g1 g2 h1 h2 ⊢
  generalize TW (a ++ s :: b) = w at *
  simp [F_without_step, fDef_ap, G_without_step, -gLe_i, -gLt_i, g1, g2, ho, gSl, h1, h2, hadd]
theorem takes_tw {W : List Cf.Cap} (h : W.length ≤ 1000) : F_takes_out [.pure (.tuple (TW W))] = some (.list (isort (LR [] (W.map pc))), true, [.pure (.tuple (TW W))]) := by
  have h1 := takes_ok (c := false) (b := false) (w := W.map pc) (by rw [List.length_map]; exact h)
  have e : PR [] (W.map pc) = LR [] (W.map pc) := pr_lr W []
  rw [e] at h1
  exact h1
theorem cl_loop {row : D} : ∀ (n : Nat) (W : List Cf.Cap), W.length < n → W.length ≤ 1000 → ∃ V, whileL (fTst (fVar 2)) B0_caps_left n [.pure row, .pure (.tuple (TW W)), .own (isort (LR [] (W.map pc)))] = some (.nx [.pure row, .pure (.tuple (TW V)), .own []]) ∧ Cf.Rs W V ∧ Cf.End V
  | 0, W, h, _ => absurd h (Nat.not_lt_zero _)
  | n + 1, W, h, hz => by
    cases e : isort (LR [] (W.map pc)) with
    | nil =>
      have hl : (LR [] (W.map pc)) = [] := by
        have := isort_len (LR [] (W.map pc))
        rw [e] at this
        exact List.eq_nil_of_length_eq_zero this.symm
      exact ⟨W, by unfold whileL; simp, .refl W, lr_end hl⟩
    | cons d ds =>
      have hd : d ∈ LR [] (W.map pc) := isort_mem.mp (by rw [e]; simp)
      obtain ⟨a, s, b, r, eW, ed, hj⟩ := lr_mem W [] d hd
      subst eW
      rw [List.nil_append] at hj
      have hla : (a ++ s :: b).length = (a ++ b).length + 1 := by simp; omega
      obtain ⟨V, h1, h2, h3⟩ := cl_loop (row := row) n (a ++ b) (by omega) (by omega)
      refine ⟨V, ?_, .step ⟨a, s, b, rfl, rfl, hj⟩ h2, h3⟩
      have hw := without_ok (a := a) (b := b) (s := s) hz
      have ht := takes_tw (W := a ++ b) (by omega)
      rw [show ([] : List Cf.Cap).length + a.length = a.length from by simp] at ed
      unfold mk at ed
      rw [ed]
      generalize (a.length : Int) = k at hw ⊢
      have hB : B0_caps_left [.pure row, .pure (.tuple (TW (a ++ s :: b))), .own (.tuple [.int r, .int k] :: ds)] = some (.nx [.pure row, .pure (.tuple (TW (a ++ b))), .own (isort (LR [] ((a ++ b).map pc)))]) := by
        simp only [List.map_append] at ht ⊢
        simp [B0_caps_left, hw, ht]
      unfold whileL
      have hT : fTst (fVar 2) [.pure row, .pure (.tuple (TW (a ++ s :: b))), .own (.tuple [.int r, .int k] :: ds)] = some (true, [.pure row, .pure (.tuple (TW (a ++ s :: b))), .own (.tuple [.int r, .int k] :: ds)]) := by simp
      rw [hT]
      dsimp only
      rw [hB]
      exact h1
theorem caps_left_ok {W : List Cf.Cap} {b c : Bool} (h : W.length ≤ 60) : ∃ V, F_caps_left [.pure (sq c ((W.map pc).map (encB b)))] = some (.tuple (TW V), false, [.pure (sq c ((W.map pc).map (encB b)))]) ∧ Cf.Rs W V ∧ Cf.End V := by
  obtain ⟨V, h1, h2, h3⟩ := cl_loop (row := sq c ((W.map pc).map (encB b))) 64 W (by omega) (by omega)
  have hc := caps_ok (b := b) (c := c) (w := W.map pc) (by rw [List.length_map]; omega)
  rw [pc_all] at hc
  have ht := takes_tw (W := W) (by omega)
  refine ⟨V, ?_, h2, h3⟩
  have hc' : F_caps [.pure (sq c ((W.map pc).map (encB b)))] = some (.tuple (TW W), false, [.pure (sq c ((W.map pc).map (encB b)))]) := hc
  generalize sq c ((W.map pc).map (encB b)) = row at h1 hc' ⊢
  simp [F_caps_left, fDef_ap, G_caps_left, hc', ht, h1]
end Sh

namespace Sh
open PySem PySem.Spec PyProof.Rows L2 Pt
def isT (t : Str) (s : Stp) : Bool := tg s == t
def nums (t : Str) (w : List Stp) : List Int := (w.filter (isT t)).map num
theorem floor_ok {b c : Bool} {w : List Stp} (hw : w.length ≤ 1000000) : F_floor_of [.pure (sq c (w.map (encB b)))] = some (optD true .none (nums "floor" w), false, [.pure (sq c (w.map (encB b)))]) := by
  have hc := compG (own := [1]) (b := bName 1) (T := (fTst (fTwo gEq (fTwo gIx (fVar 1) (fCst (.int 0))) (fCst (.str "floor"))))) (E := (fTwo gIx (fVar 1) (fCst (.int 1)))) (I := fiSeq (fVar 0)) (env := [.pure (sq c (w.map (encB b))), .emp]) (e1 := [.pure (sq c (w.map (encB b))), .emp]) w (encB b) (isT "floor") (fun s => .int (num s)) (by cases c <;> simp [sq]) rfl rfl (by rw [sizeLine_eq]; omega)
    (fun s _ => ⟨[.pure (sq c (w.map (encB b))), .pure (encB b s)], rfl, by simp [isT], rfl, fun _ => ⟨.st, trivial, by simp⟩⟩)
  have e : (w.filter (isT "floor")).map (fun s => PyData.int (num s)) = (nums "floor" w).map PyData.int := by unfold nums; rw [List.map_map]; rfl
  rw [e] at hc
  simp [F_floor_of, fDef_ap, G_floor_of, hc, gMM_l]
theorem near_ok {b c : Bool} {w : List Stp} (hw : w.length ≤ 1000000) : F_near_of [.pure (sq c (w.map (encB b)))] = some (optD false .none (nums "near" w), false, [.pure (sq c (w.map (encB b)))]) := by
  have hc := compG (own := [1]) (b := bName 1) (T := (fTst (fTwo gEq (fTwo gIx (fVar 1) (fCst (.int 0))) (fCst (.str "near"))))) (E := (fTwo gIx (fVar 1) (fCst (.int 1)))) (I := fiSeq (fVar 0)) (env := [.pure (sq c (w.map (encB b))), .emp]) (e1 := [.pure (sq c (w.map (encB b))), .emp]) w (encB b) (isT "near") (fun s => .int (num s)) (by cases c <;> simp [sq]) rfl rfl (by rw [sizeLine_eq]; omega)
    (fun s _ => ⟨[.pure (sq c (w.map (encB b))), .pure (encB b s)], rfl, by simp [isT], rfl, fun _ => ⟨.st, trivial, by simp⟩⟩)
  have e : (w.filter (isT "near")).map (fun s => PyData.int (num s)) = (nums "near" w).map PyData.int := by unfold nums; rw [List.map_map]; rfl
  rw [e] at hc
  simp [F_near_of, fDef_ap, G_near_of, hc, gMM_l]

theorem nums_fl (W : List Cf.Cap) : nums "floor" (W.map pc) = [] := by
  unfold nums
  rw [List.map_eq_nil_iff, List.filter_eq_nil_iff]
  intro s hs
  obtain ⟨x, _, rfl⟩ := List.mem_map.mp hs
  cases x with
  | top n => show ¬ (Str.ofString "top" == Str.ofString "floor") = true; decide +kernel
  | each k n => show ¬ (Str.ofString "each" == Str.ofString "floor") = true; decide +kernel
theorem nums_nr (W : List Cf.Cap) : nums "near" (W.map pc) = [] := by
  unfold nums
  rw [List.map_eq_nil_iff, List.filter_eq_nil_iff]
  intro s hs
  obtain ⟨x, _, rfl⟩ := List.mem_map.mp hs
  cases x with
  | top n => show ¬ (Str.ofString "top" == Str.ofString "near") = true; decide +kernel
  | each k n => show ¬ (Str.ofString "each" == Str.ofString "near") = true; decide +kernel
theorem reduced_ok {W : List Cf.Cap} {b c : Bool} (h : W.length ≤ 60) : ∃ V, F_reduced [.pure (sq c ((W.map pc).map (encB b)))] = some (.tuple (TW V), false, [.pure (sq c ((W.map pc).map (encB b)))]) ∧ Cf.Rs W V ∧ Cf.End V ∧ V.length ≤ 60 := by
  obtain ⟨V, h1, h2, h3⟩ := caps_left_ok (b := b) (c := c) h
  have hV : V.length ≤ 60 := by
    have : ∀ {w v : List Cf.Cap}, Cf.Rs w v → v.length ≤ w.length := fun {w v} k => by
      induction k with
      | refl => exact Nat.le_refl _
      | step k1 _ ih => have := k1.len; omega
    have := this h2
    omega
  have hf := floor_ok (b := b) (c := c) (w := W.map pc) (by rw [List.length_map]; omega)
  have hn := near_ok (b := b) (c := c) (w := W.map pc) (by rw [List.length_map]; omega)
  rw [nums_fl] at hf
  rw [nums_nr] at hn
  have nn : gNotN .none = some (.bool false, .st) := rfl
  have hadd : gAdd (.tuple []) (.tuple (TW V)) = some (.tuple (TW V), .st) := gAdd_t (by rw [tw_len, sizeLine_eq]; simp; omega)
  refine ⟨V, ?_, h2, h3, hV⟩
  simp only [optD] at hf hn
  generalize sq c ((W.map pc).map (encB b)) = row at h1 hf hn ⊢
  simp [F_reduced, fDef_ap, G_reduced, h1, hf, hn, nn, hadd]
theorem en_eq {x y : Cf.Cap} : PyData.eqv (encB false (pc x)) (encB false (pc y)) = decide (x = y) := by
  cases x with
  | top n =>
    cases y with
    | top m => show PyData.eqv (.tuple [.str "top", .int n]) (.tuple [.str "top", .int m]) = _; simp [PyData.eqv, PyData.eqvAll]; rfl
    | each k m => show PyData.eqv (.tuple [.str "top", .int n]) (.tuple [.str "each", .int k, .int m]) = _; simp [PyData.eqv, PyData.eqvAll]
  | each k n =>
    cases y with
    | top m => show PyData.eqv (.tuple [.str "each", .int k, .int n]) (.tuple [.str "top", .int m]) = _; simp [PyData.eqv, PyData.eqvAll]
    | each l m => show PyData.eqv (.tuple [.str "each", .int k, .int n]) (.tuple [.str "each", .int l, .int m]) = _; by_cases h1 : k = l <;> by_cases h2 : n = m <;> simp [PyData.eqv, PyData.eqvAll, h1, h2]
theorem tw_eq : ∀ (V W : List Cf.Cap), PyData.eqvAll (TW V) (TW W) = decide (V = W)
  | [], [] => by simp [TW, PyData.eqvAll]
  | [], y :: W => by simp [TW, PyData.eqvAll]
  | x :: V, [] => by simp [TW, PyData.eqvAll]
  | x :: V, y :: W => by
    have ih := tw_eq V W
    show PyData.eqvAll (encB false (pc x) :: TW V) (encB false (pc y) :: TW W) = _
    rw [PyData.eqvAll, en_eq, ih]
    by_cases h1 : x = y <;> by_cases h2 : V = W <;> simp [h1, h2]
end Sh

/-! The frame of all laws: by hand, boxes, turns. -/
namespace Sh
open PySem PySem.Spec PyProof.Rows L2 Pt
theorem box_gen {c0 : Int} {cs : List Int} {k : Int} (h0 : 0 ≤ k) (h1 : k < cs.length) :
    ∃ ds, (fDef 3 2 [] (gSeq (gSet 2 (fIf (fTst (fTwo gLt (fVar 1) (fOne gLen (fVar 0)))) (fTwo gIx (fVar 0) (fVar 1)) (fCst (.int 0)))) (gSeq (gRet 2 (fLst (faCons (fTwo gMul (fOne gAbs (fVar 2)) (fOne gInt (fTwo gGe (fOne gAbs (fVar 2)) (fTwo gPow (fCst (.int 10)) (fCst (.int 18)))))) (faCons (fTwo gAdd (fTwo gAdd (fTwo gMod (fOne gInt (fVar 2)) (fCst (.int 2305843009213693951))) (fTwo gMul (fCst (.int 39373)) (fVar 1))) (fCst (.int c0))) (faCons (fCst (.int 0)) faNil))))) gSkip)))
      [.pure (.list (cs.map PyData.int)), .pure (.int k)] = some (.list ds, true, [.pure (.list (cs.map PyData.int)), .pure (.int k)]) ∧ TinP 0 ds := by
  obtain ⟨c, ix⟩ := ix_int h0 h1
  have m1 : ∀ (x : Int) (b : Bool), gMul (.int x) (.int (if b = true then 1 else 0)) = some (.int (x * (if b = true then 1 else 0)), .st) := fun x b => gMul_i (.inr (by cases b <;> decide))
  have m2 : gMul (.int 39373) (.int k) = some (.int (39373 * k), .st) := gMul_i (.inl (by decide))
  have m3 : ∀ x : Int, gMod (.int x) (.int 2305843009213693951) = some (.int (x % 2305843009213693951), .st) := fun x => gMod_i (by decide)
  have hl : gLt (.int k) (.int cs.length) = some (.bool true, .st) := by rw [gLt_i]; simp [h1]
  refine ⟨[.int ((if c < 0 then -c else c) * (if decide (1000000000000000000 ≤ (if c < 0 then -c else c)) = true then 1 else 0)), .int (c % 2305843009213693951 + 39373 * k + c0), .int 0], ?_, _, _, 0, rfl, by decide, by decide⟩
  simp only [fDef_ap]
  simp [-gLt_i, -decide_eq_true_eq, ix, hl, gPow_18, m1, m2, m3]
/-- a case, whatever is drawn -/
def CaseOk (case : FS) (c : Nat) : Prop := ∀ n ds, TinP n ds → n < 100000000000 → ∃ ds', case [.own ds] = some (.bool true, false, [.own ds']) ∧ TinP (n + c) ds'
theorem turns_gen {case : FS} {c : Nat} {N : Nat} (hc : CaseOk case c) (hN : c * N < 50000000000) (hN2 : N < 1000) {ds : List D} (h : TinP 0 ds) :
    ∃ ds', (fDef 2 1 [] (gSeq (gRet 1 (fOne gAll (fComp [1] (fiRng1 (faCons (fCst (.int (N : Int))) faNil)) (bName 1) fTYes (fCall case (frBox (fVar 0) frNil))))) gSkip)) [.own ds] = some (.bool true, false, [.own ds']) := by
  have hi : fiRng1 (faCons (fCst (.int (N : Int))) faNil) [.own ds, .emp] = some ((List.range N).map fun (m : Nat) => PyData.int (0 + m), [.own ds, .emp]) := by
    rw [fiRng1_ok (j := (N : Int)) (e1 := [.own ds, .emp]) rfl (by omega) (by omega), Int.toNat_natCast]
  have loop : ∀ (l : List Nat) (m : Nat) (ds : List D), TinP m ds → m + c * l.length < 100000000000 → ∃ ds', compL [1] (bName 1) fTYes (fCall case (frBox (fVar 0) frNil)) (l.map fun (m : Nat) => PyData.int (0 + m)) [.own ds, .emp] = some (l.map fun _ => PyData.bool true, [.own ds', .emp]) := by
    intro l
    induction l with
    | nil => intro m ds _ _; exact ⟨ds, rfl⟩
    | cons x l ih =>
      intro m ds ht hm
      rw [List.length_cons, Nat.mul_succ] at hm
      obtain ⟨ds1, h1, ht1⟩ := hc m ds ht (by omega)
      obtain ⟨ds2, h2⟩ := ih (m + c) ds1 ht1 (by omega)
      refine ⟨ds2, ?_⟩
      rw [List.map_cons, List.map_cons]
      generalize (0 + (x : Int)) = k
      unfold compL
      have hb : bName 1 (.int k) [.own ds, .emp] = some [.own ds, .pure (.int k)] := rfl
      rw [hb]
      dsimp only
      have hE : fCall case (frBox (fVar 0) frNil) [.own ds, .pure (.int k)] = some (.bool true, .st, [.own ds1, .pure (.int k)]) := by simp [h1]
      have hT : fTYes [.own ds, .pure (.int k)] = some (true, [.own ds, .pure (.int k)]) := rfl
      rw [hT]
      dsimp only
      rw [hE]
      dsimp only
      have hw : wipeE [1] (stl (.bool true) .st [.own ds1, .pure (.int k)]) = [.own ds1, .emp] := rfl
      rw [hw, h2]
  obtain ⟨ds', hl⟩ := loop (List.range N) 0 ds h (by simp; omega)
  refine ⟨ds', ?_⟩
  have hrep : ((List.range N).map fun _ => PyData.bool true) = List.replicate N (PyData.bool true) := by rw [List.map_const', List.length_range]
  rw [hrep] at hl
  have hrl : (List.replicate N (PyData.bool true)).length ≤ sizeLine := by rw [List.length_replicate, sizeLine_eq]; omega
  generalize ((List.range N).map fun (m : Nat) => PyData.int (0 + m)) = rg at hi hl
  have hcomp : ∀ I : FI, I [.own ds, .emp] = some (rg, [.own ds, .emp]) → fComp [1] I (bName 1) fTYes (fCall case (frBox (fVar 0) frNil)) [.own ds, .emp] = some (.list (List.replicate N (PyData.bool true)), .fr, [.own ds', .emp]) := by
    intro I hI
    unfold fComp
    rw [hI]
    dsimp only
    have hno : noOwn [1] [.own ds, .emp] = true := rfl
    rw [if_pos hno]
    have hw : wipeE [1] [.own ds, .emp] = [.own ds, .emp] := rfl
    rw [hw, hl]
    dsimp only
    rw [if_pos hrl]
    rfl
  have hall : gAll (.list (List.replicate N (PyData.bool true))) = some (.bool true, .st) := by
    simp only [gAll, boolsL_true]
    simp
  generalize List.replicate N (PyData.bool true) = rep at hcomp hall
  have fin : ∀ Cmp : FE, Cmp [.own ds, .emp] = some (.list rep, .fr, [.own ds', .emp]) → fDef 2 1 [] (gSeq (gRet 1 (fOne gAll Cmp)) gSkip) [.own ds] = some (.bool true, false, [.own ds']) := by
    intro Cmp hC
    simp [fDef_ap, hC, hall]
  exact fin _ (hcomp _ hi)
/-- the law's own def -/
theorem law_gen {hand box right : FS} {M : Nat} (hM : 0 < M) (hM2 : M < 60) (hh : hand [] = some (.bool true, false, []))
    (hb : ∀ (cs : List Int) (k : Int), 0 ≤ k → k < cs.length → ∃ ds, box [.pure (.list (cs.map PyData.int)), .pure (.int k)] = some (.list ds, true, [.pure (.list (cs.map PyData.int)), .pure (.int k)]) ∧ TinP 0 ds)
    (hr : ∀ ds, TinP 0 ds → ∃ ds', right [.own ds] = some (.bool true, false, [.own ds'])) (ns : List Int) (hl : ns.length ≤ 63) :
    ∃ ss', fDef 3 1 [] (gSeq (gIfS (fTNot (fTst (fCall hand frNil))) (gSeq (gRet 1 (fCst (.bool false))) gSkip) gSkip) (gSeq (gSet 1 (fCall F__law_cells (frVal (fVar 0) (frVal (fCst (.int (M : Int))) frNil)))) (gSeq (gRet 1 (fOne gAll (fComp [2] (fiRng1 (faCons (fOne gLen (fVar 1)) faNil)) (bName 2) fTYes (fCall right (frGive (fCall box (frVal (fVar 1) (frVal (fVar 2) frNil)))))))) gSkip))) (scr ns) = some (.bool true, false, ss') := by
  obtain ⟨cs, hc, hcl⟩ := cells_ok hM hM2 hl
  obtain ⟨e', h1, s, rfl, hs⟩ := compL_inv (own := [2]) (b := bName 2) (T := fTYes) (E := fCall right (frGive (fCall box (frVal (fVar 1) (frVal (fVar 2) frNil))))) (p := fun _ => true) (f := fun _ => .bool true)
    (P := fun e => ∃ s, e = [.pure (.list (ns.map PyData.int)), s, .emp] ∧ (s = .own (cs.map PyData.int) ∨ s = .pure (.list (cs.map PyData.int)))) ((List.range cs.length).map fun (m : Nat) => PyData.int (0 + m)) [.pure (.list (ns.map PyData.int)), .own (cs.map PyData.int), .emp] (fun d hd e he => by
      obtain ⟨i, hi, rfl⟩ := List.mem_map.mp hd
      have hi := List.mem_range.mp hi
      obtain ⟨ds, hb, ht⟩ := hb cs (0 + (i : Int)) (by omega) (by omega)
      obtain ⟨ds', hr⟩ := hr ds ht
      generalize (0 + (i : Int)) = k at hb ⊢
      obtain ⟨s, rfl, hs⟩ := he
      refine ⟨[.pure (.list (ns.map PyData.int)), s, .pure (.int k)], [.pure (.list (ns.map PyData.int)), s, .pure (.int k)], rfl, rfl, fun z => (by cases z), fun _ => ⟨.st, [.pure (.list (ns.map PyData.int)), .pure (.list (cs.map PyData.int)), .pure (.int k)], ?_, _, rfl, .inr rfl⟩⟩
      rcases hs with rfl | rfl <;> simp [hb, hr]) ⟨_, rfl, .inl rfl⟩
  rw [List.filter_eq_self.mpr (fun _ _ => rfl)] at h1
  have hlen : (((List.range cs.length).map fun (m : Nat) => PyData.int (0 + m)).map fun _ => PyData.bool true).length ≤ sizeLine := by rw [sizeLine_eq]; simp; omega
  have hi : fiRng1 (faCons (fOne gLen (fVar 1)) faNil) [.pure (.list (ns.map PyData.int)), .own (cs.map PyData.int), .emp] = some ((List.range cs.length).map fun (m : Nat) => PyData.int (0 + m), [.pure (.list (ns.map PyData.int)), .own (cs.map PyData.int), .emp]) := by
    have hg : faCons (fOne gLen (fVar 1)) faNil [.pure (.list (ns.map PyData.int)), .own (cs.map PyData.int), .emp] = some ([.int (cs.length : Int)], [.pure (.list (ns.map PyData.int)), .own (cs.map PyData.int), .emp]) := by simp
    exact (fiRng1_ok hg (by omega) (by omega)).trans (by rw [Int.toNat_natCast])
  have hrep : (((List.range cs.length).map fun (m : Nat) => PyData.int (0 + m)).map fun _ => PyData.bool true) = List.replicate cs.length (PyData.bool true) := List.eq_replicate_iff.mpr ⟨by simp, fun b hb => by
    obtain ⟨_, _, e⟩ := List.mem_map.mp hb
    exact e.symm⟩
  rw [hrep] at h1 hlen
  generalize ((List.range cs.length).map fun (m : Nat) => PyData.int (0 + m)) = rg at hi h1
  have hcomp : ∀ I : FI, I [.pure (.list (ns.map PyData.int)), .own (cs.map PyData.int), .emp] = some (rg, [.pure (.list (ns.map PyData.int)), .own (cs.map PyData.int), .emp]) →
      fComp [2] I (bName 2) fTYes (fCall right (frGive (fCall box (frVal (fVar 1) (frVal (fVar 2) frNil))))) [.pure (.list (ns.map PyData.int)), .own (cs.map PyData.int), .emp] = some (.list (List.replicate cs.length (PyData.bool true)), .fr, [.pure (.list (ns.map PyData.int)), s, .emp]) := by
    intro I hI
    unfold fComp
    rw [hI]
    dsimp only
    have hno : noOwn [2] [.pure (.list (ns.map PyData.int)), .own (cs.map PyData.int), .emp] = true := rfl
    rw [if_pos hno]
    have hw : wipeE [2] [.pure (.list (ns.map PyData.int)), .own (cs.map PyData.int), .emp] = [.pure (.list (ns.map PyData.int)), .own (cs.map PyData.int), .emp] := rfl
    rw [hw, h1]
    dsimp only
    rw [if_pos hlen]
    rfl
  have hall : gAll (.list (List.replicate cs.length (PyData.bool true))) = some (.bool true, .st) := by
    simp only [gAll, boolsL_true]
    simp
  generalize List.replicate cs.length (PyData.bool true) = rep at hcomp hall
  generalize (M : Int) = mi at hc ⊢
  have fin : ∀ Cmp : FE, Cmp [.pure (.list (ns.map PyData.int)), .own (cs.map PyData.int), .emp] = some (.list rep, .fr, [.pure (.list (ns.map PyData.int)), s, .emp]) →
      fDef 3 1 [] (gSeq (gIfS (fTNot (fTst (fCall hand frNil))) (gSeq (gRet 1 (fCst (.bool false))) gSkip) gSkip) (gSeq (gSet 1 (fCall F__law_cells (frVal (fVar 0) (frVal (fCst (.int mi)) frNil)))) (gSeq (gRet 1 (fOne gAll Cmp)) gSkip))) (scr ns) = some (.bool true, false, [.pure (.list (ns.map PyData.int))]) := by
    intro Cmp hC
    unfold scr
    simp [fDef_ap, hh, hc, hC, hall]
  exact ⟨_, fin _ (hcomp _ hi)⟩
end Sh

/-! Words with floors and nears: caps, reduced words, of the program and of the law. -/
namespace Sh
open PySem PySem.Spec PyProof.Rows L2 Pt
theorem compV {α : Type} {i : Nat} {I : FI} {T : FT} {E : FE} {env : Ev} {s : Slot} (l : List α) (e : α → D) (p : α → Bool) (f : α → D)
    (hI : I env = some (l.map e, env)) (hs : env[i]? = some s) (hn : NoOwn s) (hz : l.length ≤ sizeLine)
    (h : ∀ a ∈ l, T (env.set i (.pure (e a))) = some (p a, env.set i (.pure (e a))) ∧ (p a = true → ∃ k, NoPk k ∧ E (env.set i (.pure (e a))) = some (f a, k, env.set i (.pure (e a))))) :
    fComp [i] I (bName i) T E env = some (.list ((l.filter p).map f), .fr, env) := by
  have hl : i < env.length := (List.getElem?_eq_some_iff.mp hs).1
  refine compG l e p f hI ?_ ?_ hz fun a ha => ?_
  · unfold noOwn
    simp only [List.all_cons, List.all_nil, Bool.and_true]
    rw [hs]
    cases s with
    | own l => exact hn.elim
    | dct l => exact hn.elim
    | _ => rfl
  · show (match env[i]? with | some s => (env.set i .emp).set i s | none => env.set i .emp) = env
    rw [hs]
    dsimp only
    rw [List.set_set]
    refine List.ext_getElem? fun j => ?_
    by_cases z : i = j
    · subst z; rw [List.getElem?_set_self hl, hs]
    · rw [List.getElem?_set_ne z]
  · obtain ⟨h1, h2⟩ := h a ha
    refine ⟨env.set i (.pure (e a)), ?_, h1, ?_, h2⟩
    · show some ((env.set i .emp).set i (.pure (e a))) = _
      rw [List.set_set]
    · show (env.set i (.pure (e a))).set i .emp = env.set i .emp
      rw [List.set_set]
theorem noOwn_emp : NoOwn .emp := trivial
theorem filter_true {α : Type} {l : List α} : l.filter (fun _ => true) = l := List.filter_eq_self.mpr fun _ _ => rfl
/-- the cap that a step is -/
def cap? : Stp → Option Cf.Cap
  | .top n => some (.top n)
  | .each k n => some (.each k n)
  | _ => none
def capsW (w : List Stp) : List Cf.Cap := w.filterMap cap?
theorem isC_cap (s : Stp) : isC s = (cap? s).isSome := by
  cases s with
  | floor i => show (Str.ofString "top" == Str.ofString "floor" || Str.ofString "each" == Str.ofString "floor") = false; decide +kernel
  | near i => show (Str.ofString "top" == Str.ofString "near" || Str.ofString "each" == Str.ofString "near") = false; decide +kernel
  | top i => show (Str.ofString "top" == Str.ofString "top" || Str.ofString "each" == Str.ofString "top") = true; decide +kernel
  | each k i => show (Str.ofString "top" == Str.ofString "each" || Str.ofString "each" == Str.ofString "each") = true; decide +kernel
theorem caps_pc : ∀ w : List Stp, w.filter isC = (capsW w).map pc
  | [] => rfl
  | s :: w => by
    have ih := caps_pc w
    have h := isC_cap s
    cases s <;> simp [cap?] at h <;> simp [capsW, cap?, List.filter_cons, List.filterMap_cons, h] at ih ⊢ <;> simp [ih, pc]
theorem capsW_len (w : List Stp) : (capsW w).length ≤ w.length := List.length_filterMap_le _ _
/-- the end of the rules -/
noncomputable def fin (W : List Cf.Cap) : List Cf.Cap := Classical.choose (Cf.ends _ W (Nat.le_refl _))
theorem fin_rs (W : List Cf.Cap) : Cf.Rs W (fin W) := (Classical.choose_spec (Cf.ends _ W (Nat.le_refl _))).1
theorem fin_end (W : List Cf.Cap) : Cf.End (fin W) := (Classical.choose_spec (Cf.ends _ W (Nat.le_refl _))).2
theorem fin_eq {W V : List Cf.Cap} (g : Cf.Good W) (h : Cf.Rs W V) (e : Cf.End V) : V = fin W := Cf.one _ W V (fin W) (Nat.le_refl _) g h e (fin_rs W) (fin_end W)
theorem rs_len {W V : List Cf.Cap} (h : Cf.Rs W V) : V.length ≤ W.length := by
  induction h with
  | refl => exact Nat.le_refl _
  | step k1 _ ih => have := k1.len; omega
theorem fin_len (W : List Cf.Cap) : (fin W).length ≤ W.length := rs_len (fin_rs W)
def GoodW (w : List Stp) : Prop := Cf.Good (capsW w)
/-- the floor and the near of the reduced word -/
def flo (w : List Stp) : List Stp := match nums "floor" w with
  | [] => []
  | n :: ns => [.floor (foldMM true n ns)]
def nea (w : List Stp) : List Stp := match nums "near" w with
  | [] => []
  | n :: ns => [.near (foldMM false n ns)]
theorem flo_len (w : List Stp) : (flo w).length ≤ 1 := by unfold flo; split <;> simp
theorem nea_len (w : List Stp) : (nea w).length ≤ 1 := by unfold nea; split <;> simp
noncomputable def redW (w : List Stp) : List Stp := flo w ++ ((if has1 ((fin (capsW w)).map pc) then [] else nea w) ++ (fin (capsW w)).map pc)
theorem encF {i : Int} : encB false (.floor i) = .tuple [.str "floor", .int i] := rfl
theorem encN {i : Int} : encB false (.near i) = .tuple [.str "near", .int i] := rfl
theorem encT {i : Int} : encB false (.top i) = .tuple [.str "top", .int i] := rfl
theorem encE {k i : Int} : encB false (.each k i) = .tuple [.str "each", .int k, .int i] := rfl
theorem redW_len (w : List Stp) : (redW w).length ≤ w.length + 2 := by
  have h1 := flo_len w
  have h2 := nea_len w
  have h3 := fin_len (capsW w)
  have h4 := capsW_len w
  unfold redW
  rw [List.length_append, List.length_append, List.length_map]
  split
  · rw [List.length_nil]; omega
  · omega
theorem caps_left_W {w : List Stp} {b c : Bool} (g : GoodW w) (h : w.length ≤ 60) : F_caps_left [.pure (sq c (w.map (encB b)))] = some (.tuple (TW (fin (capsW w))), false, [.pure (sq c (w.map (encB b)))]) := by
  have hl := capsW_len w
  obtain ⟨V, h1, h2, h3⟩ := cl_loop (row := sq c (w.map (encB b))) 64 (capsW w) (by omega) (by omega)
  have hc := caps_ok (b := b) (c := c) (w := w) (by omega)
  rw [caps_pc] at hc
  have ht := takes_tw (W := capsW w) (by omega)
  rw [fin_eq g h2 h3] at h1
  have hc' : F_caps [.pure (sq c (w.map (encB b)))] = some (.tuple (TW (capsW w)), false, [.pure (sq c (w.map (encB b)))]) := hc
  generalize sq c (w.map (encB b)) = row at h1 hc' ⊢
  simp [F_caps_left, fDef_ap, G_caps_left, hc', ht, h1]
theorem notin1_ok {bh : List Stp} : gNotIn (.tuple [.str "top", .int 1]) (.tuple (bh.map (encB false))) = some (.bool (!has1 bh), .st) := by
  simp only [gNotIn]
  rw [if_pos]
  · rfl
  · simp [iOk, plain_encs, PyData.plain, PyData.plainAll, PyData.depth, PyData.depthAll]
    omega
@[simp] theorem gNotN_n : gNotN .none = some (.bool false, .st) := rfl
@[simp] theorem gNotN_i {i : Int} : gNotN (.int i) = some (.bool true, .st) := rfl
@[simp] theorem gIsN_n : gIsN .none = some (.bool true, .st) := rfl
@[simp] theorem gIsN_i {i : Int} : gIsN (.int i) = some (.bool false, .st) := rfl
theorem encs_app {b : Bool} {v w : List Stp} : (v ++ w).map (encB b) = v.map (encB b) ++ w.map (encB b) := List.map_append
theorem red_add {w : List Stp} {F N : List Stp} (h : w.length ≤ 60) (hF : F.length ≤ 1) (hN : N.length ≤ 1) :
    gAdd (.tuple ((F ++ N).map (encB false))) (.tuple (TW (fin (capsW w)))) = some (.tuple ((F ++ (N ++ (fin (capsW w)).map pc)).map (encB false)), .st) := by
  have h3 := fin_len (capsW w)
  have h4 := capsW_len w
  rw [gAdd_t]
  · unfold TW; simp
  · rw [tw_len, List.length_map, List.length_append, sizeLine_eq]; omega
theorem reduced_W {w : List Stp} {b c : Bool} (g : GoodW w) (h : w.length ≤ 60) : F_reduced [.pure (sq c (w.map (encB b)))] = some (.tuple ((redW w).map (encB false)), false, [.pure (sq c (w.map (encB b)))]) := by
  have h1 := caps_left_W (b := b) (c := c) g h
  have hf := floor_ok (b := b) (c := c) (w := w) (by omega)
  have hn := near_ok (b := b) (c := c) (w := w) (by omega)
  have h9 := notin1_ok (bh := (fin (capsW w)).map pc)
  have ha := fun F N => red_add (w := w) (F := F) (N := N) h
  generalize sq c (w.map (encB b)) = row at h1 hf hn ⊢
  unfold redW flo nea
  have e9 : (TW (fin (capsW w))) = ((fin (capsW w)).map pc).map (encB false) := rfl
  rw [← e9] at h9
  generalize (fin (capsW w)).map pc = V at ha h9 ⊢
  generalize TW (fin (capsW w)) = T at h1 h9 ha
  cases ef : nums "floor" w with
  | nil =>
    rw [ef] at hf
    simp only [optD] at hf
    cases en : nums "near" w with
    | nil =>
      rw [en] at hn
      simp only [optD] at hn
      have hA := ha [] [] (by simp) (by simp)
      simp only [List.map_nil, List.nil_append] at hA
      simp [F_reduced, fDef_ap, G_reduced, h1, hf, hn, hA]
    | cons m ms =>
      rw [en] at hn
      simp only [optD] at hn
      cases e1 : has1 V with
      | true =>
        have hA := ha [] [] (by simp) (by simp)
        simp only [List.map_nil, List.nil_append] at hA
        rw [e1] at h9
        simp [F_reduced, fDef_ap, G_reduced, h1, hf, hn, hA, h9]
      | false =>
        have hA := ha [] [.near (foldMM false m ms)] (by simp) (by simp)
        simp only [List.map_nil, List.nil_append, List.map_cons, encF, encN, List.cons_append] at hA
        rw [e1] at h9
        simp [F_reduced, fDef_ap, G_reduced, h1, hf, hn, hA, h9, encF, encN]
  | cons l ls =>
    rw [ef] at hf
    simp only [optD] at hf
    cases en : nums "near" w with
    | nil =>
      rw [en] at hn
      simp only [optD] at hn
      have hA := ha [.floor (foldMM true l ls)] [] (by simp) (by simp)
      simp only [List.map_nil, List.append_nil, List.map_cons, encF, encN, List.cons_append] at hA
      simp [F_reduced, fDef_ap, G_reduced, h1, hf, hn, hA, encF, encN]
    | cons m ms =>
      rw [en] at hn
      simp only [optD] at hn
      cases e1 : has1 V with
      | true =>
        have hA := ha [.floor (foldMM true l ls)] [] (by simp) (by simp)
        simp only [List.map_nil, List.append_nil, List.map_cons, encF, encN, List.cons_append] at hA
        rw [e1] at h9
        simp [F_reduced, fDef_ap, G_reduced, h1, hf, hn, hA, h9, encF, encN]
      | false =>
        have hA := ha [.floor (foldMM true l ls)] [.near (foldMM false m ms)] (by simp) (by simp)
        simp only [List.map_nil, List.nil_append, List.map_append, List.map_cons, encF, encN, List.cons_append] at hA
        rw [e1] at h9
        simp [F_reduced, fDef_ap, G_reduced, h1, hf, hn, hA, h9, encF, encN]
end Sh

namespace Sh
open PySem PySem.Spec PyProof.Rows L2 Pt
theorem rules_tw {W : List Cf.Cap} (h : W.length ≤ 1000) : F__law_rules [.pure (.tuple (TW W))] = some (.list (LR [] (W.map pc)), true, [.pure (.tuple (TW W))]) :=
  rules_law_ok (C := W.map pc) (by rw [List.length_map]; exact h) fun s hs => by
    obtain ⟨x, _, rfl⟩ := List.mem_map.mp hs
    exact pc_isC
def plc : D → D
  | .tuple [_, k] => k
  | _ => .none
theorem lr_plain {l : List D} (h : ∀ d ∈ l, ∃ p r, d = mk p r) : PyData.plainAll l = true := by
  induction l with
  | nil => rfl
  | cons d ds ih =>
    obtain ⟨p, r, rfl⟩ := h d (by simp)
    simp [PyData.plainAll, PyData.plain, mk, ih fun d hd => h d (by simp [hd])]
theorem lr_mk {W : List Cf.Cap} : ∀ d ∈ LR [] (W.map pc), ∃ p r, d = mk p r := fun d hd => by
  obtain ⟨a, s, b, r, _, e, _⟩ := lr_mem W [] d hd
  exact ⟨_, r, e⟩
theorem lr_len {W : List Cf.Cap} : (LR [] (W.map pc)).length ≤ 4 * W.length := by
  have h := pr_len (W.map pc) []
  rw [show PR [] (W.map pc) = LR [] (W.map pc) from pr_lr W [], List.length_map] at h
  exact h
theorem lw_loop {row : D} : ∀ (n : Nat) (W : List Cf.Cap) (s4 : Slot), W.length < n → W.length ≤ 1000 →
    ∃ V s4', whileL (fTst (fTwo gNe (fVar 3) (fLst faNil))) B0__law_reduced n [.pure row, .pure (.tuple (TW W)), .emp, .own (LR [] (W.map pc)), s4, .emp, .emp, .emp, .emp]
      = some (.nx [.pure row, .pure (.tuple (TW V)), .emp, .own [], s4', .emp, .emp, .emp, .emp]) ∧ Cf.Rs W V ∧ Cf.End V
  | 0, W, _, h, _ => absurd h (Nat.not_lt_zero _)
  | n + 1, W, s4, h, hz => by
    have hne := gNe_nil (lr_plain (lr_mk (W := W)))
    cases e : LR [] (W.map pc) with
    | nil =>
      rw [e] at hne
      have hne : gNe (.list []) (.list []) = some (.bool false, .st) := hne
      exact ⟨W, s4, by unfold whileL; simp [hne], .refl W, lr_end e⟩
    | cons d0 ds =>
      rw [← e]
      have hne : gNe (.list (LR [] (W.map pc))) (.list []) = some (.bool true, .st) := by rw [hne, e]; rfl
      -- the greatest place
      obtain ⟨ns, hns⟩ := ints_of (ds := (LR [] (W.map pc)).map plc) fun y hy => by
        obtain ⟨d, hd, rfl⟩ := List.mem_map.mp hy
        obtain ⟨p, r, rfl⟩ := lr_mk d hd
        exact ⟨p, rfl⟩
      have hnn : ns ≠ [] := fun z => by rw [z, e] at hns; cases hns
      have hk : ∃ K, optD true .none ns = .int K ∧ K ∈ ns := by
        cases ns with
        | nil => exact absurd rfl hnn
        | cons m ms => exact ⟨_, rfl, (fold_max (n := 0)).1⟩
      obtain ⟨K, hK, hKm⟩ := hk
      have hmm := gMM1_l (mx := true) hnn
      rw [hK] at hmm
      have hKi : PyData.int K ∈ (LR [] (W.map pc)).map plc := by rw [hns]; exact List.mem_map.mpr ⟨K, hKm, rfl⟩
      obtain ⟨d, hd, hdk⟩ := List.mem_map.mp hKi
      obtain ⟨a, s, b, r, eW, ed, hj⟩ := lr_mem W [] d hd
      have hKa : K = (a.length : Int) := by
        rw [ed, show ([] : List Cf.Cap).length + a.length = a.length from by simp] at hdk
        exact (PyData.int.inj hdk).symm
      rw [List.nil_append] at hj
      have hc := compG (own := [5]) (b := bName 5) (T := fTYes) (E := fTwo gIx (fVar 5) (fCst (.int 1))) (I := fiSeq (fVar 3)) (env := [.pure row, .pure (.tuple (TW W)), .emp, .own (LR [] (W.map pc)), s4, .emp, .emp, .emp, .emp]) (e1 := [.pure row, .pure (.tuple (TW W)), .emp, .pure (.list (LR [] (W.map pc))), s4, .emp, .emp, .emp, .emp]) (LR [] (W.map pc)) id (fun _ => true) plc (by simp) rfl rfl (by have := lr_len (W := W); rw [sizeLine_eq]; omega)
        (fun d hd => ⟨[.pure row, .pure (.tuple (TW W)), .emp, .pure (.list (LR [] (W.map pc))), s4, .pure d, .emp, .emp, .emp], rfl, rfl, rfl, fun _ => ⟨.st, trivial, by
          obtain ⟨p, r, rfl⟩ := lr_mk d hd
          simp [mk, plc]⟩⟩)
      rw [List.filter_eq_self.mpr (fun _ _ => rfl), hns] at hc
      subst eW
      have hla : (a ++ s :: b).length = (a ++ b).length + 1 := by simp; omega
      have hlb : (a ++ s :: b).length = a.length + (b.length + 1) := by simp
      obtain ⟨V, t4, h1, h2, h3⟩ := lw_loop (row := row) n (a ++ b) (.pure (.int K)) (by omega) (by omega)
      refine ⟨V, t4, ?_, .step ⟨a, s, b, rfl, rfl, hj⟩ h2, h3⟩
      have c1 := tw_cut1 (a := a) (b := b) (s := s)
      have c2 := tw_cut2 (a := a) (b := b) (s := s)
      have hadd : gAdd (.tuple (TW a)) (.tuple (TW b)) = some (.tuple (TW (a ++ b)), .st) := by rw [tw_app]; exact gAdd_t (by rw [tw_len, tw_len, sizeLine_eq]; omega)
      have ht := rules_tw (W := a ++ b) (by omega)
      rw [hKa] at hmm h1
      generalize (a.length : Int) = k at hmm h1 c1 c2
      generalize LR [] ((a ++ b).map pc) = L2 at ht h1
      generalize LR [] ((a ++ s :: b).map pc) = L1 at hne hc
      generalize TW (a ++ s :: b) = tw at *
      have hB : B0__law_reduced [.pure row, .pure (.tuple tw), .emp, .own L1, s4, .emp, .emp, .emp, .emp] = some (.nx [.pure row, .pure (.tuple (TW (a ++ b))), .emp, .own L2, .pure (.int k), .emp, .emp, .emp, .emp]) := by
        simp [B0__law_reduced, hc, hmm, gSl, c1, c2, hadd, ht]
      unfold whileL
      have hT : fTst (fTwo gNe (fVar 3) (fLst faNil)) [.pure row, .pure (.tuple tw), .emp, .own L1, s4, .emp, .emp, .emp, .emp] = some (true, [.pure row, .pure (.tuple tw), .emp, .own L1, s4, .emp, .emp, .emp, .emp]) := by simp [hne]
      rw [hT]
      dsimp only
      rw [hB]
      exact h1


theorem law_reduced_W {w : List Stp} (g : GoodW w) (h : w.length ≤ 60) : F__law_reduced [.pure (.tuple (w.map (encB false)))] = some (.tuple ((redW w).map (encB false)), false, [.pure (.tuple (w.map (encB false)))]) := by
  have hlen := capsW_len w
  obtain ⟨V, s4, h1, h2, h3⟩ := lw_loop (row := .tuple (w.map (encB false))) 64 (capsW w) .emp (by omega) (by omega)
  rw [fin_eq g h2 h3] at h1
  have hr := rules_tw (W := capsW w) (by omega)
  have h9 := notin1_ok (bh := (fin (capsW w)).map pc)
  have ha := fun F N => red_add (w := w) (F := F) (N := N) h
  have hsz : w.length ≤ sizeLine := by rw [sizeLine_eq]; omega
  have c1 : fComp [2] (fiSeq (fVar 0)) (bName 2) (fTst (fTwo gIn (fTwo gIx (fVar 2) (fCst (.int 0))) (fTup (faCons (fCst (.str "top")) (faCons (fCst (.str "each")) faNil))))) (fVar 2) [.pure (.tuple (w.map (encB false))), .emp, .emp, .emp, .emp, .emp, .emp, .emp, .emp]
      = some (.list (TW (capsW w)), .fr, [.pure (.tuple (w.map (encB false))), .emp, .emp, .emp, .emp, .emp, .emp, .emp, .emp]) := by
    rw [compV w (encB false) isC (encB false) (by simp) rfl noOwn_emp hsz (fun s _ => ⟨by simp [gIn_2, isC], fun _ => ⟨.st, trivial, by simp⟩⟩), caps_pc]
    rfl
  have cc : ∀ (t : Str) (s1 s4 s6 s7 : Slot), fComp [2] (fiSeq (fVar 0)) (bName 2) (fTst (fTwo gEq (fTwo gIx (fVar 2) (fCst (.int 0))) (fCst (.str t)))) (fTwo gIx (fVar 2) (fCst (.int 1))) [.pure (.tuple (w.map (encB false))), s1, .emp, .own [], s4, .emp, s6, s7, .emp]
      = some (.list ((nums t w).map PyData.int), .fr, [.pure (.tuple (w.map (encB false))), s1, .emp, .own [], s4, .emp, s6, s7, .emp]) := by
    intro t s1 s4 s6 s7
    rw [compV w (encB false) (isT t) (fun s => PyData.int (num s)) (by simp) rfl noOwn_emp hsz (fun s _ => ⟨by simp [isT], fun _ => ⟨.st, trivial, by simp⟩⟩)]
    unfold nums
    rw [List.map_map]
    rfl
  have cf := cc "floor"
  have cn := cc "near"
  have hne : ∀ ns : List Int, gNe (.list (ns.map PyData.int)) (.list []) = some (.bool (!ns.isEmpty), .st) := fun ns => by
    rw [gNe_nil (intL_ints ns).plain]; cases ns <;> rfl
  have nf := hne (nums "floor" w)
  have nn := hne (nums "near" w)
  have mf : nums "floor" w ≠ [] → _ := fun z => gMM1_l (mx := true) z
  have mn : nums "near" w ≠ [] → _ := fun z => gMM1_l (mx := false) z
  have ap : ∀ (x y : D), gAdd (.tuple [x]) (.tuple [y]) = some (.tuple [x, y], .st) := fun x y => gAdd_t (by rw [sizeLine_eq]; simp)
  have ap0 : ∀ (y : D), gAdd (.tuple []) (.tuple [y]) = some (.tuple [y], .st) := fun y => gAdd_t (by rw [sizeLine_eq]; simp)
  unfold redW flo nea
  have e9 : (TW (fin (capsW w))) = ((fin (capsW w)).map pc).map (encB false) := rfl
  rw [← e9] at h9
  generalize (fin (capsW w)).map pc = V at ha h9 ⊢
  generalize TW (fin (capsW w)) = T at h1 h9 ha
  generalize LR [] ((capsW w).map pc) = L at hr h1
  generalize TW (capsW w) = tw at hr h1 c1
  generalize w.map (encB false) = row at c1 cf cn h1 ⊢
  cases ef : nums "floor" w with
  | nil =>
    rw [ef] at cf nf
    simp only [List.map_nil, List.isEmpty_nil, Bool.not_true] at cf nf
    cases en : nums "near" w with
    | nil =>
      rw [en] at cn nn
      simp only [List.map_nil, List.isEmpty_nil, Bool.not_true] at cn nn
      have hA := ha [] [] (by simp) (by simp)
      simp only [List.map_nil, List.nil_append] at hA
      simp [F__law_reduced, fDef_ap, G__law_reduced, c1, hr, h1, cf, cn, nf, nn, hA]
    | cons m ms =>
      have mn' := mn (by rw [en]; simp)
      rw [en] at cn nn mn'
      simp only [List.isEmpty_cons, Bool.not_false, optD] at nn mn'
      cases e1 : has1 V with
      | true =>
        have hA := ha [] [] (by simp) (by simp)
        simp only [List.map_nil, List.nil_append] at hA
        rw [e1] at h9
        generalize (m :: ms).map PyData.int = M at cn nn mn'
        simp [F__law_reduced, fDef_ap, G__law_reduced, c1, hr, h1, cf, cn, nf, nn, hA, h9]
      | false =>
        have hA := ha [] [.near (foldMM false m ms)] (by simp) (by simp)
        simp only [List.map_nil, List.nil_append, List.map_cons, encF, encN, List.cons_append] at hA
        rw [e1] at h9
        generalize (m :: ms).map PyData.int = M at cn nn mn'
        simp [F__law_reduced, fDef_ap, G__law_reduced, c1, hr, h1, cf, cn, nf, nn, hA, h9, mn', ap0, encF, encN]
  | cons l ls =>
    have mf' := mf (by rw [ef]; simp)
    rw [ef] at cf nf mf'
    simp only [List.isEmpty_cons, Bool.not_false, optD] at nf mf'
    generalize (l :: ls).map PyData.int = LL at cf nf mf'
    cases en : nums "near" w with
    | nil =>
      rw [en] at cn nn
      simp only [List.map_nil, List.isEmpty_nil, Bool.not_true] at cn nn
      have hA := ha [.floor (foldMM true l ls)] [] (by simp) (by simp)
      simp only [List.map_nil, List.append_nil, List.nil_append, List.map_cons, encF, encN, List.cons_append] at hA
      simp [F__law_reduced, fDef_ap, G__law_reduced, c1, hr, h1, cf, cn, nf, nn, mf', hA, encF, encN]
    | cons m ms =>
      have mn' := mn (by rw [en]; simp)
      rw [en] at cn nn mn'
      simp only [List.isEmpty_cons, Bool.not_false, optD] at nn mn'
      generalize (m :: ms).map PyData.int = M at cn nn mn'
      cases e1 : has1 V with
      | true =>
        have hA := ha [.floor (foldMM true l ls)] [] (by simp) (by simp)
        simp only [List.map_nil, List.append_nil, List.nil_append, List.map_cons, encF, encN, List.cons_append] at hA
        rw [e1] at h9
        simp [F__law_reduced, fDef_ap, G__law_reduced, c1, hr, h1, cf, cn, nf, nn, mf', hA, h9, encF, encN]
      | false =>
        have hA := ha [.floor (foldMM true l ls)] [.near (foldMM false m ms)] (by simp) (by simp)
        simp only [List.map_nil, List.nil_append, List.map_append, List.map_cons, encF, encN, List.cons_append] at hA
        rw [e1] at h9
        simp [F__law_reduced, fDef_ap, G__law_reduced, c1, hr, h1, cf, cn, nf, nn, mf', mn', ap, hA, h9, encF, encN]
end Sh

/-! The drawn words. -/
namespace Sh
open PySem PySem.Spec PyProof.Rows L2 Pt
def StepIn (width : Int) : Stp → Prop
  | .floor i => -10 ≤ i ∧ i < 20
  | .near i => 0 ≤ i ∧ i < 25
  | .top i => 1 ≤ i ∧ i ≤ 5
  | .each k i => 0 ≤ k ∧ k < width ∧ 1 ≤ i ∧ i ≤ 3
def kind? : Stp → Option Int
  | .each k _ => some k
  | _ => none
def kindsW (w : List Stp) : List Int := w.filterMap kind?
/-- a drawn word -/
structure RowW (width : Int) (w : List Stp) : Prop where
  st : ∀ s ∈ w, StepIn width s
  nd : (kindsW w).Nodup
theorem RowW.good {width : Int} {w : List Stp} (h : RowW width w) : GoodW w := fun c hc => by
  obtain ⟨s, hs, e⟩ := List.mem_filterMap.mp hc
  have := h.st s hs
  cases s with
  | floor i => cases e
  | near i => cases e
  | top i => cases e; exact this.1
  | each k i => cases e; exact this.2.2.1
theorem encB_false (s : Stp) : encB false s = enc s := (congrFun enc_eq s).symm
structure RowP (n : Nat) (many width : Int) (j : Nat) (e : Ev) : Prop where
  ex : ∃ (ds : List D) (left : List Int) (w : List Stp) (s5 s6 s7 : Slot), e = [.own ds, .pure (.int many), .pure (.int width), .own (left.map PyData.int), .own (w.map (encB false)), s5, s6, s7, .emp] ∧ TinP (n + 4 * j) ds ∧ (∀ k ∈ left, 0 ≤ k ∧ k < width) ∧ left.length ≤ 1000 ∧ w.length ≤ j ∧
    RowW width w ∧ (∀ k ∈ left, k ∉ kindsW w) ∧ NoOwn s5 ∧ NoOwn s6 ∧ NoOwn s7
theorem rowW_snoc {width : Int} {w : List Stp} {s : Stp} (h : RowW width w) (hs : StepIn width s) (hk : ∀ k, kind? s = some k → k ∉ kindsW w) : RowW width (w ++ [s]) := by
  refine ⟨fun t ht => ?_, ?_⟩
  · rcases List.mem_append.mp ht with ht | ht
    · exact h.st t ht
    · rw [List.mem_singleton.mp ht]; exact hs
  · unfold kindsW
    rw [List.filterMap_append]
    cases e : kind? s with
    | none => simp [List.filterMap_cons, e]; exact h.nd
    | some k =>
      have := hk k e
      simp only [List.filterMap_cons, e, List.filterMap_nil]
      exact List.nodup_append.mpr ⟨h.nd, by simp, fun a ha b hb z => by
        rw [List.mem_singleton.mp hb] at z
        subst z
        exact this ha⟩
theorem kinds_snoc {w : List Stp} {s : Stp} {k : Int} : k ∈ kindsW (w ++ [s]) ↔ k ∈ kindsW w ∨ kind? s = some k := by
  unfold kindsW
  rw [List.filterMap_append, List.mem_append]
  refine or_congr Iff.rfl ?_
  cases e : kind? s with
  | none => simp [List.filterMap_cons, e]
  | some m => simp [List.filterMap_cons, e, eq_comm]
theorem row_step {n : Nat} {many width : Int} {j : Nat} {e : Ev} (i : Int) (h : RowP n many width j e) (hn : n + 4 * j < 900000000000) (hj : j < 1000000) :
    ∃ e2, B0__law_row (e.set 5 (.pure (.int i))) = some (.nx e2) ∧ RowP n many width (j + 1) e2 := by
  obtain ⟨ds, left, w, s5, s6, s7, rfl, ht, hl, hlx, hw, hR, hd, h5, h6, h7⟩ := h.ex
  obtain ⟨r, ds1, t1, r0, r1, ht1⟩ := take_ok (top := 5) ht (by omega) (by decide) (by decide)
  have hwl : w.length < sizeLine := by rw [sizeLine_eq]; omega
  have keep : ∀ s : Stp, kind? s = none → ∀ k ∈ left, k ∉ kindsW (w ++ [s]) := fun s e k hk z => by
    rcases kinds_snoc.mp z with z | z
    · exact hd k hk z
    · rw [e] at z; cases z
  by_cases e0 : r = 0
  · subst e0
    obtain ⟨r2, ds2, t2, a1, a2, ht2⟩ := take_ok (top := 30) ht1 (by omega) (by decide) (by decide)
    exact ⟨[.own ds2, .pure (.int many), .pure (.int width), .own (left.map PyData.int), .own ((w ++ [Stp.floor (r2 - 10)]).map (encB false)), .pure (.int i), .pure (.int 0), s7, .emp], by simp [B0__law_row, t1, t2, hwl, encF],
      ⟨ds2, left, w ++ [.floor (r2 - 10)], _, _, s7, rfl, ht2.mono (by omega), hl, hlx, by simp; omega, rowW_snoc (s := .floor (r2 - 10)) hR (show -10 ≤ r2 - 10 ∧ r2 - 10 < 20 from ⟨by omega, by omega⟩) (fun k z => by cases z), keep _ rfl, noOwn_pure _, noOwn_pure _, h7⟩⟩
  by_cases e1 : r = 1
  · subst e1
    obtain ⟨r2, ds2, t2, a1, a2, ht2⟩ := take_ok (top := 25) ht1 (by omega) (by decide) (by decide)
    exact ⟨[.own ds2, .pure (.int many), .pure (.int width), .own (left.map PyData.int), .own ((w ++ [Stp.near (r2)]).map (encB false)), .pure (.int i), .pure (.int 1), s7, .emp], by simp [B0__law_row, t1, t2, hwl, encN],
      ⟨ds2, left, w ++ [.near (r2)], _, _, s7, rfl, ht2.mono (by omega), hl, hlx, by simp; omega, rowW_snoc (s := .near r2) hR (show 0 ≤ r2 ∧ r2 < 25 from ⟨by omega, by omega⟩) (fun k z => by cases z), keep _ rfl, noOwn_pure _, noOwn_pure _, h7⟩⟩
  have e0' : (r == 0) = false := by simpa using e0
  have e1' : (r == 1) = false := by simpa using e1
  have hgn : gEq (.list (left.map PyData.int)) (.list []) = some (.bool left.isEmpty, .st) := by
    rw [gEq_nil (intL_ints left).plain]; cases left <;> rfl
  by_cases e2 : r = 2 ∨ left = []
  · obtain ⟨r2, ds2, t2, a1, a2, ht2⟩ := take_ok (top := 5) ht1 (by omega) (by decide) (by decide)
    have : B0__law_row ([.own ds, .pure (.int many), .pure (.int width), .own (left.map PyData.int), .own (w.map (encB false)), s5, s6, s7, .emp].set 5 (.pure (.int i))) = some (.nx [.own ds2, .pure (.int many), .pure (.int width), .own (left.map PyData.int), .own ((w ++ [Stp.top (1 + r2)]).map (encB false)), .pure (.int i), .pure (.int r), s7, .emp]) := by
      by_cases e3 : r = 2
      · subst e3
        simp [B0__law_row, t1, t2, hwl, encT]
      · have hle : left = [] := e2.resolve_left e3
        subst hle
        have e3' : (r == 2) = false := by simpa using e3
        simp [B0__law_row, t1, t2, hwl, encT, e0', e1', e3', e0, e1, e3, gEq_nil (xs := []) rfl]
    exact ⟨_, this, ⟨ds2, left, w ++ [.top (1 + r2)], _, _, s7, rfl, ht2.mono (by omega), hl, hlx, by simp; omega, rowW_snoc (s := .top (1 + r2)) hR (show 1 ≤ 1 + r2 ∧ 1 + r2 ≤ 5 from ⟨by omega, by omega⟩) (fun k z => by cases z), keep _ rfl, noOwn_pure _, noOwn_pure _, h7⟩⟩
  · have e3 : ¬ r = 2 := fun z => e2 (.inl z)
    have hne : left ≠ [] := fun z => e2 (.inr z)
    have hne' : left.isEmpty = false := by simpa using hne
    rw [hne'] at hgn
    have e3' : (r == 2) = false := by simpa using e3
    obtain ⟨x, ds2, t2, hx, ht2⟩ := of_ok (xs := left.map PyData.int) ht1 (by omega) (by simpa using hne) (by rw [List.length_map]; omega)
    obtain ⟨k, hk, rfl⟩ := List.mem_map.mp hx
    obtain ⟨k0, k1⟩ := hl k hk
    obtain ⟨r3, ds3, t3, a1, a2, ht3⟩ := take_ok (top := 3) ht2 (by omega) (by decide) (by decide)
    have hc : fComp [8] (fiSeq (fVar 3)) (bName 8) (fTst (fTwo gNe (fVar 8) (fVar 7))) (fVar 8) [.own ds2, .pure (.int many), .pure (.int width), .own (left.map PyData.int), .own (w.map (encB false)), .pure (.int i), .pure (.int r), .pure (.int k), .emp]
        = some (.list ((left.filter fun m => !(m == k)).map PyData.int), .fr, [.own ds2, .pure (.int many), .pure (.int width), .pure (.list (left.map PyData.int)), .own (w.map (encB false)), .pure (.int i), .pure (.int r), .pure (.int k), .emp]) :=
      compG (e1 := [.own ds2, .pure (.int many), .pure (.int width), .pure (.list (left.map PyData.int)), .own (w.map (encB false)), .pure (.int i), .pure (.int r), .pure (.int k), .emp]) left PyData.int (fun m => !(m == k)) PyData.int (by simp) rfl rfl (by rw [sizeLine_eq]; omega)
        (fun m _ => ⟨[.own ds2, .pure (.int many), .pure (.int width), .pure (.list (left.map PyData.int)), .own (w.map (encB false)), .pure (.int i), .pure (.int r), .pure (.int k), .pure (.int m)], rfl, by simp, rfl, fun _ => ⟨.st, trivial, by simp⟩⟩)
    have hc' : fComp [8] (fiSeq (fVar 3)) (bName 8) (fTst (fTwo gNe (fVar 8) (fVar 7))) (fVar 8) [.own ds2, .pure (.int many), .pure (.int width), .pure (.list (left.map PyData.int)), .own (w.map (encB false)), .pure (.int i), .pure (.int r), .pure (.int k), .emp]
        = some (.list ((left.filter fun m => !(m == k)).map PyData.int), .fr, [.own ds2, .pure (.int many), .pure (.int width), .pure (.list (left.map PyData.int)), .own (w.map (encB false)), .pure (.int i), .pure (.int r), .pure (.int k), .emp]) :=
      compG (e1 := [.own ds2, .pure (.int many), .pure (.int width), .pure (.list (left.map PyData.int)), .own (w.map (encB false)), .pure (.int i), .pure (.int r), .pure (.int k), .emp]) left PyData.int (fun m => !(m == k)) PyData.int (by simp) rfl rfl (by rw [sizeLine_eq]; omega)
        (fun m _ => ⟨[.own ds2, .pure (.int many), .pure (.int width), .pure (.list (left.map PyData.int)), .own (w.map (encB false)), .pure (.int i), .pure (.int r), .pure (.int k), .pure (.int m)], rfl, by simp, rfl, fun _ => ⟨.st, trivial, by simp⟩⟩)
    refine ⟨[.own ds3, .pure (.int many), .pure (.int width), .own ((left.filter fun m => !(m == k)).map PyData.int), .own ((w ++ [Stp.each k (1 + r3)]).map (encB false)), .pure (.int i), .pure (.int r), .pure (.int k), .emp], ?_,
      ⟨ds3, left.filter fun m => !(m == k), w ++ [.each k (1 + r3)], _, _, _, rfl, ht3.mono (by omega), fun m hm => hl m (List.mem_filter.mp hm).1, Nat.le_trans (List.length_filter_le _ _) hlx, by simp; omega, rowW_snoc (s := .each k (1 + r3)) hR (show 0 ≤ k ∧ k < width ∧ 1 ≤ 1 + r3 ∧ 1 + r3 ≤ 3 from ⟨k0, k1, by omega, by omega⟩) (fun m z => by cases z; exact hd _ hk), fun m hm z => ?_, noOwn_pure _, noOwn_pure _, noOwn_pure _⟩⟩
    · generalize (left.filter fun m => !(m == k)).map PyData.int = lf at hc hc' ⊢
      generalize left.map PyData.int = lm at hgn t2 hc hc' ⊢
      simp [B0__law_row, t1, t2, t3, hwl, encE, e0', e1', e3', e0, e1, e3, hgn, hc, hc']
    · obtain ⟨h1, h2⟩ := List.mem_filter.mp hm
      rcases kinds_snoc.mp z with z | z
      · exact hd m h1 z
      · cases z; simp at h2
theorem row_ok {n : Nat} {ds : List D} {many width : Int} (h : TinP n ds) (hn : n < 500000000000) (hm0 : 0 ≤ many) (hm : many < 1000) (hw0 : 0 ≤ width) (hw : width < 1000) :
    ∃ (ds' : List D) (w : List Stp), F__law_row [.own ds, .pure (.int many), .pure (.int width)] = some (.tuple (w.map (encB false)), false, [.own ds', .pure (.int many), .pure (.int width)]) ∧ TinP (n + 5000) ds' ∧ w.length ≤ many.toNat ∧ RowW width w := by
  obtain ⟨r, ds1, t1, r0, r1, ht1⟩ := take_ok (top := many + 1) h (by omega) (by omega) (by omega)
  have base : RowP (n + 1) many width 0 [.own ds1, .pure (.int many), .pure (.int width), .own (((List.range width.toNat).map fun (m : Nat) => (0 + m : Int)).map PyData.int), .own [], .emp, .emp, .emp, .emp] :=
    ⟨ds1, (List.range width.toNat).map fun (m : Nat) => (0 + m : Int), [], _, _, _, rfl, ht1, fun k hk => by
      obtain ⟨m, hm, rfl⟩ := List.mem_map.mp hk
      have := List.mem_range.mp hm
      omega, by simp; omega, by simp, ⟨(fun s hs => by cases hs), List.nodup_nil⟩, (fun k _ z => by cases z), noOwn_emp, noOwn_emp, noOwn_emp⟩
  obtain ⟨e', hl, hp⟩ := forL_inv (b := bName 5) (body := B0__law_row) (P := RowP (n + 1) many width) (J := r.toNat) ((List.range r.toNat).map fun (i : Nat) => PyData.int (0 + i)) 0 _ (fun d hd j e hj he => by
    obtain ⟨i, _, rfl⟩ := List.mem_map.mp hd
    obtain ⟨e2, g1, g2⟩ := row_step (0 + i) he (by omega) (by omega)
    exact ⟨_, e2, rfl, g1, g2⟩) (by simp) base
  obtain ⟨ds', left, w, s5, s6, s7, rfl, ht', _, _, hw', hR, _, _⟩ := hp.ex
  rw [List.length_map, List.length_range] at ht' hw'
  refine ⟨ds', w, ?_, ht'.mono (by omega), by omega, hR⟩
  have hr : fiRng1 (faCons (fCall F__law_take (frBox (fVar 0) (frVal (fTwo gAdd (fVar 1) (fCst (.int 1))) frNil))) faNil) [.own ds, .pure (.int many), .pure (.int width), .own (((List.range width.toNat).map fun (m : Nat) => (0 + m : Int)).map PyData.int), .own [], .emp, .emp, .emp, .emp]
      = some ((List.range r.toNat).map fun (i : Nat) => PyData.int (0 + i), [.own ds1, .pure (.int many), .pure (.int width), .own (((List.range width.toNat).map fun (m : Nat) => (0 + m : Int)).map PyData.int), .own [], .emp, .emp, .emp, .emp]) :=
    fiRng1_ok (j := r) (by
      generalize ((List.range width.toNat).map fun (m : Nat) => (0 + m : Int)).map PyData.int = L
      simp [t1]) (by omega) (by omega)
  have hp2 : gPar [3, 4] (fkCons (fTwo gRgL (fCst (.int 0)) (fVar 2)) (fkCons (fLst faNil) fkNil)) [.own ds, .pure (.int many), .pure (.int width), .emp, .emp, .emp, .emp, .emp, .emp] = some (.nx [.own ds, .pure (.int many), .pure (.int width), .own (((List.range width.toNat).map fun (m : Nat) => (0 + m : Int)).map PyData.int), .own [], .emp, .emp, .emp, .emp]) := by
    have hg : gRgL (.int 0) (.int width) = some (.list (((List.range width.toNat).map fun (m : Nat) => (0 + m : Int)).map PyData.int), .fr) := by
      rw [List.map_map]
      rw [gRgL_ok (by omega) (by omega) (by omega) (by omega)]
      unfold rgD
      rw [Int.sub_zero]
      rfl
    generalize ((List.range width.toNat).map fun (m : Nat) => (0 + m : Int)).map PyData.int = L at hg ⊢
    simp [hg]
  generalize ((List.range width.toNat).map fun (m : Nat) => (0 + m : Int)).map PyData.int = L at hr hp2 hl
  generalize (List.range r.toNat).map (fun (i : Nat) => PyData.int (0 + i)) = RL at hr hl
  simp [F__law_row, fDef_ap, G__law_row, -fiRng1_ap2, -gPar_ap, hp2, hr, hl]
end Sh

/-! Loops that search; barred_at, may_be_parted. -/
namespace Sh
open PySem PySem.Spec PyProof.Rows L2 Pt
/-- what a search ends with -/
def srchO {σ : Type} (base : σ → Ev) (s : σ) : Option D → Out
  | some r => .rt r false (base s)
  | none => .nx (base s)
theorem forL_srch {α σ : Type} {b : FB} {body : FG} {base : σ → Ev} (e : α → D) (c : α → Option D) : ∀ (l : List α), (∀ a ∈ l, ∀ s, ∃ e1 s', b (e a) (base s) = some e1 ∧ body e1 = some (srchO base s' (c a))) →
    ∀ s, ∃ s', forL b body (l.map e) (base s) = some (srchO base s' (l.findSome? c))
  | [], _, s => ⟨s, rfl⟩
  | a :: l, h, s => by
    obtain ⟨e1, s1, h1, h2⟩ := h a (by simp) s
    rw [List.map_cons]
    unfold forL
    rw [h1]
    dsimp only
    rw [h2, List.findSome?_cons]
    cases hc : c a with
    | some r => exact ⟨s1, rfl⟩
    | none =>
      obtain ⟨s', h3⟩ := forL_srch (b := b) (body := body) (base := base) e c l (fun a ha => h a (by simp [ha])) s1
      exact ⟨s', h3⟩
/-- a row's places -/
theorem idx_eq {α : Type} : ∀ (l : List α) (i : Nat), (List.range l.length).map (fun (m : Nat) => PyData.int ((i : Int) + m)) = (l.zipIdx i).map fun p => PyData.int (p.2 : Int)
  | [], _ => rfl
  | x :: l, i => by
    rw [List.length_cons, List.range_succ_eq_map, List.map_cons, List.map_map, List.zipIdx_cons, List.map_cons, ← idx_eq l (i + 1)]
    refine congr (congrArg _ (by simp)) ?_
    · refine List.map_congr_left fun m _ => ?_
      exact congrArg PyData.int (show (i : Int) + ((m + 1 : Nat) : Int) = ((i + 1 : Nat) : Int) + m by omega)
theorem rng_idx {α : Type} {l : List α} {i : Nat} {lo hi : Int} {e : Ev} (h1 : lo = (i : Int)) (h2 : hi = (i : Int) + l.length) (hi1 : i + l.length < 1000000) : rngI lo hi e = some ((l.zipIdx i).map fun p => PyData.int (p.2 : Int), e) := by
  subst h1 h2
  rw [rngI_ok (by omega) (by omega) (by omega) (by omega), ← idx_eq, show ((i : Int) + (l.length : Int) - (i : Int)).toNat = l.length from by omega]
theorem enum_idx {α : Type} (e : α → D) : ∀ (l : List α) (i : Nat), enumD i (l.map e) = (l.zipIdx i).map fun p => PyData.tuple [.int (p.2 : Int), e p.1]
  | [], _ => rfl
  | x :: l, i => by rw [List.map_cons, enumD, List.zipIdx_cons, List.map_cons, enum_idx e l (i + 1)]
theorem mem_idx {α : Type} {l : List α} {i : Nat} {p : α × Nat} (h : p ∈ l.zipIdx i) : i ≤ p.2 ∧ l[p.2 - i]? = some p.1 := List.mem_zipIdx_iff_le_and_getElem?_sub.mp h
theorem ix_get {c : Bool} {α : Type} {e : α → D} {l : List α} {i : Nat} {a : α} (h : l[i]? = some a) : gIx (sq c (l.map e)) (.int (i : Int)) = some (e a, .st) := by
  have hl := (List.getElem?_eq_some_iff.mp h).1
  have h : atI (l.map e) (i : Int) = some (e a) := by
    rw [Pt.atI_nat (by simpa using hl), List.getElem?_map, h]; rfl
  cases c
  · show gIx (.tuple (l.map e)) _ = _
    simp only [gIx, h]
  · show gIx (.list (l.map e)) _ = _
    simp only [gIx, h]
theorem ix_getT {α : Type} {e : α → D} {l : List α} {i : Nat} {a : α} (h : l[i]? = some a) : gIx (.tuple (l.map e)) (.int (i : Int)) = some (e a, .st) := ix_get (c := false) h
theorem ix_getL {α : Type} {e : α → D} {l : List α} {i : Nat} {a : α} (h : l[i]? = some a) : gIx (.list (l.map e)) (.int (i : Int)) = some (e a, .st) := ix_get (c := true) h
def isE (s : Stp) : Bool := (kind? s).isSome
theorem isE_tg (s : Stp) : (tg s == Str.ofString "each") = isE s := by
  cases s with
  | floor i => show (Str.ofString "floor" == Str.ofString "each") = false; decide +kernel
  | near i => show (Str.ofString "near" == Str.ofString "each") = false; decide +kernel
  | top i => show (Str.ofString "top" == Str.ofString "each") = false; decide +kernel
  | each k i => show (Str.ofString "each" == Str.ofString "each") = true; decide +kernel
theorem isE_isC {s : Stp} (h : isE s = true) : isC s = true := by rw [isC_cap]; cases s <;> simp [isE, kind?] at h <;> rfl
/-- the first each behind a cap -/
def barT (s : Stp) (i : Nat) (p : Stp × Nat) : Option D := if isC s && isE p.1 then some (.tuple [.int (i : Int), .int (p.2 : Int)]) else none
def barS (R : List Stp) (p : Stp × Nat) : Option D := ((R.drop (p.2 + 1)).zipIdx (p.2 + 1)).findSome? (barT p.1 p.2)
def barD (R : List Stp) : Option D := R.zipIdx.findSome? (barS R)
theorem bar_b0 {word : D} {R : List D} {s t : Stp} {i j : Int} (hi : gIx (.tuple R) (.int i) = some (encB false s, .st)) (hj : gIx (.tuple R) (.int j) = some (encB false t, .st)) :
    B0_barred_at [.pure word, .pure (.tuple R), .pure (.int i), .pure (.int j)] = some (srchO (fun s3 => [.pure word, .pure (.tuple R), .pure (.int i), s3]) (.pure (.int j)) (if isC s && isE t then some (.tuple [.int i, .int j]) else none)) := by
  have ht := isE_tg t
  cases hc : isC s <;> cases he : isE t <;> rw [he] at ht <;> simp [B0_barred_at, hi, hj, is_cap_ok, hc, ht, srchO]
theorem bar_b1 {word : D} {R : List Stp} {s : Stp} {i : Nat} {s3 : Slot} (hl : R.length < 1000) (hi : R[i]? = some s) :
    ∃ s3', B1_barred_at [.pure word, .pure (.tuple (R.map (encB false))), .pure (.int (i : Int)), s3] = some (srchO (fun (p : Slot × Slot) => [.pure word, .pure (.tuple (R.map (encB false))), p.1, p.2]) (.pure (.int (i : Int)), s3') (barS R (s, i))) := by
  have hil := (List.getElem?_eq_some_iff.mp hi).1
  have hix := ix_getT (e := encB false) hi
  obtain ⟨s3', h1⟩ := forL_srch (b := bName 3) (body := B0_barred_at) (base := fun s3 => [.pure word, .pure (.tuple (R.map (encB false))), .pure (.int (i : Int)), s3]) (fun p : Stp × Nat => PyData.int (p.2 : Int)) (barT s i) ((R.drop (i + 1)).zipIdx (i + 1)) (fun p hp s3 => by
    obtain ⟨h1, h2⟩ := mem_idx hp
    rw [List.getElem?_drop, show i + 1 + (p.2 - (i + 1)) = p.2 from by omega] at h2
    exact ⟨_, _, rfl, bar_b0 hix (ix_getT h2)⟩) s3
  refine ⟨s3', ?_⟩
  have hr := rng_idx (l := R.drop (i + 1)) (i := i + 1) (lo := (i : Int) + 1) (hi := ((R.map (encB false)).length : Nat)) (e := [.pure word, .pure (.tuple (R.map (encB false))), .pure (.int (i : Int)), s3]) (by omega) (by rw [List.length_map, List.length_drop]; omega) (by rw [List.length_drop]; omega)
  have aux : ∀ (row : D) (ii : Int) (W IX : List D) (res : Option D) (wl : Int), gLen (.tuple W) = some (.int wl, .st) → rngI (ii + 1) wl [.pure row, .pure (.tuple W), .pure (.int ii), s3] = some (IX, [.pure row, .pure (.tuple W), .pure (.int ii), s3]) →
      forL (bName 3) B0_barred_at IX [.pure row, .pure (.tuple W), .pure (.int ii), s3] = some (srchO (fun s3 => [.pure row, .pure (.tuple W), .pure (.int ii), s3]) s3' res) →
      B1_barred_at [.pure row, .pure (.tuple W), .pure (.int ii), s3] = some (srchO (fun (p : Slot × Slot) => [.pure row, .pure (.tuple W), p.1, p.2]) (.pure (.int ii), s3') res) := by
    intro row ii W IX res wl hw hr h1
    simp [-gLen_t, B1_barred_at, hw, hr, h1]
    cases res <;> rfl
  exact aux _ _ _ _ _ _ (gLen_t ..) hr h1
def optN : Option D → D
  | some d => d
  | none => .none
theorem bar_gen {row : D} {W IX : List D} {I : FI} {B : FG} {s2 s3 : Slot} {res : Option D} (hR : F_reduced [.pure row] = some (.tuple W, false, [.pure row])) (hr : I [.pure row, .pure (.tuple W), .emp, .emp] = some (IX, [.pure row, .pure (.tuple W), .emp, .emp]))
    (h1 : forL (bName 2) B IX [.pure row, .pure (.tuple W), .emp, .emp] = some (srchO (fun (p : Slot × Slot) => [.pure row, .pure (.tuple W), p.1, p.2]) (s2, s3) res)) :
    (fDef 4 1 [] (gSeq (gSet 1 (fCall Sh.F_reduced (frVal (fVar 0) frNil))) (gSeq (gFor I (bName 2) B) (gSeq (gRet 1 (fCst .none)) gSkip)))) [.pure row] = some (optN res, false, [.pure row]) := by
  cases res <;> simp only [srchO] at h1 <;> simp [fDef_ap, hR, hr, h1, optN]
theorem barred_ok {w : List Stp} {b c : Bool} (g : GoodW w) (h : w.length ≤ 60) : F_barred_at [.pure (sq c (w.map (encB b)))] = some (optN (barD (redW w)), false, [.pure (sq c (w.map (encB b)))]) := by
  have hR := reduced_W (b := b) (c := c) g h
  have hl := redW_len w
  generalize sq c (w.map (encB b)) = row at hR ⊢
  generalize redW w = R at hR hl ⊢
  obtain ⟨⟨s2, s3⟩, h1⟩ := forL_srch (b := bName 2) (body := B1_barred_at) (base := fun (p : Slot × Slot) => [.pure row, .pure (.tuple (R.map (encB false))), p.1, p.2]) (fun p : Stp × Nat => PyData.int (p.2 : Int)) (barS R) R.zipIdx (fun p hp s => by
    obtain ⟨h1, h2⟩ := mem_idx hp
    rw [Nat.sub_zero] at h2
    obtain ⟨s3', h3⟩ := bar_b1 (word := row) (s3 := s.2) (by omega) h2
    exact ⟨[.pure row, .pure (.tuple (R.map (encB false))), .pure (.int (p.2 : Int)), s.2], _, rfl, h3⟩) (.emp, .emp)
  have h1' : forL (bName 2) B1_barred_at (R.zipIdx.map fun p => PyData.int (p.2 : Int)) [.pure row, .pure (.tuple (R.map (encB false))), .emp, .emp] = some (srchO (fun (p : Slot × Slot) => [.pure row, .pure (.tuple (R.map (encB false))), p.1, p.2]) (s2, s3) (barD R)) := h1
  have hr := rng_idx (l := R) (i := 0) (lo := 0) (hi := ((R.map (encB false)).length : Nat)) (e := [.pure row, .pure (.tuple (R.map (encB false))), .emp, .emp]) (by omega) (by rw [List.length_map]; omega) (by omega)
  have hr' : fiRng1 (faCons (fOne gLen (fVar 1)) faNil) [.pure row, .pure (.tuple (R.map (encB false))), .emp, .emp] = some ((R.zipIdx).map fun p => PyData.int (p.2 : Int), [.pure row, .pure (.tuple (R.map (encB false))), .emp, .emp]) := by
    rw [← hr, fiRng1_ap2]
    rfl
  exact bar_gen hR hr' h1'
theorem barD_tuple {R : List Stp} {d : D} (h : barD R = some d) : ∃ a b : Nat, d = .tuple [.int (a : Int), .int (b : Int)] := by
  obtain ⟨p, _, hp⟩ := List.exists_of_findSome?_eq_some h
  obtain ⟨q, _, hq⟩ := List.exists_of_findSome?_eq_some hp
  unfold barT at hq
  split at hq
  · cases hq; exact ⟨_, _, rfl⟩
  · cases hq
theorem may_ok {w : List Stp} {b c : Bool} (g : GoodW w) (h : w.length ≤ 60) : F_may_be_parted [.pure (sq c (w.map (encB b)))] = some (.bool (barD (redW w)).isNone, false, [.pure (sq c (w.map (encB b)))]) := by
  have hb := barred_ok (b := b) (c := c) g h
  cases e : barD (redW w) with
  | none =>
    rw [e] at hb
    simp [F_may_be_parted, fDef_ap, G_may_be_parted, hb, optN]
  | some d =>
    rw [e] at hb
    obtain ⟨x, y, rfl⟩ := barD_tuple e
    generalize (x : Int) = x' at hb
    generalize (y : Int) = y' at hb
    simp [F_may_be_parted, fDef_ap, G_may_be_parted, hb, optN, gIsN, isNone]
end Sh

/-! What may be parted: the shape of the caps. -/
namespace Sh
open PySem PySem.Spec PyProof.Rows L2 Pt
def tags (R : List Stp) : List Str := (R.filter isC).map tg
def looseR (R : List Stp) : Bool := tags R == [] || tags R == [("top" : Str)] || tags R == [("each" : Str)] || tags R == [("each" : Str), ("top" : Str)]
theorem flo_caps (w : List Stp) : (flo w).filter isC = [] := by
  unfold flo
  split
  · rfl
  · simp [isC_cap, cap?]
theorem nea_caps (w : List Stp) : (nea w).filter isC = [] := by
  unfold nea
  split
  · rfl
  · simp [isC_cap, cap?]
theorem redW_caps (w : List Stp) : (redW w).filter isC = (fin (capsW w)).map pc := by
  unfold redW
  rw [List.filter_append, List.filter_append, flo_caps, pc_all]
  split
  · rfl
  · rw [nea_caps]; rfl
theorem barD_none (R : List Stp) : barD R = none ↔ R.Pairwise fun s t => ¬ (isC s = true ∧ isE t = true) := by
  unfold barD
  rw [List.findSome?_eq_none_iff, List.pairwise_iff_getElem]
  constructor
  · intro h i j hi hj hij hc
    have h1 := h (R[i], i) (by rw [List.mem_zipIdx_iff_getElem?]; exact List.getElem?_eq_getElem hi)
    unfold barS at h1
    rw [List.findSome?_eq_none_iff] at h1
    have h2 := h1 (R[j], j) (by
      rw [List.mem_zipIdx_iff_le_and_getElem?_sub]
      refine ⟨hij, ?_⟩
      rw [List.getElem?_drop, show i + 1 + (j - (i + 1)) = j from by omega]
      exact List.getElem?_eq_getElem hj)
    unfold barT at h2
    simp only at h2
    rw [hc.1, hc.2] at h2
    cases h2
  · intro h p hp
    obtain ⟨_, h1⟩ := mem_idx hp
    rw [Nat.sub_zero] at h1
    unfold barS
    rw [List.findSome?_eq_none_iff]
    intro q hq
    obtain ⟨h2, h3⟩ := mem_idx hq
    rw [List.getElem?_drop, show p.2 + 1 + (q.2 - (p.2 + 1)) = q.2 from by omega] at h3
    obtain ⟨a1, a2⟩ := List.getElem?_eq_some_iff.mp h1
    obtain ⟨b1, b2⟩ := List.getElem?_eq_some_iff.mp h3
    have := h p.2 q.2 a1 b1 (by omega)
    rw [a2, b2] at this
    unfold barT
    cases e1 : isC p.1 with
    | false => rfl
    | true =>
      cases e2 : isE q.1 with
      | false => rfl
      | true => exact absurd ⟨e1, e2⟩ this
theorem bar_filter (R : List Stp) : (R.Pairwise fun s t => ¬ (isC s = true ∧ isE t = true)) ↔ (R.filter isC).Pairwise fun s t => ¬ (isC s = true ∧ isE t = true) := by
  rw [List.pairwise_filter]
  refine ⟨fun h => h.imp fun {a b} h _ _ => h, fun h => h.imp fun {a b} h hc => h hc.1 (isE_isC hc.2) hc⟩
theorem isE_pc {x : Cf.Cap} : isE (pc x) = (match x with | .top _ => false | .each _ _ => true) := by cases x <;> rfl
/-- of two tops side by side one goes -/
theorem end_tops {p q : List Cf.Cap} {m n : Int} (h : Cf.End (p ++ .top m :: .top n :: q)) : False := by
  by_cases hl : n < m
  · exact h _ ⟨p, .top m, .top n :: q, rfl, rfl, .inr (.inl ⟨n, q, rfl, .inl ⟨m, rfl, hl⟩⟩)⟩
  · exact h _ ⟨p ++ [.top m], .top n, q, by simp, rfl, .inl ⟨m, by simp, by show m ≤ n; omega⟩⟩
def capTag : Cf.Cap → Str
  | .top _ => "top"
  | .each _ _ => "each"
theorem tg_pc {x : Cf.Cap} : tg (pc x) = capTag x := by cases x <;> rfl
theorem tag_ne : (("top" : Str) == ("each" : Str)) = false := by decide +kernel
theorem tag_ne2 : (("each" : Str) == ("top" : Str)) = false := by decide +kernel
theorem tag_tt : (("top" : Str) == ("top" : Str)) = true := by decide +kernel
theorem tag_ee : (("each" : Str) == ("each" : Str)) = true := by decide +kernel
theorem loose_iff {V : List Cf.Cap} (h : Cf.End V) : (V.Pairwise fun _ y => isE (pc y) = false) ↔ (V.map capTag == [] || V.map capTag == [("top" : Str)] || V.map capTag == [("each" : Str)] || V.map capTag == [("each" : Str), ("top" : Str)]) = true := by
  match V, h with
  | [], _ => simp
  | [x], _ => cases x <;> simp [capTag]
  | [.top m, .top n], h => exact (end_tops (p := []) (q := []) h).elim
  | [.each k m, .top n], _ => simp [capTag, isE_pc]
  | [x, .each l n], _ =>
    have ne : ¬ Str.ofString "each" = Str.ofString "top" := fun z => by have := tag_ne2; rw [show ("each" : Str) = Str.ofString "each" from rfl, z] at this; exact absurd this (by decide +kernel)
    cases x <;> simp [capTag, isE_pc, ne]
  | x :: y :: z :: q, h =>
    constructor
    · intro hp
      obtain ⟨h1, h2⟩ := List.pairwise_cons.mp hp
      have hy := h1 y (by simp)
      have hz := h1 z (by simp)
      cases y with
      | each k n => rw [isE_pc] at hy; cases hy
      | top n =>
        cases z with
        | each k m => rw [isE_pc] at hz; cases hz
        | top m => exact (end_tops (p := [x]) (q := q) h).elim
    · intro hb
      simp at hb
theorem may_loose {w : List Stp} : (barD (redW w)).isNone = looseR (redW w) := by
  have h1 : barD (redW w) = none ↔ ((fin (capsW w)).Pairwise fun _ y => isE (pc y) = false) := by
    rw [barD_none, bar_filter, redW_caps, List.pairwise_map]
    refine ⟨fun h => h.imp fun {a b} h => ?_, fun h => h.imp fun {a b} h hc => ?_⟩
    · have := fun z => h ⟨pc_isC, z⟩
      simpa using this
    · rw [hc.2] at h; cases h
  have h2 := loose_iff (fin_end (capsW w))
  have h3 : tags (redW w) = (fin (capsW w)).map capTag := by
    unfold tags
    rw [redW_caps, List.map_map]
    exact List.map_congr_left fun x _ => tg_pc
  unfold looseR
  rw [h3, Bool.eq_iff_iff, ← h2, ← h1, Option.isNone_iff_eq_none]
end Sh

/-! Reduced words from outside: of joined, raised, turned words, of words without a cap. -/
namespace Sh
open PySem PySem.Spec PyProof.Rows L2 Pt
/-! ### the numbers of one tag -/
def ftop (mx : Bool) : List Int → Option Int
  | [] => none
  | n :: ns => some (foldMM mx n ns)
theorem ftop_max {l : List Int} {m : Int} (h : ftop true l = some m) : m ∈ l ∧ ∀ x ∈ l, x ≤ m := by
  cases l with
  | nil => cases h
  | cons n ns => cases h; exact fold_max (n := 0)
theorem ftop_min {l : List Int} {m : Int} (h : ftop false l = some m) : m ∈ l ∧ ∀ x ∈ l, m ≤ x := by
  cases l with
  | nil => cases h
  | cons n ns => cases h; exact fold_min (n := 0)
theorem ftop_none {mx : Bool} {l : List Int} : ftop mx l = none ↔ l = [] := by cases l <;> simp [ftop]
theorem ftop_eq_max {l l' : List Int} (h1 : ∀ x ∈ l, ∃ y ∈ l', x ≤ y) (h2 : ∀ x ∈ l', ∃ y ∈ l, x ≤ y) : ftop true l = ftop true l' := by
  cases e1 : ftop true l with
  | none =>
    rw [ftop_none] at e1
    subst e1
    cases l' with
    | nil => rfl
    | cons y ys => obtain ⟨_, h, _⟩ := h2 y (by simp); cases h
  | some m =>
    obtain ⟨a1, a2⟩ := ftop_max e1
    cases e2 : ftop true l' with
    | none =>
      rw [ftop_none] at e2
      subst e2
      obtain ⟨_, h, _⟩ := h1 m a1; cases h
    | some n =>
      obtain ⟨b1, b2⟩ := ftop_max e2
      obtain ⟨y, hy, h3⟩ := h1 m a1
      obtain ⟨z, hz, h4⟩ := h2 n b1
      have := b2 y hy
      have := a2 z hz
      congr 1
      omega
theorem ftop_eq_min {l l' : List Int} (h1 : ∀ x ∈ l, ∃ y ∈ l', y ≤ x) (h2 : ∀ x ∈ l', ∃ y ∈ l, y ≤ x) : ftop false l = ftop false l' := by
  cases e1 : ftop false l with
  | none =>
    rw [ftop_none] at e1
    subst e1
    cases l' with
    | nil => rfl
    | cons y ys => obtain ⟨_, h, _⟩ := h2 y (by simp); cases h
  | some m =>
    obtain ⟨a1, a2⟩ := ftop_min e1
    cases e2 : ftop false l' with
    | none =>
      rw [ftop_none] at e2
      subst e2
      obtain ⟨_, h, _⟩ := h1 m a1; cases h
    | some n =>
      obtain ⟨b1, b2⟩ := ftop_min e2
      obtain ⟨y, hy, h3⟩ := h1 m a1
      obtain ⟨z, hz, h4⟩ := h2 n b1
      have := b2 y hy
      have := a2 z hz
      congr 1
      omega
theorem flo_ftop (w : List Stp) : flo w = (ftop true (nums "floor" w)).toList.map .floor := by
  unfold flo
  cases nums "floor" w <;> rfl
theorem nea_ftop (w : List Stp) : nea w = (ftop false (nums "near" w)).toList.map .near := by
  unfold nea
  cases nums "near" w <;> rfl
theorem optD_ftop {mx : Bool} {z : D} {l : List Int} : optD mx z l = (match ftop mx l with | none => z | some m => .int m) := by cases l <;> rfl
theorem nums_app (t : Str) (a b : List Stp) : nums t (a ++ b) = nums t a ++ nums t b := by unfold nums; rw [List.filter_append, List.map_append]
theorem fl_tags : ("floor" : Str) == ("floor" : Str) := by decide +kernel
theorem isT_ff {i : Int} : isT "floor" (.floor i) = true := by show (Str.ofString "floor" == Str.ofString "floor") = true; decide +kernel
theorem isT_fn {i : Int} : isT "floor" (.near i) = false := by show (Str.ofString "near" == Str.ofString "floor") = false; decide +kernel
theorem isT_ft {i : Int} : isT "floor" (.top i) = false := by show (Str.ofString "top" == Str.ofString "floor") = false; decide +kernel
theorem isT_fe {k i : Int} : isT "floor" (.each k i) = false := by show (Str.ofString "each" == Str.ofString "floor") = false; decide +kernel
theorem isT_nf {i : Int} : isT "near" (.floor i) = false := by show (Str.ofString "floor" == Str.ofString "near") = false; decide +kernel
theorem isT_nn {i : Int} : isT "near" (.near i) = true := by show (Str.ofString "near" == Str.ofString "near") = true; decide +kernel
theorem isT_nt {i : Int} : isT "near" (.top i) = false := by show (Str.ofString "top" == Str.ofString "near") = false; decide +kernel
theorem isT_ne {k i : Int} : isT "near" (.each k i) = false := by show (Str.ofString "each" == Str.ofString "near") = false; decide +kernel
theorem mem_floor {w : List Stp} {i : Int} : i ∈ nums "floor" w ↔ Stp.floor i ∈ w := by
  unfold nums
  simp only [List.mem_map, List.mem_filter]
  constructor
  · rintro ⟨s, ⟨h1, h2⟩, e⟩
    cases s with
    | floor j => cases e; exact h1
    | near j => rw [isT_fn] at h2; cases h2
    | top j => rw [isT_ft] at h2; cases h2
    | each k j => rw [isT_fe] at h2; cases h2
  · exact fun h => ⟨_, ⟨h, isT_ff⟩, rfl⟩
theorem mem_near {w : List Stp} {i : Int} : i ∈ nums "near" w ↔ Stp.near i ∈ w := by
  unfold nums
  simp only [List.mem_map, List.mem_filter]
  constructor
  · rintro ⟨s, ⟨h1, h2⟩, e⟩
    cases s with
    | floor j => rw [isT_nf] at h2; cases h2
    | near j => cases e; exact h1
    | top j => rw [isT_nt] at h2; cases h2
    | each k j => rw [isT_ne] at h2; cases h2
  · exact fun h => ⟨_, ⟨h, isT_nn⟩, rfl⟩
/-! ### the caps -/
theorem capsW_app (a b : List Stp) : capsW (a ++ b) = capsW a ++ capsW b := List.filterMap_append
theorem capsW_pcs (V : List Cf.Cap) : capsW (V.map pc) = V := by
  unfold capsW
  rw [List.filterMap_map]
  have : (cap? ∘ pc) = some := by funext x; cases x <;> rfl
  rw [this, List.filterMap_some]
theorem capsW_flo (w : List Stp) : capsW (flo w) = [] := by rw [flo_ftop]; cases ftop true (nums "floor" w) <;> rfl
theorem capsW_nea (w : List Stp) : capsW (nea w) = [] := by rw [nea_ftop]; cases ftop false (nums "near" w) <;> rfl
theorem capsW_red (w : List Stp) : capsW (redW w) = fin (capsW w) := by
  unfold redW
  rw [capsW_app, capsW_app, capsW_flo, capsW_pcs]
  split
  · rfl
  · rw [capsW_nea]; rfl
theorem mem_capsW {w : List Stp} {c : Cf.Cap} : c ∈ capsW w ↔ pc c ∈ w := by
  unfold capsW
  rw [List.mem_filterMap]
  constructor
  · rintro ⟨s, h1, h2⟩
    cases s <;> cases h2 <;> exact h1
  · intro h
    exact ⟨_, h, by cases c <;> rfl⟩
/-- ("top", 1) is in it -/
def tp1 (w : List Stp) : Prop := Cf.Cap.top 1 ∈ capsW w
theorem has1_fin {w : List Stp} (g : GoodW w) : has1 ((fin (capsW w)).map pc) = true ↔ tp1 w := by
  rw [has1_iff]
  exact (Cf.Rs.top1 (fin_rs _) g).symm
theorem good_app {a b : List Stp} (ha : GoodW a) (hb : GoodW b) : GoodW (a ++ b) := fun c hc => by
  rw [capsW_app] at hc
  exact (List.mem_append.mp hc).elim (ha c) (hb c)
theorem good_red {w : List Stp} (g : GoodW w) : GoodW (redW w) := fun c hc => by
  rw [capsW_red] at hc
  exact g c (Cf.Rs.sub (fin_rs _) c hc)
theorem fin_fin (C : List Cf.Cap) : fin (fin C) = fin C := (fin_end C).rs (fin_rs (fin C))
theorem fin_of_rs {C C' : List Cf.Cap} (g : Cf.Good C) (h : Cf.Rs C C') : fin C' = fin C := fin_eq g (h.trans (fin_rs C')) (fin_end C')
theorem redW_eq {w : List Stp} (g : GoodW w) [Decidable (tp1 w)] : redW w = flo w ++ ((if tp1 w then [] else nea w) ++ (fin (capsW w)).map pc) := by
  unfold redW
  congr 2
  by_cases h : tp1 w
  · rw [if_pos ((has1_fin g).mpr h), if_pos h]
  · rw [if_neg (fun z => h ((has1_fin g).mp z)), if_neg h]
theorem redW_congr {w v : List Stp} (gw : GoodW w) (gv : GoodW v) (hc : fin (capsW w) = fin (capsW v)) (hf : ftop true (nums "floor" w) = ftop true (nums "floor" v)) (hn : ¬ tp1 w → ftop false (nums "near" w) = ftop false (nums "near" v)) : redW w = redW v := by
  unfold redW
  rw [hc, flo_ftop, flo_ftop, hf]
  split
  · rfl
  · rename_i h
    rw [nea_ftop, nea_ftop, hn fun z => h (by rw [← hc]; exact (has1_fin gw).mpr z)]
theorem floor_red {w : List Stp} {i : Int} : Stp.floor i ∈ redW w ↔ ftop true (nums "floor" w) = some i := by
  unfold redW
  rw [flo_ftop, nea_ftop]
  have h0 : ∀ x : Cf.Cap, pc x ≠ .floor i := fun x => by cases x <;> simp [pc]
  by_cases h : has1 ((fin (capsW w)).map pc) = true
  · rw [if_pos h]
    cases ftop true (nums "floor" w) <;> simp [h0, eq_comm]
  · rw [if_neg h]
    cases ftop true (nums "floor" w) <;> cases ftop false (nums "near" w) <;> simp [h0, eq_comm]
theorem near_red {w : List Stp} {i : Int} (g : GoodW w) : Stp.near i ∈ redW w ↔ ¬ tp1 w ∧ ftop false (nums "near" w) = some i := by
  classical
  rw [redW_eq g, flo_ftop, nea_ftop]
  have h0 : ∀ x : Cf.Cap, pc x ≠ .near i := fun x => by cases x <;> simp [pc]
  by_cases h : tp1 w
  · rw [if_pos h]
    cases ftop true (nums "floor" w) <;> simp [h0, h]
  · rw [if_neg h]
    cases ftop true (nums "floor" w) <;> cases ftop false (nums "near" w) <;> simp [h0, h, eq_comm]
theorem tp1_red {w : List Stp} (g : GoodW w) : tp1 (redW w) ↔ tp1 w := by
  unfold tp1
  rw [capsW_red]
  exact (Cf.Rs.top1 (fin_rs _) g).symm
theorem ftop_floor_red (w : List Stp) : ftop true (nums "floor" (redW w)) = ftop true (nums "floor" w) := by
  cases e : ftop true (nums "floor" w) with
  | none =>
    rw [ftop_none]
    refine List.eq_nil_iff_forall_not_mem.mpr fun i hi => ?_
    rw [mem_floor, floor_red, e] at hi
    cases hi
  | some m =>
    have hm : ∀ i, i ∈ nums "floor" (redW w) ↔ m = i := fun i => by rw [mem_floor, floor_red, e]; simp
    cases e2 : ftop true (nums "floor" (redW w)) with
    | none => rw [ftop_none] at e2; have := (hm m).mpr rfl; rw [e2] at this; cases this
    | some k => have := (hm k).mp (ftop_max e2).1; rw [this]
theorem ftop_near_red {w : List Stp} (g : GoodW w) (h : ¬ tp1 w) : ftop false (nums "near" (redW w)) = ftop false (nums "near" w) := by
  cases e : ftop false (nums "near" w) with
  | none =>
    rw [ftop_none]
    refine List.eq_nil_iff_forall_not_mem.mpr fun i hi => ?_
    rw [mem_near, near_red g, e] at hi
    cases hi.2
  | some m =>
    have hm : ∀ i, i ∈ nums "near" (redW w) ↔ m = i := fun i => by rw [mem_near, near_red g, e]; simp [h]
    cases e2 : ftop false (nums "near" (redW w)) with
    | none => rw [ftop_none] at e2; have := (hm m).mpr rfl; rw [e2] at this; cases this
    | some k => have := (hm k).mp (ftop_min e2).1; rw [this]
theorem near_red_tp1 {w : List Stp} (g : GoodW w) (h : tp1 w) : nums "near" (redW w) = [] := by
  refine List.eq_nil_iff_forall_not_mem.mpr fun i hi => ?_
  rw [mem_near, near_red g] at hi
  exact hi.1 h
/-- reduced again it is the same -/
theorem red_red {w : List Stp} (g : GoodW w) : redW (redW w) = redW w := by
  refine redW_congr (good_red g) g (by rw [capsW_red, fin_fin]) (ftop_floor_red w) fun h => ftop_near_red g fun z => h ((tp1_red g).mpr z)
theorem tp1_app {a b : List Stp} : tp1 (a ++ b) ↔ tp1 a ∨ tp1 b := by unfold tp1; rw [capsW_app, List.mem_append]
theorem ftop_app_l {mx : Bool} {a a' b : List Int} (h : ftop mx a = ftop mx a') : ftop mx (a ++ b) = ftop mx (a' ++ b) := by
  cases mx with
  | true =>
    have key : ∀ {a a' : List Int}, ftop true a = ftop true a' → ∀ x ∈ a ++ b, ∃ y ∈ a' ++ b, x ≤ y := fun {a a'} h x hx => by
      rcases List.mem_append.mp hx with hx | hx
      · cases e : ftop true a with
        | none => rw [ftop_none] at e; subst e; cases hx
        | some m =>
          rw [e] at h
          exact ⟨m, List.mem_append_left _ (ftop_max h.symm).1, (ftop_max e).2 x hx⟩
      · exact ⟨x, List.mem_append_right _ hx, Int.le_refl _⟩
    exact ftop_eq_max (key h) (key h.symm)
  | false =>
    have key : ∀ {a a' : List Int}, ftop false a = ftop false a' → ∀ x ∈ a ++ b, ∃ y ∈ a' ++ b, y ≤ x := fun {a a'} h x hx => by
      rcases List.mem_append.mp hx with hx | hx
      · cases e : ftop false a with
        | none => rw [ftop_none] at e; subst e; cases hx
        | some m =>
          rw [e] at h
          exact ⟨m, List.mem_append_left _ (ftop_min h.symm).1, (ftop_min e).2 x hx⟩
      · exact ⟨x, List.mem_append_right _ hx, Int.le_refl _⟩
    exact ftop_eq_min (key h) (key h.symm)
theorem ftop_comm {mx : Bool} {a b : List Int} : ftop mx (a ++ b) = ftop mx (b ++ a) := by
  cases mx with
  | true => exact ftop_eq_max (fun x hx => ⟨x, by simpa [or_comm] using hx, Int.le_refl _⟩) (fun x hx => ⟨x, by simpa [or_comm] using hx, Int.le_refl _⟩)
  | false => exact ftop_eq_min (fun x hx => ⟨x, by simpa [or_comm] using hx, Int.le_refl _⟩) (fun x hx => ⟨x, by simpa [or_comm] using hx, Int.le_refl _⟩)
theorem ftop_app_r {mx : Bool} {a b b' : List Int} (h : ftop mx b = ftop mx b') : ftop mx (a ++ b) = ftop mx (a ++ b') := by
  rw [ftop_comm, ftop_app_l h, ftop_comm]
theorem red_join_l {a b : List Stp} (ga : GoodW a) (gb : GoodW b) : redW (redW a ++ b) = redW (a ++ b) := by
  refine redW_congr (good_app (good_red ga) gb) (good_app ga gb) ?_ ?_ fun h => ?_
  · rw [capsW_app, capsW_app, capsW_red]
    have h1 : Cf.Rs (capsW a ++ capsW b) (fin (capsW a) ++ capsW b) := by simpa using (fin_rs (capsW a)).ctx [] (capsW b)
    refine fin_of_rs ?_ h1
    rw [← capsW_app]; exact good_app ga gb
  · rw [nums_app, nums_app]; exact ftop_app_l (ftop_floor_red a)
  · rw [nums_app, nums_app]
    have : ¬ tp1 a := fun z => h (tp1_app.mpr (.inl ((tp1_red ga).mpr z)))
    exact ftop_app_l (ftop_near_red ga this)
theorem red_join_r {a b : List Stp} (ga : GoodW a) (gb : GoodW b) : redW (a ++ redW b) = redW (a ++ b) := by
  refine redW_congr (good_app ga (good_red gb)) (good_app ga gb) ?_ ?_ fun h => ?_
  · rw [capsW_app, capsW_app, capsW_red]
    have h1 : Cf.Rs (capsW a ++ capsW b) (capsW a ++ fin (capsW b)) := by simpa using (fin_rs (capsW b)).ctx (capsW a) []
    refine fin_of_rs ?_ h1
    rw [← capsW_app]; exact good_app ga gb
  · rw [nums_app, nums_app]; exact ftop_app_r (ftop_floor_red b)
  · rw [nums_app, nums_app]
    have : ¬ tp1 b := fun z => h (tp1_app.mpr (.inr ((tp1_red gb).mpr z)))
    exact ftop_app_r (ftop_near_red gb this)
/-- without a cap that a rule takes out the same is left -/
theorem red_without {a b : List Stp} {c : Cf.Cap} (g : GoodW (a ++ pc c :: b)) (h : Cf.J (capsW a) c (capsW b)) : GoodW (a ++ b) ∧ redW (a ++ b) = redW (a ++ pc c :: b) := by
  have hc : capsW (a ++ pc c :: b) = capsW a ++ c :: capsW b := by
    rw [capsW_app]
    congr 1
    cases c <;> rfl
  have gab : GoodW (a ++ b) := fun x hx => by
    refine g x ?_
    rw [hc]
    rw [capsW_app] at hx
    rcases List.mem_append.mp hx with z | z
    · exact List.mem_append_left _ z
    · exact List.mem_append_right _ (List.mem_cons_of_mem _ z)
  have hR : Cf.R (capsW (a ++ pc c :: b)) (capsW (a ++ b)) := ⟨capsW a, c, capsW b, hc, capsW_app a b, h⟩
  have hm : ∀ s : Stp, cap? s = none → (s ∈ a ++ b ↔ s ∈ a ++ pc c :: b) := fun s hs => by
    have : s ≠ pc c := fun z => by subst z; cases c <;> cases hs
    simp [this]
  refine ⟨gab, redW_congr gab g (fin_of_rs g (.one hR)) (ftop_eq_max (fun x hx => ⟨x, ?_, Int.le_refl _⟩) (fun x hx => ⟨x, ?_, Int.le_refl _⟩)) fun _ => ftop_eq_min (fun x hx => ⟨x, ?_, Int.le_refl _⟩) (fun x hx => ⟨x, ?_, Int.le_refl _⟩)⟩
  · rw [mem_floor] at hx ⊢; exact (hm _ rfl).mp hx
  · rw [mem_floor] at hx ⊢; exact (hm _ rfl).mpr hx
  · rw [mem_near] at hx ⊢; exact (hm _ rfl).mp hx
  · rw [mem_near] at hx ⊢; exact (hm _ rfl).mpr hx
/-! ### raised, turned -/
def raiseS (n : Int) : Stp → Stp
  | .floor i => .floor (i + n)
  | s => s
def turnS (f : Int → Int) : Stp → Stp
  | .each k i => .each (f k) i
  | s => s
theorem pc_raise {n : Int} {x : Cf.Cap} : raiseS n (pc x) = pc x := by cases x <;> rfl
theorem pc_turn {f : Int → Int} {x : Cf.Cap} : turnS f (pc x) = pc (x.turn f) := by cases x <;> rfl
theorem caps_raise {n : Int} (w : List Stp) : capsW (w.map (raiseS n)) = capsW w := by
  unfold capsW
  rw [List.filterMap_map]
  congr 1
  funext s
  cases s <;> rfl
theorem caps_turn {f : Int → Int} (w : List Stp) : capsW (w.map (turnS f)) = (capsW w).map (Cf.Cap.turn f) := by
  unfold capsW
  rw [List.filterMap_map, List.map_filterMap]
  congr 1
  funext s
  cases s <;> rfl
theorem good_raise {n : Int} {w : List Stp} (g : GoodW w) : GoodW (w.map (raiseS n)) := fun c hc => by rw [caps_raise] at hc; exact g c hc
theorem good_turn {f : Int → Int} {w : List Stp} (g : GoodW w) : GoodW (w.map (turnS f)) := fun c hc => by
  rw [caps_turn] at hc
  obtain ⟨x, hx, rfl⟩ := List.mem_map.mp hc
  rw [Cf.turn_last]
  exact g x hx
theorem ftop_shift {n : Int} (l : List Int) : ftop true (l.map (· + n)) = (ftop true l).map (· + n) := by
  cases e : ftop true l with
  | none => rw [ftop_none] at e; subst e; rfl
  | some m =>
    obtain ⟨a1, a2⟩ := ftop_max e
    cases e2 : ftop true (l.map (· + n)) with
    | none => rw [ftop_none] at e2; rw [List.map_eq_nil_iff] at e2; subst e2; cases a1
    | some k =>
      obtain ⟨b1, b2⟩ := ftop_max e2
      obtain ⟨x, hx, rfl⟩ := List.mem_map.mp b1
      have h1 := b2 (m + n) (List.mem_map.mpr ⟨m, a1, rfl⟩)
      have h2 := a2 x hx
      show some (x + n) = some (m + n)
      congr 1
      omega
theorem floor_raise {n : Int} (w : List Stp) : nums "floor" (w.map (raiseS n)) = (nums "floor" w).map (· + n) := by
  unfold nums
  rw [List.filter_map, List.map_map, List.map_map]
  have h1 : (isT "floor" ∘ raiseS n) = isT "floor" := by funext s; cases s <;> rfl
  rw [h1]
  refine List.map_congr_left fun s hs => ?_
  have h2 := (List.mem_filter.mp hs).2
  cases s with
  | floor i => rfl
  | near i => rw [isT_fn] at h2; cases h2
  | top i => rw [isT_ft] at h2; cases h2
  | each k i => rw [isT_fe] at h2; cases h2
theorem near_raise {n : Int} (w : List Stp) : nums "near" (w.map (raiseS n)) = nums "near" w := by
  unfold nums
  rw [List.filter_map, List.map_map]
  have h1 : (isT "near" ∘ raiseS n) = isT "near" := by funext s; cases s <;> rfl
  rw [h1]
  refine List.map_congr_left fun s hs => ?_
  have h2 := (List.mem_filter.mp hs).2
  cases s with
  | floor i => rw [isT_nf] at h2; cases h2
  | near i => rfl
  | top i => rfl
  | each k i => rfl
theorem red_raise {n : Int} {w : List Stp} : redW (w.map (raiseS n)) = (redW w).map (raiseS n) := by
  unfold redW
  rw [caps_raise, List.map_append, List.map_append, flo_ftop, floor_raise, ftop_shift, nea_ftop, near_raise, List.map_map]
  congr 1
  · rw [flo_ftop]; cases ftop true (nums "floor" w) <;> rfl
  · congr 1
    · split
      · rfl
      · rw [nea_ftop]; cases ftop false (nums "near" w) <;> rfl
    · exact (List.map_congr_left fun x _ => pc_raise.symm)
theorem fin_turn {f : Int → Int} {C : List Cf.Cap} (g : Cf.Good C) : fin (C.map (Cf.Cap.turn f)) = (fin C).map (Cf.Cap.turn f) := by
  refine (fin_eq (fun c hc => ?_) (fin_rs C).turn (fin_end C).turn).symm
  obtain ⟨x, hx, rfl⟩ := List.mem_map.mp hc
  rw [Cf.turn_last]
  exact g x hx
theorem nums_turn {f : Int → Int} {t : Str} (h : ∀ k i, isT t (.each k i) = false) (w : List Stp) : nums t (w.map (turnS f)) = nums t w := by
  unfold nums
  rw [List.filter_map, List.map_map]
  have h1 : (isT t ∘ turnS f) = isT t := by funext s; cases s <;> rfl
  rw [h1]
  refine List.map_congr_left fun s hs => ?_
  have h2 := (List.mem_filter.mp hs).2
  cases s with
  | each k i => rw [h] at h2; cases h2
  | _ => rfl
theorem has1_turn {f : Int → Int} {C : List Cf.Cap} : has1 ((C.map (Cf.Cap.turn f)).map pc) = has1 (C.map pc) := by
  rw [Bool.eq_iff_iff, has1_iff, has1_iff]
  exact Cf.turn_top
theorem red_turn {f : Int → Int} {w : List Stp} (g : GoodW w) : redW (w.map (turnS f)) = (redW w).map (turnS f) := by
  unfold redW
  rw [caps_turn, fin_turn g, has1_turn, List.map_append, List.map_append, flo_ftop, nums_turn (fun _ _ => isT_fe), nea_ftop, nums_turn (fun _ _ => isT_ne), List.map_map, List.map_map]
  congr 1
  · rw [flo_ftop]; cases ftop true (nums "floor" w) <;> rfl
  · congr 1
    · split
      · rfl
      · rw [nea_ftop]; cases ftop false (nums "near" w) <;> rfl
    · exact (List.map_congr_left fun x _ => pc_turn.symm)
end Sh

/-! The program's words.py over data, any word. -/
namespace Sh
open PySem PySem.Spec PyProof.Rows L2 Pt
theorem s_fn : ¬ Str.ofString "floor" = Str.ofString "near" := by decide +kernel
theorem s_ft : ¬ Str.ofString "floor" = Str.ofString "top" := by decide +kernel
theorem s_fe : ¬ Str.ofString "floor" = Str.ofString "each" := by decide +kernel
theorem s_nf : ¬ Str.ofString "near" = Str.ofString "floor" := by decide +kernel
theorem s_nt : ¬ Str.ofString "near" = Str.ofString "top" := by decide +kernel
theorem s_ne : ¬ Str.ofString "near" = Str.ofString "each" := by decide +kernel
theorem s_tf : ¬ Str.ofString "top" = Str.ofString "floor" := by decide +kernel
theorem s_tn : ¬ Str.ofString "top" = Str.ofString "near" := by decide +kernel
theorem s_te : ¬ Str.ofString "top" = Str.ofString "each" := by decide +kernel
theorem s_ef : ¬ Str.ofString "each" = Str.ofString "floor" := by decide +kernel
theorem s_en : ¬ Str.ofString "each" = Str.ofString "near" := by decide +kernel
theorem s_et : ¬ Str.ofString "each" = Str.ofString "top" := by decide +kernel
theorem enc_eqv : ∀ s t : Stp, PyData.eqv (encB false s) (encB false t) = decide (s = t)
  | .floor i, .floor j => by rw [encF, encF]; simp [PyData.eqv, PyData.eqvAll]; rfl
  | .floor i, .near j => by rw [encF, encN]; simp [PyData.eqv, PyData.eqvAll, s_fn]
  | .floor i, .top j => by rw [encF, encT]; simp [PyData.eqv, PyData.eqvAll, s_ft]
  | .floor i, .each l j => by rw [encF, encE]; simp [PyData.eqv, PyData.eqvAll]
  | .near i, .floor j => by rw [encN, encF]; simp [PyData.eqv, PyData.eqvAll, s_nf]
  | .near i, .near j => by rw [encN, encN]; simp [PyData.eqv, PyData.eqvAll]; rfl
  | .near i, .top j => by rw [encN, encT]; simp [PyData.eqv, PyData.eqvAll, s_nt]
  | .near i, .each l j => by rw [encN, encE]; simp [PyData.eqv, PyData.eqvAll]
  | .top i, .floor j => by rw [encT, encF]; simp [PyData.eqv, PyData.eqvAll, s_tf]
  | .top i, .near j => by rw [encT, encN]; simp [PyData.eqv, PyData.eqvAll, s_tn]
  | .top i, .top j => by rw [encT, encT]; simp [PyData.eqv, PyData.eqvAll]; rfl
  | .top i, .each l j => by rw [encT, encE]; simp [PyData.eqv, PyData.eqvAll]
  | .each k i, .floor j => by rw [encE, encF]; simp [PyData.eqv, PyData.eqvAll]
  | .each k i, .near j => by rw [encE, encN]; simp [PyData.eqv, PyData.eqvAll]
  | .each k i, .top j => by rw [encE, encT]; simp [PyData.eqv, PyData.eqvAll]
  | .each k i, .each l j => by rw [encE, encE]; by_cases h1 : k = l <;> by_cases h2 : i = j <;> simp [PyData.eqv, PyData.eqvAll, h1, h2]
theorem encs_eqv : ∀ w v : List Stp, PyData.eqvAll (w.map (encB false)) (v.map (encB false)) = decide (w = v)
  | [], [] => by simp [PyData.eqvAll]
  | [], t :: v => by simp [PyData.eqvAll]
  | s :: w, [] => by simp [PyData.eqvAll]
  | s :: w, t :: v => by
    rw [List.map_cons, List.map_cons, PyData.eqvAll, enc_eqv, encs_eqv w v]
    by_cases h1 : s = t <;> by_cases h2 : w = v <;> simp [h1, h2]
theorem enc_depth (s : Stp) : PyData.depth (encB false s) = 1 := by cases s <;> simp [encF, encN, encT, encE, PyData.depth, PyData.depthAll]
theorem encs_depth : ∀ w : List Stp, PyData.depthAll (w.map (encB false)) ≤ 1
  | [] => by simp [PyData.depthAll]
  | s :: w => by
    have := encs_depth w
    rw [List.map_cons, PyData.depthAll, enc_depth]
    omega
theorem words_dOk {w v : List Stp} : dOk (.tuple (w.map (encB false))) (.tuple (v.map (encB false))) = true := by
  have := encs_depth w
  unfold dOk
  rw [PyData.plain, PyData.plain, plain_encs, plain_encs, PyData.depth]
  simp only [Bool.true_and, decide_eq_true_eq]
  omega
theorem gEq_words {w v : List Stp} : gEq (.tuple (w.map (encB false))) (.tuple (v.map (encB false))) = some (.bool (decide (w = v)), .st) := by
  unfold gEq
  rw [if_pos words_dOk, PyData.eqv, encs_eqv]
theorem gNe_words {w v : List Stp} : gNe (.tuple (w.map (encB false))) (.tuple (v.map (encB false))) = some (.bool (!decide (w = v)), .st) := by
  unfold gNe
  rw [if_pos words_dOk, PyData.eqv, encs_eqv]
theorem has1_W (w : List Stp) : has1 w = true ↔ tp1 w := by
  unfold has1 tp1
  rw [List.any_eq_true, mem_capsW]
  have e : one1 = encB false (.top 1) := rfl
  constructor
  · rintro ⟨y, hy, h⟩
    obtain ⟨s, hs, rfl⟩ := List.mem_map.mp hy
    rw [e, enc_eqv] at h
    rw [of_decide_eq_true h] at hs
    exact hs
  · intro h
    exact ⟨_, List.mem_map.mpr ⟨_, h, rfl⟩, by rw [e, enc_eqv]; exact decide_eq_true rfl⟩
theorem is_reduced_W {w : List Stp} (g : GoodW w) (h : w.length ≤ 60) : F_is_reduced [.pure (.tuple (w.map (encB false)))] = some (.bool (decide (redW w = w)), false, [.pure (.tuple (w.map (encB false)))]) := by
  have h1 : F_reduced [.pure (.tuple (w.map (encB false)))] = _ := reduced_W (b := false) (c := false) g h
  have h2 : F_own_word [.pure (.tuple (w.map (encB false)))] = _ := own_word_ok (b := false) (c := false) (w := w) (by omega)
  have h3 := gEq_words (w := redW w) (v := w)
  generalize (redW w).map (encB false) = R at h1 h3
  generalize w.map (encB false) = W at h1 h2 h3 ⊢
  simp [F_is_reduced, fDef_ap, G_is_reduced, h1, h2, h3]
theorem kinds_filter : ∀ w : List Stp, (w.filter isE).map (fun s => PyData.int (num s)) = (kindsW w).map PyData.int
  | [] => rfl
  | s :: w => by
    have ih := kinds_filter w
    unfold kindsW at ih ⊢
    cases s <;> simp [List.filterMap_cons, List.filter_cons, isE, kind?, num] <;> simpa [isE, kind?, num] using ih
theorem kinds_in_W {w : List Stp} {b c : Bool} (h : w.length ≤ 1000000) : F_kinds_in [.pure (sq c (w.map (encB b)))] = some (.tuple ((kindsW w).map PyData.int), false, [.pure (sq c (w.map (encB b)))]) := by
  have hc : fComp [1] (fiSeq (fVar 0)) (bName 1) (fTst (fTwo gEq (fTwo gIx (fVar 1) (fCst (.int 0))) (fCst (.str "each")))) (fTwo gIx (fVar 1) (fCst (.int 1))) [.pure (sq c (w.map (encB b))), .emp]
      = some (.list ((kindsW w).map PyData.int), .fr, [.pure (sq c (w.map (encB b))), .emp]) := by
    rw [compV w (encB b) isE (fun s => PyData.int (num s)) (by cases c <;> simp [sq]) rfl noOwn_emp (by rw [sizeLine_eq]; omega) (fun s _ => ⟨by simp [isE_tg], fun _ => ⟨.st, trivial, by simp⟩⟩), kinds_filter]
  generalize sq c (w.map (encB b)) = W at hc ⊢
  simp [F_kinds_in, fDef_ap, G_kinds_in, hc]
/-- how many kinds a word needs -/
def kn (w : List Stp) : Int := (match ftop true (kindsW w) with | none => -1 | some m => m) + 1
theorem kinds_needed_W {w : List Stp} {b c : Bool} (h : w.length ≤ 1000000) : F_kinds_needed [.pure (sq c (w.map (encB b)))] = some (.int (kn w), false, [.pure (sq c (w.map (encB b)))]) := by
  have h1 := kinds_in_W (b := b) (c := c) h
  have h2 := gMM_t (mx := true) (ns := kindsW w) (i := -1)
  rw [optD_ftop] at h2
  unfold kn
  generalize sq c (w.map (encB b)) = W at h1 ⊢
  generalize (kindsW w).map PyData.int = K at h1 h2
  cases e : ftop true (kindsW w) with
  | none =>
    rw [e] at h2
    simp only at h2
    simp [F_kinds_needed, fDef_ap, G_kinds_needed, h1, h2]
  | some m =>
    rw [e] at h2
    simp only at h2
    simp [F_kinds_needed, fDef_ap, G_kinds_needed, h1, h2]
/-! ### which rules take out what, in any word -/
theorem at_mem {pre suf : List Stp} {s : Stp} {p : Int} {d : D} (h : d ∈ at_ pre s suf p) : ∃ c r, s = pc c ∧ d = mk p r ∧ Cf.J (capsW pre) c (capsW suf) := by
  unfold at_ at h
  split at h
  · rename_i hc
    obtain ⟨r, hr, rfl⟩ := List.mem_map.mp h
    rw [caps_pc, caps_pc] at hr
    have : ∃ c, s = pc c := by rw [isC_cap] at hc; cases s <;> simp [cap?] at hc <;> first | exact ⟨.top _, rfl⟩ | exact ⟨.each _ _, rfl⟩
    obtain ⟨c, rfl⟩ := this
    exact ⟨c, r, rfl, rfl, rules_iff.mp fun z => by rw [z] at hr; cases hr⟩
  · cases h
theorem pr_mem : ∀ (Q P : List Stp) (d : D), d ∈ PR P Q → ∃ a c b r, Q = a ++ pc c :: b ∧ d = mk ((P.length + a.length : Nat) : Int) r ∧ Cf.J (capsW (P ++ a)) c (capsW b)
  | [], P, d, h => by cases h
  | s :: Q, P, d, h => by
    rw [PR] at h
    rcases List.mem_append.mp h with h | h
    · obtain ⟨c, r, rfl, rfl, hj⟩ := at_mem h
      exact ⟨[], c, Q, r, rfl, rfl, by rw [List.append_nil]; exact hj⟩
    · obtain ⟨a, c, b, r, e1, e2, e3⟩ := pr_mem Q (P ++ [s]) d h
      refine ⟨s :: a, c, b, r, by rw [e1]; rfl, ?_, by simpa using e3⟩
      rw [e2, show (P ++ [s]).length + a.length = P.length + (s :: a).length from by simp; omega]
theorem pr_nil : ∀ (Q P : List Stp), PR P Q = [] → ∀ a c b, Q = a ++ pc c :: b → ¬ Cf.J (capsW (P ++ a)) c (capsW b)
  | [], P, h, a, c, b, e => by cases a <;> cases e
  | x :: Q, P, h, a, c, b, e => by
    rw [PR] at h
    obtain ⟨h1, h2⟩ := List.append_eq_nil_iff.mp h
    cases a with
    | nil =>
      cases e
      rw [List.append_nil]
      intro hj
      unfold at_ at h1
      rw [if_pos pc_isC, caps_pc, caps_pc] at h1
      exact rules_iff.mpr hj (List.map_eq_nil_iff.mp h1)
    | cons y a =>
      cases e
      have := pr_nil _ (P ++ [x]) h2 a c b rfl
      simpa using this
theorem caps_split : ∀ {w : List Stp} {p q : List Cf.Cap} {c : Cf.Cap}, capsW w = p ++ c :: q → ∃ a b, w = a ++ pc c :: b ∧ capsW a = p ∧ capsW b = q
  | [], p, q, c, e => by cases p <;> cases e
  | s :: w, p, q, c, e => by
    cases hs : cap? s with
    | none =>
      have e' : capsW w = p ++ c :: q := by unfold capsW at e ⊢; rw [List.filterMap_cons, hs] at e; exact e
      obtain ⟨a, b, h1, h2, h3⟩ := caps_split e'
      refine ⟨s :: a, b, by rw [h1]; rfl, ?_, h3⟩
      unfold capsW at h2 ⊢
      rw [List.filterMap_cons, hs]; exact h2
    | some x =>
      have e' : x :: capsW w = p ++ c :: q := by unfold capsW at e ⊢; rw [List.filterMap_cons, hs] at e; exact e
      have hx : s = pc x := by cases s <;> cases hs <;> rfl
      cases p with
      | nil =>
        obtain ⟨e1, e2⟩ := List.cons.inj e'
        exact ⟨[], w, by rw [hx, e1]; rfl, rfl, e2⟩
      | cons y p =>
        have e1 : x = y := (List.cons.inj e').1
        have e2 : capsW w = p ++ c :: q := (List.cons.inj e').2
        obtain ⟨a, b, h1, h2, h3⟩ := caps_split e2
        refine ⟨s :: a, b, by rw [h1]; rfl, ?_, h3⟩
        unfold capsW at h2 ⊢
        rw [List.filterMap_cons, hs, h2, e1]
theorem pr_end {w : List Stp} (h : PR [] w = []) : Cf.End (capsW w) := fun v hv => by
  obtain ⟨p, c, q, e, _, hj⟩ := hv
  obtain ⟨a, b, h1, h2, h3⟩ := caps_split e
  have := pr_nil w [] h a c b h1
  rw [List.nil_append, h2, h3] at this
  exact this hj
theorem pr_iff {w : List Stp} : PR [] w = [] ↔ fin (capsW w) = capsW w := by
  constructor
  · intro h
    exact (pr_end h).rs (fin_rs _)
  · intro h
    cases e : PR [] w with
    | nil => rfl
    | cons d ds =>
      obtain ⟨a, c, b, r, e1, _, hj⟩ := pr_mem w [] d (by rw [e]; simp)
      rw [List.nil_append] at hj
      have he := fin_end (capsW w)
      rw [h] at he
      exact (he (capsW a ++ capsW b) ⟨capsW a, c, capsW b, by rw [e1, capsW_app]; congr 1; cases c <;> rfl, rfl, hj⟩).elim
theorem without_W {a b : List Stp} {s : Stp} (h : (a ++ s :: b).length ≤ 1000) : F_without_step [.pure (.tuple ((a ++ s :: b).map (encB false))), .pure (.int (a.length : Int))] = some (.tuple ((a ++ b).map (encB false)), false, [.pure (.tuple ((a ++ s :: b).map (encB false))), .pure (.int (a.length : Int))]) := by
  have ho : F_own_word [.pure (.tuple ((a ++ s :: b).map (encB false)))] = _ := own_word_ok (b := false) (c := false) (w := a ++ s :: b) (by omega)
  have hl : (a ++ s :: b).length = a.length + (b.length + 1) := by simp
  have h1 : Pt.cutD ((a ++ s :: b).map (encB false)) none (some ((a.length : Nat) : Int)) = a.map (encB false) := by
    rw [cut_take (by simp)]; simp
  have h2 : Pt.cutD ((a ++ s :: b).map (encB false)) (some ((a.length : Int) + 1)) none = b.map (encB false) := by
    have e : ((a.length : Int) + 1) = ((a.length + 1 : Nat) : Int) := by omega
    have e2 : a ++ s :: b = (a ++ [s]) ++ b := by simp
    have e3 : a.length + 1 = ((a ++ [s]).map (encB false)).length := by simp
    rw [e, cut_drop, e2, List.map_append, e3, List.drop_left]
  have hadd : gAdd (.tuple (a.map (encB false))) (.tuple (b.map (encB false))) = some (.tuple ((a ++ b).map (encB false)), .st) := by rw [List.map_append]; exact gAdd_t (by rw [List.length_map, List.length_map, sizeLine_eq]; omega)
  have hlen : ((a ++ s :: b).map (encB false)).length = a.length + (b.length + 1) := by rw [List.length_map, hl]
  have g1 : gLe (.int 0) (.int (a.length : Int)) = some (.bool true, .st) := by rw [gLe_i]; simp
  have g2 : gLt (.int (a.length : Int)) (.int (((a ++ s :: b).map (encB false)).length : Int)) = some (.bool true, .st) := by
    rw [gLt_i, hlen, decide_eq_true (by omega)]
  generalize (a.length : Int) = k at g1 g2 h1 h2 ⊢
  generalize (a ++ s :: b).map (encB false) = w at *
  generalize (a ++ b).map (encB false) = ab at *
  generalize a.map (encB false) = aa at *
  generalize b.map (encB false) = bb at *
  simp [F_without_step, fDef_ap, G_without_step, -gLe_i, -gLt_i, g1, g2, ho, gSl, h1, h2, hadd]
theorem raised_step_ok {s : Stp} {n : Int} : F_raised_step [.pure (encB false s), .pure (.int n)] = some (encB false (raiseS n s), false, [.pure (encB false s), .pure (.int n)]) := by
  have ht : (tg s == Str.ofString "floor") = isT "floor" s := rfl
  cases s with
  | floor i => rw [isT_ff] at ht; simp [F_raised_step, fDef_ap, G_raised_step, ht, num, raiseS, encF]
  | near i => rw [isT_fn] at ht; simp [F_raised_step, fDef_ap, G_raised_step, ht, raiseS]; simp [encN]
  | top i => rw [isT_ft] at ht; simp [F_raised_step, fDef_ap, G_raised_step, ht, raiseS]; simp [encT]
  | each k i => rw [isT_fe] at ht; simp [F_raised_step, fDef_ap, G_raised_step, ht, raiseS]; simp [encE]
theorem raised_word_ok {w : List Stp} {n : Int} (h : w.length ≤ 1000000) : F_raised_word [.pure (.tuple (w.map (encB false))), .pure (.int n)] = some (.tuple ((w.map (raiseS n)).map (encB false)), false, [.pure (.tuple (w.map (encB false))), .pure (.int n)]) := by
  have hc : fComp [2] (fiSeq (fVar 0)) (bName 2) fTYes (fCall F_raised_step (frVal (fVar 2) (frVal (fVar 1) frNil))) [.pure (.tuple (w.map (encB false))), .pure (.int n), .emp]
      = some (.list ((w.map (raiseS n)).map (encB false)), .fr, [.pure (.tuple (w.map (encB false))), .pure (.int n), .emp]) := by
    rw [compV w (encB false) (fun _ => true) (fun s => encB false (raiseS n s)) (by simp) rfl noOwn_emp (by rw [sizeLine_eq]; omega) (fun s _ => ⟨rfl, fun _ => ⟨.st, trivial, by simp [raised_step_ok]⟩⟩), filter_true, List.map_map]
    rfl
  generalize (w.map (raiseS n)).map (encB false) = R at hc ⊢
  generalize w.map (encB false) = W at hc ⊢
  simp [F_raised_word, fDef_ap, G_raised_word, hc]
theorem turned_step_ok {s : Stp} {t : List D} {f : Int → Int} (hf : ∀ k i, s = .each k i → gIx (.tuple t) (.int k) = some (.int (f k), .st)) : F_turned_step [.pure (encB false s), .pure (.tuple t)] = some (encB false (turnS f s), false, [.pure (encB false s), .pure (.tuple t)]) := by
  have ht := isE_tg s
  cases s with
  | floor i => simp [F_turned_step, fDef_ap, G_turned_step, ht, isE, kind?, turnS]; simp [encF]
  | near i => simp [F_turned_step, fDef_ap, G_turned_step, ht, isE, kind?, turnS]; simp [encN]
  | top i => simp [F_turned_step, fDef_ap, G_turned_step, ht, isE, kind?, turnS]; simp [encT]
  | each k i =>
    have h1 := hf k i rfl
    have h2 : gIx (encB false (.each k i)) (.int 2) = some (.int i, .st) := gIx_t2
    simp [F_turned_step, fDef_ap, G_turned_step, ht, isE, kind?, turnS, num, h1, h2, encE]
theorem turned_word_ok {w : List Stp} {t : List D} {f : Int → Int} (h : w.length ≤ 1000000) (hf : ∀ k i, Stp.each k i ∈ w → gIx (.tuple t) (.int k) = some (.int (f k), .st)) : F_turned_kinds [.pure (.tuple (w.map (encB false))), .pure (.tuple t)] = some (.tuple ((w.map (turnS f)).map (encB false)), false, [.pure (.tuple (w.map (encB false))), .pure (.tuple t)]) := by
  have hc : fComp [2] (fiSeq (fVar 0)) (bName 2) fTYes (fCall F_turned_step (frVal (fVar 2) (frVal (fVar 1) frNil))) [.pure (.tuple (w.map (encB false))), .pure (.tuple t), .emp]
      = some (.list ((w.map (turnS f)).map (encB false)), .fr, [.pure (.tuple (w.map (encB false))), .pure (.tuple t), .emp]) := by
    rw [compV w (encB false) (fun _ => true) (fun s => encB false (turnS f s)) (by simp) rfl noOwn_emp (by rw [sizeLine_eq]; omega) (fun s hs => ⟨rfl, fun _ => ⟨.st, trivial, by
      have := turned_step_ok (s := s) (t := t) (f := f) fun k i e => hf k i (by rw [← e]; exact hs)
      simp [this]⟩⟩), filter_true, List.map_map]
    rfl
  generalize (w.map (turnS f)).map (encB false) = R at hc ⊢
  generalize w.map (encB false) = W at hc ⊢
  simp [F_turned_kinds, fDef_ap, G_turned_kinds, hc]
end Sh

/-! Hits picked by steps, in plain Lean: what a word picks rests on its caps and its thresholds; the five rules keep it. -/
namespace Sh
open PySem PySem.Spec PyProof.Rows L2 Pt
structure Hit where
  n : Str
  s : Int
  l : List Str
  deriving DecidableEq
def Hit.lab (h : Hit) (k : Int) : Str := (h.l[k.toNat]?).getD ⟨#[]⟩
/-- of each label the first m; seen: the labels ahead -/
def keepA (k m : Int) : List Str → List Hit → List Hit
  | _, [] => []
  | seen, h :: r => if (List.count (h.lab k) seen : Int) < m then h :: keepA k m (h.lab k :: seen) r else keepA k m (h.lab k :: seen) r
def geL (t : Int) (R : List Hit) : List Hit := R.filter fun h => decide (t ≤ h.s)
def stp : Stp → List Hit → List Hit
  | .floor i, R => geL i R
  | .near _, [] => []
  | .near i, b :: R => geL (b.s - i) (b :: R)
  | .top i, R => R.take i.toNat
  | .each k m, R => keepA k m [] R
def pk (R : List Hit) (w : List Stp) : List Hit := w.foldl (fun R s => stp s R) R
def capS : Cf.Cap → List Hit → List Hit
  | .top i, R => R.take i.toNat
  | .each k m, R => keepA k m [] R
def pkC (R : List Hit) (C : List Cf.Cap) : List Hit := C.foldl (fun R s => capS s R) R
/-- the scores fall -/
def Fall (R : List Hit) : Prop := R.Pairwise fun a b => b.s ≤ a.s
theorem keepA_sub {k m : Int} : ∀ (R : List Hit) (seen : List Str), (keepA k m seen R).Sublist R
  | [], _ => .slnil
  | h :: r, seen => by
    unfold keepA
    split
    · exact (keepA_sub r _).cons₂ _
    · exact (keepA_sub r _).cons _
theorem geL_sub {t : Int} {R : List Hit} : (geL t R).Sublist R := List.filter_sublist
theorem stp_sub (s : Stp) (R : List Hit) : (stp s R).Sublist R := by
  cases s with
  | floor i => exact geL_sub
  | near i => cases R with
    | nil => exact .slnil
    | cons b R => exact geL_sub
  | top i => exact List.take_sublist _ _
  | each k m => exact keepA_sub _ _
theorem capS_sub (c : Cf.Cap) (R : List Hit) : (capS c R).Sublist R := by
  cases c with
  | top i => exact List.take_sublist _ _
  | each k m => exact keepA_sub _ _
theorem pk_sub : ∀ (w : List Stp) (R : List Hit), (pk R w).Sublist R
  | [], R => .refl R
  | s :: w, R => (pk_sub w (stp s R)).trans (stp_sub s R)
theorem pkC_sub : ∀ (w : List Cf.Cap) (R : List Hit), (pkC R w).Sublist R
  | [], R => .refl R
  | s :: w, R => (pkC_sub w (capS s R)).trans (capS_sub s R)
theorem pk_nil : ∀ w : List Stp, pk [] w = []
  | w => List.sublist_nil.mp (pk_sub w [])
theorem pkC_nil : ∀ w : List Cf.Cap, pkC [] w = []
  | w => List.sublist_nil.mp (pkC_sub w [])
theorem pkC_app (R : List Hit) (a b : List Cf.Cap) : pkC R (a ++ b) = pkC (pkC R a) b := List.foldl_append
theorem pk_app (R : List Hit) (a b : List Stp) : pk R (a ++ b) = pk (pk R a) b := List.foldl_append
/-! ### what scores are at least -/
theorem geL_keepA {t k m : Int} : ∀ (R : List Hit) (seen : List Str), Fall R → geL t (keepA k m seen R) = keepA k m seen (geL t R)
  | [], _, _ => rfl
  | h :: r, seen, hf => by
    by_cases ht : t ≤ h.s
    · have e : geL t (h :: r) = h :: geL t r := by unfold geL; rw [List.filter_cons_of_pos (by simpa using ht)]
      rw [e]
      unfold keepA
      by_cases hc : (List.count (h.lab k) seen : Int) < m
      · rw [if_pos hc, if_pos hc, ← geL_keepA r _ hf.of_cons]
        unfold geL; rw [List.filter_cons_of_pos (by simpa using ht)]
      · rw [if_neg hc, if_neg hc, ← geL_keepA r _ hf.of_cons]
    · have all : ∀ x ∈ h :: r, ¬ t ≤ x.s := fun x hx z => by
        rcases List.mem_cons.mp hx with rfl | hx
        · exact ht z
        · have := List.rel_of_pairwise_cons hf hx; omega
      have e1 : geL t (h :: r) = [] := List.filter_eq_nil_iff.mpr fun x hx => by simpa using all x hx
      have e2 : geL t (keepA k m seen (h :: r)) = [] := List.filter_eq_nil_iff.mpr fun x hx => by simpa using all x ((keepA_sub _ _).subset hx)
      rw [e1, e2]; rfl
theorem geL_take {t : Int} : ∀ (n : Nat) (R : List Hit), Fall R → geL t (R.take n) = (geL t R).take n
  | 0, R, _ => by simp [geL]
  | n + 1, [], _ => by simp [geL]
  | n + 1, h :: r, hf => by
    by_cases ht : t ≤ h.s
    · have e : ∀ q, geL t (h :: q) = h :: geL t q := fun q => by unfold geL; rw [List.filter_cons_of_pos (by simpa using ht)]
      rw [List.take_succ_cons, e, e, List.take_succ_cons, geL_take n r hf.of_cons]
    · have all : ∀ x ∈ h :: r, ¬ t ≤ x.s := fun x hx z => by
        rcases List.mem_cons.mp hx with rfl | hx
        · exact ht z
        · have := List.rel_of_pairwise_cons hf hx; omega
      have e1 : geL t (h :: r) = [] := List.filter_eq_nil_iff.mpr fun x hx => by simpa using all x hx
      have e2 : geL t ((h :: r).take (n + 1)) = [] := List.filter_eq_nil_iff.mpr fun x hx => by simpa using all x (List.mem_of_mem_take hx)
      rw [e1, e2]; rfl
theorem Fall.sub {R S : List Hit} (h : Fall R) (s : S.Sublist R) : Fall S := h.sublist s
theorem geL_capS {t : Int} {R : List Hit} (c : Cf.Cap) (h : Fall R) : geL t (capS c R) = capS c (geL t R) := by
  cases c with
  | top i => exact geL_take _ _ h
  | each k m => exact geL_keepA _ _ h
theorem geL_pkC {t : Int} : ∀ (C : List Cf.Cap) (R : List Hit), Fall R → geL t (pkC R C) = pkC (geL t R) C
  | [], R, _ => rfl
  | c :: C, R, h => by
    show geL t (pkC (capS c R) C) = pkC (capS c (geL t R)) C
    rw [geL_pkC C _ (h.sub (capS_sub c R)), geL_capS c h]
/-! ### the head stays -/
theorem capS_head {R : List Hit} {h0 : Hit} (c : Cf.Cap) (hc : 1 ≤ c.last) (h : R.head? = some h0) : (capS c R).head? = some h0 := by
  cases R with
  | nil => cases h
  | cons x r =>
    cases h
    cases c with
    | top i =>
      have : i.toNat = (i.toNat - 1) + 1 := by have : 1 ≤ i := hc; omega
      show ((h0 :: r).take i.toNat).head? = _
      rw [this]; rfl
    | each k m =>
      show (keepA k m [] (h0 :: r)).head? = _
      unfold keepA
      rw [if_pos (by have : 1 ≤ m := hc; simp; omega)]; rfl
theorem pkC_head {h0 : Hit} : ∀ (C : List Cf.Cap) (R : List Hit), Cf.Good C → R.head? = some h0 → (pkC R C).head? = some h0
  | [], R, _, h => h
  | c :: C, R, g, h => pkC_head C _ (fun s hs => g s (by simp [hs])) (capS_head c (g c (by simp)) h)
/-! ### thresholds -/
def thr? (b : Int) : Stp → Option Int
  | .floor i => some i
  | .near i => some (b - i)
  | _ => none
def thr (b : Int) (w : List Stp) : List Int := w.filterMap (thr? b)
/-- the nears are not negative -/
def NearOk (w : List Stp) : Prop := ∀ i, Stp.near i ∈ w → 0 ≤ i
def geA (ts : List Int) (R : List Hit) : List Hit := R.filter fun h => ts.all fun t => decide (t ≤ h.s)
theorem geA_cons {t : Int} {ts : List Int} {R : List Hit} : geA (t :: ts) R = geA ts (geL t R) := by
  unfold geA geL
  rw [List.filter_filter]
  refine List.filter_congr fun x _ => ?_
  rw [List.all_cons, Bool.and_comm]
theorem geA_nil {R : List Hit} : geA [] R = R := List.filter_eq_self.mpr fun _ _ => rfl
theorem geL_head {t : Int} {R : List Hit} {h0 : Hit} (h : R.head? = some h0) (ht : t ≤ h0.s) : (geL t R).head? = some h0 := by
  cases R with
  | nil => cases h
  | cons x r =>
    cases h
    unfold geL
    rw [List.filter_cons_of_pos (by simpa using ht)]; rfl
theorem geL_none {t : Int} {R : List Hit} {h0 : Hit} (h : R.head? = some h0) (hf : Fall R) (ht : ¬ t ≤ h0.s) : geL t R = [] := by
  cases R with
  | nil => cases h
  | cons x r =>
    cases h
    refine List.filter_eq_nil_iff.mpr fun x hx => ?_
    rcases List.mem_cons.mp hx with rfl | hx
    · simpa using ht
    · have := List.rel_of_pairwise_cons hf hx
      simp; omega
/-- what a word picks -/
theorem pk_eq {h0 : Hit} : ∀ (w : List Stp) (R : List Hit), Fall R → R.head? = some h0 → GoodW w → NearOk w → pk R w = geA (thr h0.s w) (pkC R (capsW w))
  | [], R, _, _, _, _ => geA_nil.symm
  | s :: w, R, hf, hh, g, hn => by
    have hn' : NearOk w := fun i hi => hn i (by simp [hi])
    have ge_step : ∀ {t : Int}, capsW (s :: w) = capsW w → thr h0.s (s :: w) = t :: thr h0.s w → stp s R = geL t R → pk R (s :: w) = geA (thr h0.s (s :: w)) (pkC R (capsW (s :: w))) := fun {t} e1 e2 e3 => by
      have g' : GoodW w := by unfold GoodW at g ⊢; rwa [e1] at g
      show pk (stp s R) w = _
      rw [e3, e1, e2, geA_cons, geL_pkC _ _ hf]
      by_cases ht : t ≤ h0.s
      · exact pk_eq w _ (hf.sub geL_sub) (geL_head hh ht) g' hn'
      · rw [geL_none hh hf ht, pk_nil, pkC_nil]; rfl
    have cap_step : ∀ {c : Cf.Cap}, capsW (s :: w) = c :: capsW w → thr h0.s (s :: w) = thr h0.s w → stp s R = capS c R → pk R (s :: w) = geA (thr h0.s (s :: w)) (pkC R (capsW (s :: w))) := fun {c} e1 e2 e3 => by
      unfold GoodW at g
      rw [e1] at g
      have g' : GoodW w := fun x hx => g x (by simp [hx])
      show pk (stp s R) w = _
      rw [e3, e1, e2]
      exact pk_eq w _ (hf.sub (capS_sub c R)) (capS_head c (g c (by simp)) hh) g' hn'
    cases s with
    | floor i => exact ge_step (t := i) rfl rfl rfl
    | near i =>
      refine ge_step (t := h0.s - i) rfl rfl ?_
      cases R with
      | nil => cases hh
      | cons x r => cases hh; rfl
    | top i => exact cap_step (c := .top i) rfl rfl rfl
    | each k m => exact cap_step (c := .each k m) rfl rfl rfl
/-! ### the rules -/
theorem keepA_all {k m : Int} : ∀ (R : List Hit) (seen : List Str), (seen.length + R.length : Int) ≤ m → keepA k m seen R = R
  | [], _, _ => rfl
  | h :: r, seen, hl => by
    have hc := List.count_le_length (a := h.lab k) (l := seen)
    simp only [List.length_cons] at hl
    unfold keepA
    rw [if_pos (by omega), keepA_all r _ (by simp only [List.length_cons]; omega)]
theorem keepA_take {k m : Int} : ∀ (n : Nat) (R : List Hit) (seen : List Str), (seen.length + n : Int) ≤ m → (keepA k m seen R).take n = R.take n
  | 0, R, _, _ => by simp
  | n + 1, [], _, _ => rfl
  | n + 1, h :: r, seen, hl => by
    have hc := List.count_le_length (a := h.lab k) (l := seen)
    unfold keepA
    rw [if_pos (by omega), List.take_succ_cons, List.take_succ_cons, keepA_take n r _ (by simp only [List.length_cons]; omega)]
theorem pkC_len {n : Int} : ∀ (C : List Cf.Cap) (R : List Hit), Cf.Cap.top n ∈ C → 1 ≤ n → ((pkC R C).length : Int) ≤ n
  | [], _, h, _ => by simp at h
  | c :: C, R, h, hn => by
    rcases List.mem_cons.mp h with rfl | h
    · have h1 := (pkC_sub C (capS (.top n) R)).length_le
      have h2 : (capS (.top n) R).length ≤ n.toNat := by show (R.take n.toNat).length ≤ _; rw [List.length_take]; omega
      show ((pkC (capS (.top n) R) C).length : Int) ≤ n
      omega
    · exact pkC_len C _ h hn
theorem capS_id {c : Cf.Cap} {R : List Hit} (h : (R.length : Int) ≤ c.last) : capS c R = R := by
  cases c with
  | top i => exact List.take_of_length_le (by have : (R.length : Int) ≤ i := h; omega)
  | each k m => exact keepA_all R [] (by have : (R.length : Int) ≤ m := h; simpa using this)
theorem pkC_one {C : List Cf.Cap} {R : List Hit} {h0 : Hit} (h : Cf.Cap.top 1 ∈ C) (g : Cf.Good C) (hh : R.head? = some h0) : pkC R C = [h0] := by
  have h1 := pkC_len C R h (by decide)
  have h2 := pkC_head C R g hh
  cases e : pkC R C with
  | nil => rw [e] at h2; cases h2
  | cons x r =>
    rw [e] at h1 h2
    cases h2
    cases r with
    | nil => rfl
    | cons y r => simp at h1; omega
theorem pkC_J {R : List Hit} {p q : List Cf.Cap} {c : Cf.Cap} (g : Cf.Good (p ++ c :: q)) (h : Cf.J p c q) : pkC R (p ++ c :: q) = pkC R (p ++ q) := by
  have gp : ∀ x ∈ p, 1 ≤ x.last := fun x hx => g x (by simp [hx])
  have gc : 1 ≤ c.last := g c (by simp)
  have gq : Cf.Good q := fun x hx => g x (by simp [hx])
  rcases h with ⟨n, hn, hl⟩ | ⟨n, q', rfl, h⟩ | h
  · rw [pkC_app, pkC_app]
    have h1 := pkC_len p R hn (gp _ hn)
    show pkC (capS c (pkC R p)) q = _
    rw [capS_id (by omega)]
  · rw [pkC_app, pkC_app]
    show pkC (capS (.top n) (capS c (pkC R p))) q' = pkC (capS (.top n) (pkC R p)) q'
    congr 1
    rcases h with ⟨m, rfl, h⟩ | ⟨k, m, rfl, h⟩
    · show ((pkC R p).take m.toNat).take n.toNat = (pkC R p).take n.toNat
      rw [List.take_take, Nat.min_eq_left (by omega)]
    · have hn : 1 ≤ n := gq (.top n) (by simp)
      exact keepA_take _ _ _ (by simp; omega)
  · cases hR : R with
    | nil => rw [pkC_nil, pkC_nil]
    | cons x r =>
      rw [← hR]
      have h : Cf.Cap.top 1 ∈ q := h
      rw [pkC_one (h0 := x) (by simp [h]) g (by rw [hR]; rfl), pkC_one (h0 := x) (by simp [h]) (fun y hy => g y (by
        rcases List.mem_append.mp hy with z | z
        · simp [z]
        · simp [z])) (by rw [hR]; rfl)]
theorem pkC_rs {R : List Hit} {C V : List Cf.Cap} (h : Cf.Rs C V) : Cf.Good C → pkC R C = pkC R V := by
  induction h with
  | refl => exact fun _ => rfl
  | step h1 _ ih =>
    intro g
    have g' := h1.good g
    obtain ⟨p, c, q, rfl, rfl, hj⟩ := h1
    rw [pkC_J g hj, ih g']
/-! ### words that pick the same -/
theorem geA_congr {ts us : List Int} {R : List Hit} (h : ∀ x ∈ R, (∀ t ∈ ts, t ≤ x.s) ↔ ∀ t ∈ us, t ≤ x.s) : geA ts R = geA us R := by
  refine List.filter_congr fun x hx => ?_
  rw [Bool.eq_iff_iff, List.all_eq_true, List.all_eq_true]
  simpa using h x hx
theorem thr_mem {b : Int} {w : List Stp} {t : Int} : t ∈ thr b w ↔ (Stp.floor t ∈ w) ∨ ∃ i, Stp.near i ∈ w ∧ t = b - i := by
  unfold thr
  rw [List.mem_filterMap]
  constructor
  · rintro ⟨s, hs, e⟩
    cases s with
    | floor i => cases e; exact .inl hs
    | near i => cases e; exact .inr ⟨i, hs, rfl⟩
    | top i => cases e
    | each k i => cases e
  · rintro (h | ⟨i, h, rfl⟩)
    · exact ⟨_, h, rfl⟩
    · exact ⟨_, h, rfl⟩
/-- the same caps, floors and nears in whatever places -/
theorem pk_perm {R : List Hit} {w v : List Stp} (hf : Fall R) (g : GoodW w) (hn : NearOk w) (hc : capsW w = capsW v) (h : ∀ s, s ∈ w ↔ s ∈ v) : pk R w = pk R v := by
  cases hR : R with
  | nil => rw [pk_nil, pk_nil]
  | cons h0 r =>
    rw [← hR]
    have hh : R.head? = some h0 := by rw [hR]; rfl
    have g' : GoodW v := by unfold GoodW at g ⊢; rwa [← hc]
    rw [pk_eq w R hf hh g hn, pk_eq v R hf hh g' (fun i hi => hn i ((h _).mpr hi)), hc]
    refine geA_congr fun x _ => ?_
    have : ∀ t, t ∈ thr h0.s w ↔ t ∈ thr h0.s v := fun t => by
      rw [thr_mem, thr_mem]
      simp only [h]
    simp only [this]
/-- a cap that a rule takes out -/
theorem pk_without {R : List Hit} {a b : List Stp} {c : Cf.Cap} (hf : Fall R) (g : GoodW (a ++ pc c :: b)) (hn : NearOk (a ++ pc c :: b)) (h : Cf.J (capsW a) c (capsW b)) : pk R (a ++ b) = pk R (a ++ pc c :: b) := by
  have ec : capsW (a ++ pc c :: b) = capsW a ++ c :: capsW b := by
    rw [capsW_app]
    congr 1
    unfold capsW
    rw [List.filterMap_cons]
    cases c <;> rfl
  cases hR : R with
  | nil => rw [pk_nil, pk_nil]
  | cons h0 r =>
    rw [← hR]
    have hh : R.head? = some h0 := by rw [hR]; rfl
    have g1 := g
    unfold GoodW at g1
    rw [ec] at g1
    have g' : GoodW (a ++ b) := fun x hx => by
      rw [capsW_app] at hx
      exact g1 x (by rcases List.mem_append.mp hx with z | z <;> simp [z])
    rw [pk_eq _ R hf hh g hn, pk_eq _ R hf hh g' (fun i hi => hn i (by rcases List.mem_append.mp hi with z | z <;> simp [z])), ec, capsW_app, pkC_J g1 h]
    refine geA_congr fun x _ => ?_
    have : ∀ t, t ∈ thr h0.s (a ++ b) ↔ t ∈ thr h0.s (a ++ pc c :: b) := fun t => by
      unfold thr
      rw [List.filterMap_append, List.filterMap_append, List.filterMap_cons]
      cases c <;> rfl
    simp only [this]
/-- the reduced word -/
theorem pk_red {R : List Hit} {w : List Stp} (hf : Fall R) (g : GoodW w) (hn : NearOk w) : pk R (redW w) = pk R w := by
  classical
  cases hR : R with
  | nil => rw [pk_nil, pk_nil]
  | cons h0 r =>
    rw [← hR]
    have hh : R.head? = some h0 := by rw [hR]; rfl
    have hn' : NearOk (redW w) := fun i hi => by
      obtain ⟨_, h⟩ := (near_red g).mp hi
      exact hn i (mem_near.mp (ftop_min h).1)
    rw [pk_eq _ R hf hh (good_red g) hn', pk_eq _ R hf hh g hn, capsW_red, ← pkC_rs (fin_rs (capsW w)) g]
    refine geA_congr fun x hx => ?_
    -- x: any hit that the caps leave
    have hfl : (∀ t, Stp.floor t ∈ redW w → t ≤ x.s) ↔ ∀ t, Stp.floor t ∈ w → t ≤ x.s := by
      constructor
      · intro h t ht
        cases e : ftop true (nums "floor" w) with
        | none => rw [ftop_none] at e; have := mem_floor.mpr ht; rw [e] at this; cases this
        | some m =>
          have := h m (floor_red.mpr e)
          have := (ftop_max e).2 t (mem_floor.mpr ht)
          omega
      · intro h t ht
        exact h t (mem_floor.mp (ftop_max (floor_red.mp ht)).1)
    have hnr : (∀ i, Stp.near i ∈ redW w → h0.s - i ≤ x.s) ↔ ∀ i, Stp.near i ∈ w → h0.s - i ≤ x.s := by
      constructor
      · intro h i hi
        by_cases ht : tp1 w
        · have e := pkC_one ht g hh
          rw [e] at hx
          rw [List.mem_singleton.mp hx]
          have := hn i hi
          omega
        · cases e : ftop false (nums "near" w) with
          | none => rw [ftop_none] at e; have := mem_near.mpr hi; rw [e] at this; cases this
          | some m =>
            have := h m ((near_red g).mpr ⟨ht, e⟩)
            have := (ftop_min e).2 i (mem_near.mpr hi)
            omega
      · intro h i hi
        exact h i (mem_near.mp (ftop_min ((near_red g).mp hi).2).1)
    have split : ∀ v : List Stp, (∀ t ∈ thr h0.s v, t ≤ x.s) ↔ (∀ t, Stp.floor t ∈ v → t ≤ x.s) ∧ ∀ i, Stp.near i ∈ v → h0.s - i ≤ x.s := fun v => by
      constructor
      · exact fun h => ⟨fun t ht => h t (thr_mem.mpr (.inl ht)), fun i hi => h _ (thr_mem.mpr (.inr ⟨i, hi, rfl⟩))⟩
      · rintro ⟨h1, h2⟩ t ht
        rcases thr_mem.mp ht with z | ⟨i, z, rfl⟩
        · exact h1 t z
        · exact h2 i z
    rw [split, split, hfl, hnr]
end Sh

/-! Sorted lists; hits as data. -/
namespace Sh
open PySem PySem.Spec PyProof.Rows L2 Pt
section
variable {α β : Type}
def insP (le : α → α → Bool) (x : α) : List α → List α
  | [] => [x]
  | y :: ys => if le x y then x :: y :: ys else y :: insP le x ys
def isP (le : α → α → Bool) : List α → List α
  | [] => []
  | x :: xs => insP le x (isP le xs)
variable {le : α → α → Bool}
theorem insP_perm {x : α} : ∀ ys : List α, (insP le x ys).Perm (x :: ys)
  | [] => .refl _
  | y :: ys => by
    unfold insP
    split
    · exact .refl _
    · exact ((insP_perm ys).cons y).trans (.swap x y ys)
theorem isP_perm : ∀ xs : List α, (isP le xs).Perm xs
  | [] => .refl _
  | x :: xs => (insP_perm _).trans ((isP_perm xs).cons x)
theorem isP_mem {x : α} {xs : List α} : x ∈ isP le xs ↔ x ∈ xs := (isP_perm xs).mem_iff
theorem isP_len {xs : List α} : (isP le xs).length = xs.length := (isP_perm xs).length_eq
/-- a total order -/
structure Tot (le : α → α → Bool) : Prop where
  tr : ∀ a b c, le a b = true → le b c = true → le a c = true
  to : ∀ a b, le a b = true ∨ le b a = true
theorem insP_pw (T : Tot le) {x : α} : ∀ {ys : List α}, ys.Pairwise (fun a b => le a b = true) → (insP le x ys).Pairwise fun a b => le a b = true
  | [], _ => by simp [insP]
  | y :: ys, h => by
    unfold insP
    split
    · rename_i hx
      refine .cons (fun z hz => ?_) h
      rcases List.mem_cons.mp hz with rfl | hz
      · exact hx
      · exact T.tr _ _ _ hx (List.rel_of_pairwise_cons h hz)
    · rename_i hx
      have hyx := (T.to x y).resolve_left hx
      refine .cons (fun z hz => ?_) (insP_pw T h.of_cons)
      rcases List.mem_cons.mp ((insP_perm ys).mem_iff.mp hz) with rfl | hz
      · exact hyx
      · exact List.rel_of_pairwise_cons h hz
theorem isP_pw (T : Tot le) : ∀ xs : List α, (isP le xs).Pairwise fun a b => le a b = true
  | [] => .nil
  | x :: xs => insP_pw T (isP_pw T xs)
theorem insP_map {le' : β → β → Bool} {f : α → β} {x : α} : ∀ ys : List α, (∀ y ∈ ys, le' (f x) (f y) = le x y) → insP le' (f x) (ys.map f) = (insP le x ys).map f
  | [], _ => rfl
  | y :: ys, h => by
    show (if le' (f x) (f y) = true then f x :: f y :: ys.map f else f y :: insP le' (f x) (ys.map f)) = (if le x y = true then x :: y :: ys else y :: insP le x ys).map f
    rw [h y (by simp), insP_map ys fun z hz => h z (by simp [hz])]
    split <;> rfl
theorem isP_map {le' : β → β → Bool} {f : α → β} : ∀ xs : List α, (∀ x ∈ xs, ∀ y ∈ xs, le' (f x) (f y) = le x y) → isP le' (xs.map f) = (isP le xs).map f
  | [], _ => rfl
  | x :: xs, h => by
    show insP le' (f x) (isP le' (xs.map f)) = (insP le x (isP le xs)).map f
    rw [isP_map xs fun a ha b hb => h a (by simp [ha]) b (by simp [hb])]
    exact insP_map _ fun y hy => h x (by simp) y (by simp [isP_mem.mp hy])
theorem isP_congr {le' : α → α → Bool} (xs : List α) (h : ∀ x ∈ xs, ∀ y ∈ xs, le' x y = le x y) : isP le' xs = isP le xs := by
  have := isP_map (le := le) (le' := le') (f := id) xs h
  simpa using this
/-- what is sorted is one list -/
theorem sorted_one : ∀ {xs ys : List α}, xs.Perm ys → xs.Pairwise (fun a b => le a b = true) → ys.Pairwise (fun a b => le a b = true) → (∀ a ∈ xs, ∀ b ∈ xs, le a b = true → le b a = true → a = b) → xs = ys
  | [], ys, h, _, _, _ => (List.Perm.nil_eq h)
  | x :: xs, [], h, _, _, _ => absurd h.length_eq (by simp)
  | x :: xs, y :: ys, h, h1, h2, ha => by
    have e : x = y := by
      by_cases z : x = y
      · exact z
      · have hy : y ∈ xs := by
          have := h.mem_iff.mpr (List.mem_cons_self (a := y) (l := ys))
          rcases List.mem_cons.mp this with q | q
          · exact absurd q.symm z
          · exact q
        have hx : x ∈ ys := by
          have := h.mem_iff.mp (List.mem_cons_self (a := x) (l := xs))
          rcases List.mem_cons.mp this with q | q
          · exact absurd q z
          · exact q
        exact ha x (by simp) y (by simp [hy]) (List.rel_of_pairwise_cons h1 hy) (List.rel_of_pairwise_cons h2 hx)
    subst e
    rw [sorted_one (List.Perm.cons_inv h) h1.of_cons h2.of_cons fun a ha' b hb => ha a (by simp [ha']) b (by simp [hb])]
theorem isP_sorted {xs ys : List α} (T : Tot le) (h : xs.Perm ys) (h2 : ys.Pairwise (fun a b => le a b = true)) (ha : ∀ a ∈ ys, ∀ b ∈ ys, le a b = true → le b a = true → a = b) : isP le xs = ys := by
  have p := (isP_perm (le := le) xs).trans h
  exact sorted_one p (isP_pw T xs) h2 fun a h1 b h2 => ha a (p.mem_iff.mp h1) b (p.mem_iff.mp h2)
end
theorem insBy_P (le : D → D → Bool) (x : D) : ∀ ys, insBy le x ys = insP le x ys
  | [] => rfl
  | y :: ys => by unfold insBy insP; rw [insBy_P le x ys]
theorem isortBy_P (le : D → D → Bool) : ∀ xs, isortBy le xs = isP le xs
  | [] => rfl
  | x :: xs => by unfold isortBy isP; rw [isortBy_P le xs, insBy_P]
theorem ins_P (x : D) : ∀ ys, ins x ys = insP dLe x ys
  | [] => rfl
  | y :: ys => by unfold ins insP; rw [ins_P x ys]
theorem isort_P : ∀ xs, isort xs = isP dLe xs
  | [] => rfl
  | x :: xs => by unfold isort isP; rw [isort_P xs, ins_P]
/-! ### names -/
def nle (a b : Str) : Bool := decide (a.cps.toList ≤ b.cps.toList)
theorem nle_tot : Tot nle := ⟨fun a b c h1 h2 => by
  simp only [nle, decide_eq_true_eq] at *
  exact List.le_trans h1 h2, fun a b => by
  simp only [nle, decide_eq_true_eq]
  exact List.le_total _ _⟩
theorem nle_anti {a b : Str} (h1 : nle a b = true) (h2 : nle b a = true) : a = b := by
  simp only [nle, decide_eq_true_eq] at *
  exact PySem.W.str_of_cps (List.le_antisymm h1 h2)
theorem nle_refl (a : Str) : nle a a = true := (nle_tot.to a a).elim id id
theorem dLe_str (a b : Str) : dLe (.str a) (.str b) = nle a b := by
  unfold dLe nle
  rw [PySem.W.dataLt_str, PySem.W.not_lt_str]
theorem dLe_int (a b : Int) : dLe (.int a) (.int b) = decide (a ≤ b) := by
  unfold dLe
  rw [PySem.W.dataLt_int, PySem.W.not_lt_int]
/-! ### hits -/
def encH (b : Bool) (h : Hit) : D := sq b [.str h.n, .int h.s, sq b (h.l.map PyData.str)]
def kleH (a b : Hit) : Bool := decide (b.s < a.s) || (decide (a.s = b.s) && nle a.n b.n)
theorem kleH_tot : Tot kleH := ⟨fun a b c h1 h2 => by
  simp only [kleH, Bool.or_eq_true, Bool.and_eq_true, decide_eq_true_eq] at *
  rcases h1 with h1 | ⟨h1, n1⟩ <;> rcases h2 with h2 | ⟨h2, n2⟩
  · exact .inl (by omega)
  · exact .inl (by omega)
  · exact .inl (by omega)
  · exact .inr ⟨by omega, nle_tot.tr _ _ _ n1 n2⟩, fun a b => by
  simp only [kleH, Bool.or_eq_true, Bool.and_eq_true, decide_eq_true_eq]
  rcases Int.lt_trichotomy a.s b.s with h | h | h
  · exact .inr (.inl h)
  · rcases nle_tot.to a.n b.n with n | n
    · exact .inl (.inr ⟨h, n⟩)
    · exact .inr (.inr ⟨h.symm, n⟩)
  · exact .inl (.inl h)⟩
theorem kleH_anti {a b : Hit} (h1 : kleH a b = true) (h2 : kleH b a = true) : a.n = b.n := by
  simp only [kleH, Bool.or_eq_true, Bool.and_eq_true, decide_eq_true_eq] at *
  rcases h1 with h1 | ⟨_, n1⟩ <;> rcases h2 with h2 | ⟨_, n2⟩
  · omega
  · omega
  · omega
  · exact nle_anti n1 n2
theorem keyT_enc {b : Bool} {h : Hit} : keyT (encH b h) = .tuple [.int (-h.s), .str h.n] := by cases b <;> rfl
theorem keyD_enc {b : Bool} {h : Hit} : (keyD (encH b h)).isSome = true := by cases b <;> rfl
theorem lt_is {x y : Int} {a b : Str} : PySem.W.dataLt (.tuple [.int x, .str a]) (.tuple [.int y, .str b]) = (decide (x < y) || (decide (x = y) && !nle b a)) := by
  rw [PySem.W.dataLt_pair (by simp [PySem.W.alike]) (by simp [PySem.W.alike]), PySem.W.dataLt_int, PySem.W.dataLt_str]
  simp only [PyData.eqv, beq_iff_eq]
  by_cases h1 : x = y
  · rw [if_pos h1]
    by_cases h2 : a = b
    · rw [if_pos h2, h2, nle_refl]; simp [h1]
    · rw [if_neg h2]
      have : nle b a = !decide (a.cps.toList < b.cps.toList) := by unfold nle; rw [PySem.W.not_lt_str]
      rw [this]; simp [h1]
  · rw [if_neg h1]; simp [h1]
theorem kLe_enc {b : Bool} (x y : Hit) : kLe (encH b x) (encH b y) = kleH x y := by
  unfold kLe kleH
  rw [keyT_enc, keyT_enc, lt_is, Bool.eq_iff_iff]
  simp only [Bool.not_eq_true', Bool.or_eq_false_iff, Bool.and_eq_false_iff, decide_eq_false_iff_not, Bool.not_eq_false', Bool.or_eq_true, Bool.and_eq_true, decide_eq_true_eq]
  constructor
  · rintro ⟨h1, h2⟩
    by_cases z : x.s = y.s
    · exact .inr ⟨z, h2.resolve_left (by omega)⟩
    · exact .inl (by omega)
  · rintro (h | ⟨h1, h2⟩)
    · exact ⟨by omega, .inl (by omega)⟩
    · exact ⟨by omega, .inr h2⟩
def rank (hs : List Hit) : List Hit := isP kleH hs
theorem rank_enc {b : Bool} (hs : List Hit) : isortBy kLe (hs.map (encH b)) = (rank hs).map (encH b) := by
  rw [isortBy_P]
  exact isP_map hs fun x _ y _ => kLe_enc x y
theorem rank_fall (hs : List Hit) : Fall (rank hs) := (isP_pw kleH_tot hs).imp fun {a b} h => by
  simp only [kleH, Bool.or_eq_true, Bool.and_eq_true, decide_eq_true_eq] at h
  omega
def sortS (l : List Str) : List Str := isP nle l
theorem sortS_enc (l : List Str) : isort (l.map PyData.str) = (sortS l).map PyData.str := by
  rw [isort_P]
  exact isP_map l fun x _ y _ => dLe_str x y
theorem gSorted_strs (l : List Str) : gSorted (.list (l.map PyData.str)) = some (.list ((sortS l).map PyData.str), .fr) := by
  unfold gSorted
  dsimp only
  rw [if_pos, sortS_enc]
  simp only [Bool.and_eq_true, List.all_eq_true, alikes, sortables, Bool.or_eq_true]
  refine ⟨⟨fun d hd e he => ?_, .inr fun d hd => ?_⟩, fun d hd => ?_⟩
  · obtain ⟨a, _, rfl⟩ := List.mem_map.mp hd
    obtain ⟨c, _, rfl⟩ := List.mem_map.mp he
    simp [PySem.W.alike]
  · obtain ⟨a, _, rfl⟩ := List.mem_map.mp hd
    rfl
  · obtain ⟨a, _, rfl⟩ := List.mem_map.mp hd
    simp [PyData.depth]
end Sh

/-! The program's picking, read as data. -/
namespace Sh
open PySem PySem.Spec PyProof.Rows L2 Pt
/-! ### what the new readings do -/
@[simp] theorem gNewD_ap {i : Nat} {env : Ev} : gNewD i env = some (.nx (env.set i (.dct []))) := rfl
@[simp] theorem gParD_ap {i j : Nat} {F : FE} {env : Ev} : gParD i j F env = (match F env with
  | some (d, k, e1) => match putS i d k e1 with
    | some e2 => some (.nx (e2.set j (.dct [])))
    | none => none
  | none => none) := rfl
@[simp] theorem gPutD_ap {i : Nat} {Fi Fe : FE} {env : Ev} : gPutD i Fi Fe env = (match Fe env with
  | some (d, k, e1) => match (stl d k e1)[i]? with
    | some (.dct _) => match Fi (stl d k e1) with
      | some (dk, _, e2) => match keyOfD dk with
        | some key => match e2[i]? with
          | some (.dct kvs) => if kvs.length < sizeLine then some (.nx (e2.set i (.dct (setKV key d kvs)))) else none
          | _ => none
        | none => none
      | none => none
    | _ => none
  | none => none) := rfl
@[simp] theorem fGetD_ap {i : Nat} {Fi : FE} {env : Ev} : fGetD i Fi env = (match env[i]? with
  | some (.dct _) => match Fi env with
    | some (dk, _, e2) => match keyOfD dk with
      | some key => match e2[i]? with
        | some (.dct kvs) => match getKV kvs key with
          | some d => some (d, .st, e2)
          | none => none
        | _ => none
      | none => none
    | none => none
  | _ => none) := rfl
@[simp] theorem fGetD2_ap {i : Nat} {Fi Fe : FE} {env : Ev} : fGetD2 i Fi Fe env = (match env[i]? with
  | some (.dct _) => match Fi env with
    | some (dk, _, e2) => match keyOfD dk with
      | some key => match Fe e2 with
        | some (d, .st, e3) => match e3[i]? with
          | some (.dct kvs) => some ((getKV kvs key).getD d, .st, e3)
          | _ => none
        | _ => none
      | none => none
    | none => none
  | _ => none) := rfl
@[simp] theorem keyOfD_s {x : Str} : keyOfD (.str x) = some (.inr x) := rfl
@[simp] theorem keyOfD_i {i : Int} : keyOfD (.int i) = some (.inl i) := rfl
/-- a walk whose state is told by what lies behind -/
theorem forL_pre {α : Type} {b : FB} {body : FG} (e : α → D) (base : List α → Ev) (l : List α) (h : ∀ pre a suf, l = pre ++ a :: suf → ∃ e1, b (e a) (base pre) = some e1 ∧ body e1 = some (.nx (base (pre ++ [a])))) :
    forL b body (l.map e) (base []) = some (.nx (base l)) := by
  have go : ∀ (suf pre : List α), l = pre ++ suf → forL b body (suf.map e) (base pre) = some (.nx (base l)) := by
    intro suf
    induction suf with
    | nil => intro pre hl; rw [List.append_nil] at hl; subst hl; rfl
    | cons a suf ih =>
      intro pre hl
      obtain ⟨e1, h1, h2⟩ := h pre a suf hl
      have h3 := ih (pre ++ [a]) (by rw [hl, List.append_assoc]; rfl)
      rw [List.map_cons]
      unfold forL
      rw [h1]; dsimp only; rw [h2]; exact h3
  exact go l [] rfl
/-- the last one's slot -/
def lastS {α : Type} (f : α → D) (pre : List α) : Slot := match pre.getLast? with
  | none => .emp
  | some a => .pure (f a)
theorem lastS_snoc {α : Type} {f : α → D} {pre : List α} {a : α} : lastS f (pre ++ [a]) = .pure (f a) := by
  unfold lastS; rw [List.getLast?_append, List.getLast?_singleton]; rfl
/-! ### items of a hit -/
@[simp] theorem hx0 {b : Bool} {h : Hit} : gIx (encH b h) (.int 0) = some (.str h.n, .st) := by cases b <;> simp [encH, sq]
@[simp] theorem hx1 {b : Bool} {h : Hit} : gIx (encH b h) (.int 1) = some (.int h.s, .st) := by cases b <;> simp [encH, sq]
@[simp] theorem hx2 {b : Bool} {h : Hit} : gIx (encH b h) (.int 2) = some (sq b (h.l.map PyData.str), .st) := by cases b <;> simp [encH, sq]
theorem lab_ix {b : Bool} {h : Hit} {k : Int} (h0 : 0 ≤ k) (hk : k.toNat < h.l.length) : gIx (sq b (h.l.map PyData.str)) (.int k) = some (.str (h.lab k), .st) := by
  have e : k = ((k.toNat : Nat) : Int) := by omega
  have hl : h.l[k.toNat]? = some (h.lab k) := by
    unfold Hit.lab
    rw [List.getElem?_eq_getElem hk]; rfl
  have := ix_get (c := b) (e := PyData.str) hl
  rwa [← e] at this
theorem tru_sq {c : Bool} {xs : List D} : tru (sq c xs) = some (!xs.isEmpty) := by cases c <;> rfl
theorem items_sq {c : Bool} {xs : List D} : itemsD (sq c xs) = some xs := by cases c <;> rfl
/-! ### ranked, name_set, kinds -/
theorem gRank_ok {b c : Bool} {hs : List Hit} (h : hs.length ≤ 1000) : gRank (sq c (hs.map (encH b))) = some (.list ((rank hs).map (encH b)), .fr) := by
  have e : rkL (hs.map (encH b)) = some (.list ((rank hs).map (encH b)), .fr) := by
    unfold rkL
    rw [if_pos, rank_enc]
    rw [Bool.and_eq_true, decide_eq_true_eq, List.all_eq_true, List.length_map, sizeLine_eq]
    exact ⟨fun d hd => by obtain ⟨x, _, rfl⟩ := List.mem_map.mp hd; exact keyD_enc, by omega⟩
  cases c <;> exact e
theorem ranked_ok {b c : Bool} {hs : List Hit} (h : hs.length ≤ 1000) : F_ranked [.pure (sq c (hs.map (encH b)))] = some (.list ((rank hs).map (encH b)), true, [.pure (sq c (hs.map (encH b)))]) := by
  have e := gRank_ok (b := b) (c := c) h
  generalize sq c (hs.map (encH b)) = S at e ⊢
  simp [F_ranked, fDef_ap, G_ranked, e]
theorem name_set_ok {b c : Bool} {hs : List Hit} (h : hs.length ≤ 1000) : F_name_set [.pure (sq c (hs.map (encH b)))] = some (.tuple ((sortS (hs.map Hit.n)).map PyData.str), false, [.pure (sq c (hs.map (encH b)))]) := by
  have hc := compV (i := 1) (I := fiSeq (fVar 0)) (T := fTYes) (E := fTwo gIx (fVar 1) (fCst (.int 0))) (env := [.pure (sq c (hs.map (encH b))), .emp]) hs (encH b) (fun _ => true) (fun h => PyData.str h.n) (by simp [items_sq]) rfl noOwn_emp (by rw [sizeLine_eq]; omega)
    (fun x _ => ⟨rfl, fun _ => ⟨.st, trivial, by simp⟩⟩)
  rw [filter_true] at hc
  have hs2 := gSorted_strs (hs.map Hit.n)
  rw [List.map_map] at hs2
  have e : (PyData.str ∘ Hit.n) = fun h : Hit => PyData.str h.n := rfl
  rw [e] at hs2
  generalize (hs.map fun h => PyData.str h.n) = N at hc hs2
  generalize sq c (hs.map (encH b)) = S at hc ⊢
  simp [F_name_set, fDef_ap, G_name_set, hc, hs2]
def widthH (hs : List Hit) : Nat := match hs with
  | [] => 0
  | h :: _ => h.l.length
theorem kinds_ok {b c : Bool} {hs : List Hit} : F_kinds [.pure (sq c (hs.map (encH b)))] = some (.int (widthH hs), false, [.pure (sq c (hs.map (encH b)))]) := by
  cases hs with
  | nil => cases c <;> simp [F_kinds, fDef_ap, G_kinds, sq, widthH]
  | cons x r =>
    have h0 : gIx (sq c ((x :: r).map (encH b))) (.int 0) = some (encH b x, .st) := by cases c <;> simp [sq]
    have ht : tru (sq c ((x :: r).map (encH b))) = some true := by cases c <;> rfl
    have hl : gLen (sq b (x.l.map PyData.str)) = some (.int (x.l.length), .st) := by rw [gLen_sq, List.length_map]
    generalize sq c ((x :: r).map (encH b)) = S at h0 ht ⊢
    simp [F_kinds, fDef_ap, G_kinds, h0, ht, hl, widthH]
/-- every kind of the word is a kind of the hits -/
def KindsOk (hs : List Hit) (w : List Stp) : Prop := hs = [] ∨ ∀ k ∈ kindsW w, 0 ≤ k ∧ k < widthH hs
theorem check_kinds_ok {b c bw cw : Bool} {hs : List Hit} {w : List Stp} (hw : w.length ≤ 1000) (hk : KindsOk hs w) :
    F_check_kinds [.pure (sq c (hs.map (encH b))), .pure (sq cw (w.map (encB bw)))] = some (.none, false, [.pure (sq c (hs.map (encH b))), .pure (sq cw (w.map (encB bw)))]) := by
  have hin := kinds_in_W (b := bw) (c := cw) (w := w) (by omega)
  have hkn := kinds_ok (b := b) (c := c) (hs := hs)
  have ht := tru_sq (c := c) (xs := hs.map (encH b))
  rw [List.isEmpty_map] at ht
  have hl := forL_pre (b := bName 2) (body := B0_check_kinds) (fun k : Int => PyData.int k) (fun pre => [.pure (sq c (hs.map (encH b))), .pure (sq cw (w.map (encB bw))), lastS PyData.int pre]) (kindsW w) (fun pre k suf e => by
    refine ⟨_, rfl, ?_⟩
    rw [lastS_snoc]
    have hm : k ∈ kindsW w := by rw [e]; simp
    generalize sq c (hs.map (encH b)) = S at hkn ht ⊢
    generalize sq cw (w.map (encB bw)) = W
    rcases hk with rfl | hk
    · simp [B0_check_kinds, ht]
    · have h1 := (hk k hm).2
      have h2 : ¬ ((widthH hs : Nat) : Int) ≤ k := by omega
      cases he : hs.isEmpty <;> simp [he] at ht <;> simp [B0_check_kinds, ht, hkn, h2])
  generalize sq c (hs.map (encH b)) = S at hl ⊢
  generalize sq cw (w.map (encB bw)) = W at hin hl ⊢
  have hl' : forL (bName 2) B0_check_kinds ((kindsW w).map PyData.int) [.pure S, .pure W, .emp] = some (.nx [.pure S, .pure W, lastS PyData.int (kindsW w)]) := hl
  generalize (kindsW w).map PyData.int = KS at hin hl'
  have fin : ∀ B : FG, forL (bName 2) B KS [.pure S, .pure W, .emp] = some (.nx [.pure S, .pure W, lastS PyData.int (kindsW w)]) →
      fDef 3 2 [] (gSeq (gFor (fiSeq (fCall Sh.F_kinds_in (frVal (fVar 1) frNil))) (bName 2) B) gSkip) [.pure S, .pure W] = some (.none, false, [.pure S, .pure W]) := fun B h => by
    simp [fDef_ap, hin, h]
  exact fin _ hl'
/-! ### best_of_each -/
def intD : D → Int
  | .int i => i
  | _ => 0
def cntS (k : Int) (kvs : KD) (h : Hit) : KD := setKV (.inr (h.lab k)) (.int (intD ((getKV kvs (.inr (h.lab k))).getD (.int 0)) + 1)) kvs
def cntD (k : Int) (pre : List Hit) : KD := pre.foldl (cntS k) []
theorem cntD_snoc {k : Int} {pre : List Hit} {a : Hit} : cntD k (pre ++ [a]) = cntS k (cntD k pre) a := by unfold cntD; rw [List.foldl_append]; rfl
def CntOk (kvs : KD) (seen : List Str) : Prop := ∀ x, getKV kvs (.inr x) = if seen.count x = 0 then none else some (.int (seen.count x : Nat))
theorem setKV_len {k : L2.Key} {d : D} (kvs : KD) : (setKV k d kvs).length ≤ kvs.length + 1 := by
  unfold setKV
  split
  · rw [List.length_map]; omega
  · rw [List.length_append]; simp
theorem cntS_ok {k : Int} {kvs : KD} {seen : List Str} {h : Hit} (g : CntOk kvs seen) : CntOk (cntS k kvs h) (h.lab k :: seen) := fun x => by
  have g0 := g (h.lab k)
  unfold cntS
  rw [getKV_set]
  by_cases e : x = h.lab k
  · subst e
    rw [if_pos rfl, List.count_cons_self, if_neg (by omega), g0]
    by_cases z : seen.count (h.lab k) = 0
    · rw [if_pos z, z]; rfl
    · rw [if_neg z]; simp [intD]
  · have e3 : ¬ (Sum.inr x : L2.Key) = .inr (h.lab k) := fun z => e (by simpa using z)
    rw [if_neg e3, List.count_cons_of_ne (fun z => e z.symm), g x]
theorem cnt_fold {k : Int} : ∀ (pre : List Hit) (kvs : KD) (seen : List Str), CntOk kvs seen → CntOk (pre.foldl (cntS k) kvs) ((pre.map fun h => h.lab k).reverse ++ seen)
  | [], kvs, seen, g => g
  | h :: r, kvs, seen, g => by
    have := cnt_fold (k := k) r _ _ (cntS_ok (k := k) (h := h) g)
    simpa using this
theorem cntD_get {k : Int} {pre : List Hit} {x : Str} : getKV (cntD k pre) (.inr x) = if (pre.map fun h => h.lab k).count x = 0 then none else some (.int ((pre.map fun h => h.lab k).count x : Nat)) := by
  have := cnt_fold (k := k) pre [] [] (fun x => by simp [getKV_nil]) x
  rw [List.append_nil, List.count_reverse] at this
  exact this
theorem cntD_len {k : Int} : ∀ (pre : List Hit) (kvs : KD), (pre.foldl (cntS k) kvs).length ≤ kvs.length + pre.length
  | [], kvs => Nat.le_refl _
  | h :: r, kvs => by
    have h1 := cntD_len (k := k) r (cntS k kvs h)
    have h2 := setKV_len (k := .inr (h.lab k)) (d := .int (intD ((getKV kvs (.inr (h.lab k))).getD (.int 0)) + 1)) kvs
    have h3 : (cntS k kvs h).length ≤ kvs.length + 1 := h2
    simp only [List.foldl_cons, List.length_cons]
    omega
theorem keepA_app {k m : Int} {a : Hit} : ∀ (pre : List Hit) (seen : List Str), keepA k m seen (pre ++ [a]) = keepA k m seen pre ++ if (((pre.map fun h => h.lab k).reverse ++ seen).count (a.lab k) : Int) < m then [a] else []
  | [], seen => by simp [keepA]
  | h :: r, seen => by
    have := keepA_app (k := k) (m := m) (a := a) r (h.lab k :: seen)
    have e : ((h :: r).map fun h => h.lab k).reverse ++ seen = (r.map fun h => h.lab k).reverse ++ (h.lab k :: seen) := by simp
    rw [e, List.cons_append]
    show (if _ then _ else _) = _
    rw [this]
    by_cases hc : ((seen.count (h.lab k) : Nat) : Int) < m
    · rw [if_pos hc]
      conv => rhs; rw [show keepA k m seen (h :: r) = h :: keepA k m (h.lab k :: seen) r from if_pos hc]
      rfl
    · rw [if_neg hc]
      conv => rhs; rw [show keepA k m seen (h :: r) = keepA k m (h.lab k :: seen) r from if_neg hc]
theorem keepA_snoc {k m : Int} {a : Hit} {pre : List Hit} : keepA k m [] (pre ++ [a]) = keepA k m [] pre ++ if ((pre.map fun h => h.lab k).count (a.lab k) : Int) < m then [a] else [] := by
  rw [keepA_app, List.append_nil, List.count_reverse]
def KOk (k : Int) (R : List Hit) : Prop := 0 ≤ k ∧ ∀ h ∈ R, k.toNat < h.l.length
theorem ge_get {k : Int} {pre : List Hit} {x : Str} : (getKV (cntD k pre) (.inr x)).getD (.int 0) = .int ((pre.map fun h => h.lab k).count x : Nat) := by
  rw [cntD_get]
  split
  · rename_i h; rw [h]; rfl
  · rfl
theorem best_ok {b : Bool} {R : List Hit} {k m : Int} (hl : R.length ≤ 1000) (hk : KOk k R) :
    F_best_of_each [.pure (.list (R.map (encH b))), .pure (.int k), .pure (.int m)] = some (.list ((keepA k m [] R).map (encH b)), true, [.pure (.list (R.map (encH b))), .pure (.int k), .pure (.int m)]) := by
  have h1 := forL_pre (b := bName 5) (body := B0_best_of_each) (encH b) (fun pre => [.pure (.list (R.map (encH b))), .pure (.int k), .pure (.int m), .dct (cntD k pre), .own ((keepA k m [] pre).map (encH b)), lastS (encH b) pre, lastS (fun h => PyData.str (h.lab k)) pre]) R (fun pre a suf e => by
    refine ⟨_, rfl, ?_⟩
    rw [lastS_snoc, lastS_snoc, cntD_snoc, keepA_snoc]
    have hx := lab_ix (b := b) (h := a) hk.1 (hk.2 a (by rw [e]; simp))
    have hg := ge_get (k := k) (pre := pre) (x := a.lab k)
    have hlen := cntD_len (k := k) pre []
    have hpl : pre.length ≤ 1000 := by rw [e] at hl; simp at hl; omega
    have hd : (cntD k pre).length < sizeLine := by rw [sizeLine_eq]; simp at hlen; unfold cntD; omega
    have hk2 : (keepA k m [] pre).length < sizeLine := by rw [sizeLine_eq]; have := (keepA_sub (k := k) (m := m) pre []).length_le; omega
    have hset : getKV (cntS k (cntD k pre) a) (.inr (a.lab k)) = some (.int (((pre.map fun h => h.lab k).count (a.lab k) : Nat) + 1)) := by
      unfold cntS
      rw [getKV_set, if_pos rfl, hg]; rfl
    have hS : cntS k (cntD k pre) a = setKV (.inr (a.lab k)) (.int (((pre.map fun h => h.lab k).count (a.lab k) : Nat) + 1)) (cntD k pre) := by
      unfold cntS
      rw [hg]; rfl
    rw [hS] at hset ⊢
    generalize ((pre.map fun h => h.lab k).count (a.lab k) : Nat) = n at hg hset ⊢
    generalize cntD k pre = kvs at hg hd hset ⊢
    have hkm : ((keepA k m [] pre).map (encH b)).length < sizeLine := by rw [List.length_map]; exact hk2
    rw [List.map_append]
    generalize (keepA k m [] pre).map (encH b) = kp at hkm ⊢
    generalize R.map (encH b) = RR
    generalize lastS (encH b) pre = s5
    generalize lastS (fun h => PyData.str (h.lab k)) pre = s6
    by_cases hc : (n : Int) < m
    · have hc2 : (n : Int) + 1 ≤ m := by omega
      simp [B0_best_of_each, hx, hg, hd, hset, hc, hc2, hkm]
    · have hc2 : ¬ (n : Int) + 1 ≤ m := by omega
      simp [B0_best_of_each, hx, hg, hd, hset, hc, hc2])
  generalize R.map (encH b) = RR at h1 ⊢
  have h2 : forL (bName 5) B0_best_of_each RR [.pure (.list RR), .pure (.int k), .pure (.int m), .dct [], .own [], .emp, .emp] = _ := h1
  generalize (keepA k m [] R).map (encH b) = out at h2 ⊢
  generalize cntD k R = kvs at h2
  generalize lastS (encH b) R = s5 at h2
  generalize lastS (fun h => PyData.str (h.lab k)) R = s6 at h2
  have fin : ∀ B : FG, forL (bName 5) B RR [.pure (.list RR), .pure (.int k), .pure (.int m), .dct [], .own [], .emp, .emp] = some (.nx [.pure (.list RR), .pure (.int k), .pure (.int m), .dct kvs, .own out, s5, s6]) →
      fDef 7 3 [] (gSeq (gNewD 3) (gSeq (gSet 4 (fLst faNil)) (gSeq (gFor (fiSeq (fVar 0)) (bName 5) B) (gSeq (gRet 3 (fVar 4)) gSkip)))) [.pure (.list RR), .pure (.int k), .pure (.int m)] = some (.list out, true, [.pure (.list RR), .pure (.int k), .pure (.int m)]) := fun B h => by
    simp [fDef_ap, h]
  exact fin _ h2
/-! ### left_by, ranks_along, picked -/
def StpOk (s : Stp) (R : List Hit) : Prop := match s with
  | .top i => 0 ≤ i
  | .each k _ => KOk k R
  | _ => True
theorem tg_f {i : Int} : tg (.floor i) = ("floor" : Str) := rfl
theorem tg_n {i : Int} : tg (.near i) = ("near" : Str) := rfl
theorem tg_t {i : Int} : tg (.top i) = ("top" : Str) := rfl
theorem tg_e {k i : Int} : tg (.each k i) = ("each" : Str) := rfl
theorem q_nf : (Str.ofString "near" == Str.ofString "floor") = false := by decide +kernel
theorem q_tf : (Str.ofString "top" == Str.ofString "floor") = false := by decide +kernel
theorem q_ef : (Str.ofString "each" == Str.ofString "floor") = false := by decide +kernel
theorem q_tn : (Str.ofString "top" == Str.ofString "near") = false := by decide +kernel
theorem q_en : (Str.ofString "each" == Str.ofString "near") = false := by decide +kernel
theorem q_te : (Str.ofString "top" == Str.ofString "each") = false := by decide +kernel
theorem q_et : (Str.ofString "each" == Str.ofString "top") = false := by decide +kernel
@[simp] theorem ix2e {b : Bool} {k i : Int} : gIx (encB b (.each k i)) (.int 2) = some (.int i, .st) := by cases b <;> simp [encB, sq, items]
theorem comp_geL {b : Bool} {L : List Hit} {env : Ev} {Fa : FE} {t : Int} {s : Slot} (hl : L.length ≤ 1000) (hs : env[2]? = some s) (hn : NoOwn s) (hI : fiSeq (fVar 0) env = some (L.map (encH b), env))
    (hT : ∀ x ∈ L, fTst Fa (env.set 2 (.pure (encH b x))) = some (decide (t ≤ x.s), env.set 2 (.pure (encH b x)))) : fComp [2] (fiSeq (fVar 0)) (bName 2) (fTst Fa) (fVar 2) env = some (.list ((geL t L).map (encH b)), .fr, env) := by
  have h2 : 2 < env.length := (List.getElem?_eq_some_iff.mp hs).1
  refine compV L (encH b) (fun x => decide (t ≤ x.s)) (encH b) hI hs hn (by rw [sizeLine_eq]; omega) fun x hx => ⟨hT x hx, fun _ => ⟨.st, trivial, ?_⟩⟩
  have : (env.set 2 (.pure (encH b x)))[2]? = some (.pure (encH b x)) := List.getElem?_set_self h2
  rw [fVar_ap, this]
theorem cut_top {α : Type} {e : α → D} {l : List α} {i : Int} (h : 0 ≤ i) : Pt.cutD (l.map e) none (some i) = (l.take i.toNat).map e := by
  have : i = ((i.toNat : Nat) : Int) := by omega
  rw [this, cut_lo, List.map_take]
  congr 1
theorem left_by_ok {b bs : Bool} {R : List Hit} {s : Stp} (hl : R.length ≤ 1000) (hs : StpOk s R) :
    F_left_by [.pure (.list (R.map (encH b))), .pure (encB bs s)] = some (.list ((stp s R).map (encH b)), true, [.pure (.list (R.map (encH b))), .pure (encB bs s)]) := by
  have i0 := ix0 (b := bs) (s := s)
  have i1 := ix1 (b := bs) (s := s)
  cases s with
  | floor i =>
    have hc := comp_geL (b := b) (L := R) (t := i) (s := .emp) (Fa := fTwo gGe (fTwo gIx (fVar 2) (fCst (.int 1))) (fTwo gIx (fVar 1) (fCst (.int 1)))) (env := [.pure (.list (R.map (encH b))), .pure (encB bs (.floor i)), .emp]) hl rfl noOwn_emp (by simp)
      (fun x _ => by
        have e : num (.floor i) = i := rfl
        generalize R.map (encH b) = RR
        simp [i1, e])
    have e : stp (.floor i) R = geL i R := rfl
    rw [e]
    generalize R.map (encH b) = RR at hc ⊢
    generalize (geL i R).map (encH b) = out at hc ⊢
    simp [F_left_by, fDef_ap, G_left_by, i0, tg_f, hc]
  | near i =>
    cases R with
    | nil =>
      have hc := comp_geL (b := b) (L := []) (t := i) (s := .emp) (Fa := fTwo gLe (fTwo gSub (fTwo gIx (fTwo gIx (fVar 0) (fCst (.int 0))) (fCst (.int 1))) (fTwo gIx (fVar 2) (fCst (.int 1)))) (fTwo gIx (fVar 1) (fCst (.int 1)))) (env := [.pure (.list ([].map (encH b))), .pure (encB bs (.near i)), .emp]) (by simp) rfl noOwn_emp (by simp) (fun x hx => by simp at hx)
      have e : geL i ([] : List Hit) = [] := rfl
      rw [e] at hc
      simp only [List.map_nil] at hc ⊢
      simp [F_left_by, fDef_ap, G_left_by, i0, tg_n, q_nf, hc, stp]
    | cons x0 r =>
      have hh : gIx (.list ((x0 :: r).map (encH b))) (.int 0) = some (encH b x0, .st) := by simp
      have hc := comp_geL (b := b) (L := x0 :: r) (t := x0.s - i) (s := .emp) (Fa := fTwo gLe (fTwo gSub (fTwo gIx (fTwo gIx (fVar 0) (fCst (.int 0))) (fCst (.int 1))) (fTwo gIx (fVar 2) (fCst (.int 1)))) (fTwo gIx (fVar 1) (fCst (.int 1)))) (env := [.pure (.list ((x0 :: r).map (encH b))), .pure (encB bs (.near i)), .emp]) hl rfl noOwn_emp (by simp)
        (fun x _ => by
          have e : num (.near i) = i := rfl
          generalize (x0 :: r).map (encH b) = RR at hh ⊢
          have e2 : decide (x0.s - x.s ≤ i) = decide (x0.s - i ≤ x.s) := by rw [decide_eq_decide]; omega
          simp [i1, e, hh, e2])
      have e : stp (.near i) (x0 :: r) = geL (x0.s - i) (x0 :: r) := rfl
      rw [e]
      generalize (x0 :: r).map (encH b) = RR at hc ⊢
      generalize (geL (x0.s - i) (x0 :: r)).map (encH b) = out at hc ⊢
      simp [F_left_by, fDef_ap, G_left_by, i0, tg_n, q_nf, hc]
  | top i =>
    have e : num (.top i) = i := rfl
    have hcut := cut_top (e := encH b) (l := R) (show 0 ≤ i from hs)
    have e2 : stp (.top i) R = R.take i.toNat := rfl
    rw [e2]
    generalize R.map (encH b) = RR at hcut ⊢
    generalize (R.take i.toNat).map (encH b) = out at hcut ⊢
    simp [F_left_by, fDef_ap, G_left_by, i0, i1, e, tg_t, q_tf, q_tn, q_te, gSl, hcut]
  | each k i =>
    have e : num (.each k i) = k := rfl
    have hb := best_ok (b := b) (m := i) hl (show KOk k R from hs)
    have e2 : stp (.each k i) R = keepA k i [] R := rfl
    rw [e2]
    generalize R.map (encH b) = RR at hb ⊢
    generalize (keepA k i [] R).map (encH b) = out at hb ⊢
    simp [F_left_by, fDef_ap, G_left_by, i0, i1, e, tg_e, q_ef, q_en, hb]
def rksL (R : List Hit) (w : List Stp) : List (List Hit) := w.foldl (fun L s => L ++ [stp s ((L.getLast?).getD [])]) [R]
theorem rksL_snoc {R : List Hit} {w : List Stp} {s : Stp} : rksL R (w ++ [s]) = rksL R w ++ [stp s (((rksL R w).getLast?).getD [])] := by unfold rksL; rw [List.foldl_append]; rfl
theorem rksL_last {R : List Hit} : ∀ w : List Stp, ∃ L, rksL R w = L ++ [pk R w] ∧ L.length = w.length := by
  intro w
  have go : ∀ (w : List Stp) (L : List (List Hit)) (Q : List Hit), ∃ L', w.foldl (fun L s => L ++ [stp s ((L.getLast?).getD [])]) (L ++ [Q]) = L' ++ [pk Q w] ∧ L'.length = L.length + w.length := by
    intro w
    induction w with
    | nil => intro L Q; exact ⟨L, rfl, rfl⟩
    | cons s w ih =>
      intro L Q
      obtain ⟨L', h1, h2⟩ := ih (L ++ [Q]) (stp s Q)
      refine ⟨L', ?_, by rw [h2]; simp; omega⟩
      rw [List.foldl_cons]
      have : (((L ++ [Q]).getLast?).getD []) = Q := by rw [List.getLast?_append]; rfl
      rw [this]
      exact h1
  obtain ⟨L', h1, h2⟩ := go w [] R
  exact ⟨L', h1, by simpa using h2⟩
theorem rksL_get {R : List Hit} {w : List Stp} : ((rksL R w).getLast?).getD [] = pk R w := by
  obtain ⟨L, h, _⟩ := rksL_last (R := R) w
  rw [h, List.getLast?_append]; rfl
theorem rksL_len {R : List Hit} {w : List Stp} : (rksL R w).length = w.length + 1 := by
  obtain ⟨L, h, hl⟩ := rksL_last (R := R) w
  rw [h]; simp [hl]
def encL (b : Bool) (L : List Hit) : D := .list (L.map (encH b))
theorem ix_last {xs : List D} {d : D} : gIx (.list (xs ++ [d])) (.int (-1)) = some (d, .st) := by
  have h1 : ixN (xs ++ [d]).length (-1) = some xs.length := by
    unfold ixN
    simp
    omega
  unfold gIx
  dsimp only
  have : atI (xs ++ [d]) (-1) = some d := by
    unfold atI
    rw [h1]
    simp
  rw [this]
/-- the word can be used on the hits -/
def WordOk (hs : List Hit) (w : List Stp) : Prop := ∀ s ∈ w, StpOk s hs
theorem StpOk.sub {s : Stp} {R S : List Hit} (h : StpOk s R) (m : ∀ x ∈ S, x ∈ R) : StpOk s S := by
  cases s with
  | each k i => exact ⟨h.1, fun x hx => h.2 x (m x hx)⟩
  | _ => exact h
theorem rank_mem {hs : List Hit} {x : Hit} : x ∈ rank hs ↔ x ∈ hs := isP_mem
theorem rank_len {hs : List Hit} : (rank hs).length = hs.length := isP_len
theorem ranks_ok {b c bw cw : Bool} {hs : List Hit} {w : List Stp} (hl : hs.length ≤ 1000) (hw : w.length ≤ 1000) (hk : KindsOk hs w) (ho : WordOk hs w) :
    F_ranks_along [.pure (sq c (hs.map (encH b))), .pure (sq cw (w.map (encB bw)))] = some (.list ((rksL (rank hs) w).map (encL b)), true, [.pure (sq c (hs.map (encH b))), .pure (sq cw (w.map (encB bw)))]) := by
  have hc := check_kinds_ok (b := b) (c := c) (bw := bw) (cw := cw) hw hk
  have hr := ranked_ok (b := b) (c := c) hl
  have h1 := forL_pre (b := bName 3) (body := B0_ranks_along) (encB bw) (fun pre => [.pure (sq c (hs.map (encH b))), .pure (sq cw (w.map (encB bw))), .own ((rksL (rank hs) pre).map (encL b)), lastS (encB bw) pre]) w (fun pre s suf e => by
    refine ⟨_, rfl, ?_⟩
    rw [lastS_snoc, rksL_snoc, rksL_get, List.map_append, List.map_singleton]
    obtain ⟨L, hL, hLl⟩ := rksL_last (R := rank hs) pre
    have hmem : ∀ x ∈ pk (rank hs) pre, x ∈ hs := fun x hx => rank_mem.mp ((pk_sub pre (rank hs)).subset hx)
    have hlb := left_by_ok (b := b) (bs := bw) (R := pk (rank hs) pre) (s := s) (by have := (pk_sub pre (rank hs)).length_le; rw [rank_len] at this; omega) ((ho s (by rw [e]; simp)).sub hmem)
    have hix : gIx (.list ((rksL (rank hs) pre).map (encL b))) (.int (-1)) = some (.list ((pk (rank hs) pre).map (encH b)), .st) := by
      rw [hL, List.map_append, List.map_singleton]; exact ix_last
    have hlen : ((rksL (rank hs) pre).map (encL b)).length < sizeLine := by
      rw [List.length_map, rksL_len, sizeLine_eq]
      have : pre.length ≤ 1000 := by rw [e] at hw; simp at hw; omega
      omega
    have hd : encL b (stp s (pk (rank hs) pre)) = .list ((stp s (pk (rank hs) pre)).map (encH b)) := rfl
    rw [hd]
    generalize (stp s (pk (rank hs) pre)).map (encH b) = out at hlb ⊢
    generalize (pk (rank hs) pre).map (encH b) = cur at hlb hix
    generalize (rksL (rank hs) pre).map (encL b) = own at hix hlen ⊢
    generalize sq c (hs.map (encH b)) = S
    generalize sq cw (w.map (encB bw)) = W
    generalize lastS (encB bw) pre = s3
    simp [B0_ranks_along, hix, hlb, hlen])
  have h2 : forL (bName 3) B0_ranks_along (w.map (encB bw)) [.pure (sq c (hs.map (encH b))), .pure (sq cw (w.map (encB bw))), .own [.list ((rank hs).map (encH b))], .emp] = _ := h1
  have hit : itemsD (sq cw (w.map (encB bw))) = some (w.map (encB bw)) := items_sq
  generalize (rksL (rank hs) w).map (encL b) = out at h2 ⊢
  generalize (rank hs).map (encH b) = rk at hr h2
  generalize w.map (encB bw) = ws at hc h2 hit ⊢
  generalize sq cw ws = W at hc h2 hit ⊢
  generalize sq c (hs.map (encH b)) = S at hc hr h2 ⊢
  generalize lastS (encB bw) w = s3 at h2
  have fin : ∀ B : FG, forL (bName 3) B ws [.pure S, .pure W, .own [.list rk], .emp] = some (.nx [.pure S, .pure W, .own out, s3]) →
      fDef 4 2 [] (gSeq (gDrop (fCall Sh.F_check_kinds (frVal (fVar 0) (frVal (fVar 1) frNil)))) (gSeq (gSet 2 (fLst (faCons (fCall Sh.F_ranked (frVal (fVar 0) frNil)) faNil))) (gSeq (gFor (fiSeq (fVar 1)) (bName 3) B) (gSeq (gRet 2 (fVar 2)) gSkip)))) [.pure S, .pure W] = some (.list out, true, [.pure S, .pure W]) := fun B h => by
    simp [fDef_ap, hc, hr, hit, h]
  exact fin _ h2
/-- the names that a word picks -/
def pickN (hs : List Hit) (w : List Stp) : List Str := sortS ((pk (rank hs) w).map Hit.n)
theorem picked_ok {b c bw cw : Bool} {hs : List Hit} {w : List Stp} (hl : hs.length ≤ 1000) (hw : w.length ≤ 1000) (hk : KindsOk hs w) (ho : WordOk hs w) :
    F_picked [.pure (sq c (hs.map (encH b))), .pure (sq cw (w.map (encB bw)))] = some (.tuple ((pickN hs w).map PyData.str), false, [.pure (sq c (hs.map (encH b))), .pure (sq cw (w.map (encB bw)))]) := by
  have hr := ranks_ok (b := b) (c := c) (bw := bw) (cw := cw) hl hw hk ho
  obtain ⟨L, hL, hLl⟩ := rksL_last (R := rank hs) w
  have hn := name_set_ok (b := b) (c := true) (hs := pk (rank hs) w) (by have := (pk_sub w (rank hs)).length_le; rw [rank_len] at this; omega)
  have hix : gIx (.list ((rksL (rank hs) w).map (encL b))) (.int (-1)) = some (.list ((pk (rank hs) w).map (encH b)), .st) := by
    rw [hL, List.map_append, List.map_singleton]; exact ix_last
  have e : sq true ((pk (rank hs) w).map (encH b)) = .list ((pk (rank hs) w).map (encH b)) := rfl
  rw [e] at hn
  unfold pickN
  generalize (sortS ((pk (rank hs) w).map Hit.n)).map PyData.str = out at hn ⊢
  generalize (pk (rank hs) w).map (encH b) = cur at hn hix
  generalize (rksL (rank hs) w).map (encL b) = rks at hr hix
  generalize sq c (hs.map (encH b)) = S at hr ⊢
  generalize sq cw (w.map (encB bw)) = W at hr ⊢
  simp [F_picked, fDef_ap, G_picked, hr, hix, hn]
end Sh

/-! The law's own picking, read as data: it is the program's. -/
namespace Sh
open PySem PySem.Spec PyProof.Rows L2 Pt
/-! ### hits compared as data -/
theorem alike_strs : ∀ xs ys : List Str, PySem.W.alikeAll (xs.map PyData.str) (ys.map PyData.str) = true
  | [], _ => by simp [PySem.W.alikeAll]
  | _ :: _, [] => by simp [PySem.W.alikeAll]
  | x :: xs, y :: ys => by
    show PySem.W.alikeAll (.str x :: xs.map .str) (.str y :: ys.map .str) = true
    rw [PySem.W.alikeAll, alike_strs xs ys]
    simp [PySem.W.alike]
theorem depth_strs : ∀ xs : List Str, PyData.depthAll (xs.map PyData.str) = 0
  | [] => by simp [PyData.depthAll]
  | x :: xs => by
    show PyData.depthAll (.str x :: xs.map .str) = 0
    rw [PyData.depthAll, depth_strs xs]
    simp [PyData.depth]
theorem plain_strs : ∀ xs : List Str, PyData.plainAll (xs.map PyData.str) = true
  | [] => rfl
  | x :: xs => by simp [PyData.plainAll, PyData.plain, plain_strs xs]
theorem alike_enc {b : Bool} (x y : Hit) : PySem.W.alike (encH b x) (encH b y) = true := by
  cases b <;> simp [encH, sq, PySem.W.alike, PySem.W.alikeAll, alike_strs]
theorem depth_enc {b : Bool} (x : Hit) : PyData.depth (encH b x) = 2 := by
  cases b <;> simp [encH, sq, PyData.depth, PyData.depthAll, depth_strs]
theorem plain_enc {b : Bool} (x : Hit) : PyData.plain (encH b x) = true := by
  cases b <;> simp [encH, sq, PyData.plain, PyData.plainAll, plain_strs]
theorem plain_encHs {b : Bool} : ∀ l : List Hit, PyData.plainAll (l.map (encH b)) = true
  | [] => rfl
  | x :: l => by simp [PyData.plainAll, plain_enc, plain_encHs l]
/-- names tell hits apart -/
def Dist (l : List Hit) : Prop := ∀ x ∈ l, ∀ y ∈ l, x.n = y.n → x = y
theorem Dist.sub {l m : List Hit} (h : Dist l) (s : ∀ x ∈ m, x ∈ l) : Dist m := fun x hx y hy => h x (s x hx) y (s y hy)
theorem lt_self (d : D) : PySem.W.dataLt d d = false := by
  have := (dLe_total.total d d).elim id id
  unfold dLe at this
  simpa using this
theorem lt_enc {x y : Hit} (h : x.n = y.n → x = y) : PySem.W.dataLt (encH false x) (encH false y) = !nle y.n x.n := by
  have e1 : encH false x = .tuple [.str x.n, .int x.s, .tuple (x.l.map PyData.str)] := rfl
  have e2 : encH false y = .tuple [.str y.n, .int y.s, .tuple (y.l.map PyData.str)] := rfl
  by_cases z : x.n = y.n
  · have := h z
    subst this
    rw [lt_self, nle_refl]; rfl
  · rw [e1, e2, PySem.W.dataLt_tuple, PySem.W.dataLt_cons (by simp [PySem.W.alike])]
    simp only [PyData.eqv, beq_iff_eq]
    rw [if_neg z, PySem.W.dataLt_str]
    have : nle y.n x.n = !decide (x.n.cps.toList < y.n.cps.toList) := by unfold nle; rw [PySem.W.not_lt_str]
    rw [this]; simp
/-- (-score, hit) -/
def encK (h : Hit) : D := .tuple [.int (-h.s), encH false h]
theorem dLe_encK {x y : Hit} (h : x.n = y.n → x = y) : dLe (encK x) (encK y) = kleH x y := by
  unfold dLe encK kleH
  rw [PySem.W.dataLt_pair (by simp [PySem.W.alike]) (alike_enc y x), PySem.W.dataLt_int, lt_enc (fun e => (h e.symm).symm)]
  simp only [PyData.eqv, beq_iff_eq]
  by_cases h1 : -y.s = -x.s
  · have h2 : x.s = y.s := by omega
    rw [if_pos h1]
    have e : (decide (y.s < x.s) || decide (x.s = y.s) && nle x.n y.n) = nle x.n y.n := by simp [h2]
    rw [e]
    by_cases h3 : PyData.eqv (encH false y) (encH false x) = true
    · rw [if_pos h3]
      have : y.n = x.n := by
        have e1 : encH false x = .tuple [.str x.n, .int x.s, .tuple (x.l.map PyData.str)] := rfl
        have e2 : encH false y = .tuple [.str y.n, .int y.s, .tuple (y.l.map PyData.str)] := rfl
        rw [e1, e2] at h3
        simp only [PyData.eqv, PyData.eqvAll, Bool.and_eq_true, beq_iff_eq] at h3
        exact h3.1
      rw [this, nle_refl]; rfl
    · rw [if_neg h3]; simp
  · rw [if_neg h1]
    have h2 : ¬ x.s = y.s := by omega
    rw [Bool.eq_iff_iff]
    simp [h2]
    omega
theorem dLe_enc {x y : Hit} (h : x.n = y.n → x = y) : dLe (encH false x) (encH false y) = nle x.n y.n := by
  unfold dLe
  rw [lt_enc fun e => (h e.symm).symm]; simp
def sortH (l : List Hit) : List Hit := isP (fun x y => nle x.n y.n) l
theorem ntot : Tot (fun x y : Hit => nle x.n y.n) := ⟨fun a b c => nle_tot.tr _ _ _, fun a b => nle_tot.to _ _⟩
theorem sorted_hits {l : List Hit} (h : Dist l) : gSorted (.list (l.map (encH false))) = some (.list ((sortH l).map (encH false)), .fr) := by
  unfold gSorted
  dsimp only
  rw [if_pos, isort_P]
  · rw [isP_map (le := fun x y => nle x.n y.n) (f := encH false) l fun x hx y hy => dLe_enc (h x hx y hy)]; rfl
  · simp only [Bool.and_eq_true, List.all_eq_true, alikes, sortables, Bool.or_eq_true, decide_eq_true_eq]
    refine ⟨⟨fun d hd e he => ?_, .inl fun d hd => ?_⟩, fun d hd => ?_⟩
    · obtain ⟨a, _, rfl⟩ := List.mem_map.mp hd
      obtain ⟨c, _, rfl⟩ := List.mem_map.mp he
      exact alike_enc a c
    · obtain ⟨a, _, rfl⟩ := List.mem_map.mp hd
      rfl
    · obtain ⟨a, _, rfl⟩ := List.mem_map.mp hd
      rw [depth_enc]; decide
theorem sorted_keys {l : List Hit} (h : Dist l) : gSorted (.list (l.map encK)) = some (.list ((rank l).map encK), .fr) := by
  unfold gSorted
  dsimp only
  rw [if_pos, isort_P]
  · rw [isP_map (le := kleH) (f := encK) l fun x hx y hy => dLe_encK (h x hx y hy)]; rfl
  · simp only [Bool.and_eq_true, List.all_eq_true, alikes, sortables, Bool.or_eq_true, decide_eq_true_eq]
    refine ⟨⟨fun d hd e he => ?_, .inl fun d hd => ?_⟩, fun d hd => ?_⟩
    · obtain ⟨a, _, rfl⟩ := List.mem_map.mp hd
      obtain ⟨c, _, rfl⟩ := List.mem_map.mp he
      simp [encK, PySem.W.alike, PySem.W.alikeAll, alike_enc]
    · obtain ⟨a, _, rfl⟩ := List.mem_map.mp hd
      rfl
    · obtain ⟨a, _, rfl⟩ := List.mem_map.mp hd
      simp [encK, PyData.depth, PyData.depthAll, depth_enc]
/-! ### the law's steps -/
def lawStp : Stp → List Hit → List Hit
  | .floor i, G => geL i G
  | .near i, G => match rank G with
    | [] => []
    | b :: _ => geL (b.s - i) G
  | .top i, G => sortH ((rank G).take i.toNat)
  | .each k m, G => sortH (keepA k m [] (rank G))
def NS (G : List Hit) : Prop := G.Pairwise fun a b => nle a.n b.n = true
theorem sortH_of {xs ys : List Hit} (h : xs.Perm ys) (n : NS ys) (d : Dist ys) : sortH xs = ys :=
  isP_sorted ntot h n fun a ha b hb h1 h2 => d a ha b hb (nle_anti h1 h2)
theorem rank_of {xs ys : List Hit} (h : xs.Perm ys) (n : ys.Pairwise fun a b => kleH a b = true) (d : Dist ys) : rank xs = ys :=
  isP_sorted kleH_tot h n fun a ha b hb h1 h2 => d a ha b hb (kleH_anti h1 h2)
theorem sortH_perm {l : List Hit} : (sortH l).Perm l := isP_perm l
theorem rank_perm {l : List Hit} : (rank l).Perm l := isP_perm l
theorem sortH_ns {l : List Hit} : NS (sortH l) := isP_pw ntot l
theorem rank_pw {l : List Hit} : (rank l).Pairwise fun a b => kleH a b = true := isP_pw kleH_tot l
theorem sortH_mem {l : List Hit} {x : Hit} : x ∈ sortH l ↔ x ∈ l := isP_mem
theorem rank_sub {G S : List Hit} (d : Dist G) (h : S.Sublist (rank G)) : rank (sortH S) = S :=
  rank_of sortH_perm (rank_pw.sublist h) (d.sub fun x hx => rank_mem.mp (h.subset hx))
theorem lawStp_eq {G : List Hit} (s : Stp) (n : NS G) (d : Dist G) : lawStp s G = sortH (stp s (rank G)) := by
  have ge : ∀ t, geL t G = sortH (geL t (rank G)) := fun t => (sortH_of (rank_perm.filter _) (n.sublist geL_sub) (d.sub fun x hx => geL_sub.subset hx)).symm
  cases s with
  | floor i => exact ge i
  | near i =>
    show (match rank G with
      | [] => []
      | b :: _ => geL (b.s - i) G) = _
    cases e : rank G with
    | nil => rfl
    | cons b r =>
      show geL (b.s - i) G = sortH (geL (b.s - i) (b :: r))
      rw [← e]; exact ge _
  | top i => rfl
  | each k m => rfl
def lawLeft (G : List Hit) (w : List Stp) : List Hit := w.foldl (fun G s => if G = [] then [] else lawStp s G) G
theorem lawLeft_eq : ∀ (w : List Stp) (G : List Hit), NS G → Dist G → lawLeft G w = sortH (pk (rank G) w)
  | [], G, n, d => (sortH_of rank_perm n d).symm
  | s :: w, G, n, d => by
    have h1 : (if G = [] then [] else lawStp s G) = sortH (stp s (rank G)) := by
      split
      · rename_i e
        subst e
        have : stp s (rank []) = [] := List.sublist_nil.mp (stp_sub s _)
        rw [this]; rfl
      · exact lawStp_eq s n d
    show lawLeft (if G = [] then [] else lawStp s G) w = sortH (pk (stp s (rank G)) w)
    rw [h1, lawLeft_eq w _ sortH_ns (d.sub fun x hx => rank_mem.mp ((stp_sub s _).subset (sortH_mem.mp hx))), rank_sub d (stp_sub s _)]
theorem sortH_names {l : List Hit} : (sortH l).map Hit.n = sortS (l.map Hit.n) := (isP_map l fun _ _ _ _ => rfl).symm
theorem lawLeft_names {G : List Hit} {w : List Stp} (n : NS G) (d : Dist G) : (lawLeft G w).map Hit.n = pickN G w := by
  rw [lawLeft_eq w G n d, sortH_names]; rfl
end Sh

/-! The law's picking: its defs read as data. -/
namespace Sh
open PySem PySem.Spec PyProof.Rows L2 Pt
@[simp] theorem kx0 {x : Hit} : gIx (encK x) (.int 0) = some (.int (-x.s), .st) := by simp [encK]
theorem comp_geV {v : Nat} {L : List Hit} {env : Ev} {I : FI} {Fa : FE} {t : Int} {s : Slot} (hl : L.length ≤ 1000) (hs : env[v]? = some s) (hn : NoOwn s) (hI : I env = some (L.map (encH false), env))
    (hT : ∀ x ∈ L, fTst Fa (env.set v (.pure (encH false x))) = some (decide (t ≤ x.s), env.set v (.pure (encH false x)))) : fComp [v] I (bName v) (fTst Fa) (fVar v) env = some (.list ((geL t L).map (encH false)), .fr, env) := by
  have h2 : v < env.length := (List.getElem?_eq_some_iff.mp hs).1
  refine compV L (encH false) (fun x => decide (t ≤ x.s)) (encH false) hI hs hn (by rw [sizeLine_eq]; omega) fun x hx => ⟨hT x hx, fun _ => ⟨.st, trivial, ?_⟩⟩
  have : (env.set v (.pure (encH false x)))[v]? = some (.pure (encH false x)) := List.getElem?_set_self h2
  rw [fVar_ap, this]
/-- the head of the def: the ranked row -/
theorem step_keys {G : List Hit} {bit : D} (hl : G.length ≤ 1000) (d : Dist G) :
    fOne gSorted (fComp [3] (fiSeq (fVar 0)) (bName 3) fTYes (fTup (faCons (fOne gNeg (fTwo gIx (fVar 3) (fCst (.int 1)))) (faCons (fVar 3) faNil)))) [.pure (.list (G.map (encH false))), .pure bit, .emp, .emp, .emp, .emp, .emp, .emp]
      = some (.list ((rank G).map encK), .fr, [.pure (.list (G.map (encH false))), .pure bit, .emp, .emp, .emp, .emp, .emp, .emp]) := by
  have hc := compV (i := 3) (I := fiSeq (fVar 0)) (T := fTYes) (E := fTup (faCons (fOne gNeg (fTwo gIx (fVar 3) (fCst (.int 1)))) (faCons (fVar 3) faNil))) (env := [.pure (.list (G.map (encH false))), .pure bit, .emp, .emp, .emp, .emp, .emp, .emp]) G (encH false) (fun _ => true) encK (by simp) rfl noOwn_emp (by rw [sizeLine_eq]; omega)
    (fun x _ => ⟨rfl, fun _ => ⟨.st, trivial, by
      generalize G.map (encH false) = GG
      simp [encK]⟩⟩)
  rw [filter_true] at hc
  have hs := sorted_keys d
  generalize G.map (encH false) = GG at hc ⊢
  generalize G.map encK = GK at hc hs
  generalize (rank G).map encK = RK at hs ⊢
  simp [hc, hs]
/-- the walk of the each -/
theorem each_loop {G R : List Hit} {k m : Int} {bit : D} (h1 : gIx bit (.int 1) = some (.int k, .st)) (h2 : gIx bit (.int 2) = some (.int m, .st)) (hl : R.length ≤ 1000) (hk : KOk k R) {GG RK : List D} :
    ∃ kvs s6 s3 s7, forL (bTup [6, 3]) B0__law_step (R.map encK) [.pure (.list GG), .pure bit, .pure (.list RK), .emp, .own [], .dct [], .emp, .emp] = some (.nx [.pure (.list GG), .pure bit, .pure (.list RK), s3, .own ((keepA k m [] R).map (encH false)), .dct kvs, s6, s7]) := by
  have h := forL_pre (b := bTup [6, 3]) (body := B0__law_step) encK (fun pre => [.pure (.list GG), .pure bit, .pure (.list RK), lastS (encH false) pre, .own ((keepA k m [] pre).map (encH false)), .dct (cntD k pre), lastS (fun h : Hit => PyData.int (-h.s)) pre, lastS (fun h => PyData.str (h.lab k)) pre]) R (fun pre a suf e => by
    refine ⟨[.pure (.list GG), .pure bit, .pure (.list RK), .pure (encH false a), .own ((keepA k m [] pre).map (encH false)), .dct (cntD k pre), .pure (.int (-a.s)), lastS (fun h => PyData.str (h.lab k)) pre], rfl, ?_⟩
    rw [lastS_snoc, lastS_snoc, lastS_snoc, cntD_snoc, keepA_snoc]
    have hx := lab_ix (b := false) (h := a) hk.1 (hk.2 a (by rw [e]; simp))
    have hg := ge_get (k := k) (pre := pre) (x := a.lab k)
    have hlen := cntD_len (k := k) pre []
    have hpl : pre.length ≤ 1000 := by rw [e] at hl; simp at hl; omega
    have hd : (cntD k pre).length < sizeLine := by rw [sizeLine_eq]; simp at hlen; unfold cntD; omega
    have hk2 : (keepA k m [] pre).length < sizeLine := by rw [sizeLine_eq]; have := (keepA_sub (k := k) (m := m) pre []).length_le; omega
    have hset : getKV (cntS k (cntD k pre) a) (.inr (a.lab k)) = some (.int (((pre.map fun h => h.lab k).count (a.lab k) : Nat) + 1)) := by
      unfold cntS
      rw [getKV_set, if_pos rfl, hg]; rfl
    have hS : cntS k (cntD k pre) a = setKV (.inr (a.lab k)) (.int (((pre.map fun h => h.lab k).count (a.lab k) : Nat) + 1)) (cntD k pre) := by
      unfold cntS
      rw [hg]; rfl
    rw [hS] at hset ⊢
    generalize ((pre.map fun h => h.lab k).count (a.lab k) : Nat) = n at hg hset ⊢
    generalize cntD k pre = kvs at hg hd hset ⊢
    have hkm : ((keepA k m [] pre).map (encH false)).length < sizeLine := by rw [List.length_map]; exact hk2
    rw [List.map_append]
    generalize (keepA k m [] pre).map (encH false) = kp at hkm ⊢
    generalize lastS (fun h => PyData.str (h.lab k)) pre = s6
    by_cases hc : (n : Int) < m
    · have hc2 : (n : Int) + 1 ≤ m := by omega
      simp [B0__law_step, hx, h1, h2, hg, hd, hset, hc, hc2, hkm]
    · have hc2 : ¬ (n : Int) + 1 ≤ m := by omega
      simp [B0__law_step, hx, h1, h2, hg, hd, hset, hc, hc2])
  exact ⟨_, _, _, _, h⟩
theorem law_step_ok {G : List Hit} {s : Stp} (hl : G.length ≤ 1000) (d : Dist G) (ho : StpOk s G) :
    F__law_step [.pure (.list (G.map (encH false))), .pure (encB false s)] = some (.list ((lawStp s G).map (encH false)), true, [.pure (.list (G.map (encH false))), .pure (encB false s)]) := by
  have hk := step_keys (bit := encB false s) hl d
  have i0 := ix0 (b := false) (s := s)
  have i1 := ix1 (b := false) (s := s)
  have hrl : (rank G).length ≤ 1000 := by rw [rank_len]; exact hl
  cases s with
  | floor i =>
    have hc := comp_geV (v := 3) (L := G) (t := i) (s := .emp) (I := fiSeq (fVar 0)) (Fa := fTwo gGe (fTwo gIx (fVar 3) (fCst (.int 1))) (fTwo gIx (fVar 1) (fCst (.int 1)))) (env := [.pure (.list (G.map (encH false))), .pure (encB false (.floor i)), .own ((rank G).map encK), .emp, .emp, .emp, .emp, .emp]) hl rfl noOwn_emp (by simp)
      (fun x _ => by
        have e : num (.floor i) = i := rfl
        generalize G.map (encH false) = GG
        generalize (rank G).map encK = RK
        simp [i1, e])
    have e : lawStp (.floor i) G = geL i G := rfl
    rw [e]
    generalize (rank G).map encK = RK at hk hc
    generalize G.map (encH false) = GG at hk hc ⊢
    generalize (geL i G).map (encH false) = out at hc ⊢
    have fin : ∀ K C : FE, K [.pure (.list GG), .pure (encB false (.floor i)), .emp, .emp, .emp, .emp, .emp, .emp] = some (.list RK, .fr, [.pure (.list GG), .pure (encB false (.floor i)), .emp, .emp, .emp, .emp, .emp, .emp]) →
        C [.pure (.list GG), .pure (encB false (.floor i)), .own RK, .emp, .emp, .emp, .emp, .emp] = some (.list out, .fr, [.pure (.list GG), .pure (encB false (.floor i)), .own RK, .emp, .emp, .emp, .emp, .emp]) → ∀ rest : FG,
        fDef 8 2 [] (gSeq (gSet 2 K) (gSeq (gIfS (fTst (fTwo gEq (fTwo gIx (fVar 1) (fCst (.int 0))) (fCst (.str "floor")))) (gSeq (gRet 2 C) gSkip) gSkip) rest)) [.pure (.list GG), .pure (encB false (.floor i))] = some (.list out, true, [.pure (.list GG), .pure (encB false (.floor i))]) := fun K C h1 h2 rest => by
      simp [fDef_ap, h1, h2, i0, tg_f]
    exact fin _ _ hk hc _
  | near i =>
    have hc : fComp [3] (fiSeq (fVar 0)) (bName 3) (fTst (fTwo gLe (fTwo gSub (fOne gNeg (fTwo gIx (fTwo gIx (fVar 2) (fCst (.int 0))) (fCst (.int 0)))) (fTwo gIx (fVar 3) (fCst (.int 1)))) (fTwo gIx (fVar 1) (fCst (.int 1))))) (fVar 3) [.pure (.list (G.map (encH false))), .pure (encB false (.near i)), .own ((rank G).map encK), .emp, .emp, .emp, .emp, .emp]
        = some (.list ((lawStp (.near i) G).map (encH false)), .fr, [.pure (.list (G.map (encH false))), .pure (encB false (.near i)), .own ((rank G).map encK), .emp, .emp, .emp, .emp, .emp]) := by
      cases e : rank G with
      | nil =>
        have eG : G = [] := by
          have := rank_len (hs := G)
          rw [e] at this
          exact List.eq_nil_of_length_eq_zero this.symm
        have e2 : lawStp (.near i) G = geL i [] := by
          show (match rank G with
            | [] => []
            | b :: _ => geL (b.s - i) G) = _
          rw [e]; rfl
        rw [e2, eG]
        exact comp_geV (v := 3) (L := []) (t := i) (s := .emp) (by simp) rfl noOwn_emp (by simp) (fun x hx => by simp at hx)
      | cons b r =>
        have e2 : lawStp (.near i) G = geL (b.s - i) G := by
          show (match rank G with
            | [] => []
            | b :: _ => geL (b.s - i) G) = _
          rw [e]
        rw [e2]
        have hh : gIx (.list ((b :: r).map encK)) (.int 0) = some (encK b, .st) := by simp
        refine comp_geV (v := 3) (L := G) (t := b.s - i) (s := .emp) hl rfl noOwn_emp (by simp) (fun x _ => ?_)
        have e3 : num (.near i) = i := rfl
        generalize G.map (encH false) = GG
        generalize (b :: r).map encK = RK at hh ⊢
        have e4 : decide (- -b.s - x.s ≤ i) = decide (b.s - i ≤ x.s) := by rw [decide_eq_decide]; omega
        simp only [Int.neg_neg] at e4
        simp [i1, e3, hh, e4]
    generalize (rank G).map encK = RK at hk hc
    generalize G.map (encH false) = GG at hk hc ⊢
    generalize (lawStp (.near i) G).map (encH false) = out at hc ⊢
    have fin : ∀ K C : FE, K [.pure (.list GG), .pure (encB false (.near i)), .emp, .emp, .emp, .emp, .emp, .emp] = some (.list RK, .fr, [.pure (.list GG), .pure (encB false (.near i)), .emp, .emp, .emp, .emp, .emp, .emp]) →
        C [.pure (.list GG), .pure (encB false (.near i)), .own RK, .emp, .emp, .emp, .emp, .emp] = some (.list out, .fr, [.pure (.list GG), .pure (encB false (.near i)), .own RK, .emp, .emp, .emp, .emp, .emp]) → ∀ A rest : FG,
        fDef 8 2 [] (gSeq (gSet 2 K) (gSeq (gIfS (fTst (fTwo gEq (fTwo gIx (fVar 1) (fCst (.int 0))) (fCst (.str "floor")))) A gSkip) (gSeq (gIfS (fTst (fTwo gEq (fTwo gIx (fVar 1) (fCst (.int 0))) (fCst (.str "near")))) (gSeq (gRet 2 C) gSkip) gSkip) rest))) [.pure (.list GG), .pure (encB false (.near i))] = some (.list out, true, [.pure (.list GG), .pure (encB false (.near i))]) := fun K C h1 h2 A rest => by
      simp [fDef_ap, h1, h2, i0, tg_n, q_nf]
    exact fin _ _ hk hc _ _
  | top i =>
    have e : num (.top i) = i := rfl
    have hcut := cut_top (e := encK) (l := rank G) (show 0 ≤ i from ho)
    have hd : Dist ((rank G).take i.toNat) := d.sub fun x hx => rank_mem.mp (List.mem_of_mem_take hx)
    have hs := sorted_hits hd
    have hc := compV (i := 3) (I := fiSeq (fSl (fVar 2) foNone (foSome (fTwo gIx (fVar 1) (fCst (.int 1)))))) (T := fTYes) (E := fTwo gIx (fVar 3) (fCst (.int 1))) (env := [.pure (.list (G.map (encH false))), .pure (encB false (.top i)), .own ((rank G).map encK), .emp, .emp, .emp, .emp, .emp]) ((rank G).take i.toNat) encK (fun _ => true) (encH false)
      (by
        generalize G.map (encH false) = GG
        generalize (rank G).map encK = RK at hcut ⊢
        generalize ((rank G).take i.toNat).map encK = RT at hcut ⊢
        simp [i1, e, gSl, hcut]) rfl noOwn_emp (by rw [List.length_take, sizeLine_eq]; omega)
      (fun x _ => ⟨rfl, fun _ => ⟨.st, trivial, by
        generalize G.map (encH false) = GG
        generalize (rank G).map encK = RK
        simp [encK]⟩⟩)
    rw [filter_true] at hc
    have e2 : lawStp (.top i) G = sortH ((rank G).take i.toNat) := rfl
    rw [e2]
    generalize (rank G).map encK = RK at hk hc
    generalize G.map (encH false) = GG at hk hc ⊢
    generalize ((rank G).take i.toNat).map (encH false) = mid at hc hs
    generalize (sortH ((rank G).take i.toNat)).map (encH false) = out at hs ⊢
    have fin : ∀ K C : FE, K [.pure (.list GG), .pure (encB false (.top i)), .emp, .emp, .emp, .emp, .emp, .emp] = some (.list RK, .fr, [.pure (.list GG), .pure (encB false (.top i)), .emp, .emp, .emp, .emp, .emp, .emp]) →
        C [.pure (.list GG), .pure (encB false (.top i)), .own RK, .emp, .emp, .emp, .emp, .emp] = some (.list mid, .fr, [.pure (.list GG), .pure (encB false (.top i)), .own RK, .emp, .emp, .emp, .emp, .emp]) → ∀ A A2 rest : FG,
        fDef 8 2 [] (gSeq (gSet 2 K) (gSeq (gIfS (fTst (fTwo gEq (fTwo gIx (fVar 1) (fCst (.int 0))) (fCst (.str "floor")))) A gSkip) (gSeq (gIfS (fTst (fTwo gEq (fTwo gIx (fVar 1) (fCst (.int 0))) (fCst (.str "near")))) A2 gSkip) (gSeq (gIfS (fTst (fTwo gEq (fTwo gIx (fVar 1) (fCst (.int 0))) (fCst (.str "top")))) (gSeq (gRet 2 (fOne gSorted C)) gSkip) gSkip) rest)))) [.pure (.list GG), .pure (encB false (.top i))] = some (.list out, true, [.pure (.list GG), .pure (encB false (.top i))]) := fun K C h1 h2 A A2 rest => by
      simp [fDef_ap, h1, h2, hs, i0, tg_t, q_tf, q_tn]
    exact fin _ _ hk hc _ _ _
  | each k m =>
    have e : num (.each k m) = k := rfl
    have ho : KOk k G := ho
    have hkR : KOk k (rank G) := ⟨ho.1, fun x hx => ho.2 x (rank_mem.mp hx)⟩
    obtain ⟨kvs, s6, s3, s7, hL⟩ := each_loop (G := G) (bit := encB false (.each k m)) (k := k) (m := m) (by rw [i1, e]) ix2e hrl hkR (GG := G.map (encH false)) (RK := (rank G).map encK)
    have hd : Dist (keepA k m [] (rank G)) := d.sub fun x hx => rank_mem.mp ((keepA_sub _ _).subset hx)
    have hs := sorted_hits hd
    have e2 : lawStp (.each k m) G = sortH (keepA k m [] (rank G)) := rfl
    rw [e2]
    generalize (rank G).map encK = RK at hk hL
    generalize G.map (encH false) = GG at hk hL ⊢
    generalize (keepA k m [] (rank G)).map (encH false) = mid at hL hs
    generalize (sortH (keepA k m [] (rank G))).map (encH false) = out at hs ⊢
    have fin : ∀ (K : FE) (B : FG), K [.pure (.list GG), .pure (encB false (.each k m)), .emp, .emp, .emp, .emp, .emp, .emp] = some (.list RK, .fr, [.pure (.list GG), .pure (encB false (.each k m)), .emp, .emp, .emp, .emp, .emp, .emp]) →
        forL (bTup [6, 3]) B RK [.pure (.list GG), .pure (encB false (.each k m)), .pure (.list RK), .emp, .own [], .dct [], .emp, .emp] = some (.nx [.pure (.list GG), .pure (encB false (.each k m)), .pure (.list RK), s3, .own mid, .dct kvs, s6, s7]) → ∀ A A2 A3 : FG,
        fDef 8 2 [] (gSeq (gSet 2 K) (gSeq (gIfS (fTst (fTwo gEq (fTwo gIx (fVar 1) (fCst (.int 0))) (fCst (.str "floor")))) A gSkip) (gSeq (gIfS (fTst (fTwo gEq (fTwo gIx (fVar 1) (fCst (.int 0))) (fCst (.str "near")))) A2 gSkip) (gSeq (gIfS (fTst (fTwo gEq (fTwo gIx (fVar 1) (fCst (.int 0))) (fCst (.str "top")))) A3 gSkip) (gSeq (gParD 4 5 (fLst faNil)) (gSeq (gFor (fiSeq (fVar 2)) (bTup [6, 3]) B) (gSeq (gRet 2 (fOne gSorted (fVar 4))) gSkip))))))) [.pure (.list GG), .pure (encB false (.each k m))] = some (.list out, true, [.pure (.list GG), .pure (encB false (.each k m))]) := fun K B h1 h2 A A2 A3 => by
      simp [fDef_ap, h1, h2, hs, i0, tg_e, q_ef, q_en, q_et]
    exact fin _ _ hk hL _ _ _
/-! ### law_left, law_picked -/
theorem lawLeft_snoc {G : List Hit} {w : List Stp} {s : Stp} : lawLeft G (w ++ [s]) = if lawLeft G w = [] then [] else lawStp s (lawLeft G w) := by unfold lawLeft; rw [List.foldl_append]; rfl
theorem lawStp_mem {G : List Hit} {s : Stp} {x : Hit} (h : x ∈ lawStp s G) : x ∈ G := by
  cases s with
  | floor i => exact geL_sub.subset h
  | near i =>
    have h : x ∈ (match rank G with
      | [] => []
      | b :: _ => geL (b.s - i) G) := h
    split at h
    · cases h
    · exact geL_sub.subset h
  | top i => exact rank_mem.mp (List.mem_of_mem_take (sortH_mem.mp h))
  | each k m => exact rank_mem.mp ((keepA_sub _ _).subset (sortH_mem.mp h))
theorem lawStp_len {G : List Hit} {s : Stp} : (lawStp s G).length ≤ G.length := by
  cases s with
  | floor i => exact geL_sub.length_le
  | near i =>
    show (match rank G with
      | [] => []
      | b :: _ => geL (b.s - i) G).length ≤ _
    split
    · exact Nat.zero_le _
    · exact geL_sub.length_le
  | top i =>
    have h1 := isP_len (le := fun x y : Hit => nle x.n y.n) (xs := (rank G).take i.toNat)
    show (sortH _).length ≤ _
    unfold sortH
    rw [h1, List.length_take, rank_len]; omega
  | each k m =>
    have h1 := isP_len (le := fun x y : Hit => nle x.n y.n) (xs := keepA k m [] (rank G))
    have h2 := (keepA_sub (k := k) (m := m) (rank G) []).length_le
    show (sortH _).length ≤ _
    unfold sortH
    rw [rank_len] at h2
    omega
theorem lawLeft_sub : ∀ (w : List Stp) (G : List Hit), (∀ x ∈ lawLeft G w, x ∈ G) ∧ (lawLeft G w).length ≤ G.length
  | [], G => ⟨fun x h => h, Nat.le_refl _⟩
  | s :: w, G => by
    obtain ⟨h1, h2⟩ := lawLeft_sub w (if G = [] then [] else lawStp s G)
    have a1 : ∀ x ∈ (if G = [] then [] else lawStp s G), x ∈ G := fun x hx => by
      split at hx
      · cases hx
      · exact lawStp_mem hx
    have a2 : (if G = [] then [] else lawStp s G).length ≤ G.length := by
      split
      · exact Nat.zero_le _
      · exact lawStp_len
    exact ⟨fun x hx => a1 x (h1 x hx), Nat.le_trans h2 a2⟩
theorem gNe_hits {G : List Hit} : gNe (.list (G.map (encH false))) (.list []) = some (.bool (!decide (G = [])), .st) := by
  rw [gNe_nil (plain_encHs G)]
  cases G <;> simp
theorem law_left_ok {c : Bool} {G : List Hit} {w : List Stp} (hl : G.length ≤ 1000) (hw : w.length ≤ 1000) (d : Dist G) (ho : WordOk G w) :
    F__law_left [.pure (sq c (G.map (encH false))), .pure (.tuple (w.map (encB false)))] = some (.list ((lawLeft G w).map (encH false)), true, [.pure (sq c (G.map (encH false))), .pure (.tuple (w.map (encB false)))]) := by
  have h1 := forL_pre (b := bName 3) (body := B0__law_left) (encB false) (fun pre => [.pure (sq c (G.map (encH false))), .pure (.tuple (w.map (encB false))), .own ((lawLeft G pre).map (encH false)), lastS (encB false) pre]) w (fun pre s suf e => by
    refine ⟨_, rfl, ?_⟩
    rw [lastS_snoc, lawLeft_snoc]
    obtain ⟨m1, m2⟩ := lawLeft_sub pre G
    have hs := law_step_ok (G := lawLeft G pre) (s := s) (by omega) (d.sub m1) ((ho s (by rw [e]; simp)).sub m1)
    have hn := gNe_hits (G := lawLeft G pre)
    generalize sq c (G.map (encH false)) = S
    generalize w.map (encB false) = W
    generalize lastS (encB false) pre = s3
    by_cases z : lawLeft G pre = []
    · rw [if_pos z]
      rw [z] at hn ⊢
      simp only [List.map_nil, decide_true, Bool.not_true] at hn ⊢
      simp [B0__law_left, hn]
    · rw [if_neg z]
      have e : decide (lawLeft G pre = []) = false := by simpa using z
      rw [e] at hn
      generalize (lawStp s (lawLeft G pre)).map (encH false) = out at hs ⊢
      generalize (lawLeft G pre).map (encH false) = cur at hs hn ⊢
      simp [B0__law_left, hn, hs])
  have h2 : forL (bName 3) B0__law_left (w.map (encB false)) [.pure (sq c (G.map (encH false))), .pure (.tuple (w.map (encB false))), .own (G.map (encH false)), .emp] = _ := h1
  have hli : gList (sq c (G.map (encH false))) = some (.list (G.map (encH false)), .fr) := by cases c <;> rfl
  generalize (lawLeft G w).map (encH false) = out at h2 ⊢
  generalize sq c (G.map (encH false)) = S at h2 hli ⊢
  generalize G.map (encH false) = GG at h2 hli
  generalize w.map (encB false) = W at h2 ⊢
  generalize lastS (encB false) w = s3 at h2
  have fin : ∀ B : FG, forL (bName 3) B W [.pure S, .pure (.tuple W), .own GG, .emp] = some (.nx [.pure S, .pure (.tuple W), .own out, s3]) →
      fDef 4 2 [] (gSeq (gSet 2 (fOne gList (fVar 0))) (gSeq (gFor (fiSeq (fVar 1)) (bName 3) B) (gSeq (gRet 2 (fVar 2)) gSkip))) [.pure S, .pure (.tuple W)] = some (.list out, true, [.pure S, .pure (.tuple W)]) := fun B h => by
    simp [fDef_ap, hli, h]
  exact fin _ h2
theorem law_picked_ok {c : Bool} {G : List Hit} {w : List Stp} (hl : G.length ≤ 1000) (hw : w.length ≤ 1000) (n : NS G) (d : Dist G) (ho : WordOk G w) :
    F__law_picked [.pure (sq c (G.map (encH false))), .pure (.tuple (w.map (encB false)))] = some (.tuple ((pickN G w).map PyData.str), false, [.pure (sq c (G.map (encH false))), .pure (.tuple (w.map (encB false)))]) := by
  have h1 := law_left_ok (c := c) hl hw d ho
  have hll := (lawLeft_sub w G).2
  have hc := compV (i := 2) (I := fiSeq (fCall Sh.F__law_left (frVal (fVar 0) (frVal (fVar 1) frNil)))) (T := fTYes) (E := fTwo gIx (fVar 2) (fCst (.int 0))) (env := [.pure (sq c (G.map (encH false))), .pure (.tuple (w.map (encB false))), .emp]) (lawLeft G w) (encH false) (fun _ => true) (fun h => PyData.str h.n)
    (by
      generalize sq c (G.map (encH false)) = S at h1 ⊢
      generalize w.map (encB false) = W at h1 ⊢
      generalize (lawLeft G w).map (encH false) = out at h1 ⊢
      simp [h1]) rfl noOwn_emp (by rw [sizeLine_eq]; omega)
    (fun x _ => ⟨rfl, fun _ => ⟨.st, trivial, by
      generalize sq c (G.map (encH false)) = S
      generalize w.map (encB false) = W
      simp⟩⟩)
  rw [filter_true] at hc
  have e : ((lawLeft G w).map fun h => PyData.str h.n) = (pickN G w).map PyData.str := by
    rw [← lawLeft_names n d, List.map_map]; rfl
  rw [e] at hc
  generalize (pickN G w).map PyData.str = out at hc ⊢
  generalize sq c (G.map (encH false)) = S at hc ⊢
  generalize w.map (encB false) = W at hc ⊢
  have fin : ∀ C : FE, C [.pure S, .pure (.tuple W), .emp] = some (.list out, .fr, [.pure S, .pure (.tuple W), .emp]) → fDef 3 2 [] (gSeq (gRet 2 (fOne gTuple C)) gSkip) [.pure S, .pure (.tuple W)] = some (.tuple out, false, [.pure S, .pure (.tuple W)]) := fun C h => by
    simp [fDef_ap, h]
  exact fin _ hc
end Sh

/-! The drawn hits. -/
namespace Sh
open PySem PySem.Spec PyProof.Rows L2 Pt
/-- a comprehension that changes the frame -/
theorem compL_st {α : Type} {own : List Nat} {b : FB} {E : FE} (e : α → D) (P : List α → List D → Ev → Prop) (l : List α)
    (h : ∀ pre a suf rs env, l = pre ++ a :: suf → P pre rs env → ∃ e1 r k e3, b (e a) env = some e1 ∧ E e1 = some (r, k, e3) ∧ P (pre ++ [a]) (rs ++ [r]) (wipeE own (stl r k e3))) {env0 : Ev} (h0 : P [] [] env0) :
    ∃ rs e', compL own b fTYes E (l.map e) env0 = some (rs, e') ∧ P l rs e' := by
  have go : ∀ (suf pre : List α) (rs : List D) (env : Ev), l = pre ++ suf → P pre rs env → ∃ rs2 e', compL own b fTYes E (suf.map e) env = some (rs2, e') ∧ P l (rs ++ rs2) e' := by
    intro suf
    induction suf with
    | nil =>
      intro pre rs env hl hp
      rw [List.append_nil] at hl
      subst hl
      exact ⟨[], env, rfl, by rwa [List.append_nil]⟩
    | cons a suf ih =>
      intro pre rs env hl hp
      obtain ⟨e1, r, k, e3, h1, h2, h3⟩ := h pre a suf rs env hl hp
      obtain ⟨rs2, e', h4, h5⟩ := ih (pre ++ [a]) _ _ (by rw [hl, List.append_assoc]; rfl) h3
      refine ⟨r :: rs2, e', ?_, by rw [List.append_assoc] at h5; exact h5⟩
      rw [List.map_cons]
      unfold compL
      rw [h1]
      dsimp only
      rw [fTYes_ap]
      dsimp only
      rw [h2]
      dsimp only
      rw [h4]
  obtain ⟨rs, e', h1, h2⟩ := go l [] [] env0 rfl h0
  exact ⟨rs, e', h1, h2⟩
/-- a walk with a state -/
theorem forL_st {α : Type} {b : FB} {body : FG} (e : α → D) (P : List α → Ev → Prop) (l : List α)
    (h : ∀ pre a suf env, l = pre ++ a :: suf → P pre env → ∃ e1 e2, b (e a) env = some e1 ∧ body e1 = some (.nx e2) ∧ P (pre ++ [a]) e2) {env0 : Ev} (h0 : P [] env0) :
    ∃ e', forL b body (l.map e) env0 = some (.nx e') ∧ P l e' := by
  have go : ∀ (suf pre : List α) (env : Ev), l = pre ++ suf → P pre env → ∃ e', forL b body (suf.map e) env = some (.nx e') ∧ P l e' := by
    intro suf
    induction suf with
    | nil =>
      intro pre env hl hp
      rw [List.append_nil] at hl
      subst hl
      exact ⟨env, rfl, hp⟩
    | cons a suf ih =>
      intro pre env hl hp
      obtain ⟨e1, e2, h1, h2, h3⟩ := h pre a suf env hl hp
      obtain ⟨e', h4, h5⟩ := ih (pre ++ [a]) e2 (by rw [hl, List.append_assoc]; rfl) h3
      refine ⟨e', ?_, h5⟩
      rw [List.map_cons]
      unfold forL
      rw [h1]; dsimp only; rw [h2]; exact h4
  exact go l [] env0 rfl h0
/-- the names -/
def rNames : List Str := ["ra", "rb", "rc", "rd", "re", "rf", "rg", "rh", "ri", "rj", "rk", "rl"]
def xMarks : List Str := ["ax", "bx", "cx", "dx", "ex", "fx"]
def letters : List Str := ["a", "b", "c", "d", "e", "f", "g", "h", "i", "j", "k", "l"]
def letters6 : List Str := ["a", "b", "c", "d", "e", "f"]
theorem letters_len : ∀ a ∈ letters, a.length = 1 := by decide +kernel
theorem letters6_len : ∀ a ∈ letters6, a.length = 1 := by decide +kernel
theorem letters_it : itemsD (.str "abcdefghijkl") = some (letters.map PyData.str) := by rfl
theorem letters6_it : itemsD (.str "abcdef") = some (letters6.map PyData.str) := by rfl
theorem letters_r : (letters.map fun x => PyData.str ("r" ++ x)) = rNames.map PyData.str := by rfl
theorem letters6_x : (letters6.map fun x => PyData.str (x ++ "x")) = xMarks.map PyData.str := by rfl
theorem len_r : ("r" : Str).length = 1 := by decide +kernel
theorem len_x : ("x" : Str).length = 1 := by decide +kernel
theorem names_comp {env : Ev} {s : Slot} (hs : env[5]? = some s) (hn : NoOwn s) : fComp [5] (fiSeq (fCst (.str "abcdefghijkl"))) (bName 5) fTYes (fTwo gAdd (fCst (.str "r")) (fVar 5)) env = some (.list (rNames.map PyData.str), .fr, env) := by
  have h2 : 5 < env.length := (List.getElem?_eq_some_iff.mp hs).1
  have hc := compV (i := 5) (I := fiSeq (fCst (.str "abcdefghijkl"))) (T := fTYes) (E := fTwo gAdd (fCst (.str "r")) (fVar 5)) (env := env) letters PyData.str (fun _ => true) (fun x => PyData.str ("r" ++ x)) (by
      rw [fiSeq_ap, fCst_ap]
      dsimp only
      rw [letters_it]; rfl) hs hn (by rw [sizeLine_eq]; decide) (fun x hx => ⟨rfl, fun _ => ⟨.st, trivial, by
      have e : (env.set 5 (.pure (.str x)))[5]? = some (.pure (.str x)) := List.getElem?_set_self h2
      have hl := letters_len x hx
      rw [fTwo_ap, fCst_ap]
      dsimp only
      rw [fVar_ap, e]
      dsimp only
      rw [rsv_s]
      dsimp only
      unfold gAdd
      dsimp only
      rw [if_pos (by rw [len_r, hl, sizeLine_eq]; decide)]⟩⟩)
  rw [filter_true, letters_r] at hc
  exact hc
theorem marks_comp {env : Ev} {s : Slot} (hs : env[5]? = some s) (hn : NoOwn s) : fComp [5] (fiSeq (fCst (.str "abcdef"))) (bName 5) fTYes (fTwo gAdd (fVar 5) (fCst (.str "x"))) env = some (.list (xMarks.map PyData.str), .fr, env) := by
  have h2 : 5 < env.length := (List.getElem?_eq_some_iff.mp hs).1
  have hc := compV (i := 5) (I := fiSeq (fCst (.str "abcdef"))) (T := fTYes) (E := fTwo gAdd (fVar 5) (fCst (.str "x"))) (env := env) letters6 PyData.str (fun _ => true) (fun x => PyData.str (x ++ "x")) (by
      rw [fiSeq_ap, fCst_ap]
      dsimp only
      rw [letters6_it]; rfl) hs hn (by rw [sizeLine_eq]; decide) (fun x hx => ⟨rfl, fun _ => ⟨.st, trivial, by
      have e : (env.set 5 (.pure (.str x)))[5]? = some (.pure (.str x)) := List.getElem?_set_self h2
      have hl := letters6_len x hx
      rw [fTwo_ap, fVar_ap, e]
      dsimp only
      rw [fCst_ap]
      dsimp only
      rw [rsv_s]
      dsimp only
      unfold gAdd
      dsimp only
      rw [if_pos (by rw [len_x, hl, sizeLine_eq]; decide)]⟩⟩)
  rw [filter_true, letters6_x] at hc
  exact hc
/-- the worths -/
theorem worths_ok {n : Nat} {ds : List D} {many width marks top : Int} {tags : List Str} (h : TinP n ds) (hn : n < 400000000000) (ht : 0 < top) (ht2 : top < 1000) (hl : tags.length ≤ 1000) :
    ∃ (ds' : List D) (ws : List Int), fComp [8] (fiSeq (fVar 4)) (bName 8) fTYes (fTwo gSub (fCall Sh.F__law_take (frBox (fVar 0) (frVal (fVar 6) frNil))) (fCst (.int 3))) [.own ds, .pure (.int many), .pure (.int width), .pure (.int marks), .own (tags.map PyData.str), .emp, .pure (.int top), .emp, .emp, .emp, .emp, .emp, .emp]
      = some (.list (ws.map PyData.int), .fr, [.own ds', .pure (.int many), .pure (.int width), .pure (.int marks), .pure (.list (tags.map PyData.str)), .emp, .pure (.int top), .emp, .emp, .emp, .emp, .emp, .emp]) ∧ TinP (n + 1000) ds' ∧ ws.length = tags.length ∧ ∀ i ∈ ws, -3 ≤ i ∧ i < top - 3 := by
  obtain ⟨rs, e', h1, ds', ws, rfl, rfl, h3, h4, h5⟩ := compL_st (own := [8]) (b := bName 8) (E := fTwo gSub (fCall Sh.F__law_take (frBox (fVar 0) (frVal (fVar 6) frNil))) (fCst (.int 3))) PyData.str (fun pre rs env => ∃ ds' ws, rs = ws.map PyData.int ∧ env = [.own ds', .pure (.int many), .pure (.int width), .pure (.int marks), .pure (.list (tags.map PyData.str)), .emp, .pure (.int top), .emp, .emp, .emp, .emp, .emp, .emp] ∧ TinP (n + pre.length) ds' ∧ ws.length = pre.length ∧ ∀ i ∈ ws, -3 ≤ i ∧ i < top - 3) tags
    (fun pre a suf rs env e hp => by
      obtain ⟨ds1, ws, rfl, rfl, h2, h3, h4⟩ := hp
      have hpl : pre.length ≤ 1000 := by rw [e] at hl; simp at hl; omega
      obtain ⟨r, ds2, t1, t2, t3, t4⟩ := take_ok (top := top) h2 (by omega) ht (by omega)
      refine ⟨_, .int (r - 3), .st, [.own ds2, .pure (.int many), .pure (.int width), .pure (.int marks), .pure (.list (tags.map PyData.str)), .emp, .pure (.int top), .emp, .pure (.str a), .emp, .emp, .emp, .emp], rfl, ?_, ds2, ws ++ [r - 3], by simp, rfl, t4.mono (by simp; omega), by simp [h3], fun i hi => ?_⟩
      · generalize tags.map PyData.str = T
        simp [t1]
      · rcases List.mem_append.mp hi with z | z
        · exact h4 i z
        · rw [List.mem_singleton.mp z]; omega) (env0 := [.own ds, .pure (.int many), .pure (.int width), .pure (.int marks), .pure (.list (tags.map PyData.str)), .emp, .pure (.int top), .emp, .emp, .emp, .emp, .emp, .emp]) ⟨ds, [], rfl, rfl, h, rfl, fun i hi => by cases hi⟩
  refine ⟨ds', ws, ?_, h3.mono (by omega), h4, h5⟩
  have hz : (ws.map PyData.int).length ≤ sizeLine := by rw [List.length_map, h4, sizeLine_eq]; omega
  generalize ws.map PyData.int = W at h1 hz ⊢
  generalize tags.map PyData.str = T at h1 ⊢
  unfold fComp
  have hI : fiSeq (fVar 4) [.own ds, .pure (.int many), .pure (.int width), .pure (.int marks), .own T, .emp, .pure (.int top), .emp, .emp, .emp, .emp, .emp, .emp] = some (T, [.own ds, .pure (.int many), .pure (.int width), .pure (.int marks), .pure (.list T), .emp, .pure (.int top), .emp, .emp, .emp, .emp, .emp, .emp]) := by simp
  rw [hI]
  dsimp only
  have hno : noOwn [8] [.own ds, .pure (.int many), .pure (.int width), .pure (.int marks), .pure (.list T), .emp, .pure (.int top), .emp, .emp, .emp, .emp, .emp, .emp] = true := rfl
  have hw : wipeE [8] [.own ds, .pure (.int many), .pure (.int width), .pure (.int marks), .pure (.list T), .emp, .pure (.int top), .emp, .emp, .emp, .emp, .emp, .emp] = [.own ds, .pure (.int many), .pure (.int width), .pure (.int marks), .pure (.list T), .emp, .pure (.int top), .emp, .emp, .emp, .emp, .emp, .emp] := rfl
  rw [if_pos hno, hw, h1]
  dsimp only
  rw [if_pos hz]
  rfl
/-- the marks of one -/
theorem labs_ok {n : Nat} {ds : List D} {many width marks top : Int} {tags ws fd s8 s11 : Slot} {signs : List Str} (h : TinP n ds) (hn : n < 400000000000) (hw0 : 0 ≤ width) (hw : width < 1000) (hs : signs ≠ []) (hsl : signs.length < 1000) {s9 : Slot} (h9 : s9 = .own (signs.map PyData.str) ∨ s9 = .pure (.list (signs.map PyData.str))) :
    ∃ (ds' : List D) (ls : List Str) (s9' : Slot), fComp [12] (fiRng1 (faCons (fVar 2) faNil)) (bName 12) fTYes (fCall Sh.F__law_of (frBox (fVar 0) (frVal (fVar 9) frNil))) [.own ds, .pure (.int many), .pure (.int width), .pure (.int marks), tags, .emp, .pure (.int top), ws, s8, s9, fd, s11, .emp]
      = some (.list (ls.map PyData.str), .fr, [.own ds', .pure (.int many), .pure (.int width), .pure (.int marks), tags, .emp, .pure (.int top), ws, s8, s9', fd, s11, .emp]) ∧ TinP (n + 1000) ds' ∧ (ls.length : Int) = width ∧ (s9' = .own (signs.map PyData.str) ∨ s9' = .pure (.list (signs.map PyData.str))) ∧ ∀ x ∈ ls, x ∈ signs := by
  obtain ⟨rs, e', h1, ds', ls, s9', rfl, rfl, h3, h4, h5, h6⟩ := compL_st (own := [12]) (b := bName 12) (E := fCall Sh.F__law_of (frBox (fVar 0) (frVal (fVar 9) frNil))) (fun m : Nat => PyData.int (0 + (m : Int))) (fun pre rs env => ∃ ds' ls s9', rs = ls.map PyData.str ∧ env = [.own ds', .pure (.int many), .pure (.int width), .pure (.int marks), tags, .emp, .pure (.int top), ws, s8, s9', fd, s11, .emp] ∧ TinP (n + pre.length) ds' ∧ ls.length = pre.length ∧ (s9' = .own (signs.map PyData.str) ∨ s9' = .pure (.list (signs.map PyData.str))) ∧ ∀ x ∈ ls, x ∈ signs) (List.range width.toNat)
    (fun pre a suf rs env e hp => by
      obtain ⟨ds1, ls, s9', rfl, rfl, h2, h3, h4, h5⟩ := hp
      have hpl : pre.length ≤ 1000 := by have := congrArg List.length e; simp at this; omega
      obtain ⟨x, ds2, t1, t2, t3⟩ := of_ok (xs := signs.map PyData.str) h2 (by omega) (by simpa using hs) (by rw [List.length_map]; omega)
      obtain ⟨y, hy, rfl⟩ := List.mem_map.mp t2
      refine ⟨_, .str y, .st, [.own ds2, .pure (.int many), .pure (.int width), .pure (.int marks), tags, .emp, .pure (.int top), ws, s8, .pure (.list (signs.map PyData.str)), fd, s11, .pure (.int (0 + (a : Int)))], rfl, ?_, ds2, ls ++ [y], _, by simp, rfl, t3.mono (by simp; omega), by simp [h3], .inr rfl, fun z hz => ?_⟩
      · generalize signs.map PyData.str = T at t1 h4 ⊢
        rcases h4 with rfl | rfl <;> simp [t1]
      · rcases List.mem_append.mp hz with q | q
        · exact h5 z q
        · rw [List.mem_singleton.mp q]; exact hy) (env0 := [.own ds, .pure (.int many), .pure (.int width), .pure (.int marks), tags, .emp, .pure (.int top), ws, s8, s9, fd, s11, .emp]) ⟨ds, [], s9, rfl, rfl, h, rfl, h9, fun i hi => by cases hi⟩
  rw [List.length_range] at h3 h4
  refine ⟨ds', ls, s9', ?_, h3.mono (by omega), by omega, h5, h6⟩
  have hz : (ls.map PyData.str).length ≤ sizeLine := by rw [List.length_map, h4, sizeLine_eq]; omega
  have hI : fiRng1 (faCons (fVar 2) faNil) [.own ds, .pure (.int many), .pure (.int width), .pure (.int marks), tags, .emp, .pure (.int top), ws, s8, s9, fd, s11, .emp] = some ((List.range width.toNat).map fun (m : Nat) => PyData.int (0 + m), [.own ds, .pure (.int many), .pure (.int width), .pure (.int marks), tags, .emp, .pure (.int top), ws, s8, s9, fd, s11, .emp]) := fiRng1_ok (by simp) (by omega) (by omega)
  generalize ls.map PyData.str = W at h1 hz ⊢
  generalize (List.range width.toNat).map (fun (m : Nat) => PyData.int (0 + (m : Int))) = RG at h1 hI
  unfold fComp
  rw [hI]
  dsimp only
  have hno : noOwn [12] [.own ds, .pure (.int many), .pure (.int width), .pure (.int marks), tags, .emp, .pure (.int top), ws, s8, s9, fd, s11, .emp] = true := rfl
  have hw : wipeE [12] [.own ds, .pure (.int many), .pure (.int width), .pure (.int marks), tags, .emp, .pure (.int top), ws, s8, s9, fd, s11, .emp] = [.own ds, .pure (.int many), .pure (.int width), .pure (.int marks), tags, .emp, .pure (.int top), ws, s8, s9, fd, s11, .emp] := rfl
  rw [if_pos hno, hw, h1]
  dsimp only
  rw [if_pos hz]
  rfl
/-! ### the whole def -/
theorem rNames_ns : rNames.Pairwise fun a b => nle a b = true := by decide +kernel
theorem rNames_nd : rNames.Nodup := by decide +kernel
theorem dist_of {G : List Hit} (h : (G.map Hit.n).Nodup) : Dist G := by
  induction G with
  | nil => intro x hx; cases hx
  | cons a r ih =>
    have h : a.n ∉ r.map Hit.n ∧ (r.map Hit.n).Nodup := by simpa using h
    intro x hx y hy e
    rcases List.mem_cons.mp hx with hx1 | hx1 <;> rcases List.mem_cons.mp hy with hy1 | hy1
    · rw [hx1, hy1]
    · exact absurd (List.mem_map.mpr ⟨y, hy1, by rw [← e, hx1]⟩) h.1
    · exact absurd (List.mem_map.mpr ⟨x, hx1, by rw [e, hy1]⟩) h.1
    · exact ih h.2 x hx1 y hy1 e
theorem ns_of {G : List Hit} (h : (G.map Hit.n).Pairwise fun a b => nle a b = true) : NS G := List.pairwise_map.mp h
/-- drawn hits -/
structure GoodsW (width : Int) (many : Nat) (marks : Nat) (G : List Hit) : Prop where
  len : G.length ≤ many
  ns : NS G
  di : Dist G
  wd : ∀ h ∈ G, (h.l.length : Int) = width
  lb : ∀ h ∈ G, ∀ x ∈ h.l, x ∈ xMarks.take marks
  sc : ∀ h ∈ G, -3 ≤ h.s ∧ h.s < 40
  nm : ∃ t, G.map Hit.n = rNames.take t
theorem goods_body {n : Nat} {ds : List D} {width top : Int} {many marks k : Int} {tags : List D} {ws : List Int} {s8 s9 s11 : Slot} {G : List Hit} {signs : List Str} {tag : Str} {m : Nat} {w : Int} (h : TinP n ds) (hn : n < 400000000000) (hw0 : 0 ≤ width) (hw : width < 1000) (hs : signs ≠ []) (hsl : signs.length < 1000) (h9 : s9 = .own (signs.map PyData.str) ∨ s9 = .pure (.list (signs.map PyData.str))) (hk : ws[m]? = some w) (hG : G.length < 1000) :
    ∃ (ds' : List D) (ls : List Str) (s9' : Slot), B0__law_goods [.own ds, .pure (.int many), .pure (.int width), .pure (.int marks), .pure (.list tags), .emp, .pure (.int top), .own (ws.map PyData.int), .pure (.str tag), s9, .own (G.map (encH false)), .pure (.int (m : Int)), .emp]
      = some (.nx [.own ds', .pure (.int many), .pure (.int width), .pure (.int marks), .pure (.list tags), .emp, .pure (.int top), .own (ws.map PyData.int), .pure (.str tag), s9', .own ((G ++ [(⟨tag, w, ls⟩ : Hit)]).map (encH false)), .pure (.int (m : Int)), .emp]) ∧ TinP (n + 1000) ds' ∧ (ls.length : Int) = width ∧ (s9' = .own (signs.map PyData.str) ∨ s9' = .pure (.list (signs.map PyData.str))) ∧ ∀ x ∈ ls, x ∈ signs := by
  obtain ⟨ds', ls, s9', h1, h2, h3, h4, h5⟩ := labs_ok (many := many) (marks := marks) (top := top) (tags := .pure (.list tags)) (ws := .own (ws.map PyData.int)) (fd := .own (G.map (encH false))) (s8 := .pure (.str tag)) (s11 := .pure (.int (m : Int))) h hn hw0 hw hs hsl h9
  refine ⟨ds', ls, s9', ?_, h2, h3, h4, h5⟩
  have hix := ix_getL (e := PyData.int) hk
  have hkm : (G.map (encH false)).length < sizeLine := by rw [List.length_map, sizeLine_eq]; omega
  have e : (G ++ [(⟨tag, w, ls⟩ : Hit)]).map (encH false) = G.map (encH false) ++ [.tuple [.str tag, .int w, .tuple (ls.map PyData.str)]] := by rw [List.map_append]; rfl
  rw [e]
  generalize ls.map PyData.str = L at h1 ⊢
  generalize ws.map PyData.int = W at h1 hix ⊢
  generalize G.map (encH false) = GG at h1 hkm ⊢
  generalize (m : Int) = mi at h1 hix ⊢
  have fin : ∀ C : FE, C [.own ds, .pure (.int many), .pure (.int width), .pure (.int marks), .pure (.list tags), .emp, .pure (.int top), .own W, .pure (.str tag), s9, .own GG, .pure (.int mi), .emp] = some (.list L, .fr, [.own ds', .pure (.int many), .pure (.int width), .pure (.int marks), .pure (.list tags), .emp, .pure (.int top), .own W, .pure (.str tag), s9', .own GG, .pure (.int mi), .emp]) →
      (gSeq (gDrop (fApp 10 (fTup (faCons (fVar 8) (faCons (fTwo gIx (fVar 7) (fVar 11)) (faCons (fOne gTuple C) faNil)))))) gSkip) [.own ds, .pure (.int many), .pure (.int width), .pure (.int marks), .pure (.list tags), .emp, .pure (.int top), .own W, .pure (.str tag), s9, .own GG, .pure (.int mi), .emp]
        = some (.nx [.own ds', .pure (.int many), .pure (.int width), .pure (.int marks), .pure (.list tags), .emp, .pure (.int top), .own W, .pure (.str tag), s9', .own (GG ++ [.tuple [.str tag, .int w, .tuple L]]), .pure (.int mi), .emp]) := fun C hC => by
    simp [hix, hC, hkm]
  exact fin _ h1
theorem goods_ok {n : Nat} {ds : List D} {many width : Int} {marks : Nat} (h : TinP n ds) (hn : n < 300000000000) (hm0 : 0 ≤ many) (hm : many ≤ 12) (hw0 : 0 ≤ width) (hw : width < 1000) (hk0 : 0 < marks) (hk : marks ≤ 6) :
    ∃ (ds' : List D) (G : List Hit), F__law_goods [.own ds, .pure (.int many), .pure (.int width), .pure (.int (marks : Int))] = some (.tuple (G.map (encH false)), false, [.own ds', .pure (.int many), .pure (.int width), .pure (.int (marks : Int))]) ∧ TinP (n + 20000) ds' ∧ GoodsW width many.toNat marks G := by
  obtain ⟨r, ds1, t1, r0, r1, ht1⟩ := take_ok (top := many + 1) h (by omega) (by omega) (by omega)
  obtain ⟨x, ds2, t2, hx, ht2⟩ := of_ok (xs := [.int 4, .int 12, .int 40]) ht1 (by omega) (by simp) (by simp)
  obtain ⟨top, hxt, htop⟩ : ∃ top : Int, x = .int top ∧ (top = 4 ∨ top = 12 ∨ top = 40) := by
    simp at hx
    rcases hx with rfl | rfl | rfl
    · exact ⟨4, rfl, .inl rfl⟩
    · exact ⟨12, rfl, .inr (.inl rfl)⟩
    · exact ⟨40, rfl, .inr (.inr rfl)⟩
  subst hxt
  have hcut : Pt.cutD (rNames.map PyData.str) none (some r) = (rNames.take r.toNat).map PyData.str := cut_top r0
  have htl : (rNames.take r.toNat).length ≤ r.toNat := by rw [List.length_take]; omega
  obtain ⟨ds3, ws, h3, ht3, hwl, hws⟩ := worths_ok (many := many) (width := width) (marks := (marks : Int)) (tags := rNames.take r.toNat) (top := top) ht2 (by omega) (by omega) (by omega) (by omega)
  have hcut2 : Pt.cutD (xMarks.map PyData.str) none (some (marks : Int)) = (xMarks.take marks).map PyData.str := by rw [cut_lo, List.map_take]
  have hsne : xMarks.take marks ≠ [] := by
    cases marks with
    | zero => omega
    | succ m => simp [xMarks]
  obtain ⟨e', hl, ds4, G, s8, s9, s11, rfl, ht4, h9, hGn, hGw, hGl, hGs⟩ := forL_st (b := bTup [11, 8]) (body := B0__law_goods) (fun p : Str × Nat => PyData.tuple [.int (p.2 : Int), .str p.1])
    (fun pre e => ∃ ds' G s8 s9 s11, e = [.own ds', .pure (.int many), .pure (.int width), .pure (.int (marks : Int)), .pure (.list ((rNames.take r.toNat).map PyData.str)), .emp, .pure (.int top), .own (ws.map PyData.int), s8, s9, .own (G.map (encH false)), s11, .emp] ∧ TinP (n + 2000 + 1000 * pre.length) ds' ∧ (s9 = .own ((xMarks.take marks).map PyData.str) ∨ s9 = .pure (.list ((xMarks.take marks).map PyData.str))) ∧ G.map Hit.n = pre.map Prod.fst ∧ (∀ h ∈ G, (h.l.length : Int) = width) ∧ (∀ h ∈ G, ∀ x ∈ h.l, x ∈ xMarks.take marks) ∧ ∀ h ∈ G, -3 ≤ h.s ∧ h.s < 40) ((rNames.take r.toNat).zipIdx 0)
    (fun pre p suf env e hp => by
      obtain ⟨ds', G, s8, s9, s11, rfl, ht, h9, hn', hw', hl', hs'⟩ := hp
      have hm' : p ∈ (rNames.take r.toNat).zipIdx 0 := by rw [e]; simp
      obtain ⟨_, h2⟩ := mem_idx hm'
      rw [Nat.sub_zero] at h2
      have h2l := (List.getElem?_eq_some_iff.mp h2).1
      have hpl : pre.length ≤ 12 := by
        have := congrArg List.length e
        rw [List.length_zipIdx] at this
        simp at this
        simp at htl
        omega
      have hGl2 : G.length = pre.length := by have := congrArg List.length hn'; simpa using this
      have hwk : ws[p.2]? = some (ws[p.2]'(by omega)) := List.getElem?_eq_getElem (by omega)
      obtain ⟨ds5, ls, s9', b1, b2, b3, b4, b5⟩ := goods_body (many := many) (marks := (marks : Int)) (top := top) (tags := (rNames.take r.toNat).map PyData.str) (tag := p.1) (s8 := s8) (s11 := s11) (k := 0) (G := G) ht (by omega) hw0 hw hsne (by rw [List.length_take]; simp [xMarks]; omega) h9 hwk (by omega)
      refine ⟨_, _, rfl, b1, ds5, _, _, s9', _, rfl, b2.mono (by simp; omega), b4, by rw [List.map_append, List.map_append, hn']; rfl, fun h hh => ?_, fun h hh => ?_, fun h hh => ?_⟩
      · rcases List.mem_append.mp hh with z | z
        · exact hw' h z
        · rw [List.mem_singleton.mp z]; exact b3
      · rcases List.mem_append.mp hh with z | z
        · exact hl' h z
        · rw [List.mem_singleton.mp z]; exact b5
      · rcases List.mem_append.mp hh with z | z
        · exact hs' h z
        · rw [List.mem_singleton.mp z]
          have := hws _ (List.getElem_mem (l := ws) (n := p.2) (by omega))
          exact ⟨this.1, by show ws[p.2] < 40; omega⟩) (env0 := [.own ds3, .pure (.int many), .pure (.int width), .pure (.int (marks : Int)), .pure (.list ((rNames.take r.toNat).map PyData.str)), .emp, .pure (.int top), .own (ws.map PyData.int), .emp, .own ((xMarks.take marks).map PyData.str), .own [], .emp, .emp])
    ⟨ds3, [], .emp, _, .emp, rfl, ht3.mono (by first | (simp; done) | (simp; omega)), .inl rfl, rfl, (fun h hh => by cases hh), (fun h hh => by cases hh), fun h hh => by cases hh⟩
  have hnames : G.map Hit.n = rNames.take r.toNat := by
    rw [hGn]
    have : ∀ (l : List Str) (i : Nat), (l.zipIdx i).map Prod.fst = l := fun l i => by simp
    exact this _ _
  have hGlen : G.length ≤ many.toNat := by
    have := congrArg List.length hnames
    rw [List.length_map] at this
    omega
  refine ⟨ds4, G, ?_, ht4.mono (by rw [List.length_zipIdx]; omega), ⟨hGlen, ns_of (by rw [hnames]; exact rNames_ns.sublist (List.take_sublist _ _)), dist_of (by rw [hnames]; exact rNames_nd.sublist (List.take_sublist _ _)), hGw, hGl, hGs, ⟨_, hnames⟩⟩⟩
  have c1 := names_comp (env := [.own ds, .pure (.int many), .pure (.int width), .pure (.int (marks : Int)), .emp, .emp, .emp, .emp, .emp, .emp, .emp, .emp, .emp]) rfl noOwn_emp
  have c2 := marks_comp (env := [.own ds3, .pure (.int many), .pure (.int width), .pure (.int (marks : Int)), .pure (.list ((rNames.take r.toNat).map PyData.str)), .emp, .pure (.int top), .own (ws.map PyData.int), .emp, .emp, .emp, .emp, .emp]) rfl noOwn_emp
  have hen : ((rNames.take r.toNat).zipIdx 0).map (fun p : Str × Nat => PyData.tuple [.int (p.2 : Int), .str p.1]) = enumD 0 ((rNames.take r.toNat).map PyData.str) := (enum_idx PyData.str (rNames.take r.toNat) 0).symm
  rw [hen] at hl
  generalize rNames.map PyData.str = NN at hcut c1
  generalize xMarks.map PyData.str = XX at hcut2 c2
  generalize (rNames.take r.toNat).map PyData.str = T at hcut h3 c2 hl
  generalize (xMarks.take marks).map PyData.str = M at hcut2 hl
  generalize ws.map PyData.int = W at h3 c2 hl
  generalize G.map (encH false) = GG at hl ⊢
  have hI : fiEnumB (faCons (fVar 4) faNil) [.own ds3, .pure (.int many), .pure (.int width), .pure (.int (marks : Int)), .pure (.list T), .emp, .pure (.int top), .own W, .emp, .own M, .own [], .emp, .emp] = some (enumD 0 T, [.own ds3, .pure (.int many), .pure (.int width), .pure (.int (marks : Int)), .pure (.list T), .emp, .pure (.int top), .own W, .emp, .own M, .own [], .emp, .emp]) := by simp
  generalize enumD 0 T = ET at hl hI
  generalize (marks : Int) = mk at c1 c2 h3 hl hI hcut2 ⊢
  have fin : ∀ (C1 C2 C3 : FE) (I : FI) (B : FG), C1 [.own ds, .pure (.int many), .pure (.int width), .pure (.int mk), .emp, .emp, .emp, .emp, .emp, .emp, .emp, .emp, .emp] = some (.list NN, .fr, [.own ds, .pure (.int many), .pure (.int width), .pure (.int mk), .emp, .emp, .emp, .emp, .emp, .emp, .emp, .emp, .emp]) →
      C3 [.own ds2, .pure (.int many), .pure (.int width), .pure (.int mk), .own T, .emp, .pure (.int top), .emp, .emp, .emp, .emp, .emp, .emp] = some (.list W, .fr, [.own ds3, .pure (.int many), .pure (.int width), .pure (.int mk), .pure (.list T), .emp, .pure (.int top), .emp, .emp, .emp, .emp, .emp, .emp]) →
      C2 [.own ds3, .pure (.int many), .pure (.int width), .pure (.int mk), .pure (.list T), .emp, .pure (.int top), .own W, .emp, .emp, .emp, .emp, .emp] = some (.list XX, .fr, [.own ds3, .pure (.int many), .pure (.int width), .pure (.int mk), .pure (.list T), .emp, .pure (.int top), .own W, .emp, .emp, .emp, .emp, .emp]) →
      I [.own ds3, .pure (.int many), .pure (.int width), .pure (.int mk), .pure (.list T), .emp, .pure (.int top), .own W, .emp, .own M, .own [], .emp, .emp] = some (ET, [.own ds3, .pure (.int many), .pure (.int width), .pure (.int mk), .pure (.list T), .emp, .pure (.int top), .own W, .emp, .own M, .own [], .emp, .emp]) →
      forL (bTup [11, 8]) B ET [.own ds3, .pure (.int many), .pure (.int width), .pure (.int mk), .pure (.list T), .emp, .pure (.int top), .own W, .emp, .own M, .own [], .emp, .emp] = some (.nx [.own ds4, .pure (.int many), .pure (.int width), .pure (.int mk), .pure (.list T), .emp, .pure (.int top), .own W, s8, s9, .own GG, s11, .emp]) →
      fDef 13 4 [] (gSeq (gSet 4 (fSl C1 foNone (foSome (fCall Sh.F__law_take (frBox (fVar 0) (frVal (fTwo gAdd (fVar 1) (fCst (.int 1))) frNil)))))) (gSeq (gSet 6 (fCall Sh.F__law_of (frBox (fVar 0) (frVal (fLst (faCons (fCst (.int 4)) (faCons (fCst (.int 12)) (faCons (fCst (.int 40)) faNil)))) frNil)))) (gSeq (gSet 7 C3) (gSeq (gSet 9 (fSl C2 foNone (foSome (fVar 3)))) (gSeq (gSet 10 (fLst faNil)) (gSeq (gFor I (bTup [11, 8]) B) (gSeq (gRet 4 (fOne gTuple (fVar 10))) gSkip)))))))
        [.own ds, .pure (.int many), .pure (.int width), .pure (.int mk)] = some (.tuple GG, false, [.own ds4, .pure (.int many), .pure (.int width), .pure (.int mk)]) := fun C1 C2 C3 I B g1 g3 g2 gI gB => by
    simp [fDef_ap, g1, t1, gSl, hcut, t2, g3, g2, hcut2, gI, gB]
  exact fin _ _ _ _ _ c1 h3 c2 hI hl
end Sh

/-! More of hits and steps: pages, raised hits, parts of hits; words that pick the same. -/
namespace Sh
open PySem PySem.Spec PyProof.Rows L2 Pt
/-! ### what is picked, picked again -/
theorem keepA_cnt {k m : Int} {x : Str} : ∀ (R : List Hit) (seen : List Str), (((keepA k m seen R).map fun h => h.lab k).count x + seen.count x : Int) ≤ max m (seen.count x)
  | [], seen => by
    have e : (keepA k m seen []).map (fun h => h.lab k) = [] := rfl
    rw [e]; simp; omega
  | h :: r, seen => by
    have ih := keepA_cnt (k := k) (m := m) (x := x) r (h.lab k :: seen)
    rw [List.count_cons] at ih
    by_cases hc : ((seen.count (h.lab k) : Nat) : Int) < m
    · rw [show keepA k m seen (h :: r) = h :: keepA k m (h.lab k :: seen) r from if_pos hc, List.map_cons, List.count_cons]
      by_cases e : h.lab k = x
      · rw [if_pos (by simpa using e)] at ih ⊢
        rw [e] at hc
        have : ((seen.count x : Nat) : Int) + 1 ≤ m := hc
        omega
      · rw [if_neg (by simpa using e)] at ih ⊢
        omega
    · rw [show keepA k m seen (h :: r) = keepA k m (h.lab k :: seen) r from if_neg hc]
      by_cases e : h.lab k = x
      · rw [if_pos (by simpa using e)] at ih
        rw [e] at hc
        omega
      · rw [if_neg (by simpa using e)] at ih
        omega
theorem keepA_id {k m : Int} : ∀ (L : List Hit) (seen : List Str), (∀ x ∈ L.map fun h => h.lab k, ((seen.count x : Nat) + ((L.map fun h => h.lab k).count x : Nat) : Int) ≤ m) → keepA k m seen L = L
  | [], _, _ => rfl
  | h :: r, seen, hx => by
    have h1 := hx (h.lab k) (by simp)
    rw [List.map_cons, List.count_cons_self] at h1
    unfold keepA
    rw [if_pos (by omega), keepA_id r _ fun x hm => ?_]
    have h2 := hx x (by simp [hm])
    rw [List.map_cons, List.count_cons] at h2
    rw [List.count_cons]
    omega
theorem capS_again {c : Cf.Cap} {R L : List Hit} (hc : 1 ≤ c.last) (h : L.Sublist (capS c R)) : capS c L = L := by
  cases c with
  | top i =>
    have h1 := h.length_le
    have h2 : (capS (.top i) R).length ≤ i.toNat := by show (R.take i.toNat).length ≤ _; rw [List.length_take]; omega
    exact List.take_of_length_le (by omega)
  | each k m =>
    refine keepA_id L [] fun x _ => ?_
    have h1 := keepA_cnt (k := k) (m := m) (x := x) R []
    have h2 : (L.map fun h => h.lab k).count x ≤ ((keepA k m [] R).map fun h => h.lab k).count x := (h.map _).count_le _
    have h3 : 1 ≤ m := hc
    simp at h1 ⊢
    omega
theorem pkC_again : ∀ (C : List Cf.Cap) {R L : List Hit}, Cf.Good C → L.Sublist (pkC R C) → pkC L C = L
  | [], _, _, _, _ => rfl
  | c :: C, R, L, g, h => by
    have h1 : L.Sublist (capS c R) := h.trans (pkC_sub C _)
    show pkC (capS c L) C = L
    rw [capS_again (g c (by simp)) h1]
    exact pkC_again C (fun x hx => g x (by simp [hx])) h
theorem pk_again {R : List Hit} {w : List Stp} (hf : Fall R) (g : GoodW w) (hn : NearOk w) : pk (pk R w) w = pk R w := by
  cases hR : R with
  | nil => rw [pk_nil, pk_nil]
  | cons h0 r =>
    rw [← hR]
    have hh : R.head? = some h0 := by rw [hR]; rfl
    have e := pk_eq w R hf hh g hn
    cases hL : pk R w with
    | nil => exact pk_nil w
    | cons x L =>
      rw [← hL]
      have hsub : (pk R w).Sublist (pkC R (capsW w)) := by rw [e]; exact List.filter_sublist
      have hfC : Fall (pkC R (capsW w)) := hf.sub (pkC_sub _ _)
      have hhC := pkC_head (capsW w) R g hh
      have hxm : x ∈ geA (thr h0.s w) (pkC R (capsW w)) := by rw [← e, hL]; simp
      obtain ⟨hx1, hx2⟩ := List.mem_filter.mp hxm
      have hx3 : ∀ t ∈ thr h0.s w, t ≤ x.s := fun t ht => by simpa using List.all_eq_true.mp hx2 t ht
      have hle : x.s ≤ h0.s := by
        cases hC : pkC R (capsW w) with
        | nil => rw [hC] at hx1; cases hx1
        | cons y s =>
          rw [hC] at hx1 hfC hhC
          cases hhC
          rcases List.mem_cons.mp hx1 with rfl | z
          · exact Int.le_refl _
          · exact List.rel_of_pairwise_cons hfC z
      have hhL : (pk R w).head? = some h0 := by
        rw [e]
        cases hC : pkC R (capsW w) with
        | nil => rw [hC] at hx1; cases hx1
        | cons y s =>
          rw [hC] at hhC
          cases hhC
          unfold geA
          rw [List.filter_cons_of_pos]
          · rfl
          · refine List.all_eq_true.mpr fun t ht => ?_
            have := hx3 t ht
            simp; omega
      rw [pk_eq w (pk R w) (hf.sub (pk_sub w R)) hhL g hn, pkC_again (capsW w) g hsub]
      have hall : ∀ y ∈ pk R w, (thr h0.s w).all (fun t => decide (t ≤ y.s)) = true := fun y hy => by
        rw [e] at hy
        exact (List.mem_filter.mp hy).2
      exact List.filter_eq_self.mpr hall
/-- the same caps, the greatest floor, the least near -/
theorem pk_ftop {R : List Hit} {w v : List Stp} (hf : Fall R) (g : GoodW w) (hn : NearOk w) (hn2 : NearOk v) (hc : capsW w = capsW v) (h1 : ftop true (nums "floor" w) = ftop true (nums "floor" v)) (h2 : ftop false (nums "near" w) = ftop false (nums "near" v)) : pk R w = pk R v := by
  cases hR : R with
  | nil => rw [pk_nil, pk_nil]
  | cons h0 r =>
    rw [← hR]
    have hh : R.head? = some h0 := by rw [hR]; rfl
    have g' : GoodW v := by unfold GoodW at g ⊢; rwa [← hc]
    rw [pk_eq w R hf hh g hn, pk_eq v R hf hh g' hn2, hc]
    refine geA_congr fun x _ => ?_
    have split : ∀ v : List Stp, (∀ t ∈ thr h0.s v, t ≤ x.s) ↔ (∀ t, ftop true (nums "floor" v) = some t → t ≤ x.s) ∧ ∀ i, ftop false (nums "near" v) = some i → h0.s - i ≤ x.s := fun v => by
      constructor
      · refine fun h => ⟨fun t ht => h t (thr_mem.mpr (.inl (mem_floor.mp (ftop_max ht).1))), fun i hi => h _ (thr_mem.mpr (.inr ⟨i, mem_near.mp (ftop_min hi).1, rfl⟩))⟩
      · rintro ⟨q1, q2⟩ t ht
        rcases thr_mem.mp ht with z | ⟨i, z, rfl⟩
        · cases e : ftop true (nums "floor" v) with
          | none => rw [ftop_none] at e; have := mem_floor.mpr z; rw [e] at this; cases this
          | some m =>
            have := q1 m e
            have := (ftop_max e).2 t (mem_floor.mpr z)
            omega
        · cases e : ftop false (nums "near" v) with
          | none => rw [ftop_none] at e; have := mem_near.mpr z; rw [e] at this; cases this
          | some m =>
            have := q2 m e
            have := (ftop_min e).2 i (mem_near.mpr z)
            omega
    rw [split, split, h1, h2]
/-! ### scores so much more -/
def Hit.up (n : Int) (h : Hit) : Hit := ⟨h.n, h.s + n, h.l⟩
theorem keepA_up {n k m : Int} : ∀ (R : List Hit) (seen : List Str), keepA k m seen (R.map (Hit.up n)) = (keepA k m seen R).map (Hit.up n)
  | [], _ => rfl
  | h :: r, seen => by
    show (if _ then _ else _) = (if _ then _ else _ : List Hit).map _
    have e : (h.up n).lab k = h.lab k := rfl
    rw [e, keepA_up r]
    split <;> rfl
theorem geL_up {n t : Int} {R : List Hit} : geL (t + n) (R.map (Hit.up n)) = (geL t R).map (Hit.up n) := by
  unfold geL
  rw [List.filter_map]
  congr 1
  refine List.filter_congr fun x _ => ?_
  show decide (t + n ≤ x.s + n) = decide (t ≤ x.s)
  rw [decide_eq_decide]; omega
theorem stp_up {n : Int} (s : Stp) (R : List Hit) : stp (raiseS n s) (R.map (Hit.up n)) = (stp s R).map (Hit.up n) := by
  cases s with
  | floor i => exact geL_up
  | near i =>
    cases R with
    | nil => rfl
    | cons b r =>
      show geL (b.s + n - i) ((b :: r).map (Hit.up n)) = _
      rw [show b.s + n - i = (b.s - i) + n from by omega]
      exact geL_up
  | top i => exact List.map_take.symm
  | each k m => exact keepA_up _ _
theorem pk_up {n : Int} : ∀ (w : List Stp) (R : List Hit), pk (R.map (Hit.up n)) (w.map (raiseS n)) = (pk R w).map (Hit.up n)
  | [], R => rfl
  | s :: w, R => by
    show pk (stp (raiseS n s) (R.map (Hit.up n))) (w.map (raiseS n)) = (pk (stp s R) w).map (Hit.up n)
    rw [stp_up, pk_up w]
theorem rank_up {n : Int} (hs : List Hit) : rank (hs.map (Hit.up n)) = (rank hs).map (Hit.up n) := isP_map hs fun x _ y _ => by
  unfold kleH Hit.up
  dsimp only
  rw [Bool.eq_iff_iff]
  simp only [Bool.or_eq_true, Bool.and_eq_true, decide_eq_true_eq]
  constructor
  · rintro (h | ⟨h, q⟩)
    · exact .inl (by omega)
    · exact .inr ⟨by omega, q⟩
  · rintro (h | ⟨h, q⟩)
    · exact .inl (by omega)
    · exact .inr ⟨by omega, q⟩
theorem pickN_up {n : Int} {hs : List Hit} {w : List Stp} : pickN (hs.map (Hit.up n)) (w.map (raiseS n)) = pickN hs w := by
  unfold pickN
  rw [rank_up, pk_up, List.map_map]
  rfl
end Sh

/-! names_of, page, left_along, own_hits, raised, hit_of, part_of as data. -/
namespace Sh
open PySem PySem.Spec PyProof.Rows L2 Pt
theorem names_of_ok {b c : Bool} {hs : List Hit} (h : hs.length ≤ 1000) : F_names_of [.pure (sq c (hs.map (encH b)))] = some (.tuple ((hs.map Hit.n).map PyData.str), false, [.pure (sq c (hs.map (encH b)))]) := by
  have hc := compV (i := 1) (I := fiSeq (fVar 0)) (T := fTYes) (E := fTwo gIx (fVar 1) (fCst (.int 0))) (env := [.pure (sq c (hs.map (encH b))), .emp]) hs (encH b) (fun _ => true) (fun h => PyData.str h.n) (by simp [items_sq]) rfl noOwn_emp (by rw [sizeLine_eq]; omega)
    (fun x _ => ⟨rfl, fun _ => ⟨.st, trivial, by simp⟩⟩)
  rw [filter_true] at hc
  have e : (hs.map Hit.n).map PyData.str = hs.map fun h => PyData.str h.n := by rw [List.map_map]; rfl
  rw [e]
  generalize (hs.map fun h => PyData.str h.n) = N at hc ⊢
  generalize sq c (hs.map (encH b)) = S at hc ⊢
  simp [F_names_of, fDef_ap, G_names_of, hc]
/-- the page -/
def pageN (hs : List Hit) (w : List Stp) : List Str := (pk (rank hs) w).map Hit.n
theorem page_ok {b c bw cw : Bool} {hs : List Hit} {w : List Stp} (hl : hs.length ≤ 1000) (hw : w.length ≤ 1000) (hk : KindsOk hs w) (ho : WordOk hs w) :
    F_page [.pure (sq c (hs.map (encH b))), .pure (sq cw (w.map (encB bw)))] = some (.tuple ((pageN hs w).map PyData.str), false, [.pure (sq c (hs.map (encH b))), .pure (sq cw (w.map (encB bw)))]) := by
  have hr := ranks_ok (b := b) (c := c) (bw := bw) (cw := cw) hl hw hk ho
  obtain ⟨L, hL, hLl⟩ := rksL_last (R := rank hs) w
  have hn := names_of_ok (b := b) (c := true) (hs := pk (rank hs) w) (by have := (pk_sub w (rank hs)).length_le; rw [rank_len] at this; omega)
  have hix : gIx (.list ((rksL (rank hs) w).map (encL b))) (.int (-1)) = some (.list ((pk (rank hs) w).map (encH b)), .st) := by
    rw [hL, List.map_append, List.map_singleton]; exact ix_last
  have e : sq true ((pk (rank hs) w).map (encH b)) = .list ((pk (rank hs) w).map (encH b)) := rfl
  rw [e] at hn
  unfold pageN
  generalize ((pk (rank hs) w).map Hit.n).map PyData.str = out at hn ⊢
  generalize (pk (rank hs) w).map (encH b) = cur at hn hix
  generalize (rksL (rank hs) w).map (encL b) = rks at hr hix
  generalize sq c (hs.map (encH b)) = S at hr ⊢
  generalize sq cw (w.map (encB bw)) = W at hr ⊢
  simp [F_page, fDef_ap, G_page, hr, hix, hn]
/-- the names left by each step -/
def alongN (hs : List Hit) (w : List Stp) : List (List Str) := ((rksL (rank hs) w).drop 1).map fun L => sortS (L.map Hit.n)
theorem rksL_mem {R : List Hit} : ∀ w : List Stp, ∀ L ∈ rksL R w, L.Sublist R := by
  intro w
  have go : ∀ (w : List Stp) (A : List (List Hit)), A ≠ [] → (∀ L ∈ A, L.Sublist R) → ∀ L ∈ w.foldl (fun L s => L ++ [stp s ((L.getLast?).getD [])]) A, L.Sublist R := by
    intro w
    induction w with
    | nil => intro A _ h; exact h
    | cons s w ih =>
      intro A hne h
      refine ih _ (by simp) fun L hL => ?_
      rcases List.mem_append.mp hL with z | z
      · exact h L z
      · rw [List.mem_singleton.mp z]
        obtain ⟨Q, hQ⟩ : ∃ Q, A.getLast? = some Q := ⟨A.getLast hne, List.getLast?_eq_some_getLast hne⟩
        rw [hQ]
        exact (stp_sub s Q).trans (h Q (List.mem_of_getLast? hQ))
  exact go w [R] (by simp) fun L hL => by rw [List.mem_singleton.mp hL]; exact .refl R
theorem along_ok {b c bw cw : Bool} {hs : List Hit} {w : List Stp} (hl : hs.length ≤ 1000) (hw : w.length ≤ 1000) (hk : KindsOk hs w) (ho : WordOk hs w) :
    F_left_along [.pure (sq c (hs.map (encH b))), .pure (sq cw (w.map (encB bw)))] = some (.list ((alongN hs w).map fun N => PyData.tuple (N.map PyData.str)), true, [.pure (sq c (hs.map (encH b))), .pure (sq cw (w.map (encB bw)))]) := by
  have hr := ranks_ok (b := b) (c := c) (bw := bw) (cw := cw) hl hw hk ho
  have hcut : Pt.cutD ((rksL (rank hs) w).map (encL b)) (some 1) none = ((rksL (rank hs) w).drop 1).map (encL b) := by
    rw [show (some (1 : Int)) = some ((1 : Nat) : Int) from rfl, cut_drop, List.map_drop]
  have hlen := rksL_len (R := rank hs) (w := w)
  have hc := compV (i := 2) (I := fiSeq (fSl (fCall Sh.F_ranks_along (frVal (fVar 0) (frVal (fVar 1) frNil))) (foSome (fCst (.int 1))) foNone)) (T := fTYes) (E := fCall Sh.F_name_set (frVal (fVar 2) frNil)) (env := [.pure (sq c (hs.map (encH b))), .pure (sq cw (w.map (encB bw))), .emp]) ((rksL (rank hs) w).drop 1) (encL b) (fun _ => true) (fun L => PyData.tuple ((sortS (L.map Hit.n)).map PyData.str))
    (by
      generalize ((rksL (rank hs) w).drop 1).map (encL b) = out at hcut ⊢
      generalize (rksL (rank hs) w).map (encL b) = rks at hr hcut
      generalize sq c (hs.map (encH b)) = S at hr ⊢
      generalize sq cw (w.map (encB bw)) = W at hr ⊢
      simp [hr, gSl, hcut]) rfl noOwn_emp (by rw [List.length_drop, hlen, sizeLine_eq]; omega)
    (fun L hL => ⟨rfl, fun _ => ⟨.st, trivial, by
      have hLs := rksL_mem w L (List.mem_of_mem_drop hL)
      have hn := name_set_ok (b := b) (c := true) (hs := L) (by have := hLs.length_le; rw [rank_len] at this; omega)
      have e : sq true (L.map (encH b)) = encL b L := rfl
      rw [e] at hn
      generalize sq c (hs.map (encH b)) = S
      generalize sq cw (w.map (encB bw)) = W
      generalize (sortS (L.map Hit.n)).map PyData.str = out at hn ⊢
      generalize encL b L = LL at hn ⊢
      simp [hn]⟩⟩)
  rw [filter_true] at hc
  have e : ((alongN hs w).map fun N => PyData.tuple (N.map PyData.str)) = ((rksL (rank hs) w).drop 1).map fun L => PyData.tuple ((sortS (L.map Hit.n)).map PyData.str) := by unfold alongN; rw [List.map_map]; rfl
  rw [e]
  generalize (((rksL (rank hs) w).drop 1).map fun L => PyData.tuple ((sortS (L.map Hit.n)).map PyData.str)) = out at hc ⊢
  generalize sq c (hs.map (encH b)) = S at hc ⊢
  generalize sq cw (w.map (encB bw)) = W at hc ⊢
  have fin : ∀ C : FE, C [.pure S, .pure W, .emp] = some (.list out, .fr, [.pure S, .pure W, .emp]) → fDef 3 2 [] (gSeq (gRet 2 C) gSkip) [.pure S, .pure W] = some (.list out, true, [.pure S, .pure W]) := fun C h => by simp [fDef_ap, h]
  exact fin _ hc
/-! ### own_hits, raised -/
theorem encH_t (h : Hit) : encH false h = .tuple [.str h.n, .int h.s, .tuple (h.l.map PyData.str)] := rfl
theorem own_hits_ok {c : Bool} {hs : List Hit} (h : hs.length ≤ 1000) : F_own_hits [.pure (sq c (hs.map (encH false)))] = some (.tuple (hs.map (encH false)), false, [.pure (sq c (hs.map (encH false)))]) := by
  have hc := compG (own := [1, 2, 3]) (b := bTup [1, 2, 3]) (T := fTYes) (E := fTup (faCons (fVar 1) (faCons (fVar 2) (faCons (fOne gTuple (fVar 3)) faNil)))) (I := fiSeq (fVar 0)) (env := [.pure (sq c (hs.map (encH false))), .emp, .emp, .emp]) (e1 := [.pure (sq c (hs.map (encH false))), .emp, .emp, .emp]) hs (encH false) (fun _ => true) (encH false) (by simp [items_sq]) rfl rfl (by rw [sizeLine_eq]; omega)
    (fun x _ => ⟨[.pure (sq c (hs.map (encH false))), .pure (.str x.n), .pure (.int x.s), .pure (.tuple (x.l.map PyData.str))], rfl, rfl, rfl, fun _ => ⟨.st, trivial, by
      rw [encH_t]
      generalize x.l.map PyData.str = L
      generalize sq c (hs.map (encH false)) = S
      simp⟩⟩)
  rw [filter_true] at hc
  generalize hs.map (encH false) = H at hc ⊢
  generalize sq c H = S at hc ⊢
  simp [F_own_hits, fDef_ap, G_own_hits, hc]
theorem raised_ok {c : Bool} {hs : List Hit} {n : Int} (h : hs.length ≤ 1000) : F_raised [.pure (sq c (hs.map (encH false))), .pure (.int n)] = some (.tuple ((hs.map (Hit.up n)).map (encH false)), false, [.pure (sq c (hs.map (encH false))), .pure (.int n)]) := by
  have hc := compG (own := [2, 3, 4]) (b := bTup [2, 3, 4]) (T := fTYes) (E := fTup (faCons (fVar 2) (faCons (fTwo gAdd (fVar 3) (fVar 1)) (faCons (fVar 4) faNil)))) (I := fiSeq (fVar 0)) (env := [.pure (sq c (hs.map (encH false))), .pure (.int n), .emp, .emp, .emp]) (e1 := [.pure (sq c (hs.map (encH false))), .pure (.int n), .emp, .emp, .emp]) hs (encH false) (fun _ => true) (fun x => encH false (x.up n)) (by simp [items_sq]) rfl rfl (by rw [sizeLine_eq]; omega)
    (fun x _ => ⟨[.pure (sq c (hs.map (encH false))), .pure (.int n), .pure (.str x.n), .pure (.int x.s), .pure (.tuple (x.l.map PyData.str))], rfl, rfl, rfl, fun _ => ⟨.st, trivial, by
      rw [encH_t]
      show _ = some (PyData.tuple [.str x.n, .int (x.s + n), .tuple (x.l.map PyData.str)], _, _)
      generalize x.l.map PyData.str = L
      generalize sq c (hs.map (encH false)) = S
      simp⟩⟩)
  rw [filter_true] at hc
  have e : hs.map (fun x => encH false (x.up n)) = (hs.map (Hit.up n)).map (encH false) := by rw [List.map_map]; rfl
  rw [e] at hc
  have ho : F_own_hits [.pure (.list ((hs.map (Hit.up n)).map (encH false)))] = _ := own_hits_ok (c := true) (hs := hs.map (Hit.up n)) (by rw [List.length_map]; exact h)
  have e2 : sq true ((hs.map (Hit.up n)).map (encH false)) = .list ((hs.map (Hit.up n)).map (encH false)) := rfl
  rw [e2] at ho
  generalize (hs.map (Hit.up n)).map (encH false) = U at hc ho ⊢
  generalize sq c (hs.map (encH false)) = S at hc ⊢
  have fin : ∀ C : FE, C [.pure S, .pure (.int n), .emp, .emp, .emp] = some (.list U, .fr, [.pure S, .pure (.int n), .emp, .emp, .emp]) → fDef 5 2 [] (gSeq (gRet 2 (fCall Sh.F_own_hits (frVal C frNil))) gSkip) [.pure S, .pure (.int n)] = some (.tuple U, false, [.pure S, .pure (.int n)]) := fun C h => by simp [fDef_ap, h, ho]
  exact fin _ hc
/-! ### hit_of, part_of -/
def hitAt (hs : List Hit) (x : Str) : Option Hit := hs.find? fun h => h.n == x
theorem hit_of_ok {b c : Bool} {hs : List Hit} {x : Str} {h : Hit} (hx : hitAt hs x = some h) : F_hit_of [.pure (sq c (hs.map (encH b))), .pure (.str x)] = some (encH b h, false, [.pure (sq c (hs.map (encH b))), .pure (.str x)]) := by
  obtain ⟨s2, h1⟩ := forL_srch (b := bName 2) (body := B0_hit_of) (base := fun s2 : Slot => [.pure (sq c (hs.map (encH b))), .pure (.str x), s2]) (encH b) (fun h : Hit => if h.n == x then some (encH b h) else none) hs (fun a _ s => by
    generalize sq c (hs.map (encH b)) = S
    refine ⟨[.pure S, .pure (.str x), .pure (encH b a)], .pure (encH b a), rfl, ?_⟩
    cases e : (a.n == x) <;> simp [B0_hit_of, e, srchO]) .emp
  have hf : hs.findSome? (fun h : Hit => if h.n == x then some (encH b h) else none) = some (encH b h) := by
    unfold hitAt at hx
    have go : ∀ l : List Hit, l.find? (fun h => h.n == x) = some h → l.findSome? (fun h : Hit => if h.n == x then some (encH b h) else none) = some (encH b h) := by
      intro l
      induction l with
      | nil => intro z; cases z
      | cons a r ih =>
        intro z
        rw [List.find?_cons] at z
        rw [List.findSome?_cons]
        cases e : (a.n == x) with
        | true => rw [e] at z; cases z; rfl
        | false => rw [e] at z; exact ih z
    exact go hs hx
  rw [hf] at h1
  have hit := items_sq (c := c) (xs := hs.map (encH b))
  have h1' : forL (bName 2) B0_hit_of (hs.map (encH b)) [.pure (sq c (hs.map (encH b))), .pure (.str x), .emp] = some (.rt (encH b h) false [.pure (sq c (hs.map (encH b))), .pure (.str x), s2]) := h1
  generalize hs.map (encH b) = HH at h1' hit ⊢
  generalize sq c HH = S at h1' hit ⊢
  generalize encH b h = out at h1' ⊢
  have fin : ∀ B : FG, forL (bName 2) B HH [.pure S, .pure (.str x), .emp] = some (.rt out false [.pure S, .pure (.str x), s2]) → fDef 3 2 [] (gSeq (gFor (fiSeq (fVar 0)) (bName 2) B) (gSeq gNone gSkip)) [.pure S, .pure (.str x)] = some (out, false, [.pure S, .pure (.str x)]) := fun B h => by simp [fDef_ap, hit, h]
  exact fin _ h1'
theorem in_strs {x : Str} {N : List Str} {c : Bool} : gIn (.str x) (sq c (N.map PyData.str)) = some (.bool (N.contains x), .st) := by
  have e : (N.map PyData.str).any (fun y => PyData.eqv y (.str x)) = N.contains x := by
    induction N with
    | nil => rfl
    | cons y N ih =>
      rw [List.map_cons, List.any_cons, ih, List.contains_cons]
      congr 1
      simp only [PyData.eqv]
      exact BEq.comm
  have hok : iOk (N.map PyData.str) (.str x) = true := by
    unfold iOk
    have h1 : PyData.plainAll (N.map PyData.str) = true := plain_strs N
    have h2 : PyData.depthAll (N.map PyData.str) = 0 := depth_strs N
    rw [h1, h2]
    simp [PyData.plain]
  cases c with
  | false =>
    show gIn (.str x) (.tuple (N.map PyData.str)) = _
    unfold gIn
    dsimp only
    rw [if_pos hok, e]
  | true =>
    show gIn (.str x) (.list (N.map PyData.str)) = _
    unfold gIn
    dsimp only
    rw [if_pos hok, e]
theorem part_of_ok {c cn : Bool} {hs : List Hit} {N : List Str} (h : hs.length ≤ 1000) (hN : ∀ x ∈ N, ∃ a, hitAt hs x = some a) :
    F_part_of [.pure (sq c (hs.map (encH false))), .pure (sq cn (N.map PyData.str))] = some (.tuple ((hs.filter fun a => N.contains a.n).map (encH false)), false, [.pure (sq c (hs.map (encH false))), .pure (sq cn (N.map PyData.str))]) := by
  have h1 := forL_pre (b := bName 2) (body := B0_part_of) PyData.str (fun pre => [.pure (sq c (hs.map (encH false))), .pure (sq cn (N.map PyData.str)), lastS PyData.str pre, .emp]) N (fun pre x suf e => by
    refine ⟨_, rfl, ?_⟩
    rw [lastS_snoc]
    obtain ⟨a, ha⟩ := hN x (by rw [e]; simp)
    have hh := hit_of_ok (b := false) (c := c) ha
    generalize sq c (hs.map (encH false)) = S at hh ⊢
    generalize sq cn (N.map PyData.str) = NN
    generalize encH false a = A at hh
    simp [B0_part_of, hh])
  have hc := compV (i := 3) (I := fiSeq (fVar 0)) (T := fTst (fTwo gIn (fTwo gIx (fVar 3) (fCst (.int 0))) (fVar 1))) (E := fVar 3) (env := [.pure (sq c (hs.map (encH false))), .pure (sq cn (N.map PyData.str)), lastS PyData.str N, .emp]) hs (encH false) (fun a => N.contains a.n) (encH false) (by simp [items_sq]) rfl noOwn_emp (by rw [sizeLine_eq]; omega)
    (fun x _ => by
      have hi := in_strs (x := x.n) (N := N) (c := cn)
      generalize sq c (hs.map (encH false)) = S
      generalize sq cn (N.map PyData.str) = NN at hi ⊢
      generalize lastS PyData.str N = s2
      exact ⟨by simp [hi], fun _ => ⟨.st, trivial, by simp⟩⟩)
  have ho : F_own_hits [.pure (.list ((hs.filter fun a => N.contains a.n).map (encH false)))] = _ := own_hits_ok (c := true) (hs := hs.filter fun a => N.contains a.n) (Nat.le_trans (List.length_filter_le _ _) h)
  have e2 : sq true ((hs.filter fun a => N.contains a.n).map (encH false)) = .list ((hs.filter fun a => N.contains a.n).map (encH false)) := rfl
  rw [e2] at ho
  have hit := items_sq (c := cn) (xs := N.map PyData.str)
  have h1' : forL (bName 2) B0_part_of (N.map PyData.str) [.pure (sq c (hs.map (encH false))), .pure (sq cn (N.map PyData.str)), .emp, .emp] = _ := h1
  generalize (hs.filter fun a => N.contains a.n).map (encH false) = U at hc ho ⊢
  generalize lastS PyData.str N = s2 at h1' hc
  generalize N.map PyData.str = NL at h1' hc hit ⊢
  generalize sq cn NL = NN at h1' hc hit ⊢
  generalize sq c (hs.map (encH false)) = S at h1' hc ⊢
  have fin : ∀ (B : FG) (C : FE), forL (bName 2) B NL [.pure S, .pure NN, .emp, .emp] = some (.nx [.pure S, .pure NN, s2, .emp]) → C [.pure S, .pure NN, s2, .emp] = some (.list U, .fr, [.pure S, .pure NN, s2, .emp]) →
      fDef 4 2 [] (gSeq (gFor (fiSeq (fVar 1)) (bName 2) B) (gSeq (gRet 2 (fCall Sh.F_own_hits (frVal C frNil))) gSkip)) [.pure S, .pure NN] = some (.tuple U, false, [.pure S, .pure NN]) := fun B C h1 h2 => by simp [fDef_ap, hit, h1, h2, ho]
  exact fin _ _ h1' hc
/-! ### the picked hits alone -/
theorem hitAt_some {hs : List Hit} {x : Hit} (d : Dist hs) (h : x ∈ hs) : hitAt hs x.n = some x := by
  unfold hitAt
  cases e : hs.find? (fun h => h.n == x.n) with
  | none => exact absurd (List.find?_eq_none.mp e x h) (by simp)
  | some y =>
    have h1 := List.mem_of_find?_eq_some e
    have h2 := List.find?_some e
    rw [d y h1 x h (by simpa using h2)]
theorem pickN_mem {hs : List Hit} {w : List Stp} {y : Str} : y ∈ pickN hs w ↔ ∃ x ∈ pk (rank hs) w, x.n = y := by
  unfold pickN sortS
  rw [isP_mem, List.mem_map]
theorem rank_part {hs : List Hit} {w : List Stp} (d : Dist hs) (nd : hs.Nodup) : rank (hs.filter fun a => (pickN hs w).contains a.n) = pk (rank hs) w := by
  have hsub := pk_sub w (rank hs)
  refine rank_of ?_ (rank_pw.sublist hsub) (d.sub fun x hx => rank_mem.mp (hsub.subset hx))
  have nd2 : (pk (rank hs) w).Nodup := (rank_perm.nodup_iff.mpr nd).sublist hsub
  refine (List.perm_ext_iff_of_nodup (nd.sublist List.filter_sublist) nd2).mpr fun x => ?_
  rw [List.mem_filter]
  constructor
  · rintro ⟨h1, h2⟩
    obtain ⟨y, hy, e⟩ := pickN_mem.mp (by simpa using h2)
    have := d y (rank_mem.mp (hsub.subset hy)) x h1 e
    rwa [← this]
  · intro h
    exact ⟨rank_mem.mp (hsub.subset h), by simpa using pickN_mem.mpr ⟨x, h, rfl⟩⟩
theorem nodup_of_names {hs : List Hit} (h : (hs.map Hit.n).Nodup) : hs.Nodup := (List.pairwise_map.mp h).imp fun q e => q (by rw [e])
theorem pickN_part {hs : List Hit} {w : List Stp} (d : Dist hs) (nd : hs.Nodup) (g : GoodW w) (hn : NearOk w) : pickN (hs.filter fun a => (pickN hs w).contains a.n) w = pickN hs w := by
  show sortS ((pk (rank (hs.filter fun a => (pickN hs w).contains a.n)) w).map Hit.n) = _
  rw [rank_part d nd, pk_again (rank_fall hs) g hn]; rfl
end Sh

/-! Words in bounds on hits of one width: what is asked of them. -/
namespace Sh
open PySem PySem.Spec PyProof.Rows L2 Pt
theorem strs_eqv : ∀ xs ys : List Str, PyData.eqvAll (xs.map PyData.str) (ys.map PyData.str) = (xs == ys)
  | [], [] => rfl
  | [], y :: ys => by simp [PyData.eqvAll]
  | x :: xs, [] => by simp [PyData.eqvAll]
  | x :: xs, y :: ys => by
    have ih := strs_eqv xs ys
    simp only [List.map_cons, PyData.eqvAll, PyData.eqv, ih]
    rfl
theorem gNe_strs (xs : List Str) : gNe (.tuple (xs.map PyData.str)) (.tuple (xs.map PyData.str)) = some (.bool false, .st) := by
  simp [gNe, dOk, PyData.plain, plain_strs, PyData.depth, depth_strs, PyData.eqv, strs_eqv]
theorem gEq_strs (xs : List Str) : gEq (.tuple (xs.map PyData.str)) (.tuple (xs.map PyData.str)) = some (.bool true, .st) := by
  simp [gEq, dOk, PyData.plain, plain_strs, PyData.depth, depth_strs, PyData.eqv, strs_eqv]
def encW (v : List Stp) : D := .tuple (v.map (encB false))
/-- steps in bounds -/
def StpIn (width : Int) : Stp → Prop
  | .floor _ => True
  | .near i => 0 ≤ i
  | .top i => 1 ≤ i
  | .each k i => 0 ≤ k ∧ k < width ∧ 1 ≤ i
def WordIn (width : Int) (w : List Stp) : Prop := ∀ s ∈ w, StpIn width s
theorem RowW.inn {width : Int} {w : List Stp} (h : RowW width w) : WordIn width w := fun s hs => by
  have := h.st s hs
  cases s with
  | floor i => trivial
  | near i => exact this.1
  | top i => exact this.1
  | each k i => exact ⟨this.1, this.2.1, this.2.2.1⟩
theorem WordIn.good {width : Int} {w : List Stp} (h : WordIn width w) : GoodW w := fun c hc => by
  obtain ⟨s, hs, e⟩ := List.mem_filterMap.mp hc
  have := h s hs
  cases s with
  | floor i => cases e
  | near i => cases e
  | top i => cases e; exact this
  | each k i => cases e; exact this.2.2
theorem WordIn.near {width : Int} {w : List Stp} (h : WordIn width w) : NearOk w := fun i hi => h _ hi
theorem WordIn.sub {width : Int} {w v : List Stp} (h : WordIn width w) (s : ∀ x ∈ v, x ∈ w) : WordIn width v := fun x hx => h x (s x hx)
theorem WordIn.app {width : Int} {w v : List Stp} (h : WordIn width w) (g : WordIn width v) : WordIn width (w ++ v) := fun x hx => by
  rcases List.mem_append.mp hx with z | z
  · exact h x z
  · exact g x z
def HitsW (width : Int) (G : List Hit) : Prop := ∀ h ∈ G, (h.l.length : Int) = width
theorem WordIn.ok {width : Int} {G : List Hit} {w : List Stp} (hw : WordIn width w) (g : HitsW width G) : KindsOk G w ∧ WordOk G w := by
  have wd : WordOk G w := fun s hs => by
    have := hw s hs
    cases s with
    | floor i => trivial
    | near i => trivial
    | top i => exact Int.le_trans (by decide) this
    | each k i =>
      refine ⟨this.1, fun x hx => ?_⟩
      have h1 := g x hx
      have h2 := this.2.1
      have h0 := this.1
      omega
  refine ⟨?_, wd⟩
  cases hG : G with
  | nil => exact .inl rfl
  | cons x r =>
    refine .inr fun k hk => ?_
    obtain ⟨s, hs, e⟩ := List.mem_filterMap.mp hk
    cases s with
    | each k' i =>
      cases e
      have := hw _ hs
      have h1 := g x (by rw [hG]; simp)
      have h2 := this.2.1
      have h0 := this.1
      refine ⟨h0, ?_⟩
      show k < (x.l.length : Nat)
      omega
    | floor i => cases e
    | near i => cases e
    | top i => cases e
section
variable {width : Int} {G : List Hit} {w : List Stp}
theorem picked_in (g : HitsW width G) (hG : G.length ≤ 1000) (hw : WordIn width w) (hl : w.length ≤ 1000) :
    F_picked [.pure (.tuple (G.map (encH false))), .pure (encW w)] = some (.tuple ((pickN G w).map PyData.str), false, [.pure (.tuple (G.map (encH false))), .pure (encW w)]) :=
  picked_ok (b := false) (c := false) (bw := false) (cw := false) hG hl (hw.ok g).1 (hw.ok g).2
theorem page_in (g : HitsW width G) (hG : G.length ≤ 1000) (hw : WordIn width w) (hl : w.length ≤ 1000) :
    F_page [.pure (.tuple (G.map (encH false))), .pure (encW w)] = some (.tuple ((pageN G w).map PyData.str), false, [.pure (.tuple (G.map (encH false))), .pure (encW w)]) :=
  page_ok (b := false) (c := false) (bw := false) (cw := false) hG hl (hw.ok g).1 (hw.ok g).2
end
theorem isC_fn {s : Stp} : (Str.ofString "floor" == tg s || Str.ofString "near" == tg s) = !isC s := by
  cases s with
  | floor i => show (Str.ofString "floor" == Str.ofString "floor" || Str.ofString "near" == Str.ofString "floor") = !(Str.ofString "top" == Str.ofString "floor" || Str.ofString "each" == Str.ofString "floor"); decide +kernel
  | near i => show (Str.ofString "floor" == Str.ofString "near" || Str.ofString "near" == Str.ofString "near") = !(Str.ofString "top" == Str.ofString "near" || Str.ofString "each" == Str.ofString "near"); decide +kernel
  | top i => show (Str.ofString "floor" == Str.ofString "top" || Str.ofString "near" == Str.ofString "top") = !(Str.ofString "top" == Str.ofString "top" || Str.ofString "each" == Str.ofString "top"); decide +kernel
  | each k i => show (Str.ofString "floor" == Str.ofString "each" || Str.ofString "near" == Str.ofString "each") = !(Str.ofString "top" == Str.ofString "each" || Str.ofString "each" == Str.ofString "each"); decide +kernel
theorem capsW_filter (w : List Stp) : capsW (w.filter isC) = capsW w := by
  unfold capsW
  rw [List.filterMap_filter]
  congr 1
  funext s
  cases h : isC s with
  | true => rfl
  | false =>
    have := isC_cap s
    rw [h] at this
    cases e : cap? s with
    | none => rfl
    | some c => rw [e] at this; cases this
theorem pageN_of {G : List Hit} {w v : List Stp} (h : pk (rank G) v = pk (rank G) w) : pageN G v = pageN G w := by unfold pageN; rw [h]
theorem pickN_of {G : List Hit} {w v : List Stp} (h : pk (rank G) v = pk (rank G) w) : pickN G v = pickN G w := by unfold pickN; rw [h]
theorem fine_strs {m : Nat} {N : List Str} (h : N.length ≤ 1000000) : Fine (m + 1) (.tuple (N.map PyData.str)) := .sq m false (N.map PyData.str) (by rw [List.length_map]; exact h) fun x hx => by
  obtain ⟨s, _, rfl⟩ := List.mem_map.mp hx
  exact .at m (.inl (.inr ⟨s, rfl⟩))
theorem pageN_len {G : List Hit} {w : List Stp} : (pageN G w).length ≤ G.length := by
  unfold pageN
  rw [List.length_map]
  have := (pk_sub w (rank G)).length_le
  rwa [rank_len] at this
theorem pickN_len {G : List Hit} {w : List Stp} : (pickN G w).length ≤ G.length := by
  unfold pickN sortS
  rw [isP_len, List.length_map]
  have := (pk_sub w (rank G)).length_le
  rwa [rank_len] at this
end Sh

/-! What is left by each step; whom a hit goes by. -/
namespace Sh
open PySem PySem.Spec PyProof.Rows L2 Pt
theorem pk_snoc {R : List Hit} {w : List Stp} {s : Stp} : pk R (w ++ [s]) = stp s (pk R w) := by rw [pk_app]; rfl
theorem alongN_snoc {hs : List Hit} {w : List Stp} {s : Stp} : alongN hs (w ++ [s]) = alongN hs w ++ [pickN hs (w ++ [s])] := by
  unfold alongN pickN
  rw [rksL_snoc, rksL_get, pk_snoc, List.drop_append_of_le_length (by rw [rksL_len]; omega), List.map_append]
  rfl
theorem alongN_nil {hs : List Hit} : alongN hs [] = [] := rfl
theorem alongN_len {hs : List Hit} {w : List Stp} : (alongN hs w).length = w.length := by
  unfold alongN
  rw [List.length_map, List.length_drop, rksL_len]; omega
theorem alongN_mem {hs : List Hit} (w : List Stp) : ∀ N ∈ alongN hs w, ∃ v, N = pickN hs v := by
  have go : ∀ u : List Stp, ∀ N ∈ alongN hs u.reverse, ∃ v, N = pickN hs v := by
    intro u
    induction u with
    | nil => intro N h; cases h
    | cons s u ih =>
      intro N h
      rw [List.reverse_cons, alongN_snoc] at h
      rcases List.mem_append.mp h with z | z
      · exact ih N z
      · exact ⟨_, List.mem_singleton.mp z⟩
  have := go w.reverse
  rwa [List.reverse_reverse] at this
theorem gSorted_strsT (l : List Str) : gSorted (.tuple (l.map PyData.str)) = some (.list ((sortS l).map PyData.str), .fr) := gSorted_strs l
theorem sort_page {hs : List Hit} {w : List Stp} : sortS (pageN hs w) = pickN hs w := rfl
end Sh

/-! Where hits go and by whom. -/
namespace Sh
open PySem PySem.Spec PyProof.Rows L2 Pt
/-! ### best_first -/
theorem best_first_ok {b c : Bool} {hs : List Hit} (h : hs.length ≤ 1000) : F_best_first [.pure (sq c (hs.map (encH b)))] = some (.tuple (((rank hs).map Hit.n).map PyData.str), false, [.pure (sq c (hs.map (encH b)))]) := by
  have hr := ranked_ok (b := b) (c := c) h
  have hc := compV (i := 1) (I := fiSeq (fCall Sh.F_ranked (frVal (fVar 0) frNil))) (T := fTYes) (E := fTwo gIx (fVar 1) (fCst (.int 0))) (env := [.pure (sq c (hs.map (encH b))), .emp]) (rank hs) (encH b) (fun _ => true) (fun h => PyData.str h.n)
    (by
      generalize sq c (hs.map (encH b)) = S at hr ⊢
      generalize (rank hs).map (encH b) = RK at hr ⊢
      simp [hr]) rfl noOwn_emp (by rw [rank_len, sizeLine_eq]; omega)
    (fun x _ => ⟨rfl, fun _ => ⟨.st, trivial, by simp⟩⟩)
  rw [filter_true] at hc
  have e : ((rank hs).map Hit.n).map PyData.str = (rank hs).map fun h => PyData.str h.n := by rw [List.map_map]; rfl
  rw [e]
  generalize ((rank hs).map fun h => PyData.str h.n) = N at hc ⊢
  generalize sq c (hs.map (encH b)) = S at hc ⊢
  have fin : ∀ C : FE, C [.pure S, .emp] = some (.list N, .fr, [.pure S, .emp]) → fDef 2 1 [] (gSeq (gRet 1 (fOne gTuple C)) gSkip) [.pure S] = some (.tuple N, false, [.pure S]) := fun C h => by simp [fDef_ap, h]
  exact fin _ hc
/-! ### hits in lists -/
theorem eqv_enc {b : Bool} (x y : Hit) : PyData.eqv (encH b x) (encH b y) = decide (x = y) := by
  have go : ∀ xs ys : List Str, PyData.eqvAll (xs.map PyData.str) (ys.map PyData.str) = decide (xs = ys) := fun xs ys => by
    rw [strs_eqv, Bool.eq_iff_iff]; simp
  obtain ⟨xn, xs, xl⟩ := x
  obtain ⟨yn, ys, yl⟩ := y
  rw [Bool.eq_iff_iff]
  cases b <;> simp [encH, sq, PyData.eqv, PyData.eqvAll, go]
theorem depthAll_encs {b : Bool} : ∀ l : List Hit, PyData.depthAll (l.map (encH b)) ≤ 2
  | [] => by simp [PyData.depthAll]
  | x :: l => by
    rw [List.map_cons, PyData.depthAll, depth_enc]
    have := depthAll_encs (b := b) l
    omega
theorem gNotIn_hits {b : Bool} {L : List Hit} {a : Hit} : gNotIn (encH b a) (.list (L.map (encH b))) = some (.bool (!decide (a ∈ L)), .st) := by
  have h1 : iOk (L.map (encH b)) (encH b a) = true := by
    unfold iOk
    rw [plain_encHs, plain_enc, depth_enc]
    have := depthAll_encs (b := b) L
    simp; omega
  have h2 : (L.map (encH b)).any (fun y => PyData.eqv y (encH b a)) = decide (a ∈ L) := by
    rw [List.any_map, Bool.eq_iff_iff, List.any_eq_true]
    simp only [Function.comp, eqv_enc, decide_eq_true_eq]
    constructor
    · rintro ⟨x, hx, rfl⟩; exact hx
    · exact fun h => ⟨a, h, rfl⟩
  show (if iOk (L.map (encH b)) (encH b a) = true then some (PyData.bool (!(L.map (encH b)).any fun y => PyData.eqv y (encH b a)), Kd.st) else none) = _
  rw [if_pos h1, h2]
def optS : Option Str → D
  | some x => .str x
  | none => .none
def optI : Option Nat → D
  | some k => .int (k : Int)
  | none => .none
/-- the best one that is not picked -/
def outN (hs : List Hit) (w : List Stp) : Option Str := ((rank hs).find? fun a => !decide (a ∈ pk (rank hs) w)).map Hit.n
theorem find_some {α β : Type} (q : α → Bool) (f : α → β) : ∀ l : List α, (l.findSome? fun a => if q a then some (f a) else none) = (l.find? q).map f
  | [] => rfl
  | a :: l => by
    rw [List.findSome?_cons, List.find?_cons]
    cases h : q a with
    | true => rfl
    | false => exact find_some q f l
theorem ix_head {xs : List D} {d : D} : gIx (.list (d :: xs)) (.int 0) = some (d, .st) := by simp
theorem left_out_ok {b c bw cw : Bool} {hs : List Hit} {w : List Stp} (hl : hs.length ≤ 1000) (hw : w.length ≤ 1000) (hk : KindsOk hs w) (ho : WordOk hs w) :
    F_best_left_out [.pure (sq c (hs.map (encH b))), .pure (sq cw (w.map (encB bw)))] = some (optS (outN hs w), false, [.pure (sq c (hs.map (encH b))), .pure (sq cw (w.map (encB bw)))]) := by
  have hr := ranks_ok (b := b) (c := c) (bw := bw) (cw := cw) hl hw hk ho
  obtain ⟨L, hL, hLl⟩ := rksL_last (R := rank hs) w
  have hix : gIx (.list ((rksL (rank hs) w).map (encL b))) (.int (-1)) = some (.list ((pk (rank hs) w).map (encH b)), .st) := by
    rw [hL, List.map_append, List.map_singleton]; exact ix_last
  have hix0 : gIx (.list ((rksL (rank hs) w).map (encL b))) (.int 0) = some (.list ((rank hs).map (encH b)), .st) := by
    have h0 : (rksL (rank hs) w)[0]? = some (rank hs) := by
      have go : ∀ (w : List Stp) (A : List (List Hit)), (w.foldl (fun L s => L ++ [stp s ((L.getLast?).getD [])]) (rank hs :: A))[0]? = some (rank hs) := by
        intro w
        induction w with
        | nil => intro A; rfl
        | cons s w ih => intro A; rw [List.foldl_cons, List.cons_append]; exact ih _
      exact go w []
    exact ix_getL (e := encL b) h0
  obtain ⟨s3, h1⟩ := forL_srch (b := bName 3) (body := B0_best_left_out) (base := fun s3 : Slot => [.pure (sq c (hs.map (encH b))), .pure (sq cw (w.map (encB bw))), .own ((rksL (rank hs) w).map (encL b)), s3]) (encH b) (fun a => if !decide (a ∈ pk (rank hs) w) then some (PyData.str a.n) else none) (rank hs) (fun a _ s => by
    have hn := gNotIn_hits (b := b) (L := pk (rank hs) w) (a := a)
    refine ⟨[.pure (sq c (hs.map (encH b))), .pure (sq cw (w.map (encB bw))), .own ((rksL (rank hs) w).map (encL b)), .pure (encH b a)], .pure (encH b a), rfl, ?_⟩
    generalize decide (a ∈ pk (rank hs) w) = t at hn ⊢
    have hx := hx0 (b := b) (h := a)
    generalize (pk (rank hs) w).map (encH b) = cur at hix hn
    generalize (rksL (rank hs) w).map (encL b) = rks at hix ⊢
    generalize sq c (hs.map (encH b)) = S
    generalize sq cw (w.map (encB bw)) = W
    generalize encH b a = A at hn hx ⊢
    cases t <;> simp [B0_best_left_out, hix, hn, hx, srchO]) .emp
  have ef : (rank hs).findSome? (fun a => if !decide (a ∈ pk (rank hs) w) then some (PyData.str a.n) else none) = (outN hs w).map PyData.str := by
    rw [find_some (fun a : Hit => !decide (a ∈ pk (rank hs) w)) fun a => PyData.str a.n]
    unfold outN
    rw [Option.map_map]; rfl
  rw [ef] at h1
  generalize outN hs w = o at h1 ⊢
  generalize (rank hs).map (encH b) = RK at h1 hix0
  generalize (rksL (rank hs) w).map (encL b) = rks at hr hix0 h1
  generalize sq c (hs.map (encH b)) = S at hr h1 ⊢
  generalize sq cw (w.map (encB bw)) = W at hr h1 ⊢
  have fin : ∀ B : FG, forL (bName 3) B RK [.pure S, .pure W, .own rks, .emp] = some (srchO (fun s3 : Slot => [.pure S, .pure W, .own rks, s3]) s3 (o.map PyData.str)) →
      fDef 4 2 [] (gSeq (gSet 2 (fCall Sh.F_ranks_along (frVal (fVar 0) (frVal (fVar 1) frNil)))) (gSeq (gFor (fiSeq (fTwo gIx (fVar 2) (fCst (.int 0)))) (bName 3) B) (gSeq (gRet 2 (fCst .none)) gSkip))) [.pure S, .pure W] = some (optS o, false, [.pure S, .pure W]) := fun B h => by
    cases o with
    | none => simp [srchO] at h; simp [fDef_ap, hr, hix0, h, optS]
    | some x => simp [srchO] at h; simp [fDef_ap, hr, hix0, h, optS]
  exact fin _ h1
/-! ### where a hit goes -/
def goesN (hs : List Hit) (w : List Stp) (x : Str) : Option Nat := ((alongN hs w).zipIdx.find? fun p => !p.1.contains x).map Prod.snd
theorem goes_ok {b c bw cw : Bool} {hs : List Hit} {w : List Stp} {x : Str} {h : Hit} (hl : hs.length ≤ 1000) (hw : w.length ≤ 1000) (hk : KindsOk hs w) (ho : WordOk hs w) (hx : hitAt hs x = some h) :
    F_goes_at [.pure (sq c (hs.map (encH b))), .pure (sq cw (w.map (encB bw))), .pure (.str x)] = some (optI (goesN hs w x), false, [.pure (sq c (hs.map (encH b))), .pure (sq cw (w.map (encB bw))), .pure (.str x)]) := by
  have ha := along_ok (b := b) (c := c) (bw := bw) (cw := cw) hl hw hk ho
  have hh := hit_of_ok (b := b) (c := c) hx
  obtain ⟨s, h1⟩ := forL_srch (b := bTup [4, 5]) (body := B0_goes_at) (base := fun s : Slot × Slot => [.pure (sq c (hs.map (encH b))), .pure (sq cw (w.map (encB bw))), .pure (.str x), .pure (.list ((alongN hs w).map fun N => PyData.tuple (N.map PyData.str))), s.1, s.2]) (fun p : List Str × Nat => PyData.tuple [.int (p.2 : Int), .tuple (p.1.map PyData.str)]) (fun p => if !p.1.contains x then some (PyData.int (p.2 : Int)) else none) (alongN hs w).zipIdx (fun p _ s => by
    have hi := in_strs (x := x) (N := p.1) (c := false)
    have hn : gNotIn (.str x) (.tuple (p.1.map PyData.str)) = some (.bool (!p.1.contains x), .st) := by
      have hi : gIn (.str x) (.tuple (p.1.map PyData.str)) = some (.bool (p.1.contains x), .st) := hi
      unfold gIn at hi
      unfold gNotIn
      dsimp only at hi ⊢
      split at hi
      · rename_i hz
        rw [if_pos hz]
        have : ((p.1.map PyData.str).any fun y => PyData.eqv y (.str x)) = p.1.contains x := by simpa using hi
        rw [this]
      · cases hi
    refine ⟨[.pure (sq c (hs.map (encH b))), .pure (sq cw (w.map (encB bw))), .pure (.str x), .pure (.list ((alongN hs w).map fun N => PyData.tuple (N.map PyData.str))), .pure (.int (p.2 : Int)), .pure (.tuple (p.1.map PyData.str))], (.pure (.int (p.2 : Int)), .pure (.tuple (p.1.map PyData.str))), rfl, ?_⟩
    generalize p.1.contains x = t at hn ⊢
    generalize p.1.map PyData.str = N at hn ⊢
    generalize (p.2 : Int) = k
    generalize sq c (hs.map (encH b)) = S
    generalize sq cw (w.map (encB bw)) = W
    generalize ((alongN hs w).map fun N => PyData.tuple (N.map PyData.str)) = AL
    cases t <;> simp [B0_goes_at, hn, srchO]) (.emp, .emp)
  have ef : (alongN hs w).zipIdx.findSome? (fun p => if !p.1.contains x then some (PyData.int (p.2 : Int)) else none) = (goesN hs w x).map fun (k : Nat) => PyData.int (k : Int) := by
    rw [find_some (fun p : List Str × Nat => !p.1.contains x) fun p => PyData.int (p.2 : Int)]
    unfold goesN
    rw [Option.map_map]; rfl
  rw [ef] at h1
  have hen : (alongN hs w).zipIdx.map (fun p : List Str × Nat => PyData.tuple [.int (p.2 : Int), .tuple (p.1.map PyData.str)]) = enumD 0 ((alongN hs w).map fun N => PyData.tuple (N.map PyData.str)) := (enum_idx (fun N : List Str => PyData.tuple (N.map PyData.str)) (alongN hs w) 0).symm
  rw [hen] at h1
  generalize goesN hs w x = o at h1 ⊢
  generalize ((alongN hs w).map fun N => PyData.tuple (N.map PyData.str)) = AL at ha h1
  have hI : fiEnumB (faCons (fVar 3) faNil) [.pure (sq c (hs.map (encH b))), .pure (sq cw (w.map (encB bw))), .pure (.str x), .own AL, .emp, .emp] = some (enumD 0 AL, [.pure (sq c (hs.map (encH b))), .pure (sq cw (w.map (encB bw))), .pure (.str x), .pure (.list AL), .emp, .emp]) := by
    generalize sq c (hs.map (encH b)) = S
    generalize sq cw (w.map (encB bw)) = W
    simp
  generalize enumD 0 AL = EN at h1 hI
  generalize encH b h = HH at hh
  generalize sq c (hs.map (encH b)) = S at ha hh h1 hI ⊢
  generalize sq cw (w.map (encB bw)) = W at ha h1 hI ⊢
  have fin : ∀ (I : FI) (B : FG), I [.pure S, .pure W, .pure (.str x), .own AL, .emp, .emp] = some (EN, [.pure S, .pure W, .pure (.str x), .pure (.list AL), .emp, .emp]) →
      forL (bTup [4, 5]) B EN [.pure S, .pure W, .pure (.str x), .pure (.list AL), .emp, .emp] = some (srchO (fun s : Slot × Slot => [.pure S, .pure W, .pure (.str x), .pure (.list AL), s.1, s.2]) s (o.map fun (k : Nat) => PyData.int (k : Int))) →
      fDef 6 3 [] (gSeq (gSet 3 (fCall Sh.F_left_along (frVal (fVar 0) (frVal (fVar 1) frNil)))) (gSeq (gDrop (fCall Sh.F_hit_of (frVal (fVar 0) (frVal (fVar 2) frNil)))) (gSeq (gFor I (bTup [4, 5]) B) (gSeq (gRet 3 (fCst .none)) gSkip)))) [.pure S, .pure W, .pure (.str x)] = some (optI o, false, [.pure S, .pure W, .pure (.str x)]) := fun I B hI h => by
    cases o with
    | none => simp [srchO] at h; simp [fDef_ap, ha, hh, hI, h, optI]
    | some k => simp [srchO] at h; simp [fDef_ap, ha, hh, hI, h, optI]
  exact fin _ _ hI h1
/-! ### by whom it goes -/
theorem rksL_at {R : List Hit} (w : List Stp) : ∀ i, i ≤ w.length → (rksL R w)[i]? = some (pk R (w.take i)) := by
  have go : ∀ u : List Stp, ∀ i, i ≤ u.length → (rksL R u.reverse)[i]? = some (pk R (u.reverse.take i)) := by
    intro u
    induction u with
    | nil =>
      intro i hi
      have : i = 0 := by simpa using hi
      subst this; rfl
    | cons s u ih =>
      intro i hi
      rw [List.reverse_cons, rksL_snoc, rksL_get]
      have hlen := rksL_len (R := R) (w := u.reverse)
      rw [List.length_reverse] at hlen
      by_cases h : i ≤ u.length
      · rw [List.getElem?_append_left (by omega), ih i h, List.take_append_of_le_length (by rw [List.length_reverse]; exact h)]
      · have e : i = u.length + 1 := by simp at hi; omega
        subst e
        rw [List.getElem?_append_right (by omega), hlen, Nat.sub_self, List.take_of_length_le (by simp), pk_snoc]
        rfl
  intro i hi
  have := go w.reverse i (by rw [List.length_reverse]; exact hi)
  rwa [List.reverse_reverse] at this
theorem along_at {hs : List Hit} {w : List Stp} {i : Nat} (hi : i < w.length) : (alongN hs w)[i]? = some (pickN hs (w.take (i + 1))) := by
  unfold alongN
  rw [List.getElem?_map, List.getElem?_drop, Nat.add_comm, rksL_at w (i + 1) (by omega)]
  rfl
theorem goes_lt {hs : List Hit} {w : List Stp} {x : Str} {i : Nat} (h : goesN hs w x = some i) : i < w.length ∧ x ∉ pickN hs (w.take (i + 1)) := by
  unfold goesN at h
  obtain ⟨p, hp, rfl⟩ := Option.map_eq_some_iff.mp h
  have h1 := List.mem_of_find?_eq_some hp
  have h2 := List.find?_some hp
  obtain ⟨_, h3⟩ := mem_idx h1
  rw [Nat.sub_zero] at h3
  have hlt : p.2 < w.length := by
    have := (List.getElem?_eq_some_iff.mp h3).1
    rwa [alongN_len] at this
  rw [along_at hlt] at h3
  have h4 := Option.some.inj h3
  exact ⟨hlt, by rw [h4]; simpa using h2⟩
/-- those by whom it goes at this place -/
def barAt (hs : List Hit) (w : List Stp) (h : Hit) (i : Nat) : Stp → List Str
  | .floor _ => []
  | .near _ => ((pk (rank hs) (w.take i)).take 1).map Hit.n
  | .top _ => sortS ((pk (rank hs) (w.take (i + 1))).map Hit.n)
  | .each k _ => sortS (((pk (rank hs) (w.take (i + 1))).filter fun a => a.lab k == h.lab k).map Hit.n)
def barN (hs : List Hit) (w : List Stp) (h : Hit) : List Str := match goesN hs w h.n with
  | some i => match w[i]? with
    | some s => barAt hs w h i s
    | none => []
  | none => []
theorem labels_ok {b c : Bool} {hs : List Hit} {x : Str} {h : Hit} (hx : hitAt hs x = some h) : F_labels_of [.pure (sq c (hs.map (encH b))), .pure (.str x)] = some (.tuple (h.l.map PyData.str), false, [.pure (sq c (hs.map (encH b))), .pure (.str x)]) := by
  have hh := hit_of_ok (b := b) (c := c) hx
  have h2 := hx2 (b := b) (h := h)
  have ht : gTuple (sq b (h.l.map PyData.str)) = some (.tuple (h.l.map PyData.str), .st) := by cases b <;> rfl
  generalize h.l.map PyData.str = L at h2 ht ⊢
  generalize sq b L = LL at h2 ht
  generalize encH b h = HH at hh h2
  generalize sq c (hs.map (encH b)) = S at hh ⊢
  simp [F_labels_of, fDef_ap, G_labels_of, hh, h2, ht]
theorem cut1 {α : Type} {e : α → D} {l : List α} : Pt.cutD (l.map e) none (some 1) = (l.take 1).map e := cut_top (i := 1) (by decide)
theorem barred_by_ok {b c bw cw : Bool} {hs : List Hit} {w : List Stp} {h : Hit} (hl : hs.length ≤ 1000) (hw : w.length ≤ 1000) (hk : KindsOk hs w) (ho : WordOk hs w) (hx : hitAt hs h.n = some h) (hm : h ∈ hs) :
    F_barred_by [.pure (sq c (hs.map (encH b))), .pure (sq cw (w.map (encB bw))), .pure (.str h.n)] = some (.tuple ((barN hs w h).map PyData.str), false, [.pure (sq c (hs.map (encH b))), .pure (sq cw (w.map (encB bw))), .pure (.str h.n)]) := by
  have hg := goes_ok (b := b) (c := c) (bw := bw) (cw := cw) hl hw hk ho hx
  have hr := ranks_ok (b := b) (c := c) (bw := bw) (cw := cw) hl hw hk ho
  have hlab := labels_ok (b := b) (c := c) hx
  have hpl : ∀ v, (pk (rank hs) v).length ≤ 1000 := fun v => by have := (pk_sub v (rank hs)).length_le; rw [rank_len] at this; omega
  unfold barN
  cases e : goesN hs w h.n with
  | none =>
    rw [e] at hg
    generalize sq c (hs.map (encH b)) = S at hg ⊢
    generalize sq cw (w.map (encB bw)) = W at hg ⊢
    simp [F_barred_by, fDef_ap, G_barred_by, hg, optI]
  | some i =>
    rw [e] at hg
    obtain ⟨hlt, _⟩ := goes_lt e
    have hw1 : w[i]? = some (w[i]'hlt) := List.getElem?_eq_getElem hlt
    have hix : gIx (sq cw (w.map (encB bw))) (.int (i : Int)) = some (encB bw (w[i]'hlt), .st) := ix_get hw1
    have r0 : gIx (.list ((rksL (rank hs) w).map (encL b))) (.int (i : Int)) = some (encL b (pk (rank hs) (w.take i)), .st) := ix_getL (e := encL b) (rksL_at w i (by omega))
    have r1 : gIx (.list ((rksL (rank hs) w).map (encL b))) (.int ((i : Int) + 1)) = some (encL b (pk (rank hs) (w.take (i + 1))), .st) := ix_getL (e := encL b) (i := i + 1) (rksL_at w (i + 1) (by omega))
    have hos := ho (w[i]'hlt) (List.getElem_mem hlt)
    dsimp only
    rw [hw1]
    dsimp only
    generalize w[i]'hlt = s at hix hos ⊢
    have i0 := ix0 (b := bw) (s := s)
    have i1 := ix1 (b := bw) (s := s)
    have n1 := names_of_ok (b := b) (c := true) (hs := (pk (rank hs) (w.take i)).take 1) (by rw [List.length_take]; have := hpl (w.take i); omega)
    have n2 := name_set_ok (b := b) (c := true) (hs := pk (rank hs) (w.take (i + 1))) (hpl _)
    have ec := cut1 (e := encH b) (l := pk (rank hs) (w.take i))
    have e1 : ∀ L : List Hit, encL b L = .list (L.map (encH b)) := fun _ => rfl
    have e2 : ∀ L : List Hit, sq true (L.map (encH b)) = .list (L.map (encH b)) := fun _ => rfl
    rw [e1] at r0 r1
    rw [e2] at n1 n2
    simp only [optI] at hg
    cases s with
    | floor j =>
      generalize sq c (hs.map (encH b)) = S at hg ⊢
      generalize sq cw (w.map (encB bw)) = W at hg hix ⊢
      generalize encB bw (.floor j) = SS at hix i0
      simp [F_barred_by, fDef_ap, G_barred_by, hg, hix, i0, tg_f, barAt]
    | near j =>
      simp only [barAt]
      generalize (((pk (rank hs) (w.take i)).take 1).map Hit.n).map PyData.str = out at n1 ⊢
      generalize ((pk (rank hs) (w.take i)).take 1).map (encH b) = p1 at n1 ec
      generalize (pk (rank hs) (w.take i)).map (encH b) = p0 at r0 ec
      generalize (rksL (rank hs) w).map (encL b) = rks at hr r0
      generalize sq c (hs.map (encH b)) = S at hg hr ⊢
      generalize sq cw (w.map (encB bw)) = W at hg hr hix ⊢
      generalize encB bw (.near j) = SS at hix i0
      simp [F_barred_by, fDef_ap, G_barred_by, hg, hix, i0, tg_n, q_nf, hr, r0, gSl, ec, n1]
    | top j =>
      simp only [barAt]
      generalize (sortS ((pk (rank hs) (w.take (i + 1))).map Hit.n)).map PyData.str = out at n2 ⊢
      generalize (pk (rank hs) (w.take (i + 1))).map (encH b) = p1 at r1 n2
      generalize (rksL (rank hs) w).map (encL b) = rks at hr r1
      generalize sq c (hs.map (encH b)) = S at hg hr ⊢
      generalize sq cw (w.map (encB bw)) = W at hg hr hix ⊢
      generalize encB bw (.top j) = SS at hix i0
      simp [F_barred_by, fDef_ap, G_barred_by, hg, hix, i0, tg_t, q_tf, q_tn, hr, r1, n2]
    | each k m =>
      have hk' : KOk k hs := hos
      have ek : num (.each k m) = k := rfl
      rw [ek] at i1
      have lx := lab_ix (b := false) (h := h) hk'.1 (hk'.2 h hm)
      have e3 : sq false (h.l.map PyData.str) = .tuple (h.l.map PyData.str) := rfl
      rw [e3] at lx
      have n3 := name_set_ok (b := b) (c := true) (hs := (pk (rank hs) (w.take (i + 1))).filter fun a => a.lab k == h.lab k) (Nat.le_trans (List.length_filter_le _ _) (hpl _))
      rw [e2] at n3
      have hc := compV (i := 7) (I := fiSeq (fTwo gIx (fVar 4) (fTwo gAdd (fVar 3) (fCst (.int 1))))) (T := fTst (fTwo gEq (fTwo gIx (fTwo gIx (fVar 7) (fCst (.int 2))) (fVar 5)) (fVar 6))) (E := fVar 7) (env := [.pure (sq c (hs.map (encH b))), .pure (sq cw (w.map (encB bw))), .pure (.str h.n), .pure (.int (i : Int)), .own ((rksL (rank hs) w).map (encL b)), .pure (.int k), .pure (.str (h.lab k)), .emp]) (pk (rank hs) (w.take (i + 1))) (encH b) (fun a => a.lab k == h.lab k) (encH b)
        (by
          generalize (pk (rank hs) (w.take (i + 1))).map (encH b) = p1 at r1 ⊢
          generalize (rksL (rank hs) w).map (encL b) = rks at r1 ⊢
          simp [r1]) rfl noOwn_emp (by rw [sizeLine_eq]; have := hpl (w.take (i + 1)); omega)
        (fun a ha => by
          have ham : a ∈ hs := rank_mem.mp ((pk_sub _ _).subset ha)
          have lxa := lab_ix (b := b) (h := a) hk'.1 (hk'.2 a ham)
          have h2 := hx2 (b := b) (h := a)
          generalize sq b (a.l.map PyData.str) = AL at lxa h2
          generalize (rksL (rank hs) w).map (encL b) = rks
          generalize sq c (hs.map (encH b)) = S
          generalize sq cw (w.map (encB bw)) = W
          generalize encH b a = A at h2 ⊢
          exact ⟨by simp [h2, lxa], fun _ => ⟨.st, trivial, by simp⟩⟩)
      simp only [barAt]
      generalize (sortS (((pk (rank hs) (w.take (i + 1))).filter fun a => a.lab k == h.lab k).map Hit.n)).map PyData.str = out at n3 ⊢
      generalize ((pk (rank hs) (w.take (i + 1))).filter fun a => a.lab k == h.lab k).map (encH b) = p2 at n3 hc
      generalize (rksL (rank hs) w).map (encL b) = rks at hr hc
      generalize h.l.map PyData.str = HL at hlab lx
      generalize sq c (hs.map (encH b)) = S at hg hr hlab hc ⊢
      generalize sq cw (w.map (encB bw)) = W at hg hr hix hc ⊢
      generalize encB bw (.each k m) = SS at hix i0 i1
      have fin : ∀ C : FE, C [.pure S, .pure W, .pure (.str h.n), .pure (.int (i : Int)), .own rks, .pure (.int k), .pure (.str (h.lab k)), .emp] = some (.list p2, .fr, [.pure S, .pure W, .pure (.str h.n), .pure (.int (i : Int)), .own rks, .pure (.int k), .pure (.str (h.lab k)), .emp]) →
          fDef 8 3 [] (gSeq (gSet 3 (fCall Sh.F_goes_at (frVal (fVar 0) (frVal (fVar 1) (frVal (fVar 2) frNil))))) (gSeq (gIfS (fTOr (fTst (fOne gIsN (fVar 3))) (fTst (fTwo gEq (fTwo gIx (fTwo gIx (fVar 1) (fVar 3)) (fCst (.int 0))) (fCst (.str "floor"))))) (gSeq (gRet 3 (fTup faNil)) gSkip) gSkip) (gSeq (gSet 4 (fCall Sh.F_ranks_along (frVal (fVar 0) (frVal (fVar 1) frNil)))) (gSeq (gIfS (fTst (fTwo gEq (fTwo gIx (fTwo gIx (fVar 1) (fVar 3)) (fCst (.int 0))) (fCst (.str "near")))) (gSeq (gRet 3 (fCall Sh.F_names_of (frVal (fSl (fTwo gIx (fVar 4) (fVar 3)) foNone (foSome (fCst (.int 1)))) frNil))) gSkip) gSkip) (gSeq (gIfS (fTst (fTwo gEq (fTwo gIx (fTwo gIx (fVar 1) (fVar 3)) (fCst (.int 0))) (fCst (.str "top")))) (gSeq (gRet 3 (fCall Sh.F_name_set (frVal (fTwo gIx (fVar 4) (fTwo gAdd (fVar 3) (fCst (.int 1)))) frNil))) gSkip) gSkip) (gSeq (gSet 5 (fTwo gIx (fTwo gIx (fVar 1) (fVar 3)) (fCst (.int 1)))) (gSeq (gSet 6 (fTwo gIx (fCall Sh.F_labels_of (frVal (fVar 0) (frVal (fVar 2) frNil))) (fVar 5))) (gSeq (gRet 3 (fCall Sh.F_name_set (frVal C frNil))) gSkip))))))))
            [.pure S, .pure W, .pure (.str h.n)] = some (.tuple out, false, [.pure S, .pure W, .pure (.str h.n)]) := fun C hC => by
        simp [fDef_ap, hg, hix, i0, i1, tg_e, q_ef, q_en, q_et, hr, hlab, lx, hC, n3]
      exact fin _ hc
end Sh

/-! A word in bounds is one. -/
namespace Sh
open PySem PySem.Spec PyProof.Rows L2 Pt
theorem is_number_i {i : Int} : F_is_number [.pure (.int i)] = some (.bool true, false, [.pure (.int i)]) := by
  simp [F_is_number, fDef_ap, G_is_number, gIsa, isa]
theorem step_nums {x : D} {ns : List Int} (h : ns.length ≤ 1000) :
    fComp [1] (fiSeq (fSl (fVar 0) (foSome (fCst (.int 1))) foNone)) (bName 1) fTYes (fCall Sh.F_is_number (frVal (fVar 1) frNil)) [.pure (.tuple (x :: ns.map PyData.int)), .emp, .emp]
      = some (.list (ns.map fun _ => PyData.bool true), .fr, [.pure (.tuple (x :: ns.map PyData.int)), .emp, .emp]) := by
  have k : Pt.cutD (x :: ns.map PyData.int) (some 1) none = ns.map PyData.int := by
    have := cut_drop (xs := x :: ns.map PyData.int) (p := 1)
    rw [show ((1 : Nat) : Int) = 1 from rfl] at this
    rw [this]; rfl
  have hc := compV (i := 1) (I := fiSeq (fSl (fVar 0) (foSome (fCst (.int 1))) foNone)) (T := fTYes) (E := fCall Sh.F_is_number (frVal (fVar 1) frNil)) (env := [.pure (.tuple (x :: ns.map PyData.int)), .emp, .emp]) ns PyData.int (fun _ => true) (fun _ => PyData.bool true) (by simp [gSl, k]) rfl noOwn_emp (by rw [sizeLine_eq]; omega)
    (fun i _ => ⟨rfl, fun _ => ⟨.st, trivial, by simp [is_number_i]⟩⟩)
  rw [filter_true] at hc
  exact hc
theorem is_step_ok {s : Stp} (h : StpIn 3 s) : F_is_step [.pure (encB false s)] = some (.bool true, false, [.pure (encB false s)]) := by
  have fe : (Str.ofString "floor" == Str.ofString "each") = false := by decide +kernel
  have nf : (Str.ofString "near" == Str.ofString "floor") = false := q_nf
  have tf : (Str.ofString "top" == Str.ofString "floor") = false := q_tf
  have tn : (Str.ofString "top" == Str.ofString "near") = false := q_tn
  have a1 : gAll (.list [.bool true]) = some (.bool true, .st) := rfl
  have a2 : gAll (.list [.bool true, .bool true]) = some (.bool true, .st) := rfl
  cases s with
  | floor i =>
    have hc := step_nums (x := .str "floor") (ns := [i]) (by simp)
    simp only [List.map_cons, List.map_nil] at hc
    rw [encF]
    simp [F_is_step, fDef_ap, G_is_step, gIsa, isa, hc, a1]
  | near i =>
    have hi : 0 ≤ i := h
    have hc := step_nums (x := .str "near") (ns := [i]) (by simp)
    simp only [List.map_cons, List.map_nil] at hc
    rw [encN]
    simp [F_is_step, fDef_ap, G_is_step, gIsa, isa, hc, a1, nf, hi]
  | top i =>
    have hi : 1 ≤ i := h
    have hc := step_nums (x := .str "top") (ns := [i]) (by simp)
    simp only [List.map_cons, List.map_nil] at hc
    rw [encT]
    simp [F_is_step, fDef_ap, G_is_step, gIsa, isa, hc, a1, tf, tn, hi]
  | each k i =>
    have h0 : 0 ≤ k := h.1
    have h1 : k ≤ 2 := by have := h.2.1; omega
    have h2 : 1 ≤ i := h.2.2
    have hc := step_nums (x := .str "each") (ns := [k, i]) (by simp)
    simp only [List.map_cons, List.map_nil] at hc
    rw [encE]
    simp [F_is_step, fDef_ap, G_is_step, gIsa, isa, hc, a2, h0, h1, h2]
theorem intsL_ints : ∀ ns : List Int, intsL (ns.map PyData.int) = some ns
  | [] => rfl
  | n :: ns => by simp [intsL, intsL_ints ns]
theorem gLS_nd {ns : List Int} (h : ns.Nodup) (hl : ns.length < 1000) : gLS (.tuple (ns.map PyData.int)) = some (.int (ns.length : Int), .st) := by
  have e : (nub ns).length = ns.length := (nub_len h fun _ => Iff.rfl).symm
  show (match intsL (ns.map PyData.int) with
    | some ns => if ns.length < 1000 then some (PyData.int (nub ns).length, Kd.st) else none
    | none => none) = _
  rw [intsL_ints]
  dsimp only
  rw [if_pos hl, e]
theorem is_word_in {w : List Stp} (h : WordIn 3 w) (nd : (kindsW w).Nodup) (hl : w.length ≤ 900) : F_is_word [.pure (encW w)] = some (.bool true, false, [.pure (encW w)]) := by
  have hk : F_kinds_in [.pure (encW w)] = some (.tuple ((kindsW w).map PyData.int), false, [.pure (encW w)]) := kinds_in_W (b := false) (c := false) (by omega)
  have hkl : (kindsW w).length ≤ w.length := List.length_filterMap_le _ _
  have hs := gLS_nd nd (by omega)
  have hn : gLen (.tuple ((kindsW w).map PyData.int)) = some (.int ((kindsW w).length : Int), .st) := by
    have := gLen_sq (b := false) (ds := (kindsW w).map PyData.int)
    rwa [List.length_map] at this
  have hc := compV (i := 1) (I := fiSeq (fVar 0)) (T := fTYes) (E := fCall Sh.F_is_step (frVal (fVar 1) frNil)) (env := [.pure (.tuple (w.map (encB false))), .emp]) w (encB false) (fun _ => true) (fun _ => PyData.bool true) (by simp) rfl noOwn_emp (by rw [sizeLine_eq]; omega)
    (fun s hs => ⟨rfl, fun _ => ⟨.st, trivial, by simp [is_step_ok (h s hs)]⟩⟩)
  rw [filter_true] at hc
  have ha := gAll_true (l := w)
  have ew : encW w = .tuple (w.map (encB false)) := rfl
  rw [ew] at hk ⊢
  generalize (w.map fun _ => PyData.bool true) = T at hc ha
  generalize (kindsW w).map PyData.int = K at hk hs hn
  generalize ((kindsW w).length : Int) = n at hs hn
  generalize w.map (encB false) = W at hk hc ⊢
  have fin : ∀ C : FE, C [.pure (.tuple W), .emp] = some (.list T, .fr, [.pure (.tuple W), .emp]) →
      fDef 2 1 [] (gSeq (gIfS (fTNot (fTAnd (fTst (fOne (gIsa [.tuple]) (fVar 0))) (fTst (fOne gAll C)))) (gSeq (gRet 1 (fCst (.bool false))) gSkip) gSkip) (gSeq (gRet 1 (fTwo gEq (fOne gLS (fCall Sh.F_kinds_in (frVal (fVar 0) frNil))) (fOne gLen (fCall Sh.F_kinds_in (frVal (fVar 0) frNil))))) gSkip)) [.pure (.tuple W)] = some (.bool true, false, [.pure (.tuple W)]) := fun C h => by
    simp [fDef_ap, gIsa, isa, h, ha, hk, hs, hn]
  exact fin _ hc
end Sh

/-! Pages, places and bars as lists; turned labels. -/
namespace Sh
open PySem PySem.Spec PyProof.Rows L2 Pt
/-- the kinds and places of the reduced word are the word's -/
theorem red_mem {w : List Stp} (g : GoodW w) {s : Stp} (h : s ∈ redW w) : s ∈ w := by
  unfold redW at h
  rcases List.mem_append.mp h with h | h
  · cases s with
    | floor i => exact mem_floor.mp (ftop_max (floor_red.mp (by unfold redW; exact List.mem_append_left _ h))).1
    | near i => rw [flo_ftop] at h; cases e : ftop true (nums "floor" w) <;> rw [e] at h <;> simp at h
    | top i => rw [flo_ftop] at h; cases e : ftop true (nums "floor" w) <;> rw [e] at h <;> simp at h
    | each k i => rw [flo_ftop] at h; cases e : ftop true (nums "floor" w) <;> rw [e] at h <;> simp at h
  · rcases List.mem_append.mp h with h | h
    · have hn : s ∈ nea w := by split at h <;> first | (cases h; done) | exact h
      rw [nea_ftop] at hn
      cases e : ftop false (nums "near" w) with
      | none => rw [e] at hn; simp at hn
      | some m =>
        rw [e] at hn
        have : s = .near m := by simpa using hn
        rw [this]; exact mem_near.mp (ftop_min e).1
    · obtain ⟨c, hc, rfl⟩ := List.mem_map.mp h
      have : c ∈ capsW w := by
        have hr := fin_rs (capsW w)
        have sub : ∀ {C V : List Cf.Cap}, Cf.Rs C V → ∀ x ∈ V, x ∈ C := fun h => by
          induction h with
          | refl => exact fun x h => h
          | step h1 _ ih =>
            obtain ⟨p, s, q, rfl, rfl, _⟩ := h1
            intro x hx
            have := ih x hx
            rcases List.mem_append.mp this with z | z <;> simp [z]
        exact sub hr c hc
      exact mem_capsW.mp this

/-! ### part of a row by its members -/
theorem filter_sub {α : Type} {p : α → Bool} {S R : List α} (h : S.Sublist R) : R.Nodup → (∀ a ∈ R, p a = true ↔ a ∈ S) → R.filter p = S := by
  induction h with
  | slnil => intro _ _; rfl
  | cons a h ih =>
    intro nd hp
    have ha := List.nodup_cons.mp nd
    have hn : ¬ (p a = true) := fun z => ha.1 (h.subset ((hp a (by simp)).mp z))
    rw [List.filter_cons_of_neg hn]
    exact ih ha.2 fun x hx => hp x (by simp [hx])
  | cons_cons a h ih =>
    intro nd hp
    have ha := List.nodup_cons.mp nd
    rw [List.filter_cons_of_pos ((hp a (by simp)).mpr (by simp))]
    congr 1
    refine ih ha.2 fun x hx => ⟨fun z => ?_, fun z => (hp x (by simp [hx])).mpr (by simp [z])⟩
    rcases List.mem_cons.mp ((hp x (by simp [hx])).mp z) with rfl | q
    · exact absurd hx ha.1
    · exact q
section
variable {hs : List Hit} {w : List Stp}
theorem pick_iff (d : Dist hs) {x : Hit} (hx : x ∈ hs) : (pickN hs w).contains x.n = true ↔ x ∈ pk (rank hs) w := by
  rw [List.contains_iff_mem, pickN_mem]
  constructor
  · rintro ⟨y, hy, e⟩
    have := d y (rank_mem.mp ((pk_sub w (rank hs)).subset hy)) x hx e
    rwa [← this]
  · exact fun h => ⟨x, h, rfl⟩
theorem rank_nd (nd : hs.Nodup) : (rank hs).Nodup := rank_perm.nodup_iff.mpr nd
theorem page_rank (d : Dist hs) (nd : hs.Nodup) : ((rank hs).map Hit.n).filter (fun t => (pickN hs w).contains t) = pageN hs w := by
  rw [List.filter_map]
  unfold pageN
  congr 1
  exact filter_sub (pk_sub w (rank hs)) (rank_nd nd) fun a ha => pick_iff d (rank_mem.mp ha)
theorem out_rank (d : Dist hs) : (((rank hs).map Hit.n).filter fun t => !(pickN hs w).contains t).head? = outN hs w := by
  rw [List.filter_map, List.head?_map, List.head?_filter]
  unfold outN
  congr 1
  have : ∀ l : List Hit, (∀ a ∈ l, a ∈ hs) → l.find? ((fun t => !(pickN hs w).contains t) ∘ Hit.n) = l.find? fun a => !decide (a ∈ pk (rank hs) w) := by
    intro l
    induction l with
    | nil => intro _; rfl
    | cons a r ih =>
      intro h
      have e : ((fun t => !(pickN hs w).contains t) ∘ Hit.n) a = !decide (a ∈ pk (rank hs) w) := by
        show (!(pickN hs w).contains a.n) = _
        congr 1
        rw [Bool.eq_iff_iff, pick_iff d (h a (by simp)), decide_eq_true_eq]
      rw [List.find?_cons, List.find?_cons, e, ih fun x hx => h x (by simp [hx])]
  exact this _ fun a ha => rank_mem.mp ha
/-- a hit is there where it goes -/
theorem goes_in (d : Dist hs) {h : Hit} (hm : h ∈ hs) {i : Nat} (e : goesN hs w h.n = some i) : h ∈ pk (rank hs) (w.take i) := by
  obtain ⟨hlt, _⟩ := goes_lt e
  cases i with
  | zero => exact rank_mem.mpr hm
  | succ j =>
    unfold goesN at e
    obtain ⟨p, hp, hp2⟩ := Option.map_eq_some_iff.mp e
    obtain ⟨_, as, bs, hl, ha⟩ := List.find?_eq_some_iff_append.mp hp
    have hpm : p ∈ (alongN hs w).zipIdx := by rw [hl]; simp
    have hj : (alongN hs w)[j]? = some (pickN hs (w.take (j + 1))) := along_at (by omega)
    -- the pair at place j
    have hz : ((alongN hs w).zipIdx)[j]? = some (pickN hs (w.take (j + 1)), j) := by
      rw [List.getElem?_zipIdx, hj]; simp
    have hpl : as.length = j + 1 := by
      have h1 : ((alongN hs w).zipIdx)[as.length]? = some p := by rw [hl]; simp
      rw [List.getElem?_zipIdx] at h1
      obtain ⟨q, hq, hq2⟩ := Option.map_eq_some_iff.mp h1
      have : p.2 = as.length := by rw [← hq2]; simp
      omega
    have hin : (pickN hs (w.take (j + 1)), j) ∈ as := by
      rw [hl, List.getElem?_append_left (by omega)] at hz
      exact List.mem_of_getElem? hz
    have := ha _ hin
    have hc : (pickN hs (w.take (j + 1))).contains h.n = true := by simpa using this
    exact (pick_iff d hm).mp hc
end
theorem goes_head {hs : List Hit} {w : List Stp} {x : Str} : ((alongN hs w).zipIdx.filter fun p => !p.1.contains x).head?.map Prod.snd = goesN hs w x := by
  unfold goesN
  rw [List.head?_filter]
/-! ### sorted by name, then filtered -/
theorem filter_sortH {L : List Hit} {p : Hit → Bool} (d : Dist L) : (sortH L).filter p = sortH (L.filter p) :=
  (sortH_of (sortH_perm.filter p).symm (sortH_ns.sublist List.filter_sublist) (d.sub fun x hx => sortH_mem.mp (List.mem_filter.mp hx).1)).symm
/-! ### pairs of score and name, sorted -/
def encP (h : Hit) : D := .tuple [.int (-h.s), .str h.n]
theorem dLe_encP (x y : Hit) : dLe (encP x) (encP y) = kleH x y := by
  unfold dLe encP kleH
  rw [lt_is, Bool.eq_iff_iff]
  have : nle x.n y.n = !!nle x.n y.n := by simp
  by_cases h1 : -y.s = -x.s
  · have h2 : x.s = y.s := by omega
    simp [h2]
  · have h2 : ¬ x.s = y.s := by omega
    have h3 : ¬ y.s = x.s := by omega
    simp [h2, h3]
    omega
theorem sorted_encP (l : List Hit) : gSorted (.list (l.map encP)) = some (.list ((rank l).map encP), .fr) := by
  unfold gSorted
  dsimp only
  rw [if_pos, isort_P]
  · rw [isP_map (le := kleH) (f := encP) l fun x _ y _ => dLe_encP x y]; rfl
  · simp only [Bool.and_eq_true, List.all_eq_true, alikes, sortables, Bool.or_eq_true, decide_eq_true_eq]
    refine ⟨⟨fun d hd e he => ?_, .inl fun d hd => ?_⟩, fun d hd => ?_⟩
    · obtain ⟨a, _, rfl⟩ := List.mem_map.mp hd
      obtain ⟨c, _, rfl⟩ := List.mem_map.mp he
      simp [encP, PySem.W.alike, PySem.W.alikeAll]
    · obtain ⟨a, _, rfl⟩ := List.mem_map.mp hd
      rfl
    · obtain ⟨a, _, rfl⟩ := List.mem_map.mp hd
      simp [encP, PyData.depth, PyData.depthAll]
/-! ### turned labels -/
def Hit.tr (g : List Str → List Str) (h : Hit) : Hit := ⟨h.n, h.s, g h.l⟩
section
variable {g : List Str → List Str} {f : Int → Int}
theorem keepA_tr {k k' m : Int} : ∀ (R : List Hit) (seen : List Str), (∀ x ∈ R, (x.tr g).lab k' = x.lab k) → keepA k' m seen (R.map (Hit.tr g)) = (keepA k m seen R).map (Hit.tr g)
  | [], _, _ => rfl
  | h :: r, seen, hx => by
    show (if _ then _ else _) = (if _ then _ else _ : List Hit).map _
    rw [hx h (by simp), keepA_tr r _ fun x hq => hx x (by simp [hq])]
    split <;> rfl
theorem geL_tr {t : Int} {R : List Hit} : geL t (R.map (Hit.tr g)) = (geL t R).map (Hit.tr g) := by
  unfold geL
  rw [List.filter_map]; rfl
theorem stp_tr (s : Stp) (R : List Hit) (h : ∀ k m, s = .each k m → ∀ x ∈ R, (x.tr g).lab (f k) = x.lab k) : stp (turnS f s) (R.map (Hit.tr g)) = (stp s R).map (Hit.tr g) := by
  cases s with
  | floor i => exact geL_tr
  | near i =>
    cases R with
    | nil => rfl
    | cons b r => exact geL_tr (R := b :: r)
  | top i => exact List.map_take.symm
  | each k m => exact keepA_tr _ _ (h k m rfl)
theorem pk_tr : ∀ (w : List Stp) (R : List Hit), (∀ k m, Stp.each k m ∈ w → ∀ x ∈ R, (x.tr g).lab (f k) = x.lab k) → pk (R.map (Hit.tr g)) (w.map (turnS f)) = (pk R w).map (Hit.tr g)
  | [], R, _ => rfl
  | s :: w, R, h => by
    show pk (stp (turnS f s) (R.map (Hit.tr g))) (w.map (turnS f)) = (pk (stp s R) w).map (Hit.tr g)
    rw [stp_tr s R fun k m e => h k m (by simp [e]), pk_tr w _ fun k m hm x hx => h k m (by simp [hm]) x ((stp_sub s R).subset hx)]
theorem rank_tr (hs : List Hit) : rank (hs.map (Hit.tr g)) = (rank hs).map (Hit.tr g) := isP_map hs fun _ _ _ _ => rfl
theorem pickN_tr {hs : List Hit} {w : List Stp} (h : ∀ k m, Stp.each k m ∈ w → ∀ x ∈ hs, (x.tr g).lab (f k) = x.lab k) : pickN (hs.map (Hit.tr g)) (w.map (turnS f)) = pickN hs w := by
  unfold pickN
  rw [rank_tr, pk_tr w _ fun k m hm x hx => h k m hm x (rank_mem.mp hx), List.map_map]
  rfl
end
/-- two labels turned about -/
def swapK (k : Int) : Int := if k = 0 then 1 else if k = 1 then 0 else 2
theorem lab_rev {h : Hit} {k : Int} (hl : (h.l.length : Int) = 2) (h0 : 0 ≤ k) (h1 : k < 2) : (h.tr List.reverse).lab (swapK k) = h.lab k := by
  obtain ⟨n, s, l⟩ := h
  match l, hl with
  | [a, b], _ =>
    have : k = 0 ∨ k = 1 := by omega
    rcases this with rfl | rfl <;> rfl
  | [], hl => simp at hl
  | [a], hl => simp at hl
  | a :: b :: c :: r, hl => simp at hl; omega
theorem WordIn.turn {w : List Stp} (h : WordIn 2 w) : WordIn 2 (w.map (turnS swapK)) := fun s hs => by
  obtain ⟨y, hy, rfl⟩ := List.mem_map.mp hs
  have := h y hy
  cases y with
  | floor i => exact this
  | near i => exact this
  | top i => exact this
  | each k i =>
    have h0 := this.1
    have h1 := this.2.1
    have hk : k = 0 ∨ k = 1 := by omega
    rcases hk with rfl | rfl
    · exact ⟨by decide, by decide, this.2.2⟩
    · exact ⟨by decide, by decide, this.2.2⟩
theorem WordIn.rise {width n : Int} {w : List Stp} (h : WordIn width w) : WordIn width (w.map (raiseS n)) := fun s hs => by
  obtain ⟨y, hy, rfl⟩ := List.mem_map.mp hs
  have := h y hy
  cases y <;> exact this
theorem HitsW.up {width n : Int} {G : List Hit} (h : HitsW width G) : HitsW width (G.map (Hit.up n)) := fun z hz => by
  obtain ⟨y, hy, rfl⟩ := List.mem_map.mp hz
  exact h y hy
theorem HitsW.rev {width : Int} {G : List Hit} (h : HitsW width G) : HitsW width (G.map (Hit.tr List.reverse)) := fun z hz => by
  obtain ⟨y, hy, rfl⟩ := List.mem_map.mp hz
  show ((y.l.reverse.length : Nat) : Int) = width
  rw [List.length_reverse]
  exact h y hy
end Sh

namespace Lk16
open PySem PySem.Spec PyProof.Rows L2 Pt Sh
/-! ### steps or none, over data -/
def numB : D → Bool
  | .int _ => true
  | _ => false
def El (x : D) : Prop := x.plain = true ∧ x.depth ≤ 3
def eqS (x : D) (t : Str) : Bool := PyData.eqv x (.str t)
def stepB : D → Bool
  | .tuple [x, .int a] => eqS x "floor" || ((eqS x "near" && decide (0 ≤ a)) || (eqS x "top" && decide (1 ≤ a)))
  | .tuple [x, .int a, .int b] => eqS x "each" && ((decide (0 ≤ a) && decide (a ≤ 2)) && decide (1 ≤ b))
  | _ => false
theorem is_number_ok {x : D} (h : El x) : F_is_number [.pure x] = some (.bool (numB x), false, [.pure x]) := by
  cases x with
  | dict z => have := h.1; simp [PyData.plain] at this
  | _ => simp [F_is_number, fDef_ap, G_is_number, gIsa, isa, numB]
theorem gEq_S {x : D} {t : Str} (h : El x) : gEq x (.str t) = some (.bool (eqS x t), .st) := by
  have : dOk x (.str t) = true := by
    unfold dOk
    rw [h.1]
    simp [PyData.plain, PyData.depth]
  unfold gEq
  rw [if_pos this]; rfl
theorem boolsL_map {α : Type} (p : α → Bool) : ∀ l : List α, boolsL (l.map fun x => PyData.bool (p x)) = some (l.map p)
  | [] => rfl
  | a :: l => by simp [boolsL, boolsL_map p l]
theorem gAll_map {α : Type} (p : α → Bool) (l : List α) : gAll (.list (l.map fun x => PyData.bool (p x))) = some (.bool (l.all p), .st) := by
  simp only [gAll, boolsL_map]
  rw [List.all_map]; rfl
theorem cut1' {ds : List D} : Pt.cutD ds (some 1) none = ds.drop 1 := by
  have := cut_drop (xs := ds) (p := 1)
  rwa [show ((1 : Nat) : Int) = 1 from rfl] at this
theorem c_is {ds : List D} (h : ∀ x ∈ ds, El x) (hl : ds.length ≤ 100) :
    fComp [1] (fiSeq (fSl (fVar 0) (foSome (fCst (.int 1))) foNone)) (bName 1) fTYes (fCall Sh.F_is_number (frVal (fVar 1) frNil)) [.pure (.tuple ds), .emp, .emp] = some (.list ((ds.drop 1).map fun x => PyData.bool (numB x)), .fr, [.pure (.tuple ds), .emp, .emp]) := by
  have hc := compV (i := 1) (I := fiSeq (fSl (fVar 0) (foSome (fCst (.int 1))) foNone)) (T := fTYes) (E := fCall Sh.F_is_number (frVal (fVar 1) frNil)) (env := [.pure (.tuple ds), .emp, .emp]) (ds.drop 1) id (fun _ => true) (fun x => PyData.bool (numB x)) (by simp [gSl, cut1']) rfl noOwn_emp (by rw [List.length_drop, sizeLine_eq]; omega)
    (fun x hx => ⟨rfl, fun _ => ⟨.st, trivial, by
      have := is_number_ok (h x (List.mem_of_mem_drop hx))
      simp [this]⟩⟩)
  rw [filter_true] at hc
  exact hc
theorem c_odd {ds : List D} (h : ∀ x ∈ ds, El x) (hl : ds.length ≤ 100) :
    fComp [1] (fiSeq (fSl (fVar 0) (foSome (fCst (.int 1))) foNone)) (bName 1) (fTOr (fTNot (fTst (fOne (gIsa [.int]) (fVar 1)))) (fTst (fOne (gIsa [.bool]) (fVar 1)))) (fVar 1) [.pure (.tuple ds), .emp] = some (.list ((ds.drop 1).filter fun x => !numB x), .fr, [.pure (.tuple ds), .emp]) := by
  have hc := compV (i := 1) (I := fiSeq (fSl (fVar 0) (foSome (fCst (.int 1))) foNone)) (T := fTOr (fTNot (fTst (fOne (gIsa [.int]) (fVar 1)))) (fTst (fOne (gIsa [.bool]) (fVar 1)))) (E := fVar 1) (env := [.pure (.tuple ds), .emp]) (ds.drop 1) id (fun x => !numB x) id (by simp [gSl, cut1']) rfl noOwn_emp (by rw [List.length_drop, sizeLine_eq]; omega)
    (fun x hx => ⟨by
      have hx := h x (List.mem_of_mem_drop hx)
      cases x with
      | dict z => have := hx.1; simp [PyData.plain] at this
      | _ => simp [gIsa, isa, numB], fun _ => ⟨.st, trivial, by simp⟩⟩)
  rw [List.map_id] at hc
  exact hc
theorem plainAll_of {ds : List D} (h : ∀ x ∈ ds, x.plain = true) : PyData.plainAll ds = true := by
  induction ds with
  | nil => rfl
  | cons d ds ih => simp [PyData.plainAll, h d (by simp), ih fun x hx => h x (by simp [hx])]
theorem notin23 {n : Nat} (h2 : n ≠ 2) (h3 : n ≠ 3) : gNotIn (.int (n : Int)) (.tuple [.int 2, .int 3]) = some (.bool true, .st) := by
  have a : ¬ ((2 : Int) = (n : Int)) := by omega
  have b : ¬ ((3 : Int) = (n : Int)) := by omega
  simp [gNotIn, iOk, PyData.plain, PyData.plainAll, PyData.depth, PyData.depthAll, PyData.eqv, a, b]
theorem in2 : gNotIn (.int 2) (.tuple [.int 2, .int 3]) = some (.bool false, .st) := by simp [gNotIn, iOk, PyData.plain, PyData.plainAll, PyData.depth, PyData.depthAll, PyData.eqv]
theorem in3 : gNotIn (.int 3) (.tuple [.int 2, .int 3]) = some (.bool false, .st) := by simp [gNotIn, iOk, PyData.plain, PyData.plainAll, PyData.depth, PyData.depthAll, PyData.eqv]
/-- a thing that is asked about -/
def Item (d : D) : Prop := d.plain = true ∧ ∀ ds, d = .tuple ds → ds.length ≤ 100 ∧ ∀ x ∈ ds, El x
theorem is_step_all {d : D} (h : Item d) : F_is_step [.pure d] = some (.bool (stepB d), false, [.pure d]) := by
  cases d with
  | dict z => have := h.1; simp [PyData.plain] at this
  | tuple ds =>
    obtain ⟨hl, he⟩ := h.2 ds rfl
    have hc := c_is he hl
    have ha := gAll_map numB (ds.drop 1)
    match ds, he, hc, ha with
    | [], he, hc, ha =>
      simp only [List.drop_nil, List.map_nil, List.all_nil] at hc ha
      simp [F_is_step, fDef_ap, G_is_step, gIsa, isa, hc, ha, stepB]
    | [x], he, hc, ha =>
      simp only [List.drop_succ_cons, List.drop_zero, List.map_nil, List.all_nil] at hc ha
      simp [F_is_step, fDef_ap, G_is_step, gIsa, isa, hc, ha, stepB]
    | [x, y], he, hc, ha =>
      simp only [List.drop_succ_cons, List.drop_zero, List.map_cons, List.map_nil, List.all_cons, List.all_nil, Bool.and_true] at hc ha
      have e1 := gEq_S (t := "floor") (he x (by simp))
      have e2 := gEq_S (t := "near") (he x (by simp))
      have e3 := gEq_S (t := "top") (he x (by simp))
      cases y with
      | int a =>
        simp only [numB] at hc ha
        cases b1 : eqS x "floor" <;> cases b2 : eqS x "near" <;> cases b3 : eqS x "top" <;> rw [b1] at e1 <;> rw [b2] at e2 <;> rw [b3] at e3 <;> by_cases p0 : 0 ≤ a <;> by_cases p1 : 1 ≤ a <;> simp [F_is_step, fDef_ap, G_is_step, gIsa, isa, hc, ha, stepB, e1, e2, e3, b1, b2, b3, p0, p1]
      | _ =>
        simp only [numB] at hc ha
        simp [F_is_step, fDef_ap, G_is_step, gIsa, isa, hc, ha, stepB]
    | [x, y, z], he, hc, ha =>
      simp only [List.drop_succ_cons, List.drop_zero, List.map_cons, List.map_nil, List.all_cons, List.all_nil, Bool.and_true] at hc ha
      have e1 := gEq_S (t := "each") (he x (by simp))
      cases y with
      | int a =>
        cases z with
        | int b =>
          simp only [numB, Bool.and_self] at hc ha
          cases b1 : eqS x "each" <;> rw [b1] at e1 <;> by_cases p0 : 0 ≤ a <;> by_cases p1 : a ≤ 2 <;> by_cases p2 : 1 ≤ b <;> simp [F_is_step, fDef_ap, G_is_step, gIsa, isa, hc, ha, stepB, e1, b1, p0, p1, p2]
        | _ =>
          simp only [numB, Bool.and_false] at hc ha
          simp [F_is_step, fDef_ap, G_is_step, gIsa, isa, hc, ha, stepB]
      | _ =>
        simp only [numB, Bool.false_and] at hc ha
        simp [F_is_step, fDef_ap, G_is_step, gIsa, isa, hc, ha, stepB]
    | a :: b :: c :: e :: r, he, hc, ha =>
      have sb : stepB (.tuple (a :: b :: c :: e :: r)) = false := by cases b <;> first | rfl | (cases c <;> rfl)
      rw [sb]
      have n3 : gEq (.int ((a :: b :: c :: e :: r).length : Int)) (.int 3) = some (.bool false, .st) := by
        have : ¬ (((a :: b :: c :: e :: r).length : Int) = 3) := by simp; omega
        simp [gEq, dOk, PyData.plain, PyData.depth, PyData.eqv]
        simp at this; omega
      have n2 : gNe (.int ((a :: b :: c :: e :: r).length : Int)) (.int 2) = some (.bool true, .st) := by
        have : ¬ (((a :: b :: c :: e :: r).length : Int) = 2) := by simp; omega
        simp [gNe, dOk, PyData.plain, PyData.depth, PyData.eqv]
        simp at this; omega
      have hn : gLen (.tuple (a :: b :: c :: e :: r)) = some (.int ((a :: b :: c :: e :: r).length : Int), .st) := rfl
      generalize a :: b :: c :: e :: r = ds at *
      generalize (ds.length : Int) = n at *
      generalize ((ds.drop 1).map fun x => PyData.bool (numB x)) = BL at hc ha
      cases q : (ds.drop 1).all numB <;> rw [q] at ha <;> simp [F_is_step, fDef_ap, G_is_step, gIsa, isa, hc, ha, hn, n2, n3]
  | _ => simp [F_is_step, fDef_ap, G_is_step, gIsa, isa, stepB]
theorem fine_all {d : D} (h : Item d) : F__law_fine [.pure d] = some (.bool (stepB d), false, [.pure d]) := by
  cases d with
  | dict z => have := h.1; simp [PyData.plain] at this
  | tuple ds =>
    obtain ⟨hl, he⟩ := h.2 ds rfl
    have hc := c_odd he hl
    have hne : gNe (.list ((ds.drop 1).filter fun x => !numB x)) (.list []) = some (.bool (!((ds.drop 1).filter fun x => !numB x).isEmpty), .st) := gNe_nil (plainAll_of fun x hx => (he x (List.mem_of_mem_drop (List.mem_filter.mp hx).1)).1)
    match ds, he, hc, hne with
    | [], he, hc, hne =>
      have n0 := notin23 (n := 0) (by decide) (by decide)
      rw [show ((0 : Nat) : Int) = 0 from rfl] at n0
      simp [F__law_fine, fDef_ap, G__law_fine, gIsa, isa, n0, stepB]
    | [x], he, hc, hne =>
      have n0 := notin23 (n := 1) (by decide) (by decide)
      rw [show ((1 : Nat) : Int) = 1 from rfl] at n0
      simp [F__law_fine, fDef_ap, G__law_fine, gIsa, isa, n0, stepB]
    | [x, y], he, hc, hne =>
      have ex := he x (by simp)
      have e1 := gEq_S (t := "floor") ex
      have e2 := gEq_S (t := "near") ex
      have e3 := gEq_S (t := "top") ex
      simp only [List.drop_succ_cons, List.drop_zero] at hc hne
      cases x with
      | str t =>
        cases y with
        | int a =>
          have hf : [PyData.int a].filter (fun x => !numB x) = [] := rfl
          rw [hf] at hc hne
          simp only [List.isEmpty_nil, Bool.not_true] at hne
          cases b1 : eqS (.str t) "floor" <;> cases b2 : eqS (.str t) "near" <;> cases b3 : eqS (.str t) "top" <;> rw [b1] at e1 <;> rw [b2] at e2 <;> rw [b3] at e3 <;> by_cases p0 : 0 ≤ a <;> by_cases p1 : 1 ≤ a <;> simp [-gEq_s, F__law_fine, fDef_ap, G__law_fine, gIsa, isa, in2, hc, hne, stepB, e1, e2, e3, b1, b2, b3, p0, p1]
        | _ =>
          simp only [numB, Bool.not_false, List.filter_cons_of_pos, List.filter_nil, List.isEmpty_cons] at hc hne
          simp [F__law_fine, fDef_ap, G__law_fine, gIsa, isa, in2, hc, hne, stepB]
      | dict z => have := ex.1; simp [PyData.plain] at this
      | _ =>
        cases y <;> simp [F__law_fine, fDef_ap, G__law_fine, gIsa, isa, in2, stepB, eqS, PyData.eqv]
    | [x, y, z], he, hc, hne =>
      have ex := he x (by simp)
      have e1 := gEq_S (t := "each") ex
      simp only [List.drop_succ_cons, List.drop_zero] at hc hne
      cases x with
      | str t =>
        cases y with
        | int a =>
          cases z with
          | int b =>
            have hf : [PyData.int a, PyData.int b].filter (fun x => !numB x) = [] := rfl
            rw [hf] at hc hne
            simp only [List.isEmpty_nil, Bool.not_true] at hne
            cases b1 : eqS (.str t) "each" <;> rw [b1] at e1 <;> by_cases p0 : 0 ≤ a <;> by_cases p1 : a ≤ 2 <;> by_cases p2 : 1 ≤ b <;> simp [-gEq_s, F__law_fine, fDef_ap, G__law_fine, gIsa, isa, in3, hc, hne, stepB, e1, b1, p0, p1, p2]
          | _ =>
            simp only [numB, Bool.not_false, Bool.not_true, List.filter_cons_of_pos, List.filter_nil, List.isEmpty_cons, List.filter_cons, if_false, if_true, Bool.false_eq_true] at hc hne
            simp [F__law_fine, fDef_ap, G__law_fine, gIsa, isa, in3, hc, hne, stepB]
        | _ =>
          simp only [numB, Bool.not_false, List.filter_cons, if_true, List.isEmpty_cons] at hc hne
          generalize ([z].filter fun x => !numB x) = zz at hc hne
          cases z <;> simp_all [F__law_fine, fDef_ap, G__law_fine, gIsa, isa, in3, stepB]
      | dict z => have := ex.1; simp [PyData.plain] at this
      | _ => cases y <;> cases z <;> simp [F__law_fine, fDef_ap, G__law_fine, gIsa, isa, in3, stepB, eqS, PyData.eqv]
    | a :: b :: c :: e :: r, he, hc, hne =>
      have sb : stepB (.tuple (a :: b :: c :: e :: r)) = false := by cases b <;> first | rfl | (cases c <;> rfl)
      rw [sb]
      have n0 := notin23 (n := (a :: b :: c :: e :: r).length) (by simp) (by simp)
      have hn : gLen (.tuple (a :: b :: c :: e :: r)) = some (.int ((a :: b :: c :: e :: r).length : Int), .st) := rfl
      generalize a :: b :: c :: e :: r = ds at *
      generalize (ds.length : Int) = n at *
      simp [F__law_fine, fDef_ap, G__law_fine, gIsa, isa, hn, n0]
  | _ => simp [F__law_fine, fDef_ap, G__law_fine, gIsa, isa, stepB]
/-! ### words or none -/
theorem eqS_str {x : D} {t : Str} (h : eqS x t = true) : x = .str t := by
  unfold eqS at h
  cases x <;> simp [PyData.eqv] at h
  rw [h]
theorem item_step (s : Stp) : Item (encB false s) := by
  refine ⟨plain_encB, fun ds e => ?_⟩
  have hd : ds = items s := by
    have : PyData.tuple (items s) = .tuple ds := e
    exact (PyData.tuple.inj this).symm
  subst hd
  refine ⟨by cases s <;> simp [items], fun x hx => ?_⟩
  cases s <;> simp [items] at hx <;> rcases hx with rfl | rfl | rfl <;> exact ⟨by simp [PyData.plain], by simp [PyData.depth]⟩
theorem decode {d : D} (h : stepB d = true) : ∃ s, d = encB false s := by
  unfold stepB at h
  split at h
  · rename_i x a
    simp only [Bool.or_eq_true, Bool.and_eq_true] at h
    rcases h with h | ⟨h, _⟩ | ⟨h, _⟩
    · exact ⟨.floor a, by rw [eqS_str h]; rfl⟩
    · exact ⟨.near a, by rw [eqS_str h]; rfl⟩
    · exact ⟨.top a, by rw [eqS_str h]; rfl⟩
  · rename_i x a b
    simp only [Bool.and_eq_true] at h
    exact ⟨.each a b, by rw [eqS_str h.1]; rfl⟩
  · cases h
theorem decode_all : ∀ {ds : List D}, ds.all stepB = true → ∃ w : List Stp, ds = w.map (encB false)
  | [], _ => ⟨[], rfl⟩
  | d :: ds, h => by
    rw [List.all_cons, Bool.and_eq_true] at h
    obtain ⟨s, rfl⟩ := decode h.1
    obtain ⟨w, rfl⟩ := decode_all h.2
    exact ⟨s :: w, rfl⟩
def kD : D → Option Int
  | .tuple [x, .int a, .int _] => if eqS x "each" then some a else none
  | _ => none
theorem kD_words : ∀ w : List Stp, (w.map (encB false)).filterMap kD = kindsW w
  | [] => rfl
  | s :: w => by
    have ih := kD_words w
    unfold kindsW at ih ⊢
    rw [List.map_cons, List.filterMap_cons, List.filterMap_cons, ih]
    cases s <;> rfl
/-- whether it is a word -/
def wordB : D → Bool
  | .tuple ds => ds.all stepB && decide (((nub (ds.filterMap kD)).length : Int) = ((ds.filterMap kD).length : Int))
  | _ => false
theorem wordB_t {ds : List D} : wordB (.tuple ds) = (ds.all stepB && decide (((nub (ds.filterMap kD)).length : Int) = ((ds.filterMap kD).length : Int))) := rfl
theorem gLS_t {ns : List Int} (hl : ns.length < 1000) : gLS (.tuple (ns.map PyData.int)) = some (.int ((nub ns).length : Int), .st) := by
  show (match intsL (ns.map PyData.int) with
    | some ns => if ns.length < 1000 then some (PyData.int (nub ns).length, Kd.st) else none
    | none => none) = _
  rw [intsL_ints]
  dsimp only
  rw [if_pos hl]
theorem gLS_l {ns : List Int} (hl : ns.length < 1000) : gLS (.list (ns.map PyData.int)) = some (.int ((nub ns).length : Int), .st) := gLS_t hl
theorem is_word_all {ds : List D} (h : ∀ d ∈ ds, Item d) (hl : ds.length ≤ 100) : F_is_word [.pure (.tuple ds)] = some (.bool (wordB (.tuple ds)), false, [.pure (.tuple ds)]) := by
  have hc := compV (i := 1) (I := fiSeq (fVar 0)) (T := fTYes) (E := fCall Sh.F_is_step (frVal (fVar 1) frNil)) (env := [.pure (.tuple ds), .emp]) ds id (fun _ => true) (fun d => PyData.bool (stepB d)) (by simp) rfl noOwn_emp (by rw [sizeLine_eq]; omega)
    (fun d hd => ⟨rfl, fun _ => ⟨.st, trivial, by simp [is_step_all (h d hd)]⟩⟩)
  rw [filter_true] at hc
  have ha := gAll_map stepB ds
  have whole : ∀ C : FE, C [.pure (.tuple ds), .emp] = some (.list (ds.map fun d => PyData.bool (stepB d)), .fr, [.pure (.tuple ds), .emp]) →
      fDef 2 1 [] (gSeq (gIfS (fTNot (fTAnd (fTst (fOne (gIsa [.tuple]) (fVar 0))) (fTst (fOne gAll C)))) (gSeq (gRet 1 (fCst (.bool false))) gSkip) gSkip) (gSeq (gRet 1 (fTwo gEq (fOne gLS (fCall Sh.F_kinds_in (frVal (fVar 0) frNil))) (fOne gLen (fCall Sh.F_kinds_in (frVal (fVar 0) frNil))))) gSkip)) [.pure (.tuple ds)] = some (.bool (wordB (.tuple ds)), false, [.pure (.tuple ds)]) := fun C hC => by
    rw [wordB_t]
    cases q : ds.all stepB with
    | false =>
      rw [q] at ha
      generalize (ds.map fun d => PyData.bool (stepB d)) = BL at hC ha
      simp [fDef_ap, gIsa, isa, hC, ha]
    | true =>
      rw [q] at ha
      obtain ⟨w, rfl⟩ := decode_all q
      rw [kD_words]
      have hk : F_kinds_in [.pure (.tuple (w.map (encB false)))] = some (.tuple ((kindsW w).map PyData.int), false, [.pure (.tuple (w.map (encB false)))]) := kinds_in_W (b := false) (c := false) (by rw [List.length_map] at hl; omega)
      have hkl : (kindsW w).length ≤ w.length := List.length_filterMap_le _ _
      have hs := gLS_t (ns := kindsW w) (by rw [List.length_map] at hl; omega)
      have hn : gLen (.tuple ((kindsW w).map PyData.int)) = some (.int ((kindsW w).length : Int), .st) := by
        have := gLen_sq (b := false) (ds := (kindsW w).map PyData.int)
        rwa [List.length_map] at this
      generalize ((w.map (encB false)).map fun d => PyData.bool (stepB d)) = BL at hC ha
      generalize (kindsW w).map PyData.int = K at hk hs hn
      generalize ((nub (kindsW w)).length : Int) = a at hs ⊢
      generalize ((kindsW w).length : Int) = b at hn ⊢
      generalize w.map (encB false) = W at hC hk ⊢
      simp [fDef_ap, gIsa, isa, hC, ha, hk, hs, hn]
      rfl
  exact whole _ hc
theorem is_row_all {ds : List D} (h : ∀ d ∈ ds, Item d) (hl : ds.length ≤ 100) : F__law_is_row [.pure (.tuple ds)] = some (.bool (wordB (.tuple ds)), false, [.pure (.tuple ds)]) := by
  have hc := compV (i := 1) (I := fiSeq (fVar 0)) (T := fTNot (fTst (fCall F__law_fine (frVal (fVar 1) frNil)))) (E := fVar 1) (env := [.pure (.tuple ds), .emp, .emp]) ds id (fun d => !stepB d) id (by simp) rfl noOwn_emp (by rw [sizeLine_eq]; omega)
    (fun d hd => ⟨by simp [fine_all (h d hd)], fun _ => ⟨.st, trivial, by simp⟩⟩)
  rw [List.map_id] at hc
  have hne : gNe (.list (ds.filter fun d => !stepB d)) (.list []) = some (.bool (!(ds.filter fun d => !stepB d).isEmpty), .st) := gNe_nil (plainAll_of fun x hx => (h x (List.mem_filter.mp hx).1).1)
  cases q : ds.all stepB with
  | false =>
    have hf : (ds.filter fun d => !stepB d).isEmpty = false := by
      cases e : ds.filter fun d => !stepB d with
      | nil =>
        have : ds.all stepB = true := List.all_eq_true.mpr fun d hd => by
          have := List.filter_eq_nil_iff.mp e d hd
          simpa using this
        rw [q] at this; cases this
      | cons _ _ => rfl
    rw [hf] at hne
    have hw : wordB (.tuple ds) = false := by rw [wordB_t, q]; rfl
    rw [hw]
    generalize (ds.filter fun d => !stepB d) = FL at hc hne
    have whole : ∀ C C2 : FE, C [.pure (.tuple ds), .emp, .emp] = some (.list FL, .fr, [.pure (.tuple ds), .emp, .emp]) →
        fDef 3 1 [] (gSeq (gIfS (fTOr (fTNot (fTst (fOne (gIsa [.tuple]) (fVar 0)))) (fTst (fTwo gNe C (fLst faNil)))) (gSeq (gRet 1 (fCst (.bool false))) gSkip) gSkip) (gSeq (gSet 2 C2) (gSeq (gRet 1 (fTwo gEq (fOne gLen (fVar 2)) (fOne gLS (fVar 2)))) gSkip))) [.pure (.tuple ds)] = some (.bool false, false, [.pure (.tuple ds)]) := fun C C2 hC => by
      simp [fDef_ap, gIsa, isa, hC, hne]
    exact whole _ _ hc
  | true =>
    have hf : ds.filter (fun d => !stepB d) = [] := List.filter_eq_nil_iff.mpr fun d hd => by
      have := List.all_eq_true.mp q d hd
      simp [this]
    rw [hf] at hc hne
    simp only [List.isEmpty_nil, Bool.not_true] at hne
    obtain ⟨w, rfl⟩ := decode_all q
    have hw : wordB (.tuple (w.map (encB false))) = decide (((kindsW w).length : Int) = ((nub (kindsW w)).length : Int)) := by
      rw [wordB_t, q, kD_words, Bool.true_and, decide_eq_decide]
      exact eq_comm
    rw [hw]
    rw [List.length_map] at hl
    have hkl : (kindsW w).length ≤ w.length := List.length_filterMap_le _ _
    have hs := gLS_l (ns := kindsW w) (by omega)
    have hn : gLen (.list ((kindsW w).map PyData.int)) = some (.int ((kindsW w).length : Int), .st) := by
      have := gLen_sq (b := true) (ds := (kindsW w).map PyData.int)
      rwa [List.length_map] at this
    have hk : fComp [1] (fiSeq (fVar 0)) (bName 1) (fTst (fTwo gEq (fTwo gIx (fVar 1) (fCst (.int 0))) (fCst (.str "each")))) (fTwo gIx (fVar 1) (fCst (.int 1))) [.pure (.tuple (w.map (encB false))), .emp, .emp] = some (.list ((kindsW w).map PyData.int), .fr, [.pure (.tuple (w.map (encB false))), .emp, .emp]) := by
      rw [compV w (encB false) isE (fun s => PyData.int (num s)) (by simp) rfl noOwn_emp (by rw [sizeLine_eq]; omega) (fun s _ => ⟨by simp [isE_tg], fun _ => ⟨.st, trivial, by simp⟩⟩), kinds_filter]
    generalize (kindsW w).map PyData.int = K at hk hs hn
    generalize ((nub (kindsW w)).length : Int) = a at hs ⊢
    generalize ((kindsW w).length : Int) = b at hn ⊢
    generalize w.map (encB false) = W at hc hk ⊢
    have whole : ∀ C C2 : FE, C [.pure (.tuple W), .emp, .emp] = some (.list [], .fr, [.pure (.tuple W), .emp, .emp]) → C2 [.pure (.tuple W), .emp, .emp] = some (.list K, .fr, [.pure (.tuple W), .emp, .emp]) →
        fDef 3 1 [] (gSeq (gIfS (fTOr (fTNot (fTst (fOne (gIsa [.tuple]) (fVar 0)))) (fTst (fTwo gNe C (fLst faNil)))) (gSeq (gRet 1 (fCst (.bool false))) gSkip) gSkip) (gSeq (gSet 2 C2) (gSeq (gRet 1 (fTwo gEq (fOne gLen (fVar 2)) (fOne gLS (fVar 2)))) gSkip))) [.pure (.tuple W)] = some (.bool (decide (b = a)), false, [.pure (.tuple W)]) := fun C C2 hC hC2 => by
      simp [fDef_ap, gIsa, isa, hC, hne, hC2, hs, hn]
      rfl
    exact whole _ _ hc hk
theorem is_word_list {ds : List D} : F_is_word [.pure (.list ds)] = some (.bool (wordB (.list ds)), false, [.pure (.list ds)]) := by
  simp [F_is_word, fDef_ap, G_is_word, gIsa, isa, wordB]
theorem is_row_list {ds : List D} : F__law_is_row [.pure (.list ds)] = some (.bool (wordB (.list ds)), false, [.pure (.list ds)]) := by
  simp [F__law_is_row, fDef_ap, G__law_is_row, gIsa, isa, wordB]
end Lk16

namespace Lk16
open PySem PySem.Spec PyProof.Rows L2 Pt Sh
def ODD : List D := [.none, .int 0, .int (-1), .bool true, .str "top", .str "each", .str "near", .tuple [], .tuple [.str "top"], .tuple [.str "top", .int 0], .tuple [.str "near", .int (-1)], .tuple [.str "each", .int 0, .int 1], .list [.str "top", .int 1], .tuple [.str "each", .int 3, .int 1]]
theorem odd_ok : ∀ x ∈ ODD, El x ∧ Item x := fun x hx => by
  unfold ODD at hx
  simp only [List.mem_cons, List.not_mem_nil, or_false] at hx
  rcases hx with rfl | rfl | rfl | rfl | rfl | rfl | rfl | rfl | rfl | rfl | rfl | rfl | rfl | rfl
  all_goals
    refine ⟨⟨by simp [PyData.plain, PyData.plainAll], by simp [PyData.depth, PyData.depthAll]⟩, by simp [PyData.plain, PyData.plainAll], fun ds e => ?_⟩
    first
      | (cases e; done)
      | (cases e
         refine ⟨by simp, fun y hy => ?_⟩
         first
           | (exact absurd hy List.not_mem_nil)
           | (simp only [List.mem_cons, List.not_mem_nil, or_false] at hy
              rcases hy with rfl | rfl | rfl <;> exact ⟨by simp [PyData.plain], by simp [PyData.depth]⟩)
           | (simp only [List.mem_cons, List.not_mem_nil, or_false] at hy
              rcases hy with rfl | rfl <;> exact ⟨by simp [PyData.plain], by simp [PyData.depth]⟩)
           | (simp only [List.mem_cons, List.not_mem_nil, or_false] at hy
              cases hy; exact ⟨by simp [PyData.plain], by simp [PyData.depth]⟩))
theorem items_el (s : Stp) : ∀ x ∈ items s, El x := ((item_step s).2 (items s) rfl).2
theorem items_len (s : Stp) : (items s).length = 2 ∨ (items s).length = 3 := by cases s <;> simp [items]
theorem item_tup {ds : List D} (hl : ds.length ≤ 100) (h : ∀ x ∈ ds, El x) : Item (.tuple ds) := ⟨by
  simp only [PyData.plain]
  exact plainAll_of fun x hx => (h x hx).1, fun es e => by
  cases e
  exact ⟨hl, h⟩⟩
theorem item_lst {ds : List D} (h : ∀ x ∈ ds, El x) : Item (.list ds) := ⟨by
  simp only [PyData.plain]
  exact plainAll_of fun x hx => (h x hx).1, fun es e => by cases e⟩
theorem al_t (xs ys : List D) (h : xs.length + ys.length ≤ 100) : gAdd (.tuple xs) (.tuple ys) = some (.tuple (xs ++ ys), .st) := gAdd_t (by rw [sizeLine_eq]; omega)
theorem bent_ok {n : Nat} {ds : List D} {w : List Stp} (h : TinP n ds) (hn : n < 400000000000) (hl : w.length ≤ 6) :
    ∃ (ds' : List D) (xs : List D), F__law_bent [.own ds, .pure (encW w)] = some (.tuple xs, false, [.own ds', .pure (encW w)]) ∧ TinP (n + 100) ds' ∧ xs.length ≤ 10 ∧ ∀ x ∈ xs, Item x := by
  have gq : gEq (encW w) (.tuple []) = some (.bool (decide (w = [])), .st) := gEq_words (w := w) (v := [])
  have o1 : ∀ xs ys : List D, xs.length + ys.length ≤ 100 → gAdd (.list xs) (.list ys) = some (.list (xs ++ ys), .fr) := fun xs ys h => gAdd_l (by rw [sizeLine_eq]; omega)
  have wit : ∀ x ∈ w.map (encB false), Item x := fun x hx => by
    obtain ⟨s, _, rfl⟩ := List.mem_map.mp hx
    exact item_step s
  have oddE : [PyData.none, .int 0, .int (-1), .bool true, .str "top", .str "each", .str "near", .tuple [], .tuple [.str "top"], .tuple [.str "top", .int 0], .tuple [.str "near", .int (-1)], .tuple [.str "each", .int 0, .int 1], .list [.str "top", .int 1], .tuple [.str "each", .int 3, .int 1]] = ODD := rfl
  have ea : gAdd (.list [PyData.none, .int 0, .int (-1), .bool true, .str "top", .str "each", .str "near", .tuple [], .tuple [.str "top"], .tuple [.str "top", .int 0], .tuple [.str "near", .int (-1)], .tuple [.str "each", .int 0, .int 1]]) (.list [.list [.str "top", .int 1], .tuple [.str "each", .int 3, .int 1]]) = some (.list ODD, .fr) := o1 _ _ (by simp)
  have hsz : (12 : Nat) ≤ sizeLine := by rw [sizeLine_eq]; decide
  have ew : encW w = .tuple (w.map (encB false)) := rfl
  have hlm : (w.map (encB false)).length ≤ 6 := by rw [List.length_map]; exact hl
  by_cases hw : w = []
  · obtain ⟨o, ds1, t1, ho, ht1⟩ := of_ok (xs := ODD) h (by omega) (by simp [ODD]) (by simp [ODD])
    have ad := al_t (w.map (encB false)) [o] (by simp; omega)
    refine ⟨ds1, w.map (encB false) ++ [o], ?_, ht1.mono (by omega), by simp; omega, fun x hx => ?_⟩
    · rw [decide_eq_true hw] at gq
      rw [ew] at gq ⊢
      generalize w.map (encB false) = W at *
      generalize ODD = OD at *
      simp [F__law_bent, fDef_ap, G__law_bent, ea, gq, t1, ad]
    · rcases List.mem_append.mp hx with z | z
      · exact wit x z
      · rw [List.mem_singleton.mp z]; exact (odd_ok o ho).2
  · rw [decide_eq_false hw] at gq
    obtain ⟨r, ds1, t1, r0, r1, ht1⟩ := take_ok (top := 4) h (by omega) (by decide) (by decide)
    by_cases hr : r = 0
    · obtain ⟨o, ds2, t2, ho, ht2⟩ := of_ok (xs := ODD) ht1 (by omega) (by simp [ODD]) (by simp [ODD])
      have ad := al_t (w.map (encB false)) [o] (by simp; omega)
      refine ⟨ds2, w.map (encB false) ++ [o], ?_, ht2.mono (by omega), by simp; omega, fun x hx => ?_⟩
      · rw [ew] at gq ⊢
        subst hr
        generalize w.map (encB false) = W at *
        generalize ODD = OD at *
        simp [F__law_bent, fDef_ap, G__law_bent, ea, gq, t1, t2, ad]
      · rcases List.mem_append.mp hx with z | z
        · exact wit x z
        · rw [List.mem_singleton.mp z]; exact (odd_ok o ho).2
    · have hwl : 0 < w.length := List.length_pos_iff.mpr hw
      obtain ⟨k, ds2, t2, k0, k1, ht2⟩ := take_ok (top := (w.length : Int)) ht1 (by omega) (by omega) (by omega)
      have hk : k.toNat < w.length := by omega
      have ek : ((k.toNat : Nat) : Int) = k := by omega
      have ix : gIx (.tuple (w.map (encB false))) (.int k) = some (encB false (w[k.toNat]'hk), .st) := by
        have := ix_getT (e := encB false) (List.getElem?_eq_getElem hk)
        rwa [ek] at this
      generalize w[k.toNat]'hk = s at ix
      have hil := items_len s
      have hel := items_el s
      obtain ⟨j, ds3, t3, j0, j1, ht3⟩ := take_ok (top := ((items s).length : Int)) ht2 (by omega) (by omega) (by omega)
      obtain ⟨o, ds4, t4, ho, ht4⟩ := of_ok (xs := ODD) ht3 (by omega) (by simp [ODD]) (by simp [ODD])
      have ej : ((j.toNat : Nat) : Int) = j := by omega
      have c1 : Pt.cutD (items s) none (some j) = (items s).take j.toNat := by
        have := cut_lo (m := j.toNat) (xs := items s)
        rwa [ej] at this
      have c2 : Pt.cutD (items s) (some (j + 1)) none = (items s).drop (j.toNat + 1) := by
        have := cut_drop (xs := items s) (p := j.toNat + 1)
        rwa [show (((j.toNat + 1 : Nat) : Int)) = j + 1 from by omega] at this
      have c3 : Pt.cutD (items s) (some j) (some (j + 1)) = ((items s).drop j.toNat).take 1 := by
        have := cut_mid (xs := items s) (p := j.toNat) (q := j.toNat + 1) (by omega)
        rwa [ej, show (((j.toNat + 1 : Nat) : Int)) = j + 1 from by omega, show j.toNat + 1 - j.toNat = 1 from by omega] at this
      have c4 : Pt.cutD (w.map (encB false)) none (some k) = (w.map (encB false)).take k.toNat := by
        have := cut_lo (m := k.toNat) (xs := w.map (encB false))
        rwa [ek] at this
      have c5 : Pt.cutD (w.map (encB false)) (some (k + 1)) none = (w.map (encB false)).drop (k.toNat + 1) := by
        have := cut_drop (xs := w.map (encB false)) (p := k.toNat + 1)
        rwa [show (((k.toNat + 1 : Nat) : Int)) = k + 1 from by omega] at this
      have a1 := al_t ((items s).take j.toNat) [o] (by rw [List.length_take]; simp; omega)
      have a2 := al_t ((items s).take j.toNat ++ [o]) ((items s).drop (j.toNat + 1)) (by rw [List.length_append, List.length_take, List.length_drop]; simp; omega)
      have a3 := al_t ((items s).take j.toNat) ((items s).drop (j.toNat + 1)) (by rw [List.length_take, List.length_drop]; omega)
      have a4 := al_t (items s) (((items s).drop j.toNat).take 1) (by rw [List.length_take, List.length_drop]; omega)
      have hi1 : Item (.tuple ((items s).take j.toNat ++ [o] ++ (items s).drop (j.toNat + 1))) := item_tup (by rw [List.length_append, List.length_append, List.length_take, List.length_drop]; simp; omega) fun x hx => by
        rcases List.mem_append.mp hx with z | z
        · rcases List.mem_append.mp z with z | z
          · exact hel x (List.mem_of_mem_take z)
          · rw [List.mem_singleton.mp z]; exact (odd_ok o ho).1
        · exact hel x (List.mem_of_mem_drop z)
      have hi2 : Item (.tuple ((items s).take j.toNat ++ (items s).drop (j.toNat + 1))) := item_tup (by rw [List.length_append, List.length_take, List.length_drop]; omega) fun x hx => by
        rcases List.mem_append.mp hx with z | z
        · exact hel x (List.mem_of_mem_take z)
        · exact hel x (List.mem_of_mem_drop z)
      have hi3 : Item (.tuple (items s ++ ((items s).drop j.toNat).take 1)) := item_tup (by rw [List.length_append, List.length_take, List.length_drop]; omega) fun x hx => by
        rcases List.mem_append.mp hx with z | z
        · exact hel x z
        · exact hel x (List.mem_of_mem_drop (List.mem_of_mem_take z))
      have hi4 : Item (.list (items s)) := item_lst hel
      have hi5 : Item (.tuple (items s).reverse) := item_tup (by rw [List.length_reverse]; omega) fun x hx => hel x (List.mem_reverse.mp hx)
      obtain ⟨f, ds5, t5, hf, ht5⟩ := of_ok (xs := [.tuple ((items s).take j.toNat ++ [o] ++ (items s).drop (j.toNat + 1)), .tuple ((items s).take j.toNat ++ (items s).drop (j.toNat + 1)), .tuple (items s ++ ((items s).drop j.toNat).take 1), .list (items s), .tuple (items s).reverse]) ht4 (by omega) (by simp) (by simp)
      have hfi : Item f := by
        simp only [List.mem_cons, List.not_mem_nil, or_false] at hf
        rcases hf with rfl | rfl | rfl | rfl | rfl
        · exact hi1
        · exact hi2
        · exact hi3
        · exact hi4
        · exact hi5
      have b1 := al_t ((w.map (encB false)).take k.toNat) [f] (by rw [List.length_take]; simp; omega)
      have b2 := al_t ((w.map (encB false)).take k.toNat ++ [f]) ((w.map (encB false)).drop (k.toNat + 1)) (by rw [List.length_append, List.length_take, List.length_drop]; simp; omega)
      refine ⟨ds5, (w.map (encB false)).take k.toNat ++ [f] ++ (w.map (encB false)).drop (k.toNat + 1), ?_, ht5.mono (by omega), by rw [List.length_append, List.length_append, List.length_take, List.length_drop]; simp; omega, fun x hx => ?_⟩
      · have es : encB false s = .tuple (items s) := rfl
        rw [es] at ix
        have gl : gLen (.tuple (w.map (encB false))) = some (.int (w.length : Int), .st) := by
          have := gLen_sq (b := false) (ds := w.map (encB false))
          rwa [List.length_map] at this
        have gi : gLen (.tuple (items s)) = some (.int ((items s).length : Int), .st) := rfl
        have gv : gRev (.tuple (items s)) = some (.tuple (items s).reverse, .st) := rfl
        have gt : gList (.tuple (items s)) = some (.list (items s), .fr) := rfl
        have hrb : (r == 0) = false := by simp [hr]
        have hrd : decide (r = 0) = false := by simp [hr]
        have o2 : ∀ a b c d e : D, gAdd (.list [a, b, c]) (.list [d, e]) = some (.list [a, b, c, d, e], .fr) := fun a b c d e => o1 _ _ (by simp)
        rw [ew] at gq ⊢
        generalize (items s).take j.toNat ++ [o] ++ (items s).drop (j.toNat + 1) = q1 at a2 t5
        generalize (items s).take j.toNat ++ [o] = q2 at a1 a2
        generalize (items s).take j.toNat ++ (items s).drop (j.toNat + 1) = q3 at a3 t5
        generalize items s ++ ((items s).drop j.toNat).take 1 = q4 at a4 t5
        generalize (items s).take j.toNat = q5 at c1 a1 a3
        generalize (items s).drop (j.toNat + 1) = q6 at c2 a2 a3
        generalize ((items s).drop j.toNat).take 1 = q7 at c3 a4
        generalize (items s).reverse = q8 at gv t5
        generalize ((items s).length : Int) = il at gi t3
        generalize items s = I at *
        generalize (w.map (encB false)).take k.toNat ++ [f] ++ (w.map (encB false)).drop (k.toNat + 1) = q9 at b2 ⊢
        generalize (w.map (encB false)).take k.toNat ++ [f] = q10 at b1 b2
        generalize (w.map (encB false)).take k.toNat = q11 at c4 b1
        generalize (w.map (encB false)).drop (k.toNat + 1) = q12 at c5 b2
        generalize (w.length : Int) = wl at gl t2
        generalize w.map (encB false) = W at *
        generalize ODD = OD at *
        simp [F__law_bent, fDef_ap, G__law_bent, ea, gq, t1, hr, hrb, hrd, gl, t2, ix, gi, t3, gSl, c1, c2, c3, t4, a1, a2, a3, a4, gt, gv, o2, t5, c4, c5, b1, b2]
      · rcases List.mem_append.mp hx with z | z
        · rcases List.mem_append.mp z with z | z
          · exact wit x (List.mem_of_mem_take z)
          · rw [List.mem_singleton.mp z]; exact hfi
        · exact wit x (List.mem_of_mem_drop z)
end Lk16

namespace Lk16
open PySem PySem.Spec PyProof.Rows L2 Pt Sh
theorem hand : F__law_hand_right [] = some (.bool true, false, []) := by kernel_rfl
theorem comp_at {own : List Nat} {I : FI} {b : FB} {T : FT} {E : FE} {env e1 : Ev} {l : List D} {r : Option (D × Kd × Ev)} (h : I env = some (l, e1)) (h1 : I e1 = some (l, e1)) (hc : fComp own I b T E e1 = r) : fComp own I b T E env = r := by
  rw [← hc]
  unfold fComp
  rw [h, h1]
theorem add_l {xs ys : List D} (h : xs.length + ys.length ≤ 1000) : gAdd (.list xs) (.list ys) = some (.list (xs ++ ys), .fr) := gAdd_l (by rw [sizeLine_eq]; omega)
theorem caseOk : CaseOk F__law_case_right 10000 := fun n ds h hn => by
  obtain ⟨ds1, w, r1, ht1, hl, _⟩ := row_ok (many := 6) (width := 3) h (by omega) (by decide) (by decide) (by decide) (by decide)
  have hl : w.length ≤ 6 := hl
  have r1 : Sh.F__law_row [.own ds, .pure (.int 6), .pure (.int 3)] = some (encW w, false, [.own ds1, .pure (.int 6), .pure (.int 3)]) := r1
  obtain ⟨ds2, xs, r2, ht2, hx, hxi⟩ := bent_ok (w := w) ht1 (by omega) hl
  have ew : encW w = .tuple (w.map (encB false)) := rfl
  have wit : ∀ x ∈ w.map (encB false), Item x := fun x hx => by
    obtain ⟨s, _, rfl⟩ := List.mem_map.mp hx
    exact item_step s
  have hlm : (w.map (encB false)).length ≤ 6 := by rw [List.length_map]; exact hl
  have gl : gList (encW w) = some (.list (w.map (encB false)), .fr) := rfl
  have gww : gAdd (encW w) (encW w) = some (.tuple (w.map (encB false) ++ w.map (encB false)), .st) := al_t _ _ (by omega)
  have ll : Sh.F__law_lists 8 [.pure (encW w)] = some (.list (w.map (encB true)), true, [.pure (encW w)]) := lists_word (m := 5) (b := false) (c := false) (by omega)
  have kd : ∀ b c, Sh.F_kinds_in [.pure (sq c (w.map (encB b)))] = some (.tuple ((kindsW w).map PyData.int), false, [.pure (sq c (w.map (encB b)))]) := fun b c => kinds_in_W (by omega)
  have k1 : Sh.F_kinds_in [.pure (encW w)] = some (.tuple ((kindsW w).map PyData.int), false, [.pure (encW w)]) := kd false false
  have k2 : Sh.F_kinds_in [.pure (.list (w.map (encB true)))] = some (.tuple ((kindsW w).map PyData.int), false, [.pure (.list (w.map (encB true)))]) := kd true true
  have hkl : (kindsW w).length ≤ w.length := List.length_filterMap_le _ _
  have fW : ∀ d ∈ [encW w, .tuple xs, .list (w.map (encB false)), .tuple (w.map (encB false) ++ w.map (encB false))],
      F_is_word [.pure d] = some (.bool (wordB d), false, [.pure d]) ∧ F__law_is_row [.pure d] = some (.bool (wordB d), false, [.pure d]) := fun d hd => by
    simp only [List.mem_cons, List.not_mem_nil, or_false] at hd
    rcases hd with rfl | rfl | rfl | rfl
    · exact ⟨is_word_all wit (by omega), is_row_all wit (by omega)⟩
    · exact ⟨is_word_all hxi (by omega), is_row_all hxi (by omega)⟩
    · exact ⟨is_word_list, is_row_list⟩
    · have : ∀ d ∈ w.map (encB false) ++ w.map (encB false), Item d := fun d hd => by
        rcases List.mem_append.mp hd with z | z <;> exact wit d z
      exact ⟨is_word_all this (by rw [List.length_append]; omega), is_row_all this (by rw [List.length_append]; omega)⟩
  have ct : ∀ s2 s3 s4 s5 s6 : Slot, NoOwn s5 → fComp [5] (fiSeq (fVar 1)) (bName 5) (fTst (fTwo gEq (fTwo gIx (fVar 5) (fCst (.int 0))) (fCst (.str "each")))) (fTwo gIx (fVar 5) (fCst (.int 1))) [.own ds2, .pure (encW w), s2, s3, s4, s5, s6, .emp] = some (.list ((kindsW w).map PyData.int), .fr, [.own ds2, .pure (encW w), s2, s3, s4, s5, s6, .emp]) := fun s2 s3 s4 s5 s6 hs => by
    rw [compV (i := 5) (s := s5) w (encB false) isE (fun s => PyData.int (num s)) (by rw [ew]; simp) rfl hs (by rw [sizeLine_eq]; omega) (fun s _ => ⟨by simp [isE_tg], fun _ => ⟨.st, trivial, by simp⟩⟩), kinds_filter]
  have gt : gTuple (.list ((kindsW w).map PyData.int)) = some (.tuple ((kindsW w).map PyData.int), .st) := rfl
  have tru : ∀ l : List D, (l.filter fun _ => true) = l := fun l => List.filter_eq_self.mpr fun _ _ => rfl
  have cw : ∀ (F : FS), (∀ d ∈ [encW w, .tuple xs, .list (w.map (encB false)), .tuple (w.map (encB false) ++ w.map (encB false))], F [.pure d] = some (.bool (wordB d), false, [.pure d])) →
      ∀ s3 s5 : Slot, fComp [4] (fiSeq (fVar 2)) (bName 4) fTYes (fCall F (frVal (fVar 4) frNil)) [.own ds2, .pure (encW w), .pure (.list [encW w, .tuple xs, .list (w.map (encB false)), .tuple (w.map (encB false) ++ w.map (encB false))]), s3, .emp, s5, .emp, .emp] = some (.list ([encW w, .tuple xs, .list (w.map (encB false)), .tuple (w.map (encB false) ++ w.map (encB false))].map fun d => PyData.bool (wordB d)), .fr, [.own ds2, .pure (encW w), .pure (.list [encW w, .tuple xs, .list (w.map (encB false)), .tuple (w.map (encB false) ++ w.map (encB false))]), s3, .emp, s5, .emp, .emp]) := fun F hF s3 s5 => by
    have hc := compV (i := 4) (I := fiSeq (fVar 2)) (T := fTYes) (E := fCall F (frVal (fVar 4) frNil)) (env := [.own ds2, .pure (encW w), .pure (.list [encW w, .tuple xs, .list (w.map (encB false)), .tuple (w.map (encB false) ++ w.map (encB false))]), s3, .emp, s5, .emp, .emp]) (s := .emp) [encW w, .tuple xs, .list (w.map (encB false)), .tuple (w.map (encB false) ++ w.map (encB false))] id (fun _ => true) (fun d => PyData.bool (wordB d)) (by simp) rfl noOwn_emp (by rw [sizeLine_eq]; simp)
      (fun d hd => ⟨rfl, fun _ => ⟨.st, trivial, by
        have := hF d hd
        simp only [id] at this ⊢
        generalize [encW w, .tuple xs, .list (w.map (encB false)), .tuple (w.map (encB false) ++ w.map (encB false))] = L
        simp [this]⟩⟩)
    rw [tru] at hc
    exact hc
  have cs : ∀ (F : FS), (∀ d ∈ xs, F [.pure d] = some (.bool (stepB d), false, [.pure d])) → ∀ s3 : Slot,
      fComp [5] (fiSeq (fTwo gIx (fVar 2) (fCst (.int 1)))) (bName 5) fTYes (fCall F (frVal (fVar 5) frNil)) [.own ds2, .pure (encW w), .pure (.list [encW w, .tuple xs, .list (w.map (encB false)), .tuple (w.map (encB false) ++ w.map (encB false))]), s3, .emp, .emp, .emp, .emp] = some (.list (xs.map fun d => PyData.bool (stepB d)), .fr, [.own ds2, .pure (encW w), .pure (.list [encW w, .tuple xs, .list (w.map (encB false)), .tuple (w.map (encB false) ++ w.map (encB false))]), s3, .emp, .emp, .emp, .emp]) := fun F hF s3 => by
    have hc := compV (i := 5) (I := fiSeq (fTwo gIx (fVar 2) (fCst (.int 1)))) (T := fTYes) (E := fCall F (frVal (fVar 5) frNil)) (env := [.own ds2, .pure (encW w), .pure (.list [encW w, .tuple xs, .list (w.map (encB false)), .tuple (w.map (encB false) ++ w.map (encB false))]), s3, .emp, .emp, .emp, .emp]) (s := .emp) xs id (fun _ => true) (fun d => PyData.bool (stepB d)) (by rw [List.map_id]; rfl) rfl noOwn_emp (by rw [sizeLine_eq]; omega)
      (fun d hd => ⟨rfl, fun _ => ⟨.st, trivial, by
        have := hF d hd
        simp only [id] at this ⊢
        generalize [encW w, .tuple xs, .list (w.map (encB false)), .tuple (w.map (encB false) ++ w.map (encB false))] = L
        simp [this]⟩⟩)
    rw [tru] at hc
    exact hc
  have c1 := cw F_is_word fun d hd => (fW d hd).1
  have c2 := cs F_is_step fun d hd => is_step_all (hxi d hd)
  have c3 := cw F__law_is_row fun d hd => (fW d hd).2
  have c4 := cs F__law_fine fun d hd => fine_all (hxi d hd)
  have a1 : gAdd (.list ([encW w, .tuple xs, .list (w.map (encB false)), .tuple (w.map (encB false) ++ w.map (encB false))].map fun d => PyData.bool (wordB d))) (.list (xs.map fun d => PyData.bool (stepB d))) = some (.list ([encW w, .tuple xs, .list (w.map (encB false)), .tuple (w.map (encB false) ++ w.map (encB false))].map (fun d => PyData.bool (wordB d)) ++ xs.map fun d => PyData.bool (stepB d)), .fr) := add_l (by simp; omega)
  have hal : ([encW w, .tuple xs, .list (w.map (encB false)), .tuple (w.map (encB false) ++ w.map (encB false))].map (fun d => PyData.bool (wordB d)) ++ xs.map fun d => PyData.bool (stepB d)).length ≤ 14 := by simp; omega
  have hbo : ∀ d ∈ [encW w, .tuple xs, .list (w.map (encB false)), .tuple (w.map (encB false) ++ w.map (encB false))].map (fun d => PyData.bool (wordB d)) ++ xs.map fun d => PyData.bool (stepB d), AtD d := fun d hd => by
    rcases List.mem_append.mp hd with z | z <;> obtain ⟨y, _, rfl⟩ := List.mem_map.mp z <;> exact .inr ⟨_, rfl⟩
  generalize [encW w, .tuple xs, .list (w.map (encB false)), .tuple (w.map (encB false) ++ w.map (encB false))].map (fun d => PyData.bool (wordB d)) = B1 at c1 c3 a1 hal hbo
  generalize (xs.map fun d => PyData.bool (stepB d)) = B2 at c2 c4 a1 hal hbo
  generalize hAL : B1 ++ B2 = AL at a1 hal hbo
  have a2 : ∀ x y : D, gAdd (.list AL) (.list [x, y]) = some (.list (AL ++ [x, y]), .fr) := fun x y => add_l (by simp; omega)
  have fk : Fine 6 (.tuple ((kindsW w).map PyData.int)) := .sq 5 false _ (by rw [List.length_map]; omega) fun x hx => by
    obtain ⟨i, _, rfl⟩ := List.mem_map.mp hx
    exact .at _ (.inl (.inl (.inr ⟨_, rfl⟩)))
  generalize (kindsW w).map PyData.int = K at *
  have sm : Sh.F__law_same 8 [.pure (.list (AL ++ [.tuple K, .tuple K])), .pure (.list (AL ++ [.tuple K, .tuple K]))] = some (.bool true, false, [.pure (.list (AL ++ [.tuple K, .tuple K])), .pure (.list (AL ++ [.tuple K, .tuple K]))]) := same_fine (.sq 6 true _ (by simp; omega) fun x hx => by
    rcases List.mem_append.mp hx with z | z
    · exact .at _ (hbo x z)
    · simp at z
      rw [z]; exact fk)
  refine ⟨ds2, ?_, ht2.mono (by omega)⟩
  rw [show AL ++ [PyData.tuple K, PyData.tuple K] = AL ++ [.tuple K, .tuple K] from rfl] at sm
  generalize w.map (encB true) = WT at *
  generalize w.map (encB false) ++ w.map (encB false) = WW at *
  generalize w.map (encB false) = WF at *
  generalize encW w = W at *
  have c1' := fun s3 s5 => comp_at (own := [4]) (I := fiSeq (fVar 2)) (b := bName 4) (T := fTYes) (E := fCall F_is_word (frVal (fVar 4) frNil)) (env := [.own ds2, .pure W, .own [W, .tuple xs, .list WF, .tuple WW], s3, .emp, s5, .emp, .emp]) (l := [W, .tuple xs, .list WF, .tuple WW]) rfl rfl (c1 s3 s5)
  have hLz : [W, PyData.tuple xs, .list WF, .tuple WW].length ≤ sizeLine := by rw [sizeLine_eq]; simp
  generalize hL : [W, PyData.tuple xs, .list WF, .tuple WW] = L at *
  have a2 := a2 (.tuple K) (.tuple K)
  have ct' := fun s2 s3 s4 s6 => ct s2 s3 s4 .emp s6 noOwn_emp
  generalize AL ++ [PyData.tuple K, .tuple K] = A2 at *
  simp [-gList_t, F__law_case_right, fDef_ap, G__law_case_right, r1, r2, gl, gww, hL, hLz, c1, c1', c2, c3, c4, a1, a2, k1, k2, ll, ct', gt, sm]
theorem law_ok (ns : List Int) (hl : ns.length ≤ 63) : ∃ ss', F_law (scr ns) = some (.bool true, false, ss') :=
  law_gen (M := 3) (by decide) (by decide) hand (fun cs k h0 h1 => box_gen h0 h1) (fun ds h => turns_gen (N := 30) caseOk (by decide) (by decide) h) ns hl
end Lk16

theorem PySem.Challenge.cw_partpicks_k16_steps_and_words_or_none_holds : PySem.Challenge.rw_partpicks_k16_steps_and_words_or_none.Holds := by
  exact Lk16.holds Lk16.law_ok
