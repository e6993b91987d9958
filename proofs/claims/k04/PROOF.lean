import PyProof.Rows.All
import Wide.All
import OpenK.AllK
import Wide.FinOn
import PyProof.EqAt
import PyProof.EqKinds
import PyProof.TupleCall
import HandS.ForMost
import HandS.Evl
import HandS.ForExc
import HandS.IsInst
import HandS.Style
import HandS.Flow
import PyProof.LongRange
import HandS.TupAny
import HandS.Defaults
import KE.KStateDown
import HandS.More
import HandS.Head0
import HandS.Head1
import HandS.Head2
import HandS.HeadEnd
import HandS.HeadHook1
import HandS.HeadHook2
import HandS.Iter
import HandS.SortInts
import HandS.ExcIs
import HandS.SortRule
import HandS.Star
import KE.DataMinMax
import KE.GoesEnum
import HandS.SortKw
import PySem.Challenge.RW_diesnon_k04_whole_next_and_previous_are
set_option Elab.async false
set_option linter.all false
set_option maxRecDepth 100000
set_option maxHeartbeats 2000000
namespace Dy
open PySem L2 PySem.Spec PyProof.Rows
open Evl (Ex ex_l ex_t fresh_back sz_of sz_lt)

mutual
theorem dp_ex {K : PySem.W.Frag} {H H' : Hp} (e : Ex H H') : ∀ {v : V} {d : PyData}, Dp K H v d → Dp K H' v d
  | _, _, .non => .non
  | _, _, .bl b => .bl b
  | _, _, .int i => .int i
  | _, _, .str x => .str x
  | _, _, .lst h t => .lst (ex_l e h) (dpAll_ex e t)
  | _, _, .tup h t => .tup (ex_t e h) (dpAll_ex e t)
theorem dpAll_ex {K : PySem.W.Frag} {H H' : Hp} (e : Ex H H') : ∀ {vs : List V} {ds : List PyData}, DpAll K H vs ds → DpAll K H' vs ds
  | _, _, .nil => .nil
  | _, _, .cons h t => .cons (dp_ex e h) (dpAll_ex e t)
end

section
variable {K : PySem.W.Frag} {H H' : Hp}
theorem dpAll_len : ∀ {vs : List V} {ds : List PyData}, DpAll K H vs ds → vs.length = ds.length
  | _, _, .nil => rfl
  | _, _, .cons _ t => by rw [List.length_cons, List.length_cons, dpAll_len t]
theorem dpAll_get : ∀ {vs : List V} {ds : List PyData} {i : Nat} {d : PyData}, DpAll K H vs ds → ds[i]? = some d → ∃ v, vs[i]? = some v ∧ Dp K H v d
  | _, _, _, _, .nil, h => by simp at h
  | _, _, 0, d, .cons (v := v) hv _, h => by
    have e : _ = d := Option.some.inj h
    subst e
    exact ⟨v, rfl, hv⟩
  | _, _, i + 1, d, .cons _ t, h => dpAll_get (i := i) t h
theorem dpAll_get' : ∀ {vs : List V} {ds : List PyData} {i : Nat} {v : V}, DpAll K H vs ds → vs[i]? = some v → ∃ d, ds[i]? = some d ∧ Dp K H v d
  | _, _, _, _, .nil, h => by simp at h
  | _, _, 0, v, .cons (d := d) hv _, h => by
    have e : _ = v := Option.some.inj h
    subst e
    exact ⟨d, rfl, hv⟩
  | _, _, i + 1, v, .cons _ t, h => dpAll_get' (i := i) t h
theorem dpAll_app : ∀ {vs ws : List V} {ds es : List PyData}, DpAll K H vs ds → DpAll K H ws es → DpAll K H (vs ++ ws) (ds ++ es)
  | _, _, _, _, .nil, h => h
  | _, _, _, _, .cons a t, h => .cons a (dpAll_app t h)
theorem dpAll_take : ∀ {vs : List V} {ds : List PyData} (n : Nat), DpAll K H vs ds → DpAll K H (vs.take n) (ds.take n)
  | _, _, 0, _ => .nil
  | _, _, _ + 1, .nil => .nil
  | _, _, n + 1, .cons a t => .cons a (dpAll_take n t)
theorem dpAll_drop : ∀ {vs : List V} {ds : List PyData} (n : Nat), DpAll K H vs ds → DpAll K H (vs.drop n) (ds.drop n)
  | _, _, 0, h => h
  | _, _, _ + 1, .nil => .nil
  | _, _, n + 1, .cons _ t => dpAll_drop n t
theorem dpAll_set : ∀ {vs : List V} {ds : List PyData} (i : Nat) {v : V} {d : PyData}, DpAll K H vs ds → Dp K H v d → DpAll K H (vs.set i v) (ds.set i d)
  | _, _, _, _, _, .nil, _ => .nil
  | _, _, 0, _, _, .cons _ t, h => .cons h t
  | _, _, i + 1, _, _, .cons a t, h => .cons a (dpAll_set i t h)
theorem dpAll_int {ns : List Int} : DpAll K H (ns.map V.int) (ns.map PyData.int) := by
  induction ns with
  | nil => exact .nil
  | cons a r ih => exact .cons (.int a) ih
theorem dp_int {v : V} {i : Int} (h : Dp K H v (.int i)) : v = .int i := by cases h; rfl
theorem dp_bool {v : V} {i : Bool} (h : Dp K H v (.bool i)) : v = .bl i := by cases h; rfl
theorem dp_str {v : V} {i : Str} (h : Dp K H v (.str i)) : v = .str i := by cases h; rfl
theorem dp_none {v : V} (h : Dp K H v .none) : v = .non := by cases h; rfl
theorem dp_list {v : V} {ds : List PyData} (h : Dp K H v (.list ds)) : ∃ a xs, v = .ref a ∧ SqL K H a xs ∧ DpAll K H xs ds := by
  cases h with
  | lst a b => exact ⟨_, _, rfl, a, b⟩
theorem dp_tuple {v : V} {ds : List PyData} (h : Dp K H v (.tuple ds)) : ∃ a xs, v = .ref a ∧ SqT K H a xs ∧ DpAll K H xs ds := by
  cases h with
  | tup a b => exact ⟨_, _, rfl, a, b⟩
theorem dpAll_ints : ∀ {vs : List V} {ns : List Int}, DpAll K H vs (ns.map PyData.int) → vs = ns.map V.int
  | [], [], _ => rfl
  | v :: vs, n :: ns, .cons a t => by rw [dp_int a, dpAll_ints t]; rfl
theorem dpAll_bools : ∀ {vs : List V} {ns : List Bool}, DpAll K H vs (ns.map PyData.bool) → vs = ns.map V.bl
  | [], [], _ => rfl
  | v :: vs, n :: ns, .cons a t => by rw [dp_bool a, dpAll_bools t]; rfl
theorem dpAll_one {v : V} {d : PyData} (h : Dp K H v d) : DpAll K H [v] [d] := .cons h .nil
def flat : PyData → Bool
  | .none | .bool _ | .int _ | .str _ => true
  | _ => false
theorem dp_flat {v : V} {d : PyData} (h : Dp K H v d) (f : flat d = true) : Dp K H' v d := by
  cases h with
  | non => exact .non
  | bl b => exact .bl b
  | int i => exact .int i
  | str x => exact .str x
  | lst _ _ => cases f
  | tup _ _ => cases f
end

/-! ### the state by data -/
/-- a part of the heap that one name owns: its addresses, what stands there -/
structure Res where
  fp : List Addr
  ok : PySem.W.Frag → V → Hp → Hp → Prop
  mono : ∀ {K : PySem.W.Frag} {v : V} {G G' H H' : Hp}, ok K v G H → Ex G G' → (∀ a, a ∈ fp → H' a = H a) → ok K v G' H'
inductive En where
  | no
  | sh (d : PyData)
  | ow (ds : List PyData)
  | raw (v : V)
  | rs (R : Res)
/-- the addresses that the slot i owns -/
def Owns (δ : List En) (σ : L2.St) (i : Nat) (a : Addr) : Prop := (∃ ds, δ[i]? = some (.ow ds) ∧ σ[i]? = some (some (.ref a))) ∨ ∃ R, δ[i]? = some (.rs R) ∧ a ∈ R.fp
/-- a step of an expression -/
structure Mv (G H G' H' : Hp) : Prop where
  g : Ex G G'
  h : Ex H H'
  gh : Ex G' H'
  old : ∀ p, H p ≠ none → G' p = G p
theorem Mv.refl {G H : Hp} (e : Ex G H) : Mv G H G H := ⟨Evl.Ex.refl G, Evl.Ex.refl H, e, fun _ _ => rfl⟩
theorem ne_none_of {H H' : Hp} {p : Addr} (e : Ex H H') (h : H p ≠ none) : H' p ≠ none := by
  cases q : H p with
  | none => exact absurd q h
  | some o => rw [e p o q]; intro z; cases z
theorem Mv.trans {G H G1 H1 G2 H2 : Hp} (a : Mv G H G1 H1) (b : Mv G1 H1 G2 H2) : Mv G H G2 H2 :=
  ⟨a.g.trans b.g, a.h.trans b.h, b.gh, fun p hp => (b.old p (ne_none_of a.h hp)).trans (a.old p hp)⟩
/-- a new object, shared -/
theorem Mv.new {G H : Hp} {p : Addr} {o : HO} (e : Ex G H) (hp : H p = none) : Mv G H (upd G p o) (upd H p o) := by
  have gp : G p = none := fresh_back e hp
  refine ⟨Evl.Ex.new gp, Evl.Ex.new hp, fun a u h => ?_, fun q hq => ?_⟩
  · by_cases c : a = p
    · subst c; rw [upd_same] at h; rw [upd_same]; exact h
    · rw [upd_ne c] at h; rw [upd_ne c]; exact e a u h
  · exact upd_ne (fun z => hq (by rw [z]; exact hp))
/-- a new object, its owner's -/
theorem Mv.own {G H : Hp} {p : Addr} {o : HO} (e : Ex G H) (hp : H p = none) : Mv G H G (upd H p o) :=
  ⟨Evl.Ex.refl G, Evl.Ex.new hp, fun a u h => by
    have : a ≠ p := fun z => by
      have q := e a u h
      rw [z, hp] at q; cases q
    rw [upd_ne this]; exact e a u h, fun _ _ => rfl⟩
/-- an exception by data: its class; its one field -/
inductive XD where
  | plain (C : Addr)
  | fld (C : Addr) (f : Str) (d : PyData)
def EOk (K : PySem.W.Frag) (E : XK) (G H : Hp) : XD → Prop
  | .plain C => E (.ref C) none H
  | .fld C f d => ∀ dd v, H dd = some (.xd [(f, v)]) → Dp K G v d → E (.ref C) (some dd) H
structure OkC (K : PySem.W.Frag) (G0 H0 G H : Hp) (σ : L2.St) (δ : List En) : Prop where
  mv : Mv G0 H0 G H
  len : σ.length = δ.length
  sh : ∀ (i : Nat) (d : PyData), δ[i]? = some (.sh d) → ∃ v, σ[i]? = some (some v) ∧ Dp K G v d
  ow : ∀ (i : Nat) (ds : List PyData), δ[i]? = some (.ow ds) → ∃ p vs, σ[i]? = some (some (.ref p)) ∧ H0 p = none ∧ G p = none ∧ H p = some (.lst vs) ∧ DpAll K G vs ds
  rs : ∀ (i : Nat) (R : Res), δ[i]? = some (.rs R) → ∃ v, σ[i]? = some (some v) ∧ R.ok K v G H ∧ ∀ a, a ∈ R.fp → H0 a = none ∧ G a = none ∧ H a ≠ none
  dj : ∀ (i j : Nat) (a : Addr), Owns δ σ i a → Owns δ σ j a → i = j
  raw : ∀ (i : Nat) (v : V), δ[i]? = some (.raw v) → σ[i]? = some (some v)
section
variable {K : PySem.W.Frag} {G0 H0 G H G' H' : Hp} {σ : L2.St} {δ : List En}
theorem OkC.gh (o : OkC K G0 H0 G H σ δ) : Ex G H := o.mv.gh
theorem some_of_ne {H : Hp} {a : Addr} (h : H a ≠ none) : ∃ u, H a = some u := by
  cases q : H a with
  | none => exact absurd q h
  | some u => exact ⟨u, rfl⟩
/-- what is new is nobody's -/
theorem OkC.notOwn (o : OkC K G0 H0 G H σ δ) {p : Addr} (hp : H p = none) (j : Nat) : ¬ Owns δ σ j p := by
  rintro (⟨ds, h1, h2⟩ | ⟨R, h1, h2⟩)
  · obtain ⟨p', vs, q1, _, _, q4, _⟩ := o.ow j ds h1
    rw [h2] at q1; cases q1
    rw [hp] at q4; cases q4
  · obtain ⟨v, _, _, q⟩ := o.rs j R h1
    exact (q p h2).2.2 hp
theorem OkC.step (o : OkC K G0 H0 G H σ δ) (m : Mv G H G' H') : OkC K G0 H0 G' H' σ δ :=
  ⟨o.mv.trans m, o.len, fun i d h => by
    obtain ⟨v, h1, h2⟩ := o.sh i d h
    exact ⟨v, h1, dp_ex m.g h2⟩, fun i ds h => by
    obtain ⟨p, vs, h1, h2, h3, h4, h5⟩ := o.ow i ds h
    exact ⟨p, vs, h1, h2, (m.old p (by rw [h4]; intro z; cases z)).trans h3, m.h p _ h4, dpAll_ex m.g h5⟩, fun i R h => by
    obtain ⟨v, h1, h2, h3⟩ := o.rs i R h
    have e : ∀ a, a ∈ R.fp → H' a = H a := fun a ha => by
      obtain ⟨u, hu⟩ := some_of_ne (h3 a ha).2.2
      rw [hu]; exact m.h a u hu
    exact ⟨v, h1, R.mono h2 m.g e, fun a ha => ⟨(h3 a ha).1, (m.old a (h3 a ha).2.2).trans (h3 a ha).2.1, by rw [e a ha]; exact (h3 a ha).2.2⟩⟩, o.dj, o.raw⟩
theorem get_set {α : Type} {l : List α} {i j : Nat} {x y : α} (h : (l.set i x)[j]? = some y) : (i = j ∧ i < l.length ∧ x = y) ∨ (i ≠ j ∧ l[j]? = some y) := by
  by_cases c : i = j
  · subst c
    by_cases hl : i < l.length
    · rw [List.getElem?_set_self hl] at h
      exact .inl ⟨rfl, hl, Option.some.inj h⟩
    · rw [List.getElem?_eq_none (by rw [List.length_set]; omega)] at h; cases h
  · rw [List.getElem?_set_ne c] at h
    exact .inr ⟨c, h⟩
/-- what an entry says of its value -/
def EnOk (K : PySem.W.Frag) (H0 G H : Hp) (v : Option V) : En → Prop
  | .no => True
  | .sh d => ∃ u, v = some u ∧ Dp K G u d
  | .ow ds => ∃ p vs, v = some (.ref p) ∧ H0 p = none ∧ G p = none ∧ H p = some (.lst vs) ∧ DpAll K G vs ds
  | .raw u => v = some u
  | .rs R => ∃ u, v = some u ∧ R.ok K u G H ∧ ∀ a, a ∈ R.fp → H0 a = none ∧ G a = none ∧ H a ≠ none
/-- what an entry owns -/
def EnOwn (v : Option V) (a : Addr) : En → Prop
  | .ow _ => v = some (.ref a)
  | .rs R => a ∈ R.fp
  | _ => False
theorem owns_iff {σ : L2.St} {j : Nat} {a : Addr} (hl : σ.length = δ.length) : Owns δ σ j a ↔ ∃ e v, δ[j]? = some e ∧ σ[j]? = some v ∧ EnOwn v a e := by
  constructor
  · rintro (⟨ds, h1, h2⟩ | ⟨R, h1, h2⟩)
    · exact ⟨_, _, h1, h2, rfl⟩
    · have := (List.getElem?_eq_some_iff.mp h1).1
      exact ⟨_, _, h1, List.getElem?_eq_getElem (by omega), h2⟩
  · rintro ⟨e, v, h1, h2, h3⟩
    cases e with
    | no => exact h3.elim
    | sh d => exact h3.elim
    | raw u => exact h3.elim
    | ow ds => exact .inl ⟨ds, h1, by rw [h2]; exact congrArg some h3⟩
    | rs R => exact .inr ⟨R, h1, h3⟩
/-- a name gets an entry -/
theorem OkC.setG (o : OkC K G0 H0 G H σ δ) {i : Nat} {v : Option V} {e : En} (he : EnOk K H0 G H v e) (hd : ∀ a, EnOwn v a e → ∀ j, j ≠ i → ¬ Owns δ σ j a) : OkC K G0 H0 G H (σ.set i v) (δ.set i e) := by
  have hl := o.len
  have hl2 : (σ.set i v).length = (δ.set i e).length := by rw [List.length_set, List.length_set]; exact hl
  have ow1 : ∀ {j a}, Owns (δ.set i e) (σ.set i v) j a → (j = i ∧ EnOwn v a e) ∨ (j ≠ i ∧ Owns δ σ j a) := fun {j a} h => by
    obtain ⟨e1, v1, q1, q2, q3⟩ := (owns_iff hl2).mp h
    rcases get_set q1 with ⟨rfl, b, rfl⟩ | ⟨b, c1⟩
    · rcases get_set q2 with ⟨_, _, rfl⟩ | ⟨c, _⟩
      · exact .inl ⟨rfl, q3⟩
      · exact absurd rfl c
    · rcases get_set q2 with ⟨rfl, _, _⟩ | ⟨_, c2⟩
      · exact absurd rfl b
      · exact .inr ⟨fun z => b z.symm, (owns_iff hl).mpr ⟨e1, v1, c1, c2, q3⟩⟩
  refine ⟨o.mv, hl2, fun j d hj => ?_, fun j ds hj => ?_, fun j R hj => ?_, fun j k a h1 h2 => ?_, fun j u hj => ?_⟩
  · rcases get_set hj with ⟨rfl, q, rfl⟩ | ⟨q, e1⟩
    · obtain ⟨u, rfl, hu⟩ := he
      exact ⟨u, List.getElem?_set_self (by omega), hu⟩
    · obtain ⟨u, h1, h2⟩ := o.sh j d e1
      exact ⟨u, by rw [List.getElem?_set_ne q]; exact h1, h2⟩
  · rcases get_set hj with ⟨rfl, q, rfl⟩ | ⟨q, e1⟩
    · obtain ⟨p, vs, rfl, hu⟩ := he
      exact ⟨p, vs, List.getElem?_set_self (by omega), hu⟩
    · obtain ⟨p, vs, h1, h2⟩ := o.ow j ds e1
      exact ⟨p, vs, by rw [List.getElem?_set_ne q]; exact h1, h2⟩
  · rcases get_set hj with ⟨rfl, q, rfl⟩ | ⟨q, e1⟩
    · obtain ⟨u, rfl, hu⟩ := he
      exact ⟨u, List.getElem?_set_self (by omega), hu⟩
    · obtain ⟨u, h1, h2⟩ := o.rs j R e1
      exact ⟨u, by rw [List.getElem?_set_ne q]; exact h1, h2⟩
  · rcases ow1 h1 with ⟨rfl, a1⟩ | ⟨a1, b1⟩
    · rcases ow1 h2 with ⟨rfl, a2⟩ | ⟨a2, b2⟩
      · rfl
      · exact absurd b2 (hd a a1 k a2)
    · rcases ow1 h2 with ⟨rfl, a2⟩ | ⟨a2, b2⟩
      · exact absurd b1 (hd a a2 j a1)
      · exact o.dj j k a b1 b2
  · rcases get_set hj with ⟨rfl, q, rfl⟩ | ⟨q, e1⟩
    · obtain rfl : v = some u := he
      exact List.getElem?_set_self (by omega)
    · rw [List.getElem?_set_ne q]; exact o.raw j u e1
theorem OkC.setS (o : OkC K G0 H0 G H σ δ) {i : Nat} {v : V} {d : PyData} (h : Dp K G v d) : OkC K G0 H0 G H (σ.set i (some v)) (δ.set i (.sh d)) := o.setG ⟨v, rfl, h⟩ fun _ z => z.elim
/-- a name gets a value as it is -/
theorem OkC.setR (o : OkC K G0 H0 G H σ δ) {i : Nat} {v : V} : OkC K G0 H0 G H (σ.set i (some v)) (δ.set i (.raw v)) := o.setG (e := .raw v) rfl fun _ z => z.elim
/-- forgotten: whatever stands there -/
theorem OkC.setN (o : OkC K G0 H0 G H σ δ) {i : Nat} {v : Option V} : OkC K G0 H0 G H (σ.set i v) (δ.set i .no) := o.setG (e := .no) trivial fun _ z => z.elim
/-- a name gets a new list of its own -/
theorem OkC.setO (o : OkC K G0 H0 G H σ δ) {i : Nat} {p : Addr} {vs : List V} {ds : List PyData} (h0 : H0 p = none) (hg : G p = none) (hh : H p = some (.lst vs)) (hd : DpAll K G vs ds)
    (hf : ∀ j, j ≠ i → ¬ Owns δ σ j p) : OkC K G0 H0 G H (σ.set i (some (.ref p))) (δ.set i (.ow ds)) := o.setG (e := .ow ds) ⟨p, vs, rfl, h0, hg, hh, hd⟩ fun a z j hj => by
  have z : some (V.ref p) = some (.ref a) := z
  cases z; exact hf j hj
/-- a name gets a new part of the heap -/
theorem OkC.setRs (o : OkC K G0 H0 G H σ δ) {i : Nat} {v : V} {R : Res} (h : R.ok K v G H) (hp : ∀ a, a ∈ R.fp → H0 a = none ∧ G a = none ∧ H a ≠ none) (hf : ∀ a, a ∈ R.fp → ∀ j, j ≠ i → ¬ Owns δ σ j a) : OkC K G0 H0 G H (σ.set i (some v)) (δ.set i (.rs R)) :=
  o.setG (e := .rs R) ⟨v, rfl, h, hp⟩ fun a z j hj => hf a z j hj
/-- an entry changes where it stands -/
theorem owns_at {i : Nat} {e : En} {a : Addr} {j : Nat} (hl : σ.length = δ.length) (hs : ∀ v, σ[i]? = some v → EnOwn v a e → Owns δ σ i a) (h : Owns (δ.set i e) σ j a) : Owns δ σ j a := by
  obtain ⟨e1, v1, q1, q2, q3⟩ := (owns_iff (by rw [List.length_set]; exact hl)).mp h
  rcases get_set q1 with ⟨rfl, _, rfl⟩ | ⟨_, c1⟩
  · exact hs v1 q2 q3
  · exact (owns_iff hl).mpr ⟨e1, v1, c1, q2, q3⟩
/-- the list that a name owns changes -/
theorem OkC.mut (o : OkC K G0 H0 G H σ δ) {i : Nat} {p : Addr} {ws : List V} {ds es : List PyData} (hi : δ[i]? = some (.ow ds)) (hp : σ[i]? = some (some (.ref p))) (hd : DpAll K G ws es) :
    OkC K G0 H0 G (upd H p (.lst ws)) σ (δ.set i (.ow es)) := by
  obtain ⟨p', vs', q1, q2, q3, q4, q5⟩ := o.ow i ds hi
  rw [hp] at q1; cases q1
  have hl := o.len
  have hil : i < δ.length := (List.getElem?_eq_some_iff.mp hi).1
  have oi : Owns δ σ i p := .inl ⟨ds, hi, hp⟩
  have ne : ∀ a u, G a = some u → a ≠ p := fun a u h z => by rw [z, q3] at h; cases h
  have ow1 : ∀ {j a}, Owns (δ.set i (.ow es)) σ j a → Owns δ σ j a := owns_at hl fun v hv z => by
    have z : v = some (.ref _) := z
    exact .inl ⟨ds, hi, by rw [hv, z]⟩
  refine ⟨⟨o.mv.g, o.mv.h.mut q2, fun a u h => by rw [upd_ne (ne a u h)]; exact o.mv.gh a u h, o.mv.old⟩, by rw [List.length_set]; exact hl, fun j e hj => ?_, fun j es' hj => ?_, fun j R hj => ?_, fun j k a h1 h2 => o.dj j k a (ow1 h1) (ow1 h2), fun j u hj => ?_⟩
  · rcases get_set hj with ⟨rfl, q, e1⟩ | ⟨q, e1⟩
    · cases e1
    · exact o.sh j e e1
  · rcases get_set hj with ⟨rfl, q, e1⟩ | ⟨q, e1⟩
    · cases e1
      exact ⟨p, ws, hp, q2, q3, upd_same, hd⟩
    · obtain ⟨p', vs', h1, h2, h3, h4, h5⟩ := o.ow j es' e1
      have : p' ≠ p := fun z => by subst z; exact q (o.dj i j p' oi (.inl ⟨es', e1, h1⟩))
      exact ⟨p', vs', h1, h2, h3, by rw [upd_ne this]; exact h4, h5⟩
  · rcases get_set hj with ⟨rfl, q, e1⟩ | ⟨q, e1⟩
    · cases e1
    · obtain ⟨v, h1, h2, h3⟩ := o.rs j R e1
      have e : ∀ a, a ∈ R.fp → upd H p (.lst ws) a = H a := fun a ha => upd_ne fun z => q (by subst z; exact o.dj i j a oi (.inr ⟨R, e1, ha⟩))
      exact ⟨v, h1, R.mono h2 (Evl.Ex.refl G) e, fun a ha => ⟨(h3 a ha).1, (h3 a ha).2.1, by rw [e a ha]; exact (h3 a ha).2.2⟩⟩
  · rcases get_set hj with ⟨rfl, q, e1⟩ | ⟨q, e1⟩
    · cases e1
    · exact o.raw j u e1
/-- a part of the heap changes -/
theorem OkC.mutRs (o : OkC K G0 H0 G H σ δ) {i : Nat} {v : V} {R R' : Res} (hi : δ[i]? = some (.rs R)) (hv : σ[i]? = some (some v)) (hfp : R'.fp = R.fp) (hH : ∀ a, a ∉ R.fp → H' a = H a) (hn : ∀ a, a ∈ R.fp → H' a ≠ none) (hok : R'.ok K v G H') :
    OkC K G0 H0 G H' σ (δ.set i (.rs R')) := by
  obtain ⟨v', q1, q2, q3⟩ := o.rs i R hi
  have hl := o.len
  have hil : i < δ.length := (List.getElem?_eq_some_iff.mp hi).1
  have ng : ∀ a u, G a = some u → a ∉ R.fp := fun a u h z => by rw [(q3 a z).2.1] at h; cases h
  have nh : ∀ a u, H0 a = some u → a ∉ R.fp := fun a u h z => by rw [(q3 a z).1] at h; cases h
  have ow1 : ∀ {j a}, Owns (δ.set i (.rs R')) σ j a → Owns δ σ j a := owns_at hl fun u hu z => .inr ⟨R, hi, by rw [← hfp]; exact z⟩
  refine ⟨⟨o.mv.g, fun a u h => by rw [hH a (nh a u h)]; exact o.mv.h a u h, fun a u h => by rw [hH a (ng a u h)]; exact o.mv.gh a u h, o.mv.old⟩, by rw [List.length_set]; exact hl, fun j e hj => ?_, fun j es' hj => ?_, fun j R2 hj => ?_, fun j k a h1 h2 => o.dj j k a (ow1 h1) (ow1 h2), fun j u hj => ?_⟩
  · rcases get_set hj with ⟨rfl, q, e1⟩ | ⟨q, e1⟩
    · cases e1
    · exact o.sh j e e1
  · rcases get_set hj with ⟨rfl, q, e1⟩ | ⟨q, e1⟩
    · cases e1
    · obtain ⟨p', vs', h1, h2, h3, h4, h5⟩ := o.ow j es' e1
      have : p' ∉ R.fp := fun z => q (o.dj i j p' (.inr ⟨R, hi, z⟩) (.inl ⟨es', e1, h1⟩))
      exact ⟨p', vs', h1, h2, h3, by rw [hH p' this]; exact h4, h5⟩
  · rcases get_set hj with ⟨rfl, q, e1⟩ | ⟨q, e1⟩
    · cases e1
      exact ⟨v, hv, hok, fun a ha => by rw [hfp] at ha; exact ⟨(q3 a ha).1, (q3 a ha).2.1, hn a ha⟩⟩
    · obtain ⟨v2, h1, h2, h3⟩ := o.rs j R2 e1
      have e : ∀ a, a ∈ R2.fp → H' a = H a := fun a ha => hH a fun z => q (o.dj i j a (.inr ⟨R, hi, z⟩) (.inr ⟨R2, e1, ha⟩))
      exact ⟨v2, h1, R2.mono h2 (Evl.Ex.refl G) e, fun a ha => ⟨(h3 a ha).1, (h3 a ha).2.1, by rw [e a ha]; exact (h3 a ha).2.2⟩⟩
  · rcases get_set hj with ⟨rfl, q, e1⟩ | ⟨q, e1⟩
    · cases e1
    · exact o.raw j u e1
/-- a list of its own becomes a shared one -/
theorem OkC.frz (o : OkC K G0 H0 G H σ δ) {i : Nat} {ds : List PyData} (hi : δ[i]? = some (.ow ds)) : ∃ G', Ex G G' ∧ OkC K G0 H0 G' H σ (δ.set i (.sh (.list ds))) := by
  obtain ⟨p, vs, q1, q2, q3, q4, q5⟩ := o.ow i ds hi
  have hl := o.len
  have oi : Owns δ σ i p := .inl ⟨ds, hi, q1⟩
  have eg : Ex G (upd G p (.lst vs)) := Evl.Ex.new q3
  have hil : i < δ.length := (List.getElem?_eq_some_iff.mp hi).1
  have ow1 : ∀ {j a}, Owns (δ.set i (.sh (.list ds))) σ j a → Owns δ σ j a := owns_at hl fun v hv z => z.elim
  refine ⟨upd G p (.lst vs), eg, ⟨⟨o.mv.g.trans eg, o.mv.h, fun a u h => ?_, fun a ha => ?_⟩, by rw [List.length_set]; exact hl, fun j e hj => ?_, fun j es' hj => ?_, fun j R hj => ?_, fun j k a h1 h2 => o.dj j k a (ow1 h1) (ow1 h2), fun j u hj => ?_⟩⟩
  · by_cases c : a = p
    · subst c; rw [upd_same] at h; rw [q4]; exact h
    · rw [upd_ne c] at h; exact o.mv.gh a u h
  · rw [upd_ne (fun z => ha (by rw [z]; exact q2))]; exact o.mv.old a ha
  · rcases get_set hj with ⟨rfl, q, e1⟩ | ⟨q, e1⟩
    · cases e1
      exact ⟨.ref p, q1, .lst (SqL.of upd_same) (dpAll_ex eg q5)⟩
    · obtain ⟨u, h1, h2⟩ := o.sh j e e1
      exact ⟨u, h1, dp_ex eg h2⟩
  · rcases get_set hj with ⟨rfl, q, e1⟩ | ⟨q, e1⟩
    · cases e1
    · obtain ⟨p', vs', h1, h2, h3, h4, h5⟩ := o.ow j es' e1
      have : p' ≠ p := fun z => by subst z; exact q (o.dj i j p' oi (.inl ⟨es', e1, h1⟩))
      exact ⟨p', vs', h1, h2, by rw [upd_ne this]; exact h3, h4, dpAll_ex eg h5⟩
  · rcases get_set hj with ⟨rfl, q, e1⟩ | ⟨q, e1⟩
    · cases e1
    · obtain ⟨v, h1, h2, h3⟩ := o.rs j R e1
      exact ⟨v, h1, R.mono h2 eg fun _ _ => rfl, fun a ha => ⟨(h3 a ha).1, by rw [upd_ne fun z => q (by subst z; exact o.dj i j a oi (.inr ⟨R, e1, ha⟩))]; exact (h3 a ha).2.1, (h3 a ha).2.2⟩⟩
  · rcases get_set hj with ⟨rfl, q, e1⟩ | ⟨q, e1⟩
    · cases e1
    · exact o.raw j u e1
/-- what is shared, and a part of the heap besides -/
noncomputable def glue (G H : Hp) (fp : List Addr) : Hp := fun a => if a ∈ fp then H a else G a
/-- a part of the heap becomes shared -/
theorem OkC.frzRs (o : OkC K G0 H0 G H σ δ) {i : Nat} {R : Res} (hi : δ[i]? = some (.rs R)) {d : PyData} (hd : ∀ v, R.ok K v G H → Dp K (glue G H R.fp) v d) : ∃ G', Ex G G' ∧ OkC K G0 H0 G' H σ (δ.set i (.sh d)) := by
  obtain ⟨v, q1, q2, q3⟩ := o.rs i R hi
  have hl := o.len
  have hil : i < δ.length := (List.getElem?_eq_some_iff.mp hi).1
  have gi : ∀ a, a ∈ R.fp → glue G H R.fp a = H a := fun a h => if_pos h
  have gn : ∀ a, a ∉ R.fp → glue G H R.fp a = G a := fun a h => if_neg h
  have eg : Ex G (glue G H R.fp) := fun a u h => by
    rw [gn a fun z => by rw [(q3 a z).2.1] at h; cases h]; exact h
  have ow1 : ∀ {j a}, Owns (δ.set i (.sh d)) σ j a → Owns δ σ j a := owns_at hl fun v hv z => z.elim
  refine ⟨glue G H R.fp, eg, ⟨⟨o.mv.g.trans eg, o.mv.h, fun a u h => ?_, fun a ha => ?_⟩, by rw [List.length_set]; exact hl, fun j e hj => ?_, fun j es' hj => ?_, fun j R2 hj => ?_, fun j k a h1 h2 => o.dj j k a (ow1 h1) (ow1 h2), fun j u hj => ?_⟩⟩
  · by_cases c : a ∈ R.fp
    · rw [gi a c] at h; exact h
    · rw [gn a c] at h; exact o.mv.gh a u h
  · rw [gn a fun z => ha (q3 a z).1]; exact o.mv.old a ha
  · rcases get_set hj with ⟨rfl, q, e1⟩ | ⟨q, e1⟩
    · cases e1
      exact ⟨v, q1, hd v q2⟩
    · obtain ⟨u, h1, h2⟩ := o.sh j e e1
      exact ⟨u, h1, dp_ex eg h2⟩
  · rcases get_set hj with ⟨rfl, q, e1⟩ | ⟨q, e1⟩
    · cases e1
    · obtain ⟨p', vs', h1, h2, h3, h4, h5⟩ := o.ow j es' e1
      have : p' ∉ R.fp := fun z => q (o.dj i j p' (.inr ⟨R, hi, z⟩) (.inl ⟨es', e1, h1⟩))
      exact ⟨p', vs', h1, h2, by rw [gn p' this]; exact h3, h4, dpAll_ex eg h5⟩
  · rcases get_set hj with ⟨rfl, q, e1⟩ | ⟨q, e1⟩
    · cases e1
    · obtain ⟨v2, h1, h2, h3⟩ := o.rs j R2 e1
      exact ⟨v2, h1, R2.mono h2 eg fun _ _ => rfl, fun a ha => ⟨(h3 a ha).1, by rw [gn a fun z => q (o.dj i j a (.inr ⟨R, hi, z⟩) (.inr ⟨R2, e1, ha⟩))]; exact (h3 a ha).2.1, (h3 a ha).2.2⟩⟩
  · rcases get_set hj with ⟨rfl, q, e1⟩ | ⟨q, e1⟩
    · cases e1
    · exact o.raw j u e1
end
/-- the written part; what is wished of exceptions, by the slots; which may come, from which state -/
structure Ek where
  K : PySem.W.Frag
  W : WX
  xc : XD → List En → Prop
structure Ok (K : Ek) (G0 H0 G H : Hp) (σ : L2.St) (δ : List En) : Prop extends OkC K.K G0 H0 G H σ δ where
  xk : ∀ x δ' σ' G' H', K.xc x δ' → OkC K.K G0 H0 G' H' σ' δ' → EOk K.K (fun cls d H => K.W cls d σ' H) G' H' x
section
variable {K : Ek} {G0 H0 G H G' H' : Hp} {σ σ' : L2.St} {δ δ' : List En}
theorem Ok.gh (o : Ok K G0 H0 G H σ δ) : Ex G H := o.mv.gh
theorem Ok.to (o : Ok K G0 H0 G H σ δ) (c : OkC K.K G0 H0 G' H' σ' δ') : Ok K G0 H0 G' H' σ' δ' := ⟨c, o.xk⟩
theorem Ok.step (o : Ok K G0 H0 G H σ δ) (m : Mv G H G' H') : Ok K G0 H0 G' H' σ δ := ⟨o.toOkC.step m, o.xk⟩
end
end Dy

set_option Elab.async false
set_option linter.all false
set_option maxRecDepth 100000
set_option maxHeartbeats 2000000
namespace Dy
open PySem L2 PySem.Spec PyProof.Rows
open Evl (Ex ex_l ex_t fresh_back sz_of sz_lt)

/-! ### where one stands -/
structure Ctx where
  P : Program
  w : World
  K : PySem.W.Frag
  mg : Str → Option Value
  base : Heap
  N : List Str
  sc : Scope
  k : Nat
  W : WX
  xc : XD → List En → Prop
  calm : Bool
  fn : Bool
  su : Option (Addr × Value × Option Addr)
abbrev Ctx.ek (c : Ctx) : Ek := ⟨c.K, c.W, c.xc⟩
structure Fits (c : Ctx) (X : Cx) : Prop where
  p : X.prog = c.P
  w : X.w = c.w
  K : X.K = c.K
  mg : X.mg = c.mg
  base : X.base = c.base
  N : X.N = c.N
  sc : X.env.scope = c.sc
  calm : X.calm = c.calm
  room : c.calm = true → Room c.k X.A
  take : Takes X c.W
  fn : c.fn = true → ∀ x, X.fn x = true
  nd : c.N.Nodup
  su : ∀ a cls d, c.su = some (a, cls, d) → ∃ (X0 : Cx) (oe : Obj) (pn : List (Addr × Obj)), X = X0.suite a ((a, oe) :: pn) ∧ Zc cls d oe ∧ ∃ vs, oe.data = .fields vs
structure FitsS (c : Ctx) (X : Cx) : Prop extends Fits c X where
  own : c.calm = true → PassesOwn (model X.prog X.w) X.A X.env X.xe
  stk : c.calm = true → X.stack = X.env :: X.outer ∧ X.env.frame = some X.env.locals

/-! ### readings -/
def EvS (K : Ek) (te : TE) (δ : List En) (S : PyData → Prop) : Prop :=
  ∀ G0 H0 G H σ, Ok K G0 H0 G H σ δ → ∀ Q : VK, (∀ d v G' H', S d → Mv G H G' H' → Dp K.K G' v d → Q v H') → te σ H Q
def EvP (K : Ek) (te : TE) (δ : List En) (d : PyData) : Prop :=
  ∀ G0 H0 G H σ, Ok K G0 H0 G H σ δ → ∀ Q : VK, (∀ v G' H', Mv G H G' H' → Dp K.K H' v d → Q v H') → te σ H Q
def EvO (K : Ek) (te : TE) (δ : List En) (ds : List PyData) : Prop :=
  ∀ G0 H0 G H σ, Ok K G0 H0 G H σ δ → ∀ Q : VK, (∀ p vs G' H', Mv G H G' H' → H p = none → G' p = none → H' p = some (.lst vs) → DpAll K.K G' vs ds → Q (.ref p) H') → te σ H Q
def TvD (tt : TT) (K : Ek) (δ : List En) (b : Bool) : Prop :=
  ∀ G0 H0 G H σ, Ok K G0 H0 G H σ δ → ∀ Q : Bool → Hp → Prop, (∀ G' H', Mv G H G' H' → Q b H') → tt σ H Q
def AvD (K : Ek) (ta : TA) (δ : List En) (ds : List PyData) : Prop :=
  ∀ G0 H0 G H σ, Ok K G0 H0 G H σ δ → ∀ Q : List V → Hp → Prop, (∀ vs G' H', Mv G H G' H' → DpAll K.K G' vs ds → Q vs H') → ta σ H Q
/-- arguments, peeked at -/
def AvP (K : Ek) (ta : TA) (δ : List En) (ds : List PyData) : Prop :=
  ∀ G0 H0 G H σ, Ok K G0 H0 G H σ δ → ∀ Q : List V → Hp → Prop, (∀ vs G' H', Mv G H G' H' → DpAll K.K H' vs ds → Q vs H') → ta σ H Q

/-! ### the best reading of a piece of syntax -/
def tE (c : Ctx) (e : Expr) : TE := fun σ H Q => ∃ t, (∀ X, Fits c X → PE X e t) ∧ t σ H Q
def tT (c : Ctx) (e : Expr) : TT := fun σ H Q => ∃ t, (∀ X, Fits c X → PT X e t) ∧ t σ H Q
def tW (c : Ctx) (e : Expr) : TT := fun σ H Q => ∃ t, (∀ X, Fits c X → PW X e t) ∧ t σ H Q
def tA (c : Ctx) (es : List Expr) : TA := fun σ H Q => ∃ t, (∀ X, Fits c X → PA X es t) ∧ t σ H Q
section
variable {c : Ctx} {X : Cx}
theorem pe_tE {e : Expr} (h : Fits c X) : PE X e (tE c e) := ⟨fun pins s σ H Q I ⟨t, a, q⟩ => (a X h).run pins s σ H Q I q⟩
theorem pt_tT {e : Expr} (h : Fits c X) : PT X e (tT c e) := ⟨fun pins s σ H Q I ⟨t, a, q⟩ => (a X h).run pins s σ H Q I q⟩
theorem pw_tW {e : Expr} (h : Fits c X) : PW X e (tW c e) := ⟨fun wh pins s σ H Q I ⟨t, a, q⟩ => (a X h).run wh pins s σ H Q I q⟩
theorem pa_tA {es : List Expr} (h : Fits c X) : PA X es (tA c es) := ⟨fun pos pins s σ H Q I ⟨t, a, q⟩ => (a X h).run pos pins s σ H Q I q⟩
end
def ES (c : Ctx) (e : Expr) (δ : List En) (S : PyData → Prop) : Prop := EvS c.ek (tE c e) δ S
abbrev EX (c : Ctx) (e : Expr) (δ : List En) (d : PyData) : Prop := ES c e δ (· = d)
def PX (c : Ctx) (e : Expr) (δ : List En) (d : PyData) : Prop := EvP c.ek (tE c e) δ d
def OX (c : Ctx) (e : Expr) (δ : List En) (ds : List PyData) : Prop := EvO c.ek (tE c e) δ ds
def TX (c : Ctx) (e : Expr) (δ : List En) (b : Bool) : Prop := TvD (tT c e) c.ek δ b
def WX (c : Ctx) (e : Expr) (δ : List En) (b : Bool) : Prop := TvD (tW c e) c.ek δ b
def AX (c : Ctx) (es : List Expr) (δ : List En) (ds : List PyData) : Prop := AvD c.ek (tA c es) δ ds
def AP (c : Ctx) (es : List Expr) (δ : List En) (ds : List PyData) : Prop := AvP c.ek (tA c es) δ ds

section
variable {c : Ctx} {e a b : Expr} {es : List Expr} {δ : List En} {d d1 d2 : PyData} {ds : List PyData} {pos : Pos} {x : Str} {S : PyData → Prop}
theorem ES.mk {t : TE} (h : ∀ X, Fits c X → PE X e t) (q : EvS c.ek t δ S) : ES c e δ S := fun G0 H0 G H σ o Q k => ⟨t, h, q G0 H0 G H σ o Q k⟩
theorem EX.mk {t : TE} (h : ∀ X, Fits c X → PE X e t) (q : EvS c.ek t δ (· = d)) : EX c e δ d := ES.mk h q
theorem PX.mk {t : TE} (h : ∀ X, Fits c X → PE X e t) (q : EvP c.ek t δ d) : PX c e δ d := fun G0 H0 G H σ o Q k => ⟨t, h, q G0 H0 G H σ o Q k⟩
theorem OX.mk {t : TE} (h : ∀ X, Fits c X → PE X e t) (q : EvO c.ek t δ ds) : OX c e δ ds := fun G0 H0 G H σ o Q k => ⟨t, h, q G0 H0 G H σ o Q k⟩
theorem TX.mk {t : TT} {b : Bool} (h : ∀ X, Fits c X → PT X e t) (q : TvD t c.ek δ b) : TX c e δ b := fun G0 H0 G H σ o Q k => ⟨t, h, q G0 H0 G H σ o Q k⟩
theorem WX.mk {t : TT} {b : Bool} (h : ∀ X, Fits c X → PW X e t) (q : TvD t c.ek δ b) : WX c e δ b := fun G0 H0 G H σ o Q k => ⟨t, h, q G0 H0 G H σ o Q k⟩
theorem AX.mk {t : TA} (h : ∀ X, Fits c X → PA X es t) (q : AvD c.ek t δ ds) : AX c es δ ds := fun G0 H0 G H σ o Q k => ⟨t, h, q G0 H0 G H σ o Q k⟩
theorem AP.mk {t : TA} (h : ∀ X, Fits c X → PA X es t) (q : AvP c.ek t δ ds) : AP c es δ ds := fun G0 H0 G H σ o Q k => ⟨t, h, q G0 H0 G H σ o Q k⟩
theorem WX.tx {b : Bool} (h : WX c e δ b) : TX c e δ b := TX.mk (t := tW c e) (fun X f => (pw_tW f).pt) h
theorem EX.px (h : EX c e δ d) : PX c e δ d := fun G0 H0 G H σ o Q k => h G0 H0 G H σ o Q fun d' v G' H' e1 m dv => k v G' H' m (by subst e1; exact dp_ex m.gh dv)
theorem PX.flat (h : PX c e δ d) (f : flat d = true) : EX c e δ d := fun G0 H0 G H σ o Q k => h G0 H0 G H σ o Q fun v G' H' m dv => k d v G' H' rfl m (dp_flat dv f)
theorem OX.px (h : OX c e δ ds) : PX c e δ (.list ds) := fun G0 H0 G H σ o Q k => h G0 H0 G H σ o Q fun p vs G' H' m hp gp hh dv => k _ G' H' m (.lst (SqL.of hh) (dpAll_ex m.gh dv))
theorem OX.ex (h : OX c e δ ds) : EX c e δ (.list ds) := fun G0 H0 G H σ o Q k => h G0 H0 G H σ o Q fun p vs G' H' m hp gp hh dv => by
  have eg : Ex G' (upd G' p (.lst vs)) := Evl.Ex.new gp
  refine k _ _ (upd G' p (.lst vs)) H' rfl ⟨m.g.trans eg, m.h, fun a u q => ?_, fun q hq => ?_⟩ (.lst (SqL.of upd_same) (dpAll_ex eg dv))
  · by_cases z : a = p
    · subst z; rw [upd_same] at q; rw [hh]; exact q
    · rw [upd_ne z] at q; exact m.gh a u q
  · rw [upd_ne (fun z => hq (by rw [z]; exact hp))]; exact m.old q hq
theorem EX.is (h : EX c e δ d1) (q : d1 = d2) : EX c e δ d2 := q ▸ h
theorem PX.is (h : PX c e δ d1) (q : d1 = d2) : PX c e δ d2 := q ▸ h
theorem OX.is {es' : List PyData} (h : OX c e δ ds) (q : ds = es') : OX c e δ es' := q ▸ h
theorem TX.is {b1 b2 : Bool} (h : TX c e δ b1) (q : b1 = b2) : TX c e δ b2 := q ▸ h
theorem EX.toS (h : EX c e δ d) (q : S d) : ES c e δ S := fun G0 H0 G H σ o Q k => h G0 H0 G H σ o Q fun d' v G' H' e1 m dv => by subst e1; exact k _ v G' H' q m dv

/-! ### names and constants -/
theorem e_var {i : Nat} (hN : c.N[i]? = some x) (hv : Vis c.sc x) (hδ : δ[i]? = some (.sh d)) (hd : (x == ("__debug__" : Str)) = false := by decide) (hcd : (x == ("__classdict__" : Str)) = false := by decide) : EX c (.Name x pos) δ d :=
  EX.mk (t := tVar i) (fun X f => pe_var (by rw [f.N]; exact hN) (by rw [f.sc]; exact hv) hd hcd) fun G0 H0 G H σ o Q k => by
    obtain ⟨v, h1, h2⟩ := o.sh i d hδ
    exact ⟨v, h1, k d v G H rfl (.refl o.gh) h2⟩
/-- peeking at a list of one's own -/
theorem p_var {i : Nat} (hN : c.N[i]? = some x) (hv : Vis c.sc x) (hδ : δ[i]? = some (.ow ds)) (hd : (x == ("__debug__" : Str)) = false := by decide) (hcd : (x == ("__classdict__" : Str)) = false := by decide) : PX c (.Name x pos) δ (.list ds) :=
  PX.mk (t := tVar i) (fun X f => pe_var (by rw [f.N]; exact hN) (by rw [f.sc]; exact hv) hd hcd) fun G0 H0 G H σ o Q k => by
    obtain ⟨p, vs, h1, h2, h3, h4, h5⟩ := o.ow i ds hδ
    exact ⟨.ref p, h1, k _ G H (.refl o.gh) (.lst (SqL.of h4) (dpAll_ex o.gh h5))⟩
theorem ev_c {K : Ek} {v : V} {d : PyData} (h : ∀ H, Dp K.K H v d) : EvS K (tC v) δ (· = d) := fun G0 H0 G H σ o Q k => k d v G H rfl (.refl o.gh) (h G)
theorem e_int {i : Int} {j} : EX c (.Constant (.int i) j pos) δ (.int i) := EX.mk (fun X f => pe_int) (ev_c fun _ => .int i)
theorem e_bool {i : Bool} {j} : EX c (.Constant (.bool i) j pos) δ (.bool i) := EX.mk (fun X f => pe_bl) (ev_c fun _ => .bl i)
theorem e_none {j} : EX c (.Constant .none j pos) δ .none := EX.mk (fun X f => pe_non) (ev_c fun _ => .non)
theorem e_str {i : Str} {j} : EX c (.Constant (.str i) j pos) δ (.str i) := EX.mk (fun X f => pe_str) (ev_c fun _ => .str i)
theorem gl_of {X : Cx} (f : Fits c X) (h : c.sc.names.lookup x = some .globalImplicit) : Gl X x := by
  show X.env.scope.names.lookup x = _
  rw [f.sc]; exact h
/-- a module's constant -/
theorem e_glob {v : V} {u : Value} (hg : c.sc.names.lookup x = some .globalImplicit) (hm : c.mg x = some u) (r : RelV v u) (hv : ∀ H, Dp c.K H v d) (hd : (x == ("__debug__" : Str)) = false := by decide) : EX c (.Name x pos) δ d :=
  EX.mk (fun X f => pe_glob (gl_of f hg) (by rw [f.mg]; exact hm) r hd) (ev_c hv)

/-! ### arguments -/
theorem a_nil : AX c [] δ [] := AX.mk (fun X f => pa_nil) fun G0 H0 G H σ o Q k => k [] G H (.refl o.gh) .nil
theorem a_cons (h : EX c e δ d) (hr : AX c es δ ds) (hs : ∀ env, starEach (e :: es) env = (false, eval e env) :: starEach es env := by intro _; with_unfolding_all rfl) : AX c (e :: es) δ (d :: ds) :=
  AX.mk (t := tCons (tE c e) (tA c es)) (fun X f => pa_cons (pe_tE f) (pa_tA f) (hs _)) fun G0 H0 G H σ o Q k =>
    h G0 H0 G H σ o _ fun d' v G1 H1 e1 m1 dv => hr G0 H0 G1 H1 σ (o.step m1) _ fun vs G2 H2 m2 dvs => k _ G2 H2 (m1.trans m2) (by subst e1; exact .cons (dp_ex m2.g dv) dvs)
theorem ap_nil : AP c [] δ [] := AP.mk (fun X f => pa_nil) fun G0 H0 G H σ o Q k => k [] G H (.refl o.gh) .nil
theorem ap_cons (h : PX c e δ d) (hr : AP c es δ ds) (hs : ∀ env, starEach (e :: es) env = (false, eval e env) :: starEach es env := by intro _; with_unfolding_all rfl) : AP c (e :: es) δ (d :: ds) :=
  AP.mk (t := tCons (tE c e) (tA c es)) (fun X f => pa_cons (pe_tE f) (pa_tA f) (hs _)) fun G0 H0 G H σ o Q k =>
    h G0 H0 G H σ o _ fun v G1 H1 m1 dv => hr G0 H0 G1 H1 σ (o.step m1) _ fun vs G2 H2 m2 dvs => k _ G2 H2 (m1.trans m2) (.cons (dp_ex m2.h dv) dvs)
theorem e_tup {x1} (h : AX c es δ ds) (hl : ds.length ≤ 100000) : EX c (.Tuple es x1 pos) δ (.tuple ds) :=
  EX.mk (t := tTup (tA c es)) (fun X f => pe_tup (pa_tA f)) fun G0 H0 G H σ o Q k =>
    h G0 H0 G H σ o _ fun vs G1 H1 m dv => ⟨sz_of (by rw [dpAll_len dv]; exact hl), fun p hp => by
      have n := Mv.new (o := .tup vs) m.gh hp
      exact k _ _ _ _ rfl (m.trans n) (.tup (SqT.of upd_same) (dpAll_ex n.g dv))⟩
theorem o_lst (h : AX c es δ ds) (hl : ds.length ≤ 100000) : OX c (.List es pos) δ ds :=
  OX.mk (t := tLst (tA c es)) (fun X f => pe_lst (pa_tA f)) fun G0 H0 G H σ o Q k =>
    h G0 H0 G H σ o _ fun vs G1 H1 m dv => ⟨sz_of (by rw [dpAll_len dv]; exact hl), fun p hp =>
      k p vs G1 _ (m.trans (Mv.own m.gh hp)) (fresh_back m.h hp) (fresh_back m.gh hp) upd_same dv⟩

/-! ### operators -/
/-- of shared data -/
def BinS (c : Ctx) (op : Operator) (d1 d2 : PyData) (d : PyData) : Prop :=
  ∃ r : R2, (∀ X, Fits c X → OpR X (binaryOp op) r) ∧ ∀ G H x y (Q : VK), Ex G H → Dp c.K G x d1 → Dp c.K G y d2 → (∀ v G' H', Mv G H G' H' → Dp c.K G' v d → Q v H') → r x y H Q
theorem e_bin {op : Operator} (h1 : EX c a δ d1) (h2 : EX c b δ d2) (h : BinS c op d1 d2 d) : EX c (.BinOp a op b pos) δ d := by
  obtain ⟨r, ho, hr⟩ := h
  refine EX.mk (t := tOp r (tE c a) (tE c b)) (fun X f => pe_op (ho X f) (pe_tE f) (pe_tE f)) fun G0 H0 G H σ o Q k => ?_
  refine h1 G0 H0 G H σ o _ fun d1' v1 G1 H1 e1 m1 dv1 => h2 G0 H0 G1 H1 σ (o.step m1) _ fun d2' v2 G2 H2 e2 m2 dv2 => ?_
  subst e1; subst e2
  exact hr G2 H2 v1 v2 Q m2.gh (dp_ex m2.g dv1) dv2 fun v G' H' m dv => k _ v G' H' rfl ((m1.trans m2).trans m) dv
section
variable {i j : Int}
theorem binI {op : Operator} {g : Int → Int → Int} {C : Int → Int → Prop} (ho : ∀ X : Cx, OpR X (binaryOp op) (rI C fun i j => .int (g i j))) (hc : C i j) : BinS c op (.int i) (.int j) (.int (g i j)) :=
  ⟨_, fun X _ => ho X, fun G H x y Q e h1 h2 k => ⟨i, j, dp_int h1, dp_int h2, hc, k _ G H (.refl e) (.int _)⟩⟩
theorem binI0 {op : Operator} {g : Int → Int → Int} (ho : ∀ X : Cx, OpR X (binaryOp op) (rI0 fun i j => .int (g i j))) : BinS c op (.int i) (.int j) (.int (g i j)) :=
  ⟨_, fun X _ => ho X, fun G H x y Q e h1 h2 k => ⟨i, j, dp_int h1, dp_int h2, k _ G H (.refl e) (.int _)⟩⟩
theorem b_add : BinS c .Add (.int i) (.int j) (.int (i + j)) := binI0 (g := fun i j => i + j) fun X => op_add
theorem b_sub : BinS c .Sub (.int i) (.int j) (.int (i - j)) := binI0 (g := fun i j => i - j) fun X => op_sub
theorem b_mul (h : CMul i j) : BinS c .Mult (.int i) (.int j) (.int (i * j)) := binI (g := fun i j => i * j) (fun X => op_mul) h
theorem b_fdiv (h : CDiv i j) : BinS c .FloorDiv (.int i) (.int j) (.int (i / j)) := binI (g := fun i j => i / j) (fun X => op_fdiv) h
theorem b_mod (h : 0 < j) : BinS c .Mod (.int i) (.int j) (.int (i % j)) := binI (g := fun i j => i % j) (fun X => op_mod) h
theorem b_pow (h : CPow i j) : BinS c .Pow (.int i) (.int j) (.int (i ^ j.toNat)) := binI (g := fun i j => i ^ j.toNat) (fun X => op_pow) h
end
theorem e_neg {i : Int} (h : EX c a δ (.int i)) : EX c (.UnaryOp .USub a pos) δ (.int (-i)) :=
  EX.mk (t := tUn (rU fun i => .int (-i)) (tE c a)) (fun X f => pe_un un_neg (pe_tE f)) fun G0 H0 G H σ o Q k =>
    h G0 H0 G H σ o _ fun d v G1 H1 e1 m1 dv => by subst e1; exact ⟨i, dp_int dv, k _ _ G1 H1 rfl m1 (.int _)⟩
/-- tuple + tuple -/
theorem b_catT {xs ys : List PyData} (hl : xs.length + ys.length ≤ 100000) : BinS c .Add (.tuple xs) (.tuple ys) (.tuple (xs ++ ys)) := by
  refine ⟨rCatA c.K, fun X f => by rw [← f.K]; exact op_catA, fun G H x y Q e h1 h2 k => ?_⟩
  obtain ⟨a, vs, rfl, s1, q1⟩ := dp_tuple h1
  obtain ⟨b, ws, rfl, s2, q2⟩ := dp_tuple h2
  have l1 := dpAll_len q1
  have l2 := dpAll_len q2
  refine ⟨a, b, vs, ws, rfl, rfl, ex_t e s1, ex_t e s2, sz_of (by omega), ?_⟩
  have em := e
  refine ⟨fun cx => ?_, fun cx cy => ?_, fun cx cy p hp => ?_⟩
  · subst cx
    cases q1
    exact k _ G H (.refl e) (.tup s2 q2)
  · subst cy
    cases q2
    rw [List.append_nil] at k
    exact k _ G H (.refl e) (.tup s1 q1)
  · have n := Mv.new (o := .tup (vs ++ ws)) e hp
    exact k _ _ _ n (.tup (SqT.of upd_same) (dpAll_ex n.g (dpAll_app q1 q2)))
/-- list + list: a new list; the parts are tracked lists -/
def LstT (K : PySem.W.Frag) (H : Hp) (x : V) (ds : List PyData) : Prop := ∃ a xs, x = .ref a ∧ H a = some (.lst xs) ∧ DpAll K H xs ds

/-! ### subscripts -/
theorem ix_of {α β : Type} {xs : List α} {ys : List β} (hl : xs.length = ys.length) {i : Int} {y : β} (h : atI ys i = some y) : ∃ j, ixN xs.length i = some j ∧ ys[j]? = some y := by
  unfold atI at h
  rw [← hl] at h
  cases q : ixN xs.length i with
  | none => rw [q] at h; cases h
  | some j => rw [q] at h; exact ⟨j, rfl, h⟩
theorem dp_at {K : PySem.W.Frag} {H : Hp} {vs : List V} {ds : List PyData} {i : Int} {d : PyData} (h : DpAll K H vs ds) (q : atI ds i = some d) : ∃ v, atI vs i = some v ∧ Dp K H v d := by
  obtain ⟨j, h1, h2⟩ := ix_of (dpAll_len h) q
  obtain ⟨v, h3, h4⟩ := dpAll_get h h2
  exact ⟨v, by unfold atI; rw [h1]; exact h3, h4⟩
def PlIx (b : Expr) : Prop := ∀ o i, subscripted b false o i = operate [o, i] (getItem o i)
theorem e_ixT {i : Int} (h1 : EX c a δ (.tuple ds)) (h2 : EX c b δ (.int i)) (h : atI ds i = some d) (hs : PlIx b := by with_unfolding_all exact fun _ _ => rfl) : EX c (.Subscript a b pos) δ d :=
  EX.mk (t := tOp (rIxT c.K) (tE c a) (tE c b)) (fun X f => pe_ix (by rw [← f.K]; exact ix_tup) (pe_tE f) (pe_tE f) hs) fun G0 H0 G H σ o Q k =>
    h1 G0 H0 G H σ o _ fun d1' v1 G1 H1 e1 m1 dv1 => h2 G0 H0 G1 H1 σ (o.step m1) _ fun d2' v2 G2 H2 e2 m2 dv2 => by
      subst e1; subst e2
      obtain ⟨a, vs, rfl, s1, q1⟩ := dp_tuple (dp_ex m2.g dv1)
      obtain ⟨v, hv, dv⟩ := dp_at q1 h
      exact ⟨a, vs, i, v, rfl, dp_int dv2, ex_t m2.gh s1, hv, k _ v G2 H2 rfl (m1.trans m2) dv⟩
theorem e_ixL {i : Int} (h1 : EX c a δ (.list ds)) (h2 : EX c b δ (.int i)) (h : atI ds i = some d) (hs : PlIx b := by with_unfolding_all exact fun _ _ => rfl) : EX c (.Subscript a b pos) δ d :=
  EX.mk (t := tOp (rIxL c.K) (tE c a) (tE c b)) (fun X f => pe_ix (by rw [← f.K]; exact ix_list) (pe_tE f) (pe_tE f) hs) fun G0 H0 G H σ o Q k =>
    h1 G0 H0 G H σ o _ fun d1' v1 G1 H1 e1 m1 dv1 => h2 G0 H0 G1 H1 σ (o.step m1) _ fun d2' v2 G2 H2 e2 m2 dv2 => by
      subst e1; subst e2
      obtain ⟨a, vs, rfl, s1, q1⟩ := dp_list (dp_ex m2.g dv1)
      obtain ⟨v, hv, dv⟩ := dp_at q1 h
      exact ⟨a, vs, i, v, rfl, dp_int dv2, ex_l m2.gh s1, hv, k _ v G2 H2 rfl (m1.trans m2) dv⟩
/-- an item of a list of one's own -/
theorem e_ixO {i : Int} {n : Nat} {p1 : Pos} (hN : c.N[n]? = some x) (hv : Vis c.sc x) (hδ : δ[n]? = some (.ow ds)) (h2 : EX c b δ (.int i)) (h : atI ds i = some d) (hs : PlIx b := by with_unfolding_all exact fun _ _ => rfl)
    (hd : (x == ("__debug__" : Str)) = false := by decide) (hcd : (x == ("__classdict__" : Str)) = false := by decide) : EX c (.Subscript (.Name x p1) b pos) δ d :=
  EX.mk (t := tOp (rIxL c.K) (tVar n) (tE c b)) (fun X f => pe_ix (by rw [← f.K]; exact ix_list) (pe_var (by rw [f.N]; exact hN) (by rw [f.sc]; exact hv) hd hcd) (pe_tE f) hs) fun G0 H0 G H σ o Q k => by
    obtain ⟨p, vs, q1, q2, q3, q4, q5⟩ := o.ow n ds hδ
    refine ⟨.ref p, q1, h2 G0 H0 G H σ o _ fun d2' v2 G2 H2 e2 m2 dv2 => ?_⟩
    subst e2
    obtain ⟨v, hv, dv⟩ := dp_at (dpAll_ex m2.g q5) h
    exact ⟨p, vs, i, v, rfl, dp_int dv2, SqL.of (m2.h p _ q4), hv, k _ v G2 H2 rfl m2 dv⟩

/-! ### slices -/
def cutG {α : Type} (xs : List α) (lo hi : Option Int) : List α := (xs.drop (HT.sIx xs.length 0 lo)).take (HT.sIx xs.length xs.length hi - HT.sIx xs.length 0 lo)
theorem dp_cut {K : PySem.W.Frag} {H : Hp} {vs : List V} {ds : List PyData} (lo hi : Option Int) (h : DpAll K H vs ds) : DpAll K H (cutV vs lo hi) (cutG ds lo hi) := by
  unfold cutV cutG
  rw [dpAll_len h]
  exact dpAll_take _ (dpAll_drop _ h)
/-- a part of a slice -/
def PaD (c : Ctx) (e : Option Expr) (δ : List En) (o : Option Int) : Prop := match e with
  | none => o = none
  | some e => ∃ i, o = some i ∧ EX c e δ (.int i)
theorem pa_no : PaD c none δ none := rfl
theorem pa_some {i : Int} (h : EX c e δ (.int i)) : PaD c (some e) δ (some i) := ⟨i, rfl, h⟩
def tPa (c : Ctx) (e : Option Expr) : TO := match e with
  | none => tNoPart
  | some e => tPart (tE c e)
theorem po_tPa {X : Cx} {e : Option Expr} (f : Fits c X) : PO X e (tPa c e) := match e with
  | none => po_none
  | some _ => po_some (pe_tE f)
theorem PaD.run {K : PySem.W.Frag} {e : Option Expr} {o : Option Int} (h : PaD c e δ o) (hK : K = c.K) {G0 H0 G H : Hp} {σ : L2.St} (ok : Ok c.ek G0 H0 G H σ δ) {Q : Option Int → Hp → Prop} (k : ∀ G' H', Mv G H G' H' → Q o H') : tPa c e σ H Q := by
  cases e with
  | none => cases h; exact k G H (.refl ok.gh)
  | some e =>
    obtain ⟨i, rfl, h⟩ := h
    exact h G0 H0 G H σ ok _ fun d v G1 H1 e1 m dv => by subst e1; exact ⟨i, dp_int dv, k G1 H1 m⟩
theorem e_slT {lo hi : Option Expr} {l u : Option Int} {p2 : Pos} (h : EX c a δ (.tuple ds)) (h1 : PaD c lo δ l) (h2 : PaD c hi δ u) : EX c (.Subscript a (.Slice lo hi none p2) pos) δ (.tuple (cutG ds l u)) :=
  EX.mk (t := tSl (rSlA c.K) (tE c a) (tPa c lo) (tPa c hi)) (fun X f => pe_slice (by rw [← f.K]; exact sl_tupA) (pe_tE f) (po_tPa f) (po_tPa f)) fun G0 H0 G H σ o Q k =>
    h G0 H0 G H σ o _ fun d1 v1 G1 H1 e1 m1 dv1 => h1.run rfl (o.step m1) fun G2 H2 m2 => h2.run rfl (o.step (m1.trans m2)) fun G3 H3 m3 => by
      subst e1
      have m := (m1.trans m2).trans m3
      obtain ⟨a, vs, rfl, s1, q1⟩ := dp_tuple (dp_ex (m2.trans m3).g dv1)
      refine ⟨a, vs, rfl, ex_t m3.gh s1, fun w => ?_, fun w p hp => ?_⟩
      · have e : cutG ds l u = ds := by
          have := dpAll_len q1
          unfold cutG
          rw [← this, w.1, w.2, List.drop_zero, Nat.sub_zero, this, List.take_length]
        exact k _ _ G3 H3 (by rw [e]) m (.tup s1 q1)
      · have n := Mv.new (o := .tup (cutV vs l u)) m.gh hp
        exact k _ _ _ _ rfl (m.trans n) (.tup (SqT.of upd_same) (dpAll_ex n.g (dp_cut l u q1)))
theorem o_slL {lo hi : Option Expr} {l u : Option Int} {p2 : Pos} (h : EX c a δ (.list ds)) (h1 : PaD c lo δ l) (h2 : PaD c hi δ u) : OX c (.Subscript a (.Slice lo hi none p2) pos) δ (cutG ds l u) :=
  OX.mk (t := tSl (rSlL c.K) (tE c a) (tPa c lo) (tPa c hi)) (fun X f => pe_slice (by rw [← f.K]; exact sl_list) (pe_tE f) (po_tPa f) (po_tPa f)) fun G0 H0 G H σ o Q k =>
    h G0 H0 G H σ o _ fun d1 v1 G1 H1 e1 m1 dv1 => h1.run rfl (o.step m1) fun G2 H2 m2 => h2.run rfl (o.step (m1.trans m2)) fun G3 H3 m3 => by
      subst e1
      have m := (m1.trans m2).trans m3
      obtain ⟨a, vs, rfl, s1, q1⟩ := dp_list (dp_ex (m2.trans m3).g dv1)
      exact ⟨a, vs, rfl, ex_l m3.gh s1, fun p hp => k p _ G3 _ (m.trans (Mv.own m.gh hp)) (fresh_back m.h hp) (fresh_back m.gh hp) upd_same (dp_cut l u q1)⟩

/-! ### comparisons -/
def CmpP (c : Ctx) (op : CmpOp) (d1 d2 : PyData) (b : Bool) : Prop :=
  ∃ r : R2, (∀ X, Fits c X → OpR X (compareOp op) r) ∧ ∀ H x y (Q : VK), Dp c.K H x d1 → Dp c.K H y d2 → Q (.bl b) H → r x y H Q
theorem cmpI {op : CmpOp} {i j : Int} {g : Int → Int → Bool} (ho : ∀ X : Cx, OpR X (compareOp op) (rI0 fun i j => .bl (g i j))) : CmpP c op (.int i) (.int j) (g i j) :=
  ⟨_, fun X _ => ho X, fun H x y Q h1 h2 k => ⟨i, j, dp_int h1, dp_int h2, k⟩⟩
section
variable {i j : Int}
theorem c_lt : CmpP c .Lt (.int i) (.int j) (decide (i < j)) := cmpI (g := fun i j => decide (i < j)) fun X => op_lt
theorem c_le : CmpP c .LtE (.int i) (.int j) (decide (i ≤ j)) := cmpI (g := fun i j => decide (i ≤ j)) fun X => op_le
theorem c_gt : CmpP c .Gt (.int i) (.int j) (decide (j < i)) := cmpI (g := fun i j => decide (j < i)) fun X => op_gt
theorem c_ge : CmpP c .GtE (.int i) (.int j) (decide (j ≤ i)) := cmpI (g := fun i j => decide (j ≤ i)) fun X => op_ge
end
theorem c_eq (hc : c.calm = true) (h1 : SeqAt.shaped d1 = true := by with_unfolding_all rfl) (h2 : SeqAt.shaped d2 = true := by with_unfolding_all rfl) : CmpP c .Eq d1 d2 (PyData.eqv d1 d2) :=
  ⟨rEqD c.K, fun X f => by rw [← f.K]; exact op_eqD (f.room hc).units, fun H x y Q q1 q2 k => ⟨d1, d2, q1, q2, h1, h2, k⟩⟩
theorem c_ne (hc : c.calm = true) (h1 : SeqAt.shaped d1 = true := by with_unfolding_all rfl) (h2 : SeqAt.shaped d2 = true := by with_unfolding_all rfl) : CmpP c .NotEq d1 d2 (!PyData.eqv d1 d2) :=
  ⟨rNeD c.K, fun X f => by rw [← f.K]; exact op_neD (f.room hc).units, fun H x y Q q1 q2 k => ⟨d1, d2, q1, q2, h1, h2, k⟩⟩
def isNo : PyData → Bool
  | .none => true
  | _ => false
theorem dp_isNo {K : PySem.W.Frag} {H : Hp} {x : V} (h : Dp K H x d) : decide (x = .non) = isNo d := by
  cases h <;> first | rfl | (exact decide_eq_false (fun z => nomatch z))
theorem c_isN : CmpP c .Is d .none (isNo d) :=
  ⟨_, fun X f => op_isN, fun H x y Q q1 q2 k => ⟨dp_none q2, by rw [dp_isNo q1]; exact k⟩⟩
theorem c_notN : CmpP c .IsNot d .none (!isNo d) :=
  ⟨_, fun X f => op_notN, fun H x y Q q1 q2 k => ⟨dp_none q2, by rw [dp_isNo q1]; exact k⟩⟩
theorem c_isB {p q : Bool} : CmpP c .Is (.bool p) (.bool q) (decide (p = q)) :=
  ⟨_, fun X f => op_isBl, fun H x y Q q1 q2 k => ⟨p, q, dp_bool q1, dp_bool q2, k⟩⟩
theorem c_notB {p q : Bool} : CmpP c .IsNot (.bool p) (.bool q) (!decide (p = q)) :=
  ⟨_, fun X f => op_notBl, fun H x y Q q1 q2 k => ⟨p, q, dp_bool q1, dp_bool q2, k⟩⟩
theorem e_cmp {op : CmpOp} {r : Bool} (h1 : PX c a δ d1) (h2 : PX c b δ d2) (h : CmpP c op d1 d2 r) (hm : behindInMarks op b = false := by first | exact nomark _ | with_unfolding_all rfl) : EX c (.Compare a [op] [b] pos) δ (.bool r) := by
  obtain ⟨rr, ho, hr⟩ := h
  refine EX.mk (t := tOp rr (tE c a) (tE c b)) (fun X f => pe_cmpR (ho X f) (pe_tE f) (pe_tE f) hm) fun G0 H0 G H σ o Q k => ?_
  refine h1 G0 H0 G H σ o _ fun v1 G1 H1 m1 dv1 => h2 G0 H0 G1 H1 σ (o.step m1) _ fun v2 G2 H2 m2 dv2 => ?_
  exact hr H2 v1 v2 Q (dp_ex m2.h dv1) dv2 (k _ _ G2 H2 rfl (m1.trans m2) (.bl r))
theorem t_cmp {op : CmpOp} {r : Bool} (h1 : PX c a δ d1) (h2 : PX c b δ d2) (h : CmpP c op d1 d2 r) (hm : behindInMarks op b = false := by first | exact nomark _ | with_unfolding_all rfl) : TX c (.Compare a [op] [b] pos) δ r := by
  obtain ⟨rr, ho, hr⟩ := h
  refine TX.mk (t := tTest (tOp rr (tE c a) (tE c b))) (fun X f => pt_cmpR (ho X f) (pe_tE f) (pe_tE f) hm) fun G0 H0 G H σ o Q k => ?_
  refine h1 G0 H0 G H σ o _ fun v1 G1 H1 m1 dv1 => h2 G0 H0 G1 H1 σ (o.step m1) _ fun v2 G2 H2 m2 dv2 => ?_
  exact hr H2 v1 v2 _ (dp_ex m2.h dv1) dv2 ⟨r, rfl, k G2 H2 (m1.trans m2)⟩
/-- a op1 b op2 e -/
theorem chainR {op op' : CmpOp} {r1 r2 : Bool} {d3 : PyData} {R1 R2' : R2} (h1 : PX c a δ d1) (h2 : PX c b δ d2) (h3 : PX c e δ d3)
    (q1 : ∀ H x y (Q : VK), Dp c.K H x d1 → Dp c.K H y d2 → Q (.bl r1) H → R1 x y H Q) (q2 : ∀ H x y (Q : VK), Dp c.K H x d2 → Dp c.K H y d3 → Q (.bl r2) H → R2' x y H Q) :
    EvS c.ek (tChain R1 R2' (tE c a) (tE c b) (tE c e)) δ (· = .bool (r1 && r2)) := fun G0 H0 G H σ o Q k =>
  h1 G0 H0 G H σ o _ fun v1 G1 H1 m1 dv1 => h2 G0 H0 G1 H1 σ (o.step m1) _ fun v2 G2 H2 m2 dv2 => q1 H2 v1 v2 _ (dp_ex m2.h dv1) dv2 ⟨r1, rfl, by
    cases r1 with
    | true =>
      rw [if_pos rfl]
      exact h3 G0 H0 G2 H2 σ (o.step (m1.trans m2)) _ fun v3 G3 H3 m3 dv3 => q2 H3 v2 v3 Q (dp_ex m3.h dv2) dv3 (k _ _ G3 H3 rfl ((m1.trans m2).trans m3) (.bl _))
    | false =>
      rw [if_neg Bool.false_ne_true]
      exact k _ _ G2 H2 rfl (m1.trans m2) (.bl _)⟩
theorem e_chain {op op' : CmpOp} {r1 r2 : Bool} {d3 : PyData} (h1 : PX c a δ d1) (h2 : PX c b δ d2) (h3 : PX c e δ d3) (q1 : CmpP c op d1 d2 r1) (q2 : CmpP c op' d2 d3 r2)
    (hm : lastMarks [op, op'] [b, e] = false := by with_unfolding_all rfl) : EX c (.Compare a [op, op'] [b, e] pos) δ (.bool (r1 && r2)) := by
  obtain ⟨R1, o1, q1⟩ := q1
  obtain ⟨R2', o2, q2⟩ := q2
  exact EX.mk (fun X f => pe_chain (o1 X f) (o2 X f) (pe_tE f) (pe_tE f) (pe_tE f) hm) (chainR (op := op) (op' := op') h1 h2 h3 q1 q2)
theorem t_chain {op op' : CmpOp} {r1 r2 : Bool} {d3 : PyData} (h1 : PX c a δ d1) (h2 : PX c b δ d2) (h3 : PX c e δ d3) (q1 : CmpP c op d1 d2 r1) (q2 : CmpP c op' d2 d3 r2)
    (hm : lastMarks [op, op'] [b, e] = false := by with_unfolding_all rfl) : TX c (.Compare a [op, op'] [b, e] pos) δ (r1 && r2) := by
  obtain ⟨R1, o1, q1⟩ := q1
  obtain ⟨R2', o2, q2⟩ := q2
  refine TX.mk (fun X f => pt_chain (o1 X f) (o2 X f) (pe_tE f) (pe_tE f) (pe_tE f) hm) fun G0 H0 G H σ o Q k => ?_
  exact chainR (op := op) (op' := op') h1 h2 h3 q1 q2 G0 H0 G H σ o _ fun d v G' H' e1 m dv => by subst e1; exact ⟨_, dp_bool dv, k G' H' m⟩

/-! ### tests -/
def PlT (e : Expr) : Prop := ∀ env whole, isTrue e env whole = (do let v ← whole; standAt e.pos; holding [v] (truthy v))
theorem t_val {b : Bool} (h : EX c e δ (.bool b)) (hp : PlT e := by with_unfolding_all exact fun _ _ => rfl) : TX c e δ b :=
  TX.mk (t := tB (tE c e)) (fun X f => pt_val (pe_tE f) (hp _)) fun G0 H0 G H σ o Q k => h G0 H0 G H σ o _ fun d v G' H' e1 m dv => by subst e1; exact ⟨b, dp_bool dv, k G' H' m⟩
def truth : PyData → Option Bool
  | .none => some false
  | .bool b => some b
  | .int i => some (i != 0)
  | .list ds => some (!ds.isEmpty)
  | .tuple ds => some (!ds.isEmpty)
  | _ => none
theorem dp_truth {K : PySem.W.Frag} {H : Hp} {x : V} {b : Bool} (h : Dp K H x d) (q : truth d = some b) : TruV K x H b := by
  cases h with
  | non => cases q; rfl
  | bl b => cases q; rfl
  | int i => cases q; rfl
  | str x => cases q
  | lst s t => cases q; exact .inl ⟨_, s, by cases t <;> rfl⟩
  | tup s t => cases q; exact .inr (.inl ⟨_, s, by cases t <;> rfl⟩)
theorem t_truth {b : Bool} (h : PX c e δ d) (q : truth d = some b) (hp : PlT e := by with_unfolding_all exact fun _ _ => rfl) : TX c e δ b :=
  TX.mk (t := fun σ H Q => tE c e σ H fun x H' => ∃ k, TruV c.K x H' k ∧ Q k H') (fun X f => by rw [← f.K]; exact pt_truth (pe_tE f) (hp _)) fun G0 H0 G H σ o Q k =>
    h G0 H0 G H σ o _ fun v G' H' m dv => ⟨b, dp_truth dv q, k G' H' m⟩
theorem t_not {b : Bool} (h : TX c e δ b) : TX c (.UnaryOp .Not e pos) δ (!b) :=
  TX.mk (t := tNot (tT c e)) (fun X f => pt_not (pt_tT f)) fun G0 H0 G H σ o Q k => h G0 H0 G H σ o _ fun G' H' m => k G' H' m
theorem w_and1 {b : Bool} (h : TX c e δ b) : WX c (.BoolOp .And [e] pos) δ b := WX.mk (t := tT c e) (fun X f => pw_and1 (pt_tT f)) h
theorem w_or1 {b : Bool} (h : TX c e δ b) : WX c (.BoolOp .Or [e] pos) δ b := WX.mk (t := tT c e) (fun X f => pw_or1 (pt_tT f)) h
theorem w_and {r1 r2 : Bool} (h1 : TX c e δ r1) (h2 : r1 = true → WX c (.BoolOp .And (b :: es) pos) δ r2) : WX c (.BoolOp .And (e :: b :: es) pos) δ (r1 && r2) :=
  WX.mk (t := tAnd (tT c e) (tW c (.BoolOp .And (b :: es) pos))) (fun X f => pw_and (pt_tT f) (pw_tW f)) fun G0 H0 G H σ o Q k => h1 G0 H0 G H σ o _ fun G1 H1 m1 => by
    cases r1 with
    | true => rw [if_pos rfl]; exact h2 rfl G0 H0 G1 H1 σ (o.step m1) _ fun G2 H2 m2 => k G2 H2 (m1.trans m2)
    | false => rw [if_neg Bool.false_ne_true]; exact k G1 H1 m1
theorem w_or {r1 r2 : Bool} (h1 : TX c e δ r1) (h2 : r1 = false → WX c (.BoolOp .Or (b :: es) pos) δ r2) : WX c (.BoolOp .Or (e :: b :: es) pos) δ (r1 || r2) :=
  WX.mk (t := tOr (tT c e) (tW c (.BoolOp .Or (b :: es) pos))) (fun X f => pw_or (pt_tT f) (pw_tW f)) fun G0 H0 G H σ o Q k => h1 G0 H0 G H σ o _ fun G1 H1 m1 => by
    cases r1 with
    | true => rw [if_pos rfl]; exact k G1 H1 m1
    | false => rw [if_neg Bool.false_ne_true]; exact h2 rfl G0 H0 G1 H1 σ (o.step m1) _ fun G2 H2 m2 => k G2 H2 (m1.trans m2)
/-! .. as values -/
theorem e_not {b : Bool} (h : PX c e δ d) (q : truth d = some b) : EX c (.UnaryOp .Not e pos) δ (.bool (!b)) :=
  EX.mk (t := tNotT c.K (tE c e)) (fun X f => by rw [← f.K]; exact pe_notT (pe_tE f)) fun G0 H0 G H σ o Q k => h G0 H0 G H σ o _ fun v G' H' m dv => ⟨b, dp_truth dv q, k _ _ G' H' rfl m (.bl _)⟩
theorem e_and1 {op : BoolOp} (h : EX c e δ d) : EX c (.BoolOp op [e] pos) δ d := EX.mk (t := tE c e) (fun X f => pe_one (pe_tE f)) h
theorem e_and {r1 r2 : Bool} (h1 : EX c e δ (.bool r1)) (h2 : r1 = true → EX c (.BoolOp .And (b :: es) pos) δ (.bool r2)) : EX c (.BoolOp .And (e :: b :: es) pos) δ (.bool (r1 && r2)) :=
  EX.mk (t := tAndV (tE c e) (tE c (.BoolOp .And (b :: es) pos))) (fun X f => pe_and (pe_tE f) (pe_tE f)) fun G0 H0 G H σ o Q k => h1 G0 H0 G H σ o _ fun d v G1 H1 e1 m1 dv => by
    subst e1
    refine ⟨r1, dp_bool dv, ?_⟩
    cases r1 with
    | true => rw [if_pos rfl]; exact h2 rfl G0 H0 G1 H1 σ (o.step m1) _ fun d v G2 H2 e2 m2 dv => k d v G2 H2 e2 (m1.trans m2) dv
    | false => rw [if_neg Bool.false_ne_true]; exact k _ _ G1 H1 rfl m1 (.bl _)
theorem e_or {r1 r2 : Bool} (h1 : EX c e δ (.bool r1)) (h2 : r1 = false → EX c (.BoolOp .Or (b :: es) pos) δ (.bool r2)) : EX c (.BoolOp .Or (e :: b :: es) pos) δ (.bool (r1 || r2)) :=
  EX.mk (t := tOrV (tE c e) (tE c (.BoolOp .Or (b :: es) pos))) (fun X f => pe_or (pe_tE f) (pe_tE f)) fun G0 H0 G H σ o Q k => h1 G0 H0 G H σ o _ fun d v G1 H1 e1 m1 dv => by
    subst e1
    refine ⟨r1, dp_bool dv, ?_⟩
    cases r1 with
    | true => rw [if_pos rfl]; exact k _ _ G1 H1 rfl m1 (.bl _)
    | false => rw [if_neg Bool.false_ne_true]; exact h2 rfl G0 H0 G1 H1 σ (o.step m1) _ fun d v G2 H2 e2 m2 dv => k d v G2 H2 e2 (m1.trans m2) dv
theorem e_if {r : Bool} (h : TX c e δ r) (h1 : r = true → ES c a δ S) (h2 : r = false → ES c b δ S) : ES c (.IfExp e a b pos) δ S :=
  ES.mk (t := tIf (tT c e) (tE c a) (tE c b)) (fun X f => pe_ifExp (pt_tT f) (pe_tE f) (pe_tE f)) fun G0 H0 G H σ o Q k => h G0 H0 G H σ o _ fun G1 H1 m1 => by
    cases r with
    | true => rw [if_pos rfl]; exact h1 rfl G0 H0 G1 H1 σ (o.step m1) _ fun d v G2 H2 e2 m2 dv => k d v G2 H2 e2 (m1.trans m2) dv
    | false => rw [if_neg Bool.false_ne_true]; exact h2 rfl G0 H0 G1 H1 σ (o.step m1) _ fun d v G2 H2 e2 m2 dv => k d v G2 H2 e2 (m1.trans m2) dv

/-! ### builtins -/
/-- what a builtin does on data, peeked at -/
def CaP (c : Ctx) (f : Value) (ds : List PyData) (d : PyData) : Prop :=
  ∃ r : List V → Hp → VK → Prop, (∀ X, Fits c X → CallR X f r) ∧ ∀ H vs (Q : VK), DpAll c.K H vs ds → (∀ v, Dp c.K H v d → Q v H) → r vs H Q
section
variable {p : Pos} {id T : String}
theorem e_blt (ha : AP c (e :: es) δ ds) (h : CaP c (.builtin id) ds d) (fl : flat d = true) (hg : c.sc.names.lookup x = some .globalImplicit) (hm : c.mg x = none) (hv : bootBuiltins x = some (.builtin id)) (hn : x ≠ "__name__" := by decide) (hdb : (x == ("__debug__" : Str)) = false := by decide)
    (he : ∀ env, starEach (e :: es) env = (false, eval e env) :: starEach es env := by intro _; with_unfolding_all rfl) (hpl : ∀ env, (backTo pos (starEach es env)).any (·.1) = false := by intro _; with_unfolding_all rfl) : EX c (.Call (.Name x p) (e :: es) [] pos) δ d := by
  obtain ⟨r, ho, hr⟩ := h
  refine EX.mk (t := tCB r (tA c (e :: es))) (fun X f => pe_callB (ho X f) (gl_of f hg) (by rw [f.mg]; exact hm) hv (pa_tA f) hn hdb (he _) (hpl _)) fun G0 H0 G H σ o Q k => ?_
  exact ha G0 H0 G H σ o _ fun vs G1 H1 m1 dv => hr H1 vs Q dv fun v dv => k _ v G1 H1 rfl m1 (dp_flat dv fl)
theorem e_bty (ha : AP c (e :: es) δ ds) (h : CaP c (.type T) ds d) (fl : flat d = true) (hg : c.sc.names.lookup x = some .globalImplicit) (hm : c.mg x = none) (hv : bootBuiltins x = some (.type T)) (hn : x ≠ "__name__" := by decide) (hdb : (x == ("__debug__" : Str)) = false := by decide)
    (he : ∀ env, starEach (e :: es) env = (false, eval e env) :: starEach es env := by intro _; with_unfolding_all rfl) (hpl : ∀ env, (backTo pos (starEach es env)).any (·.1) = false := by intro _; with_unfolding_all rfl) : EX c (.Call (.Name x p) (e :: es) [] pos) δ d := by
  obtain ⟨r, ho, hr⟩ := h
  refine EX.mk (t := tCB r (tA c (e :: es))) (fun X f => pe_callTy (ho X f) (gl_of f hg) (by rw [f.mg]; exact hm) hv (pa_tA f) hn hdb (he _) (hpl _)) fun G0 H0 G H σ o Q k => ?_
  exact ha G0 H0 G H σ o _ fun vs G1 H1 m1 dv => hr H1 vs Q dv fun v dv => k _ v G1 H1 rfl m1 (dp_flat dv fl)
theorem dp_1 {K : PySem.W.Frag} {H : Hp} {vs : List V} (h : DpAll K H vs [d]) : ∃ v, vs = [v] ∧ Dp K H v d := by
  cases h with
  | cons a b => cases b; exact ⟨_, rfl, a⟩
theorem dp_2 {K : PySem.W.Frag} {H : Hp} {vs : List V} (h : DpAll K H vs [d1, d2]) : ∃ v w, vs = [v, w] ∧ Dp K H v d1 ∧ Dp K H w d2 := by
  cases h with
  | cons a b =>
    obtain ⟨w, rfl, b2⟩ := dp_1 b
    exact ⟨_, w, rfl, a, b2⟩
theorem f_len (ds : List PyData) (h : d = .list ds ∨ d = .tuple ds) : CaP c (.builtin "len") [d] (.int ds.length) :=
  ⟨fun xs H Q => ∃ p ys, xs = [.ref p] ∧ (SqL c.K H p ys ∨ SqT c.K H p ys) ∧ Q (.int ys.length) H, fun X f => by rw [← f.K]; exact call_len_seq, fun H vs Q h9 k => by
  obtain ⟨v, rfl, h2⟩ := dp_1 h9
  rcases h with rfl | rfl
  · obtain ⟨a, xs, rfl, s1, q1⟩ := dp_list h2
    exact ⟨a, xs, rfl, .inl s1, k _ (by rw [dpAll_len q1]; exact .int _)⟩
  · obtain ⟨a, xs, rfl, s1, q1⟩ := dp_tuple h2
    exact ⟨a, xs, rfl, .inr s1, k _ (by rw [dpAll_len q1]; exact .int _)⟩⟩
theorem f_lenL : CaP c (.builtin "len") [.list ds] (.int ds.length) := f_len ds (.inl rfl)
theorem f_lenT : CaP c (.builtin "len") [.tuple ds] (.int ds.length) := f_len ds (.inr rfl)
theorem f_lenS {z : Str} (h : z.length ≤ sizeLine) : CaP c (.builtin "len") [.str z] (.int z.length) :=
  ⟨_, fun X f => call_len_str, fun H vs Q h9 k => by
  obtain ⟨v, rfl, h2⟩ := dp_1 h9
  exact ⟨z, by rw [dp_str h2], h, k _ (.int _)⟩⟩
theorem f_int {i : Int} : CaP c (.type "int") [.int i] (.int i) := ⟨_, fun X f => call_int1, fun H vs Q h9 k => by
  obtain ⟨v, rfl, h2⟩ := dp_1 h9
  exact .inl ⟨i, by rw [dp_int h2], k _ (.int _)⟩⟩
theorem f_intB {b : Bool} : CaP c (.type "int") [.bool b] (.int (if b then 1 else 0)) := ⟨_, fun X f => call_int1, fun H vs Q h9 k => by
  obtain ⟨v, rfl, h2⟩ := dp_1 h9
  exact .inr ⟨b, by rw [dp_bool h2], k _ (.int _)⟩⟩
theorem f_abs {i : Int} : CaP c (.builtin "abs") [.int i] (.int (if i < 0 then -i else i)) := ⟨_, fun X f => call_abs, fun H vs Q h9 k => by
  obtain ⟨v, rfl, h2⟩ := dp_1 h9
  exact ⟨i, by rw [dp_int h2], k _ (.int _)⟩⟩
theorem f_max (hc : c.calm = true) {i j : Int} : CaP c (.builtin "max") [.int i, .int j] (.int (if j > i then j else i)) := ⟨_, fun X f => call_max2 (f.calm.trans hc), fun H vs Q h9 k => by
  obtain ⟨v, w, rfl, h2, h3⟩ := dp_2 h9
  exact ⟨i, j, by rw [dp_int h2, dp_int h3], k _ (.int _)⟩⟩
theorem f_min (hc : c.calm = true) {i j : Int} : CaP c (.builtin "min") [.int i, .int j] (.int (if j < i then j else i)) := ⟨_, fun X f => call_min2 (f.calm.trans hc), fun H vs Q h9 k => by
  obtain ⟨v, w, rfl, h2, h3⟩ := dp_2 h9
  exact ⟨i, j, by rw [dp_int h2, dp_int h3], k _ (.int _)⟩⟩
theorem f_sum (hc : c.calm = true) (ns : List Int) (h : ds = ns.map PyData.int) : CaP c (.builtin "sum") [.list ds] (.int ns.sum) := ⟨rSum c.K, fun X f => by rw [← f.K]; exact cr_sum (f.calm.trans hc), fun H vs Q h9 k => by
  subst h
  obtain ⟨v, rfl, h2⟩ := dp_1 h9
  obtain ⟨a, xs, rfl, s1, q1⟩ := dp_list h2
  rw [dpAll_ints q1] at s1
  exact ⟨a, ns, rfl, s1, k _ (.int _)⟩⟩
theorem f_all (hc : c.calm = true) (ns : List Bool) (h : ds = ns.map PyData.bool) : CaP c (.builtin "all") [.list ds] (.bool (ns.all _root_.id)) := ⟨rAll c.K, fun X f => by rw [← f.K]; exact cr_all (f.calm.trans hc), fun H vs Q h9 k => by
  subst h
  obtain ⟨v, rfl, h2⟩ := dp_1 h9
  obtain ⟨a, xs, rfl, s1, q1⟩ := dp_list h2
  rw [dpAll_bools q1] at s1
  exact ⟨a, ns, rfl, s1, k _ (.bl _)⟩⟩
theorem f_any (hc : c.calm = true) (ns : List Bool) (h : ds = ns.map PyData.bool) : CaP c (.builtin "any") [.list ds] (.bool (ns.any _root_.id)) := ⟨rAny c.K, fun X f => by rw [← f.K]; exact cr_any (f.calm.trans hc), fun H vs Q h9 k => by
  subst h
  obtain ⟨v, rfl, h2⟩ := dp_1 h9
  obtain ⟨a, xs, rfl, s1, q1⟩ := dp_list h2
  rw [dpAll_bools q1] at s1
  exact ⟨a, ns, rfl, s1, k _ (.bl _)⟩⟩
/-- tuple(a list), tuple(a tuple) -/
theorem e_tuple (ds : List PyData) (h : EX c e δ d) (hd : d = .list ds ∨ d = .tuple ds) (hg : c.sc.names.lookup x = some .globalImplicit) (hm : c.mg x = none) (hv : bootBuiltins x = some (.type "tuple")) (hn : x ≠ "__name__" := by decide) (hdb : (x == ("__debug__" : Str)) = false := by decide)
    (hs : ∀ env, starEach [e] env = (false, eval e env) :: starEach [] env := by intro _; with_unfolding_all rfl) (hpl : ∀ env, (backTo pos (starEach [] env)).any (·.1) = false := by intro _; with_unfolding_all rfl) : EX c (.Call (.Name x p) [e] [] pos) δ (.tuple ds) :=
  EX.mk (t := tCB (fun xs H Q => ∃ p ys, xs = [.ref p] ∧ ((SqL c.K H p ys ∧ ∀ l, H l = none → Q (.ref l) (upd H l (.tup ys))) ∨ (SqT c.K H p ys ∧ Q (.ref p) H))) (tA c [e]))
    (fun X f => pe_callTy (by rw [← f.K]; exact call_tuple_of) (gl_of f hg) (by rw [f.mg]; exact hm) hv (pa_tA f) hn hdb (hs _) (hpl _)) fun G0 H0 G H σ o Q k =>
    (a_cons h a_nil hs) G0 H0 G H σ o _ fun vs G1 H1 m dv => by
      obtain ⟨v, rfl, h2⟩ := dp_1 dv
      rcases hd with rfl | rfl
      · obtain ⟨a, xs, rfl, s1, q1⟩ := dp_list h2
        refine ⟨a, xs, rfl, .inl ⟨ex_l m.gh s1, fun l hl => ?_⟩⟩
        have n := Mv.new (o := .tup xs) m.gh hl
        exact k _ _ _ _ rfl (m.trans n) (.tup (SqT.of upd_same) (dpAll_ex n.g q1))
      · obtain ⟨a, xs, rfl, s1, q1⟩ := dp_tuple h2
        exact ⟨a, xs, rfl, .inr ⟨ex_t m.gh s1, k _ _ G1 H1 rfl m h2⟩⟩
/-- tuple(a list of one's own) -/
theorem e_tupleO (h : OX c e δ ds) (hg : c.sc.names.lookup x = some .globalImplicit) (hm : c.mg x = none) (hv : bootBuiltins x = some (.type "tuple")) (hn : x ≠ "__name__" := by decide) (hdb : (x == ("__debug__" : Str)) = false := by decide)
    (hs : ∀ env, starEach [e] env = (false, eval e env) :: starEach [] env := by intro _; with_unfolding_all rfl) (hpl : ∀ env, (backTo pos (starEach [] env)).any (·.1) = false := by intro _; with_unfolding_all rfl) : EX c (.Call (.Name x p) [e] [] pos) δ (.tuple ds) := e_tuple ds h.ex (.inl rfl) hg hm hv hn hdb hs hpl
/-- list(xs) -/
theorem o_list (ds : List PyData) (h : EX c e δ d) (hd : d = .list ds ∨ d = .tuple ds) (hg : c.sc.names.lookup x = some .globalImplicit) (hm : c.mg x = none) (hv : bootBuiltins x = some (.type "list")) (hn : x ≠ "__name__" := by decide) (hdb : (x == ("__debug__" : Str)) = false := by decide)
    (hs : ∀ env, starEach [e] env = (false, eval e env) :: starEach [] env := by intro _; with_unfolding_all rfl) (hpl : ∀ env, (backTo pos (starEach [] env)).any (·.1) = false := by intro _; with_unfolding_all rfl) : OX c (.Call (.Name x p) [e] [] pos) δ ds :=
  OX.mk (t := tCB (fun xs H Q => ∃ p ys, xs = [.ref p] ∧ (SqL c.K H p ys ∨ SqT c.K H p ys) ∧ ∀ l, H l = none → Q (.ref l) (upd H l (.lst ys))) (tA c [e]))
    (fun X f => pe_callTy (by rw [← f.K]; exact call_list_of) (gl_of f hg) (by rw [f.mg]; exact hm) hv (pa_tA f) hn hdb (hs _) (hpl _)) fun G0 H0 G H σ o Q k =>
    (a_cons h a_nil hs) G0 H0 G H σ o _ fun vs G1 H1 m dv => by
      obtain ⟨v, rfl, h2⟩ := dp_1 dv
      have go : ∀ a xs, v = .ref a → (SqL c.K G1 a xs ∨ SqT c.K G1 a xs) → DpAll c.K G1 xs ds → ∃ p ys, [v] = [V.ref p] ∧ (SqL c.K H1 p ys ∨ SqT c.K H1 p ys) ∧ ∀ l, H1 l = none → Q (.ref l) (upd H1 l (.lst ys)) := fun a xs e1 s1 q1 =>
        ⟨a, xs, by rw [e1], s1.elim (fun z => .inl (ex_l m.gh z)) (fun z => .inr (ex_t m.gh z)), fun l hl => k l xs G1 _ (m.trans (Mv.own m.gh hl)) (fresh_back m.h hl) (fresh_back m.gh hl) upd_same q1⟩
      rcases hd with rfl | rfl
      · obtain ⟨a, xs, e1, s1, q1⟩ := dp_list h2
        exact go a xs e1 (.inl s1) q1
      · obtain ⟨a, xs, e1, s1, q1⟩ := dp_tuple h2
        exact go a xs e1 (.inr s1) q1
end

/-! ### isinstance -/
def tyD : PyData → Option String
  | .none => some "NoneType"
  | .bool _ => some "bool"
  | .int _ => some "int"
  | .str _ => some "str"
  | .list _ => some "list"
  | .tuple _ => some "tuple"
  | _ => none
end

/-! ### calls of defs -/
/-- a promise by data: a ghost, its arguments, what is asked, what is told, what is raised -/
def spX {α : Type} (K : PySem.W.Frag) (args : α → List PyData) (pre : α → Prop) (res : α → PyData → Prop) (xr : α → XD → Prop) : Sp := fun vs H Q E =>
  ∃ (a : α) (G : Hp), Ex G H ∧ DpAll K G vs (args a) ∧ pre a ∧ (∀ d v G' H', res a d → Mv G H G' H' → Dp K G' v d → Q v H') ∧ ∀ x G' H', xr a x → Mv G H G' H' → EOk K E G' H' x
/-- the def that the name x holds keeps the promise sp, within k levels -/
structure Cal (c : Ctx) (x : Str) (sp : Sp) : Prop where
  ex : ∃ j f fd ps, j ≤ c.k ∧ FnOk c.P c.w c.K c.mg c.base (L2.CX c.P c.w) j f fd ps sp ∧ c.mg x = some (.ref f) ∧ PySem.W.keepIn c.K (.ref f) = true ∧ Binds c.K fd ps []
section
variable {c : Ctx} {e : Expr} {es : List Expr} {δ : List En} {x : Str} {pos p : Pos} {α : Type} {args : α → List PyData} {pre : α → Prop} {res : α → PyData → Prop} {xr : α → XD → Prop}
theorem pe_cal {X : Cx} {sp : Sp} (C : Cal c x sp) (f : Fits c X) (hc : c.calm = true) (hg : c.sc.names.lookup x = some .globalImplicit) (hdb : (x == ("__debug__" : Str)) = false := by decide)
    (he : ∀ env, starEach (e :: es) env = (false, eval e env) :: starEach es env := by intro _; with_unfolding_all rfl) (hpl : ∀ env, (backTo pos (starEach es env)).any (·.1) = false := by intro _; with_unfolding_all rfl) :
    PE X (.Call (.Name x p) (e :: es) [] pos) (tCallS sp (WE c.W) (tA c (e :: es))) := by
  obtain ⟨j, fa, fd, ps, hj, F, hm, hk, hb⟩ := C.ex
  have F' : FnOk X.prog X.w X.K X.mg X.base (L2.CX X.prog X.w) j fa fd ps sp := by rw [f.p, f.w, f.K, f.mg, f.base]; exact F
  exact pe_callS F' ((f.room hc).mono hj) (gl_of f hg) (by rw [f.mg]; exact hm) (by rw [f.K]; exact hk) (by rw [f.K]; exact hb) (fun σ => passAt f.take σ) (pa_tA f) hdb (he _) (hpl _)
theorem e_callX (C : Cal c x (spX c.K args pre res xr)) (a : α) (ha : AX c (e :: es) δ (args a)) (hp : pre a) (hx : ∀ x, xr a x → c.xc x δ) (hc : c.calm = true) (hg : c.sc.names.lookup x = some .globalImplicit) (hdb : (x == ("__debug__" : Str)) = false := by decide)
    (he : ∀ env, starEach (e :: es) env = (false, eval e env) :: starEach es env := by intro _; with_unfolding_all rfl) (hpl : ∀ env, (backTo pos (starEach es env)).any (·.1) = false := by intro _; with_unfolding_all rfl) : ES c (.Call (.Name x p) (e :: es) [] pos) δ (res a) :=
  ES.mk (t := tCallS (spX c.K args pre res xr) (WE c.W) (tA c (e :: es))) (fun X f => pe_cal C f hc hg hdb he hpl) fun G0 H0 G H σ o Q k =>
    ha G0 H0 G H σ o _ fun vs G1 H1 m dv => ⟨a, G1, m.gh, dv, hp, fun d v G' H' r m2 dv2 => k d v G' H' r (m.trans m2) dv2,
      fun y G' H' r m2 => o.xk y δ σ G' H' (hx y r) (o.toOkC.step (m.trans m2))⟩
def NoX {α : Type} : α → XD → Prop := fun _ _ => False
theorem e_call (C : Cal c x (spX c.K args pre res NoX)) (a : α) (ha : AX c (e :: es) δ (args a)) (hp : pre a) (hc : c.calm = true) (hg : c.sc.names.lookup x = some .globalImplicit) (hdb : (x == ("__debug__" : Str)) = false := by decide)
    (he : ∀ env, starEach (e :: es) env = (false, eval e env) :: starEach es env := by intro _; with_unfolding_all rfl) (hpl : ∀ env, (backTo pos (starEach es env)).any (·.1) = false := by intro _; with_unfolding_all rfl) : ES c (.Call (.Name x p) (e :: es) [] pos) δ (res a) :=
  e_callX C a ha hp (fun _ z => z.elim) hc hg hdb he hpl
/-- arguments peeked at, a flat answer -/
theorem e_callP (C : Cal c x (spX c.K args pre res NoX)) (a : α) (ha : AP c (e :: es) δ (args a)) (hp : pre a) (hf : ∀ d, res a d → flat d = true) (hc : c.calm = true) (hg : c.sc.names.lookup x = some .globalImplicit) (hdb : (x == ("__debug__" : Str)) = false := by decide)
    (he : ∀ env, starEach (e :: es) env = (false, eval e env) :: starEach es env := by intro _; with_unfolding_all rfl) (hpl : ∀ env, (backTo pos (starEach es env)).any (·.1) = false := by intro _; with_unfolding_all rfl) : ES c (.Call (.Name x p) (e :: es) [] pos) δ (res a) :=
  ES.mk (t := tCallS (spX c.K args pre res NoX) (WE c.W) (tA c (e :: es))) (fun X f => pe_cal C f hc hg hdb he hpl) fun G0 H0 G H σ o Q k =>
    ha G0 H0 G H σ o _ fun vs G1 H1 m dv => ⟨a, H1, Evl.Ex.refl H1, dv, hp, fun d v G' H' r m2 dv2 =>
      k d v G1 H' r (m.trans ⟨Evl.Ex.refl G1, m2.h, m.gh.trans m2.h, fun _ _ => rfl⟩) (dp_flat dv2 (hf d r)), fun _ _ _ z => z.elim⟩
end
end Dy

set_option Elab.async false
set_option linter.all false
set_option maxRecDepth 100000
set_option maxHeartbeats 2000000
namespace Dy
open PySem L2 PySem.Spec PyProof.Rows
open Evl (Ex ex_l ex_t fresh_back sz_of sz_lt)

/-! ### targets -/
/-- the slots that differ -/
def Diff (sl : List Nat) (σ σ' : L2.St) : Prop := σ'.length = σ.length ∧ ∀ j, j ∉ sl → σ'[j]? = σ[j]?
/-- what a target does with data -/
def TgD (K : Ek) (tg : TG) (d : PyData) (sl : List Nat) (δ δ' : List En) : Prop :=
  ∀ G0 H0 G H σ v, Ok K G0 H0 G H σ δ → Dp K.K G v d → ∀ Q : L2.St → Hp → Prop, (∀ σ', Diff sl σ σ' → Ok K G0 H0 G H σ' δ' → Q σ' H) → tg v σ H Q
def TgsD (K : Ek) (tg : TGs) (ds : List PyData) (sl : List Nat) (δ δ' : List En) : Prop :=
  ∀ G0 H0 G H σ vs, Ok K G0 H0 G H σ δ → DpAll K.K G vs ds → ∀ Q : L2.St → Hp → Prop, (∀ σ', Diff sl σ σ' → Ok K G0 H0 G H σ' δ' → Q σ' H) → tg vs σ H Q
def tG (c : Ctx) (e : Expr) : TG := fun v σ H Q => ∃ t, (∀ X, Fits c X → PG X e t) ∧ t v σ H Q
def tGs (c : Ctx) (es : List Expr) : TGs := fun v σ H Q => ∃ t, (∀ X, Fits c X → PGs X es t) ∧ t v σ H Q
def GX (c : Ctx) (e : Expr) (d : PyData) (sl : List Nat) (δ δ' : List En) : Prop := TgD c.ek (tG c e) d sl δ δ'
def GsX (c : Ctx) (es : List Expr) (ds : List PyData) (sl : List Nat) (δ δ' : List En) : Prop := TgsD c.ek (tGs c es) ds sl δ δ'
section
variable {c : Ctx} {X : Cx} {e : Expr} {es : List Expr} {d : PyData} {ds : List PyData} {δ δ1 δ2 : List En} {pos : Pos} {x : Str} {sl sl2 : List Nat}
theorem pg_tG (h : Fits c X) : PG X e (tG c e) := ⟨fun pins s σ H v u Q I r ⟨t, a, q⟩ => (a X h).run pins s σ H v u Q I r q⟩
theorem pgs_tGs (h : Fits c X) : PGs X es (tGs c es) := ⟨fun pins s σ H v u Q I r ⟨t, a, q⟩ => (a X h).run pins s σ H v u Q I r q⟩
theorem g_name {i : Nat} (hi : c.N[i]? = some x) (hx : c.sc.names.lookup x = some .local ∨ (c.sc.names.lookup x = some .cell ∧ c.fn = true)) : GX c (.Name x pos) d [i] δ (δ.set i (.sh d)) := fun G0 H0 G H σ v o h Q k =>
  ⟨gName i, fun X f => pg_name (f.N ▸ f.nd : X.N.Nodup) (by rw [f.N]; exact hi) (by show Loc X.env.scope x; rw [f.sc]; exact hx.imp (fun z => z) (fun z => z.1)) (by
    rcases hx with z | z
    · right; rw [f.sc]; exact z
    · left; exact f.fn z.2 x), k _ ⟨by rw [List.length_set], fun j hj => List.getElem?_set_ne (fun z => hj (by rw [z]; exact List.mem_singleton.mpr rfl))⟩ (o.to (o.toOkC.setS h))⟩
theorem gs_nil : GsX c [] [] [] δ δ := fun G0 H0 G H σ vs o h Q k => ⟨gNil, fun X f => pgs_nil, by cases h; rfl, k σ ⟨rfl, fun _ _ => rfl⟩ o⟩
theorem gs_cons (h1 : GX c e d sl δ δ1) (h2 : GsX c es ds sl2 δ1 δ2) (hs : ∀ env, (assignEach (e :: es) env).map (·.2) = assign e env :: (assignEach es env).map (·.2) := by intro _; with_unfolding_all rfl) : GsX c (e :: es) (d :: ds) (sl ++ sl2) δ δ2 := fun G0 H0 G H σ vs o h Q k => by
  refine ⟨gCons (tG c e) (tGs c es), fun X f => pgs_cons (pg_tG f) (pgs_tGs f) (hs _), ?_⟩
  cases h with
  | cons a b => exact ⟨_, _, rfl, h1 G0 H0 G H σ _ o a _ fun σ' w o' => h2 G0 H0 G H σ' _ o' b Q fun σ2 w2 o2 => k σ2 ⟨w2.1.trans w.1, fun j hj => (w2.2 j (fun z => hj (List.mem_append_right _ z))).trans (w.2 j (fun z => hj (List.mem_append_left _ z)))⟩ o2⟩
theorem g_tup {n : Nat} (h : GsX c es ds sl δ δ1) (hc : c.calm = true) (hl : ds.length = es.length := by with_unfolding_all rfl) (hn : ∀ env, (assignEach es env).length = es.length := by intro _; with_unfolding_all rfl) (hst : ∀ env, (assignEach es env).findIdx? (·.1) = none := by intro _; with_unfolding_all rfl) :
    GX c (.Tuple es n pos) (.tuple ds) sl δ δ1 := fun G0 H0 G H σ v o hd Q k => by
  refine ⟨gTup c.K es.length (tGs c es), fun X f => by rw [← f.K]; exact pg_tup (f.calm.trans hc) (pgs_tGs f) (hn _) (hst _), ?_⟩
  obtain ⟨a, xs, rfl, s1, q1⟩ := dp_tuple hd
  exact ⟨a, xs, rfl, ex_t o.gh s1, by rw [dpAll_len q1, hl], h G0 H0 G H σ xs o q1 Q k⟩
end

/-! ### statements -/
structure Po where
  nx : List En → Prop
  rt : En → List En → Prop
  bk : List En → Prop
  ct : List En → Prop
def StD (K : Ek) (ts : TS) (δ : List En) (P : Po) : Prop :=
  ∀ G0 H0 G H σ (D : Ends), Ok K G0 H0 G H σ δ →
    (∀ δ' G' H' σ', P.nx δ' → Ex G G' → Ok K G0 H0 G' H' σ' δ' → D.nx σ' H') →
    (∀ e v G' H' σ' δ', P.rt e δ' → OkC K.K G0 H0 G' H' σ' δ' → EnOk K.K H0 G' H' (some v) e → (∀ a, EnOwn (some v) a e → ∀ j, ¬ Owns δ' σ' j a) → D.rt v H') →
    (∀ δ' G' H' σ', P.bk δ' → Ex G G' → Ok K G0 H0 G' H' σ' δ' → D.bk σ' H') →
    (∀ δ' G' H' σ', P.ct δ' → Ex G G' → Ok K G0 H0 G' H' σ' δ' → D.ct σ' H') → ts D σ H
def tS (c : Ctx) (st : Stmt) : TS := fun D σ H => ∃ t, (∀ X, FitsS c X → PS X st t) ∧ t D σ H
def tSs (c : Ctx) (sts : List Stmt) : TS := fun D σ H => ∃ t, (∀ X, FitsS c X → PSs X sts t) ∧ t D σ H
def SX (c : Ctx) (st : Stmt) (δ : List En) (P : Po) : Prop := StD c.ek (tS c st) δ P
def SsX (c : Ctx) (sts : List Stmt) (δ : List En) (P : Po) : Prop := StD c.ek (tSs c sts) δ P
section
variable {c : Ctx} {X : Cx} {st : Stmt} {sts body els : List Stmt} {δ δ' : List En} {P : Po} {e a b t : Expr} {d : PyData} {ds : List PyData} {pos p1 p2 : Pos} {x : Str} {S : PyData → Prop}
theorem ps_tS (h : FitsS c X) : PS X st (tS c st) := ⟨fun pins s σ H D I ⟨t, a, q⟩ => (a X h).run pins s σ H D I q⟩
theorem pss_tSs (h : FitsS c X) : PSs X sts (tSs c sts) := ⟨fun pins s σ H D I ⟨t, a, q⟩ => (a X h).run pins s σ H D I q⟩
theorem SX.mk {t : TS} (h : ∀ X, FitsS c X → PS X st t) (q : StD c.ek t δ P) : SX c st δ P := fun G0 H0 G H σ D o k1 k2 k3 k4 => ⟨t, h, q G0 H0 G H σ D o k1 k2 k3 k4⟩
theorem SsX.mk {t : TS} (h : ∀ X, FitsS c X → PSs X sts t) (q : StD c.ek t δ P) : SsX c sts δ P := fun G0 H0 G H σ D o k1 k2 k3 k4 => ⟨t, h, q G0 H0 G H σ D o k1 k2 k3 k4⟩
theorem x_nil (h : P.nx δ) : SsX c [] δ P := SsX.mk (fun X f => pss_nil) fun G0 H0 G H σ D o k1 k2 k3 k4 => k1 δ G H σ h (Evl.Ex.refl G) o
theorem x_cons (h : SX c st δ ⟨fun δ' => SsX c sts δ' P, P.rt, P.bk, P.ct⟩) : SsX c (st :: sts) δ P :=
  SsX.mk (t := tSeq (tS c st) (tSs c sts)) (fun X f => pss_cons (ps_tS f) (pss_tSs f)) fun G0 H0 G H σ D o k1 k2 k3 k4 =>
    h G0 H0 G H σ { D with nx := tSs c sts D } o (fun δ' G' H' σ' q e o' => q G0 H0 G' H' σ' D o' (fun δ2 G2 H2 σ2 n e2 o2 => k1 δ2 G2 H2 σ2 n (e.trans e2) o2) k2
      (fun δ2 G2 H2 σ2 n e2 o2 => k3 δ2 G2 H2 σ2 n (e.trans e2) o2) (fun δ2 G2 H2 σ2 n e2 o2 => k4 δ2 G2 H2 σ2 n (e.trans e2) o2)) k2 k3 k4
theorem x_one (h : SX c st δ P) : SsX c [st] δ P := SsX.mk (t := tS c st) (fun X f => pss_one (ps_tS f)) h
/-- weaker ends -/
theorem SsX.imp {P' : Po} (h : SsX c sts δ P) (a1 : ∀ δ, P.nx δ → P'.nx δ) (a2 : ∀ d δ, P.rt d δ → P'.rt d δ) (a3 : ∀ δ, P.bk δ → P'.bk δ) (a4 : ∀ δ, P.ct δ → P'.ct δ) : SsX c sts δ P' := fun G0 H0 G H σ D o k1 k2 k3 k4 =>
  h G0 H0 G H σ D o (fun δ' G' H' σ' n => k1 δ' G' H' σ' (a1 _ n)) (fun d v G' H' σ' δ' n => k2 d v G' H' σ' δ' (a2 _ _ n)) (fun δ' G' H' σ' n => k3 δ' G' H' σ' (a3 _ n)) (fun δ' G' H' σ' n => k4 δ' G' H' σ' (a4 _ n))
/-- a list of one's own, from now on shared -/
theorem x_frz (i : Nat) (ds : List PyData) (hi : δ[i]? = some (.ow ds)) (h : SsX c sts (δ.set i (.sh (.list ds))) P) : SsX c sts δ P := fun G0 H0 G H σ D o k1 k2 k3 k4 => by
  obtain ⟨G', e, o'⟩ := o.toOkC.frz hi
  exact h G0 H0 G' H σ D (o.to o') (fun δ2 G2 H2 σ2 n e2 o2 => k1 δ2 G2 H2 σ2 n (e.trans e2) o2) k2 (fun δ2 G2 H2 σ2 n e2 o2 => k3 δ2 G2 H2 σ2 n (e.trans e2) o2) (fun δ2 G2 H2 σ2 n e2 o2 => k4 δ2 G2 H2 σ2 n (e.trans e2) o2)
/-- a name is forgotten -/
theorem x_drop (i : Nat) (h : SsX c sts (δ.set i .no) P) : SsX c sts δ P := fun G0 H0 G H σ D o k1 k2 k3 k4 => by
  have o' := o.toOkC.setN (i := i) (v := (σ[i]?).getD none)
  have e : σ.set i ((σ[i]?).getD none) = σ := by
    apply List.ext_getElem?
    intro j
    by_cases hj : i = j
    · subst hj
      by_cases hl : i < σ.length
      · rw [List.getElem?_set_self hl, List.getElem?_eq_getElem hl]; rfl
      · rw [List.getElem?_eq_none (by rw [List.length_set]; omega), List.getElem?_eq_none (by omega)]
    · rw [List.getElem?_set_ne hj]
  rw [e] at o'
  exact h G0 H0 G H σ D (o.to o') k1 k2 k3 k4
section
variable {i j : Nat}
def LocX (c : Ctx) (x : Str) : Prop := c.sc.names.lookup x = some .local ∨ (c.sc.names.lookup x = some .cell ∧ c.fn = true)
theorem LocX.loc (h : LocX c x) (f : Fits c X) : Loc X.env.scope x := by rw [f.sc]; exact h.imp (fun z => z) (fun z => z.1)
theorem LocX.fn (h : LocX c x) (f : Fits c X) : X.fn x = true ∨ X.env.scope.names.lookup x = some .local := by
  rcases h with z | z
  · right; rw [f.sc]; exact z
  · left; exact f.fn z.2 x
theorem ps_name (f : Fits c X) (hi : c.N[i]? = some x) (hx : LocX c x) (hs : ∀ env, swapsWith e (some (.Name x p1)) pos.line env = pure false) : PS X (.Assign [.Name x p1] e pos) (tAsg (tE c e) (gName i)) :=
  ps_set (f.N ▸ f.nd : X.N.Nodup) (by rw [f.N]; exact hi) (hx.loc f) (pe_tE f) (hs _) (hx.fn f)
/-- x = e -/
theorem x_asg (h : ES c e δ S) (hi : c.N[i]? = some x) (hx : LocX c x) (k : ∀ d, S d → P.nx (δ.set i (.sh d))) (hs : ∀ env, swapsWith e (some (.Name x p1)) pos.line env = pure false := by intro _; with_unfolding_all rfl) : SX c (.Assign [.Name x p1] e pos) δ P :=
  SX.mk (t := tAsg (tE c e) (gName i)) (fun X f => ps_name f.toFits hi hx hs) fun G0 H0 G H σ D o k1 k2 k3 k4 =>
    h G0 H0 G H σ o _ fun d v G' H' s m dv => k1 _ G' H' _ (k d s) m.g ((o.step m).to ((o.step m).toOkC.setS dv))
theorem x_asgE (h : EX c e δ d) (hi : c.N[i]? = some x) (hx : LocX c x) (k : P.nx (δ.set i (.sh d))) (hs : ∀ env, swapsWith e (some (.Name x p1)) pos.line env = pure false := by intro _; with_unfolding_all rfl) : SX c (.Assign [.Name x p1] e pos) δ P :=
  x_asg h hi hx (fun _ z => by subst z; exact k) hs
/-- x = a new list of its own -/
theorem x_asgO (h : OX c e δ ds) (hi : c.N[i]? = some x) (hx : LocX c x) (k : P.nx (δ.set i (.ow ds))) (hs : ∀ env, swapsWith e (some (.Name x p1)) pos.line env = pure false := by intro _; with_unfolding_all rfl) : SX c (.Assign [.Name x p1] e pos) δ P :=
  SX.mk (t := tAsg (tE c e) (gName i)) (fun X f => ps_name f.toFits hi hx hs) fun G0 H0 G H σ D o k1 k2 k3 k4 =>
    h G0 H0 G H σ o _ fun p vs G' H' m hp gp hh dv => k1 _ G' H' _ k m.g ((o.step m).to ((o.step m).toOkC.setO (fresh_back o.mv.h hp) gp hh dv fun j _ => o.toOkC.notOwn hp j))
/-- a, b = e -/
theorem x_asgT {es : List Expr} {n : Nat} (h : EX c e δ d) {sl : List Nat} (hg : GX c (.Tuple es n p1) d sl δ δ') (k : P.nx δ') (hs : ∀ env, swapsWithSole [.Tuple es n p1] e pos.line env = pure false := by intro _; with_unfolding_all rfl) (hw : ∀ env, swappedStores [.Tuple es n p1] e env = pure none := by intro _; with_unfolding_all rfl)
    (h1 : ∀ env, (assignEach [.Tuple es n p1] env).map (·.2) = [assign (.Tuple es n p1) env] := by intro _; with_unfolding_all rfl) : SX c (.Assign [.Tuple es n p1] e pos) δ P :=
  SX.mk (t := tAsg (tE c e) (tG c (.Tuple es n p1))) (fun X f => ps_asg (pe_tE f.toFits) (pg_tG f.toFits) (hs _) (hw _) (h1 _)) fun G0 H0 G H σ D o k1 k2 k3 k4 =>
    h G0 H0 G H σ o _ fun d v G' H' e1 m dv => by subst e1; exact hg G0 H0 G' H' σ v (o.step m) dv _ fun σ' _ o' => k1 _ G' H' σ' k m.g o'
/-- a, b = e1, e2 -/
theorem x_par {d1 d2 : PyData} {kt k2 : Nat} {y : Str} {px py pt pt2 : Pos} (h1 : EX c a δ d1) (h2 : EX c b δ d2) (hc : c.calm = true) (hi : c.N[i]? = some x) (hj : c.N[j]? = some y) (hij : i ≠ j)
    (hx : c.sc.names.lookup x = some .local) (hy : c.sc.names.lookup y = some .local) (k : P.nx ((δ.set i (.sh d1)).set j (.sh d2)))
    (hw : ∀ env : Env, env.scope = c.sc → swappedStores [.Tuple [.Name x px, .Name y py] kt pt] (.Tuple [a, b] k2 pt2) env = pure (some [x, y]))
    (hsa : ∀ env, starEach [a, b] env = (false, eval a env) :: starEach [b] env := by intro _; with_unfolding_all rfl) (hsb : ∀ env, starEach [b] env = (false, eval b env) :: starEach [] env := by intro _; with_unfolding_all rfl)
    (hs : ∀ env, swapsWithSole [.Tuple [.Name x px, .Name y py] kt pt] (.Tuple [a, b] k2 pt2) pos.line env = pure false := by intro _; with_unfolding_all rfl) :
    SX c (.Assign [.Tuple [.Name x px, .Name y py] kt pt] (.Tuple [a, b] k2 pt2) pos) δ P :=
  SX.mk (t := tPar i j (tA c [a, b])) (fun X f => ps_par (f.calm.trans hc) (f.N ▸ f.nd : X.N.Nodup) (by rw [f.N]; exact hi) (by rw [f.N]; exact hj) hij (by rw [f.sc]; exact hx) (by rw [f.sc]; exact hy) (pa_tA f.toFits) (hw _ f.sc) (hs _)) fun G0 H0 G H σ D o k1 k2 k3 k4 =>
    (a_cons h1 (a_cons h2 a_nil hsb) hsa) G0 H0 G H σ o _ fun vs G' H' m dv => by
      obtain ⟨v, w, rfl, dv1, dv2⟩ := dp_2 dv
      have o1 := (o.step m).toOkC.setS (i := i) dv1
      exact ⟨v, w, rfl, k1 _ G' H' _ k m.g ((o.step m).to (o1.setS (i := j) dv2))⟩
/-- x op= e (ints) -/
theorem x_aug {op : Operator} {f : Int → Int → Int} {n m : Int} (ho : ∀ X : Cx, PIp X op (ipI f)) (hδ : δ[i]? = some (.sh (.int n))) (h : EX c e δ (.int m)) (hi : c.N[i]? = some x) (hx : LocX c x) (k : P.nx (δ.set i (.sh (.int (f n m))))) :
    SX c (.AugAssign (.Name x p1) op e pos) δ P :=
  SX.mk (t := tAug i (tE c e) (ipI f)) (fun X g => ps_aug (g.N ▸ g.nd : X.N.Nodup) (by rw [g.N]; exact hi) (hx.loc g.toFits) (pe_tE g.toFits) (ho X) (hx.fn g.toFits)) fun G0 H0 G H σ D o k1 k2 k3 k4 => by
    obtain ⟨v, h1, h2⟩ := o.sh i _ hδ
    refine ⟨v, h1, h G0 H0 G H σ o _ fun d w G' H' e1 m' dv => ?_⟩
    subst e1
    exact ⟨n, m, dp_int h2, dp_int dv, k1 _ G' H' _ k m'.g ((o.step m').to ((o.step m').toOkC.setS (.int _)))⟩
theorem x_if {r : Bool} (h : TX c e δ r) (h1 : r = true → SsX c body δ P) (h2 : r = false → SsX c els δ P) : SX c (.If e body els pos) δ P :=
  SX.mk (t := tIfS (tT c e) (tSs c body) (tSs c els)) (fun X f => ps_if (pt_tT f.toFits) (pss_tSs f) (pss_tSs f)) fun G0 H0 G H σ D o k1 k2 k3 k4 =>
    h G0 H0 G H σ o _ fun G1 H1 m => by
      have o1 := o.step m
      have go : ∀ {l : List Stmt}, SsX c l δ P → tSs c l D σ H1 := fun {l} q => q G0 H0 G1 H1 σ D o1 (fun δ2 G2 H2 σ2 n e2 o2 => k1 δ2 G2 H2 σ2 n (m.g.trans e2) o2) k2 (fun δ2 G2 H2 σ2 n e2 o2 => k3 δ2 G2 H2 σ2 n (m.g.trans e2) o2) (fun δ2 G2 H2 σ2 n e2 o2 => k4 δ2 G2 H2 σ2 n (m.g.trans e2) o2)
      cases r with
      | true => rw [if_pos rfl]; exact go (h1 rfl)
      | false => rw [if_neg Bool.false_ne_true]; exact go (h2 rfl)
theorem x_ret (h : ES c e δ S) (k : ∀ d, S d → P.rt (.sh d) δ) : SX c (.Return (some e) pos) δ P :=
  SX.mk (t := tRet (tE c e)) (fun X f => ps_ret (pe_tE f.toFits)) fun G0 H0 G H σ D o k1 k2 k3 k4 =>
    h G0 H0 G H σ o _ fun d v G' H' s m dv => k2 (.sh d) v G' H' σ δ (k d s) (o.step m).toOkC ⟨v, rfl, dv⟩ fun _ z => z.elim
theorem x_retE (h : EX c e δ d) (k : P.rt (.sh d) δ) : SX c (.Return (some e) pos) δ P := x_ret h fun _ z => by subst z; exact k
/-- a new list is handed back, nobody else's -/
theorem x_retO (h : OX c e δ ds) (k : P.rt (.ow ds) δ) : SX c (.Return (some e) pos) δ P :=
  SX.mk (t := tRet (tE c e)) (fun X f => ps_ret (pe_tE f.toFits)) fun G0 H0 G H σ D o k1 k2 k3 k4 =>
    h G0 H0 G H σ o _ fun p vs G' H' m hp gp hh dv => k2 (.ow ds) (.ref p) G' H' σ δ k (o.step m).toOkC ⟨p, vs, rfl, fresh_back o.mv.h hp, gp, hh, dv⟩ fun a z j => by have z : some (V.ref p) = some (.ref a) := z; cases z; exact o.toOkC.notOwn hp j
theorem x_retN (k : P.rt (.sh .none) δ) : SX c (.Return none pos) δ P :=
  SX.mk (fun X f => ps_retN) fun G0 H0 G H σ D o k1 k2 k3 k4 => k2 (.sh .none) .non G H σ δ k o.toOkC ⟨.non, rfl, .non⟩ fun _ z => z.elim
theorem x_pass (k : P.nx δ) : SX c (.Pass pos) δ P := SX.mk (fun X f => ps_pass) fun G0 H0 G H σ D o k1 k2 k3 k4 => k1 δ G H σ k (Evl.Ex.refl G) o
theorem x_brk (k : P.bk δ) : SX c (.Break pos) δ P := SX.mk (fun X f => ps_break) fun G0 H0 G H σ D o k1 k2 k3 k4 => k3 δ G H σ k (Evl.Ex.refl G) o
theorem x_cont (k : P.ct δ) : SX c (.Continue pos) δ P := SX.mk (fun X f => ps_continue) fun G0 H0 G H σ D o k1 k2 k3 k4 => k4 δ G H σ k (Evl.Ex.refl G) o
/-- an expression whose value is dropped -/
theorem x_expr (h : ES c e δ S) (k : (∃ d, S d) → P.nx δ) (hs : ∀ env, swapsWith e none pos.line env = pure false := by intro _; with_unfolding_all rfl) : SX c (.Expr e pos) δ P :=
  SX.mk (t := tDrop (tE c e)) (fun X f => ps_expr (pe_tE f.toFits) (hs _)) fun G0 H0 G H σ D o k1 k2 k3 k4 =>
    h G0 H0 G H σ o _ fun d v G' H' s m dv => k1 δ G' H' σ (k ⟨d, s⟩) m.g (o.step m)
/-- xs.append(e), xs a name's own -/
theorem x_app {p3 p4 p5 : Pos} (hN : c.N[i]? = some x) (hv : Vis c.sc x) (hδ : δ[i]? = some (.ow ds)) (h : EX c e δ d) (hl : ds.length < 100000) (k : P.nx (δ.set i (.ow (ds ++ [d]))))
    (hd : (x == ("__debug__" : Str)) = false := by decide) (hcd : (x == ("__classdict__" : Str)) = false := by decide) (hline : (p3.endLine == p4.line) = true := by with_unfolding_all rfl)
    (hs : ∀ env, starEach [e] env = (false, eval e env) :: starEach [] env := by intro _; with_unfolding_all rfl)
    (hb : ∀ env, attributeBase (.Name x p2) "append" env (eval (.Name x p2) env) = eval (.Name x p2) env := by intro _; with_unfolding_all rfl)
    (hf : ∀ env, ((backTo p4 (starEach [e] env)).all (fun x => !x.1) && (backToKw p4 (keywordEach [] env)).all (fun x => x.1.isSome) && decide (([e] : List Expr).length + ([] : List Keyword).length + (if ([] : List Keyword).isEmpty then 0 else 1) < 30)) = true := by intro _; with_unfolding_all rfl)
    (hp : ∀ env, (backTo p4 (starEach [] env)).any (·.1) = false := by intro _; with_unfolding_all rfl) (hw : ∀ env, swapsWith (.Call (.Attribute (.Name x p2) "append" p3) [e] [] p4) none p5.line env = pure false := by intro _; with_unfolding_all rfl) :
    SX c (.Expr (.Call (.Attribute (.Name x p2) "append" p3) [e] [] p4) p5) δ P :=
  SX.mk (t := tDrop (tBM c.K "list" rAppend (tVar i) (tA c [e]))) (fun X f => ps_expr (by
    rw [← f.K]
    exact pe_bm PySem.F.plainAttrs_list PySem.F.slot_list_append PySem.F.type_list_append mt_append (pe_var (by rw [f.N]; exact hN) (by rw [f.sc]; exact hv) hd hcd) (pa_tA f.toFits) (hb _) (hf _) hline (hs _) (hp _)) (hw _)) fun G0 H0 G H σ D o k1 k2 k3 k4 => by
    obtain ⟨p, vs, q1, q2, q3, q4, q5⟩ := o.ow i ds hδ
    refine ⟨.ref p, q1, .inl ⟨rfl, _, SqL.of q4⟩, ?_⟩
    refine (a_cons h a_nil hs) G0 H0 G H σ o _ fun ws G1 H1 m dvs => ?_
    obtain ⟨v, rfl, dv⟩ := dp_1 dvs
    have o1 := o.step m
    exact ⟨p, vs, v, rfl, rfl, m.h p _ q4, sz_lt (by rw [dpAll_len q5]; exact hl), k1 _ G1 _ σ k m.g (o1.to (o1.toOkC.mut hδ q1 (dpAll_app (dpAll_ex m.g q5) (.cons dv .nil))))⟩
/-- xs[i] = e, xs a name's own -/
theorem x_setO {n : Int} {m : Nat} (hN : c.N[i]? = some x) (hv : Vis c.sc x) (hδ : δ[i]? = some (.ow ds)) (h : EX c e δ d) (h2 : EX c b δ (.int n)) (hj : ixN ds.length n = some m) (k : P.nx (δ.set i (.ow (ds.set m d))))
    (hd : (x == ("__debug__" : Str)) = false := by decide) (hcd : (x == ("__classdict__" : Str)) = false := by decide)
    (ha : ∀ (pos : Pos) env v, assign (.Subscript (.Name x p2) b pos) env v = (do
      let ov ← holding [v] (eval (.Name x p2) env)
      let iv ← holding [v, ov] (eval b env)
      standAt pos
      holding [v, ov, iv] (setItem ov iv v)
      release [v, ov, iv] []) := by intro _ _ _; with_unfolding_all rfl)
    (hs : ∀ env, swapsWithSole [.Subscript (.Name x p2) b p1] e pos.line env = pure false := by intro _; with_unfolding_all rfl) (hw : ∀ env, swappedStores [.Subscript (.Name x p2) b p1] e env = pure none := by intro _; with_unfolding_all rfl)
    (h1 : ∀ env, (assignEach [.Subscript (.Name x p2) b p1] env).map (·.2) = [assign (.Subscript (.Name x p2) b p1) env] := by intro _; with_unfolding_all rfl) : SX c (.Assign [.Subscript (.Name x p2) b p1] e pos) δ P :=
  SX.mk (t := tAsg (tE c e) (gSub (tVar i) (tE c b) rSetL)) (fun X f => ps_asg (pe_tE f.toFits) (pg_sub (pe_var (by rw [f.N]; exact hN) (by rw [f.sc]; exact hv) hd hcd) (pe_tE f.toFits) set_list (fun v => ha _ _ v)) (hs _) (hw _) (h1 _)) fun G0 H0 G H σ D o k1 k2 k3 k4 =>
    h G0 H0 G H σ o _ fun d' v G1 H1 e1 m1 dv => by
      subst e1
      have o1 := o.step m1
      obtain ⟨p, vs, q1, q2, q3, q4, q5⟩ := o1.ow i ds hδ
      refine ⟨.ref p, q1, h2 G0 H0 G1 H1 σ o1 _ fun d2 w G2 H2 e2 m2 dw => ?_⟩
      subst e2
      have o2 := o1.step m2
      exact ⟨p, vs, n, m, rfl, dp_int dw, m2.h p _ q4, by rw [dpAll_len q5]; exact hj, k1 _ G2 _ σ k (m1.trans m2).g (o2.to (o2.toOkC.mut hδ q1 (dpAll_set m (dpAll_ex m2.g q5) (dp_ex m2.g dv))))⟩

/-! ### loops -/
/-- for over a list or a tuple of data -/
def iAny (K : PySem.W.Frag) (tl : TE) (lst : Bool) : TI := if lst then iList K tl else iTup K tl
theorem pi_any {tg : Expr} (lst : Bool) (f : Fits c X) : PI X tg e (iAny c.K (tE c e) lst) := by
  rw [← f.K]
  cases lst with
  | true => exact pi_list (pe_tE f)
  | false => exact pi_tup (pe_tE f)
theorem x_for (lst : Bool) (I : Nat → List En → Prop) (h : EX c e δ (if lst then .list ds else .tuple ds)) (hc : c.calm = true) (h0 : I 0 δ)
    (hs : ∀ n d δ1, ds[n]? = some d → I n δ1 → ∃ sl δ2, GX c t d sl δ1 δ2 ∧ SsX c body δ2 ⟨I (n + 1), P.rt, P.nx, I (n + 1)⟩) (hd : ∀ δ1, I ds.length δ1 → P.nx δ1)
    (hf : ∀ env v, foldedSetIterable e env v = pure v := by intro _ _; with_unfolding_all rfl) : SX c (.For t e body [] pos) δ P :=
  SX.mk (t := tFor (iAny c.K (tE c e) lst) (tG c t) (tSs c body)) (fun X f => ps_for (f.own hc) (f.calm.trans hc) (pi_any lst f.toFits) (pg_tG f.toFits) (pss_tSs f) (hf _)) fun G0 H0 G H σ D o k1 k2 k3 k4 => by
    have turn : ∀ (G1 : Hp) (vs : List V), Ex G G1 → DpAll c.K G1 vs ds → ∀ n v σ' H', vs[n]? = some v → (∃ δ' G', Ex G1 G' ∧ Ok c.ek G0 H0 G' H' σ' δ' ∧ I n δ') →
        tG c t v σ' H' fun σ2 H2 => tSs c body { D with nx := fun σ3 H3 => ∃ δ' G', Ex G1 G' ∧ Ok c.ek G0 H0 G' H3 σ3 δ' ∧ I (n + 1) δ', ct := fun σ3 H3 => ∃ δ' G', Ex G1 G' ∧ Ok c.ek G0 H0 G' H3 σ3 δ' ∧ I (n + 1) δ', bk := D.nx } σ2 H2 := by
      intro G1 vs e1 dv n v σ' H' hv ⟨δ1, G', e2, o1, i1⟩
      obtain ⟨d, hd, dd⟩ := dpAll_get' dv hv
      obtain ⟨sl, δ2, g2, b2⟩ := hs n d δ1 hd i1
      refine g2 G0 H0 G' H' σ' v o1 (dp_ex e2 dd) _ fun σ2 _ o2 => ?_
      exact b2 G0 H0 G' H' σ2 _ o2 (fun δ3 G3 H3 σ3 n3 e3 o3 => ⟨δ3, G3, e2.trans e3, o3, n3⟩) k2 (fun δ3 G3 H3 σ3 n3 e3 o3 => k1 δ3 G3 H3 σ3 n3 ((e1.trans e2).trans e3) o3) (fun δ3 G3 H3 σ3 n3 e3 o3 => ⟨δ3, G3, e2.trans e3, o3, n3⟩)
    cases lst with
    | true =>
      refine h G0 H0 G H σ o _ fun d v G1 H1 e1 m dv => ?_
      subst e1
      obtain ⟨a, vs, rfl, s1, q1⟩ := dp_list dv
      refine ⟨a, rfl, ⟨vs, ex_l m.gh s1⟩, for_list (K := c.K) (xs := vs) (fun n σ' H' => ∃ δ' G', Ex G1 G' ∧ Ok c.ek G0 H0 G' H' σ' δ' ∧ I n δ') ⟨δ, G1, Evl.Ex.refl G1, o.step m, h0⟩
        (fun n σ' H' _ ⟨δ1, G', e2, o1, _⟩ => ex_l (e2.trans o1.gh) s1) (fun n v σ' H' hv q => turn G1 vs m.g q1 n v σ' H' hv q) fun σ' H' ⟨δ1, G', e2, o1, i1⟩ => ?_⟩
      rw [dpAll_len q1] at i1
      exact k1 δ1 G' H' σ' (hd δ1 i1) (m.g.trans e2) o1
    | false =>
      refine h G0 H0 G H σ o _ fun d v G1 H1 e1 m dv => ?_
      subst e1
      obtain ⟨a, vs, rfl, s1, q1⟩ := dp_tuple dv
      refine ⟨a, rfl, ⟨vs, ex_t m.gh s1⟩, for_tup (K := c.K) (xs := vs) (fun n σ' H' => ∃ δ' G', Ex G1 G' ∧ Ok c.ek G0 H0 G' H' σ' δ' ∧ I n δ') ⟨δ, G1, Evl.Ex.refl G1, o.step m, h0⟩
        (fun n σ' H' _ ⟨δ1, G', e2, o1, _⟩ => ex_t (e2.trans o1.gh) s1) (fun n v σ' H' hv q => turn G1 vs m.g q1 n v σ' H' hv q) fun σ' H' ⟨δ1, G', e2, o1, i1⟩ => ?_⟩
      rw [dpAll_len q1] at i1
      exact k1 δ1 G' H' σ' (hd δ1 i1) (m.g.trans e2) o1
/-- while, by a word with a measure -/
theorem x_while (hc : c.calm = true) (I : List En → Prop) (μ : List En → Nat) (h0 : I δ) (hs : ∀ δ1, I δ1 → ∃ r, TX c e δ1 r ∧ (r = true → SsX c body δ1 ⟨fun δ2 => I δ2 ∧ μ δ2 < μ δ1, P.rt, P.nx, fun δ2 => I δ2 ∧ μ δ2 < μ δ1⟩) ∧ (r = false → P.nx δ1)) :
    SX c (.While e body [] pos) δ P :=
  SX.mk (t := tWhile (tT c e) (tSs c body)) (fun X f => ps_while (f.own hc) (pt_tT f.toFits) (pss_tSs f)) fun G0 H0 G H σ D o k1 k2 k3 k4 => by
    refine ⟨fun m σ' H' => ∃ δ' G', Ex G G' ∧ Ok c.ek G0 H0 G' H' σ' δ' ∧ I δ' ∧ μ δ' = m, ⟨μ δ, δ, G, Evl.Ex.refl G, o, h0, rfl⟩, ?_⟩
    rintro m σ1 H1 ⟨δ1, G1, e1, o1, i1, rfl⟩
    obtain ⟨r, hr, ht, hf⟩ := hs δ1 i1
    refine hr G0 H0 G1 H1 σ1 o1 _ fun G2 H2 m2 => ?_
    have o2 := o1.step m2
    cases r with
    | true =>
      rw [if_pos rfl]
      refine ⟨fun σ3 H3 => ∃ δ3 G3, Ex G G3 ∧ Ok c.ek G0 H0 G3 H3 σ3 δ3 ∧ I δ3 ∧ μ δ3 < μ δ1, fun σ3 H3 ⟨δ3, G3, e3, o3, i3, l3⟩ => ⟨μ δ3, l3, δ3, G3, e3, o3, i3, rfl⟩, ?_⟩
      exact ht rfl G0 H0 G2 H2 σ1 _ o2 (fun δ3 G3 H3 σ3 n3 e3 o3 => ⟨δ3, G3, (e1.trans m2.g).trans e3, o3, n3.1, n3.2⟩) k2 (fun δ3 G3 H3 σ3 n3 e3 o3 => k1 δ3 G3 H3 σ3 n3 ((e1.trans m2.g).trans e3) o3) (fun δ3 G3 H3 σ3 n3 e3 o3 => ⟨δ3, G3, (e1.trans m2.g).trans e3, o3, n3.1, n3.2⟩)
    | false =>
      rw [if_neg Bool.false_ne_true]
      exact k1 δ1 G2 H2 σ1 (hf rfl) (e1.trans m2.g) o2
end
end
end Dy

set_option Elab.async false
set_option linter.all false
set_option maxRecDepth 100000
set_option maxHeartbeats 2000000
namespace Dy
open PySem L2 PySem.Spec PyProof.Rows
open Evl (Ex ex_l ex_t fresh_back sz_of sz_lt)

/-! ### ranges of any size -/
theorem turn_long {P : Program} {w : World} {K : PySem.W.Frag} {tg : Expr} (it : Addr) (lo : Int) (n : Nat) : Turn P w K tg (Itr lo n) [it] it (fun i h => IsLongIter h it (lo + (i : Nat) * 1) ((n : Int) - (i : Nat)) 1) where
  mem := by simp
  obj := fun i h st b hb => by
    have e : b = it := by simpa using hb
    subst e
    exact ⟨_, st, fun v z => by
      have z' : Data.fields _ = Data.cell v := z
      cases z'⟩
  keep := fun i h h' st k => k it (by simp) _ st
  item := by
    intro X hP hw hK hc i pins s σ H E I hf st hg
    subst hP hw hK
    obtain ⟨f0, f1, f2, f3, f4, f5⟩ := hf it (by simp)
    have W := Walks.longrange (prog := X.prog) (w := X.w) (I.ok.hd hc) it lo 1 n
    refine W.item i s _ _ hg st fun v h' tk hv st' kk => ?_
    obtain ⟨t, rfl⟩ := hv
    have I1 : Inv X pins σ H { s with heap := h', toks := tk } := I.turned (fun b o hb e => kk b o (by simpa using hb) e) f0 f1 f3 f4 f5
    refine ⟨_, rfl, go_of (s := { s with heap := h', toks := tk }) (n := "longrange_iterator") st' rfl rfl (by decide) ⟨.int (lo + i), H, I1, ⟨t, ?_⟩, ⟨rfl, rfl⟩, st', fun b hb => (hf b hb).1⟩⟩
    rw [Int.mul_one]
  done := by
    intro X hP hw hK hc i pins s σ H E I hf st hg
    subst hP hw hK
    obtain ⟨f0, f1, f2, f3, f4, f5⟩ := hf it (by simp)
    exact wpAny_pyNext_long_end (I.ok.hd hc) st (by have : n ≤ i := hg; omega) fun h' eb => ⟨rfl, I.turned (t' := s.toks) (fun b o hb e => eb b o (by simpa using hb) e) f0 f1 f3 f4 f5⟩
  self := fun _ _ _ _ _ st h => wpAny_pyIter_longiter st h
section
variable {X : Cx} {tg : Expr}
theorem range_itB {pins : List (Addr × Obj)} {σ : L2.St} {H : Hp} {s : Shared} {R : It → Hp → Prop} {E : Value → Shared → Prop} {lo hi : Int} {t u v : Tok} {tk : Nat} (I : Inv X pins σ H s)
    (q : R (Itr lo (hi - lo).toNat) H) : wpAny (model X.prog X.w) X.A (pyIter (.ref s.heap.objs.size)) (PIE X pins σ tg R) E { s with heap := s.heap.push { cls := .type "range", data := .fields #[.int lo t, .int hi u, .int 1 v] }, toks := tk } := by
  have I1 : Inv X pins σ H { s with heap := s.heap.push { cls := .type "range", data := .fields #[.int lo t, .int hi u, .int 1 v] }, toks := tk } := I.kept fun b o e => Heap.get?_push_of_some _ e
  have e1 : lo + ((0 : Nat) : Int) * 1 = lo := by simp
  have e2 : (((hi - lo).toNat : Nat) : Int) - ((0 : Nat) : Int) = Builtin.Range.rangeSize lo hi 1 := by rw [rangeSize_one]; split <;> omega
  cases hs : Builtin.Range.small lo hi 1 with
  | true =>
    refine wpAny_pyIter_range (IsRange.new ..) hs ?_
    refine ⟨(s.heap.push { cls := .type "range", data := .fields #[.int lo t, .int hi u, .int 1 v] }).objs.size, [(s.heap.push { cls := .type "range", data := .fields #[.int lo t, .int hi u, .int 1 v] }).objs.size], _, _, H, rfl,
      I1.kept (t' := tk) fun b o e => Heap.get?_push_of_some _ e, turn_range _ lo (hi - lo).toNat, ?_, fun b hb => ?_, q⟩
    · show IsRangeIter _ _ (lo + ((0 : Nat) : Int) * 1) ((((hi - lo).toNat : Nat) : Int) - ((0 : Nat) : Int)) 1
      rw [e1, e2]
      exact Heap.get?_push_size _ rfl
    · have e : b = (s.heap.push { cls := .type "range", data := .fields #[.int lo t, .int hi u, .int 1 v] }).objs.size := by simpa using hb
      subst e
      exact I1.fpOk (Nat.le_refl _) (I1.hok.fresh (Nat.le_refl _))
  | false =>
    refine wpAny_pyIter_longrange (IsRange.new ..) hs ?_
    refine ⟨(s.heap.push { cls := .type "range", data := .fields #[.int lo t, .int hi u, .int 1 v] }).objs.size, [(s.heap.push { cls := .type "range", data := .fields #[.int lo t, .int hi u, .int 1 v] }).objs.size], _, _, H, rfl,
      I1.kept (t' := tk) fun b o e => Heap.get?_push_of_some _ e, turn_long _ lo (hi - lo).toNat, ?_, fun b hb => ?_, q⟩
    · show IsLongIter _ _ (lo + ((0 : Nat) : Int) * 1) ((((hi - lo).toNat : Nat) : Int) - ((0 : Nat) : Int)) 1
      rw [e1, e2]
      exact Heap.get?_push_size _ rfl
    · have e : b = (s.heap.push { cls := .type "range", data := .fields #[.int lo t, .int hi u, .int 1 v] }).objs.size := by simpa using hb
      subst e
      exact I1.fpOk (Nat.le_refl _) (I1.hok.fresh (Nat.le_refl _))
def iRgB1 (ta : TA) : TI := fun σ H R => ta σ H fun vs H1 => ∃ j : Int, vs = [.int j] ∧ R (Itr 0 j.toNat) H1
def iRgB2 (ta : TA) : TI := fun σ H R => ta σ H fun vs H1 => ∃ i j : Int, vs = [.int i, .int j] ∧ R (Itr i (j - i).toNat) H1
theorem pi_rgB1 {a : Expr} {ta : TA} {p pos : Pos} (hg : Gl X "range") (hm : X.mg "range" = none) (ha : PA X [a] ta) (hs : starEach [a] X.env = [(false, eval a X.env)]) : PI X tg (.Call (.Name "range" p) [a] [] pos) (iRgB1 ta) := by
  refine ⟨fun pins s σ H R I h => ?_⟩
  refine Call_ (ld_blt I hg hm boot_range (PyProof.Rows.callWith_type1 (thn (ha.run pos pins s σ H _ I h) fun us s1 ⟨vs, H1, I1, r1, q1⟩ => ?_) hs rfl))
  obtain ⟨j, e, q⟩ := q1
  subst e
  cases r1 with
  | cons r rr =>
    cases rr
    obtain ⟨t, rfl⟩ := r
    exact call_range_1 (range_itB I1 (by simpa using q))
theorem pi_rgB2 {a b : Expr} {ta : TA} {p pos : Pos} (hg : Gl X "range") (hm : X.mg "range" = none) (ha : PA X [a, b] ta) (hs : starEach [a, b] X.env = [(false, eval a X.env), (false, eval b X.env)]) (hs2 : starEach [b] X.env = [(false, eval b X.env)]) :
    PI X tg (.Call (.Name "range" p) [a, b] [] pos) (iRgB2 ta) := by
  refine ⟨fun pins s σ H R I h => ?_⟩
  refine Call_ (ld_blt I hg hm boot_range (PyProof.Rows.callWith_type1 (thn (ha.run pos pins s σ H _ I h) fun us s1 ⟨vs, H1, I1, r1, q1⟩ => ?_) (by rw [hs, hs2]) (by rw [hs2]; rfl)))
  obtain ⟨i, j, e, q⟩ := q1
  subst e
  cases r1 with
  | cons r rr =>
    cases rr with
    | cons r' rr =>
      cases rr
      obtain ⟨t, rfl⟩ := r
      obtain ⟨t', rfl⟩ := r'
      exact call_range_2 (range_itB I1 q)
end
section
variable {c : Ctx} {X : Cx} {body : List Stmt} {δ δ' : List En} {P : Po} {a b t e : Expr} {pos p1 p2 : Pos} {lo hi : Int}
/-- what a for over a range asks of its walk -/
theorem forR {wi : TI} (I : Nat → List En → Prop) (n : Nat) (hw : ∀ G0 H0 G H σ, Ok c.ek G0 H0 G H σ δ → ∀ R : It → Hp → Prop, (∀ G' H', Mv G H G' H' → R (Itr lo n) H') → wi σ H R) (hc : c.calm = true) (h0 : I 0 δ)
    (hs : ∀ k δ1, k < n → I k δ1 → ∃ sl δ2, GX c t (.int (lo + k)) sl δ1 δ2 ∧ SsX c body δ2 ⟨I (k + 1), P.rt, P.nx, I (k + 1)⟩) (hd : ∀ δ1, I n δ1 → P.nx δ1) : StD c.ek (tFor wi (tG c t) (tSs c body)) δ P := fun G0 H0 G H σ D o k1 k2 k3 k4 =>
  hw G0 H0 G H σ o _ fun G1 H1 m => for_range (lo := lo) (n := n) (fun k σ' H' => ∃ δ' G', Ex G G' ∧ Ok c.ek G0 H0 G' H' σ' δ' ∧ I k δ') ⟨δ, G1, m.g, o.step m, h0⟩
    (fun k σ' H' hk ⟨δ1, G', e2, o1, i1⟩ => by
      obtain ⟨sl, δ2, g2, b2⟩ := hs k δ1 hk i1
      refine g2 G0 H0 G' H' σ' _ o1 (.int _) _ fun σ2 _ o2 => ?_
      exact b2 G0 H0 G' H' σ2 _ o2 (fun δ3 G3 H3 σ3 n3 e3 o3 => ⟨δ3, G3, e2.trans e3, o3, n3⟩) k2 (fun δ3 G3 H3 σ3 n3 e3 o3 => k1 δ3 G3 H3 σ3 n3 (e2.trans e3) o3) (fun δ3 G3 H3 σ3 n3 e3 o3 => ⟨δ3, G3, e2.trans e3, o3, n3⟩))
    fun σ' H' ⟨δ1, G', e2, o1, i1⟩ => k1 δ1 G' H' σ' (hd δ1 i1) e2 o1
theorem x_forR1 (I : Nat → List En → Prop) (h : EX c a δ (.int hi)) (hc : c.calm = true) (hg : c.sc.names.lookup ("range" : Str) = some .globalImplicit) (hm : c.mg "range" = none) (h0 : I 0 δ)
    (hs : ∀ (k : Nat) δ1, (k : Int) < hi → I k δ1 → ∃ sl δ2, GX c t (.int k) sl δ1 δ2 ∧ SsX c body δ2 ⟨I (k + 1), P.rt, P.nx, I (k + 1)⟩) (hd : ∀ δ1, I hi.toNat δ1 → P.nx δ1)
    (hsa : ∀ env, starEach [a] env = [(false, eval a env)] := by intro _; with_unfolding_all rfl) : SX c (.For t (.Call (.Name "range" p1) [a] [] p2) body [] pos) δ P :=
  SX.mk (t := tFor (iRgB1 (tA c [a])) (tG c t) (tSs c body)) (fun X f => ps_for (f.own hc) (f.calm.trans hc) (pi_rgB1 (gl_of f.toFits hg) (by rw [f.mg]; exact hm) (pa_tA f.toFits) (hsa _)) (pg_tG f.toFits) (pss_tSs f)) (forR (lo := 0) I hi.toNat (fun G0 H0 G H σ o R k =>
    (a_cons h a_nil hsa) G0 H0 G H σ o _ fun vs G1 H1 m dv => by
      obtain ⟨v, rfl, dw⟩ := dp_1 dv
      exact ⟨hi, by rw [dp_int dw], k G1 H1 m⟩) hc h0 (fun k δ1 hk i1 => by rw [Int.zero_add]; exact hs k δ1 (by omega) i1) hd)
theorem x_forR2 (I : Nat → List En → Prop) (h : EX c a δ (.int lo)) (h2 : EX c b δ (.int hi)) (hc : c.calm = true) (hg : c.sc.names.lookup ("range" : Str) = some .globalImplicit) (hm : c.mg "range" = none) (h0 : I 0 δ)
    (hs : ∀ (k : Nat) δ1, lo + (k : Int) < hi → I k δ1 → ∃ sl δ2, GX c t (.int (lo + k)) sl δ1 δ2 ∧ SsX c body δ2 ⟨I (k + 1), P.rt, P.nx, I (k + 1)⟩) (hd : ∀ δ1, I (hi - lo).toNat δ1 → P.nx δ1)
    (hsa : ∀ env, starEach [a, b] env = [(false, eval a env), (false, eval b env)] := by intro _; with_unfolding_all rfl) (hsb : ∀ env, starEach [b] env = [(false, eval b env)] := by intro _; with_unfolding_all rfl) : SX c (.For t (.Call (.Name "range" p1) [a, b] [] p2) body [] pos) δ P :=
  SX.mk (t := tFor (iRgB2 (tA c [a, b])) (tG c t) (tSs c body)) (fun X f => ps_for (f.own hc) (f.calm.trans hc) (pi_rgB2 (gl_of f.toFits hg) (by rw [f.mg]; exact hm) (pa_tA f.toFits) (hsa _) (hsb _)) (pg_tG f.toFits) (pss_tSs f)) (forR (lo := lo) I (hi - lo).toNat (fun G0 H0 G H σ o R k =>
    (a_cons h (a_cons h2 a_nil hsb) (fun env => by rw [hsa, hsb])) G0 H0 G H σ o _ fun vs G1 H1 m dv => by
      obtain ⟨v, w, rfl, dv1, dw⟩ := dp_2 dv
      exact ⟨lo, hi, by rw [dp_int dv1, dp_int dw], k G1 H1 m⟩) hc h0 (fun k δ1 hk i1 => hs k δ1 (by omega) i1) hd)
end

/-! ### a def and its promise -/
/-- the context of a def's body, by data -/
def ctxOf (P : Program) (w : World) (K : PySem.W.Frag) (mg : Str → Option Value) (base : Heap) (N : List Str) (sc : Scope) (k : Nat) (W : L2.WX) (xc : XD → List En → Prop) : Ctx := ⟨P, w, K, mg, base, N, sc, k, W, xc, true, true, none⟩
/-- the entry's state -/
def start0 (n : Nat) (ds : List PyData) : List En := ds.map En.sh ++ List.replicate (n - ds.length) .no
theorem start_ok {K : PySem.W.Frag} {G H : Hp} {N : List Str} {vs : List V} {ds : List PyData} (e : Ex G H) (h : DpAll K G vs ds) : OkC K G H G H (L2.start N vs) (start0 N.length ds) := by
  have hl := dpAll_len h
  have nos : ∀ (i : Nat) (es : List PyData), (start0 N.length ds)[i]? ≠ some (.ow es) := fun i es q => by
    unfold start0 at q
    by_cases c : i < ds.length
    · rw [List.getElem?_append_left (by rw [List.length_map]; exact c), List.getElem?_map] at q
      cases z : ds[i]? with
      | none => rw [z] at q; cases q
      | some d => rw [z] at q; cases q
    · rw [List.getElem?_append_right (by rw [List.length_map]; omega), List.getElem?_replicate] at q
      split at q <;> cases q
  have nor : ∀ (i : Nat) (v : V), (start0 N.length ds)[i]? ≠ some (.raw v) := fun i v q => by
    unfold start0 at q
    by_cases c : i < ds.length
    · rw [List.getElem?_append_left (by rw [List.length_map]; exact c), List.getElem?_map] at q
      cases z : ds[i]? with
      | none => rw [z] at q; cases q
      | some d => rw [z] at q; cases q
    · rw [List.getElem?_append_right (by rw [List.length_map]; omega), List.getElem?_replicate] at q
      split at q <;> cases q
  have nrs : ∀ (i : Nat) (R : Res), (start0 N.length ds)[i]? ≠ some (.rs R) := fun i R q => by
    unfold start0 at q
    by_cases c : i < ds.length
    · rw [List.getElem?_append_left (by rw [List.length_map]; exact c), List.getElem?_map] at q
      cases z : ds[i]? with
      | none => rw [z] at q; cases q
      | some d => rw [z] at q; cases q
    · rw [List.getElem?_append_right (by rw [List.length_map]; omega), List.getElem?_replicate] at q
      split at q <;> cases q
  have noo : ∀ (i : Nat) (a : Addr), ¬ Owns (start0 N.length ds) (L2.start N vs) i a := fun i a z => by
    rcases z with ⟨es, q, _⟩ | ⟨R, q, _⟩
    · exact nos i es q
    · exact nrs i R q
  refine ⟨.refl e, by simp [L2.start, start0, hl], fun i d q => ?_, fun i es q => absurd q (nos i es), fun i R q => absurd q (nrs i R), fun i j a q => absurd q (noo i a), fun i v q => absurd q (nor i v)⟩
  unfold start0 at q
  by_cases c : i < ds.length
  · rw [List.getElem?_append_left (by rw [List.length_map]; exact c), List.getElem?_map] at q
    cases z : ds[i]? with
    | none => rw [z] at q; cases q
    | some d' =>
      rw [z] at q; cases q
      obtain ⟨v, h1, h2⟩ := dpAll_get h z
      refine ⟨v, ?_, h2⟩
      unfold L2.start
      rw [List.getElem?_append_left (by rw [List.length_map]; omega), List.getElem?_map, h1]
      rfl
  · rw [List.getElem?_append_right (by rw [List.length_map]; omega), List.getElem?_replicate] at q
    split at q <;> cases q
/-- what is handed back is shared -/
def shR (r : PyData → Prop) : En → Prop
  | .sh d => r d
  | _ => False
section
variable {P : Program} {w : World} {K : PySem.W.Frag} {mg : Str → Option Value} {base : Heap} {α : Type} {args : α → List PyData} {pre : α → Prop} {res : α → PyData → Prop} {xr : α → XD → Prop}
/-- the rule for a def -/
theorem def_ok {x qual : Str} {st : Stmt} {f : Addr} {fd : FuncData} {N ps : List Str} {k : Nat} (F : FunD K x qual (defArgs st) (defBody st) (defScope st) [] [] f fd) (S : FnScope N ps (defScope st)) (hl : ∀ a, (args a).length = ps.length)
    (hb : ∀ (a : α) (W : L2.WX), pre a → SsX (ctxOf P w K mg base N (defScope st) k W (fun x _ => xr a x)) (defBody st) (start0 N.length (args a)) ⟨fun _ => res a .none, fun e _ => shR (res a) e, fun _ => False, fun _ => False⟩) :
    FnOk P w K mg base (L2.CX P w) (k + 1) f fd ps (spX K args pre res xr) := by
  refine F.ok S (fun vs H Q E ⟨a, G, e, dv, _⟩ => by rw [dpAll_len dv, hl]) (fun cdv A outer s H vs Q E hr ⟨a, G, e, dv, hp, kq, kx⟩ => ?_)
  refine ⟨tSs (ctxOf P w K mg base N (defScope st) k (fun cls d _ H => E cls d H) (fun x _ => xr a x)) (defBody st), pss_tSs ⟨⟨rfl, rfl, rfl, rfl, rfl, rfl, rfl, rfl, fun _ => hr, takes_of rfl rfl rfl rfl, fun _ _ => rfl, S.nd, fun _ _ _ z => nomatch z⟩, fun _ => passes_of rfl, fun _ => ⟨rfl, rfl⟩⟩, ?_⟩
  refine hb a (fun cls d _ H => E cls d H) hp G H G H (L2.start N vs) _ ⟨start_ok e dv, fun x δ' σ' G' H' q o => kx x G' H' q o.mv⟩ (fun δ' G' H' σ' q _ o => kq _ _ G' H' q o.mv .non) (fun e v G' H' _ _ q o dv _ => by cases e <;> first | exact q.elim | (obtain ⟨u, z, dv⟩ := dv; cases z; exact kq _ _ G' H' q o.mv dv)) (fun _ _ _ _ z => z.elim) (fun _ _ _ _ z => z.elim)
end
end Dy

set_option Elab.async false
set_option linter.all false
set_option maxRecDepth 100000
set_option maxHeartbeats 2000000
namespace Dy
open PySem L2 PySem.Spec PyProof.Rows
open Evl (Ex ex_l ex_t fresh_back sz_of sz_lt)
/-! ### facts of the context, for assumption -/
structure VarAt (c : Ctx) (i : Nat) (x : Str) : Prop where
  n : c.N[i]? = some x
  v : Vis c.sc x
  d1 : (x == ("__debug__" : Str)) = false
  d2 : (x == ("__classdict__" : Str)) = false
structure LocAt (c : Ctx) (i : Nat) (x : Str) : Prop extends VarAt c i x where
  l : LocX c x
structure BltA (c : Ctx) (x : Str) (v : Value) : Prop where
  g : c.sc.names.lookup x = some .globalImplicit
  m : c.mg x = none
  b : bootBuiltins x = some v
  n : x ≠ "__name__"
  d1 : (x == ("__debug__" : Str)) = false
structure FnA (c : Ctx) (x : Str) (sp : Sp) : Prop where
  g : c.sc.names.lookup x = some .globalImplicit
  c : Cal c x sp
  d1 : (x == ("__debug__" : Str)) = false
/-- a context of a def of this text -/
structure CtxIs (c : Ctx) (K : PySem.W.Frag) (mg : Str → Option Value) (N : List Str) (sc : Scope) : Prop where
  K : c.K = K
  mg : c.mg = mg
  N : c.N = N
  sc : c.sc = sc
  calm : c.calm = true
  fn : c.fn = true
  su : c.su = none
section
variable {c : Ctx} {K : PySem.W.Frag} {mg : Str → Option Value} {N : List Str} {sc : Scope} {x : Str} {i : Nat} {v : Value} {sp : Sp}
theorem CtxIs.loc (h : CtxIs c K mg N sc) (hn : N[i]? = some x) (hk : sc.names.lookup x = some .local ∨ sc.names.lookup x = some .cell) (d1 : (x == ("__debug__" : Str)) = false := by decide) (d2 : (x == ("__classdict__" : Str)) = false := by decide) : LocAt c i x := by
  refine ⟨⟨by rw [h.N]; exact hn, ?_, d1, d2⟩, ?_⟩
  · rw [h.sc]; exact hk.imp (fun z => z) (fun z => .inl z)
  · unfold LocX; rw [h.sc, h.fn]; exact hk.imp (fun z => z) (fun z => ⟨z, rfl⟩)
theorem CtxIs.blt (h : CtxIs c K mg N sc) (hg : sc.names.lookup x = some .globalImplicit) (hm : mg x = none) (hb : bootBuiltins x = some v) (n : x ≠ "__name__" := by decide) (d1 : (x == ("__debug__" : Str)) = false := by decide) : BltA c x v :=
  ⟨by rw [h.sc]; exact hg, by rw [h.mg]; exact hm, hb, n, d1⟩
theorem CtxIs.fnx {α : Type} {args : α → List PyData} {pre : α → Prop} {res : α → PyData → Prop} {xr : α → XD → Prop} (h : CtxIs c K mg N sc) (hc : Cal c x (spX K args pre res xr)) (hg : sc.names.lookup x = some .globalImplicit) (d1 : (x == ("__debug__" : Str)) = false := by decide) : FnA c x (spX c.K args pre res xr) := ⟨by rw [h.sc]; exact hg, by rw [h.K]; exact hc, d1⟩
theorem CtxIs.fna (h : CtxIs c K mg N sc) (hg : sc.names.lookup x = some .globalImplicit) (hc : Cal c x sp) (d1 : (x == ("__debug__" : Str)) = false := by decide) : FnA c x sp := ⟨by rw [h.sc]; exact hg, hc, d1⟩
end
section
variable {c : Ctx} {e a b t : Expr} {es : List Expr} {δ : List En} {d d1 d2 : PyData} {ds : List PyData} {pos p p1 p2 : Pos} {x : Str} {S : PyData → Prop} {P : Po} {i : Nat}
theorem e_varA (v : VarAt c i x) (hδ : δ[i]? = some (.sh d)) : EX c (.Name x pos) δ d := e_var v.n v.v hδ v.d1 v.d2
theorem p_varA (v : VarAt c i x) (hδ : δ[i]? = some (.ow ds)) : PX c (.Name x pos) δ (.list ds) := p_var v.n v.v hδ v.d1 v.d2
theorem e_varL (v : LocAt c i x) (hδ : δ[i]? = some (.sh d)) : EX c (.Name x pos) δ d := e_varA v.toVarAt hδ
theorem p_varL (v : LocAt c i x) (hδ : δ[i]? = some (.ow ds)) : PX c (.Name x pos) δ (.list ds) := p_varA v.toVarAt hδ
theorem e_ixOL {n : Nat} {j : Int} (v : LocAt c n x) (hδ : δ[n]? = some (.ow ds)) (h2 : EX c b δ (.int j)) (h : atI ds j = some d) (hs : PlIx b := by with_unfolding_all exact fun _ _ => rfl) : EX c (.Subscript (.Name x p1) b pos) δ d := e_ixO v.n v.v hδ h2 h hs v.d1 v.d2
theorem e_bltA {id : String} (B : BltA c x (.builtin id)) (ha : AP c (e :: es) δ ds) (h : CaP c (.builtin id) ds d) (fl : flat d = true)
    (he : ∀ env, starEach (e :: es) env = (false, eval e env) :: starEach es env := by intro _; with_unfolding_all rfl) (hpl : ∀ env, (backTo pos (starEach es env)).any (·.1) = false := by intro _; with_unfolding_all rfl) : EX c (.Call (.Name x p) (e :: es) [] pos) δ d :=
  e_blt ha h fl B.g B.m B.b B.n B.d1 he hpl
theorem e_btyA {T : String} (B : BltA c x (.type T)) (ha : AP c (e :: es) δ ds) (h : CaP c (.type T) ds d) (fl : flat d = true)
    (he : ∀ env, starEach (e :: es) env = (false, eval e env) :: starEach es env := by intro _; with_unfolding_all rfl) (hpl : ∀ env, (backTo pos (starEach es env)).any (·.1) = false := by intro _; with_unfolding_all rfl) : EX c (.Call (.Name x p) (e :: es) [] pos) δ d :=
  e_bty ha h fl B.g B.m B.b B.n B.d1 he hpl
theorem e_tupleA (ds : List PyData) (B : BltA c x (.type "tuple")) (h : EX c e δ d) (hd : d = .list ds ∨ d = .tuple ds)
    (hs : ∀ env, starEach [e] env = (false, eval e env) :: starEach [] env := by intro _; with_unfolding_all rfl) (hpl : ∀ env, (backTo pos (starEach [] env)).any (·.1) = false := by intro _; with_unfolding_all rfl) : EX c (.Call (.Name x p) [e] [] pos) δ (.tuple ds) := e_tuple ds h hd B.g B.m B.b B.n B.d1 hs hpl
theorem e_tupleL (B : BltA c x (.type "tuple")) (h : EX c e δ (.list ds))
    (hs : ∀ env, starEach [e] env = (false, eval e env) :: starEach [] env := by intro _; with_unfolding_all rfl) (hpl : ∀ env, (backTo pos (starEach [] env)).any (·.1) = false := by intro _; with_unfolding_all rfl) : EX c (.Call (.Name x p) [e] [] pos) δ (.tuple ds) := e_tuple ds h (.inl rfl) B.g B.m B.b B.n B.d1 hs hpl
theorem e_tupleT (B : BltA c x (.type "tuple")) (h : EX c e δ (.tuple ds))
    (hs : ∀ env, starEach [e] env = (false, eval e env) :: starEach [] env := by intro _; with_unfolding_all rfl) (hpl : ∀ env, (backTo pos (starEach [] env)).any (·.1) = false := by intro _; with_unfolding_all rfl) : EX c (.Call (.Name x p) [e] [] pos) δ (.tuple ds) := e_tuple ds h (.inr rfl) B.g B.m B.b B.n B.d1 hs hpl
theorem o_listL (B : BltA c x (.type "list")) (h : EX c e δ (.list ds))
    (hs : ∀ env, starEach [e] env = (false, eval e env) :: starEach [] env := by intro _; with_unfolding_all rfl) (hpl : ∀ env, (backTo pos (starEach [] env)).any (·.1) = false := by intro _; with_unfolding_all rfl) : OX c (.Call (.Name x p) [e] [] pos) δ ds := o_list ds h (.inl rfl) B.g B.m B.b B.n B.d1 hs hpl
theorem o_listT (B : BltA c x (.type "list")) (h : EX c e δ (.tuple ds))
    (hs : ∀ env, starEach [e] env = (false, eval e env) :: starEach [] env := by intro _; with_unfolding_all rfl) (hpl : ∀ env, (backTo pos (starEach [] env)).any (·.1) = false := by intro _; with_unfolding_all rfl) : OX c (.Call (.Name x p) [e] [] pos) δ ds := o_list ds h (.inr rfl) B.g B.m B.b B.n B.d1 hs hpl
theorem o_listA (ds : List PyData) (B : BltA c x (.type "list")) (h : EX c e δ d) (hd : d = .list ds ∨ d = .tuple ds)
    (hs : ∀ env, starEach [e] env = (false, eval e env) :: starEach [] env := by intro _; with_unfolding_all rfl) (hpl : ∀ env, (backTo pos (starEach [] env)).any (·.1) = false := by intro _; with_unfolding_all rfl) : OX c (.Call (.Name x p) [e] [] pos) δ ds := o_list ds h hd B.g B.m B.b B.n B.d1 hs hpl
section
variable {α : Type} {args : α → List PyData} {pre : α → Prop} {res : α → PyData → Prop} {xr : α → XD → Prop}
theorem e_callA (C : FnA c x (spX c.K args pre res NoX)) (hc : c.calm = true) (a : α) (ha : AX c (e :: es) δ (args a)) (hp : pre a)
    (he : ∀ env, starEach (e :: es) env = (false, eval e env) :: starEach es env := by intro _; with_unfolding_all rfl) (hpl : ∀ env, (backTo pos (starEach es env)).any (·.1) = false := by intro _; with_unfolding_all rfl) : ES c (.Call (.Name x p) (e :: es) [] pos) δ (res a) :=
  e_call C.c a ha hp hc C.g C.d1 he hpl
theorem e_callPA (C : FnA c x (spX c.K args pre res NoX)) (hc : c.calm = true) (a : α) (ha : AP c (e :: es) δ (args a)) (hp : pre a) (hf : ∀ d, res a d → flat d = true)
    (he : ∀ env, starEach (e :: es) env = (false, eval e env) :: starEach es env := by intro _; with_unfolding_all rfl) (hpl : ∀ env, (backTo pos (starEach es env)).any (·.1) = false := by intro _; with_unfolding_all rfl) : ES c (.Call (.Name x p) (e :: es) [] pos) δ (res a) :=
  e_callP C.c a ha hp hf hc C.g C.d1 he hpl
theorem e_callXA (C : FnA c x (spX c.K args pre res xr)) (hc : c.calm = true) (a : α) (ha : AX c (e :: es) δ (args a)) (hp : pre a) (hx : ∀ x, xr a x → c.xc x δ)
    (he : ∀ env, starEach (e :: es) env = (false, eval e env) :: starEach es env := by intro _; with_unfolding_all rfl) (hpl : ∀ env, (backTo pos (starEach es env)).any (·.1) = false := by intro _; with_unfolding_all rfl) : ES c (.Call (.Name x p) (e :: es) [] pos) δ (res a) :=
  e_callX C.c a ha hp hx hc C.g C.d1 he hpl
end
theorem ES.ex (h : ES c e δ S) (hd : ∀ d', S d' → d' = d) : EX c e δ d := fun G0 H0 G H σ o Q k => h G0 H0 G H σ o Q fun d' v G' H' s m dv => k d' v G' H' (hd d' s) m dv
theorem ES.imp {S' : PyData → Prop} (h : ES c e δ S) (hd : ∀ d', S d' → S' d') : ES c e δ S' := fun G0 H0 G H σ o Q k => h G0 H0 G H σ o Q fun d' v G' H' s m dv => k d' v G' H' (hd d' s) m dv
/-- what follows may name the answer -/
theorem x_asgL (v : LocAt c i x) (h : ES c e δ S) (k : ∀ d, S d → P.nx (δ.set i (.sh d))) (hs : ∀ env, swapsWith e (some (.Name x p1)) pos.line env = pure false := by intro _; with_unfolding_all rfl) : SX c (.Assign [.Name x p1] e pos) δ P := x_asg h v.n v.l k hs
theorem x_asgEL (v : LocAt c i x) (h : EX c e δ d) (k : P.nx (δ.set i (.sh d))) (hs : ∀ env, swapsWith e (some (.Name x p1)) pos.line env = pure false := by intro _; with_unfolding_all rfl) : SX c (.Assign [.Name x p1] e pos) δ P := x_asgE h v.n v.l k hs
theorem x_asgOL (v : LocAt c i x) (h : OX c e δ ds) (k : P.nx (δ.set i (.ow ds))) (hs : ∀ env, swapsWith e (some (.Name x p1)) pos.line env = pure false := by intro _; with_unfolding_all rfl) : SX c (.Assign [.Name x p1] e pos) δ P := x_asgO h v.n v.l k hs
theorem x_augL {op : Operator} {f : Int → Int → Int} {n m : Int} (v : LocAt c i x) (ho : ∀ X : Cx, PIp X op (ipI f)) (hδ : δ[i]? = some (.sh (.int n))) (h : EX c e δ (.int m)) (k : P.nx (δ.set i (.sh (.int (f n m))))) :
    SX c (.AugAssign (.Name x p1) op e pos) δ P := x_aug ho hδ h v.n v.l k
theorem x_appL {p3 p4 p5 : Pos} (v : LocAt c i x) (hδ : δ[i]? = some (.ow ds)) (h : EX c e δ d) (hl : ds.length < 100000) (k : P.nx (δ.set i (.ow (ds ++ [d]))))
    (hline : (p3.endLine == p4.line) = true := by with_unfolding_all rfl)
    (hs : ∀ env, starEach [e] env = (false, eval e env) :: starEach [] env := by intro _; with_unfolding_all rfl)
    (hb : ∀ env, attributeBase (.Name x p2) "append" env (eval (.Name x p2) env) = eval (.Name x p2) env := by intro _; with_unfolding_all rfl)
    (hf : ∀ env, ((backTo p4 (starEach [e] env)).all (fun x => !x.1) && (backToKw p4 (keywordEach [] env)).all (fun x => x.1.isSome) && decide (([e] : List Expr).length + ([] : List Keyword).length + (if ([] : List Keyword).isEmpty then 0 else 1) < 30)) = true := by intro _; with_unfolding_all rfl)
    (hp : ∀ env, (backTo p4 (starEach [] env)).any (·.1) = false := by intro _; with_unfolding_all rfl) (hw : ∀ env, swapsWith (.Call (.Attribute (.Name x p2) "append" p3) [e] [] p4) none p5.line env = pure false := by intro _; with_unfolding_all rfl) :
    SX c (.Expr (.Call (.Attribute (.Name x p2) "append" p3) [e] [] p4) p5) δ P := x_app v.n v.v hδ h hl k v.d1 v.d2 hline hs hb hf hp hw
theorem g_nameL (v : LocAt c i x) : GX c (.Name x pos) d [i] δ (δ.set i (.sh d)) := g_name v.n v.l
theorem c_eqI {n m : Int} (hc : c.calm = true) : CmpP c .Eq (.int n) (.int m) (decide (n = m)) := by
  have h := c_eq (c := c) (d1 := .int n) (d2 := .int m) hc
  have e : PyData.eqv (.int n) (.int m) = decide (n = m) := by show (n == m) = _; rw [Bool.beq_eq_decide_eq]
  rw [e] at h
  exact h
theorem c_neI {n m : Int} (hc : c.calm = true) : CmpP c .NotEq (.int n) (.int m) (!decide (n = m)) := by
  have h := c_ne (c := c) (d1 := .int n) (d2 := .int m) hc
  have e : PyData.eqv (.int n) (.int m) = decide (n = m) := by show (n == m) = _; rw [Bool.beq_eq_decide_eq]
  rw [e] at h
  exact h
end
section
variable {P : Program} {w : World} {K : PySem.W.Frag} {mg : Str → Option Value} {base : Heap} {α : Type} {args : α → List PyData} {pre : α → Prop} {res : α → PyData → Prop} {xr : α → XD → Prop}
/-- what a def's call keeps, where its callees' promises stand -/
structure DefOk (P : Program) (w : World) (K : PySem.W.Frag) (mg : Str → Option Value) (base : Heap) (k : Nat) (x : Str) (sp : Sp) : Prop where
  ex : ∃ f fd ps, FnOk P w K mg base (L2.CX P w) k f fd ps sp ∧ mg x = some (.ref f) ∧ PySem.W.keepIn K (.ref f) = true ∧ Binds K fd ps []
theorem DefOk.cal {k j : Nat} {x : Str} {sp : Sp} {N : List Str} {sc : Scope} {W : L2.WX} {xc : XD → List En → Prop} (h : DefOk P w K mg base j x sp) (hj : j ≤ k) : Cal (ctxOf P w K mg base N sc k W xc) x sp := by
  obtain ⟨f, fd, ps, a, b, c, d⟩ := h.ex
  exact ⟨j, f, fd, ps, hj, a, b, c, d⟩
/-- a def of the text, as it stands behind the top -/
structure DefAt (K : PySem.W.Frag) (mg : Str → Option Value) (x : Str) (st : Stmt) (ps : List Str) : Prop where
  ex : ∃ f fd, FunD K x x (defArgs st) (defBody st) (defScope st) [] [] f fd ∧ mg x = some (.ref f) ∧ Binds K fd ps []
theorem DefAt.ok {x : Str} {st : Stmt} {N ps : List Str} {k : Nat} (D : DefAt K mg x st ps) (S : FnScope N ps (defScope st)) (hl : ∀ a, (args a).length = ps.length)
    (hb : ∀ (c : Ctx) (a : α), CtxIs c K mg N (defScope st) → (∀ {j : Nat} {y : Str} {sp : Sp}, DefOk P w K mg base j y sp → j ≤ k → Cal c y sp) → (∀ x δ, xr a x → c.xc x δ) → pre a →
      SsX c (defBody st) (start0 N.length (args a)) ⟨fun _ => res a .none, fun e _ => shR (res a) e, fun _ => False, fun _ => False⟩) :
    DefOk P w K mg base (k + 1) x (spX K args pre res xr) := by
  obtain ⟨f, fd, F, hm, hbi⟩ := D.ex
  exact ⟨f, fd, ps, def_ok F S hl (fun a W hp => hb _ a ⟨rfl, rfl, rfl, rfl, rfl, rfl, rfl⟩ (fun h hj => h.cal hj) (fun x δ h => h) hp), hm, F.kp, hbi⟩
/-- the same of a def whose function object is named -/
theorem okD {x : Str} {st : Stmt} {N ps : List Str} {k : Nat} {f : Addr} {fd : FuncData} (F : FunD K x x (defArgs st) (defBody st) (defScope st) [] [] f fd) (S : FnScope N ps (defScope st)) (hl : ∀ a, (args a).length = ps.length)
    (hb : ∀ (c : Ctx) (a : α), CtxIs c K mg N (defScope st) → (∀ {j : Nat} {y : Str} {sp : Sp}, DefOk P w K mg base j y sp → j ≤ k → Cal c y sp) → (∀ x δ, xr a x → c.xc x δ) → pre a →
      SsX c (defBody st) (start0 N.length (args a)) ⟨fun _ => res a .none, fun e _ => shR (res a) e, fun _ => False, fun _ => False⟩) :
    FnOk P w K mg base (L2.CX P w) (k + 1) f fd ps (spX K args pre res xr) :=
  def_ok F S hl (fun a W hp => hb _ a ⟨rfl, rfl, rfl, rfl, rfl, rfl, rfl⟩ (fun h hj => h.cal hj) (fun x δ h => h) hp)
end
end Dy

set_option Elab.async false
set_option linter.all false
set_option maxRecDepth 100000
set_option maxHeartbeats 2000000
namespace Dy
open PySem L2 PySem.Spec PyProof.Rows
open Evl (Ex ex_l ex_t fresh_back sz_of sz_lt)

/-! ### isinstance -/
theorem dp_ty {K : PySem.W.Frag} {H : Hp} {v : V} {d : PyData} {t : String} (h : Dp K H v d) (q : tyD d = some t) : TyX K H v (.type t) := by
  cases h with
  | non => cases q; exact .base .non
  | bl b => cases q; exact .base (.bl b)
  | int i => cases q; exact .base (.int i)
  | str x => cases q; exact .base (.str x)
  | lst s _ =>
    cases q
    rcases s with (s | ⟨o, s⟩) | ⟨o, its, n, h1, h2, _⟩
    · exact .base (.lst s)
    · exact .base (.frz s)
    · exact .kList h1 h2
  | tup s _ =>
    cases q
    rcases s with (s | ⟨o, s⟩) | ⟨o, its, n, h1, h2, _⟩
    · exact .base (.tup s)
    · exact .fTuple s
    · exact .kTuple h1 h2
section
variable {c : Ctx} {e : Expr} {es : List Expr} {δ : List En} {d : PyData} {x y : Str} {pos p p2 : Pos}
theorem e_isi {t T : String} {r : Bool} (B : BltA c x (.builtin "isinstance")) (h : PX c e δ d) (C : BltA c y (.type T)) (ht : tyD d = some t) (hk : kitB t T = some r)
    (hs : ∀ env, starEach [e, .Name y p2] env = (false, eval e env) :: starEach [.Name y p2] env := by intro _; with_unfolding_all rfl) (hs2 : ∀ env, starEach [.Name y p2] env = (false, eval (.Name y p2) env) :: starEach [] env := by intro _; with_unfolding_all rfl)
    (hpl : ∀ env, (backTo pos (starEach [.Name y p2] env)).any (·.1) = false := by intro _; with_unfolding_all rfl) : EX c (.Call (.Name x p) [e, .Name y p2] [] pos) δ (.bool r) :=
  EX.mk (t := tCB (rIsi c.K) (tCons (tE c e) (tCons (tC (.ty T)) tNil))) (fun X f => pe_callB (by rw [← f.K]; exact call_isi) (gl_of f B.g) (by rw [f.mg]; exact B.m) B.b
    (pa_cons (pe_tE f) (pa_cons (pe_bltn (v := .ty T) (gl_of f C.g) (by rw [f.mg]; exact C.m) C.b rfl C.n C.d1) pa_nil (hs2 _)) (hs _)) B.n B.d1 (hs _) (hpl _)) fun G0 H0 G H σ o Q k =>
    h G0 H0 G H σ o _ fun v G1 H1 m dv => ⟨v, .ty T, .type t, .type T, r, rfl, .ty T, dp_ty dv ht, kit_ty hk, k _ _ G1 H1 rfl m (.bl r)⟩
end

/-! ### list comprehensions -/
theorem wipe_get (σ : L2.St) : ∀ (vs : List Nat) (j : Nat), (wipe σ vs)[j]? = if j ∈ vs then (if j < σ.length then some none else none) else σ[j]?
  | [], j => by simp [wipe]
  | v :: vs, j => by
    unfold wipe
    by_cases hj : v = j
    · subst hj
      rw [if_pos List.mem_cons_self]
      by_cases hl : v < σ.length
      · rw [if_pos hl, List.getElem?_set_self (by rw [wipe_length]; exact hl)]
      · rw [if_neg hl, List.getElem?_eq_none (by rw [List.length_set, wipe_length]; omega)]
    · rw [List.getElem?_set_ne hj, wipe_get σ vs j]
      by_cases hm : j ∈ vs
      · rw [if_pos hm, if_pos (List.mem_cons_of_mem _ hm)]
      · rw [if_neg hm, if_neg (fun z => (List.mem_cons.mp z).elim (fun q => hj q.symm) hm)]
theorem wipe_diff {σ σ2 : L2.St} {vs sl : List Nat} (h : Diff sl (wipe σ vs) σ2) (hs : ∀ j ∈ sl, j ∈ vs) : wipe σ2 vs = wipe σ vs := by
  apply List.ext_getElem?
  intro j
  rw [wipe_get, wipe_get]
  have hl : σ2.length = σ.length := by rw [h.1, wipe_length]
  rw [hl]
  by_cases hm : j ∈ vs
  · rw [if_pos hm, if_pos hm]
  · rw [if_neg hm, if_neg hm, h.2 j (fun z => hm (hs j z)), wipe_get, if_neg hm]
def wipeE (δ : List En) : List Nat → List En
  | [] => δ
  | v :: vs => (wipeE δ vs).set v .no
theorem OkC.wipe {K : PySem.W.Frag} {G0 H0 G H : Hp} {σ : L2.St} {δ : List En} (o : OkC K G0 H0 G H σ δ) : ∀ vs : List Nat, OkC K G0 H0 G H (L2.wipe σ vs) (wipeE δ vs)
  | [] => o
  | v :: vs => (OkC.wipe o vs).setN
/-- the context of a comprehension's block -/
def Ctx.blk (c : Ctx) (scope : Scope) : Ctx := { c with sc := relS scope c.sc, W := fun _ _ _ _ => False, xc := fun _ _ => False, fn := false, su := none }
theorem fits_blk {c : Ctx} {X : Cx} (f : Fits c X) (scope : Scope) (s : Shared) (H : Hp) (C : Addr) (cl : List (Str × Addr)) (fp : List Addr) : Fits (c.blk scope) (X.blk s H scope (compEnvC scope cl C X.env) fp) :=
  ⟨f.p, f.w, f.K, f.mg, f.base, f.N, by show relS scope X.env.scope = relS scope c.sc; rw [f.sc], f.calm, f.room, takes0, (fun z => nomatch z), f.nd, fun _ _ _ z => nomatch z⟩
theorem CtxIs.blk {c : Ctx} {K : PySem.W.Frag} {mg : Str → Option Value} {N : List Str} {sc : Scope} (h : CtxIs c K mg N sc) (scope : Scope) : c.blk scope = { c with sc := relS scope sc, W := fun _ _ _ _ => False, xc := fun _ _ => False, fn := false, su := none } := by
  unfold Ctx.blk
  rw [h.sc]
/-- a block's tests -/
def tTs (c : Ctx) (es : List Expr) : TT := fun σ H Q => ∃ t, (∀ X, Fits c X → PTs X es t) ∧ t σ H Q
def TsX (c : Ctx) (es : List Expr) (δ : List En) (b : Bool) : Prop := TvD (tTs c es) c.ek δ b
section
variable {c : Ctx} {X : Cx} {e it t : Expr} {es ifs : List Expr} {δ : List En} {d : PyData} {ds : List PyData} {x : Str} {pos p p1 p2 spos : Pos} {scope : Scope} {own : List (Str × Nat)}
theorem pts_tTs (h : Fits c X) : PTs X es (tTs c es) := ⟨fun pins s σ H Q I ⟨t, a, q⟩ => (a X h).run pins s σ H Q I q⟩
theorem ts_nil : TsX c [] δ true := fun G0 H0 G H σ o Q k => ⟨tYes, fun X f => pts_nil, k G H (.refl o.gh)⟩
theorem ts_one {r : Bool} (h : TX c e δ r) : TsX c [e] δ r := fun G0 H0 G H σ o Q k => ⟨tT c e, fun X f => pts_one (pt_tT f), h G0 H0 G H σ o Q k⟩
/-- one turn of a comprehension: what it makes of d, behind acc -/
def LcT (c : Ctx) (t : Expr) (ifs : List Expr) (e : Expr) (vs : List Nat) (δw : List En) (d : PyData) (acc acc' : List PyData) : Prop :=
  ∃ sl δ2 r, (∀ j ∈ sl, j ∈ vs) ∧ GX c t d sl δw δ2 ∧ TsX c ifs δ2 r ∧ (r = true → ∃ z, EX c e δ2 z ∧ acc' = acc ++ [z]) ∧ (r = false → acc' = acc)
theorem LcT.mk {vs : List Nat} {δw δ2 : List En} {acc : List PyData} {z : PyData} {sl : List Nat} (h : GX c t d sl δw δ2) (hs : ∀ j ∈ sl, j ∈ vs) (he : EX c e δ2 z) : LcT c t [] e vs δw d acc (acc ++ [z]) :=
  ⟨sl, δ2, true, hs, h, ts_nil, fun _ => ⟨z, he, rfl⟩, fun q => nomatch q⟩
/-- the state between turns -/
def LcI (K : PySem.W.Frag) (G1 H1 : Hp) (D : Addr) (acc : List PyData) (H' : Hp) : Prop := ∃ G' vs, Mv G1 H1 G' H' ∧ G' D = none ∧ H' D = some (.lst vs) ∧ DpAll K G' vs acc
theorem lc_turn {vs : List Nat} {G0 H0 G1 H1 : Hp} {σ : L2.St} {D : Addr} {acc acc' : List PyData} {v : V} {H' : Hp} (o : Ok c.ek G0 H0 G1 H1 σ δ) (hD : H1 D = none) (hz : acc.length < 100000)
    (h : LcT (c.blk scope) t ifs e vs (wipeE δ vs) d acc acc') (hi : LcI c.K G1 H1 D acc H') (dv : ∀ G', Mv G1 H1 G' H' → Dp c.K G' v d) :
    tG (c.blk scope) t v (wipe σ vs) H' fun σ2 H2 => wipe σ2 vs = wipe σ vs ∧ tTs (c.blk scope) ifs σ2 H2 fun b H3 =>
      if b = true then tE (c.blk scope) e σ2 H3 fun y H4 => ∃ a, H4 D = some (.lst a) ∧ a.length < sizeLine ∧ LcI c.K G1 H1 D acc' (upd H4 D (.lst (a ++ [y]))) else LcI c.K G1 H1 D acc' H3 := by
  obtain ⟨G', us, m, gD, hDl, du⟩ := hi
  obtain ⟨sl, δ2, r, hs, hg, ht, h1, h2⟩ := h
  have o' : Ok (c.blk scope).ek G0 H0 G' H' (wipe σ vs) (wipeE δ vs) := ⟨(o.toOkC.step m).wipe vs, fun x δ' σ' G' H' z => z.elim⟩
  refine hg G0 H0 G' H' _ v o' (dv G' m) _ fun σ2 w o2 => ⟨wipe_diff w hs, ?_⟩
  refine ht G0 H0 G' H' σ2 o2 _ fun G3 H3 m3 => ?_
  have o3 := o2.step m3
  cases r with
  | true =>
    obtain ⟨z, he, ea⟩ := h1 rfl
    rw [if_pos rfl]
    refine he G0 H0 G3 H3 σ2 o3 _ fun d' y G4 H4 e4 m4 dy => ?_
    subst e4
    have m5 := (m3.trans m4)
    have hD4 : H4 D = some (.lst us) := m5.h D _ hDl
    have gD4 : G4 D = none := (m5.old D (by rw [hDl]; intro z; cases z)).trans gD
    refine ⟨us, hD4, sz_lt (by rw [dpAll_len du]; exact hz), G4, us ++ [y], ?_, gD4, upd_same, ?_⟩
    · have mm := m.trans m5
      refine ⟨mm.g, mm.h.mut hD, fun a u q => ?_, mm.old⟩
      rw [upd_ne (fun z => by rw [z, gD4] at q; cases q)]
      exact mm.gh a u q
    · rw [ea]
      exact dpAll_app (dpAll_ex m5.g du) (.cons dy .nil)
  | false =>
    rw [if_neg Bool.false_ne_true, h2 rfl]
    exact ⟨G3, us, m.trans m3, (m3.old D (by rw [hDl]; intro z; cases z)).trans gD, m3.h D _ hDl, dpAll_ex m3.g du⟩
theorem lc_end {G H G1 H1 : Hp} {D : Addr} {acc : List PyData} {H' : Hp} {Q : VK} (m : Mv G H G1 H1) (hD : H1 D = none) (hi : LcI c.K G1 H1 D acc H')
    (k : ∀ p vs G' H', Mv G H G' H' → H p = none → G' p = none → H' p = some (.lst vs) → DpAll c.K G' vs acc → Q (.ref p) H') : Q (.ref D) H' := by
  obtain ⟨G', us, m', gD, hDl, du⟩ := hi
  exact k D us G' H' (m.trans m') (fresh_back m.h hD) gD hDl du
/-- the walk of a comprehension over a list or a tuple -/
theorem lc_any {vs : List Nat} (lst : Bool) (acc : Nat → List PyData) (h : EX c it δ (if lst then .list ds else .tuple ds)) (h0 : acc 0 = []) (hz : ∀ n, n < ds.length → (acc n).length < 100000)
    (ht : ∀ n d, ds[n]? = some d → LcT (c.blk scope) t ifs e vs (wipeE δ vs) d (acc n) (acc (n + 1))) : EvO c.ek (tLc (iAny c.K (tE c it) lst) (tG (c.blk scope) t) (tTs (c.blk scope) ifs) (tE (c.blk scope) e) vs) δ (acc ds.length) := by
  intro G0 H0 G H σ o Q k
  cases lst with
  | true =>
    refine h G0 H0 G H σ o _ fun d v G1 H1 e1 m dv => ?_
    subst e1
    obtain ⟨a, us, rfl, s1, q1⟩ := dp_list dv
    refine ⟨a, rfl, ⟨us, ex_l m.gh s1⟩, fun D hD => lc_list (K := c.K) (a := a) (xs := us) (fun n H' => LcI c.K G1 H1 D (acc n) H') ⟨G1, [], Mv.own m.gh hD, fresh_back m.gh hD, upd_same, by rw [h0]; exact .nil⟩
      (fun n H' _ ⟨G', _, m', _⟩ => ex_l m'.h (ex_l m.gh s1)) (fun n v H' hv hi => ?_) fun H' hi => by rw [dpAll_len q1] at hi; exact lc_end m hD hi k⟩
    obtain ⟨d, hd, dd⟩ := dpAll_get' q1 hv
    have hn : n < ds.length := (List.getElem?_eq_some_iff.mp hd).1
    exact lc_turn (o.step m) hD (hz n hn) (ht n d hd) hi fun G' m' => dp_ex m'.g dd
  | false =>
    refine h G0 H0 G H σ o _ fun d v G1 H1 e1 m dv => ?_
    subst e1
    obtain ⟨a, us, rfl, s1, q1⟩ := dp_tuple dv
    refine ⟨a, rfl, ⟨us, ex_t m.gh s1⟩, fun D hD => lc_tup (K := c.K) (a := a) (xs := us) (fun n H' => LcI c.K G1 H1 D (acc n) H') ⟨G1, [], Mv.own m.gh hD, fresh_back m.gh hD, upd_same, by rw [h0]; exact .nil⟩
      (fun n H' _ ⟨G', _, m', _⟩ => ex_t m'.h (ex_t m.gh s1)) (fun n v H' hv hi => ?_) fun H' hi => by rw [dpAll_len q1] at hi; exact lc_end m hD hi k⟩
    obtain ⟨d, hd, dd⟩ := dpAll_get' q1 hv
    have hn : n < ds.length := (List.getElem?_eq_some_iff.mp hd).1
    exact lc_turn (o.step m) hD (hz n hn) (ht n d hd) hi fun G' m' => dp_ex m'.g dd
/-- .. over a range -/
theorem lc_rg {wi : TI} {vs : List Nat} {lo : Int} {n : Nat} (acc : Nat → List PyData) (hw : ∀ G0 H0 G H σ, Ok c.ek G0 H0 G H σ δ → ∀ R : It → Hp → Prop, (∀ G' H', Mv G H G' H' → R (Itr lo n) H') → wi σ H R) (h0 : acc 0 = []) (hz : ∀ k, k < n → (acc k).length < 100000)
    (ht : ∀ k, k < n → LcT (c.blk scope) t ifs e vs (wipeE δ vs) (.int (lo + k)) (acc k) (acc (k + 1))) : EvO c.ek (tLc wi (tG (c.blk scope) t) (tTs (c.blk scope) ifs) (tE (c.blk scope) e) vs) δ (acc n) := by
  intro G0 H0 G H σ o Q k
  refine hw G0 H0 G H σ o _ fun G1 H1 m D hD => ?_
  exact lc_range (lo := lo) (n := n) (fun n H' => LcI c.K G1 H1 D (acc n) H') ⟨G1, [], Mv.own m.gh hD, fresh_back m.gh hD, upd_same, by rw [h0]; exact .nil⟩
    (fun j H' hj hi => lc_turn (o.step m) hD (hz j hj) (ht j hj) hi fun G' m' => .int _) fun H' hi => lc_end m hD hi k
section
variable (hc : c.calm = true) (ok : BlkOk c.N c.sc scope own)
theorem pe_blk {wi : TI} (f : Fits c X) (hc : c.calm = true) (ok : BlkOk c.N c.sc scope own) (hi : PI X t it wi) (hf : ∀ env v, foldedSetIterable it env v = pure v) :
    PE X (.ListComp e [⟨t, it, ifs, 0⟩] scope pos) (tLc wi (tG (c.blk scope) t) (tTs (c.blk scope) ifs) (tE (c.blk scope) e) (own.map (·.2))) :=
  pe_lc (f.calm.trans hc) (f.N ▸ f.nd : X.N.Nodup) hi (by rw [f.N, f.sc]; exact ok) (fun s H C cl fp => pg_tG (fits_blk f scope s H C cl fp)) (fun s H C cl fp => pts_tTs (fits_blk f scope s H C cl fp)) (fun s H C cl fp => pe_tE (fits_blk f scope s H C cl fp)) (hf _)
theorem ps_blk {wi : TI} {i : Nat} (f : FitsS c X) (hc : c.calm = true) (ok : BlkOk c.N c.sc scope own) (hy : c.N[i]? = some x) (hyl : c.sc.names.lookup x = some .local) (hk : c.sc.kind = .function) (hl : (p1.line == pos.line) = true)
    (ha : (scope.names.any fun (n, k) => n == x && (k == .local || k == .cell)) = false) (hi : PI X t it wi) (hf : ∀ env v, foldedSetIterable it env v = pure v) :
    PS X (.Assign [.Name x p1] (.ListComp e [⟨t, it, ifs, 0⟩] scope pos) spos) (tAsg (tLc wi (tG (c.blk scope) t) (tTs (c.blk scope) ifs) (tE (c.blk scope) e) (own.map (·.2))) (gName i)) :=
  ps_setLc (f.calm.trans hc) (f.N ▸ f.nd : X.N.Nodup) (by rw [f.N]; exact hy) (by rw [f.sc]; exact hyl) (sw_true (by rw [f.sc]; exact hk) (by rw [f.sc]; exact hyl) hl ha) hi (by rw [f.N, f.sc]; exact ok)
    (fun s H C cl fp => pg_tG (fits_blk f.toFits scope s H C cl fp)) (fun s H C cl fp => pts_tTs (fits_blk f.toFits scope s H C cl fp)) (fun s H C cl fp => pe_tE (fits_blk f.toFits scope s H C cl fp)) (hf _)
/-- [e for t in it] over a list or a tuple -/
theorem o_lc (lst : Bool) (acc : Nat → List PyData) (hc : c.calm = true) (ok : BlkOk c.N c.sc scope own) (h : EX c it δ (if lst then .list ds else .tuple ds)) (h0 : acc 0 = []) (hz : ∀ n, n < ds.length → (acc n).length < 100000)
    (ht : ∀ n d, ds[n]? = some d → LcT (c.blk scope) t ifs e (own.map (·.2)) (wipeE δ (own.map (·.2))) d (acc n) (acc (n + 1)))
    (hf : ∀ env v, foldedSetIterable it env v = pure v := by intro _ _; with_unfolding_all rfl) : OX c (.ListComp e [⟨t, it, ifs, 0⟩] scope pos) δ (acc ds.length) :=
  OX.mk (fun X f => pe_blk f hc ok (pi_any lst f) hf) (lc_any lst acc h h0 hz ht)
theorem tw_rg1 {a : Expr} {hi : Int} (h : EX c a δ (.int hi)) (hsa : ∀ env, starEach [a] env = [(false, eval a env)]) : ∀ G0 H0 G H σ, Ok c.ek G0 H0 G H σ δ → ∀ R : It → Hp → Prop, (∀ G' H', Mv G H G' H' → R (Itr 0 hi.toNat) H') → iRgB1 (tA c [a]) σ H R := fun G0 H0 G H σ o R k =>
  (a_cons h a_nil hsa) G0 H0 G H σ o _ fun vs G1 H1 m dv => by
    obtain ⟨v, rfl, dw⟩ := dp_1 dv
    exact ⟨hi, by rw [dp_int dw], k G1 H1 m⟩
theorem tw_rg2 {a b : Expr} {lo hi : Int} (h : EX c a δ (.int lo)) (h2 : EX c b δ (.int hi)) (hsa : ∀ env, starEach [a, b] env = [(false, eval a env), (false, eval b env)]) (hsb : ∀ env, starEach [b] env = [(false, eval b env)]) :
    ∀ G0 H0 G H σ, Ok c.ek G0 H0 G H σ δ → ∀ R : It → Hp → Prop, (∀ G' H', Mv G H G' H' → R (Itr lo (hi - lo).toNat) H') → iRgB2 (tA c [a, b]) σ H R := fun G0 H0 G H σ o R k =>
  (a_cons h (a_cons h2 a_nil hsb) (fun env => by rw [hsa, hsb])) G0 H0 G H σ o _ fun vs G1 H1 m dv => by
    obtain ⟨v, w, rfl, dv1, dw⟩ := dp_2 dv
    exact ⟨lo, hi, by rw [dp_int dv1, dp_int dw], k G1 H1 m⟩
theorem o_lcR1 {a : Expr} {hi : Int} (acc : Nat → List PyData) (hc : c.calm = true) (ok : BlkOk c.N c.sc scope own) (B : BltA c "range" (.type "range")) (h : EX c a δ (.int hi)) (h0 : acc 0 = []) (hz : ∀ n, n < hi.toNat → (acc n).length < 100000)
    (ht : ∀ k : Nat, (k : Int) < hi → LcT (c.blk scope) t ifs e (own.map (·.2)) (wipeE δ (own.map (·.2))) (.int k) (acc k) (acc (k + 1)))
    (hsa : ∀ env, starEach [a] env = [(false, eval a env)] := by intro _; with_unfolding_all rfl) : OX c (.ListComp e [⟨t, .Call (.Name "range" p1) [a] [] p2, ifs, 0⟩] scope pos) δ (acc hi.toNat) :=
  OX.mk (fun X f => pe_blk f hc ok (pi_rgB1 (gl_of f B.g) (by rw [f.mg]; exact B.m) (pa_tA f) (hsa _)) (fun _ _ => rfl)) (lc_rg (lo := 0) acc (tw_rg1 h hsa) h0 hz fun k hk => by rw [Int.zero_add]; exact ht k (by omega))
theorem o_lcR2 {a b : Expr} {lo hi : Int} (acc : Nat → List PyData) (hc : c.calm = true) (ok : BlkOk c.N c.sc scope own) (B : BltA c "range" (.type "range")) (h : EX c a δ (.int lo)) (h2 : EX c b δ (.int hi)) (h0 : acc 0 = []) (hz : ∀ n, n < (hi - lo).toNat → (acc n).length < 100000)
    (ht : ∀ k : Nat, lo + (k : Int) < hi → LcT (c.blk scope) t ifs e (own.map (·.2)) (wipeE δ (own.map (·.2))) (.int (lo + k)) (acc k) (acc (k + 1)))
    (hsa : ∀ env, starEach [a, b] env = [(false, eval a env), (false, eval b env)] := by intro _; with_unfolding_all rfl) (hsb : ∀ env, starEach [b] env = [(false, eval b env)] := by intro _; with_unfolding_all rfl) :
    OX c (.ListComp e [⟨t, .Call (.Name "range" p1) [a, b] [] p2, ifs, 0⟩] scope pos) δ (acc (hi - lo).toNat) :=
  OX.mk (fun X f => pe_blk f hc ok (pi_rgB2 (gl_of f B.g) (by rw [f.mg]; exact B.m) (pa_tA f) (hsa _) (hsb _)) (fun _ _ => rfl)) (lc_rg (lo := lo) acc (tw_rg2 h h2 hsa hsb) h0 hz fun k hk => ht k (by omega))
end
end
end Dy

set_option Elab.async false
set_option linter.all false
set_option maxRecDepth 100000
set_option maxHeartbeats 2000000
namespace Dy
open PySem L2 PySem.Spec PyProof.Rows
open Evl (Ex ex_l ex_t fresh_back sz_of sz_lt)
/-! ### equality of typed data -/
section
variable {α β : Type} [DecidableEq α] [DecidableEq β]
theorem eqvAll_map {f : α → PyData} (h : ∀ a b, PyData.eqv (f a) (f b) = decide (a = b)) : ∀ l m : List α, PyData.eqvAll (l.map f) (m.map f) = decide (l = m)
  | [], [] => by simp [PyData.eqvAll]
  | [], _ :: _ => by simp [PyData.eqvAll]
  | _ :: _, [] => by simp [PyData.eqvAll]
  | a :: l, b :: m => by
    rw [List.map_cons, List.map_cons, PyData.eqvAll, h a b, eqvAll_map h l m]
    by_cases e : a = b
    · subst e; simp
    · simp [e]
theorem eqv_int (a b : Int) : PyData.eqv (.int a) (.int b) = decide (a = b) := by rw [PyData.eqv, Bool.beq_eq_decide_eq]
theorem eqv_bool (a b : Bool) : PyData.eqv (.bool a) (.bool b) = decide (a = b) := by rw [PyData.eqv, Bool.beq_eq_decide_eq]
theorem eqv_str (a b : Str) : PyData.eqv (.str a) (.str b) = decide (a = b) := by rw [PyData.eqv]; by_cases e : a = b <;> simp [e]
theorem eqv_none : PyData.eqv .none .none = true := by rw [PyData.eqv]
theorem eqv_t2 (a b c d : PyData) : PyData.eqv (.tuple [a, b]) (.tuple [c, d]) = (PyData.eqv a c && PyData.eqv b d) := by simp [PyData.eqv, PyData.eqvAll]
theorem eqv_t3 (a b c d e f : PyData) : PyData.eqv (.tuple [a, b, c]) (.tuple [d, e, f]) = (PyData.eqv a d && (PyData.eqv b e && PyData.eqv c f)) := by simp [PyData.eqv, PyData.eqvAll]
theorem eqv_tup (l m : List PyData) : PyData.eqv (.tuple l) (.tuple m) = PyData.eqvAll l m := by rw [PyData.eqv]
theorem eqv_lst (l m : List PyData) : PyData.eqv (.list l) (.list m) = PyData.eqvAll l m := by rw [PyData.eqv]
/-- of little depth, nothing but ints, texts below the line .. -/
structure Shp (n : Nat) (d : PyData) : Prop where
  l : d.canLay0 = true
  d : d.depth ≤ n
theorem shp_all {n : Nat} {f : α → PyData} {l : List α} (h : ∀ a ∈ l, Shp n (f a)) : PyData.canLayAll0 (l.map f) = true ∧ PyData.depthAll (l.map f) ≤ n := by
  induction l with
  | nil => exact ⟨by rw [List.map_nil, PyData.canLayAll0], by rw [List.map_nil, PyData.depthAll]; exact Nat.zero_le _⟩
  | cons a l ih =>
    obtain ⟨h1, h2⟩ := ih fun b hb => h b (List.mem_cons_of_mem _ hb)
    have := h a List.mem_cons_self
    exact ⟨by rw [List.map_cons, PyData.canLayAll0, this.l, h1]; rfl, by rw [List.map_cons, PyData.depthAll]; exact Nat.max_le.mpr ⟨this.d, h2⟩⟩
theorem Shp.tup {n : Nat} {f : α → PyData} {l : List α} (h : ∀ a ∈ l, Shp n (f a)) : Shp (n + 1) (.tuple (l.map f)) := by
  obtain ⟨h1, h2⟩ := shp_all h
  exact ⟨by rw [PyData.canLay0]; exact h1, by rw [PyData.depth]; exact Nat.succ_le_succ h2⟩
theorem Shp.lst {n : Nat} {f : α → PyData} {l : List α} (h : ∀ a ∈ l, Shp n (f a)) : Shp (n + 1) (.list (l.map f)) := by
  obtain ⟨h1, h2⟩ := shp_all h
  exact ⟨by rw [PyData.canLay0]; exact h1, by rw [PyData.depth]; exact Nat.succ_le_succ h2⟩
theorem Shp.int {n : Nat} (i : Int) : Shp n (.int i) := ⟨by rw [PyData.canLay0], by rw [PyData.depth]; exact Nat.zero_le _⟩
theorem Shp.sh {n : Nat} {d : PyData} (h : Shp n d) (hn : n ≤ 64 := by decide) : SeqAt.shaped d = true := by
  unfold SeqAt.shaped
  rw [h.l, Bool.true_and]
  exact decide_eq_true (Nat.le_trans h.d hn)
end
section
variable {c : Ctx} {e a b : Expr} {es : List Expr} {δ : List En} {d : PyData} {pos : Pos} {r r1 r2 : Bool} {P : Po} {body els : List Stmt}
theorem w_and0 (h1 : TX c e δ false) : WX c (.BoolOp .And (e :: b :: es) pos) δ false := by
  have h := w_and (b := b) (es := es) (pos := pos) (r2 := true) h1 (fun q => nomatch q)
  exact h
theorem w_or1' (h1 : TX c e δ true) : WX c (.BoolOp .Or (e :: b :: es) pos) δ true := by
  have h := w_or (b := b) (es := es) (pos := pos) (r2 := true) h1 (fun q => nomatch q)
  exact h
theorem x_ifT (h : TX c e δ r) (hr : r = true) (h1 : SsX c body δ P) : SX c (.If e body els pos) δ P := x_if h (fun _ => h1) (fun q => by rw [hr] at q; cases q)
theorem x_ifF (h : TX c e δ r) (hr : r = false) (h1 : SsX c els δ P) : SX c (.If e body els pos) δ P := x_if h (fun q => by rw [hr] at q; cases q) (fun _ => h1)
/-- a word between a statement and the rest -/
theorem x_cut {st : Stmt} {sts : List Stmt} (M : List En → Prop) (h : SX c st δ ⟨M, P.rt, P.bk, P.ct⟩) (k : ∀ δ', M δ' → SsX c sts δ' P) : SsX c (st :: sts) δ P := x_cons fun G0 H0 G H σ D o k1 k2 k3 k4 =>
  h G0 H0 G H σ D o (fun δ' G' H' σ' n => k1 δ' G' H' σ' (k δ' n)) k2 k3 k4
theorem c_eqB {p q : Bool} (hc : c.calm = true) : CmpP c .Eq (.bool p) (.bool q) (decide (p = q)) := by
  have h := c_eq (c := c) (d1 := .bool p) (d2 := .bool q) hc
  rw [eqv_bool] at h
  exact h
end
theorem e_callA1 {c : Ctx} {e : Expr} {es : List Expr} {δ : List En} {x : Str} {pos p : Pos} {α1 : Type} {x1 : α1} {args : α1 → List PyData} {pre : α1 → Prop} {res : α1 → PyData → Prop} {xr : α1 → XD → Prop} (C : FnA c x (spX c.K args pre res xr)) (hc : c.calm = true) {ds : List PyData} (ha : AX c (e :: es) δ ds) (hp : pre x1) (hd : ds = args x1) (hx : ∀ x, xr x1 x → c.xc x δ)
    (he : ∀ env, starEach (e :: es) env = (false, eval e env) :: starEach es env := by intro _; with_unfolding_all rfl) (hpl : ∀ env, (backTo pos (starEach es env)).any (·.1) = false := by intro _; with_unfolding_all rfl) : ES c (.Call (.Name x p) (e :: es) [] pos) δ (res x1) := e_callXA C hc x1 (hd ▸ ha) hp hx he hpl
theorem e_callPA1 {c : Ctx} {e : Expr} {es : List Expr} {δ : List En} {x : Str} {pos p : Pos} {α1 : Type} {x1 : α1} {args : α1 → List PyData} {pre : α1 → Prop} {res : α1 → PyData → Prop} (C : FnA c x (spX c.K args pre res NoX)) (hc : c.calm = true) {ds : List PyData} (ha : AP c (e :: es) δ ds) (hp : pre x1) (hd : ds = args x1) (hf : ∀ d, res x1 d → flat d = true)
    (he : ∀ env, starEach (e :: es) env = (false, eval e env) :: starEach es env := by intro _; with_unfolding_all rfl) (hpl : ∀ env, (backTo pos (starEach es env)).any (·.1) = false := by intro _; with_unfolding_all rfl) : ES c (.Call (.Name x p) (e :: es) [] pos) δ (res x1) := e_callPA C hc x1 (hd ▸ ha) hp hf he hpl
theorem e_callA2 {c : Ctx} {e : Expr} {es : List Expr} {δ : List En} {x : Str} {pos p : Pos} {α1 α2 : Type} {x1 : α1} {x2 : α2} {args : α1 × α2 → List PyData} {pre : α1 × α2 → Prop} {res : α1 × α2 → PyData → Prop} {xr : α1 × α2 → XD → Prop} (C : FnA c x (spX c.K args pre res xr)) (hc : c.calm = true) {ds : List PyData} (ha : AX c (e :: es) δ ds) (hp : pre (x1, x2)) (hd : ds = args (x1, x2)) (hx : ∀ x, xr (x1, x2) x → c.xc x δ)
    (he : ∀ env, starEach (e :: es) env = (false, eval e env) :: starEach es env := by intro _; with_unfolding_all rfl) (hpl : ∀ env, (backTo pos (starEach es env)).any (·.1) = false := by intro _; with_unfolding_all rfl) : ES c (.Call (.Name x p) (e :: es) [] pos) δ (res (x1, x2)) := e_callXA C hc (x1, x2) (hd ▸ ha) hp hx he hpl
theorem e_callPA2 {c : Ctx} {e : Expr} {es : List Expr} {δ : List En} {x : Str} {pos p : Pos} {α1 α2 : Type} {x1 : α1} {x2 : α2} {args : α1 × α2 → List PyData} {pre : α1 × α2 → Prop} {res : α1 × α2 → PyData → Prop} (C : FnA c x (spX c.K args pre res NoX)) (hc : c.calm = true) {ds : List PyData} (ha : AP c (e :: es) δ ds) (hp : pre (x1, x2)) (hd : ds = args (x1, x2)) (hf : ∀ d, res (x1, x2) d → flat d = true)
    (he : ∀ env, starEach (e :: es) env = (false, eval e env) :: starEach es env := by intro _; with_unfolding_all rfl) (hpl : ∀ env, (backTo pos (starEach es env)).any (·.1) = false := by intro _; with_unfolding_all rfl) : ES c (.Call (.Name x p) (e :: es) [] pos) δ (res (x1, x2)) := e_callPA C hc (x1, x2) (hd ▸ ha) hp hf he hpl
theorem e_callA3 {c : Ctx} {e : Expr} {es : List Expr} {δ : List En} {x : Str} {pos p : Pos} {α1 α2 α3 : Type} {x1 : α1} {x2 : α2} {x3 : α3} {args : α1 × α2 × α3 → List PyData} {pre : α1 × α2 × α3 → Prop} {res : α1 × α2 × α3 → PyData → Prop} {xr : α1 × α2 × α3 → XD → Prop} (C : FnA c x (spX c.K args pre res xr)) (hc : c.calm = true) {ds : List PyData} (ha : AX c (e :: es) δ ds) (hp : pre (x1, x2, x3)) (hd : ds = args (x1, x2, x3)) (hx : ∀ x, xr (x1, x2, x3) x → c.xc x δ)
    (he : ∀ env, starEach (e :: es) env = (false, eval e env) :: starEach es env := by intro _; with_unfolding_all rfl) (hpl : ∀ env, (backTo pos (starEach es env)).any (·.1) = false := by intro _; with_unfolding_all rfl) : ES c (.Call (.Name x p) (e :: es) [] pos) δ (res (x1, x2, x3)) := e_callXA C hc (x1, x2, x3) (hd ▸ ha) hp hx he hpl
theorem e_callPA3 {c : Ctx} {e : Expr} {es : List Expr} {δ : List En} {x : Str} {pos p : Pos} {α1 α2 α3 : Type} {x1 : α1} {x2 : α2} {x3 : α3} {args : α1 × α2 × α3 → List PyData} {pre : α1 × α2 × α3 → Prop} {res : α1 × α2 × α3 → PyData → Prop} (C : FnA c x (spX c.K args pre res NoX)) (hc : c.calm = true) {ds : List PyData} (ha : AP c (e :: es) δ ds) (hp : pre (x1, x2, x3)) (hd : ds = args (x1, x2, x3)) (hf : ∀ d, res (x1, x2, x3) d → flat d = true)
    (he : ∀ env, starEach (e :: es) env = (false, eval e env) :: starEach es env := by intro _; with_unfolding_all rfl) (hpl : ∀ env, (backTo pos (starEach es env)).any (·.1) = false := by intro _; with_unfolding_all rfl) : ES c (.Call (.Name x p) (e :: es) [] pos) δ (res (x1, x2, x3)) := e_callPA C hc (x1, x2, x3) (hd ▸ ha) hp hf he hpl
theorem e_callA4 {c : Ctx} {e : Expr} {es : List Expr} {δ : List En} {x : Str} {pos p : Pos} {α1 α2 α3 α4 : Type} {x1 : α1} {x2 : α2} {x3 : α3} {x4 : α4} {args : α1 × α2 × α3 × α4 → List PyData} {pre : α1 × α2 × α3 × α4 → Prop} {res : α1 × α2 × α3 × α4 → PyData → Prop} {xr : α1 × α2 × α3 × α4 → XD → Prop} (C : FnA c x (spX c.K args pre res xr)) (hc : c.calm = true) {ds : List PyData} (ha : AX c (e :: es) δ ds) (hp : pre (x1, x2, x3, x4)) (hd : ds = args (x1, x2, x3, x4)) (hx : ∀ x, xr (x1, x2, x3, x4) x → c.xc x δ)
    (he : ∀ env, starEach (e :: es) env = (false, eval e env) :: starEach es env := by intro _; with_unfolding_all rfl) (hpl : ∀ env, (backTo pos (starEach es env)).any (·.1) = false := by intro _; with_unfolding_all rfl) : ES c (.Call (.Name x p) (e :: es) [] pos) δ (res (x1, x2, x3, x4)) := e_callXA C hc (x1, x2, x3, x4) (hd ▸ ha) hp hx he hpl
theorem e_callPA4 {c : Ctx} {e : Expr} {es : List Expr} {δ : List En} {x : Str} {pos p : Pos} {α1 α2 α3 α4 : Type} {x1 : α1} {x2 : α2} {x3 : α3} {x4 : α4} {args : α1 × α2 × α3 × α4 → List PyData} {pre : α1 × α2 × α3 × α4 → Prop} {res : α1 × α2 × α3 × α4 → PyData → Prop} (C : FnA c x (spX c.K args pre res NoX)) (hc : c.calm = true) {ds : List PyData} (ha : AP c (e :: es) δ ds) (hp : pre (x1, x2, x3, x4)) (hd : ds = args (x1, x2, x3, x4)) (hf : ∀ d, res (x1, x2, x3, x4) d → flat d = true)
    (he : ∀ env, starEach (e :: es) env = (false, eval e env) :: starEach es env := by intro _; with_unfolding_all rfl) (hpl : ∀ env, (backTo pos (starEach es env)).any (·.1) = false := by intro _; with_unfolding_all rfl) : ES c (.Call (.Name x p) (e :: es) [] pos) δ (res (x1, x2, x3, x4)) := e_callPA C hc (x1, x2, x3, x4) (hd ▸ ha) hp hf he hpl
theorem e_callA5 {c : Ctx} {e : Expr} {es : List Expr} {δ : List En} {x : Str} {pos p : Pos} {α1 α2 α3 α4 α5 : Type} {x1 : α1} {x2 : α2} {x3 : α3} {x4 : α4} {x5 : α5} {args : α1 × α2 × α3 × α4 × α5 → List PyData} {pre : α1 × α2 × α3 × α4 × α5 → Prop} {res : α1 × α2 × α3 × α4 × α5 → PyData → Prop} {xr : α1 × α2 × α3 × α4 × α5 → XD → Prop} (C : FnA c x (spX c.K args pre res xr)) (hc : c.calm = true) {ds : List PyData} (ha : AX c (e :: es) δ ds) (hp : pre (x1, x2, x3, x4, x5)) (hd : ds = args (x1, x2, x3, x4, x5)) (hx : ∀ x, xr (x1, x2, x3, x4, x5) x → c.xc x δ)
    (he : ∀ env, starEach (e :: es) env = (false, eval e env) :: starEach es env := by intro _; with_unfolding_all rfl) (hpl : ∀ env, (backTo pos (starEach es env)).any (·.1) = false := by intro _; with_unfolding_all rfl) : ES c (.Call (.Name x p) (e :: es) [] pos) δ (res (x1, x2, x3, x4, x5)) := e_callXA C hc (x1, x2, x3, x4, x5) (hd ▸ ha) hp hx he hpl
theorem e_callPA5 {c : Ctx} {e : Expr} {es : List Expr} {δ : List En} {x : Str} {pos p : Pos} {α1 α2 α3 α4 α5 : Type} {x1 : α1} {x2 : α2} {x3 : α3} {x4 : α4} {x5 : α5} {args : α1 × α2 × α3 × α4 × α5 → List PyData} {pre : α1 × α2 × α3 × α4 × α5 → Prop} {res : α1 × α2 × α3 × α4 × α5 → PyData → Prop} (C : FnA c x (spX c.K args pre res NoX)) (hc : c.calm = true) {ds : List PyData} (ha : AP c (e :: es) δ ds) (hp : pre (x1, x2, x3, x4, x5)) (hd : ds = args (x1, x2, x3, x4, x5)) (hf : ∀ d, res (x1, x2, x3, x4, x5) d → flat d = true)
    (he : ∀ env, starEach (e :: es) env = (false, eval e env) :: starEach es env := by intro _; with_unfolding_all rfl) (hpl : ∀ env, (backTo pos (starEach es env)).any (·.1) = false := by intro _; with_unfolding_all rfl) : ES c (.Call (.Name x p) (e :: es) [] pos) δ (res (x1, x2, x3, x4, x5)) := e_callPA C hc (x1, x2, x3, x4, x5) (hd ▸ ha) hp hf he hpl
theorem kit_NoneType_bool : kitB "NoneType" "bool" = some false := by decide +kernel
theorem kit_NoneType_int : kitB "NoneType" "int" = some false := by decide +kernel
theorem kit_NoneType_str : kitB "NoneType" "str" = some false := by decide +kernel
theorem kit_NoneType_list : kitB "NoneType" "list" = some false := by decide +kernel
theorem kit_NoneType_tuple : kitB "NoneType" "tuple" = some false := by decide +kernel
theorem kit_NoneType_dict : kitB "NoneType" "dict" = some false := by decide +kernel
theorem kit_bool_bool : kitB "bool" "bool" = some true := by decide +kernel
theorem kit_bool_int : kitB "bool" "int" = some true := by decide +kernel
theorem kit_bool_str : kitB "bool" "str" = some false := by decide +kernel
theorem kit_bool_list : kitB "bool" "list" = some false := by decide +kernel
theorem kit_bool_tuple : kitB "bool" "tuple" = some false := by decide +kernel
theorem kit_bool_dict : kitB "bool" "dict" = some false := by decide +kernel
theorem kit_int_bool : kitB "int" "bool" = some false := by decide +kernel
theorem kit_int_int : kitB "int" "int" = some true := by decide +kernel
theorem kit_int_str : kitB "int" "str" = some false := by decide +kernel
theorem kit_int_list : kitB "int" "list" = some false := by decide +kernel
theorem kit_int_tuple : kitB "int" "tuple" = some false := by decide +kernel
theorem kit_int_dict : kitB "int" "dict" = some false := by decide +kernel
theorem kit_str_bool : kitB "str" "bool" = some false := by decide +kernel
theorem kit_str_int : kitB "str" "int" = some false := by decide +kernel
theorem kit_str_str : kitB "str" "str" = some true := by decide +kernel
theorem kit_str_list : kitB "str" "list" = some false := by decide +kernel
theorem kit_str_tuple : kitB "str" "tuple" = some false := by decide +kernel
theorem kit_str_dict : kitB "str" "dict" = some false := by decide +kernel
theorem kit_list_bool : kitB "list" "bool" = some false := by decide +kernel
theorem kit_list_int : kitB "list" "int" = some false := by decide +kernel
theorem kit_list_str : kitB "list" "str" = some false := by decide +kernel
theorem kit_list_list : kitB "list" "list" = some true := by decide +kernel
theorem kit_list_tuple : kitB "list" "tuple" = some false := by decide +kernel
theorem kit_list_dict : kitB "list" "dict" = some false := by decide +kernel
theorem kit_tuple_bool : kitB "tuple" "bool" = some false := by decide +kernel
theorem kit_tuple_int : kitB "tuple" "int" = some false := by decide +kernel
theorem kit_tuple_str : kitB "tuple" "str" = some false := by decide +kernel
theorem kit_tuple_list : kitB "tuple" "list" = some false := by decide +kernel
theorem kit_tuple_tuple : kitB "tuple" "tuple" = some true := by decide +kernel
theorem kit_tuple_dict : kitB "tuple" "dict" = some false := by decide +kernel
section
variable {c : Ctx} {body : List Stmt} {δ : List En} {P : Po} {e t : Expr} {ds : List PyData} {pos : Pos}
theorem x_forL (I : Nat → List En → Prop) (h : EX c e δ (.list ds)) (hc : c.calm = true) (h0 : I 0 δ)
    (hs : ∀ n d δ1, ds[n]? = some d → I n δ1 → ∃ sl δ2, GX c t d sl δ1 δ2 ∧ SsX c body δ2 ⟨I (n + 1), P.rt, P.nx, I (n + 1)⟩) (hd : ∀ δ1, I ds.length δ1 → P.nx δ1)
    (hf : ∀ env v, foldedSetIterable e env v = pure v := by intro _ _; with_unfolding_all rfl) : SX c (.For t e body [] pos) δ P := x_for true I h hc h0 hs hd hf
theorem x_forT (I : Nat → List En → Prop) (h : EX c e δ (.tuple ds)) (hc : c.calm = true) (h0 : I 0 δ)
    (hs : ∀ n d δ1, ds[n]? = some d → I n δ1 → ∃ sl δ2, GX c t d sl δ1 δ2 ∧ SsX c body δ2 ⟨I (n + 1), P.rt, P.nx, I (n + 1)⟩) (hd : ∀ δ1, I ds.length δ1 → P.nx δ1)
    (hf : ∀ env v, foldedSetIterable e env v = pure v := by intro _ _; with_unfolding_all rfl) : SX c (.For t e body [] pos) δ P := x_for false I h hc h0 hs hd hf
end
end Dy

set_option Elab.async false
set_option linter.all false
set_option maxRecDepth 100000
set_option maxHeartbeats 2000000
namespace Dy
open PySem L2 PySem.Spec PyProof.Rows
/-- a promise without errors, where nothing is let out -/
theorem fn_c0 {P : Program} {w : World} {K : PySem.W.Frag} {mg : Str → Option Value} {base : Heap} {k : Nat} {f : Addr} {fd : FuncData} {ps : List Str} {sp : Sp} (F : FnOk P w K mg base (L2.CX P w) k f fd ps sp) :
    FnOk P w K mg base CX0 k f fd ps (fun vs H Q _ => sp vs H Q fun _ _ _ => False) :=
  ⟨fun vs H Q E h => F.len vs H Q _ h, fun A outer s H args us vs Q E hr e0 hb hv hs => codeAny_mono (F.run A outer s H args us vs Q (fun _ _ _ => False) hr e0 hb hv hs) fun r s' h => by
    cases r with
    | ok fl => cases fl <;> exact h
    | error e =>
      obtain ⟨_, _, _, _, _, _, _, _, _, _, _, _, z⟩ := h
      exact z.elim⟩
theorem law_sp {K : PySem.W.Frag} {res : List Int → PyData → Prop} {a : Addr} {H : Hp} {ns : List Int} (hl : ns.length ≤ 63) (hS : SqL K H a (ns.map V.int)) (hr : ∀ d, res ns d → d = .bool true) :
    spX K (fun ns : List Int => [PyData.list (ns.map PyData.int)]) (fun ns => ns.length ≤ 63) res NoX [.ref a] H (fun v _ => v = .bl true) fun _ _ _ => False :=
  ⟨ns, H, Evl.Ex.refl H, .cons (.lst hS dpAll_int) .nil, hl, fun d v G' H' r m dv => by
    rw [hr d r] at dv
    exact dp_bool dv, fun _ _ _ z => z.elim⟩
theorem DefAt.mk' {K : PySem.W.Frag} {mg : Str → Option Value} {x : Str} {st : Stmt} {ps : List Str} {f : Addr} {fd : FuncData} (F : FunD K x x (defArgs st) (defBody st) (defScope st) [] [] f fd) (hm : mg x = some (.ref f))
    (h : ∀ (kV doc pm : Value) (an : Option Addr) (cdv ct : Value) (us : List Value), us.length = ps.length → bindArgs (PySem.W.fnOf x x (defArgs st) (defBody st) (defScope st) .none kV doc pm an cdv ct) ⟨us, []⟩ = pure (ps.zip us)) : DefAt K mg x st ps :=
  ⟨f, fd, F, hm, F.bindsN h⟩
end Dy

set_option Elab.async false
set_option linter.all false
set_option maxRecDepth 100000
set_option maxHeartbeats 2000000
namespace Dy
open PySem L2 PySem.Spec PyProof.Rows
open Evl (Ex ex_l ex_t fresh_back sz_of sz_lt)
theorem dp_3 {K : PySem.W.Frag} {H : Hp} {vs : List V} {d1 d2 d3 : PyData} (h : DpAll K H vs [d1, d2, d3]) : ∃ v w u, vs = [v, w, u] ∧ Dp K H v d1 ∧ Dp K H w d2 ∧ Dp K H u d3 := by
  cases h with
  | cons a b =>
    obtain ⟨w, u, rfl, b2, b3⟩ := dp_2 b
    exact ⟨_, w, u, rfl, a, b2, b3⟩
/-! ### ranges downwards -/
section
variable {c : Ctx} {X : Cx} {body : List Stmt} {δ δ' : List En} {P : Po} {a b t e e3 : Expr} {pos p1 p2 : Pos} {lo hi : Int}
theorem forRC {wi : TI} {cc : Int} (I : Nat → List En → Prop) (n : Nat) (hw : ∀ G0 H0 G H σ, Ok c.ek G0 H0 G H σ δ → ∀ R : It → Hp → Prop, (∀ G' H', Mv G H G' H' → R (Itc lo cc n) H') → wi σ H R) (hc : c.calm = true) (h0 : I 0 δ)
    (hs : ∀ k δ1, k < n → I k δ1 → ∃ sl δ2, GX c t (.int (lo + (k : Nat) * cc)) sl δ1 δ2 ∧ SsX c body δ2 ⟨I (k + 1), P.rt, P.nx, I (k + 1)⟩) (hd : ∀ δ1, I n δ1 → P.nx δ1) : StD c.ek (tFor wi (tG c t) (tSs c body)) δ P := fun G0 H0 G H σ D o k1 k2 k3 k4 =>
  hw G0 H0 G H σ o _ fun G1 H1 m => for_rangeC (lo := lo) (c := cc) (n := n) (fun k σ' H' => ∃ δ' G', Ex G G' ∧ Ok c.ek G0 H0 G' H' σ' δ' ∧ I k δ') ⟨δ, G1, m.g, o.step m, h0⟩
    (fun k σ' H' hk ⟨δ1, G', e2, o1, i1⟩ => by
      obtain ⟨sl, δ2, g2, b2⟩ := hs k δ1 hk i1
      refine g2 G0 H0 G' H' σ' _ o1 (.int _) _ fun σ2 _ o2 => ?_
      exact b2 G0 H0 G' H' σ2 _ o2 (fun δ3 G3 H3 σ3 n3 e3 o3 => ⟨δ3, G3, e2.trans e3, o3, n3⟩) k2 (fun δ3 G3 H3 σ3 n3 e3 o3 => k1 δ3 G3 H3 σ3 n3 (e2.trans e3) o3) (fun δ3 G3 H3 σ3 n3 e3 o3 => ⟨δ3, G3, e2.trans e3, o3, n3⟩))
    fun σ' H' ⟨δ1, G', e2, o1, i1⟩ => k1 δ1 G' H' σ' (hd δ1 i1) e2 o1
theorem x_forD (I : Nat → List En → Prop) (h : EX c a δ (.int lo)) (h2 : EX c b δ (.int hi)) (h3 : EX c e3 δ (.int (-1))) (hb : (-(2 ^ 62) ≤ lo ∧ lo < 2 ^ 62) ∧ -(2 ^ 62) ≤ hi ∧ hi < 2 ^ 62) (hc : c.calm = true) (B : BltA c "range" (.type "range")) (h0 : I 0 δ)
    (hs : ∀ (k : Nat) δ1, hi < lo - (k : Int) → I k δ1 → ∃ sl δ2, GX c t (.int (lo - k)) sl δ1 δ2 ∧ SsX c body δ2 ⟨I (k + 1), P.rt, P.nx, I (k + 1)⟩) (hd : ∀ δ1, I (lo - hi).toNat δ1 → P.nx δ1)
    (hsa : ∀ env, starEach [a, b, e3] env = (false, eval a env) :: starEach [b, e3] env := by intro _; with_unfolding_all rfl) (hsb : ∀ env, starEach [b, e3] env = (false, eval b env) :: starEach [e3] env := by intro _; with_unfolding_all rfl) (hsc : ∀ env, starEach [e3] env = (false, eval e3 env) :: starEach [] env := by intro _; with_unfolding_all rfl)
    (hpl : ∀ env, (backTo p2 (starEach [b, e3] env)).any (·.1) = false := by intro _; with_unfolding_all rfl) : SX c (.For t (.Call (.Name "range" p1) [a, b, e3] [] p2) body [] pos) δ P :=
  SX.mk (t := tFor (iRng3 (tA c [a, b, e3])) (tG c t) (tSs c body)) (fun X f => ps_for (f.own hc) (f.calm.trans hc) (pi_range3 (gl_of f.toFits B.g) (by rw [f.mg]; exact B.m) (pa_tA f.toFits) (hsa _) (hpl _)) (pg_tG f.toFits) (pss_tSs f)) (forRC (lo := lo) (cc := -1) I (lo - hi).toNat (fun G0 H0 G H σ o R k =>
    (a_cons h (a_cons h2 (a_cons h3 a_nil hsc) hsb) hsa) G0 H0 G H σ o _ fun vs G1 H1 m dv => by
      obtain ⟨v, w, u, rfl, dv1, dw, du⟩ := dp_3 dv
      exact ⟨lo, hi, -1, (lo - hi).toNat, by rw [dp_int dv1, dp_int dw, dp_int du], RgC.neg hb.1.1 hb.1.2 hb.2.1 hb.2.2, k G1 H1 m⟩) hc h0 (fun k δ1 hk i1 => by rw [Int.mul_neg, Int.mul_one, ← Int.sub_eq_add_neg]; exact hs k δ1 (by omega) i1) hd)
end
/-! ### sorted, ints -/
def srt (ns : List Int) : List Int := ns.mergeSort (fun a b => decide (a ≤ b))
theorem srt_perm (ns : List Int) : (srt ns).Perm ns := List.mergeSort_perm _ _
theorem srt_pw (ns : List Int) : (srt ns).Pairwise (· ≤ ·) := by
  have := List.pairwise_mergeSort (le := fun a b : Int => decide (a ≤ b)) (fun a b c h1 h2 => by simp only [decide_eq_true_eq] at *; omega) (fun a b => by simp only [Bool.or_eq_true, decide_eq_true_eq]; omega) ns
  exact this.imp fun h => of_decide_eq_true h
theorem srt_uniq {ns ns' : List Int} (h : ns'.Perm ns) (p : ns'.Pairwise (· ≤ ·)) : ns' = srt ns :=
  (h.trans (srt_perm ns).symm).eq_of_pairwise (fun a b _ _ h1 h2 => by omega) p (srt_pw ns)
section
variable {c : Ctx} {e : Expr} {δ : List En} {x : Str} {pos p : Pos} {ns : List Int}
theorem dpAll_intsV {K : PySem.W.Frag} {H : Hp} : ∀ ns : List Int, DpAll K H (ns.map V.int) (ns.map PyData.int)
  | [] => .nil
  | n :: ns => .cons (.int n) (dpAll_intsV ns)
theorem o_sortedI (B : BltA c x (.builtin "sorted")) (h : PX c e δ (.list (ns.map PyData.int))) (hs : ∀ env, starEach [e] env = (false, eval e env) :: starEach [] env := by intro _; with_unfolding_all rfl) (hpl : ∀ env, (backTo pos (starEach [] env)).any (·.1) = false := by intro _; with_unfolding_all rfl) : OX c (.Call (.Name x p) [e] [] pos) δ ((srt ns).map PyData.int) :=
  OX.mk (t := tCB (rSortedI c.K) (tA c [e])) (fun X f => pe_callB (by rw [← f.K]; exact cr_sortedI) (gl_of f B.g) (by rw [f.mg]; exact B.m) B.b (pa_tA f) B.n B.d1 (hs _) (hpl _)) fun G0 H0 G H σ o Q k =>
    (ap_cons h ap_nil hs) G0 H0 G H σ o _ fun vs G1 H1 m dv => by
      obtain ⟨v, rfl, dv1⟩ := dp_1 dv
      obtain ⟨a, xs, rfl, s1, q1⟩ := dp_list dv1
      rw [dpAll_ints q1] at s1
      refine ⟨a, ns, rfl, s1, fun ns' p hp pw hf => ?_⟩
      obtain rfl := srt_uniq hp pw
      exact k p _ G1 _ (m.trans (Mv.own m.gh hf)) (fresh_back m.h hf) (fresh_back m.gh hf) upd_same (dpAll_intsV _)
end
/-! ### comprehensions, the block's context by a name -/
section
variable {c cb : Ctx} {K : PySem.W.Frag} {mg : Str → Option Value} {N : List Str} {sc scope : Scope} {x : Str} {i : Nat} {v : Value} {sp : Sp}
theorem CtxIs.bvar (h : CtxIs c K mg N sc) (hb : cb = c.blk scope) (hn : N[i]? = some x) (hv : Vis (relS scope sc) x) (d1 : (x == ("__debug__" : Str)) = false := by decide) (d2 : (x == ("__classdict__" : Str)) = false := by decide) : VarAt cb i x := by
  subst hb
  exact ⟨by show c.N[i]? = _; rw [h.N]; exact hn, by show Vis (relS scope c.sc) x; rw [h.sc]; exact hv, d1, d2⟩
theorem CtxIs.bloc (h : CtxIs c K mg N sc) (hb : cb = c.blk scope) (hn : N[i]? = some x) (hv : (relS scope sc).names.lookup x = some .local) (d1 : (x == ("__debug__" : Str)) = false := by decide) (d2 : (x == ("__classdict__" : Str)) = false := by decide) : LocAt cb i x := by
  refine ⟨h.bvar hb hn (.inl hv) d1 d2, ?_⟩
  subst hb
  refine .inl ?_
  show (relS scope c.sc).names.lookup x = _
  rw [h.sc]; exact hv
theorem CtxIs.bblt (h : CtxIs c K mg N sc) (hb : cb = c.blk scope) (hv : (relS scope sc).names.lookup x = some .globalImplicit) (hm : mg x = none) (hv2 : bootBuiltins x = some v) (n : x ≠ "__name__" := by decide) (d1 : (x == ("__debug__" : Str)) = false := by decide) : BltA cb x v := by
  subst hb
  exact ⟨by show (relS scope c.sc).names.lookup x = _; rw [h.sc]; exact hv, by show c.mg x = none; rw [h.mg]; exact hm, hv2, n, d1⟩
theorem CtxIs.bcalm (h : CtxIs c K mg N sc) (hb : cb = c.blk scope) : cb.calm = true := by subst hb; exact h.calm
variable {e it t : Expr} {ifs : List Expr} {δ : List En} {ds : List PyData} {pos p1 p2 : Pos} {own : List (Str × Nat)}
theorem o_lcF (lst : Bool) (acc : Nat → List PyData) (h : CtxIs c K mg N sc) (ok : BlkOk N sc scope own) (hi : EX c it δ (if lst then .list ds else .tuple ds)) (h0 : acc 0 = []) (hz : ∀ n, n < ds.length → (acc n).length < 100000)
    (ht : ∀ cb, cb = c.blk scope → ∀ n d, ds[n]? = some d → LcT cb t ifs e (own.map (·.2)) (wipeE δ (own.map (·.2))) d (acc n) (acc (n + 1)))
    (hf : ∀ env v, foldedSetIterable it env v = pure v := by intro _ _; with_unfolding_all rfl) : OX c (.ListComp e [⟨t, it, ifs, 0⟩] scope pos) δ (acc ds.length) :=
  o_lc lst acc h.calm (by rw [h.N, h.sc]; exact ok) hi h0 hz (ht _ rfl) hf
theorem o_lcFR2 {a b : Expr} {lo hi : Int} (acc : Nat → List PyData) (h : CtxIs c K mg N sc) (ok : BlkOk N sc scope own) (B : BltA c "range" (.type "range")) (h1 : EX c a δ (.int lo)) (h2 : EX c b δ (.int hi)) (h0 : acc 0 = []) (hz : ∀ n, n < (hi - lo).toNat → (acc n).length < 100000)
    (ht : ∀ cb, cb = c.blk scope → ∀ k : Nat, lo + (k : Int) < hi → LcT cb t ifs e (own.map (·.2)) (wipeE δ (own.map (·.2))) (.int (lo + k)) (acc k) (acc (k + 1)))
    (hsa : ∀ env, starEach [a, b] env = [(false, eval a env), (false, eval b env)] := by intro _; with_unfolding_all rfl) (hsb : ∀ env, starEach [b] env = [(false, eval b env)] := by intro _; with_unfolding_all rfl) :
    OX c (.ListComp e [⟨t, .Call (.Name "range" p1) [a, b] [] p2, ifs, 0⟩] scope pos) δ (acc (hi - lo).toNat) :=
  o_lcR2 acc h.calm (by rw [h.N, h.sc]; exact ok) B h1 h2 h0 hz (ht _ rfl) hsa hsb
theorem o_lcFR1 {a : Expr} {hi : Int} (acc : Nat → List PyData) (h : CtxIs c K mg N sc) (ok : BlkOk N sc scope own) (B : BltA c "range" (.type "range")) (h1 : EX c a δ (.int hi)) (h0 : acc 0 = []) (hz : ∀ n, n < hi.toNat → (acc n).length < 100000)
    (ht : ∀ cb, cb = c.blk scope → ∀ k : Nat, (k : Int) < hi → LcT cb t ifs e (own.map (·.2)) (wipeE δ (own.map (·.2))) (.int k) (acc k) (acc (k + 1)))
    (hsa : ∀ env, starEach [a] env = [(false, eval a env)] := by intro _; with_unfolding_all rfl) : OX c (.ListComp e [⟨t, .Call (.Name "range" p1) [a] [] p2, ifs, 0⟩] scope pos) δ (acc hi.toNat) :=
  o_lcR1 acc h.calm (by rw [h.N, h.sc]; exact ok) B h1 h0 hz (ht _ rfl) hsa
end
section
variable {c : Ctx} {t e e0 : Expr} {vs sl : List Nat} {δw δ2 : List En} {d z : PyData} {acc acc' : List PyData} {r : Bool}
theorem LcT.mkIf (h : GX c t d sl δw δ2) (hs : ∀ j ∈ sl, j ∈ vs) (ht : TX c e0 δ2 r) (he : r = true → EX c e δ2 z) (h1 : r = true → acc' = acc ++ [z]) (h2 : r = false → acc' = acc) : LcT c t [e0] e vs δw d acc acc' :=
  ⟨sl, δ2, r, hs, h, ts_one ht, fun q => ⟨z, he q, h1 q⟩, h2⟩
theorem LcT.mk1 (h : GX c t d sl δw δ2) (hs : ∀ j ∈ sl, j ∈ vs) (he : EX c e δ2 z) (h1 : acc' = acc ++ [z]) : LcT c t [] e vs δw d acc acc' := by
  subst h1; exact LcT.mk h hs he
end
end Dy

set_option Elab.async false
set_option linter.all false
set_option maxRecDepth 100000
set_option maxHeartbeats 2000000
namespace Dy
open PySem L2 PySem.Spec PyProof.Rows
open Evl (Ex ex_l ex_t fresh_back sz_of sz_lt)
/-! ### own exceptions without an own __init__ -/
/-- what the written part says of the class x at C -/
structure ExA (c : Ctx) (x : Str) (C : Addr) : Prop where
  g : c.sc.names.lookup x = some .globalImplicit
  m : c.mg x = some (.ref C)
  ex : PySem.W.excIn c.K C He.veBase "ValueError.__new__" = true
  k : PySem.W.keepIn c.K (.ref C) = true
  b : PySem.W.subIn c.K (.ref C) (.type "BaseException") = some true
  t : PySem.W.typeIn c.K (.ref C) = some (.type "type")
  d1 : (x == ("__debug__" : Str)) = false
/-- .. as the head tells it -/
structure ExF (K : PySem.W.Frag) (mg : Str → Option Value) (x : Str) (C : Addr) : Prop where
  m : mg x = some (.ref C)
  ex : PySem.W.excIn K C He.veBase "ValueError.__new__" = true
  k : PySem.W.keepIn K (.ref C) = true
  b : PySem.W.subIn K (.ref C) (.type "BaseException") = some true
  t : PySem.W.typeIn K (.ref C) = some (.type "type")
theorem CtxIs.exa {c : Ctx} {K : PySem.W.Frag} {mg : Str → Option Value} {N : List Str} {sc : Scope} {x : Str} {C : Addr} (h : CtxIs c K mg N sc) (E : ExF K mg x C) (hg : sc.names.lookup x = some .globalImplicit) (d1 : (x == ("__debug__" : Str)) = false := by decide) : ExA c x C :=
  ⟨by rw [h.sc]; exact hg, by rw [h.mg]; exact E.m, by rw [h.K]; exact E.ex, by rw [h.K]; exact E.k, by rw [h.K]; exact E.b, by rw [h.K]; exact E.t, d1⟩
section
variable {c : Ctx} {δ : List En} {P : Po} {pos p p2 pos2 np : Pos} {x n : Str} {m : Str} {C : Addr} {j : Nat} {body suite : List Stmt} {b0 : Stmt} {i : Nat}
theorem x_raise (E : ExA c x C) (hc : c.calm = true) (hx : c.xc (.plain C) δ) : SX c (.Raise (some (.Call (.Name x p) [.Constant (.str m) j p2] [] pos)) none pos2) δ P :=
  SX.mk (t := fun _ σ H => c.W (.ref C) none σ H) (fun X f => ps_raise (f.calm.trans hc) f.take
    (pmk_own (X := X) PySem.F.excBase_ValueError (by rw [f.K]; exact E.ex) (by rw [f.mg]; exact E.m) (by rw [f.K]; exact E.k) (raises_own (by rw [f.K]; exact E.b) (by rw [f.K]; exact E.t)) (gl_of f.toFits E.g) E.d1)) fun G0 H0 G H σ D o k1 k2 k3 k4 =>
    o.xk (.plain C) δ σ G H hx o.toOkC
/-- the context of a try's body; of a suite -/
def Ctx.try_ (c : Ctx) (W : L2.WX) (xc : XD → List En → Prop) : Ctx := { c with W := W, xc := xc }
def Ctx.suit (c : Ctx) (a : Addr) (cls : Value) (d : Option Addr) : Ctx := { c with W := fun _ _ _ _ => False, xc := fun _ _ => False, calm := false, su := some (a, cls, d) }
theorem fits_try {X : Cx} (f : FitsS c X) (W : L2.WX) (xc : XD → List En → Prop) {pn : List (Addr × Obj)} {xe : Value → Shared → Prop} (tk : Takes (X.tr pn xe) W) (po : PassesOwn (model X.prog X.w) X.A X.env xe) (hs : c.su = none) : FitsS (c.try_ W xc) (X.tr pn xe) :=
  ⟨⟨f.p, f.w, f.K, f.mg, f.base, f.N, f.sc, f.calm, f.room, tk, f.fn, f.nd, fun a cls d z => by rw [show (c.try_ W xc).su = c.su from rfl, hs] at z; cases z⟩, fun _ => po, f.stk⟩
theorem fits_suit {X : Cx} (f : FitsS c X) {a : Addr} {oe : Obj} {cls : Value} {d : Option Addr} {pn : List (Addr × Obj)} (hz : Zc cls d oe) (hf : ∃ vs, oe.data = .fields vs) : FitsS (c.suit a cls d) (X.suite a ((a, oe) :: pn)) :=
  ⟨⟨f.p, f.w, f.K, f.mg, f.base, f.N, f.sc, rfl, (fun z => nomatch z), takes0, f.fn, f.nd, fun a' cls' d' z => by cases z; exact ⟨X, oe, pn, rfl, hz, hf⟩⟩, (fun z => nomatch z), (fun z => nomatch z)⟩
/-- how an exception of the body is met -/
def Met (c : Ctx) (cE : Value) (i : Nat) (b0 : Stmt) (suite : List Stmt) (P : Po) (C : Addr) (δ' : List En) : Prop :=
  (PySem.W.exmOne c.K (.ref C) cE = some true ∧ ∀ a, SsX (c.suit a (.ref C) none) (b0 :: suite) (δ'.set i (.raw (.ref a))) ⟨fun _ => False, P.rt, fun _ => False, fun _ => False⟩) ∨
    (PySem.W.exmOne c.K (.ref C) cE = some false ∧ c.xc (.plain C) δ')
/-- try: body except x as n: suite; the suite returns -/
theorem x_tryAs (xb : Addr → List En → Prop) {CE : Addr} (hc : c.calm = true) (hsu : c.su = none) (hg : c.sc.names.lookup x = some .globalImplicit) (hm : c.mg x = some (.ref CE)) (hi : c.N[i]? = some n) (hln : c.sc.names.lookup n = some .local)
    (hb : ∀ W, SsX (c.try_ W (fun x δ' => ∃ C, x = .plain C ∧ xb C δ')) body δ P) (hs : ∀ C δ', xb C δ' → Met c (.ref CE) i b0 suite P C δ') (hdb : (x == ("__debug__" : Str)) = false := by decide) :
    SX c (.Try body [.ExceptHandler (some (.Name x np)) (some n) (b0 :: suite) pos2] [] [] pos) δ P :=
  SX.mk (t := fun D σ H => (fun W => tSs (c.try_ W (fun x δ' => ∃ C, x = .plain C ∧ xb C δ')) body) (wAs c.K (.ref CE) i (fun a cls d => tSs (c.suit a cls d) (b0 :: suite)) c.W D) D σ H)
    (fun X f => by
      rw [← f.K]
      exact ps_try_as (tb := fun W => tSs (c.try_ W (fun x δ' => ∃ C, x = .plain C ∧ xb C δ')) body) (ts := fun a cls d => tSs (c.suit a cls d) (b0 :: suite)) (f.stk hc).1 (f.stk hc).2 (f.N ▸ f.nd : X.N.Nodup) (by rw [f.N]; exact hi)
        (by show X.env.scope.names.lookup n = _; rw [f.sc]; exact hln) ⟨gl_of f.toFits hg, hdb, .inl (by rw [f.mg]; exact hm)⟩ f.take
        (fun W pn xe tk po => pss_tSs (fits_try f W _ tk po hsu)) (fun a oe cls d pn hz hf => pss_tSs (fits_suit f hz hf)))
    fun G0 H0 G H σ D o k1 k2 k3 k4 => by
      refine hb _ G0 H0 G H σ D ⟨o.toOkC, fun x δ' σ' G' H' ⟨C, e, hx⟩ o' => ?_⟩ (fun δ' G' H' σ' n e o' => k1 δ' G' H' σ' n e (o.to o'.toOkC)) k2 (fun δ' G' H' σ' n e o' => k3 δ' G' H' σ' n e (o.to o'.toOkC)) (fun δ' G' H' σ' n e o' => k4 δ' G' H' σ' n e (o.to o'.toOkC))
      subst e
      show wAs c.K (.ref CE) i (fun a cls d => tSs (c.suit a cls d) (b0 :: suite)) c.W D (.ref C) none σ' H'
      rcases hs C δ' hx with ⟨h1, h2⟩ | ⟨h1, h2⟩
      · refine ⟨true, h1, fun _ a ha => ?_, fun z => nomatch z⟩
        exact h2 a G0 H0 G' H' (σ'.set i (some (.ref a))) _ ⟨o'.setR, fun _ _ _ _ _ z => z.elim⟩ (fun _ _ _ _ z => z.elim) k2 (fun _ _ _ _ z => z.elim) (fun _ _ _ _ z => z.elim)
      · exact ⟨false, h1, fun z => (nomatch z), fun _ => o.xk (.plain C) δ' σ' G' H' h2 o'⟩
/-! ### contexts of a try and of a suite, for assumption -/
theorem CtxIs.try_ {K : PySem.W.Frag} {mg : Str → Option Value} {N : List Str} {sc : Scope} (h : CtxIs c K mg N sc) (W : L2.WX) (xc : XD → List En → Prop) : CtxIs (c.try_ W xc) K mg N sc := ⟨h.K, h.mg, h.N, h.sc, h.calm, h.fn, h.su⟩
theorem VarAt.suit (v : VarAt c i x) (a : Addr) (cls : Value) (d : Option Addr) : VarAt (c.suit a cls d) i x := ⟨v.n, v.v, v.d1, v.d2⟩
theorem BltA.suit {u : Value} (v : BltA c x u) (a : Addr) (cls : Value) (d : Option Addr) : BltA (c.suit a cls d) x u := ⟨v.g, v.m, v.b, v.n, v.d1⟩
/-- isinstance(e, y), e the exception that the suite holds -/
theorem e_isE {y : Str} {a D : Addr} {p1 : Pos} {b : Bool} (B : BltA c x (.builtin "isinstance")) (hsu : c.su = some (a, .ref D, none)) (E : ExcC c.K D) (v : VarAt c i n) (hδ : δ[i]? = some (.raw (.ref a))) (hg : c.sc.names.lookup y = some .globalImplicit) (hm : c.mg y = some (.ref C))
    (hk : PySem.W.kitOne c.K (.ref D) (.ref C) = some b) (hdy : (y == ("__debug__" : Str)) = false := by decide)
    (hs1 : ∀ env, starEach [.Name n p1, .Name y p2] env = (false, eval (.Name n p1) env) :: starEach [.Name y p2] env := by intro _; with_unfolding_all rfl) (hs2 : ∀ env, starEach [.Name y p2] env = (false, eval (.Name y p2) env) :: starEach [] env := by intro _; with_unfolding_all rfl)
    (hpl : ∀ env, (backTo pos (starEach [.Name y p2] env)).any (·.1) = false := by intro _; with_unfolding_all rfl) : EX c (.Call (.Name x p) [.Name n p1, .Name y p2] [] pos) δ (.bool b) :=
  EX.mk (t := tCB (rIsE c.K D a) (tCons (tVar i) (tCons (tC (.ref C)) tNil))) (fun X f => by
    have hP : PA X [.Name n p1, .Name y p2] (tCons (tVar i) (tCons (tC (.ref C)) tNil)) := pa_cons (pe_var (by rw [f.N]; exact v.n) (by rw [f.sc]; exact v.v) v.d1 v.d2) (pa_cons (pe_glob (gl_of f hg) (by rw [f.mg]; exact hm) rfl hdy) pa_nil (hs2 _)) (hs1 _)
    have hgl := gl_of f B.g
    have hmg : X.mg x = none := by rw [f.mg]; exact B.m
    have hK := f.K
    obtain ⟨X0, oe, pn, rfl, hz, hf⟩ := f.su _ _ _ hsu
    refine pe_callB (r := rIsE c.K D a) ?_ hgl hmg B.b hP B.n B.d1 (hs1 _) (hpl _)
    rw [← hK]
    exact call_isE (X := X0) (by rw [show X0.K = c.K from hK]; exact E) hz hf) fun G0 H0 G H σ o Q k => by
    refine ⟨.ref a, o.raw i _ hδ, ?_⟩
    exact ⟨.ref C, .ref C, b, rfl, fun u r => r, hk, k _ (.bl b) G H rfl (.refl o.gh) (.bl b)⟩
end
/-! ### facts of classes, from the head -/
open PySem.W in
def excB (K : PySem.W.Frag) (D : Addr) : Bool := decide (findIn K (.ref D) "__getattribute__" = some (some (.builtin "BaseException.__getattribute__"))) && (decide (findIn K (.ref D) "__getattr__" = some none) && (decide (subIn K (.ref D) (.type "BaseException") = some true) && (hasDictIn K D && (decide (findIn K (.ref D) "__class__" = some (some (.builtin "object.__class__"))) &&
  (decide (specialIn K (.builtin "object.__class__") "__get__" = some (some (.builtin "getset_descriptor.__get__"))) && (decide (takesIn K (.builtin "object.__class__") = some true) && decide (mroIn K D (.type "object") = some true)))))))
theorem excB_ok {K : PySem.W.Frag} {D : Addr} (h : excB K D = true) : ExcC K D := by
  unfold excB at h
  simp only [Bool.and_eq_true, decide_eq_true_eq] at h
  obtain ⟨h1, h2, h3, h4, h5, h6, h7, h8⟩ := h
  exact ⟨h1, h2, h3, h4, h5, h6, h7, h8⟩
/-- facts beside He.Fa's -/
inductive Fx where
  | exc (x : Str)
  | kit (x y : Str) (b : Bool)
def Fx.ok (K : PySem.W.Frag) : Fx → Bool
  | .exc x => excB K (He.ga K x)
  | .kit x y b => decide (PySem.W.kitOne K (.ref (He.ga K x)) (.ref (He.ga K y)) = some b)
abbrev AlX : Type := Bool × He.AlD
def obsX (n : Nat) (fa : List He.Fa) (fx : List Fx) (fn : List He.DefD) (g : Addr → Option Obj) : AlX := (fx.all fun f => f.ok (He.frG g (He.asD g n)), He.obsDG n fa fn g)
def SaysX (fa : List He.Fa) (fx : List Fx) (fn : List He.DefD) (K : PySem.W.Frag) : Prop := He.SaysD fa fn K ∧ ∀ (i : Nat) (f : Fx), fx[i]? = some f → f.ok K = true
def hookX (n : Nat) (fa : List He.Fa) (fx : List Fx) (fn : List He.DefD) : PySem.W.Hook where
  α := AlX
  obs := fun s => obsX n fa fx fn s.heap.get?
  val := fun _ => (true, He.valD fn)
  says := fun _ h => ∃ K : PySem.W.Frag, K.In h ∧ SaysX fa fx fn K
  of := fun _ _ e => ⟨_, He.frG_in, congrArg (fun z : AlX => z.2) e, fun i f h => List.all_eq_true.mp (congrArg (fun z : AlX => z.1) e) f (List.mem_of_getElem? h)⟩
  keeps := fun _ _ _ ⟨K, hK, c⟩ k => ⟨K, PySem.W.Frag.In.keeps hK k, c⟩
theorem obsX_eq {n : Nat} {fa : List He.Fa} {fx : List Fx} {fn : List He.DefD} {g : Addr → Option Obj} {s : Shared} (h : ∀ a, g a = s.heap.get? a) : obsX n fa fx fn g = (hookX n fa fx fn).obs s := by
  have e : g = s.heap.get? := funext h
  rw [e] <;> rfl
theorem exf_ok {K : PySem.W.Frag} {h : Heap} {mg : Str → Option Value} {x : Str} (X : K.In h) (G : h.Ns mainGlobals mg) (g : (He.Fa.glo x).ok K = true) (c : (He.Fa.exc x).ok K = true) : ExF K mg x (He.ga K x) := by
  obtain ⟨h1, h2, h3, h4⟩ := He.exc_ok c
  exact ⟨He.glo_ok X G g, h1, h2, h3, h4⟩
/-! ### list + list, an own one and a new one -/
section
variable {c : Ctx} {a b e : Expr} {δ : List En} {x : Str} {pos p p1 : Pos} {i : Nat} {xs ys : List PyData} {P : Po}
theorem o_catVO (v : VarAt c i x) (hδ : δ[i]? = some (.ow xs)) (h : OX c b δ ys) (hl : xs.length + ys.length ≤ 100000) : OX c (.BinOp (.Name x p1) .Add b pos) δ (xs ++ ys) :=
  OX.mk (t := tOp rCat (tVar i) (tE c b)) (fun X f => pe_op op_cat (pe_var (by rw [f.N]; exact v.n) (by rw [f.sc]; exact v.v) v.d1 v.d2) (pe_tE f)) fun G0 H0 G H σ o Q k => by
    obtain ⟨q, vs, h1, h2, h3, h4, h5⟩ := o.ow i xs hδ
    refine ⟨.ref q, h1, h G0 H0 G H σ o _ fun r ws G1 H1 m hr gr hh dv => ?_⟩
    refine ⟨q, r, vs, ws, rfl, rfl, m.h q _ h4, hh, by rw [dpAll_len h5, dpAll_len dv]; exact sz_of hl, fun u hu => ?_⟩
    exact k u _ G1 _ (m.trans (Mv.own m.gh hu)) (fresh_back m.h hu) (fresh_back m.gh hu) upd_same (dpAll_app (dpAll_ex m.g h5) dv)
theorem o_catOV (v : VarAt c i x) (hδ : δ[i]? = some (.ow ys)) (h : OX c a δ xs) (hl : xs.length + ys.length ≤ 100000) : OX c (.BinOp a .Add (.Name x p1) pos) δ (xs ++ ys) :=
  OX.mk (t := tOp rCat (tE c a) (tVar i)) (fun X f => pe_op op_cat (pe_tE f) (pe_var (by rw [f.N]; exact v.n) (by rw [f.sc]; exact v.v) v.d1 v.d2)) fun G0 H0 G H σ o Q k => by
    obtain ⟨q, vs, h1, h2, h3, h4, h5⟩ := o.ow i ys hδ
    refine h G0 H0 G H σ o _ fun r ws G1 H1 m hr gr hh dv => ⟨.ref q, h1, ?_⟩
    refine ⟨r, q, ws, vs, rfl, rfl, hh, m.h q _ h4, by rw [dpAll_len h5, dpAll_len dv]; exact sz_of hl, fun u hu => ?_⟩
    exact k u _ G1 _ (m.trans (Mv.own m.gh hu)) (fresh_back m.h hu) (fresh_back m.gh hu) upd_same (dpAll_app dv (dpAll_ex m.g h5))
end
/-! ### y = [comprehension] -/
section
variable {c : Ctx} {K : PySem.W.Frag} {mg : Str → Option Value} {N : List Str} {sc scope : Scope} {x : Str} {i : Nat} {e it t : Expr} {ifs : List Expr} {δ : List En} {ds : List PyData} {pos p1 p2 p3 spos : Pos} {own : List (Str × Nat)} {P : Po}
theorem asgO_of {te : TE} (h : EvO c.ek te δ ds) (k : P.nx (δ.set i (.ow ds))) : StD c.ek (tAsg te (gName i)) δ P := fun G0 H0 G H σ D o k1 k2 k3 k4 =>
  h G0 H0 G H σ o _ fun p vs G' H' m hp gp hh dv => k1 _ G' H' _ k m.g ((o.step m).to ((o.step m).toOkC.setO (fresh_back o.mv.h hp) gp hh dv fun j _ => o.toOkC.notOwn hp j))
theorem x_asgLc (lst : Bool) (acc : Nat → List PyData) (h : CtxIs c K mg N sc) (ok : BlkOk N sc scope own) (hy : N[i]? = some x) (hyl : sc.names.lookup x = some .local) (hk : sc.kind = .function) (hl : (p1.line == pos.line) = true)
    (ha : (scope.names.any fun (n, k) => n == x && (k == .local || k == .cell)) = false) (hi : EX c it δ (if lst then .list ds else .tuple ds)) (h0 : acc 0 = []) (hz : ∀ n, n < ds.length → (acc n).length < 100000)
    (ht : ∀ cb, cb = c.blk scope → ∀ n d, ds[n]? = some d → LcT cb t ifs e (own.map (·.2)) (wipeE δ (own.map (·.2))) d (acc n) (acc (n + 1))) (k : P.nx (δ.set i (.ow (acc ds.length))))
    (hf : ∀ env v, foldedSetIterable it env v = pure v := by intro _ _; with_unfolding_all rfl) : SX c (.Assign [.Name x p1] (.ListComp e [⟨t, it, ifs, 0⟩] scope pos) spos) δ P :=
  SX.mk (fun X f => ps_blk f h.calm (by rw [h.N, h.sc]; exact ok) (by rw [h.N]; exact hy) (by rw [h.sc]; exact hyl) (by rw [h.sc]; exact hk) hl ha (pi_any lst f.toFits) hf) (asgO_of (lc_any lst acc hi h0 hz (ht _ rfl)) k)
theorem x_asgLcR1 {a : Expr} {hi : Int} (acc : Nat → List PyData) (h : CtxIs c K mg N sc) (ok : BlkOk N sc scope own) (B : BltA c "range" (.type "range")) (hy : N[i]? = some x) (hyl : sc.names.lookup x = some .local) (hk : sc.kind = .function) (hl : (p1.line == pos.line) = true)
    (ha : (scope.names.any fun (n, k) => n == x && (k == .local || k == .cell)) = false) (h1 : EX c a δ (.int hi)) (h0 : acc 0 = []) (hz : ∀ n, n < hi.toNat → (acc n).length < 100000)
    (ht : ∀ cb, cb = c.blk scope → ∀ k : Nat, (k : Int) < hi → LcT cb t ifs e (own.map (·.2)) (wipeE δ (own.map (·.2))) (.int k) (acc k) (acc (k + 1))) (k : P.nx (δ.set i (.ow (acc hi.toNat))))
    (hsa : ∀ env, starEach [a] env = [(false, eval a env)] := by intro _; with_unfolding_all rfl) : SX c (.Assign [.Name x p1] (.ListComp e [⟨t, .Call (.Name "range" p2) [a] [] p3, ifs, 0⟩] scope pos) spos) δ P :=
  SX.mk (fun X f => ps_blk f h.calm (by rw [h.N, h.sc]; exact ok) (by rw [h.N]; exact hy) (by rw [h.sc]; exact hyl) (by rw [h.sc]; exact hk) hl ha (pi_rgB1 (gl_of f.toFits B.g) (by rw [f.mg]; exact B.m) (pa_tA f.toFits) (hsa _)) (fun _ _ => rfl))
    (asgO_of (lc_rg (lo := 0) acc (tw_rg1 h1 hsa) h0 hz fun k hk => by rw [Int.zero_add]; exact ht _ rfl k (by omega)) k)
end
/-! ### a module's integer -/
structure GlI (c : Ctx) (x : Str) (n : Int) : Prop where
  g : c.sc.names.lookup x = some .globalImplicit
  m : ∃ t, c.mg x = some (.int n t)
  d1 : (x == ("__debug__" : Str)) = false
theorem e_gli {c : Ctx} {x : Str} {n : Int} {pos : Pos} {δ : List En} (g : GlI c x n) : EX c (.Name x pos) δ (.int n) := by
  obtain ⟨t, hm⟩ := g.m
  exact e_glob (v := .int n) g.g hm ⟨t, rfl⟩ (fun _ => .int n) g.d1
theorem CtxIs.gli {c : Ctx} {K : PySem.W.Frag} {mg : Str → Option Value} {N : List Str} {sc : Scope} {x : Str} {n : Int} (h : CtxIs c K mg N sc) (hg : sc.names.lookup x = some .globalImplicit) (hm : ∃ t, mg x = some (.int n t)) (d1 : (x == ("__debug__" : Str)) = false := by decide) : GlI c x n :=
  ⟨by rw [h.sc]; exact hg, by rw [h.mg]; exact hm, d1⟩
end Dy

set_option Elab.async false
set_option linter.all false
set_option maxRecDepth 100000
set_option maxHeartbeats 2000000
namespace Dy
open PySem L2 PySem.Spec PyProof.Rows
open Evl (Ex ex_l ex_t fresh_back sz_of sz_lt)
section
variable {c : Ctx} {a b e : Expr} {δ : List En} {x y : Str} {pos p p1 p2 : Pos} {i : Nat} {ds : List PyData} {P : Po}
/-- tuple(xs), xs a name's own -/
theorem e_tupleOw (B : BltA c x (.type "tuple")) (v : VarAt c i y) (hδ : δ[i]? = some (.ow ds)) (hs : ∀ env, starEach [.Name y p1] env = (false, eval (.Name y p1) env) :: starEach [] env := by intro _; with_unfolding_all rfl) (hpl : ∀ env, (backTo pos (starEach [] env)).any (·.1) = false := by intro _; with_unfolding_all rfl) : EX c (.Call (.Name x p) [.Name y p1] [] pos) δ (.tuple ds) :=
  EX.mk (t := tCB (fun xs H Q => ∃ p ys, xs = [.ref p] ∧ ((SqL c.K H p ys ∧ ∀ l, H l = none → Q (.ref l) (upd H l (.tup ys))) ∨ (SqT c.K H p ys ∧ Q (.ref p) H))) (tCons (tVar i) tNil))
    (fun X f => pe_callTy (by rw [← f.K]; exact call_tuple_of) (gl_of f B.g) (by rw [f.mg]; exact B.m) B.b (pa_cons (pe_var (by rw [f.N]; exact v.n) (by rw [f.sc]; exact v.v) v.d1 v.d2) pa_nil (hs _)) B.n B.d1 (hs _) (hpl _)) fun G0 H0 G H σ o Q k => by
      obtain ⟨q, vs, h1, h2, h3, h4, h5⟩ := o.ow i ds hδ
      refine ⟨.ref q, h1, q, vs, rfl, .inl ⟨SqL.of h4, fun l hl => ?_⟩⟩
      have n := Mv.new (o := .tup vs) o.gh hl
      exact k _ _ _ _ rfl n (.tup (SqT.of upd_same) (dpAll_ex n.g h5))
/-- xs[lo:hi], xs a name's own -/
theorem o_slOw {lo hi : Option Expr} {l u : Option Int} (v : VarAt c i x) (hδ : δ[i]? = some (.ow ds)) (h1 : PaD c lo δ l) (h2 : PaD c hi δ u) : OX c (.Subscript (.Name x p1) (.Slice lo hi none p2) pos) δ (cutG ds l u) :=
  OX.mk (t := tSl (rSlL c.K) (tVar i) (tPa c lo) (tPa c hi)) (fun X f => pe_slice (by rw [← f.K]; exact sl_list) (pe_var (by rw [f.N]; exact v.n) (by rw [f.sc]; exact v.v) v.d1 v.d2) (po_tPa f) (po_tPa f)) fun G0 H0 G H σ o Q k => by
    obtain ⟨q, vs, q1, q2, q3, q4, q5⟩ := o.ow i ds hδ
    refine ⟨.ref q, q1, h1.run rfl o fun G2 H2 m2 => h2.run rfl (o.step m2) fun G3 H3 m3 => ?_⟩
    have m := m2.trans m3
    exact ⟨q, vs, rfl, SqL.of (m.h q _ q4), fun a hp => k a _ G3 _ (m.trans (Mv.own m.gh hp)) (fresh_back m.h hp) (fresh_back m.gh hp) upd_same (dp_cut l u (dpAll_ex m.g q5))⟩
end

/-! ### sorted, pairs of ints -/
abbrev prD (p : Int × Int) : PyData := .tuple [.int p.1, .int p.2]
def leP (p q : Int × Int) : Bool := !SrtO.lexB q p
def srtP (l : List (Int × Int)) : List (Int × Int) := l.mergeSort leP
theorem leP_iff {p q : Int × Int} : leP p q = true ↔ p.1 < q.1 ∨ (p.1 = q.1 ∧ p.2 ≤ q.2) := by
  unfold leP
  rw [Bool.not_eq_true', SrtO.lexB_no]
  omega
theorem srtP_perm (l : List (Int × Int)) : (srtP l).Perm l := List.mergeSort_perm _ _
theorem srtP_pw (l : List (Int × Int)) : (srtP l).Pairwise fun p q => p.1 < q.1 ∨ (p.1 = q.1 ∧ p.2 ≤ q.2) := by
  have := List.pairwise_mergeSort (le := leP) (fun a b c h1 h2 => by rw [leP_iff] at *; omega) (fun a b => by rw [Bool.or_eq_true, leP_iff, leP_iff]; omega) l
  exact this.imp fun h => leP_iff.mp h
theorem srtP_uniq {l m : List (Int × Int)} (h : m.Perm l) (p : m.Pairwise fun p q => p.1 < q.1 ∨ (p.1 = q.1 ∧ p.2 ≤ q.2)) : m = srtP l :=
  (h.trans (srtP_perm l).symm).eq_of_pairwise (fun a b _ _ h1 h2 => Prod.ext (by omega) (by omega)) p (srtP_pw l)
section
variable {X : Cx}
def PrV (K : PySem.W.Frag) (H : Hp) (x : V) (p : Int × Int) : Prop := ∃ t, x = .ref t ∧ SqT K H t [.int p.1, .int p.2]
theorem PrV.of {K : PySem.W.Frag} {H : Hp} {x : V} {p : Int × Int} (h : Dp K H x (prD p)) : PrV K H x p := by
  obtain ⟨t, xs, rfl, s1, q1⟩ := dp_tuple h
  have := dpAll_ints (ns := [p.1, p.2]) q1
  subst this
  exact ⟨t, rfl, s1⟩
theorem PrV.dp {K : PySem.W.Frag} {H : Hp} {x : V} {p : Int × Int} (h : PrV K H x p) : Dp K H x (prD p) := by
  obtain ⟨t, rfl, s⟩ := h
  exact .tup s (.cons (.int _) (.cons (.int _) .nil))
open Classical in
noncomputable def prK (K : PySem.W.Frag) (H : Hp) (x : V) : Int × Int := if h : ∃ p, PrV K H x p then h.choose else (0, 0)
theorem prK_eq {pins : List (Addr × Obj)} {σ : L2.St} {H : Hp} {s : Shared} (I : Inv X pins σ H s) {x : V} {p : Int × Int} (h : PrV X.K H x p) : prK X.K H x = p := by
  have e : ∃ p, PrV X.K H x p := ⟨p, h⟩
  unfold prK
  rw [dif_pos e]
  obtain ⟨t, rfl, s1⟩ := h
  obtain ⟨t', e2, s2⟩ := e.choose_spec
  cases e2
  have := I.tuple_inj s2 s1
  simp only [List.cons.injEq, V.int.injEq, and_true] at this
  exact Prod.ext this.1 this.2
theorem prs_of {pins : List (Addr × Obj)} {σ : L2.St} {H : Hp} {s : Shared} (I : Inv X pins σ H s) : ∀ {xs : List V} {l : List (Int × Int)}, DpAll X.K H xs (l.map prD) → (∀ x ∈ xs, PrV X.K H x (prK X.K H x)) ∧ xs.map (prK X.K H) = l
  | [], [], _ => ⟨fun _ z => (nomatch z), rfl⟩
  | x :: xs, p :: l, .cons a b => by
    obtain ⟨h1, h2⟩ := prs_of I b
    have hp := PrV.of a
    have e := prK_eq I hp
    refine ⟨fun y hy => ?_, by rw [List.map_cons, e, h2]⟩
    rcases List.mem_cons.mp hy with rfl | z
    · rw [e]; exact hp
    · exact h1 y z
theorem dpAll_of_prs {K : PySem.W.Frag} {G : Hp} {k : V → Int × Int} : ∀ {ys : List V}, (∀ y ∈ ys, PrV K G y (k y)) → DpAll K G ys ((ys.map k).map prD)
  | [], _ => .nil
  | y :: ys, h => .cons (h y List.mem_cons_self).dp (dpAll_of_prs fun z hz => h z (List.mem_cons_of_mem _ hz))
theorem dpAll_mem {K : PySem.W.Frag} {G : Hp} : ∀ {xs : List V} {l : List (Int × Int)}, DpAll K G xs (l.map prD) → ∀ x ∈ xs, ∃ p, PrV K G x p
  | _ :: _, p :: l, .cons a b, y, hy => by
    rcases List.mem_cons.mp hy with rfl | z
    · exact ⟨p, PrV.of a⟩
    · exact dpAll_mem b y z
/-- sorted(xs), xs a list of pairs of ints: any reading of the items -/
def rSortedPT (K : PySem.W.Frag) : List V → Hp → VK → Prop := fun vs H Q => ∃ (a : Addr) (xs : List V) (l : List (Int × Int)), vs = [V.ref a] ∧ SqL K H a xs ∧ DpAll K H xs (l.map prD) ∧
  ∀ ys p, (∀ G, Evl.Ex G H → DpAll K G xs (l.map prD) → DpAll K G ys ((srtP l).map prD)) → H p = none → Q (.ref p) (upd H p (.lst ys))
theorem cr_sortedPT : CallR X (.builtin "sorted") (rSortedPT X.K) := by
  intro pins s σ H vs us Q I r h
  obtain ⟨a, xs, l, rfl, hs, hx, q⟩ := h
  obtain ⟨its, rv, hl, hz⟩ := I.list hs
  obtain ⟨u, rfl, ru⟩ := vals1 r
  obtain rfl : u = Value.ref a := ru
  obtain ⟨hk, hm⟩ := prs_of I hx
  obtain ⟨e1, e2⟩ := refs_back rv fun x m => by
    obtain ⟨t, e, _⟩ := hk x m
    exact ⟨t, e⟩
  refine SrtO.sorted_pairsO (k := fun u => prK X.K H (backV u)) hl.isList (by rw [← rv.length]; exact hz) (fun v hv => ?_) fun h' d out h1 h2 kp hd hn => ?_
  · obtain ⟨t, rfl⟩ := e2 v hv
    have hm2 : V.ref t ∈ xs := by rw [e1]; exact List.mem_map.mpr ⟨_, hv, rfl⟩
    obtain ⟨t', e, ht⟩ := hk _ hm2
    cases e
    obtain ⟨its2, r2, ⟨o, ho, hc, n, hd⟩, _⟩ := I.tuple ht
    obtain ⟨u1, u2, rfl, ri, rj⟩ := vals2 r2
    obtain ⟨t1, rfl⟩ := ri
    obtain ⟨t2, rfl⟩ := rj
    exact ⟨t, o, t1, t2, n, rfl, ho, hc, hd⟩
  · have h3 : ∀ u ∈ out, ∃ a, u = Value.ref a := fun u hu => e2 u (h2.perm.mem_iff.mp hu)
    obtain ⟨n, hn⟩ := hn
    have hb : SrtO.Stb (ltP (prK X.K H)) (out.map backV) xs := by
      rw [e1]
      exact SrtO.Stb.map (ltP_swo (prK X.K H)) backV h2
    have hsr : SrtO.Srtd (ltP (prK X.K H)) (out.map backV) := SrtO.srtd_map h1
    have hl2 : (out.map backV).map (prK X.K H) = srtP l := by
      refine srtP_uniq ?_ ?_
      · rw [← hm]; exact hb.perm.map _
      · rw [List.pairwise_map]
        exact hsr.imp fun h => by have := SrtO.lexB_no.mp h; omega
    refine ⟨.ref d, upd H d (.lst (out.map backV)), I.laid (t' := s.toks) kp hd ⟨?_, out, n, vals_back h3, hn⟩, rfl, q _ d (fun G e dv => ?_) (I.hok.fresh hd)⟩
    · rw [hb.len]
      exact hz
    · rw [← hl2]
      refine dpAll_of_prs fun y hy => ?_
      have hyx := hb.perm.mem_iff.mp hy
      obtain ⟨p, hp⟩ := dpAll_mem dv y hyx
      have : prK X.K H y = p := prK_eq I (PrV.of (dp_ex e hp.dp))
      rw [this]; exact hp
end
section
variable {c : Ctx} {a b e : Expr} {es : List Expr} {δ : List En} {x y : Str} {pos p p1 p2 : Pos} {i : Nat} {ds xs ys : List PyData} {P : Po}
theorem o_sortedP {l : List (Int × Int)} (B : BltA c x (.builtin "sorted")) (h : EX c e δ (.list (l.map prD))) (hs : ∀ env, starEach [e] env = (false, eval e env) :: starEach [] env := by intro _; with_unfolding_all rfl) (hpl : ∀ env, (backTo pos (starEach [] env)).any (·.1) = false := by intro _; with_unfolding_all rfl) : OX c (.Call (.Name x p) [e] [] pos) δ ((srtP l).map prD) :=
  OX.mk (t := tCB (rSortedPT c.K) (tA c [e])) (fun X f => pe_callB (by rw [← f.K]; exact cr_sortedPT) (gl_of f B.g) (by rw [f.mg]; exact B.m) B.b (pa_tA f) B.n B.d1 (hs _) (hpl _)) fun G0 H0 G H σ o Q k =>
    (a_cons h a_nil hs) G0 H0 G H σ o _ fun vs G1 H1 m dv => by
      obtain ⟨v, rfl, dv1⟩ := dp_1 dv
      obtain ⟨a, xs, rfl, s1, q1⟩ := dp_list dv1
      refine ⟨a, xs, l, rfl, ex_l m.gh s1, dpAll_ex m.gh q1, fun ys p hp hf => ?_⟩
      exact k p _ G1 _ (m.trans (Mv.own m.gh hf)) (fresh_back m.h hf) (fresh_back m.gh hf) upd_same (hp G1 m.gh q1)
/-- list + list, both new -/
theorem o_catOO (h1 : OX c a δ xs) (h2 : OX c b δ ys) (hl : xs.length + ys.length ≤ 100000) : OX c (.BinOp a .Add b pos) δ (xs ++ ys) :=
  OX.mk (t := tOp rCat (tE c a) (tE c b)) (fun X f => pe_op op_cat (pe_tE f) (pe_tE f)) fun G0 H0 G H σ o Q k =>
    h1 G0 H0 G H σ o _ fun q vs G1 H1 m1 hq gq hh dv => h2 G0 H0 G1 H1 σ (o.step m1) _ fun r ws G2 H2 m2 hr gr hh2 dw => by
      have m := m1.trans m2
      refine ⟨q, r, vs, ws, rfl, rfl, m2.h q _ hh, hh2, by rw [dpAll_len dv, dpAll_len dw]; exact sz_of hl, fun u hu => ?_⟩
      exact k u _ G2 _ (m.trans (Mv.own m.gh hu)) (fresh_back m.h hu) (fresh_back m.gh hu) upd_same (dpAll_app (dpAll_ex m2.g dv) dw)
/-- list(xs), xs a name's own -/
theorem o_listOw (B : BltA c x (.type "list")) (v : VarAt c i y) (hδ : δ[i]? = some (.ow ds)) (hs : ∀ env, starEach [.Name y p1] env = (false, eval (.Name y p1) env) :: starEach [] env := by intro _; with_unfolding_all rfl) (hpl : ∀ env, (backTo pos (starEach [] env)).any (·.1) = false := by intro _; with_unfolding_all rfl) : OX c (.Call (.Name x p) [.Name y p1] [] pos) δ ds :=
  OX.mk (t := tCB (fun xs H Q => ∃ p ys, xs = [.ref p] ∧ (SqL c.K H p ys ∨ SqT c.K H p ys) ∧ ∀ l, H l = none → Q (.ref l) (upd H l (.lst ys))) (tCons (tVar i) tNil))
    (fun X f => pe_callTy (by rw [← f.K]; exact call_list_of) (gl_of f B.g) (by rw [f.mg]; exact B.m) B.b (pa_cons (pe_var (by rw [f.N]; exact v.n) (by rw [f.sc]; exact v.v) v.d1 v.d2) pa_nil (hs _)) B.n B.d1 (hs _) (hpl _)) fun G0 H0 G H σ o Q k => by
      obtain ⟨q, vs, h1, h2, h3, h4, h5⟩ := o.ow i ds hδ
      exact ⟨.ref q, h1, q, vs, rfl, .inl (SqL.of h4), fun l hl => k l vs G _ (Mv.own o.gh hl) (fresh_back (.refl H) hl) (fresh_back o.gh hl) upd_same h5⟩
/-- *e in a display -/
theorem a_starT (h : EX c e δ (.tuple xs)) (hr : AX c es δ ys) (hs : ∀ env, starEach (.Starred e p :: es) env = (true, eval e env) :: starEach es env := by intro _; with_unfolding_all rfl) : AX c (.Starred e p :: es) δ (xs ++ ys) :=
  AX.mk (t := StX.tStar c.K (tE c e) (tA c es)) (fun X f => by rw [← f.K]; exact StX.pa_star (pe_tE f) (pa_tA f) (hs _)) fun G0 H0 G H σ o Q k =>
    h G0 H0 G H σ o _ fun d' v G1 H1 e1 m1 dv => by
      subst e1
      obtain ⟨a, vs, rfl, s1, q1⟩ := dp_tuple dv
      exact ⟨a, vs, rfl, .inl (ex_t m1.gh s1), hr G0 H0 G1 H1 σ (o.step m1) _ fun ws G2 H2 m2 dvs => k _ G2 H2 (m1.trans m2) (dpAll_app (dpAll_ex m2.g q1) dvs)⟩
/-- xs[-1] = e, xs a name's own -/
theorem x_setLast {d : PyData} (v : VarAt c i x) (hδ : δ[i]? = some (.ow ds)) (h : EX c e δ d) (h2 : EX c b δ (.int (-1))) (hj : 0 < ds.length) (k : P.nx (δ.set i (.ow (ds.set (ds.length - 1) d))))
    (ha : ∀ (pos : Pos) env v, assign (.Subscript (.Name x p2) b pos) env v = (do
      let ov ← holding [v] (eval (.Name x p2) env)
      let iv ← holding [v, ov] (eval b env)
      standAt pos
      holding [v, ov, iv] (setItem ov iv v)
      release [v, ov, iv] []) := by intro _ _ _; with_unfolding_all rfl)
    (hs : ∀ env, swapsWithSole [.Subscript (.Name x p2) b p1] e pos.line env = pure false := by intro _; with_unfolding_all rfl) (hw : ∀ env, swappedStores [.Subscript (.Name x p2) b p1] e env = pure none := by intro _; with_unfolding_all rfl)
    (h1 : ∀ env, (assignEach [.Subscript (.Name x p2) b p1] env).map (·.2) = [assign (.Subscript (.Name x p2) b p1) env] := by intro _; with_unfolding_all rfl) : SX c (.Assign [.Subscript (.Name x p2) b p1] e pos) δ P :=
  x_setO v.n v.v hδ h h2 (by unfold ixN; rw [if_neg (by decide), if_pos (by omega)]; congr 1; omega) k v.d1 v.d2 ha hs hw h1
end

/-! ### for over a list that a call names -/
section
variable {c : Ctx} {e t : Expr} {body : List Stmt} {δ : List En} {P : Po} {pos : Pos}
theorem x_forSL {Z : List PyData → Prop} (I : List PyData → Nat → List En → Prop) (h : ES c e δ fun d => ∃ ds, d = .list ds ∧ Z ds) (hc : c.calm = true) (h0 : ∀ ds, Z ds → I ds 0 δ)
    (hs : ∀ ds, Z ds → ∀ n d δ1, ds[n]? = some d → I ds n δ1 → ∃ sl δ2, GX c t d sl δ1 δ2 ∧ SsX c body δ2 ⟨I ds (n + 1), P.rt, P.nx, I ds (n + 1)⟩) (hd : ∀ ds, Z ds → ∀ δ1, I ds ds.length δ1 → P.nx δ1)
    (hf : ∀ env v, foldedSetIterable e env v = pure v := by intro _ _; with_unfolding_all rfl) : SX c (.For t e body [] pos) δ P :=
  SX.mk (t := tFor (iAny c.K (tE c e) true) (tG c t) (tSs c body)) (fun X f => ps_for (f.own hc) (f.calm.trans hc) (pi_any true f.toFits) (pg_tG f.toFits) (pss_tSs f) (hf _)) fun G0 H0 G H σ D o k1 k2 k3 k4 => by
    refine h G0 H0 G H σ o _ fun d v G1 H1 e1 m dv => ?_
    obtain ⟨ds, rfl, hz⟩ := e1
    obtain ⟨a, vs, rfl, s1, q1⟩ := dp_list dv
    refine ⟨a, rfl, ⟨vs, ex_l m.gh s1⟩, for_list (K := c.K) (xs := vs) (fun n σ' H' => ∃ δ' G', Ex G1 G' ∧ Ok c.ek G0 H0 G' H' σ' δ' ∧ I ds n δ') ⟨δ, G1, Evl.Ex.refl G1, o.step m, h0 ds hz⟩
      (fun n σ' H' _ ⟨δ1, G', e2, o1, _⟩ => ex_l (e2.trans o1.gh) s1) (fun n v σ' H' hv ⟨δ1, G', e2, o1, i1⟩ => ?_) fun σ' H' ⟨δ1, G', e2, o1, i1⟩ => ?_⟩
    · obtain ⟨d, hd, dd⟩ := dpAll_get' q1 hv
      obtain ⟨sl, δ2, g2, b2⟩ := hs ds hz n d δ1 hd i1
      refine g2 G0 H0 G' H' σ' v o1 (dp_ex e2 dd) _ fun σ2 _ o2 => ?_
      exact b2 G0 H0 G' H' σ2 _ o2 (fun δ3 G3 H3 σ3 n3 e3 o3 => ⟨δ3, G3, e2.trans e3, o3, n3⟩) k2 (fun δ3 G3 H3 σ3 n3 e3 o3 => k1 δ3 G3 H3 σ3 n3 ((m.g.trans e2).trans e3) o3) (fun δ3 G3 H3 σ3 n3 e3 o3 => ⟨δ3, G3, e2.trans e3, o3, n3⟩)
    · rw [dpAll_len q1] at i1
      exact k1 δ1 G' H' σ' (hd ds hz δ1 i1) (m.g.trans e2) o1
end
/-! ### isinstance in a suite, by facts of the class that came -/
structure SuF (c : Ctx) (C : Addr) (x : Str) (b : Bool) : Prop where
  g : c.sc.names.lookup x = some .globalImplicit
  d1 : (x == ("__debug__" : Str)) = false
  k : (∃ D, c.mg x = some (.ref D) ∧ PySem.W.kitOne c.K (.ref C) (.ref D) = some b) ∨ (∃ T, c.mg x = none ∧ bootBuiltins x = some (.type T) ∧ PySem.W.kitOne c.K (.ref C) (.type T) = some b ∧ x ≠ "__name__")
/-- the class NA, and whether it is each of the classes of xs, of the built-in types ts -/
structure RefX (K : PySem.W.Frag) (mg : Str → Option Value) (nm : Str) (NA : Addr) (xs ts : List (Str × Bool)) : Prop where
  e : ExF K mg nm NA
  x : ExcC K NA
  m : PySem.W.exmOne K (.ref NA) (.ref NA) = some true
  ks : ∀ q ∈ xs, ∃ D, mg q.1 = some (.ref D) ∧ PySem.W.kitOne K (.ref NA) (.ref D) = some q.2
  kt : ∀ q ∈ ts, ∃ T, mg q.1 = none ∧ bootBuiltins q.1 = some (.type T) ∧ PySem.W.kitOne K (.ref NA) (.type T) = some q.2 ∧ q.1 ≠ "__name__"
section
variable {c : Ctx} {K : PySem.W.Frag} {mg : Str → Option Value} {N : List Str} {sc : Scope} {δ : List En} {x y n nm : Str} {pos p p1 p2 : Pos} {i : Nat} {a C : Addr} {b : Bool} {xs ts : List (Str × Bool)}
theorem CtxIs.suf (h : CtxIs c K mg N sc) (R : RefX K mg nm C xs ts) (y : Str) (b : Bool) (hm : (y, b) ∈ xs) (a : Addr) (hg : sc.names.lookup y = some .globalImplicit) (d1 : (y == ("__debug__" : Str)) = false := by decide) : SuF (c.suit a (.ref C) none) C y b := by
  obtain ⟨D, h1, h2⟩ := R.ks _ hm
  exact ⟨by show c.sc.names.lookup y = _; rw [h.sc]; exact hg, d1, .inl ⟨D, by show c.mg y = _; rw [h.mg]; exact h1, by show PySem.W.kitOne c.K _ _ = _; rw [h.K]; exact h2⟩⟩
theorem CtxIs.suft (h : CtxIs c K mg N sc) (R : RefX K mg nm C xs ts) (y : Str) (b : Bool) (hm : (y, b) ∈ ts) (a : Addr) (hg : sc.names.lookup y = some .globalImplicit) (d1 : (y == ("__debug__" : Str)) = false := by decide) : SuF (c.suit a (.ref C) none) C y b := by
  obtain ⟨T, h1, h2, h3, h4⟩ := R.kt _ hm
  exact ⟨by show c.sc.names.lookup y = _; rw [h.sc]; exact hg, d1, .inr ⟨T, by show c.mg y = _; rw [h.mg]; exact h1, h2, by show PySem.W.kitOne c.K _ _ = _; rw [h.K]; exact h3, h4⟩⟩
theorem CtxIs.sux (h : CtxIs c K mg N sc) (R : RefX K mg nm C xs ts) (a : Addr) : ExcC (c.suit a (.ref C) none).K C := by show ExcC c.K C; rw [h.K]; exact R.x
theorem e_isS {D : Addr} (B : BltA c x (.builtin "isinstance")) (hsu : c.su = some (a, .ref D, none)) (E : ExcC c.K D) (v : VarAt c i n) (hδ : δ[i]? = some (.raw (.ref a))) (F : SuF c D y b)
    (hs1 : ∀ env, starEach [.Name n p1, .Name y p2] env = (false, eval (.Name n p1) env) :: starEach [.Name y p2] env := by intro _; with_unfolding_all rfl) (hs2 : ∀ env, starEach [.Name y p2] env = (false, eval (.Name y p2) env) :: starEach [] env := by intro _; with_unfolding_all rfl)
    (hpl : ∀ env, (backTo pos (starEach [.Name y p2] env)).any (·.1) = false := by intro _; with_unfolding_all rfl) : EX c (.Call (.Name x p) [.Name n p1, .Name y p2] [] pos) δ (.bool b) := by
  rcases F.k with ⟨C, hm, hk⟩ | ⟨T, hm, hb, hk, hn⟩
  · exact e_isE B hsu E v hδ F.g hm hk F.d1 hs1 hs2 hpl
  · exact EX.mk (t := tCB (rIsE c.K D a) (tCons (tVar i) (tCons (tC (.ty T)) tNil))) (fun X f => by
      have hP : PA X [.Name n p1, .Name y p2] (tCons (tVar i) (tCons (tC (.ty T)) tNil)) := pa_cons (pe_var (by rw [f.N]; exact v.n) (by rw [f.sc]; exact v.v) v.d1 v.d2) (pa_cons (pe_bltn (v := .ty T) (gl_of f F.g) (by rw [f.mg]; exact hm) hb rfl hn F.d1) pa_nil (hs2 _)) (hs1 _)
      have hgl := gl_of f B.g
      have hmg : X.mg x = none := by rw [f.mg]; exact B.m
      have hK := f.K
      obtain ⟨X0, oe, pn, rfl, hz, hf⟩ := f.su _ _ _ hsu
      refine pe_callB (r := rIsE c.K D a) ?_ hgl hmg B.b hP B.n B.d1 (hs1 _) (hpl _)
      rw [← hK]
      exact call_isE (X := X0) (by rw [show X0.K = c.K from hK]; exact E) hz hf) fun G0 H0 G H σ o Q k => by
      refine ⟨.ref a, o.raw i _ hδ, ?_⟩
      exact ⟨.ty T, .type T, b, rfl, fun u r => r, hk, k _ (.bl b) G H rfl (.refl o.gh) (.bl b)⟩
end
/-! ### more facts from the head -/
inductive Fy where
  | exc (x : Str)
  | kit (x y : Str) (b : Bool)
  | kty (x : Str) (T : String) (b : Bool)
def Fy.ok (K : PySem.W.Frag) : Fy → Bool
  | .exc x => excB K (He.ga K x)
  | .kit x y b => decide (PySem.W.kitOne K (.ref (He.ga K x)) (.ref (He.ga K y)) = some b)
  | .kty x T b => decide (PySem.W.kitOne K (.ref (He.ga K x)) (.type T) = some b)
def obsY (n : Nat) (fa : List He.Fa) (fx : List Fy) (fn : List He.DefD) (g : Addr → Option Obj) : AlX := (fx.all fun f => f.ok (He.frG g (He.asD g n)), He.obsDG n fa fn g)
def SaysY (fa : List He.Fa) (fx : List Fy) (fn : List He.DefD) (K : PySem.W.Frag) : Prop := He.SaysD fa fn K ∧ ∀ (i : Nat) (f : Fy), fx[i]? = some f → f.ok K = true
def hookY (n : Nat) (fa : List He.Fa) (fx : List Fy) (fn : List He.DefD) : PySem.W.Hook where
  α := AlX
  obs := fun s => obsY n fa fx fn s.heap.get?
  val := fun _ => (true, He.valD fn)
  says := fun _ h => ∃ K : PySem.W.Frag, K.In h ∧ SaysY fa fx fn K
  of := fun _ _ e => ⟨_, He.frG_in, congrArg (fun z : AlX => z.2) e, fun i f h => List.all_eq_true.mp (congrArg (fun z : AlX => z.1) e) f (List.mem_of_getElem? h)⟩
  keeps := fun _ _ _ ⟨K, hK, c⟩ k => ⟨K, PySem.W.Frag.In.keeps hK k, c⟩
theorem obsY_eq {n : Nat} {fa : List He.Fa} {fx : List Fy} {fn : List He.DefD} {g : Addr → Option Obj} {s : Shared} (h : ∀ a, g a = s.heap.get? a) : obsY n fa fx fn g = (hookY n fa fx fn).obs s := by
  have e : g = s.heap.get? := funext h
  rw [e] <;> rfl
end Dy

set_option Elab.async false
set_option linter.all false
set_option maxRecDepth 100000
set_option maxHeartbeats 2000000
namespace Dy
open PySem L2 PySem.Spec PyProof.Rows
open Evl (Ex ex_l ex_t fresh_back sz_of sz_lt)
/-! ### max(xs, default=i), max(xs), min(xs), ints -/
def maxI (ns : List Int) (d : Int) : Int := match ns with
  | [] => d
  | y :: ys => ys.foldl max y
def minI (ns : List Int) (d : Int) : Int := match ns with
  | [] => d
  | y :: ys => ys.foldl min y
theorem foldl_max : ∀ (ys : List Int) (y : Int), (ys.foldl max y = y ∨ ys.foldl max y ∈ ys) ∧ y ≤ ys.foldl max y ∧ ∀ z ∈ ys, z ≤ ys.foldl max y
  | [], y => ⟨.inl rfl, Int.le_refl _, fun _ z => nomatch z⟩
  | a :: ys, y => by
    obtain ⟨h1, h2, h3⟩ := foldl_max ys (max y a)
    rw [List.foldl_cons]
    refine ⟨?_, by omega, fun z hz => ?_⟩
    · rcases h1 with h | h
      · by_cases c : y ≤ a
        · right; rw [h, Int.max_eq_right c]; exact List.mem_cons_self
        · left; rw [h]; omega
      · right; exact List.mem_cons_of_mem _ h
    · rcases List.mem_cons.mp hz with rfl | q
      · omega
      · exact h3 z q
theorem foldl_min : ∀ (ys : List Int) (y : Int), (ys.foldl min y = y ∨ ys.foldl min y ∈ ys) ∧ ys.foldl min y ≤ y ∧ ∀ z ∈ ys, ys.foldl min y ≤ z
  | [], y => ⟨.inl rfl, Int.le_refl _, fun _ z => nomatch z⟩
  | a :: ys, y => by
    obtain ⟨h1, h2, h3⟩ := foldl_min ys (min y a)
    rw [List.foldl_cons]
    refine ⟨?_, by omega, fun z hz => ?_⟩
    · rcases h1 with h | h
      · by_cases c : a ≤ y
        · right; rw [h, Int.min_eq_right c]; exact List.mem_cons_self
        · left; rw [h]; omega
      · right; exact List.mem_cons_of_mem _ h
    · rcases List.mem_cons.mp hz with rfl | q
      · omega
      · exact h3 z q
theorem maxI_mem {ns : List Int} {d : Int} (h : ns ≠ []) : maxI ns d ∈ ns ∧ ∀ z ∈ ns, z ≤ maxI ns d := by
  cases ns with
  | nil => exact absurd rfl h
  | cons y ys =>
    obtain ⟨h1, h2, h3⟩ := foldl_max ys y
    show ys.foldl max y ∈ _ ∧ ∀ z ∈ _, z ≤ ys.foldl max y
    refine ⟨?_, fun z hz => ?_⟩
    · rcases h1 with e | e
      · rw [e]; exact List.mem_cons_self
      · exact List.mem_cons_of_mem _ e
    · rcases List.mem_cons.mp hz with rfl | q
      · exact h2
      · exact h3 z q
theorem minI_mem {ns : List Int} {d : Int} (h : ns ≠ []) : minI ns d ∈ ns ∧ ∀ z ∈ ns, minI ns d ≤ z := by
  cases ns with
  | nil => exact absurd rfl h
  | cons y ys =>
    obtain ⟨h1, h2, h3⟩ := foldl_min ys y
    show ys.foldl min y ∈ _ ∧ ∀ z ∈ _, ys.foldl min y ≤ z
    refine ⟨?_, fun z hz => ?_⟩
    · rcases h1 with e | e
      · rw [e]; exact List.mem_cons_self
      · exact List.mem_cons_of_mem _ e
    · rcases List.mem_cons.mp hz with rfl | q
      · exact h2
      · exact h3 z q
section
variable {c : Ctx} {ds : List PyData}
theorem f_maxL (hc : c.calm = true) (ns : List Int) (h : ds = ns.map PyData.int) (hn : ns ≠ []) : CaP c (.builtin "max") [.list ds] (.int (maxI ns 0)) := ⟨rMax c.K, fun X f => by rw [← f.K]; exact cr_max (f.calm.trans hc), fun H vs Q h9 k => by
  subst h
  obtain ⟨v, rfl, h2⟩ := dp_1 h9
  obtain ⟨a, xs, rfl, s1, q1⟩ := dp_list h2
  rw [dpAll_ints q1] at s1
  refine ⟨a, ns, rfl, s1, List.length_pos_iff.mpr hn, fun m hm hle => ?_⟩
  have e := maxI_mem (d := 0) hn
  have : m = maxI ns 0 := Int.le_antisymm (e.2 m hm) (hle _ e.1)
  subst this
  exact k _ (.int _)⟩
theorem f_minL (hc : c.calm = true) (ns : List Int) (h : ds = ns.map PyData.int) (hn : ns ≠ []) : CaP c (.builtin "min") [.list ds] (.int (minI ns 0)) := ⟨rMin c.K, fun X f => by rw [← f.K]; exact cr_min (f.calm.trans hc), fun H vs Q h9 k => by
  subst h
  obtain ⟨v, rfl, h2⟩ := dp_1 h9
  obtain ⟨a, xs, rfl, s1, q1⟩ := dp_list h2
  rw [dpAll_ints q1] at s1
  refine ⟨a, ns, rfl, s1, List.length_pos_iff.mpr hn, fun m hm hle => ?_⟩
  have e := minI_mem (d := 0) hn
  have : m = minI ns 0 := Int.le_antisymm (hle _ e.1) (e.2 m hm)
  subst this
  exact k _ (.int _)⟩
end
def rMaxDf (K : PySem.W.Frag) : List V → List V → Hp → VK → Prop := fun vs zs H Q => ∃ (a : Addr) (ns : List Int) (d : Int), vs = [V.ref a] ∧ zs = [.int d] ∧ SqL K H a (ns.map V.int) ∧ Q (.int (maxI ns d)) H
theorem alike_ints (ns : List Int) : PySem.W.AlikeAll (ns.map PyData.int) := by
  refine ⟨fun x hx y hy => ?_, fun x hx => ?_⟩
  · obtain ⟨i, _, rfl⟩ := List.mem_map.mp hx
    obtain ⟨j, _, rfl⟩ := List.mem_map.mp hy
    rfl
  · obtain ⟨i, _, rfl⟩ := List.mem_map.mp hx
    intro z; cases z
theorem depth_ints (ns : List Int) : PyData.depthAll (ns.map PyData.int) = 0 := by
  induction ns with
  | nil => rfl
  | cons a ns ih => rw [List.map_cons, PyData.depthAll, ih]; rfl
theorem cr_maxDf {X : Cx} (hc : X.calm = true) (hu : X.A.units + 1 < cLine) : CallRK X (.builtin "max") [Str.ofString "default"] (rMaxDf X.K) := by
  intro pins s σ H vs zs us ws Q I r rz h
  obtain ⟨a, ns, d, rfl, rfl, hs, q⟩ := h
  obtain rfl := Vals.ref1 r
  obtain ⟨w1, rfl, e1⟩ := vals1 rz
  obtain ⟨t, rfl⟩ := e1
  obtain ⟨its, rv, hl, _⟩ := I.list hs
  obtain ⟨as, hr⟩ := Dp.readsAll I (ns.map PyData.int) _ _ (dpAll_intsV ns) rv
  refine PySem.W.max_list_default (I.ok.hd hc) hl.isList hr (alike_ints ns) (by rw [depth_ints]; exact hu) (fun h0 h' tk hk => ?_) fun y ys i v h' tk bs he hv hR hk => ?_
  · have : ns = [] := List.map_eq_nil_iff.mp h0
    subst this
    exact ⟨.int d, H, I.kept hk, ⟨_, rfl⟩, q⟩
  · cases ns with
    | nil => cases he
    | cons n ms =>
      rw [List.map_cons] at he
      injection he with e2 e3
      subst e2; subst e3
      rw [PySem.W.maxD_ints] at hR
      cases hR
      exact ⟨.int _, H, I.kept hk, ⟨_, rfl⟩, q⟩
section
variable {c : Ctx} {e e2 : Expr} {δ : List En} {x : Str} {pos p p2 : Pos} {ns : List Int} {d : Int}
theorem e_maxDf (B : BltA c x (.builtin "max")) (h : PX c e δ (.list (ns.map PyData.int))) (h2 : EX c e2 δ (.int d)) (hc : c.calm = true) (hs : ∀ env, starEach [e] env = (false, eval e env) :: starEach [] env := by intro _; with_unfolding_all rfl)
    (he : ∀ env, backTo pos (starEach [e] env) = (false, eval e env) :: backTo pos (starEach [] env) := by intro _; with_unfolding_all rfl) (hpl : ∀ env, (backTo pos (starEach [e] env)).any (·.1) = false := by intro _; with_unfolding_all rfl)
    (hall : ∀ env, (backToKw pos (keywordEach [⟨some "default", e2, p2⟩] env)).all (·.1.isSome) = true := by intro _; with_unfolding_all rfl) (hnone : ∀ env, (backToKw pos (keywordEach [⟨some "default", e2, p2⟩] env)).any (·.1.isNone) = false := by intro _; with_unfolding_all rfl)
    (hks : ∀ env, (backToKw pos (keywordEach [⟨some "default", e2, p2⟩] env)).filterMap (·.1) = [Str.ofString "default"] := by intro _; with_unfolding_all rfl) : EX c (.Call (.Name x p) [e] [⟨some "default", e2, p2⟩] pos) δ (.int (maxI ns d)) :=
  EX.mk (t := tCKw (rMaxDf c.K) (tA c [e]) (tCons (tE c e2) tNil)) (fun X f => pe_callBK (by rw [← f.K]; exact cr_maxDf (f.calm.trans hc) (by have := (f.room hc).un; omega)) (gl_of f B.g) (by rw [f.mg]; exact B.m) B.b (pa_tA f) (pk_cons (pe_tE f) pk_nil) B.n B.d1 (he _) (hpl _) (hall _) (hnone _) (hks _)) fun G0 H0 G H σ o Q k =>
    (ap_cons h ap_nil hs) G0 H0 G H σ o _ fun vs G1 H1 m1 dv => h2 G0 H0 G1 H1 σ (o.step m1) _ fun d' v G2 H2 e' m2 dv2 => by
      subst e'
      obtain ⟨u, rfl, dv1⟩ := dp_1 dv
      obtain ⟨a, xs, rfl, s1, q1⟩ := dp_list dv1
      rw [dpAll_ints q1] at s1
      exact ⟨a, ns, d, rfl, by rw [dp_int dv2], ex_l m2.h s1, k _ _ G2 H2 rfl (m1.trans m2) (.int _)⟩
end
/-! ### x = y = e -/
theorem x_asg2 {c : Ctx} {e : Expr} {δ : List En} {d : PyData} {x y : Str} {i j : Nat} {pos p1 p2 : Pos} {P : Po} (v : LocAt c i x) (u : LocAt c j y) (h : EX c e δ d) (k : P.nx ((δ.set i (.sh d)).set j (.sh d)))
    (he : ∀ env, (assignEach [.Name x p1, .Name y p2] env).map (·.2) = [assign (.Name x p1) env, assign (.Name y p2) env] := by intro _; with_unfolding_all rfl) (hw : ∀ env, swappedStores [.Name x p1, .Name y p2] e env = pure none := by intro _; with_unfolding_all rfl) : SX c (.Assign [.Name x p1, .Name y p2] e pos) δ P :=
  SX.mk (t := fun D σ H => tE c e σ H fun z H1 => tG c (.Name x p1) z σ H1 fun σ1 H2 => tG c (.Name y p2) z σ1 H2 D.nx) (fun X f => ⟨fun pins s σ H D I q => by
    refine wpAny_Assign_two (thn ((pe_tE f.toFits).run pins s σ H _ I q) fun u s1 ⟨z, H1, I1, r1, q1⟩ => ?_) (he _) (hw _)
    exact thn ((pg_tG f.toFits).run pins s1 σ H1 z u _ I1 r1 q1) fun _ s2 ⟨σ1, H2, I2, q2⟩ => thn ((pg_tG f.toFits).run pins s2 σ1 H2 z u _ I2 r1 q2) fun _ s3 q3 => q3⟩) fun G0 H0 G H σ D o k1 k2 k3 k4 =>
    h G0 H0 G H σ o _ fun d' z G' H' e1 m dz => by
      subst e1
      refine g_nameL v G0 H0 G' H' σ z (o.step m) dz _ fun σ1 _ o1 => ?_
      exact g_nameL u G0 H0 G' H' σ1 z o1 dz _ fun σ2 _ o2 => k1 _ G' H' σ2 k m.g o2
/-! ### enumerate over a list or a tuple -/
set_option maxHeartbeats 4000000 in
theorem meets_enumerate_newB1 {v : Value} {o : Obj} {H : Heap → Prop} (B : Begins v o H) :
    Meets (Builtin.«enumerate.__new__» ⟨[.type "enumerate", v], []⟩) (fun _ R s => H s.heap ∧
      R (.ok (.ret (.ref (s.heap.push o).objs.size))) { s with heap := (s.heap.push o).push { cls := .type "enumerate", data := .fields #[.none, .bool false, .ref s.heap.objs.size, rawInt 0, .none, .none] } }) :=
  .of_wp fun prog w A R s h => by
    obtain ⟨hp, g, d, tk, os⟩ := s; obtain ⟨h1, h⟩ := h
    have hsub := sub_enumerate
    have q1 : ∀ {A' : Around} {E : Value → Shared → Prop} {Q : Value → Shared → Prop}, Q (.ref hp.objs.size) ⟨hp.push o, g, d, tk, os⟩ → wpAny (model prog w) A' (pyIter v) Q E ⟨hp, g, d, tk, os⟩ :=
      fun q => B.iter prog w _ _ ⟨hp, g, d, tk, os⟩ _ h1 q
    wp_walk using q1
    refine wpAny_stack_any fun st => wpAny_pure ?_
    split
    · rename_i c _ _ _ _ _
      cases (c == Value.type "enumerate")
      · wp_walk using q1
        exact ⟨_, rfl, h⟩
      · wp_walk using q1
        exact ⟨_, rfl, h⟩
    · wp_walk using q1
      exact ⟨_, rfl, h⟩
theorem enum_begins1 {prog : Program} {w : World} {A : Around} {E : Value → Shared → Prop} {s : Shared} {v : Value} {o : Obj} {H : Heap → Prop} {Q : Value → Shared → Prop} (B : Begins v o H) (h1 : H s.heap)
    (h : ∀ h', IsEnum h' (s.heap.objs.size + 1) s.heap.objs.size 0 .none → h'.get? s.heap.objs.size = some o → h'.objs.size = s.heap.objs.size + 2 →
      (∀ b o, s.heap.get? b = some o → h'.get? b = some o) → Q (.ref (s.heap.objs.size + 1)) { s with heap := h' }) :
    wpAny (model prog w) A (call (.type "enumerate") [v]) Q E s := by
  refine callType_new F.called_enumerate (by decide) (F.typeCall_enumerate_1 _) (F.newCall_enumerate_1 _) (fun obj => F.args_object_init_2 obj _) F.entry_enumerate_new
    (meets_enumerate_newB1 B) ⟨h1, ?_⟩
  have hz : (s.heap.push o).objs.size = s.heap.objs.size + 1 := Heap.size_push ..
  show _ ∧ _
  rw [hz]
  have he : IsEnum ((s.heap.push o).push { cls := .type "enumerate", data := .fields #[.none, .bool false, .ref s.heap.objs.size, rawInt 0, .none, .none] }) (s.heap.objs.size + 1) s.heap.objs.size 0 .none := by
    have := Heap.get?_push_size (s.heap.push o) (o := { cls := .type "enumerate", data := .fields #[.none, .bool false, .ref s.heap.objs.size, rawInt 0, .none, .none] }) rfl
    rw [hz] at this; exact this
  refine ⟨⟨_, he, rfl⟩, h _ he (Heap.get?_push_of_some _ (Heap.get?_push_size _ B.free)) (by rw [Heap.size_push, hz]) fun b o x => Heap.get?_push_of_some _ (Heap.get?_push_of_some _ x)⟩
def SqA (lst : Bool) (K : PySem.W.Frag) (H : Hp) (a : Addr) (xs : List V) : Prop := if lst then SqL K H a xs else SqT K H a xs
/-- the items xs of the list or tuple at a, each in a new pair -/
def ItN (lst : Bool) (K : PySem.W.Frag) (a : Addr) (xs : List V) : It :=
  ⟨fun i H => SqA lst K H a xs ∧ i < xs.length, fun i H v H' => ∃ T x, xs[i]? = some x ∧ v = .ref T ∧ H T = none ∧ H' = upd H T (.tup [.int (i : Nat), x]), fun i H => SqA lst K H a xs ∧ xs.length ≤ i⟩

theorem turn_enumT {P : Program} {w : World} {K : PySem.W.Frag} {elts : List Expr} {kk : Nat} {tpos : Pos} (a e it : Addr) (xs : List V) :
    Turn P w K (.Tuple elts kk tpos) (ItN false K a xs) [e, it] e (fun i h => (∃ old, IsEnum h e it ((i : Nat) : Int) old) ∧ h.IsTupleIter it a i ∧ e ≠ it) where
  mem := by simp
  obj := fun i h st b hb => by
    obtain ⟨⟨old, he⟩, ⟨o, ho, hc, hd⟩, _⟩ := st
    have e' : b = e ∨ b = it := by simpa using hb
    rcases e' with z | z
    · rw [z]; exact ⟨_, he, fun v q => nomatch q⟩
    · rw [z]; exact ⟨o, ho, fun v q => by rw [hd] at q; cases q⟩
  keep := fun i h h' st k => let ⟨⟨old, he⟩, hi, hne⟩ := st; ⟨⟨old, k e (by simp) _ he⟩, hi.at fun o q => k it (by simp) o q, hne⟩
  item := by
    intro X hP hw hK hc i pins s σ H E I hf st hg
    subst hP hw hK
    obtain ⟨⟨old, he⟩, hit, hne⟩ := st
    obtain ⟨hq, hi⟩ := hg
    have hq : SqT X.K H a xs := hq
    have hx : xs[i]? = some xs[i] := List.getElem?_eq_getElem hi
    obtain ⟨its, rv, p, hz⟩ := I.tuple hq
    obtain ⟨u, hu, ru⟩ := rv.get hx
    have hel : e < s.heap.objs.size := Heap.lt_size he
    have hil : it < s.heap.objs.size := by obtain ⟨_, q, _⟩ := hit; exact Heap.lt_size q
    have hai : a ≠ it := fun z => by
      subst z
      obtain ⟨o, ho, hc', _⟩ := p
      obtain ⟨o2, ho2, hc2, _⟩ := hit
      rw [ho] at ho2; cases ho2
      rw [hc'] at hc2
      exact absurd (Value.type.inj hc2) (by decide)
    have hea : e ≠ a := fun z => by
      subst z
      obtain ⟨o, ho, hc', _⟩ := p
      have he' : s.heap.get? e = some _ := he
      rw [ho] at he'; cases he'
      exact absurd (Value.type.inj hc') (by decide)
    have hh : X.A.in1.handled = none := I.ok.hd hc
    have hlen : i < its.toArray.size := by
      have := rv.length
      simp only [List.size_toArray]; omega
    refine wpAny_pyNext_enum_itemD (Draws.tuple hh it a hai its.toArray) he ⟨hit, p⟩ hlen hne (by simp [hne, hea]) fun y h' tk hy ho hit' hT hsz hk => ?_
    have hyu : y = u := by
      have : its.toArray[i]? = some y := hy
      rw [List.getElem?_toArray, hu] at this
      exact (Option.some.inj this).symm
    subst hyu
    refine ⟨_, rfl, wpAny_letOwnedTupleGo_enum (s := { s with heap := h', toks := tk + 1 }) ho fun h'' he' sb => ?_⟩
    have hT2 : h''.get? s.heap.objs.size = some { cls := .type "tuple", data := .seq #[.int i tk, y] } := (sb.2 _ (Nat.ne_of_gt hel)).trans hT
    have new : ObjOk X.prog X.w (upd H s.heap.objs.size (.tup [.int (i : Nat), xs[i]])) h'' s.heap.objs.size (.tup [.int (i : Nat), xs[i]]) :=
      ⟨by show 2 ≤ sizeLine; decide, [.int i tk, y], .cons ⟨_, rfl⟩ (.cons ru .nil), ⟨_, hT2, rfl, _, rfl⟩⟩
    have I1 : Inv X pins σ (upd H s.heap.objs.size (.tup [.int (i : Nat), xs[i]])) { s with heap := h'', toks := tk + 1 } :=
      I.turnedNew (ch := [e, it]) (fun b ob hb q => (sb.2 b (fun z => hb (by simp [z]))).trans (hk b ob (fun z => hb (by simp [z])) (fun z => hb (by simp [z])) q)) hf (Nat.le_refl _) new
    refine ⟨.ref s.heap.objs.size, _, I1, rfl, ⟨_, xs[i], hx, rfl, I.hok.fresh (Nat.le_refl _), rfl⟩, ⟨⟨y, ?_⟩, hit'.1.at fun o q => (sb.2 it (Ne.symm hne)).trans q, hne⟩, fun b hb => ?_⟩
    · have e1 : ((i + 1 : Nat) : Int) = (i : Int) + 1 := by omega
      rw [e1]; exact he'
    · have hb' : b < s.heap.objs.size := by
        have e' : b = e ∨ b = it := by simpa using hb
        rcases e' with z | z
        · rw [z]; exact hel
        · rw [z]; exact hil
      rw [upd_ne (Nat.ne_of_lt hb')]
      exact (hf b hb).1
  done := by
    intro X hP hw hK hc i pins s σ H E I hf st hg
    subst hP hw hK
    obtain ⟨⟨old, he⟩, hit, hne⟩ := st
    obtain ⟨hq, hx⟩ := hg
    have hq : SqT X.K H a xs := hq
    obtain ⟨its, rv, p, hz⟩ := I.tuple hq
    obtain ⟨f0, f1, f2, f3, f4, f5⟩ := hf it (by simp)
    have hl := rv.length
    have hh : X.A.in1.handled = none := I.ok.hd hc
    unfold pyNext
    refine wpAny_bind (wpAny_attempt (wpAny_callSpecial?_slot (name := Str.ofString "__next__") ⟨_, he, rfl⟩ F.slot_enumerate_next
      (wpAny_call_entry F.slot_enumerate_next ⟨_, he, rfl⟩ F.entry_enumerate_next ?_ (F.args_enumerate_next_1 _))))
    show wpAny _ _ (field (.ref e) 2 >>= _) _ _ _
    refine wpAny_bind (wpAny_field he rfl (x := .ref it) rfl ?_)
    refine wpAny_bind (wpAny_nextOf_tuple_end hh hit p (by simp; omega) fun h' x he' hx' => ?_)
    obtain ⟨o, ho, hc'⟩ := hx'
    refine wpAny_bind (wpAny_isInstance (T := "StopIteration") (b := true) ⟨o, ho, hc'⟩ isSubtype_stop ?_)
    exact wpAny_pure ⟨rfl, I.turned (t' := s.toks) (fun b o hb q => he' b o hb q) f0 f1 f3 f4 f5⟩
  self := fun A i s Q E st h => let ⟨⟨_, he⟩, _⟩ := st; wpAny_pyIter_enum he h
theorem turn_enumL {P : Program} {w : World} {K : PySem.W.Frag} {elts : List Expr} {kk : Nat} {tpos : Pos} (a e it : Addr) (xs : List V) :
    Turn P w K (.Tuple elts kk tpos) (ItN true K a xs) [e, it] e (fun i h => (∃ old, IsEnum h e it ((i : Nat) : Int) old) ∧ h.IsListIter it a i ∧ e ≠ it) where
  mem := (turn_enum (P := P) (w := w) (K := K) (elts := elts) (kk := kk) (tpos := tpos) a e it).mem
  obj := (turn_enum (P := P) (w := w) (K := K) (elts := elts) (kk := kk) (tpos := tpos) a e it).obj
  keep := (turn_enum (P := P) (w := w) (K := K) (elts := elts) (kk := kk) (tpos := tpos) a e it).keep
  item := fun X hP hw hK hc i pins s σ H E I hf st hg => by
    refine wpAny_mono ((turn_enum (P := P) (w := w) (K := K) (elts := elts) (kk := kk) (tpos := tpos) a e it).item X hP hw hK hc i pins s σ H E I hf st ⟨xs, xs[i]'hg.2, hg.1, List.getElem?_eq_getElem hg.2⟩) (fun r s1 h1 => ?_) fun _ _ z => z
    obtain ⟨u, rfl, h2⟩ := h1
    refine ⟨u, rfl, wpAny_mono h2 (fun _ s2 h3 => ?_) fun _ _ z => z⟩
    obtain ⟨x, H', I', r', ⟨T, y, e1, e2, e3, e4⟩, rest⟩ := h3
    exact ⟨x, H', I', r', ⟨T, y, e4 xs hg.1, e1, e2, e3⟩, rest⟩
  done := fun X hP hw hK hc i pins s σ H E I hf st hg => (turn_enum (P := P) (w := w) (K := K) (elts := elts) (kk := kk) (tpos := tpos) a e it).done X hP hw hK hc i pins s σ H E I hf st ⟨xs, hg⟩
  self := (turn_enum (P := P) (w := w) (K := K) (elts := elts) (kk := kk) (tpos := tpos) a e it).self
def iEnN (lst : Bool) (K : PySem.W.Frag) (ta : TA) : TI := fun σ H R => ta σ H fun vs H1 => ∃ a xs, vs = [.ref a] ∧ SqA lst K H1 a xs ∧ R (ItN lst K a xs) H1
theorem pi_enN (lst : Bool) {X : Cx} {e : Expr} {ta : TA} {p pos tpos : Pos} {elts : List Expr} {kk : Nat} (hg : Gl X "enumerate") (hm : X.mg "enumerate" = none) (ha : PA X [e] ta) (hs : starEach [e] X.env = [(false, eval e X.env)]) :
    PI X (.Tuple elts kk tpos) (.Call (.Name "enumerate" p) [e] [] pos) (iEnN lst X.K ta) := by
  refine ⟨fun pins s σ H R I h => ?_⟩
  refine Call_ (ld_blt I hg hm boot_enumerate (PyProof.Rows.callWith_type1 (thn (ha.run pos pins s σ H _ I h) fun us s1 ⟨vs, H1, I1, r1, q1⟩ => ?_) hs rfl))
  obtain ⟨a, xs, ex, hq, q⟩ := q1
  subst ex
  have fp : ∀ b ∈ [s1.heap.objs.size + 1, s1.heap.objs.size], FpOk X pins H1 b := fun b hb => by
    have e' : b = s1.heap.objs.size + 1 ∨ b = s1.heap.objs.size := by simpa using hb
    have hle : s1.heap.objs.size ≤ b := by
      rcases e' with z | z
      · rw [z]; exact Nat.le_add_right _ _
      · rw [z]; exact Nat.le_refl _
    exact I1.fpOk hle (I1.hok.fresh hle)
  cases r1 with
  | cons r rr =>
    cases rr
    cases r
    cases lst with
    | true =>
      obtain ⟨its, rv, p', hz⟩ := I1.list hq
      refine call_enumerate_list p'.isList fun h' he hit hsz hk => wpAny_pyIter_enum he ?_
      have I2 : Inv X pins σ H1 { s1 with heap := h' } := I1.kept (t' := s1.toks) hk
      exact ⟨s1.heap.objs.size + 1, [s1.heap.objs.size + 1, s1.heap.objs.size], _, _, H1, rfl, I2, turn_enumL a (s1.heap.objs.size + 1) s1.heap.objs.size xs, ⟨⟨.none, he⟩, hit, Nat.succ_ne_self _⟩, fp, q⟩
    | false =>
      obtain ⟨its, rv, p', hz⟩ := I1.tuple hq
      refine enum_begins1 (begins_tuple a its.toArray) p' fun h' he hit hsz hk => wpAny_pyIter_enum he ?_
      have I2 : Inv X pins σ H1 { s1 with heap := h' } := I1.kept (t' := s1.toks) hk
      exact ⟨s1.heap.objs.size + 1, [s1.heap.objs.size + 1, s1.heap.objs.size], _, _, H1, rfl, I2, turn_enumT a (s1.heap.objs.size + 1) s1.heap.objs.size xs, ⟨⟨.none, he⟩, ⟨_, hit, rfl, rfl⟩, Nat.succ_ne_self _⟩, fp, q⟩

section
variable {c : Ctx} {X : Cx} {e t el : Expr} {elts ifs : List Expr} {body : List Stmt} {δ : List En} {P : Po} {pos p1 p2 tpos : Pos} {kk : Nat} {ds : List PyData} {scope : Scope}
theorem sqa_dp {K : PySem.W.Frag} {H : Hp} {v : V} {lst : Bool} (h : Dp K H v (if lst then .list ds else .tuple ds)) : ∃ a xs, v = .ref a ∧ SqA lst K H a xs ∧ DpAll K H xs ds := by
  cases lst with
  | true => exact dp_list h
  | false => exact dp_tuple h
theorem sqa_ex {K : PySem.W.Frag} {H H' : Hp} {lst : Bool} {a : Addr} {xs : List V} (e : Ex H H') (h : SqA lst K H a xs) : SqA lst K H' a xs := by
  cases lst with
  | true => exact ex_l e h
  | false => exact ex_t e h
/-- for k, x in enumerate(xs) -/
theorem x_forEn (lst : Bool) (I : Nat → List En → Prop) (B : BltA c "enumerate" (.type "enumerate")) (h : EX c e δ (if lst then .list ds else .tuple ds)) (hc : c.calm = true) (h0 : I 0 δ)
    (hs : ∀ n d δ1, ds[n]? = some d → I n δ1 → ∃ sl δ2, GX c (.Tuple elts kk tpos) (.tuple [.int (n : Nat), d]) sl δ1 δ2 ∧ SsX c body δ2 ⟨I (n + 1), P.rt, P.nx, I (n + 1)⟩) (hd : ∀ δ1, I ds.length δ1 → P.nx δ1)
    (hsa : ∀ env, starEach [e] env = [(false, eval e env)] := by intro _; with_unfolding_all rfl) : SX c (.For (.Tuple elts kk tpos) (.Call (.Name "enumerate" p1) [e] [] p2) body [] pos) δ P :=
  SX.mk (t := tFor (iEnN lst c.K (tA c [e])) (tG c (.Tuple elts kk tpos)) (tSs c body)) (fun X f => ps_for (f.own hc) (f.calm.trans hc) (by rw [← f.K]; exact pi_enN lst (gl_of f.toFits B.g) (by rw [f.mg]; exact B.m) (pa_tA f.toFits) (hsa _)) (pg_tG f.toFits) (pss_tSs f) (fun _ => rfl)) fun G0 H0 G H σ D o k1 k2 k3 k4 =>
    (a_cons h a_nil (fun env => by rw [hsa]; rfl)) G0 H0 G H σ o _ fun us G1 H1 m dv => by
      obtain ⟨v, rfl, dw⟩ := dp_1 dv
      obtain ⟨a, xs, rfl, s1, q1⟩ := sqa_dp dw
      have hl := dpAll_len q1
      refine ⟨a, xs, rfl, sqa_ex m.gh s1, fun i m' σ' H' => m' = xs.length - i ∧ i ≤ xs.length ∧ ∃ δ' G', Ex G1 G' ∧ Ok c.ek G0 H0 G' H' σ' δ' ∧ I i δ', ⟨xs.length, by simp, Nat.zero_le _, δ, G1, Evl.Ex.refl G1, o.step m, h0⟩, ?_⟩
      rintro i m' σ' H' ⟨rfl, hi, δ1, G', e2, o1, i1⟩
      have sq := sqa_ex (e2.trans o1.gh) s1
      by_cases hlt : i < xs.length
      · refine .inr ⟨⟨sq, hlt⟩, fun σ2 H2 => i + 1 ≤ xs.length ∧ ∃ δ' G', Ex G1 G' ∧ Ok c.ek G0 H0 G' H2 σ2 δ' ∧ I (i + 1) δ', fun σ2 H2 q => ⟨xs.length - (i + 1), by omega, rfl, q.1, q.2⟩, ?_⟩
        rintro x H2 ⟨T, y, hy, rfl, hT, rfl⟩
        obtain ⟨d, hd2, dd⟩ := dpAll_get' q1 hy
        obtain ⟨sl, δ2, g2, b2⟩ := hs i d δ1 hd2 i1
        have n := Mv.new (o := .tup [.int (i : Nat), y]) o1.gh hT
        refine g2 G0 H0 _ _ σ' _ (o1.step n) (.tup (SqT.of upd_same) (.cons (.int _) (.cons (dp_ex (e2.trans n.g) dd) .nil))) _ fun σ2 _ o2 => ?_
        exact b2 G0 H0 _ _ σ2 _ o2 (fun δ3 G3 H3 σ3 n3 e3 o3 => ⟨hlt, δ3, G3, (e2.trans n.g).trans e3, o3, n3⟩) k2 (fun δ3 G3 H3 σ3 n3 e3 o3 => k1 δ3 G3 H3 σ3 n3 ((m.g.trans (e2.trans n.g)).trans e3) o3) (fun δ3 G3 H3 σ3 n3 e3 o3 => ⟨hlt, δ3, G3, (e2.trans n.g).trans e3, o3, n3⟩)
      · have ei : i = ds.length := by omega
        exact .inl ⟨⟨sq, by omega⟩, k1 δ1 G' H' σ' (hd δ1 (by rw [← ei]; exact i1)) (m.g.trans e2) o1⟩
theorem lc_turnG {vs : List Nat} {ex : Expr} {G0 H0 G1 H1 G' : Hp} {σ : L2.St} {D : Addr} {d : PyData} {acc acc' : List PyData} {v : V} {H' : Hp} {us : List V} (o : Ok c.ek G0 H0 G1 H1 σ δ) (hD : H1 D = none) (hz : acc.length < 100000)
    (h : LcT (c.blk scope) t ifs ex vs (wipeE δ vs) d acc acc') (m : Mv G1 H1 G' H') (gD : G' D = none) (hDl : H' D = some (.lst us)) (du : DpAll c.K G' us acc) (dv : Dp c.K G' v d) :
    tG (c.blk scope) t v (wipe σ vs) H' fun σ2 H2 => wipe σ2 vs = wipe σ vs ∧ tTs (c.blk scope) ifs σ2 H2 fun b H3 =>
      if b = true then tE (c.blk scope) ex σ2 H3 fun y H4 => ∃ a, H4 D = some (.lst a) ∧ a.length < sizeLine ∧ LcI c.K G1 H1 D acc' (upd H4 D (.lst (a ++ [y]))) else LcI c.K G1 H1 D acc' H3 := by
  obtain ⟨sl, δ2, r, hs, hg, ht, h1, h2⟩ := h
  have o' : Ok (c.blk scope).ek G0 H0 G' H' (wipe σ vs) (wipeE δ vs) := ⟨(o.toOkC.step m).wipe vs, fun x δ' σ' G' H' z => z.elim⟩
  refine hg G0 H0 G' H' _ v o' dv _ fun σ2 w o2 => ⟨wipe_diff w hs, ?_⟩
  refine ht G0 H0 G' H' σ2 o2 _ fun G3 H3 m3 => ?_
  have o3 := o2.step m3
  cases r with
  | true =>
    obtain ⟨z, he, ea⟩ := h1 rfl
    rw [if_pos rfl]
    refine he G0 H0 G3 H3 σ2 o3 _ fun d' y G4 H4 e4 m4 dy => ?_
    subst e4
    have m5 := (m3.trans m4)
    have hD4 : H4 D = some (.lst us) := m5.h D _ hDl
    have gD4 : G4 D = none := (m5.old D (by rw [hDl]; intro z; cases z)).trans gD
    refine ⟨us, hD4, sz_lt (by rw [dpAll_len du]; exact hz), G4, us ++ [y], ?_, gD4, upd_same, ?_⟩
    · have mm := m.trans m5
      refine ⟨mm.g, mm.h.mut hD, fun a u q => ?_, mm.old⟩
      rw [upd_ne (fun z => by rw [z, gD4] at q; cases q)]
      exact mm.gh a u q
    · rw [ea]
      exact dpAll_app (dpAll_ex m5.g du) (.cons dy .nil)
  | false =>
    rw [if_neg Bool.false_ne_true, h2 rfl]
    exact ⟨G3, us, m.trans m3, (m3.old D (by rw [hDl]; intro z; cases z)).trans gD, m3.h D _ hDl, dpAll_ex m3.g du⟩
variable {cb : Ctx} {K : PySem.W.Frag} {mg : Str → Option Value} {N : List Str} {sc : Scope} {own : List (Str × Nat)}
/-- [.. for k, x in enumerate(xs)] -/
theorem o_lcEn (lst : Bool) (acc : Nat → List PyData) (h : CtxIs c K mg N sc) (ok : BlkOk N sc scope own) (B : BltA c "enumerate" (.type "enumerate")) (hi : EX c e δ (if lst then .list ds else .tuple ds)) (h0 : acc 0 = []) (hz : ∀ n, n < ds.length → (acc n).length < 100000)
    (ht : ∀ cb, cb = c.blk scope → ∀ n d, ds[n]? = some d → LcT cb (.Tuple elts kk tpos) ifs el (own.map (·.2)) (wipeE δ (own.map (·.2))) (.tuple [.int (n : Nat), d]) (acc n) (acc (n + 1)))
    (hsa : ∀ env, starEach [e] env = [(false, eval e env)] := by intro _; with_unfolding_all rfl) : OX c (.ListComp el [⟨.Tuple elts kk tpos, .Call (.Name "enumerate" p1) [e] [] p2, ifs, 0⟩] scope pos) δ (acc ds.length) := by
  have hc := h.calm
  refine OX.mk (fun X f => pe_blk (wi := iEnN lst c.K (tA c [e])) f hc (by rw [h.N, h.sc]; exact ok) (by rw [← f.K]; exact pi_enN lst (gl_of f B.g) (by rw [f.mg]; exact B.m) (pa_tA f) (hsa _)) (fun _ _ => rfl)) ?_
  intro G0 H0 G H σ o Q k
  refine (a_cons hi a_nil (fun env => by rw [hsa]; rfl)) G0 H0 G H σ o _ fun us G1 H1 m dv => ?_
  obtain ⟨v, rfl, dw⟩ := dp_1 dv
  obtain ⟨a, xs, rfl, s1, q1⟩ := sqa_dp dw
  have hl := dpAll_len q1
  refine ⟨a, xs, rfl, sqa_ex m.gh s1, fun D hD => ⟨fun i m' H' => m' = xs.length - i ∧ i ≤ xs.length ∧ LcI c.K G1 H1 D (acc i) H', ⟨xs.length, by simp, Nat.zero_le _, G1, [], Mv.own m.gh hD, fresh_back m.gh hD, upd_same, by rw [h0]; exact .nil⟩, ?_⟩⟩
  rintro i m' H' ⟨rfl, hin, hI⟩
  obtain ⟨G', ws, m2, gD, hDl, du⟩ := hI
  have sq := sqa_ex m2.h (sqa_ex m.gh s1)
  by_cases hlt : i < xs.length
  · refine .inr ⟨⟨sq, hlt⟩, fun H2 => LcI c.K G1 H1 D (acc (i + 1)) H2, fun H2 q => ⟨xs.length - (i + 1), by omega, rfl, hlt, q⟩, ?_⟩
    rintro x H2 ⟨T, y, hy, rfl, hT, rfl⟩
    obtain ⟨d, hd2, dd⟩ := dpAll_get' q1 hy
    have n := Mv.new (o := .tup [.int (i : Nat), y]) m2.gh hT
    have hTD : D ≠ T := fun z => by rw [z, hT] at hDl; cases hDl
    exact lc_turnG (G1 := G1) (H1 := H1) (v := .ref T) (o.step m) hD (hz i (by omega)) (ht _ rfl i d hd2) (m2.trans n) ((upd_ne hTD).trans gD) ((upd_ne hTD).trans hDl) (dpAll_ex n.g du) (.tup (SqT.of upd_same) (.cons (.int _) (.cons (dp_ex (m2.g.trans n.g) dd) .nil)))
  · have ei : i = ds.length := by omega
    subst ei
    exact .inl ⟨⟨sq, by omega⟩, lc_end m hD ⟨G', ws, m2, gD, hDl, du⟩ k⟩
end
end Dy

set_option Elab.async false
set_option linter.all false
set_option maxRecDepth 100000
set_option maxHeartbeats 2000000
namespace Dy
open PySem L2 PySem.Spec PyProof.Rows
open Evl (Ex ex_l ex_t fresh_back sz_of sz_lt)
section
variable {c cb : Ctx} {e : Expr} {es : List Expr} {δ : List En} {P : Po} {S : PyData → Prop} {pos p1 : Pos} {n : Nat} {x : Str} {scope sc : Scope} {K : PySem.W.Frag} {mg : Str → Option Value} {N : List Str}
/-- a, b = a call -/
theorem x_asgTS (h : ES c e δ S) (hg : ∀ d, S d → ∃ sl δ', GX c (.Tuple es n p1) d sl δ δ' ∧ P.nx δ') (hs : ∀ env, swapsWithSole [.Tuple es n p1] e pos.line env = pure false := by intro _; with_unfolding_all rfl) (hw : ∀ env, swappedStores [.Tuple es n p1] e env = pure none := by intro _; with_unfolding_all rfl)
    (h1 : ∀ env, (assignEach [.Tuple es n p1] env).map (·.2) = [assign (.Tuple es n p1) env] := by intro _; with_unfolding_all rfl) : SX c (.Assign [.Tuple es n p1] e pos) δ P :=
  SX.mk (t := tAsg (tE c e) (tG c (.Tuple es n p1))) (fun X f => ps_asg (pe_tE f.toFits) (pg_tG f.toFits) (hs _) (hw _) (h1 _)) fun G0 H0 G H σ D o k1 k2 k3 k4 =>
    h G0 H0 G H σ o _ fun d v G' H' e1 m dv => by
      obtain ⟨sl, δ', g, k⟩ := hg d e1
      exact g G0 H0 G' H' σ v (o.step m) dv _ fun σ' _ o' => k1 _ G' H' σ' k m.g o'
theorem CtxIs.bfn {α : Type} {args : α → List PyData} {pre : α → Prop} {res : α → PyData → Prop} {xr : α → XD → Prop} (h : CtxIs c K mg N sc) (hb : cb = c.blk scope) (hc : Cal c x (spX K args pre res xr)) (hg : (relS scope sc).names.lookup x = some .globalImplicit) (d1 : (x == ("__debug__" : Str)) = false := by decide) : FnA cb x (spX cb.K args pre res xr) := by
  subst hb
  exact ⟨by show (relS scope c.sc).names.lookup x = _; rw [h.sc]; exact hg, by show Cal _ x (spX c.K args pre res xr); rw [h.K]; exact ⟨hc.ex⟩, d1⟩
end
end Dy

set_option Elab.async false
set_option linter.all false
set_option maxRecDepth 100000
set_option maxHeartbeats 4000000
open PySem L2 PySem.Spec PyProof.Rows Dy
local macro_rules | `(tactic| walk_at "kit") => `(tactic| with_reducible first | exact kit_bool_bool | exact kit_bool_int | exact kit_bool_tuple | exact kit_bool_list | exact kit_bool_str | exact kit_bool_dict | exact kit_int_bool | exact kit_int_int | exact kit_int_tuple | exact kit_int_list | exact kit_int_str | exact kit_int_dict | exact kit_NoneType_bool | exact kit_NoneType_int | exact kit_NoneType_tuple | exact kit_NoneType_list | exact kit_NoneType_str | exact kit_NoneType_dict | exact kit_tuple_bool | exact kit_tuple_int | exact kit_tuple_tuple | exact kit_tuple_list | exact kit_tuple_str | exact kit_tuple_dict | exact kit_list_bool | exact kit_list_int | exact kit_list_tuple | exact kit_list_list | exact kit_list_str | exact kit_list_dict | exact kit_str_bool | exact kit_str_int | exact kit_str_tuple | exact kit_str_list | exact kit_str_str | exact kit_str_dict | rfl)
local macro_rules | `(tactic| walk_at "side") => `(tactic| first | (with_reducible assumption) | (dsimp only; with_reducible assumption) | rfl | omega | (simp; done) | skip)
local macro_rules | `(tactic| walk_at "bin") => `(tactic| first
  | with_reducible exact b_add | with_reducible exact b_sub
  | ((with_reducible refine' b_mul ?bink1); (case' bink1 => ((try dsimp only); first | exact (.inl ⟨by omega, by omega⟩) | exact (.inr ⟨by omega, by omega⟩) | skip)))
  | ((with_reducible refine' b_fdiv ?bink1); (case' bink1 => ((try dsimp only); first | exact ⟨by omega, by omega⟩ | skip)))
  | ((with_reducible refine' b_mod ?bink1); (case' bink1 => ((try dsimp only); first | omega | skip)))
  | ((with_reducible refine' b_pow ?bink1); (case' bink1 => first | exact ⟨by decide, by decide, by decide⟩ | skip))
  | ((with_reducible refine' b_catT ?bink1); (case' bink1 => ((try dsimp only); first | omega | skip)))
  | skip)
local macro_rules | `(tactic| walk_at "cmp") => `(tactic| first
  | with_reducible exact c_lt | with_reducible exact c_le | with_reducible exact c_gt | with_reducible exact c_ge
  | with_reducible exact c_eqB (by assumption) | with_reducible exact c_eqI (by assumption) | with_reducible exact c_neI (by assumption)
  | with_reducible exact c_isN | with_reducible exact c_notN | with_reducible exact c_isB | with_reducible exact c_notB
  | ((with_reducible refine' c_eq (by assumption) ?cmpk1 ?cmpk2); (case' cmpk1 => walk_at "side"); (case' cmpk2 => walk_at "side"))
  | ((with_reducible refine' c_ne (by assumption) ?cmpk1 ?cmpk2); (case' cmpk1 => walk_at "side"); (case' cmpk2 => walk_at "side"))
  | skip)
local macro_rules | `(tactic| walk_at "cap") => `(tactic| first
  | exact f_lenL | exact f_lenT | exact f_int | exact f_intB | exact f_abs | exact f_max (by assumption) | exact f_min (by assumption) | skip)
local macro_rules | `(tactic| walk_at "px") => `(tactic| (refine ?pxz; (first
  | ((with_reducible refine' p_varL ?pxk1 ?pxk2); (case pxk1 => with_reducible assumption); (case pxk2 => rfl))
  | ((with_reducible refine' EX.px ?pxk1); (case' pxk1 => walk_at "ex"))
  | ((with_reducible refine' OX.px ?pxk1); (case' pxk1 => walk_at "ox")))))
local macro_rules | `(tactic| walk_at "ap") => `(tactic| (refine ?apz; (first
  | with_reducible exact ap_nil
  | ((with_reducible refine' ap_cons ?apk1 ?apk2); (case' apk1 => walk_at "px"); (case' apk2 => walk_at "ap")))))
local macro_rules | `(tactic| walk_at "ax") => `(tactic| (refine ?axz; (first
  | with_reducible exact a_nil
  | ((with_reducible refine' a_cons ?axk1 ?axk2); (case' axk1 => walk_at "ex"); (case' axk2 => walk_at "ax")))))
local macro_rules | `(tactic| walk_at "pa") => `(tactic| (refine ?paz; (first
  | exact pa_no
  | ((with_reducible refine' pa_some ?pak1); (case' pak1 => walk_at "ex")))))
local macro_rules | `(tactic| walk_at "ox") => `(tactic| (refine ?oxz; (first
  | ((with_reducible refine' o_lst ?oxk1 ?oxk2); (case' oxk1 => walk_at "ax"); (case' oxk2 => first | exact (by with_unfolding_all decide) | simp | skip))
  | ((with_reducible refine' o_catVO ?oxk1 ?oxk2 ?oxk3 ?oxk4); (case oxk1 => exact LocAt.toVarAt (by assumption)); (case oxk2 => rfl); (case' oxk3 => walk_at "ox"); (case' oxk4 => first | ((try simp only [List.length_map, List.length_append, List.length_cons, List.length_nil]); omega) | skip))
  | ((with_reducible refine' o_catOV ?oxk1 ?oxk2 ?oxk3 ?oxk4); (case oxk1 => exact LocAt.toVarAt (by assumption)); (case oxk2 => rfl); (case' oxk3 => walk_at "ox"); (case' oxk4 => first | ((try simp only [List.length_map, List.length_append, List.length_cons, List.length_nil]); omega) | skip))
  | ((with_reducible refine' o_catOO ?oxk1 ?oxk2 ?oxk3); (case' oxk1 => walk_at "ox"); (case' oxk2 => walk_at "ox"); (case' oxk3 => first | ((try simp only [List.length_map, List.length_append, List.length_cons, List.length_nil]); omega) | skip))
  | ((with_reducible refine' o_slOw ?oxk1 ?oxk2 ?oxk3 ?oxk4); (case oxk1 => exact LocAt.toVarAt (by assumption)); (case oxk2 => rfl); (case' oxk3 => walk_at "pa"); (case' oxk4 => walk_at "pa"))
  | ((with_reducible refine' o_slL ?oxk1 ?oxk2 ?oxk3); (case' oxk1 => walk_at "ex"); (case' oxk2 => walk_at "pa"); (case' oxk3 => walk_at "pa"))
  | ((with_reducible refine' o_listL ?oxk1 ?oxk2); (case oxk1 => with_reducible assumption); (case oxk2 => walk_at "ex"))
  | ((with_reducible refine' o_listT ?oxk1 ?oxk2); (case oxk1 => with_reducible assumption); (case oxk2 => walk_at "ex")))))
local macro_rules | `(tactic| walk_at "ex") => `(tactic| (refine ?exz; (first
  | with_reducible exact e_int | with_reducible exact e_none | with_reducible exact e_bool | with_reducible exact e_str
  | with_reducible assumption
  | ((with_reducible refine' e_varL ?exk1 ?exk2); (case exk1 => with_reducible assumption); (case exk2 => rfl))
  | ((with_reducible refine' e_gli ?exk1); (case exk1 => with_reducible assumption))
  | ((with_reducible refine' e_varA ?exk1 ?exk2); (case exk1 => with_reducible assumption); (case exk2 => rfl))
  | ((with_reducible refine' e_bin ?exk1 ?exk2 ?exk3); (case' exk1 => walk_at "ex"); (case' exk2 => walk_at "ex"); (case' exk3 => walk_at "bin"))
  | ((with_reducible refine' e_neg ?exk1); (case' exk1 => walk_at "ex"))
  | ((with_reducible refine' e_cmp ?exk1 ?exk2 ?exk3); (case' exk1 => walk_at "px"); (case' exk2 => walk_at "px"); (case' exk3 => walk_at "cmp"))
  | ((with_reducible refine' e_chain ?exk1 ?exk2 ?exk3 ?exk4 ?exk5); (case' exk1 => walk_at "px"); (case' exk2 => walk_at "px"); (case' exk3 => walk_at "px"); (case' exk4 => walk_at "cmp"); (case' exk5 => walk_at "cmp"))
  | ((with_reducible refine' e_tup ?exk1 ?exk2); (case' exk1 => walk_at "ax"); (case' exk2 => first | exact (by with_unfolding_all decide) | simp | skip))
  | ((with_reducible refine' e_slT ?exk1 ?exk2 ?exk3); (case' exk1 => walk_at "ex"); (case' exk2 => walk_at "pa"); (case' exk3 => walk_at "pa"))
  | ((with_reducible refine' e_ixOL ?exk1 ?exk2 ?exk3 ?exk4); (case exk1 => with_reducible assumption); (case exk2 => rfl); (case' exk3 => walk_at "ex"); (case' exk4 => walk_at "at"))
  | ((with_reducible refine' e_ixT ?exk1 ?exk2 ?exk3); (case exk1 => walk_at "ex"); (case' exk2 => walk_at "ex"); (case' exk3 => walk_at "at"))
  | ((with_reducible refine' e_ixL ?exk1 ?exk2 ?exk3); (case exk1 => walk_at "ex"); (case' exk2 => walk_at "ex"); (case' exk3 => walk_at "at"))
  | ((with_reducible refine' e_bltA ?exk1 ?exk2 ?exk3 ?exk4); (case exk1 => with_reducible assumption); (case' exk2 => walk_at "ap"); (case' exk3 => walk_at "cap"); (case' exk4 => first | rfl | skip))
  | ((with_reducible refine' e_btyA ?exk1 ?exk2 ?exk3 ?exk4); (case exk1 => with_reducible assumption); (case' exk2 => walk_at "ap"); (case' exk3 => walk_at "cap"); (case' exk4 => rfl))
  | ((with_reducible refine' e_tupleOw ?exk1 ?exk2 ?exk3); (case exk1 => with_reducible assumption); (case exk2 => exact LocAt.toVarAt (by assumption)); (case exk3 => rfl))
  | ((with_reducible refine' e_tupleL ?exk1 ?exk2); (case exk1 => with_reducible assumption); (case exk2 => walk_at "ex"))
  | ((with_reducible refine' e_tupleT ?exk1 ?exk2); (case exk1 => with_reducible assumption); (case exk2 => walk_at "ex"))
  | ((with_reducible refine' e_not ?exk1 ?exk2); (case' exk1 => walk_at "px"); (case' exk2 => rfl))
  | ((with_reducible refine' e_and ?exk1 ?exk2); (case' exk1 => walk_at "ex"); (case' exk2 => (intro hAnd; walk_at "ex")))
  | ((with_reducible refine' e_or ?exk1 ?exk2); (case' exk1 => walk_at "ex"); (case' exk2 => (intro hOr; walk_at "ex")))
  | ((with_reducible refine' e_and1 ?exk1); (case' exk1 => walk_at "ex"))
  | ((with_reducible refine' e_isE ?exk1 ?exk2 ?exk3 ?exk4 ?exk5 ?exk6 ?exk7 ?exk8); (case exk2 => rfl); (case exk1 => with_reducible assumption); (case exk3 => with_reducible assumption); (case exk4 => with_reducible assumption); (case exk5 => rfl); (case exk6 => with_reducible assumption); (case exk7 => with_reducible assumption); (case exk8 => with_reducible assumption))
  | ((with_reducible refine' e_isS ?exk1 ?exk2 ?exk3 ?exk4 ?exk5 ?exk6); (case exk2 => rfl); (case exk1 => with_reducible assumption); (case exk3 => with_reducible assumption); (case exk4 => with_reducible assumption); (case exk5 => rfl); (case exk6 => with_reducible assumption))
  | ((with_reducible refine' e_isi ?exk1 ?exk2 ?exk3 ?exk4 ?exk5); (case exk1 => with_reducible assumption); (case' exk2 => walk_at "px"); (case exk3 => with_reducible assumption); (case' exk4 => first | rfl | skip); (case' exk5 => first | walk_at "kit" | skip))
  | ((with_reducible refine' OX.ex ?exk1); (case' exk1 => walk_at "ox"))
  | ((with_reducible refine' ES.ex ?exk1 ?exk2); (case' exk1 => walk_at "call"); (case' exk2 => first | exact (fun _ h => h) | skip)))))
local macro_rules | `(tactic| walk_at "call") => `(tactic| (refine ?callz; (first
  | ((with_reducible refine' e_callA5 ?cak1 ?cak2 ?cak4 ?cak5 ?cak7 ?cak6); (case cak1 => with_reducible assumption); (case cak2 => with_reducible assumption); (case' cak6 => first | exact (fun _ h => False.elim h) | skip); (case' cak4 => walk_at "ax"); (case' cak7 => first | (with_reducible rfl) | rfl | skip); (case' cak5 => walk_at "side"))
  | ((with_reducible refine' e_callA4 ?cak1 ?cak2 ?cak4 ?cak5 ?cak7 ?cak6); (case cak1 => with_reducible assumption); (case cak2 => with_reducible assumption); (case' cak6 => first | exact (fun _ h => False.elim h) | skip); (case' cak4 => walk_at "ax"); (case' cak7 => first | (with_reducible rfl) | rfl | skip); (case' cak5 => walk_at "side"))
  | ((with_reducible refine' e_callA3 ?cak1 ?cak2 ?cak4 ?cak5 ?cak7 ?cak6); (case cak1 => with_reducible assumption); (case cak2 => with_reducible assumption); (case' cak6 => first | exact (fun _ h => False.elim h) | skip); (case' cak4 => walk_at "ax"); (case' cak7 => first | (with_reducible rfl) | rfl | skip); (case' cak5 => walk_at "side"))
  | ((with_reducible refine' e_callA2 ?cak1 ?cak2 ?cak4 ?cak5 ?cak7 ?cak6); (case cak1 => with_reducible assumption); (case cak2 => with_reducible assumption); (case' cak6 => first | exact (fun _ h => False.elim h) | skip); (case' cak4 => walk_at "ax"); (case' cak7 => first | (with_reducible rfl) | rfl | skip); (case' cak5 => walk_at "side"))
  | ((with_reducible refine' e_callA1 ?cak1 ?cak2 ?cak4 ?cak5 ?cak7 ?cak6); (case cak1 => with_reducible assumption); (case cak2 => with_reducible assumption); (case' cak6 => first | exact (fun _ h => False.elim h) | skip); (case' cak4 => walk_at "ax"); (case' cak7 => first | (with_reducible rfl) | rfl | skip); (case' cak5 => walk_at "side"))
  | ((with_reducible refine' e_callPA5 ?cak1 ?cak2 ?cak4 ?cak5 ?cak7 ?cak6); (case cak1 => with_reducible assumption); (case cak2 => with_reducible assumption); (case' cak4 => walk_at "ap"); (case' cak7 => first | (with_reducible rfl) | rfl | skip); (case' cak5 => walk_at "side"); (case' cak6 => first | (intro d hd; (first | (cases hd; rfl) | (obtain ⟨_, rfl⟩ := hd; rfl))) | skip))
  | ((with_reducible refine' e_callPA4 ?cak1 ?cak2 ?cak4 ?cak5 ?cak7 ?cak6); (case cak1 => with_reducible assumption); (case cak2 => with_reducible assumption); (case' cak4 => walk_at "ap"); (case' cak7 => first | (with_reducible rfl) | rfl | skip); (case' cak5 => walk_at "side"); (case' cak6 => first | (intro d hd; (first | (cases hd; rfl) | (obtain ⟨_, rfl⟩ := hd; rfl))) | skip))
  | ((with_reducible refine' e_callPA3 ?cak1 ?cak2 ?cak4 ?cak5 ?cak7 ?cak6); (case cak1 => with_reducible assumption); (case cak2 => with_reducible assumption); (case' cak4 => walk_at "ap"); (case' cak7 => first | (with_reducible rfl) | rfl | skip); (case' cak5 => walk_at "side"); (case' cak6 => first | (intro d hd; (first | (cases hd; rfl) | (obtain ⟨_, rfl⟩ := hd; rfl))) | skip))
  | ((with_reducible refine' e_callPA2 ?cak1 ?cak2 ?cak4 ?cak5 ?cak7 ?cak6); (case cak1 => with_reducible assumption); (case cak2 => with_reducible assumption); (case' cak4 => walk_at "ap"); (case' cak7 => first | (with_reducible rfl) | rfl | skip); (case' cak5 => walk_at "side"); (case' cak6 => first | (intro d hd; (first | (cases hd; rfl) | (obtain ⟨_, rfl⟩ := hd; rfl))) | skip))
  | ((with_reducible refine' e_callPA1 ?cak1 ?cak2 ?cak4 ?cak5 ?cak7 ?cak6); (case cak1 => with_reducible assumption); (case cak2 => with_reducible assumption); (case' cak4 => walk_at "ap"); (case' cak7 => first | (with_reducible rfl) | rfl | skip); (case' cak5 => walk_at "side"); (case' cak6 => first | (intro d hd; (first | (cases hd; rfl) | (obtain ⟨_, rfl⟩ := hd; rfl))) | skip)))))
local macro_rules | `(tactic| walk_at "asgc") => `(tactic| (refine ?asgcz; ((
  (with_reducible refine' x_asgL ?asck1 ?asck2 ?asck3); (case asck1 => with_reducible assumption); (case' asck3 => skip); (case' asck2 => walk_at "call")))))
local macro_rules | `(tactic| walk_at "xasgc") => `(tactic| (refine ?xasgcz; (((first | refine x_one ?_ | refine x_cons ?_); walk_at "asgc"))))
local macro_rules | `(tactic| walk_at "at") => `(tactic| first | (with_reducible assumption) | (dsimp only; with_reducible assumption) | rfl | skip)
local macro_rules | `(tactic| walk_at "wx") => `(tactic| (refine ?wxz; (first
  | ((with_reducible refine' w_and ?wxk1 ?wxk2); (case' wxk1 => walk_at "tx"); (case' wxk2 => (intro hAnd; walk_at "wx")))
  | ((with_reducible refine' w_or ?wxk1 ?wxk2); (case' wxk1 => walk_at "tx"); (case' wxk2 => (intro hOr; walk_at "wx")))
  | ((with_reducible refine' w_and1 ?wxk1); (case' wxk1 => walk_at "tx"))
  | ((with_reducible refine' w_or1 ?wxk1); (case' wxk1 => walk_at "tx")))))
local macro_rules | `(tactic| walk_at "tx") => `(tactic| (refine ?txz; (first
  | ((with_reducible refine' t_cmp ?txk1 ?txk2 ?txk3); (case' txk1 => walk_at "px"); (case' txk2 => walk_at "px"); (case' txk3 => walk_at "cmp"))
  | ((with_reducible refine' t_chain ?txk1 ?txk2 ?txk3 ?txk4 ?txk5); (case' txk1 => walk_at "px"); (case' txk2 => walk_at "px"); (case' txk3 => walk_at "px"); (case' txk4 => walk_at "cmp"); (case' txk5 => walk_at "cmp"))
  | ((with_reducible refine' t_not ?txk1); (case' txk1 => walk_at "tx"))
  | ((with_reducible refine' WX.tx ?txk1); (case' txk1 => walk_at "wx"))
  | ((with_reducible refine' t_val ?txk1); (case txk1 => walk_at "ex"))
  | ((with_reducible refine' t_truth ?txk1 ?txk2); (case' txk1 => walk_at "px"); (case' txk2 => rfl)))))
local macro_rules | `(tactic| walk_at "asg") => `(tactic| (refine ?asgz; ((
  (with_reducible refine' x_asgEL ?asgk1 ?asgk2 ?asgk3); (case asgk1 => with_reducible assumption); (case' asgk2 => walk_at "ex"); (case' asgk3 => try dsimp only [List.set])))))
local macro_rules | `(tactic| walk_at "own") => `(tactic| (refine ?ownz; ((
  (with_reducible refine' x_asgOL ?ownk1 ?ownk2 ?ownk3); (case ownk1 => with_reducible assumption); (case' ownk2 => walk_at "ox"); (case' ownk3 => try dsimp only [List.set])))))
local macro_rules | `(tactic| walk_at "app") => `(tactic| (refine ?appz; ((
  (with_reducible refine' x_appL ?appk1 ?appk2 ?appk3 ?appk4 ?appk5); (case appk1 => with_reducible assumption); (case appk2 => rfl); (case' appk4 => first | ((try simp only [List.length_map, List.length_append, List.length_cons, List.length_nil]); omega) | skip); (case' appk5 => try dsimp only [List.set]); (case' appk3 => walk_at "ex")))))
local macro_rules | `(tactic| walk_at "ret") => `(tactic| (refine ?retz; (((with_reducible refine' x_retE ?retk1 ?retk2); (case' retk1 => walk_at "ex"); (case' retk2 => skip)))))
local macro_rules | `(tactic| walk_at "if") => `(tactic| (refine ?ifz; (((with_reducible refine' x_if ?ifk1 ?ifk2 ?ifk3); (case' ifk3 => skip); (case' ifk2 => skip); (case' ifk1 => walk_at "tx")))))
local macro_rules | `(tactic| walk_at "xasg") => `(tactic| (refine ?xasgz; (((first | refine x_one ?_ | refine x_cons ?_); walk_at "asg"))))
local macro_rules | `(tactic| walk_at "xown") => `(tactic| (refine ?xownz; (((first | refine x_one ?_ | refine x_cons ?_); walk_at "own"))))
local macro_rules | `(tactic| walk_at "xapp") => `(tactic| (refine ?xappz; (((first | refine x_one ?_ | refine x_cons ?_); walk_at "app"))))
local macro_rules | `(tactic| walk_at "xret") => `(tactic| (refine ?xretz; (((first | refine x_one ?_ | refine x_cons ?_); walk_at "ret"))))
local macro_rules | `(tactic| walk_at "xif") => `(tactic| (refine ?xifz; (((first | refine x_one ?_ | refine x_cons ?_); walk_at "if"))))
local macro_rules | `(tactic| walk_at "xfalse") => `(tactic| (refine ?xfalsez; (((first | refine x_one ?_ | refine x_cons ?_); (with_reducible refine' x_ifF ?xfk1 ?xfk2 ?xfk3); (case' xfk3 => refine x_nil ?_); (case' xfk2 => skip); (case' xfk1 => walk_at "tx")))))
local macro_rules | `(tactic| walk_at "xexpr") => `(tactic| (refine ?xexz; (((first | refine x_one ?_ | refine x_cons ?_); (refine' x_expr ?xexk1 ?xexk2); (case xexk1 => walk_at "call")))))
local macro_rules | `(tactic| walk_at "g") => `(tactic| first | exact g_nameL (by assumption) | exact g_tup (gs_cons (g_nameL (by assumption)) (gs_cons (g_nameL (by assumption)) gs_nil)) (by assumption) | exact g_tup (gs_cons (g_nameL (by assumption)) (gs_cons (g_nameL (by assumption)) (gs_cons (g_nameL (by assumption)) gs_nil))) (by assumption))
local macro_rules | `(tactic| walk_at "lcif") => `(tactic| (refine ?lcfz; ((refine' LcT.mkIf ?lck1 ?lck2 ?lck3 ?lck4 ?lck5 ?lck6); (case lck1 => walk_at "g"); (case lck2 => decide); (dsimp only [wipeE, List.map, List.set]); (case' lck6 => skip); (case' lck5 => skip); (case' lck4 => (intro hIf; walk_at "ex")); (case' lck3 => walk_at "tx"))))
local macro_rules | `(tactic| walk_at "lc") => `(tactic| (refine ?lcz; ((refine' LcT.mk1 ?lck1 ?lck2 ?lck4 ?lck5); (case lck1 => walk_at "g"); (case lck2 => decide); (case' lck5 => skip); (case' lck4 => walk_at "ex"))))
namespace Prf
def topS (i : Nat) : Stmt := PySem.Challenge.pw_diesnon_k04_whole_next_and_previous_are.main.body.getD i (.Pass ⟨0, 0, 0, 0⟩)
abbrev s_check_order : Stmt := topS 4
theorem sc_check_order : FnScope ["first", "last"] ["first", "last"] (defScope s_check_order) := ⟨rfl, rfl, rfl, by decide +kernel, rfl, by decide +kernel, by decide +kernel⟩
abbrev s_place_of : Stmt := topS 5
theorem sc_place_of : FnScope ["closed", "day", "low", "high", "middle"] ["closed", "day"] (defScope s_place_of) := ⟨rfl, rfl, rfl, by decide +kernel, rfl, by decide +kernel, by decide +kernel⟩
abbrev s_stretch_at : Stmt := topS 6
theorem sc_stretch_at : FnScope ["closed", "day", "at"] ["closed", "day"] (defScope s_stretch_at) := ⟨rfl, rfl, rfl, by decide +kernel, rfl, by decide +kernel, by decide +kernel⟩
abbrev s_is_open : Stmt := topS 7
theorem sc_is_open : FnScope ["closed", "day"] ["closed", "day"] (defScope s_is_open) := ⟨rfl, rfl, rfl, by decide +kernel, rfl, by decide +kernel, by decide +kernel⟩
abbrev s_next_open : Stmt := topS 8
theorem sc_next_open : FnScope ["closed", "day", "stretch"] ["closed", "day"] (defScope s_next_open) := ⟨rfl, rfl, rfl, by decide +kernel, rfl, by decide +kernel, by decide +kernel⟩
abbrev s_prev_open : Stmt := topS 9
theorem sc_prev_open : FnScope ["closed", "day", "stretch"] ["closed", "day"] (defScope s_prev_open) := ⟨rfl, rfl, rfl, by decide +kernel, rfl, by decide +kernel, by decide +kernel⟩
abbrev s_open_behind : Stmt := topS 10
theorem sc_open_behind : FnScope ["closed", "day", "n", "found", "at", "first"] ["closed", "day", "n"] (defScope s_open_behind) := ⟨rfl, rfl, rfl, by decide +kernel, rfl, by decide +kernel, by decide +kernel⟩
abbrev s_open_before : Stmt := topS 11
theorem sc_open_before : FnScope ["closed", "day", "n", "found", "begin", "at", "last"] ["closed", "day", "n"] (defScope s_open_before) := ⟨rfl, rfl, rfl, by decide +kernel, rfl, by decide +kernel, by decide +kernel⟩
abbrev s_nth_open : Stmt := topS 12
theorem sc_nth_open : FnScope ["closed", "day", "n"] ["closed", "day", "n"] (defScope s_nth_open) := ⟨rfl, rfl, rfl, by decide +kernel, rfl, by decide +kernel, by decide +kernel⟩
abbrev s_count_open : Stmt := topS 13
theorem sc_count_open : FnScope ["closed", "first", "behind", "inner", "begin", "end"] ["closed", "first", "behind"] (defScope s_count_open) := ⟨rfl, rfl, rfl, by decide +kernel, rfl, by decide +kernel, by decide +kernel⟩
abbrev s_cut : Stmt := topS 14
theorem sc_cut : FnScope ["closed", "first", "last", "begin", "end"] ["closed", "first", "last"] (defScope s_cut) := ⟨rfl, rfl, rfl, by decide +kernel, rfl, by decide +kernel, by decide +kernel⟩
abbrev s__law_stream : Stmt := topS 16
theorem sc__law_stream : FnScope ["script", "numbers", "cell", "rest", "k", "mixed"] ["script"] (defScope s__law_stream) := ⟨rfl, rfl, rfl, by decide +kernel, rfl, by decide +kernel, by decide +kernel⟩
abbrev s__law_pick : Stmt := topS 17
theorem sc__law_pick : FnScope ["numbers", "at", "many"] ["numbers", "at", "many"] (defScope s__law_pick) := ⟨rfl, rfl, rfl, by decide +kernel, rfl, by decide +kernel, by decide +kernel⟩
abbrev s__law_closed : Stmt := topS 18
theorem sc__law_closed : FnScope ["numbers", "at", "scale", "found", "day", "k", "last"] ["numbers", "at", "scale"] (defScope s__law_closed) := ⟨rfl, rfl, rfl, by decide +kernel, rfl, by decide +kernel, by decide +kernel⟩
abbrev s__law_day : Stmt := topS 19
theorem sc__law_day : FnScope ["closed", "numbers", "at", "scale", "day", "pair"] ["closed", "numbers", "at", "scale"] (defScope s__law_day) := ⟨rfl, rfl, rfl, by decide +kernel, rfl, by decide +kernel, by decide +kernel⟩
abbrev s__law_pair : Stmt := topS 20
theorem sc__law_pair : FnScope ["closed", "p", "q", "behind", "before"] ["closed", "p", "q"] (defScope s__law_pair) := ⟨rfl, rfl, rfl, by decide +kernel, rfl, by decide +kernel, by decide +kernel⟩
abbrev s__law_steps : Stmt := topS 21
theorem sc__law_steps : FnScope ["closed", "day", "m", "n"] ["closed", "day", "m", "n"] (defScope s__law_steps) := ⟨rfl, rfl, rfl, by decide +kernel, rfl, by decide +kernel, by decide +kernel⟩
abbrev s_law : Stmt := topS 22
theorem sc_law : FnScope ["script", "numbers", "scale", "closed", "days", "k", "p", "q", "many"] ["script"] (defScope s_law) := ⟨rfl, rfl, rfl, by decide +kernel, rfl, by decide +kernel, by decide +kernel⟩
structure Mods (mg : Str → Option Value) : Prop where
  b_int : mg "int" = none
  b_len : mg "len" = none
  b_max : mg "max" = none
  b_min : mg "min" = none
  b_range : mg "range" = none
  b_sorted : mg "sorted" = none
  b_sum : mg "sum" = none
  b_tuple : mg "tuple" = none
local macro_rules | `(tactic| walk_at "facts check_order") => `(tactic| (
  have := CtxIs.loc (i := 0) (x := "first") (by assumption) rfl (by first | exact .inl rfl | exact .inr rfl)
  have := CtxIs.loc (i := 1) (x := "last") (by assumption) rfl (by first | exact .inl rfl | exact .inr rfl)
  have := CtxIs.calm (by assumption)
  skip))
local macro_rules | `(tactic| walk_at "facts place_of") => `(tactic| (
  have := CtxIs.loc (i := 0) (x := "closed") (by assumption) rfl (by first | exact .inl rfl | exact .inr rfl)
  have := CtxIs.loc (i := 1) (x := "day") (by assumption) rfl (by first | exact .inl rfl | exact .inr rfl)
  have := CtxIs.loc (i := 2) (x := "low") (by assumption) rfl (by first | exact .inl rfl | exact .inr rfl)
  have := CtxIs.loc (i := 3) (x := "high") (by assumption) rfl (by first | exact .inl rfl | exact .inr rfl)
  have := CtxIs.loc (i := 4) (x := "middle") (by assumption) rfl (by first | exact .inl rfl | exact .inr rfl)
  first | (have := CtxIs.blt (x := "len") (v := .builtin "len") (by assumption) rfl (Mods.b_len (by assumption)) (by with_unfolding_all rfl)) | skip
  have := CtxIs.calm (by assumption)
  skip))
local macro_rules | `(tactic| walk_at "facts stretch_at") => `(tactic| (
  have := CtxIs.loc (i := 0) (x := "closed") (by assumption) rfl (by first | exact .inl rfl | exact .inr rfl)
  have := CtxIs.loc (i := 1) (x := "day") (by assumption) rfl (by first | exact .inl rfl | exact .inr rfl)
  have := CtxIs.loc (i := 2) (x := "at") (by assumption) rfl (by first | exact .inl rfl | exact .inr rfl)
  first | (have := CtxIs.blt (x := "len") (v := .builtin "len") (by assumption) rfl (Mods.b_len (by assumption)) (by with_unfolding_all rfl)) | skip
  have := CtxIs.calm (by assumption)
  skip))
local macro_rules | `(tactic| walk_at "facts is_open") => `(tactic| (
  have := CtxIs.loc (i := 0) (x := "closed") (by assumption) rfl (by first | exact .inl rfl | exact .inr rfl)
  have := CtxIs.loc (i := 1) (x := "day") (by assumption) rfl (by first | exact .inl rfl | exact .inr rfl)
  have := CtxIs.calm (by assumption)
  skip))
local macro_rules | `(tactic| walk_at "facts next_open") => `(tactic| (
  have := CtxIs.loc (i := 0) (x := "closed") (by assumption) rfl (by first | exact .inl rfl | exact .inr rfl)
  have := CtxIs.loc (i := 1) (x := "day") (by assumption) rfl (by first | exact .inl rfl | exact .inr rfl)
  have := CtxIs.loc (i := 2) (x := "stretch") (by assumption) rfl (by first | exact .inl rfl | exact .inr rfl)
  have := CtxIs.calm (by assumption)
  skip))
local macro_rules | `(tactic| walk_at "facts prev_open") => `(tactic| (
  have := CtxIs.loc (i := 0) (x := "closed") (by assumption) rfl (by first | exact .inl rfl | exact .inr rfl)
  have := CtxIs.loc (i := 1) (x := "day") (by assumption) rfl (by first | exact .inl rfl | exact .inr rfl)
  have := CtxIs.loc (i := 2) (x := "stretch") (by assumption) rfl (by first | exact .inl rfl | exact .inr rfl)
  have := CtxIs.calm (by assumption)
  skip))
local macro_rules | `(tactic| walk_at "facts open_behind") => `(tactic| (
  have := CtxIs.loc (i := 0) (x := "closed") (by assumption) rfl (by first | exact .inl rfl | exact .inr rfl)
  have := CtxIs.loc (i := 1) (x := "day") (by assumption) rfl (by first | exact .inl rfl | exact .inr rfl)
  have := CtxIs.loc (i := 2) (x := "n") (by assumption) rfl (by first | exact .inl rfl | exact .inr rfl)
  have := CtxIs.loc (i := 3) (x := "found") (by assumption) rfl (by first | exact .inl rfl | exact .inr rfl)
  have := CtxIs.loc (i := 4) (x := "at") (by assumption) rfl (by first | exact .inl rfl | exact .inr rfl)
  have := CtxIs.loc (i := 5) (x := "first") (by assumption) rfl (by first | exact .inl rfl | exact .inr rfl)
  first | (have := CtxIs.blt (x := "len") (v := .builtin "len") (by assumption) rfl (Mods.b_len (by assumption)) (by with_unfolding_all rfl)) | skip
  first | (have := CtxIs.blt (x := "max") (v := .builtin "max") (by assumption) rfl (Mods.b_max (by assumption)) (by with_unfolding_all rfl)) | skip
  first | (have := CtxIs.blt (x := "range") (v := .type "range") (by assumption) rfl (Mods.b_range (by assumption)) (by with_unfolding_all rfl)) | skip
  have := CtxIs.calm (by assumption)
  skip))
local macro_rules | `(tactic| walk_at "facts open_before") => `(tactic| (
  have := CtxIs.loc (i := 0) (x := "closed") (by assumption) rfl (by first | exact .inl rfl | exact .inr rfl)
  have := CtxIs.loc (i := 1) (x := "day") (by assumption) rfl (by first | exact .inl rfl | exact .inr rfl)
  have := CtxIs.loc (i := 2) (x := "n") (by assumption) rfl (by first | exact .inl rfl | exact .inr rfl)
  have := CtxIs.loc (i := 3) (x := "found") (by assumption) rfl (by first | exact .inl rfl | exact .inr rfl)
  have := CtxIs.loc (i := 4) (x := "begin") (by assumption) rfl (by first | exact .inl rfl | exact .inr rfl)
  have := CtxIs.loc (i := 5) (x := "at") (by assumption) rfl (by first | exact .inl rfl | exact .inr rfl)
  have := CtxIs.loc (i := 6) (x := "last") (by assumption) rfl (by first | exact .inl rfl | exact .inr rfl)
  first | (have := CtxIs.blt (x := "len") (v := .builtin "len") (by assumption) rfl (Mods.b_len (by assumption)) (by with_unfolding_all rfl)) | skip
  first | (have := CtxIs.blt (x := "max") (v := .builtin "max") (by assumption) rfl (Mods.b_max (by assumption)) (by with_unfolding_all rfl)) | skip
  first | (have := CtxIs.blt (x := "min") (v := .builtin "min") (by assumption) rfl (Mods.b_min (by assumption)) (by with_unfolding_all rfl)) | skip
  first | (have := CtxIs.blt (x := "range") (v := .type "range") (by assumption) rfl (Mods.b_range (by assumption)) (by with_unfolding_all rfl)) | skip
  have := CtxIs.calm (by assumption)
  skip))
local macro_rules | `(tactic| walk_at "facts nth_open") => `(tactic| (
  have := CtxIs.loc (i := 0) (x := "closed") (by assumption) rfl (by first | exact .inl rfl | exact .inr rfl)
  have := CtxIs.loc (i := 1) (x := "day") (by assumption) rfl (by first | exact .inl rfl | exact .inr rfl)
  have := CtxIs.loc (i := 2) (x := "n") (by assumption) rfl (by first | exact .inl rfl | exact .inr rfl)
  have := CtxIs.calm (by assumption)
  skip))
local macro_rules | `(tactic| walk_at "facts count_open") => `(tactic| (
  have := CtxIs.loc (i := 0) (x := "closed") (by assumption) rfl (by first | exact .inl rfl | exact .inr rfl)
  have := CtxIs.loc (i := 1) (x := "first") (by assumption) rfl (by first | exact .inl rfl | exact .inr rfl)
  have := CtxIs.loc (i := 2) (x := "behind") (by assumption) rfl (by first | exact .inl rfl | exact .inr rfl)
  have := CtxIs.loc (i := 3) (x := "inner") (by assumption) rfl (by first | exact .inl rfl | exact .inr rfl)
  first | (have := CtxIs.blt (x := "sum") (v := .builtin "sum") (by assumption) rfl (Mods.b_sum (by assumption)) (by with_unfolding_all rfl)) | skip
  have := CtxIs.calm (by assumption)
  skip))
local macro_rules | `(tactic| walk_at "facts cut") => `(tactic| (
  have := CtxIs.loc (i := 0) (x := "closed") (by assumption) rfl (by first | exact .inl rfl | exact .inr rfl)
  have := CtxIs.loc (i := 1) (x := "first") (by assumption) rfl (by first | exact .inl rfl | exact .inr rfl)
  have := CtxIs.loc (i := 2) (x := "last") (by assumption) rfl (by first | exact .inl rfl | exact .inr rfl)
  first | (have := CtxIs.blt (x := "max") (v := .builtin "max") (by assumption) rfl (Mods.b_max (by assumption)) (by with_unfolding_all rfl)) | skip
  first | (have := CtxIs.blt (x := "min") (v := .builtin "min") (by assumption) rfl (Mods.b_min (by assumption)) (by with_unfolding_all rfl)) | skip
  first | (have := CtxIs.blt (x := "tuple") (v := .type "tuple") (by assumption) rfl (Mods.b_tuple (by assumption)) (by with_unfolding_all rfl)) | skip
  have := CtxIs.calm (by assumption)
  skip))
local macro_rules | `(tactic| walk_at "facts _law_stream") => `(tactic| (
  have := CtxIs.loc (i := 0) (x := "script") (by assumption) rfl (by first | exact .inl rfl | exact .inr rfl)
  have := CtxIs.loc (i := 1) (x := "numbers") (by assumption) rfl (by first | exact .inl rfl | exact .inr rfl)
  have := CtxIs.loc (i := 2) (x := "cell") (by assumption) rfl (by first | exact .inl rfl | exact .inr rfl)
  have := CtxIs.loc (i := 3) (x := "rest") (by assumption) rfl (by first | exact .inl rfl | exact .inr rfl)
  have := CtxIs.loc (i := 4) (x := "k") (by assumption) rfl (by first | exact .inl rfl | exact .inr rfl)
  have := CtxIs.loc (i := 5) (x := "mixed") (by assumption) rfl (by first | exact .inl rfl | exact .inr rfl)
  first | (have := CtxIs.blt (x := "int") (v := .type "int") (by assumption) rfl (Mods.b_int (by assumption)) (by with_unfolding_all rfl)) | skip
  first | (have := CtxIs.blt (x := "len") (v := .builtin "len") (by assumption) rfl (Mods.b_len (by assumption)) (by with_unfolding_all rfl)) | skip
  first | (have := CtxIs.blt (x := "range") (v := .type "range") (by assumption) rfl (Mods.b_range (by assumption)) (by with_unfolding_all rfl)) | skip
  have := CtxIs.calm (by assumption)
  skip))
local macro_rules | `(tactic| walk_at "facts _law_pick") => `(tactic| (
  have := CtxIs.loc (i := 0) (x := "numbers") (by assumption) rfl (by first | exact .inl rfl | exact .inr rfl)
  have := CtxIs.loc (i := 1) (x := "at") (by assumption) rfl (by first | exact .inl rfl | exact .inr rfl)
  have := CtxIs.loc (i := 2) (x := "many") (by assumption) rfl (by first | exact .inl rfl | exact .inr rfl)
  first | (have := CtxIs.blt (x := "int") (v := .type "int") (by assumption) rfl (Mods.b_int (by assumption)) (by with_unfolding_all rfl)) | skip
  first | (have := CtxIs.blt (x := "len") (v := .builtin "len") (by assumption) rfl (Mods.b_len (by assumption)) (by with_unfolding_all rfl)) | skip
  have := CtxIs.calm (by assumption)
  skip))
local macro_rules | `(tactic| walk_at "facts _law_closed") => `(tactic| (
  have := CtxIs.loc (i := 0) (x := "numbers") (by assumption) rfl (by first | exact .inl rfl | exact .inr rfl)
  have := CtxIs.loc (i := 1) (x := "at") (by assumption) rfl (by first | exact .inl rfl | exact .inr rfl)
  have := CtxIs.loc (i := 2) (x := "scale") (by assumption) rfl (by first | exact .inl rfl | exact .inr rfl)
  have := CtxIs.loc (i := 3) (x := "found") (by assumption) rfl (by first | exact .inl rfl | exact .inr rfl)
  have := CtxIs.loc (i := 4) (x := "day") (by assumption) rfl (by first | exact .inl rfl | exact .inr rfl)
  have := CtxIs.loc (i := 5) (x := "k") (by assumption) rfl (by first | exact .inl rfl | exact .inr rfl)
  have := CtxIs.loc (i := 6) (x := "last") (by assumption) rfl (by first | exact .inl rfl | exact .inr rfl)
  first | (have := CtxIs.blt (x := "range") (v := .type "range") (by assumption) rfl (Mods.b_range (by assumption)) (by with_unfolding_all rfl)) | skip
  first | (have := CtxIs.blt (x := "tuple") (v := .type "tuple") (by assumption) rfl (Mods.b_tuple (by assumption)) (by with_unfolding_all rfl)) | skip
  have := CtxIs.calm (by assumption)
  skip))
local macro_rules | `(tactic| walk_at "facts _law_day") => `(tactic| (
  have := CtxIs.loc (i := 0) (x := "closed") (by assumption) rfl (by first | exact .inl rfl | exact .inr rfl)
  have := CtxIs.loc (i := 1) (x := "numbers") (by assumption) rfl (by first | exact .inl rfl | exact .inr rfl)
  have := CtxIs.loc (i := 2) (x := "at") (by assumption) rfl (by first | exact .inl rfl | exact .inr rfl)
  have := CtxIs.loc (i := 3) (x := "scale") (by assumption) rfl (by first | exact .inl rfl | exact .inr rfl)
  have := CtxIs.loc (i := 4) (x := "day") (by assumption) rfl (by first | exact .inl rfl | exact .inr rfl)
  have := CtxIs.loc (i := 5) (x := "pair") (by assumption) rfl (by first | exact .inl rfl | exact .inr rfl)
  first | (have := CtxIs.blt (x := "len") (v := .builtin "len") (by assumption) rfl (Mods.b_len (by assumption)) (by with_unfolding_all rfl)) | skip
  have := CtxIs.calm (by assumption)
  skip))
local macro_rules | `(tactic| walk_at "facts _law_pair") => `(tactic| (
  have := CtxIs.loc (i := 0) (x := "closed") (by assumption) rfl (by first | exact .inl rfl | exact .inr rfl)
  have := CtxIs.loc (i := 1) (x := "p") (by assumption) rfl (by first | exact .inl rfl | exact .inr rfl)
  have := CtxIs.loc (i := 2) (x := "q") (by assumption) rfl (by first | exact .inl rfl | exact .inr rfl)
  have := CtxIs.loc (i := 3) (x := "behind") (by assumption) rfl (by first | exact .inl rfl | exact .inr rfl)
  have := CtxIs.loc (i := 4) (x := "before") (by assumption) rfl (by first | exact .inl rfl | exact .inr rfl)
  have := CtxIs.calm (by assumption)
  skip))
local macro_rules | `(tactic| walk_at "facts _law_steps") => `(tactic| (
  have := CtxIs.loc (i := 0) (x := "closed") (by assumption) rfl (by first | exact .inl rfl | exact .inr rfl)
  have := CtxIs.loc (i := 1) (x := "day") (by assumption) rfl (by first | exact .inl rfl | exact .inr rfl)
  have := CtxIs.loc (i := 2) (x := "m") (by assumption) rfl (by first | exact .inl rfl | exact .inr rfl)
  have := CtxIs.loc (i := 3) (x := "n") (by assumption) rfl (by first | exact .inl rfl | exact .inr rfl)
  have := CtxIs.calm (by assumption)
  skip))
local macro_rules | `(tactic| walk_at "facts law") => `(tactic| (
  have := CtxIs.loc (i := 0) (x := "script") (by assumption) rfl (by first | exact .inl rfl | exact .inr rfl)
  have := CtxIs.loc (i := 1) (x := "numbers") (by assumption) rfl (by first | exact .inl rfl | exact .inr rfl)
  have := CtxIs.loc (i := 2) (x := "scale") (by assumption) rfl (by first | exact .inl rfl | exact .inr rfl)
  have := CtxIs.loc (i := 3) (x := "closed") (by assumption) rfl (by first | exact .inl rfl | exact .inr rfl)
  have := CtxIs.loc (i := 4) (x := "days") (by assumption) rfl (by first | exact .inl rfl | exact .inr rfl)
  have := CtxIs.loc (i := 5) (x := "k") (by assumption) rfl (by first | exact .inl rfl | exact .inr rfl)
  have := CtxIs.loc (i := 6) (x := "p") (by assumption) rfl (by first | exact .inl rfl | exact .inr rfl)
  have := CtxIs.loc (i := 7) (x := "q") (by assumption) rfl (by first | exact .inl rfl | exact .inr rfl)
  have := CtxIs.loc (i := 8) (x := "many") (by assumption) rfl (by first | exact .inl rfl | exact .inr rfl)
  first | (have := CtxIs.blt (x := "range") (v := .type "range") (by assumption) rfl (Mods.b_range (by assumption)) (by with_unfolding_all rfl)) | skip
  first | (have := CtxIs.blt (x := "sorted") (v := .builtin "sorted") (by assumption) rfl (Mods.b_sorted (by assumption)) (by with_unfolding_all rfl)) | skip
  have := CtxIs.calm (by assumption)
  skip))
local macro_rules | `(tactic| walk_at "blk count_open") => `(tactic| (
  have := CtxIs.bloc (i := 4) (x := "begin") (by assumption) (by assumption) rfl rfl
  have := CtxIs.bloc (i := 5) (x := "end") (by assumption) (by assumption) rfl rfl
  have := CtxIs.bcalm (by assumption) (by assumption)
  skip))
local macro_rules | `(tactic| walk_at "blk cut") => `(tactic| (
  have := CtxIs.bvar (i := 1) (x := "first") (by assumption) (by assumption) rfl (by first | exact .inr (.inl rfl) | exact .inr (.inr rfl))
  have := CtxIs.bvar (i := 2) (x := "last") (by assumption) (by assumption) rfl (by first | exact .inr (.inl rfl) | exact .inr (.inr rfl))
  have := CtxIs.bloc (i := 3) (x := "begin") (by assumption) (by assumption) rfl rfl
  have := CtxIs.bloc (i := 4) (x := "end") (by assumption) (by assumption) rfl rfl
  have := CtxIs.bblt (x := "max") (v := .builtin "max") (by assumption) (by assumption) rfl (Mods.b_max (by assumption)) (by with_unfolding_all rfl)
  have := CtxIs.bblt (x := "min") (v := .builtin "min") (by assumption) (by assumption) rfl (Mods.b_min (by assumption)) (by with_unfolding_all rfl)
  have := CtxIs.bcalm (by assumption) (by assumption)
  skip))
/-! ### closed days -/
abbrev st (p : Int × Int) : PyData := .tuple [.int p.1, .int p.2]
abbrev clD (cl : List (Int × Int)) : PyData := .tuple (cl.map st)
structure Cl (cl : List (Int × Int)) : Prop where
  gap : cl.Pairwise fun p q => p.2 + 2 ≤ q.1
  ord : ∀ p ∈ cl, p.1 ≤ p.2
theorem Cl.lt {cl : List (Int × Int)} (h : Cl cl) {i j : Nat} {p q : Int × Int} (hi : cl[i]? = some p) (hj : cl[j]? = some q) (hij : i < j) : p.2 + 2 ≤ q.1 := by
  obtain ⟨h1, e1⟩ := List.getElem?_eq_some_iff.mp hi
  obtain ⟨h2, e2⟩ := List.getElem?_eq_some_iff.mp hj
  have := List.pairwise_iff_getElem.mp h.gap i j h1 h2 hij
  rw [e1, e2] at this
  exact this
theorem Cl.le {cl : List (Int × Int)} (h : Cl cl) {i j : Nat} {p q : Int × Int} (hi : cl[i]? = some p) (hj : cl[j]? = some q) (hij : i ≤ j) : p.2 ≤ q.2 := by
  by_cases c : i = j
  · subst c
    rw [hi] at hj; cases hj; omega
  · have := h.lt hi hj (by omega)
    have := h.ord q (List.mem_of_getElem? hj)
    omega
theorem at_map {α : Type} {f : α → PyData} {l : List α} {n : Nat} {p : α} (h : l[n]? = some p) : atI (l.map f) (n : Int) = some (f p) := atI_nat (by rw [List.getElem?_map, h]; rfl)
theorem get_of {α : Type} {l : List α} {n : Nat} (h : n < l.length) : ∃ p, l[n]? = some p := ⟨l[n], List.getElem?_eq_getElem h⟩
theorem get_map {α β : Type} {f : α → β} {l : List α} {n : Nat} {b : β} (h : (l.map f)[n]? = some b) : ∃ a, l[n]? = some a ∧ b = f a := by
  rw [List.getElem?_map] at h
  cases e : l[n]? with
  | none => rw [e] at h; cases h
  | some a => rw [e] at h; exact ⟨a, rfl, (Option.some.inj h).symm⟩

/-! ### place_of -/
@[reducible] def a_place_of (a : List (Int × Int) × Int) : List PyData := [clD a.1, .int a.2]
def IsPlace (cl : List (Int × Int)) (day : Int) (n : Nat) : Prop := n ≤ cl.length ∧ (∀ i p, cl[i]? = some p → i < n → p.2 < day) ∧ (∀ i p, cl[i]? = some p → n ≤ i → day ≤ p.2)
def placeO : List (Int × Int) → Int → Nat
  | [], _ => 0
  | p :: l, day => if p.2 < day then placeO l day + 1 else 0
theorem place_is {cl : List (Int × Int)} (h : Cl cl) (day : Int) : IsPlace cl day (placeO cl day) := by
  induction cl with
  | nil => exact ⟨Nat.le_refl _, fun i p q => by simp at q, fun i p q => by simp at q⟩
  | cons p l ih =>
    obtain ⟨h1, h2, h3⟩ := ih ⟨(List.pairwise_cons.mp h.gap).2, fun q hq => h.ord q (List.mem_cons_of_mem _ hq)⟩
    unfold placeO
    by_cases c : p.2 < day
    · rw [if_pos c]
      refine ⟨Nat.succ_le_succ h1, fun i q hq hi => ?_, fun i q hq hi => ?_⟩
      · cases i with
        | zero => simp at hq; subst hq; exact c
        | succ i => exact h2 i q (by simpa using hq) (by omega)
      · cases i with
        | zero => omega
        | succ i => exact h3 i q (by simpa using hq) (by omega)
    · rw [if_neg c]
      refine ⟨Nat.zero_le _, fun i q hq hi => by omega, fun i q hq _ => ?_⟩
      have := h.le (i := 0) (j := i) (p := p) (q := q) rfl hq (by omega)
      omega
theorem place_uniq {cl : List (Int × Int)} {day : Int} {n m : Nat} (hn : IsPlace cl day n) (hm : IsPlace cl day m) : n = m := by
  have go : ∀ {n m : Nat}, IsPlace cl day n → IsPlace cl day m → ¬ n < m := fun {n m} hn hm c => by
    obtain ⟨p, hp⟩ := get_of (l := cl) (n := n) (by have := hm.1; omega)
    have h1 := hm.2.1 n p hp c
    have h2 := hn.2.2 n p hp (Nat.le_refl _)
    omega
  have h1 := go hn hm
  have h2 := go hm hn
  omega
abbrev sp_place_of (K : PySem.W.Frag) : Sp := spX K a_place_of (fun a => Cl a.1) (fun a d => d = .int (placeO a.1 a.2)) NoX
section
variable {P : Program} {w : World} {K : PySem.W.Frag} {mg : Str → Option Value} {base : Heap}
theorem ok_place_of (D : DefAt K mg "place_of" s_place_of ["closed", "day"]) (M : Mods mg) : DefOk P w K mg base 1 "place_of" (sp_place_of K) := by
  refine D.ok sc_place_of (fun a => rfl) fun c a h cal _ hp => ?_
  obtain ⟨cl, day⟩ := a
  walk_at "facts place_of"
  refine x_cons (x_par (i := 2) (j := 3) e_int (by walk_at "ex") h.calm (LocAt.toVarAt (by assumption)).n (LocAt.toVarAt (by assumption)).n (by decide) (by rw [h.sc]; rfl) (by rw [h.sc]; rfl) ?_ (fun env he => by rw [h.sc] at he; cases env; cases he; rfl))
  show SsX c _ [.sh (clD cl), .sh (.int day), .sh (.int 0), .sh (.int (cl.map st).length), .no] _
  refine x_cons (x_while h.calm (fun δ => ∃ (lo hi : Nat) (e : En), δ = [.sh (clD cl), .sh (.int day), .sh (.int lo), .sh (.int hi), e] ∧ lo ≤ hi ∧ hi ≤ cl.length ∧ (∀ i p, cl[i]? = some p → i < lo → p.2 < day) ∧ (∀ i p, cl[i]? = some p → hi ≤ i → day ≤ p.2))
    (fun δ => match δ with | [_, _, .sh (.int lo), .sh (.int hi), _] => (hi - lo).toNat | _ => 0) ?_ ?_)
  · refine ⟨0, cl.length, .no, by simp, by omega, by omega, fun i p _ z => by omega, fun i p q z => ?_⟩
    have := (List.getElem?_eq_some_iff.mp q).1
    omega
  · rintro δ1 ⟨lo, hi, e, rfl, h1, h2, h3, h4⟩
    refine ⟨_, by walk_at "tx", fun hT => ?_, fun hF => ?_⟩
    · have hlt : (lo : Int) < hi := of_decide_eq_true hT
      obtain ⟨m, hm⟩ : ∃ m : Nat, (lo + hi : Int) / 2 = m := ⟨((lo + hi : Int) / 2).toNat, by omega⟩
      obtain ⟨p, hp2⟩ := get_of (l := cl) (n := m) (by omega)
      have hat := at_map (f := st) hp2
      walk_at "xasg"
      rw [hm]
      walk_at "xif"
      · intro hT
        have hq : p.2 < day := of_decide_eq_true hT
        walk_at "xasg"
        refine ⟨⟨m + 1, hi, _, rfl, by omega, by omega, fun i q hi2 hl2 => ?_, h4⟩, ?_⟩
        · have := Cl.le hp hi2 hp2 (by omega)
          omega
        · show ((hi : Int) - (m + 1)).toNat < ((hi : Int) - lo).toNat
          omega
      · intro hF
        have hq : ¬ p.2 < day := of_decide_eq_false hF
        walk_at "xasg"
        refine ⟨⟨lo, m, _, rfl, by omega, by omega, h3, fun i q hi2 hl2 => ?_⟩, ?_⟩
        · have := Cl.le hp hp2 hi2 (by omega)
          omega
        · show ((m : Int) - lo).toNat < ((hi : Int) - lo).toNat
          omega
    · have hlt : ¬ (lo : Int) < hi := of_decide_eq_false hF
      walk_at "xret"
      show PyData.int _ = PyData.int _
      rw [place_uniq ⟨show lo ≤ cl.length by omega, h3, fun i p q z => h4 i p q (by omega)⟩ (place_is hp day)]
end

/-! ### which stretch shuts a day -/
def shut (cl : List (Int × Int)) (day : Int) : Option (Int × Int) := cl.find? fun p => decide (p.1 ≤ day ∧ day ≤ p.2)
@[reducible] def optD : Option (Int × Int) → PyData
  | none => .none
  | some p => st p
def nextO (cl : List (Int × Int)) (day : Int) : Int := match shut cl day with
  | none => day
  | some p => p.2 + 1
def prevO (cl : List (Int × Int)) (day : Int) : Int := match shut cl day with
  | none => day
  | some p => p.1 - 1
theorem shut_spec {cl : List (Int × Int)} {day : Int} {p : Int × Int} (h : shut cl day = some p) : p ∈ cl ∧ p.1 ≤ day ∧ day ≤ p.2 := by
  unfold shut at h
  refine ⟨List.mem_of_find?_eq_some h, ?_⟩
  have := List.find?_some h
  exact of_decide_eq_true this
theorem shut_none {cl : List (Int × Int)} {day : Int} (h : ∀ p ∈ cl, ¬ (p.1 ≤ day ∧ day ≤ p.2)) : shut cl day = none := by
  unfold shut
  rw [List.find?_eq_none]
  intro p hp q
  exact h p hp (of_decide_eq_true q)
theorem shut_of_none {cl : List (Int × Int)} {day : Int} (h : shut cl day = none) : ∀ p ∈ cl, ¬ (p.1 ≤ day ∧ day ≤ p.2) := by
  unfold shut at h
  rw [List.find?_eq_none] at h
  intro p hp q
  exact h p hp (decide_eq_true q)
theorem Cl.uniq {cl : List (Int × Int)} (h : Cl cl) {p q : Int × Int} {day : Int} (hp : p ∈ cl) (hq : q ∈ cl) (h1 : p.1 ≤ day ∧ day ≤ p.2) (h2 : q.1 ≤ day ∧ day ≤ q.2) : p = q := by
  obtain ⟨i, hi⟩ := List.mem_iff_getElem?.mp hp
  obtain ⟨j, hj⟩ := List.mem_iff_getElem?.mp hq
  rcases Nat.lt_trichotomy i j with c | c | c
  · have := h.lt hi hj c; omega
  · subst c; rw [hi] at hj; exact Option.some.inj hj
  · have := h.lt hj hi c; omega
theorem shut_some {cl : List (Int × Int)} (h : Cl cl) {p : Int × Int} {day : Int} (hp : p ∈ cl) (h1 : p.1 ≤ day) (h2 : day ≤ p.2) : shut cl day = some p := by
  cases e : shut cl day with
  | none => exact absurd ⟨h1, h2⟩ (shut_of_none e p hp)
  | some q =>
    obtain ⟨a, b⟩ := shut_spec e
    rw [h.uniq a hp b ⟨h1, h2⟩]
@[reducible] def a_day (a : List (Int × Int) × Int) : List PyData := [clD a.1, .int a.2]

/-! ### stretch_at, is_open, next_open, prev_open -/
abbrev sp_stretch_at (K : PySem.W.Frag) : Sp := spX K a_day (fun a => Cl a.1) (fun a d => d = optD (shut a.1 a.2)) NoX
abbrev sp_is_open (K : PySem.W.Frag) : Sp := spX K a_day (fun a => Cl a.1) (fun a d => d = .bool (isNo (optD (shut a.1 a.2)))) NoX
abbrev sp_next_open (K : PySem.W.Frag) : Sp := spX K a_day (fun a => Cl a.1) (fun a d => d = .int (nextO a.1 a.2)) NoX
abbrev sp_prev_open (K : PySem.W.Frag) : Sp := spX K a_day (fun a => Cl a.1) (fun a d => d = .int (prevO a.1 a.2)) NoX
section
variable {P : Program} {w : World} {K : PySem.W.Frag} {mg : Str → Option Value} {base : Heap}
theorem place_shut {cl : List (Int × Int)} (h : Cl cl) {day : Int} {n : Nat} (hn : IsPlace cl day n) : (∀ p, cl[n]? = some p → p.1 ≤ day → shut cl day = some p) ∧ ((∀ p, cl[n]? = some p → ¬ p.1 ≤ day) → shut cl day = none) := by
  refine ⟨fun p hp h1 => shut_some h (List.mem_of_getElem? hp) h1 (hn.2.2 n p hp (Nat.le_refl _)), fun hh => shut_none fun q hq c => ?_⟩
  obtain ⟨i, hi⟩ := List.mem_iff_getElem?.mp hq
  by_cases hin : i < n
  · have := hn.2.1 i q hi hin; omega
  · have hlt : n < cl.length := by have := (List.getElem?_eq_some_iff.mp hi).1; omega
    obtain ⟨p, hp⟩ := get_of hlt
    have := hh p hp
    by_cases e : i = n
    · subst e; rw [hp] at hi; cases hi; omega
    · have := h.lt hp hi (by omega)
      have := h.ord p (List.mem_of_getElem? hp)
      omega
theorem ok_stretch_at (D : DefAt K mg "stretch_at" s_stretch_at ["closed", "day"]) (M : Mods mg) (G : DefOk P w K mg base 1 "place_of" (sp_place_of K)) : DefOk P w K mg base 2 "stretch_at" (sp_stretch_at K) := by
  refine D.ok sc_stretch_at (fun a => rfl) fun c a h cal _ hp => ?_
  obtain ⟨cl, day⟩ := a
  walk_at "facts stretch_at"
  have f1 := h.fnx (cal G (by decide)) rfl
  walk_at "xasgc"
  rintro d rfl
  show SsX c _ [.sh (clD cl), .sh (.int day), .sh (.int (placeO cl day))] _
  have hp' : Cl cl := hp
  have hn := place_is hp' day
  generalize placeO cl day = n at hn ⊢
  have hl : ((cl.map st).length : Int) = cl.length := by rw [List.length_map]
  obtain ⟨q1, q2⟩ := place_shut hp hn
  by_cases hlt : n < cl.length
  · obtain ⟨p, hpn⟩ := get_of hlt
    have hat := at_map (f := st) hpn
    refine x_cons ?_
    walk_at "if"
    · intro hT
      have : p.1 ≤ day := by simp only [Bool.and_eq_true, decide_eq_true_eq] at hT; exact hT.2
      refine x_one (x_retE (by walk_at "ex") ?_)
      show st p = optD (shut cl day)
      rw [q1 p hpn this]
    · intro hF
      have : ¬ p.1 ≤ day := by
        intro z
        have : (decide ((n : Int) < ((cl.map st).length : Int)) && decide (p.1 ≤ day)) = true := by simp only [Bool.and_eq_true, decide_eq_true_eq]; exact ⟨by omega, z⟩
        rw [this] at hF; cases hF
      refine x_nil ?_
      refine x_one (x_retE e_none ?_)
      show PyData.none = optD (shut cl day)
      rw [q2 fun p' hp' => by rw [hpn] at hp'; cases hp'; exact this]
  · refine x_cons (x_ifF (r := false) (WX.tx (w_and0 (TX.is (by walk_at "tx") (decide_eq_false (by omega))))) rfl ?_)
    refine x_nil ?_
    refine x_one (x_retE e_none ?_)
    show PyData.none = optD (shut cl day)
    rw [q2 fun p' hp' => by have : n < cl.length := (List.getElem?_eq_some_iff.mp hp').1; omega]
theorem ok_is_open (D : DefAt K mg "is_open" s_is_open ["closed", "day"]) (M : Mods mg) (G : DefOk P w K mg base 2 "stretch_at" (sp_stretch_at K)) : DefOk P w K mg base 3 "is_open" (sp_is_open K) := by
  refine D.ok sc_is_open (fun a => rfl) fun c a h cal _ hp => ?_
  obtain ⟨cl, day⟩ := a
  walk_at "facts is_open"
  have f1 := h.fnx (cal G (by decide)) rfl
  have hp' : Cl cl := hp
  show SsX c _ [.sh (clD cl), .sh (.int day)] _
  refine x_one (x_retE (by walk_at "ex") ?_)
  rfl
theorem ok_next_open (D : DefAt K mg "next_open" s_next_open ["closed", "day"]) (M : Mods mg) (G : DefOk P w K mg base 2 "stretch_at" (sp_stretch_at K)) : DefOk P w K mg base 3 "next_open" (sp_next_open K) := by
  refine D.ok sc_next_open (fun a => rfl) fun c a h cal _ hp => ?_
  obtain ⟨cl, day⟩ := a
  walk_at "facts next_open"
  have f1 := h.fnx (cal G (by decide)) rfl
  have hp' : Cl cl := hp
  show SsX c _ [.sh (clD cl), .sh (.int day), .no] _
  walk_at "xasg"
  refine x_one (x_ret (e_if (S := (· = .int (nextO cl day))) (r := isNo (optD (shut cl day))) (by walk_at "tx") (fun hT => ?_) (fun hF => ?_)) fun d hd => hd)
  · cases e : shut cl day with
    | none =>
      refine EX.is (by walk_at "ex") ?_
      unfold nextO; rw [e]
    | some p => rw [e] at hT; cases hT
  · cases e : shut cl day with
    | none => rw [e] at hF; cases hF
    | some p =>
      refine EX.is (by walk_at "ex") ?_
      unfold nextO; rw [e]
theorem ok_prev_open (D : DefAt K mg "prev_open" s_prev_open ["closed", "day"]) (M : Mods mg) (G : DefOk P w K mg base 2 "stretch_at" (sp_stretch_at K)) : DefOk P w K mg base 3 "prev_open" (sp_prev_open K) := by
  refine D.ok sc_prev_open (fun a => rfl) fun c a h cal _ hp => ?_
  obtain ⟨cl, day⟩ := a
  walk_at "facts prev_open"
  have f1 := h.fnx (cal G (by decide)) rfl
  have hp' : Cl cl := hp
  show SsX c _ [.sh (clD cl), .sh (.int day), .no] _
  walk_at "xasg"
  refine x_one (x_ret (e_if (S := (· = .int (prevO cl day))) (r := isNo (optD (shut cl day))) (by walk_at "tx") (fun hT => ?_) (fun hF => ?_)) fun d hd => hd)
  · cases e : shut cl day with
    | none =>
      refine EX.is (by walk_at "ex") ?_
      unfold prevO; rw [e]
    | some p => rw [e] at hT; cases hT
  · cases e : shut cl day with
    | none => rw [e] at hF; cases hF
    | some p =>
      refine EX.is (by walk_at "ex") ?_
      unfold prevO; rw [e]
end

/-! ### how many days are open -/
/-- the days of a stretch before x -/
def ov (p : Int × Int) (x : Int) : Int := if x ≤ p.1 then 0 else if p.2 < x then p.2 + 1 - p.1 else x - p.1
/-- the closed days before x -/
def ovl : List (Int × Int) → Int → Int
  | [], _ => 0
  | p :: cl, x => ov p x + ovl cl x
def opn (cl : List (Int × Int)) (x : Int) : Int := x - ovl cl x
def IsO (cl : List (Int × Int)) (x : Int) : Prop := ∀ p ∈ cl, ¬ (p.1 ≤ x ∧ x ≤ p.2)
theorem ovl_app (l m : List (Int × Int)) (x : Int) : ovl (l ++ m) x = ovl l x + ovl m x := by
  induction l with
  | nil => simp [ovl]
  | cons p l ih => rw [List.cons_append, ovl, ovl, ih]; omega
/-- what lies before x and y counts whole -/
theorem ovl_sat {l : List (Int × Int)} {x y : Int} (h : ∀ p ∈ l, p.1 ≤ p.2 ∧ p.2 < x ∧ p.2 < y) : ovl l x = ovl l y := by
  induction l with
  | nil => rfl
  | cons p l ih =>
    rw [ovl, ovl, ih fun q hq => h q (List.mem_cons_of_mem _ hq)]
    obtain ⟨h1, h2, h3⟩ := h p List.mem_cons_self
    unfold ov
    rw [if_neg (by omega), if_pos h2, if_neg (by omega), if_pos h3]
theorem ovl_zero {l : List (Int × Int)} {x : Int} (h : ∀ p ∈ l, x ≤ p.1) : ovl l x = 0 := by
  induction l with
  | nil => rfl
  | cons p l ih =>
    rw [ovl, ih fun q hq => h q (List.mem_cons_of_mem _ hq)]
    unfold ov
    rw [if_pos (h p List.mem_cons_self)]
    rfl
theorem Cl.tail {p : Int × Int} {l : List (Int × Int)} (h : Cl (p :: l)) : Cl l := ⟨(List.pairwise_cons.mp h.gap).2, fun q hq => h.ord q (List.mem_cons_of_mem _ hq)⟩
theorem ovl_step {cl : List (Int × Int)} (h : Cl cl) (x : Int) : (IsO cl x → ovl cl (x + 1) = ovl cl x) ∧ (¬ IsO cl x → ovl cl (x + 1) = ovl cl x + 1) := by
  induction cl with
  | nil => exact ⟨fun _ => rfl, fun z => absurd (fun p hp => by cases hp) z⟩
  | cons p l ih =>
    obtain ⟨i1, i2⟩ := ih h.tail
    have ho := h.ord p List.mem_cons_self
    have hg := (List.pairwise_cons.mp h.gap).1
    rw [ovl, ovl]
    by_cases c : p.1 ≤ x ∧ x ≤ p.2
    · have hl : IsO l x := fun q hq z => by have := hg q hq; omega
      refine ⟨fun z => absurd c (z p List.mem_cons_self), fun _ => ?_⟩
      rw [i1 hl]
      unfold ov
      rw [if_neg (by omega)]
      split <;> split <;> (try split) <;> omega
    · have e : ov p (x + 1) = ov p x := by
        unfold ov
        split <;> split <;> (try split) <;> (try split) <;> omega
      rw [e]
      refine ⟨fun z => by rw [i1 fun q hq => z q (List.mem_cons_of_mem _ hq)], fun z => ?_⟩
      rw [i2 fun z2 => z fun q hq => by
        rcases List.mem_cons.mp hq with rfl | hq
        · exact c
        · exact z2 q hq]
      omega
theorem opn_open {cl : List (Int × Int)} (h : Cl cl) {x : Int} (o : IsO cl x) : opn cl (x + 1) = opn cl x + 1 := by
  unfold opn; rw [(ovl_step h x).1 o]; omega
theorem opn_shut {cl : List (Int × Int)} (h : Cl cl) {x : Int} (o : ¬ IsO cl x) : opn cl (x + 1) = opn cl x := by
  unfold opn; rw [(ovl_step h x).2 o]; omega
theorem opn_mono {cl : List (Int × Int)} (h : Cl cl) {x y : Int} (hxy : x ≤ y) : opn cl x ≤ opn cl y := by
  obtain ⟨n, rfl⟩ : ∃ n : Nat, y = x + n := ⟨(y - x).toNat, by omega⟩
  clear hxy
  induction n with
  | zero => simp
  | succ n ih =>
    rw [show x + ((n + 1 : Nat) : Int) = x + n + 1 by omega]
    by_cases c : IsO cl (x + n)
    · rw [opn_open h c]; omega
    · rw [opn_shut h c]; exact ih
/-- for an open day: before x just if it has less before it -/
theorem opn_lt {cl : List (Int × Int)} (h : Cl cl) {d : Int} (o : IsO cl d) (x : Int) : d < x ↔ opn cl d < opn cl x := by
  constructor
  · intro z
    have := opn_mono h (show d + 1 ≤ x by omega)
    rw [opn_open h o] at this
    omega
  · intro z
    refine Int.not_le.mp fun q => ?_
    have := opn_mono h q
    omega
theorem opn_inj {cl : List (Int × Int)} (h : Cl cl) {d e : Int} (o : IsO cl d) (q : IsO cl e) (z : opn cl d = opn cl e) : d = e := by
  have h1 := opn_lt h o e
  have h2 := opn_lt h q d
  omega
/-- no closed day between: the same -/
theorem opn_run {cl : List (Int × Int)} (h : Cl cl) {p : Int × Int} (hp : p ∈ cl) {x y : Int} (h1 : p.1 ≤ x) (h2 : x ≤ y) (h3 : y ≤ p.2 + 1) : opn cl y = opn cl x := by
  obtain ⟨n, rfl⟩ : ∃ n : Nat, y = x + n := ⟨(y - x).toNat, by omega⟩
  clear h2
  induction n with
  | zero => simp
  | succ n ih =>
    rw [show x + ((n + 1 : Nat) : Int) = x + n + 1 by omega, opn_shut h (x := x + n) (fun z => z p hp ⟨by omega, by omega⟩)]
    exact ih (by omega)
theorem isO_iff {cl : List (Int × Int)} {x : Int} : IsO cl x ↔ shut cl x = none := ⟨shut_none, shut_of_none⟩
theorem Cl.beh {cl : List (Int × Int)} (h : Cl cl) {p : Int × Int} (hp : p ∈ cl) : IsO cl (p.2 + 1) := fun q hq z => by
  obtain ⟨i, hi⟩ := List.mem_iff_getElem?.mp hp
  obtain ⟨j, hj⟩ := List.mem_iff_getElem?.mp hq
  have := h.ord p hp
  rcases Nat.lt_trichotomy i j with c | c | c
  · have := h.lt hi hj c; omega
  · subst c; rw [hi] at hj; cases hj; omega
  · have := h.lt hj hi c; omega
theorem Cl.bef {cl : List (Int × Int)} (h : Cl cl) {p : Int × Int} (hp : p ∈ cl) : IsO cl (p.1 - 1) := fun q hq z => by
  obtain ⟨i, hi⟩ := List.mem_iff_getElem?.mp hp
  obtain ⟨j, hj⟩ := List.mem_iff_getElem?.mp hq
  have := h.ord p hp
  rcases Nat.lt_trichotomy i j with c | c | c
  · have := h.lt hi hj c; omega
  · subst c; rw [hi] at hj; cases hj; omega
  · have := h.lt hj hi c; omega
structure IsNext (cl : List (Int × Int)) (day d : Int) : Prop where
  le : day ≤ d
  op : IsO cl d
  eq : opn cl d = opn cl day
structure IsPrev (cl : List (Int × Int)) (day d : Int) : Prop where
  le : d ≤ day
  op : IsO cl d
  eq : opn cl d = opn cl (day + 1) - 1
theorem next_is {cl : List (Int × Int)} (h : Cl cl) (day : Int) : IsNext cl day (nextO cl day) := by
  unfold nextO
  cases e : shut cl day with
  | none => exact ⟨by simp, isO_iff.mpr e, rfl⟩
  | some p =>
    obtain ⟨pm, p1, p2⟩ := shut_spec e
    exact ⟨by show day ≤ p.2 + 1; omega, h.beh pm, opn_run h pm (x := day) (y := p.2 + 1) p1 (by omega) (by omega)⟩
theorem prev_is {cl : List (Int × Int)} (h : Cl cl) (day : Int) : IsPrev cl day (prevO cl day) := by
  unfold prevO
  cases e : shut cl day with
  | none =>
    have := isO_iff.mpr e
    exact ⟨by simp, this, by show opn cl day = _; rw [opn_open h this]; omega⟩
  | some p =>
    obtain ⟨pm, p1, p2⟩ := shut_spec e
    have hb := h.bef pm
    refine ⟨by show p.1 - 1 ≤ day; omega, hb, ?_⟩
    have h1 := opn_open h hb
    rw [show p.1 - 1 + 1 = p.1 by omega] at h1
    have h2 := opn_run h pm (x := p.1) (y := day + 1) (by omega) (by omega) (by omega)
    show opn cl (p.1 - 1) = _
    omega
/-- the n-th open day -/
structure IsNth (cl : List (Int × Int)) (day n d : Int) : Prop where
  op : IsO cl d
  eq : opn cl d = if 0 < n then opn cl (day + 1) + n - 1 else opn cl day + n
def nthUp (cl : List (Int × Int)) (day : Int) : Nat → Int
  | 0 => day
  | n + 1 => nextO cl (nthUp cl day n + 1)
def nthDn (cl : List (Int × Int)) (day : Int) : Nat → Int
  | 0 => day
  | n + 1 => prevO cl (nthDn cl day n - 1)
def nthO (cl : List (Int × Int)) (day n : Int) : Int := if 0 < n then nthUp cl day n.toNat else nthDn cl day (-n).toNat
theorem nthUp_is {cl : List (Int × Int)} (h : Cl cl) (day : Int) : ∀ n : Nat, IsO cl (nthUp cl day (n + 1)) ∧ opn cl (nthUp cl day (n + 1)) = opn cl (day + 1) + n
  | 0 => ⟨(next_is h _).op, by rw [nthUp, (next_is h _).eq, nthUp]; simp⟩
  | n + 1 => by
    obtain ⟨h1, h2⟩ := nthUp_is h day n
    refine ⟨(next_is h _).op, ?_⟩
    rw [nthUp, (next_is h _).eq, opn_open h h1, h2]
    omega
theorem nthDn_is {cl : List (Int × Int)} (h : Cl cl) (day : Int) : ∀ n : Nat, IsO cl (nthDn cl day (n + 1)) ∧ opn cl (nthDn cl day (n + 1)) = opn cl day - (n + 1)
  | 0 => ⟨(prev_is h _).op, by rw [nthDn, (prev_is h _).eq, nthDn, show day - 1 + 1 = day by omega]; simp⟩
  | n + 1 => by
    obtain ⟨h1, h2⟩ := nthDn_is h day n
    refine ⟨(prev_is h _).op, ?_⟩
    rw [nthDn, (prev_is h _).eq, show nthDn cl day (n + 1) - 1 + 1 = nthDn cl day (n + 1) by omega, h2]
    omega
theorem nth_is {cl : List (Int × Int)} (h : Cl cl) (day : Int) {n : Int} (hn : n ≠ 0) : IsNth cl day n (nthO cl day n) := by
  unfold nthO
  by_cases c : 0 < n
  · obtain ⟨k, hk⟩ : ∃ k : Nat, n.toNat = k + 1 := ⟨n.toNat - 1, by omega⟩
    rw [if_pos c, hk]
    obtain ⟨h1, h2⟩ := nthUp_is h day k
    exact ⟨h1, by rw [if_pos c, h2]; omega⟩
  · obtain ⟨k, hk⟩ : ∃ k : Nat, (-n).toNat = k + 1 := ⟨(-n).toNat - 1, by omega⟩
    rw [if_neg c, hk]
    obtain ⟨h1, h2⟩ := nthDn_is h day k
    exact ⟨h1, by rw [if_neg c, h2]; omega⟩
theorem nth_eq {cl : List (Int × Int)} (h : Cl cl) {day n d : Int} (hn : n ≠ 0) (q : IsNth cl day n d) : d = nthO cl day n :=
  opn_inj h q.op (nth_is h day hn).op (q.eq.trans (nth_is h day hn).eq.symm)
/-- the stretches cut to the days from f to l -/
def cutL (cl : List (Int × Int)) (f l : Int) : List (Int × Int) := (cl.filter fun p => decide (p.1 ≤ l) && decide (f ≤ p.2)).map fun p => (if f > p.1 then f else p.1, if l < p.2 then l else p.2)
theorem cutL_app (a b : List (Int × Int)) (f l : Int) : cutL (a ++ b) f l = cutL a f l ++ cutL b f l := by unfold cutL; rw [List.filter_append, List.map_append]
theorem cutL_len (a : List (Int × Int)) (f l : Int) : (cutL a f l).length ≤ a.length := by unfold cutL; rw [List.length_map]; exact List.length_filter_le _ _
theorem cutL_sum {cl : List (Int × Int)} (h : ∀ p ∈ cl, p.1 ≤ p.2) {f b : Int} (hfb : f < b) : ((cutL cl f (b - 1)).map fun p => p.2 - p.1 + 1).sum = ovl cl b - ovl cl f := by
  induction cl with
  | nil => rfl
  | cons p l ih =>
    have ih := ih fun q hq => h q (List.mem_cons_of_mem _ hq)
    have ho := h p List.mem_cons_self
    rw [show p :: l = [p] ++ l from rfl, cutL_app, List.map_append, List.sum_append, ih, ovl_app, ovl_app]
    have : ((cutL [p] f (b - 1)).map fun p => p.2 - p.1 + 1).sum = ov p b - ov p f := by
      unfold cutL ov
      by_cases c : (decide (p.1 ≤ b - 1) && decide (f ≤ p.2)) = true
      · rw [List.filter_cons_of_pos (by simpa using c)]
        simp only [Bool.and_eq_true, decide_eq_true_eq] at c
        simp only [List.filter_nil, List.map_cons, List.map_nil, List.sum_cons, List.sum_nil]
        split <;> split <;> split <;> (try split) <;> (try split) <;> omega
      · rw [List.filter_cons_of_neg (by simpa using c)]
        simp only [Bool.and_eq_true, decide_eq_true_eq, not_and] at c
        simp only [List.filter_nil, List.map_nil, List.sum_nil]
        split <;> split <;> (try split) <;> omega
    rw [this]
    simp only [ovl]
    omega
def countO (cl : List (Int × Int)) (f b : Int) : Int := if b ≤ f then 0 else opn cl b - opn cl f

/-! ### open_behind, open_before, nth_open -/
@[reducible] def a_nth (a : List (Int × Int) × Int × Int) : List PyData := [clD a.1, .int a.2.1, .int a.2.2]
structure NthOk (a : List (Int × Int) × Int × Int) : Prop where
  cl : Cl a.1
  pos : 0 < a.2.2
  len : a.1.length ≤ 100000
structure NthOk0 (a : List (Int × Int) × Int × Int) : Prop where
  cl : Cl a.1
  ne : a.2.2 ≠ 0
  len : a.1.length ≤ 100000
abbrev sp_open_behind (K : PySem.W.Frag) : Sp := spX K a_nth NthOk (fun a d => d = .int (nthO a.1 a.2.1 a.2.2)) NoX
abbrev sp_open_before (K : PySem.W.Frag) : Sp := spX K a_nth NthOk (fun a d => d = .int (nthO a.1 a.2.1 (-a.2.2))) NoX
abbrev sp_nth_open (K : PySem.W.Frag) : Sp := spX K a_nth NthOk0 (fun a d => d = .int (nthO a.1 a.2.1 a.2.2)) NoX
theorem mem_take_ix {α : Type} {l : List α} {k : Nat} {p : α} (h : p ∈ l.take k) : ∃ i, l[i]? = some p ∧ i < k := by
  obtain ⟨i, hi⟩ := List.mem_iff_getElem?.mp h
  rw [List.getElem?_take] at hi
  split at hi
  · exact ⟨i, hi, by assumption⟩
  · cases hi
theorem mem_drop_ix {α : Type} {l : List α} {k : Nat} {p : α} (h : p ∈ l.drop k) : ∃ i, l[i]? = some p ∧ k ≤ i := by
  obtain ⟨i, hi⟩ := List.mem_iff_getElem?.mp h
  rw [List.getElem?_drop] at hi
  exact ⟨k + i, hi, by omega⟩
theorem take_next {α : Type} {l : List α} {k : Nat} {p : α} (h : l[k]? = some p) : l.take (k + 1) = l.take k ++ [p] := by
  rw [List.take_add_one, h]; rfl
theorem drop_next {α : Type} {l : List α} {k : Nat} {p : α} (h : l[k]? = some p) : l.drop k = p :: l.drop (k + 1) := by
  obtain ⟨h1, h2⟩ := List.getElem?_eq_some_iff.mp h
  rw [List.drop_eq_getElem_cons h1, h2]
theorem ovl_cut (l : List (Int × Int)) (k : Nat) (x : Int) : ovl l x = ovl (l.take k) x + ovl (l.drop k) x := by
  rw [← ovl_app, List.take_append_drop]
theorem IsO.of_cut {l : List (Int × Int)} {k : Nat} {x : Int} (h1 : ∀ p ∈ l.take k, p.2 < x) (h2 : ∀ p ∈ l.drop k, x < p.1) : IsO l x := fun p hp z => by
  rw [← List.take_append_drop k l] at hp
  rcases List.mem_append.mp hp with q | q
  · have := h1 p q; omega
  · have := h2 p q; omega
/-- where a walk up ends -/
theorem behind_end {cl : List (Int × Int)} (h : Cl cl) {day n found : Int} {k : Nat} (hn : 0 < n) (e : found = day + n + ovl (cl.take k) found - ovl (cl.take k) (day + 1)) (h1 : ∀ p ∈ cl.take k, p.2 < found) (h2 : ∀ p ∈ cl.drop k, found < p.1) (h3 : day + 1 ≤ found) : found = nthO cl day n := by
  refine nth_eq h (by omega) ⟨IsO.of_cut h1 h2, ?_⟩
  rw [if_pos hn]
  unfold opn
  rw [ovl_cut cl k, ovl_cut cl k (day + 1), ovl_zero (l := cl.drop k) (x := found) (fun p hp => by have := h2 p hp; omega), ovl_zero (l := cl.drop k) (x := day + 1) (fun p hp => by have := h2 p hp; omega)]
  omega
/-- where a walk down ends -/
theorem before_end {cl : List (Int × Int)} (h : Cl cl) {day n found : Int} {k : Nat} (hn : 0 < n) (e : found = day - n - ovl (cl.drop k) day) (h1 : ∀ p ∈ cl.take k, p.2 < found) (h2 : ∀ p ∈ cl.drop k, found < p.1) (h3 : found < day) : found = nthO cl day (-n) := by
  refine nth_eq h (by omega) ⟨IsO.of_cut h1 h2, ?_⟩
  rw [if_neg (by omega)]
  unfold opn
  rw [ovl_cut cl k, ovl_cut cl k day, ovl_zero (l := cl.drop k) (x := found) (fun p hp => by have := h2 p hp; omega), ovl_sat (l := cl.take k) (x := found) (y := day) (fun p hp => ⟨h.ord p (List.mem_of_mem_take hp), h1 p hp, by have := h1 p hp; omega⟩)]
  omega
section
variable {P : Program} {w : World} {K : PySem.W.Frag} {mg : Str → Option Value} {base : Heap}
theorem ok_open_behind (D : DefAt K mg "open_behind" s_open_behind ["closed", "day", "n"]) (M : Mods mg) (G : DefOk P w K mg base 1 "place_of" (sp_place_of K)) : DefOk P w K mg base 2 "open_behind" (sp_open_behind K) := by
  refine D.ok sc_open_behind (fun a => rfl) fun c a h cal _ hp => ?_
  obtain ⟨cl, day, n⟩ := a
  walk_at "facts open_behind"
  have f1 := h.fnx (cal G (by decide)) rfl
  have hcl : Cl cl := hp.cl
  have hn : 0 < n := hp.pos
  have hlm : ((cl.map st).length : Int) = cl.length := by rw [List.length_map]
  have ha := place_is hcl (day + 1)
  show SsX c _ [.sh (clD cl), .sh (.int day), .sh (.int n), .no, .no, .no] _
  walk_at "xasg"
  refine x_cons (x_forR2 (lo := (placeO cl (day + 1) : Nat)) (hi := ((cl.map st).length : Nat)) (fun k δ => ∃ (found : Int) (e4 e5 : En), δ = [.sh (clD cl), .sh (.int day), .sh (.int n), .sh (.int found), e4, e5] ∧ found = day + n + ovl (cl.take (placeO cl (day + 1) + k)) found - ovl (cl.take (placeO cl (day + 1) + k)) (day + 1) ∧ (∀ p ∈ cl.take (placeO cl (day + 1) + k), p.2 < found) ∧ day + 1 ≤ found)
    (by walk_at "ex") (by walk_at "ex") h.calm (BltA.g (by assumption)) (BltA.m (v := .type "range") (by assumption)) ?_ ?_ ?_)
  · have hs : ∀ p ∈ cl.take (placeO cl (day + 1) + 0), p.2 < day + 1 := fun p hp => by
      obtain ⟨i, hi, hk⟩ := mem_take_ix hp
      exact ha.2.1 i p hi (by omega)
    refine ⟨_, _, _, rfl, ?_, fun p hp => by have := hs p hp; omega, by omega⟩
    rw [ovl_sat (y := day + 1) fun p hp => ⟨hcl.ord p (List.mem_of_mem_take hp), by have := hs p hp; omega, hs p hp⟩]
    omega
  · rintro k δ1 hk ⟨found, e4, e5, rfl, h1, h2, h3⟩
    obtain ⟨p, hpn⟩ := get_of (l := cl) (n := placeO cl (day + 1) + k) (by omega)
    have hat : atI (cl.map st) (((placeO cl (day + 1) : Nat) : Int) + (k : Int)) = some (st p) := by rw [← Int.natCast_add]; exact at_map hpn
    have hp1 := hcl.ord p (List.mem_of_getElem? hpn)
    have hp2 := ha.2.2 _ p hpn (by omega)
    refine ⟨_, _, g_nameL (by assumption), ?_⟩
    dsimp only [List.set]
    walk_at "xasg"
    walk_at "xif"
    · intro hT
      have hlt : found < _ := of_decide_eq_true hT
      refine x_one (x_retE (by walk_at "ex") ?_)
      show PyData.int _ = PyData.int _
      rw [← behind_end hcl hn h1 h2 (fun q hq => ?_) h3]
      obtain ⟨i, hi, hki⟩ := mem_drop_ix hq
      have : p.1 ≤ q.1 := by
        by_cases e : placeO cl (day + 1) + k = i
        · subst e; rw [hpn] at hi; cases hi; omega
        · have := hcl.lt hpn hi (by omega); omega
      split at hlt <;> omega
    · intro hF
      have hlt := of_decide_eq_false hF
      refine x_nil ?_
      refine x_one (x_augL (by assumption) (fun X => ip_add) rfl (by walk_at "ex") ?_)
      have hbig : p.2 < found + (p.2 - (if day + 1 > p.1 then day + 1 else p.1) + 1) := by split at hlt <;> split <;> omega
      have hge : found ≤ found + (p.2 - (if day + 1 > p.1 then day + 1 else p.1) + 1) := by split <;> omega
      refine ⟨_, _, _, rfl, ?_, ?_, by omega⟩
      · rw [← Nat.add_assoc, take_next hpn, ovl_app, ovl_app, ovl_sat (l := cl.take _) (y := found) fun q hq => ⟨hcl.ord q (List.mem_of_mem_take hq), by have := h2 q hq; omega, h2 q hq⟩]
        simp only [ovl]
        have o1 : ov p (found + (p.2 - (if day + 1 > p.1 then day + 1 else p.1) + 1)) = p.2 + 1 - p.1 := by unfold ov; rw [if_neg (by omega), if_pos (by omega)]
        have o2 : ov p (day + 1) = if day + 1 > p.1 then day + 1 - p.1 else 0 := by unfold ov; split <;> split <;> (try split) <;> omega
        rw [o1, o2]
        split <;> omega
      · intro q hq
        rw [← Nat.add_assoc, take_next hpn] at hq
        rcases List.mem_append.mp hq with z | z
        · have := h2 q z; omega
        · rw [List.mem_singleton] at z; subst z; exact hbig
  · rintro δ1 ⟨found, e4, e5, rfl, h1, h2, h3⟩
    refine x_one (x_retE (by walk_at "ex") ?_)
    show PyData.int _ = PyData.int _
    rw [← behind_end hcl hn h1 h2 (fun q hq => ?_) h3]
    obtain ⟨i, hi, hki⟩ := mem_drop_ix hq
    have := (List.getElem?_eq_some_iff.mp hi).1
    have := ha.1
    omega
theorem ok_open_before (D : DefAt K mg "open_before" s_open_before ["closed", "day", "n"]) (M : Mods mg) (G : DefOk P w K mg base 1 "place_of" (sp_place_of K)) : DefOk P w K mg base 2 "open_before" (sp_open_before K) := by
  refine D.ok sc_open_before (fun a => rfl) fun c a h cal _ hp => ?_
  obtain ⟨cl, day, n⟩ := a
  walk_at "facts open_before"
  have f1 := h.fnx (cal G (by decide)) rfl
  have hcl : Cl cl := hp.cl
  have hn : 0 < n := hp.pos
  have hlen : cl.length ≤ 100000 := hp.len
  have hlm : ((cl.map st).length : Int) = cl.length := by rw [List.length_map]
  have ha := place_is hcl day
  have ha1 := ha.1
  show SsX c _ [.sh (clD cl), .sh (.int day), .sh (.int n), .no, .no, .no, .no] _
  walk_at "xasg"
  walk_at "xasg"
  obtain ⟨b, hb, hb1, hb2⟩ : ∃ b : Nat, (if ((cl.map st).length : Int) - 1 < (placeO cl day : Nat) then ((cl.map st).length : Int) - 1 else ((placeO cl day : Nat) : Int)) = (b : Int) - 1 ∧ b ≤ cl.length ∧ ((b = placeO cl day + 1 ∧ b ≤ cl.length) ∨ (b = cl.length ∧ placeO cl day = b)) := by
    by_cases c : ((cl.map st).length : Int) - 1 < (placeO cl day : Nat)
    · exact ⟨cl.length, by rw [if_pos c, hlm], Nat.le_refl _, .inr ⟨rfl, by omega⟩⟩
    · exact ⟨placeO cl day + 1, by rw [if_neg c]; omega, by omega, .inl ⟨rfl, by omega⟩⟩
  rw [hb]
  refine x_cons (x_forD (lo := (b : Int) - 1) (hi := -1) (fun k δ => ∃ (found : Int) (e5 e6 : En), δ = [.sh (clD cl), .sh (.int day), .sh (.int n), .sh (.int found), .sh (.int ((b : Int) - 1)), e5, e6] ∧ k ≤ b ∧ found = day - n - ovl (cl.drop (b - k)) day ∧ (∀ p ∈ cl.drop (b - k), found < p.1) ∧ found < day)
    (by walk_at "ex") (by walk_at "ex") (by walk_at "ex") (by omega) h.calm (by assumption) ?_ ?_ ?_)
  · have hs : ∀ p ∈ cl.drop (b - 0), day ≤ p.1 := fun p hp => by
      obtain ⟨i, hi, hk⟩ := mem_drop_ix hp
      have hil := (List.getElem?_eq_some_iff.mp hi).1
      obtain ⟨q, hq⟩ := get_of (l := cl) (n := placeO cl day) (by omega)
      have h1 := ha.2.2 _ q hq (Nat.le_refl _)
      have h2 := hcl.lt hq hi (by omega)
      omega
    refine ⟨_, _, _, rfl, by omega, ?_, fun p hp => by have := hs p hp; omega, by omega⟩
    rw [ovl_zero hs]
    omega
  · rintro k δ1 hk ⟨found, e5, e6, rfl, hkb, h1, h2, h3⟩
    have hkb' : k + 1 ≤ b := by omega
    obtain ⟨i, hi⟩ : ∃ i : Nat, b - k = i + 1 := ⟨b - k - 1, by omega⟩
    have ei : (b : Int) - 1 - (k : Int) = (i : Nat) := by omega
    have ei2 : b - (k + 1) = i := by omega
    rw [hi] at h1 h2
    obtain ⟨p, hpn⟩ := get_of (l := cl) (n := i) (by omega)
    have hat := at_map (f := st) hpn
    have hp1 := hcl.ord p (List.mem_of_getElem? hpn)
    rw [ei, ei2]
    refine ⟨_, _, g_nameL (by assumption), ?_⟩
    dsimp only [List.set]
    walk_at "xasg"
    walk_at "xif"
    · intro hT
      have hlt := of_decide_eq_true hT
      have hpl : p.2 < found := by split at hlt <;> omega
      refine x_one (x_retE (by walk_at "ex") ?_)
      show PyData.int _ = PyData.int _
      rw [← before_end hcl hn h1 (fun q hq => ?_) h2 h3]
      obtain ⟨j, hj, hji⟩ := mem_take_ix hq
      have := hcl.le hj hpn (by omega)
      omega
    · intro hF
      have hlt := of_decide_eq_false hF
      refine x_nil ?_
      refine x_one (x_augL (by assumption) (fun X => ip_sub) rfl (by walk_at "ex") ?_)
      have hov : (if (if day - 1 < p.2 then day - 1 else p.2) - p.1 + 1 > 0 then (if day - 1 < p.2 then day - 1 else p.2) - p.1 + 1 else 0) = ov p day := by
        unfold ov
        split <;> split <;> (try split) <;> (try split) <;> omega
      rw [hov]
      have ho0 : 0 ≤ ov p day := by unfold ov; split <;> (try split) <;> omega
      have hlow : found - ov p day < p.1 := by
        unfold ov
        split at hlt <;> split <;> (try split) <;> omega
      refine ⟨_, _, _, rfl, hkb', ?_, fun q hq => ?_, by omega⟩
      · rw [drop_next hpn]
        simp only [ovl]
        omega
      · rw [drop_next hpn] at hq
        rcases List.mem_cons.mp hq with rfl | z
        · exact hlow
        · have := h2 q z; omega
  · rintro δ1 ⟨found, e5, e6, rfl, hkb, h1, h2, h3⟩
    have eb : ((b : Int) - 1 - -1).toNat = b := by omega
    rw [eb, Nat.sub_self] at h1 h2
    refine x_one (x_retE (by walk_at "ex") ?_)
    show PyData.int _ = PyData.int _
    rw [← before_end hcl hn h1 (fun q hq => by simp at hq) h2 h3]
theorem ok_nth_open (D : DefAt K mg "nth_open" s_nth_open ["closed", "day", "n"]) (M : Mods mg) (G1 : DefOk P w K mg base 2 "open_behind" (sp_open_behind K)) (G2 : DefOk P w K mg base 2 "open_before" (sp_open_before K)) : DefOk P w K mg base 3 "nth_open" (sp_nth_open K) := by
  refine D.ok sc_nth_open (fun a => rfl) fun c a h cal _ hp => ?_
  obtain ⟨cl, day, n⟩ := a
  walk_at "facts nth_open"
  have f1 := h.fnx (cal G1 (by decide)) rfl
  have f2 := h.fnx (cal G2 (by decide)) rfl
  have hcl : Cl cl := hp.cl
  have hn : n ≠ 0 := hp.ne
  have hlen : cl.length ≤ 100000 := hp.len
  show SsX c _ [.sh (clD cl), .sh (.int day), .sh (.int n)] _
  walk_at "xfalse"
  · exact decide_eq_false hn
  walk_at "xif"
  · intro hT
    have hpos : 0 < n := of_decide_eq_true hT
    have k1 : NthOk (cl, day, n) := ⟨hcl, hpos, hlen⟩
    refine x_one (x_retE (by walk_at "ex") rfl)
  · intro hF
    have hneg : ¬ 0 < n := of_decide_eq_false hF
    have k1 : NthOk (cl, day, -n) := ⟨hcl, by show 0 < -n; omega, hlen⟩
    refine x_nil ?_
    refine x_one (x_retE (by walk_at "ex") ?_)
    show PyData.int _ = PyData.int _
    rw [Int.neg_neg]
end

/-! ### check_order, cut, count_open -/
@[reducible] def a_two (a : Int × Int) : List PyData := [.int a.1, .int a.2]
structure CutOk (a : List (Int × Int) × Int × Int) : Prop where
  cl : Cl a.1
  le : a.2.1 ≤ a.2.2
  len : a.1.length < 100000
structure CntOk (a : List (Int × Int) × Int × Int) : Prop where
  cl : Cl a.1
  len : a.1.length < 100000
abbrev sp_check_order (K : PySem.W.Frag) : Sp := spX K a_two (fun a => a.1 ≤ a.2) (fun _ d => d = .none) NoX
abbrev sp_cut (K : PySem.W.Frag) : Sp := spX K a_nth CutOk (fun a d => d = clD (cutL a.1 a.2.1 a.2.2)) NoX
abbrev sp_count_open (K : PySem.W.Frag) : Sp := spX K a_nth CntOk (fun a d => d = .int (countO a.1 a.2.1 a.2.2)) NoX
section
variable {P : Program} {w : World} {K : PySem.W.Frag} {mg : Str → Option Value} {base : Heap}
theorem ok_check_order (D : DefAt K mg "check_order" s_check_order ["first", "last"]) (M : Mods mg) : DefOk P w K mg base 1 "check_order" (sp_check_order K) := by
  refine D.ok sc_check_order (fun a => rfl) fun c a h cal _ hp => ?_
  obtain ⟨f, l⟩ := a
  walk_at "facts check_order"
  have hle : f ≤ l := hp
  show SsX c _ [.sh (.int f), .sh (.int l)] _
  walk_at "xfalse"
  · exact decide_eq_false (by omega)
  rfl
theorem ok_cut (D : DefAt K mg "cut" s_cut ["closed", "first", "last"]) (M : Mods mg) (G : DefOk P w K mg base 1 "check_order" (sp_check_order K)) : DefOk P w K mg base 2 "cut" (sp_cut K) := by
  refine D.ok sc_cut (fun a => rfl) fun c a h cal _ hp => ?_
  obtain ⟨cl, f, l⟩ := a
  walk_at "facts cut"
  have f1 := h.fnx (cal G (by decide)) rfl
  have hcl : Cl cl := hp.cl
  have hle : f ≤ l := hp.le
  have hlen : cl.length < 100000 := hp.len
  show SsX c _ [.sh (clD cl), .sh (.int f), .sh (.int l), .no, .no] _
  walk_at "xexpr"
  intro _
  refine x_one (x_retE (e_tupleL (by assumption) (OX.ex (o_lcF (own := [("begin", 3), ("end", 4)]) (ds := cl.map st) false (fun n => (cutL (cl.take n) f l).map st) h ⟨rfl, by decide +kernel, by decide, by decide +kernel, by decide +kernel⟩ (by walk_at "ex") rfl (fun n _ => ?_) ?_))) ?_)
  · rw [List.length_map]
    exact Nat.lt_of_le_of_lt (cutL_len _ _ _) (Nat.lt_of_le_of_lt (List.length_take_le' _ _) hlen)
  · intro cb hb n d hd
    obtain ⟨p, hpn, rfl⟩ := get_map hd
    walk_at "blk cut"
    refine LcT.mkIf (by walk_at "g") (by decide) (by walk_at "tx") (fun hT => by walk_at "ex") ?h1 ?h2
    case h1 =>
      intro hT
      rw [take_next hpn, cutL_app, List.map_append]
      congr 1
      unfold cutL
      rw [List.filter_cons_of_pos (by exact hT)]
      rfl
    case h2 =>
      intro hF
      rw [take_next hpn, cutL_app, List.map_append]
      have e : cutL [p] f l = [] := by
        unfold cutL
        rw [List.filter_cons_of_neg (by intro z; rw [z] at hF; cases hF)]
        rfl
      rw [e, List.map_nil, List.append_nil]
  · show PyData.tuple _ = PyData.tuple _
    rw [List.length_map, List.take_length]
theorem ok_count_open (D : DefAt K mg "count_open" s_count_open ["closed", "first", "behind"]) (M : Mods mg) (G : DefOk P w K mg base 2 "cut" (sp_cut K)) : DefOk P w K mg base 3 "count_open" (sp_count_open K) := by
  refine D.ok sc_count_open (fun a => rfl) fun c a h cal _ hp => ?_
  obtain ⟨cl, f, b⟩ := a
  walk_at "facts count_open"
  have f1 := h.fnx (cal G (by decide)) rfl
  have hcl : Cl cl := hp.cl
  have hlen : cl.length < 100000 := hp.len
  show SsX c _ [.sh (clD cl), .sh (.int f), .sh (.int b), .no, .no, .no] _
  walk_at "xif"
  · intro hT
    have hb : b ≤ f := of_decide_eq_true hT
    refine x_one (x_retE (by walk_at "ex") ?_)
    show PyData.int 0 = PyData.int (countO cl f b)
    unfold countO
    rw [if_pos hb]
  · intro hF
    have hb : ¬ b ≤ f := of_decide_eq_false hF
    have k1 : CutOk (cl, f, b - 1) := ⟨hcl, by show f ≤ b - 1; omega, hlen⟩
    refine x_nil ?_
    walk_at "xasg"
    have hc9 := Nat.lt_of_le_of_lt (cutL_len cl f (b - 1)) hlen
    refine x_one (x_retE (e_bin (by walk_at "ex") (e_bltA (by assumption) (ap_cons (OX.px (o_lcF (own := [("begin", 4), ("end", 5)]) (ds := (cutL cl f (b - 1)).map st) false (fun n => (((cutL cl f (b - 1)).take n).map fun p => p.2 - p.1 + 1).map PyData.int) h ⟨rfl, by decide +kernel, by decide, by decide +kernel, by decide +kernel⟩ (by walk_at "ex") rfl (fun n _ => ?_) ?_)) ap_nil) (f_sum h.calm _ rfl) rfl) b_sub) ?_)
    · rw [List.length_map, List.length_map]
      exact Nat.lt_of_le_of_lt (List.length_take_le' _ _) hc9
    · intro cb hb n d hd
      obtain ⟨p, hpn, rfl⟩ := get_map hd
      walk_at "blk count_open"
      refine LcT.mk1 (by walk_at "g") (by decide) (by walk_at "ex") ?h1
      case h1 =>
        rw [take_next hpn, List.map_append, List.map_append]
        rfl
    · show PyData.int _ = PyData.int (countO cl f b)
      rw [List.length_map, List.take_length, cutL_sum hcl.ord (by omega)]
      unfold countO opn
      rw [if_neg hb]
      congr 1
      omega
end

/-! ### the law's numbers -/
abbrev intsD (ns : List Int) : PyData := .list (ns.map .int)
@[reducible] def a_stream (ns : List Int) : List PyData := [intsD ns]
def r_stream (_ : List Int) (d : PyData) : Prop := ∃ ms : List Int, d = intsD ms ∧ ms ≠ [] ∧ ms.length ≤ 10000
abbrev sp_stream (K : PySem.W.Frag) : Sp := spX K a_stream (fun ns => ns.length ≤ 63) r_stream NoX
theorem ints_app (ms : List Int) (z : Int) : ms.map PyData.int ++ [.int z] = (ms ++ [z]).map PyData.int := by rw [List.map_append]; rfl
section
variable {P : Program} {w : World} {K : PySem.W.Frag} {mg : Str → Option Value} {base : Heap}
set_option maxHeartbeats 8000000 in
theorem ok__law_stream (D : DefAt K mg "_law_stream" s__law_stream ["script"]) (M : Mods mg) : DefOk P w K mg base 1 "_law_stream" (sp_stream K) := by
  refine D.ok sc__law_stream (fun a => rfl) fun c ns h cal _ hp => ?_
  walk_at "facts _law_stream"
  have hp' : ns.length ≤ 63 := hp
  show SsX c _ [.sh (intsD ns), .no, .no, .no, .no, .no] _
  walk_at "xown"
  have hcut : cutG (ns.map PyData.int) none (some 63) = ns.map PyData.int := by
    unfold cutG
    rw [show HT.sIx (ns.map PyData.int).length 0 none = 0 from rfl, show HT.sIx (ns.map PyData.int).length (ns.map PyData.int).length (some 63) = min 63 (ns.map PyData.int).length from HT.sIx_nat _ _ 63]
    rw [List.drop_zero, Nat.sub_zero, List.length_map, Nat.min_eq_right hp']
    exact List.take_of_length_le (by rw [List.length_map]; exact Nat.le_refl _)
  refine x_cons (x_for true (fun i δ => ∃ (ms : List Int) (e2 e3 e4 e5 : En), δ = [.sh (intsD ns), .ow (ms.map .int), e2, e3, e4, e5] ∧ ms.length ≤ 60 * i) (ds := ns.map .int) (EX.is (by walk_at "ex") (by rw [hcut]; rfl)) h.calm ⟨[], .no, .no, .no, .no, rfl, by simp⟩ ?_ ?_)
  · rintro n d δ1 hd ⟨ms, e2, e3, e4, e5, rfl, hl⟩
    obtain ⟨z, hz, rfl⟩ := get_map hd
    have hn : n < 63 := by have := (List.getElem?_eq_some_iff.mp hz).1; omega
    refine ⟨_, _, g_nameL (by assumption), ?_⟩
    dsimp only [List.set]
    walk_at "xasg"
    walk_at "xif"
    · intro _
      refine x_one (x_forR1 (fun k δ => ∃ (ms' : List Int) (r : Int) (e4 e5 : En), δ = [.sh (intsD ns), .ow (ms'.map .int), .sh (.int z), .sh (.int r), e4, e5] ∧ ms'.length ≤ 60 * n + k) e_int h.calm (BltA.g (by assumption)) (BltA.m (v := .type "range") (by assumption)) ⟨ms, z, e4, e5, rfl, by omega⟩ ?_ ?_)
      · rintro k δ1 hk ⟨ms', r, e4, e5, rfl, hl'⟩
        refine ⟨_, _, g_nameL (by assumption), ?_⟩
        dsimp only [List.set]
        walk_at "xapp"
        walk_at "xasg"
        walk_at "xif"
        · intro _
          refine x_one (x_brk ?_)
          exact ⟨ms' ++ [r % 1009], _, _, _, _, by rw [ints_app], by rw [List.length_append, List.length_cons, List.length_nil]; omega⟩
        · intro _
          refine x_nil ?_
          exact ⟨ms' ++ [r % 1009], _, _, _, by rw [ints_app], by rw [List.length_append, List.length_cons, List.length_nil]; omega⟩
      · rintro δ1 ⟨ms', r, e4, e5, rfl, hl'⟩
        exact ⟨ms', _, _, _, _, rfl, by have : (60 : Int).toNat = 60 := rfl; omega⟩
    · intro _
      walk_at "xasg"
      refine x_one (x_forR1 (fun k δ => ∃ (ms' : List Int) (m : Int) (e4 : En), δ = [.sh (intsD ns), .ow (ms'.map .int), .sh (.int z), .sh (.int z), e4, .sh (.int m)] ∧ ms'.length ≤ 60 * n + k) e_int h.calm (BltA.g (by assumption)) (BltA.m (v := .type "range") (by assumption)) ⟨ms, _, e4, rfl, by omega⟩ ?_ ?_)
      · rintro k δ1 hk ⟨ms', m, e4, rfl, hl'⟩
        refine ⟨_, _, g_nameL (by assumption), ?_⟩
        dsimp only [List.set]
        walk_at "xasg"
        walk_at "xapp"
        exact ⟨ms' ++ [_], _, _, by rw [ints_app], by rw [List.length_append, List.length_cons, List.length_nil]; omega⟩
      · rintro δ1 ⟨ms', m, e4, rfl, hl'⟩
        exact ⟨ms', _, _, _, _, rfl, by have : (10 : Int).toNat = 10 := rfl; omega⟩
  · rintro δ1 ⟨ms, e2, e3, e4, e5, rfl, hl⟩
    rw [List.length_map] at hl
    walk_at "xif"
    · intro _
      walk_at "xapp"
      refine x_frz 1 _ rfl ?_
      refine x_one (x_retE (by walk_at "ex") ?_)
      exact ⟨ms ++ [0], by rw [ints_app], by simp, by rw [List.length_append, List.length_cons, List.length_nil]; omega⟩
    · intro hF
      refine x_nil ?_
      refine x_frz 1 _ rfl ?_
      refine x_one (x_retE (by walk_at "ex") ?_)
      refine ⟨ms, rfl, fun e => ?_, by omega⟩
      subst e
      cases hF
end

/-! ### _law_pick -/
def pk (ns : List Int) (i many : Int) : Int := (ns.getD (i % ns.length).toNat 0) % many
theorem pk_lt (ns : List Int) (i : Int) {many : Int} (h : 0 < many) : 0 ≤ pk ns i many ∧ pk ns i many < many := ⟨Int.emod_nonneg _ (by omega), Int.emod_lt_of_pos _ h⟩
@[reducible] def a_pick (a : List Int × Int × Int) : List PyData := [intsD a.1, .int a.2.1, .int a.2.2]
structure PkOk (a : List Int × Int × Int) : Prop where
  ne : a.1 ≠ []
  pos : 0 < a.2.2
abbrev sp_pick (K : PySem.W.Frag) : Sp := spX K a_pick PkOk (fun a d => d = .int (pk a.1 a.2.1 a.2.2)) NoX
section
variable {P : Program} {w : World} {K : PySem.W.Frag} {mg : Str → Option Value} {base : Heap}
theorem ok__law_pick (D : DefAt K mg "_law_pick" s__law_pick ["numbers", "at", "many"]) (M : Mods mg) : DefOk P w K mg base 1 "_law_pick" (sp_pick K) := by
  refine D.ok sc__law_pick (fun a => rfl) fun c a h cal _ hp => ?_
  obtain ⟨ns, i, many⟩ := a
  walk_at "facts _law_pick"
  have hne : ns ≠ [] := hp.ne
  have hm : 0 < many := hp.pos
  have hl : 0 < ns.length := List.length_pos_iff.mpr hne
  have hlm : ((ns.map PyData.int).length : Int) = ns.length := by rw [List.length_map]
  obtain ⟨j, hj⟩ : ∃ j : Nat, i % (ns.length : Int) = j := ⟨(i % (ns.length : Int)).toNat, by rw [Int.toNat_of_nonneg (Int.emod_nonneg _ (by omega))]⟩
  have hjl : j < ns.length := by have := Int.emod_lt_of_pos i (show (0 : Int) < ns.length by omega); omega
  obtain ⟨z, hz⟩ := get_of hjl
  have hat : atI (ns.map PyData.int) (i % ((ns.map PyData.int).length : Int)) = some (.int z) := by rw [hlm, hj]; exact at_map (f := PyData.int) hz
  show SsX c _ [.sh (intsD ns), .sh (.int i), .sh (.int many)] _
  refine x_one (x_retE (by walk_at "ex") ?_)
  show PyData.int _ = PyData.int _
  unfold pk
  rw [hj, Int.toNat_natCast, List.getD_eq_getElem?_getD, hz]
  rfl
end

/-! ### _law_closed with a scale, _law_day -/
@[reducible] def a_closed (a : List Int × Int × Int) : List PyData := [intsD a.1, .int a.2.1, .int a.2.2]
structure ClsOk (a : List Int × Int × Int) : Prop where
  ne : a.1 ≠ []
  pos : 0 < a.2.2
abbrev sp_closed (K : PySem.W.Frag) : Sp := spX K a_closed ClsOk (fun a d => ∃ cl, d = clD cl ∧ Cl cl ∧ cl.length ≤ 7) NoX
theorem st_app (cl : List (Int × Int)) (a b : Int) : cl.map st ++ [.tuple [.int a, .int b]] = (cl ++ [(a, b)]).map st := by rw [List.map_append]; rfl
theorem Cl.app {cl : List (Int × Int)} (h : Cl cl) {a b : Int} (hab : a ≤ b) (hq : ∀ p ∈ cl, p.2 + 2 ≤ a) : Cl (cl ++ [(a, b)]) := by
  refine ⟨List.pairwise_append.mpr ⟨h.gap, List.pairwise_singleton _ _, fun p hp q hq' => ?_⟩, fun p hp => ?_⟩
  · rw [List.mem_singleton] at hq'
    subst hq'
    exact hq p hp
  · rcases List.mem_append.mp hp with z | z
    · exact h.ord p z
    · rw [List.mem_singleton] at z
      subst z
      exact hab
def lawDay (cl : List (Int × Int)) (ns : List Int) (i s : Int) : Int :=
  (if 0 < cl.length ∧ 0 < pk ns (i + 1) 4 then (if pk ns (i + 3) 2 = 0 then (cl.getD (pk ns (i + 2) cl.length).toNat (0, 0)).1 else (cl.getD (pk ns (i + 2) cl.length).toNat (0, 0)).2) else (pk ns i 60 - 20) * s) + pk ns (i + 4) 7 - 3
@[reducible] def a_lday (a : List (Int × Int) × List Int × Int × Int) : List PyData := [clD a.1, intsD a.2.1, .int a.2.2.1, .int a.2.2.2]
abbrev sp_lday (K : PySem.W.Frag) : Sp := spX K a_lday (fun a => a.2.1 ≠ []) (fun a d => d = .int (lawDay a.1 a.2.1 a.2.2.1 a.2.2.2)) NoX
section
variable {P : Program} {w : World} {K : PySem.W.Frag} {mg : Str → Option Value} {base : Heap}
theorem ok__law_closed (D : DefAt K mg "_law_closed" s__law_closed ["numbers", "at", "scale"]) (M : Mods mg) (G : DefOk P w K mg base 1 "_law_pick" (sp_pick K)) : DefOk P w K mg base 2 "_law_closed" (sp_closed K) := by
  refine D.ok sc__law_closed (fun a => rfl) fun c a h cal _ hp => ?_
  obtain ⟨ns, i, s⟩ := a
  walk_at "facts _law_closed"
  have f1 := h.fnx (cal G (by decide)) rfl
  have hne : ns ≠ [] := hp.ne
  have hs0 : 0 < s := hp.pos
  have k31 : PkOk (ns, i, 31) := ⟨hne, by simp⟩
  have k8 : PkOk (ns, i + 1, 8) := ⟨hne, by simp⟩
  have k9 : ∀ j : Int, PkOk (ns, j, 9) := fun j => ⟨hne, by simp⟩
  have k7 : ∀ j : Int, PkOk (ns, j, 7) := fun j => ⟨hne, by simp⟩
  have p31 := pk_lt ns i (many := 31) (by decide)
  have p8 := pk_lt ns (i + 1) (many := 8) (by decide)
  show SsX c _ [.sh (intsD ns), .sh (.int i), .sh (.int s), .no, .no, .no, .no] _
  walk_at "xown"
  walk_at "xasg"
  refine x_cons (x_forR1 (fun k δ => ∃ (cl : List (Int × Int)) (day : Int) (e5 e6 : En), δ = [.sh (intsD ns), .sh (.int i), .sh (.int s), .ow (cl.map st), .sh (.int day), e5, e6] ∧ Cl cl ∧ (∀ p ∈ cl, p.2 + 2 ≤ day) ∧ cl.length = k)
    (by walk_at "ex") h.calm (BltA.g (by assumption)) (BltA.m (v := .type "range") (by assumption)) ⟨[], _, _, _, rfl, ⟨List.Pairwise.nil, by simp⟩, by simp, rfl⟩ ?_ ?_)
  · rintro k δ1 hk ⟨cl, day, e5, e6, rfl, hs, hb, h3⟩
    have hk7 : k < 7 := by have : ((k : Int)) < pk ns (i + 1) 8 := hk; omega
    have p9 := pk_lt ns (i + 2 + 2 * (k : Int)) (many := 9) (by decide)
    have p7 := pk_lt ns (i + 3 + 2 * (k : Int)) (many := 7) (by decide)
    have k9' := k9 (i + 2 + 2 * (k : Int))
    have k7' := k7 (i + 3 + 2 * (k : Int))
    have m9 := Int.mul_nonneg p9.1 (Int.le_of_lt hs0)
    have m7 := Int.mul_nonneg p7.1 (Int.le_of_lt hs0)
    refine ⟨_, _, g_nameL (by assumption), ?_⟩
    dsimp only [List.set]
    walk_at "xasg"
    walk_at "xapp"
    walk_at "xasg"
    refine ⟨cl ++ [(day, day + pk ns (i + 2 + 2 * (k : Int)) 9 * s)], _, _, _, by rw [st_app], hs.app (by omega) hb, fun p hp => ?_, by rw [List.length_append, h3]; rfl⟩
    rcases List.mem_append.mp hp with z | z
    · have := hb p z; omega
    · rw [List.mem_singleton] at z
      subst z
      show _ ≤ _
      dsimp only
      omega
  · rintro δ1 ⟨cl, day, e5, e6, rfl, hs, hb, h3⟩
    refine x_frz 3 _ rfl ?_
    refine x_one (x_retE (by walk_at "ex") ?_)
    have h3' : cl.length = (pk ns (i + 1) 8).toNat := h3
    exact ⟨cl, rfl, hs, by show cl.length ≤ 7; omega⟩
theorem ok__law_day (D : DefAt K mg "_law_day" s__law_day ["closed", "numbers", "at", "scale"]) (M : Mods mg) (G : DefOk P w K mg base 1 "_law_pick" (sp_pick K)) : DefOk P w K mg base 2 "_law_day" (sp_lday K) := by
  refine D.ok sc__law_day (fun a => rfl) fun c a h cal _ hp => ?_
  obtain ⟨cl, ns, i, s⟩ := a
  walk_at "facts _law_day"
  have f1 := h.fnx (cal G (by decide)) rfl
  have hne : ns ≠ [] := hp
  have hlm : ((cl.map st).length : Int) = cl.length := by rw [List.length_map]
  have k60 : PkOk (ns, i, 60) := ⟨hne, by simp⟩
  have k4 : PkOk (ns, i + 1, 4) := ⟨hne, by simp⟩
  have k2 : PkOk (ns, i + 3, 2) := ⟨hne, by simp⟩
  have k7 : PkOk (ns, i + 4, 7) := ⟨hne, by simp⟩
  have p60 := pk_lt ns i (many := 60) (by decide)
  have p2 := pk_lt ns (i + 3) (many := 2) (by decide)
  show SsX c _ [.sh (clD cl), .sh (intsD ns), .sh (.int i), .sh (.int s), .no, .no] _
  walk_at "xasg"
  refine x_cut (fun δ => ∃ (day : Int) (e5 : En), δ = [.sh (clD cl), .sh (intsD ns), .sh (.int i), .sh (.int s), .sh (.int day), e5] ∧ day + pk ns (i + 4) 7 - 3 = lawDay cl ns i s) ?_ ?_
  · walk_at "if"
    · intro hT
      simp only [Bool.and_eq_true, decide_eq_true_eq] at hT
      have hpos : 0 < cl.length := by omega
      have kl : PkOk (ns, i + 2, ((cl.map st).length : Int)) := ⟨hne, by show (0 : Int) < ((cl.map st).length : Int); omega⟩
      have pl := pk_lt ns (i + 2) (many := ((cl.map st).length : Int)) (by omega)
      obtain ⟨j, hj⟩ : ∃ j : Nat, pk ns (i + 2) ((cl.map st).length : Int) = j := ⟨(pk ns (i + 2) ((cl.map st).length : Int)).toNat, by omega⟩
      obtain ⟨p, hpn⟩ := get_of (l := cl) (n := j) (by omega)
      have hat : atI (cl.map st) (pk ns (i + 2) ((cl.map st).length : Int)) = some (st p) := by rw [hj]; exact at_map hpn
      have hat2 : atI [PyData.int p.1, .int p.2] (pk ns (i + 3) 2) = some (.int (if pk ns (i + 3) 2 = 0 then p.1 else p.2)) := by
        have : pk ns (i + 3) 2 = 0 ∨ pk ns (i + 3) 2 = 1 := by omega
        rcases this with e | e <;> rw [e] <;> rfl
      walk_at "xasg"
      walk_at "xasg"
      refine ⟨_, _, rfl, ?_⟩
      unfold lawDay
      rw [if_pos (c := 0 < cl.length ∧ 0 < pk ns (i + 1) 4) ⟨hpos, hT.2⟩, ← hlm, hj, Int.toNat_natCast, List.getD_eq_getElem?_getD, hpn]
      rfl
    · intro hF
      refine x_nil ⟨_, _, rfl, ?_⟩
      unfold lawDay
      rw [if_neg fun z => ?_]
      have : (decide (0 < ((cl.map st).length : Int)) && decide (0 < pk ns (i + 1) 4)) = true := by simp only [Bool.and_eq_true, decide_eq_true_eq]; exact ⟨by omega, z.2⟩
      rw [this] at hF
      cases hF
  · rintro δ' ⟨day, e5, rfl, he⟩
    refine x_one (x_retE (by walk_at "ex") ?_)
    show PyData.int _ = PyData.int _
    rw [he]
end

/-! ### _law_pair, _law_steps, the law -/
theorem nth_n1 {cl : List (Int × Int)} (h : Cl cl) (day : Int) : nthO cl day 1 = nextO cl (day + 1) := by
  have a := nth_is h day (n := 1) (by decide)
  have b := next_is h (day + 1)
  refine opn_inj h a.op b.op ?_
  rw [a.eq, b.eq, if_pos (by decide)]; omega
theorem nth_p1 {cl : List (Int × Int)} (h : Cl cl) (day : Int) : nthO cl day (0 - 1) = prevO cl (day - 1) := by
  have a := nth_is h day (n := 0 - 1) (by decide)
  have b := prev_is h (day - 1)
  refine opn_inj h a.op b.op ?_
  rw [a.eq, b.eq, if_neg (by decide), show day - 1 + 1 = day by omega]; omega
theorem nth_up {cl : List (Int × Int)} (h : Cl cl) (day : Int) {m n : Int} (hm : 0 < m) (hn : 0 < n) : nthO cl (nthO cl day m) n = nthO cl day (m + n) := by
  have a := nth_is h day (n := m) (by omega)
  have b := nth_is h (nthO cl day m) (n := n) (by omega)
  have d := nth_is h day (n := m + n) (by omega)
  refine opn_inj h b.op d.op ?_
  rw [b.eq, d.eq, if_pos hn, if_pos (by omega), opn_open h a.op, a.eq, if_pos hm]; omega
theorem nth_dn {cl : List (Int × Int)} (h : Cl cl) (day : Int) {m n : Int} (hm : 0 < m) (hn : 0 < n) : nthO cl (nthO cl day (0 - m)) (0 - n) = nthO cl day (0 - m - n) := by
  have a := nth_is h day (n := 0 - m) (by omega)
  have b := nth_is h (nthO cl day (0 - m)) (n := 0 - n) (by omega)
  have d := nth_is h day (n := 0 - m - n) (by omega)
  refine opn_inj h b.op d.op ?_
  rw [b.eq, d.eq, if_neg (by omega), if_neg (by omega), a.eq, if_neg (by omega)]; omega
theorem nth_back {cl : List (Int × Int)} (h : Cl cl) (day : Int) {n : Int} (hn : 0 < n) : nthO cl (nthO cl day n) (0 - n) = prevO cl day := by
  have a := nth_is h day (n := n) (by omega)
  have b := nth_is h (nthO cl day n) (n := 0 - n) (by omega)
  have d := prev_is h day
  refine opn_inj h b.op d.op ?_
  rw [b.eq, d.eq, if_neg (by omega), a.eq, if_pos hn]; omega
theorem nth_forth {cl : List (Int × Int)} (h : Cl cl) (day : Int) {n : Int} (hn : 0 < n) : nthO cl (nthO cl day (0 - n)) n = nextO cl day := by
  have a := nth_is h day (n := 0 - n) (by omega)
  have b := nth_is h (nthO cl day (0 - n)) (n := n) (by omega)
  have d := next_is h day
  refine opn_inj h b.op d.op ?_
  rw [b.eq, d.eq, if_pos hn, opn_open h a.op, a.eq, if_neg (by omega)]; omega
theorem next_prev {cl : List (Int × Int)} (h : Cl cl) (p q : Int) : nextO cl p ≤ q ↔ p ≤ prevO cl q := by
  have a := next_is h p
  have b := prev_is h q
  have h1 := opn_lt h a.op (q + 1)
  have h2 := opn_lt h b.op p
  have h3 := a.eq
  have h4 := b.eq
  omega
theorem next_mono {cl : List (Int × Int)} (h : Cl cl) {p q : Int} (hpq : p ≤ q) : nextO cl p ≤ nextO cl q := by
  have a := next_is h p
  have b := next_is h q
  have h2 := opn_lt h b.op (nextO cl p)
  have h3 := a.eq
  have h4 := b.eq
  have := opn_mono h hpq
  omega
theorem prev_mono {cl : List (Int × Int)} (h : Cl cl) {p q : Int} (hpq : p ≤ q) : prevO cl p ≤ prevO cl q := by
  have a := prev_is h p
  have b := prev_is h q
  have h2 := opn_lt h b.op (prevO cl p)
  have h3 := a.eq
  have h4 := b.eq
  have := opn_mono h (show p + 1 ≤ q + 1 by omega)
  omega
theorem next_of_open {cl : List (Int × Int)} {d : Int} (o : IsO cl d) : nextO cl d = d := by unfold nextO; rw [isO_iff.mp o]
theorem prev_of_open {cl : List (Int × Int)} {d : Int} (o : IsO cl d) : prevO cl d = d := by unfold prevO; rw [isO_iff.mp o]
structure StpOk (a : List (Int × Int) × Int × Int × Int) : Prop where
  cl : Cl a.1
  len : a.1.length ≤ 100000
  m : 0 < a.2.2.1
  n : 0 < a.2.2.2
@[reducible] def a_steps (a : List (Int × Int) × Int × Int × Int) : List PyData := [clD a.1, .int a.2.1, .int a.2.2.1, .int a.2.2.2]
abbrev sp_pair (K : PySem.W.Frag) : Sp := spX K a_nth (fun a => Cl a.1) (fun _ d => d = .bool true) NoX
abbrev sp_steps (K : PySem.W.Frag) : Sp := spX K a_steps StpOk (fun _ d => d = .bool true) NoX
abbrev sp_law (K : PySem.W.Frag) : Sp := spX K a_stream (fun ns => ns.length ≤ 63) (fun _ d => d = .bool true) NoX
theorem ne_false {a b : Int} (h : a = b) : (!decide (a = b)) = false := by rw [decide_eq_true h]; rfl
theorem srt3 (a b d : Int) : ∃ x y z, srt [a, b, d] = [x, y, z] ∧ x ≤ y ∧ y ≤ z := by
  have hp := srt_pw [a, b, d]
  have hl : (srt [a, b, d]).length = 3 := (srt_perm [a, b, d]).length_eq
  match h : srt [a, b, d], hl with
  | [x, y, z], _ =>
    rw [h] at hp
    simp only [List.pairwise_cons, List.mem_cons, List.not_mem_nil, or_false] at hp
    exact ⟨x, y, z, rfl, hp.1 y (.inl rfl), hp.2.1 z rfl⟩
section
variable {P : Program} {w : World} {K : PySem.W.Frag} {mg : Str → Option Value} {base : Heap}
theorem ok__law_pair (D : DefAt K mg "_law_pair" s__law_pair ["closed", "p", "q"]) (M : Mods mg) (G1 : DefOk P w K mg base 3 "is_open" (sp_is_open K)) (G2 : DefOk P w K mg base 3 "next_open" (sp_next_open K)) (G3 : DefOk P w K mg base 3 "prev_open" (sp_prev_open K)) : DefOk P w K mg base 4 "_law_pair" (sp_pair K) := by
  refine D.ok sc__law_pair (fun a => rfl) fun c a h cal _ hp => ?_
  obtain ⟨cl, p, q⟩ := a
  walk_at "facts _law_pair"
  have f1 := h.fnx (cal G1 (by decide)) rfl
  have f2 := h.fnx (cal G2 (by decide)) rfl
  have f3 := h.fnx (cal G3 (by decide)) rfl
  have hcl : Cl cl := hp
  have n1 := next_is hcl p
  have n2 := prev_is hcl q
  show SsX c _ [.sh (clD cl), .sh (.int p), .sh (.int q), .no, .no] _
  walk_at "xasg"
  walk_at "xasg"
  walk_at "xfalse"
  · rw [eqv_bool]
    have : decide (nextO cl p ≤ q) = decide (p ≤ prevO cl q) := by rw [decide_eq_decide]; exact next_prev hcl p q
    rw [this]; simp
  walk_at "xfalse"
  · by_cases hpq : p ≤ q
    · have h1 := next_mono hcl hpq
      have h2 := prev_mono hcl hpq
      simp [hpq, h1, h2]
    · simp [hpq]
  walk_at "xfalse"
  · have a1 := isO_iff.mp n1.op
    have a2 := isO_iff.mp n2.op
    show (decide (nextO cl p < p) || (decide (q < prevO cl q) || (!isNo (optD (shut cl (nextO cl p))) || !isNo (optD (shut cl (prevO cl q)))))) = false
    rw [a1, a2]
    have h1 := n1.le
    have h2 := n2.le
    simp [isNo]
    exact ⟨h1, h2⟩
  refine x_one (x_retE (by walk_at "ex") ?_)
  show PyData.bool _ = PyData.bool true
  rw [next_of_open n1.op, prev_of_open n1.op]
  simp
theorem ok__law_steps (D : DefAt K mg "_law_steps" s__law_steps ["closed", "day", "m", "n"]) (M : Mods mg) (G1 : DefOk P w K mg base 3 "nth_open" (sp_nth_open K)) (G2 : DefOk P w K mg base 3 "next_open" (sp_next_open K)) (G3 : DefOk P w K mg base 3 "prev_open" (sp_prev_open K)) : DefOk P w K mg base 4 "_law_steps" (sp_steps K) := by
  refine D.ok sc__law_steps (fun a => rfl) fun c a h cal _ hp => ?_
  obtain ⟨cl, day, m, n⟩ := a
  walk_at "facts _law_steps"
  have f1 := h.fnx (cal G1 (by decide)) rfl
  have f2 := h.fnx (cal G2 (by decide)) rfl
  have f3 := h.fnx (cal G3 (by decide)) rfl
  have hcl : Cl cl := hp.cl
  have hlen : cl.length ≤ 100000 := hp.len
  have hm : 0 < m := hp.m
  have hn : 0 < n := hp.n
  have k : ∀ d j : Int, j ≠ 0 → NthOk0 (cl, d, j) := fun d j hj => ⟨hcl, hj, hlen⟩
  have k1 := k day m (by omega)
  have k2 := fun d => k d n (by omega)
  have k2a := k2 day
  have k2b := k2 (nthO cl day m)
  have k3 := k day (m + n) (by omega)
  have k4 := k day (0 - m) (by omega)
  have k5a := k day (0 - n) (by omega)
  have k5b := k (nthO cl day (0 - m)) (0 - n) (by omega)
  have k6 := k day (0 - m - n) (by omega)
  have k7 := k (nthO cl day n) (0 - n) (by omega)
  have k8 := k (nthO cl day (0 - n)) n (by omega)
  have k9 := k day 1 (by omega)
  have k10 := k day (0 - 1) (by omega)
  show SsX c _ [.sh (clD cl), .sh (.int day), .sh (.int m), .sh (.int n)] _
  walk_at "xfalse"
  · exact ne_false (nth_up hcl day hm hn)
  walk_at "xfalse"
  · exact ne_false (nth_dn hcl day hm hn)
  walk_at "xfalse"
  · exact ne_false (nth_back hcl day hn)
  walk_at "xfalse"
  · exact ne_false (nth_forth hcl day hn)
  walk_at "xfalse"
  · exact ne_false (nth_n1 hcl day)
  refine x_one (x_retE (by walk_at "ex") ?_)
  show PyData.bool _ = PyData.bool true
  rw [decide_eq_true (nth_p1 hcl day)]
set_option maxHeartbeats 8000000 in
theorem ok_law {f : Addr} {fd : FuncData} (F : FunD K "law" "law" (defArgs s_law) (defBody s_law) (defScope s_law) [] [] f fd) (M : Mods mg) (G1 : DefOk P w K mg base 1 "_law_stream" (sp_stream K)) (G2 : DefOk P w K mg base 1 "_law_pick" (sp_pick K)) (G3 : DefOk P w K mg base 2 "_law_closed" (sp_closed K)) (G4 : DefOk P w K mg base 2 "_law_day" (sp_lday K))
    (G5 : DefOk P w K mg base 4 "_law_pair" (sp_pair K)) (G6 : DefOk P w K mg base 4 "_law_steps" (sp_steps K)) (G7 : DefOk P w K mg base 3 "count_open" (sp_count_open K)) (G8 : DefOk P w K mg base 3 "is_open" (sp_is_open K)) (G9 : DefOk P w K mg base 3 "next_open" (sp_next_open K)) : FnOk P w K mg base (L2.CX P w) 5 f fd ["script"] (sp_law K) := by
  refine okD F sc_law (fun a => rfl) fun c script h cal _ hp => ?_
  walk_at "facts law"
  have f1 := h.fnx (cal G1 (by decide)) rfl
  have f2 := h.fnx (cal G2 (by decide)) rfl
  have f3 := h.fnx (cal G3 (by decide)) rfl
  have f4 := h.fnx (cal G4 (by decide)) rfl
  have f5 := h.fnx (cal G5 (by decide)) rfl
  have f6 := h.fnx (cal G6 (by decide)) rfl
  have f7 := h.fnx (cal G7 (by decide)) rfl
  have f8 := h.fnx (cal G8 (by decide)) rfl
  have f9 := h.fnx (cal G9 (by decide)) rfl
  have hp' : script.length ≤ 63 := hp
  show SsX c _ [.sh (intsD script), .no, .no, .no, .no, .no, .no, .no, .no] _
  walk_at "xasgc"
  rintro d ⟨ns, rfl, hne, hnl⟩
  dsimp only [List.set]
  have k4 : PkOk (ns, 0, 4) := ⟨hne, by simp⟩
  have k40 : PkOk (ns, 40, 9) := ⟨hne, by simp⟩
  have k41 : PkOk (ns, 41, 9) := ⟨hne, by simp⟩
  have p40 := pk_lt ns 40 (many := 9) (by decide)
  have p41 := pk_lt ns 41 (many := 9) (by decide)
  have e12 : (10 : Int) ^ (12 : Int).toNat = 1000000000000 := by decide
  obtain ⟨s, hs, hs0⟩ : ∃ s : Int, atI [PyData.int 1, .int 1, .int 1, .int (10 ^ (12 : Int).toNat)] (pk ns 0 4) = some (.int s) ∧ 0 < s := by
    have := pk_lt ns 0 (many := 4) (by decide)
    have : pk ns 0 4 = 0 ∨ pk ns 0 4 = 1 ∨ pk ns 0 4 = 2 ∨ pk ns 0 4 = 3 := by omega
    rcases this with e | e | e | e <;> rw [e]
    · exact ⟨_, rfl, by decide⟩
    · exact ⟨_, rfl, by decide⟩
    · exact ⟨_, rfl, by decide⟩
    · exact ⟨_, rfl, by rw [e12]; decide⟩
  walk_at "xasg"
  have kc : ClsOk (ns, 1, s) := ⟨hne, hs0⟩
  walk_at "xasgc"
  rintro d ⟨cl, rfl, hcl, hl7⟩
  dsimp only [List.set]
  walk_at "xown"
  refine x_cons (x_forR1 (fun k δ => ∃ (ds : List Int) (e5 : En), δ = [.sh (intsD script), .sh (intsD ns), .sh (.int s), .sh (clD cl), .ow (ds.map .int), e5, .no, .no, .no] ∧ ds.length = k)
    e_int h.calm (BltA.g (by assumption)) (BltA.m (v := .type "range") (by assumption)) ⟨[], _, rfl, rfl⟩ ?_ ?_)
  · rintro k δ1 hk ⟨ds, e5, rfl, hl⟩
    have hk3 : k < 3 := by omega
    refine ⟨_, _, g_nameL (by assumption), ?_⟩
    dsimp only [List.set]
    walk_at "xapp"
    exact ⟨ds ++ [lawDay cl ns (20 + 5 * (k : Int)) s], _, by rw [List.map_append]; rfl, by rw [List.length_append, hl]; rfl⟩
  rintro δ1 ⟨ds, e5, rfl, hl⟩
  obtain ⟨d0, d1, d2, rfl⟩ : ∃ d0 d1 d2, ds = [d0, d1, d2] := by
    match ds, hl with
    | [a, b, d], _ => exact ⟨a, b, d, rfl⟩
  refine x_frz 4 _ rfl ?_
  refine x_cons (x_forL (fun k δ => ∃ e5 e6 e7 : En, δ = [.sh (intsD script), .sh (intsD ns), .sh (.int s), .sh (clD cl), .sh (intsD [d0, d1, d2]), e5, e6, e7, .no]) (ds := [d0, d1, d2].map .int) (by walk_at "ex") h.calm ⟨_, _, _, rfl⟩ ?_ ?_)
  · rintro n d δ1 hd ⟨e5, e6, e7, rfl⟩
    obtain ⟨p, hp, rfl⟩ := get_map hd
    have ks : StpOk (cl, p, 1 + pk ns 40 9, 1 + pk ns 41 9) := ⟨hcl, by show cl.length ≤ _; omega, by show 0 < 1 + _; omega, by show 0 < 1 + _; omega⟩
    refine ⟨_, _, g_nameL (by assumption), ?_⟩
    dsimp only [List.set]
    refine x_cons (x_forL (fun k δ => ∃ e7 : En, δ = [.sh (intsD script), .sh (intsD ns), .sh (.int s), .sh (clD cl), .sh (intsD [d0, d1, d2]), e5, .sh (.int p), e7, .no]) (ds := [d0, d1, d2].map .int) (by walk_at "ex") h.calm ⟨_, rfl⟩ ?_ ?_)
    · rintro n d δ1 hd ⟨e7, rfl⟩
      obtain ⟨q, hq, rfl⟩ := get_map hd
      refine ⟨_, _, g_nameL (by assumption), ?_⟩
      dsimp only [List.set]
      walk_at "xfalse"
      · rfl
      exact ⟨_, rfl⟩
    · rintro δ1 ⟨e7, rfl⟩
      walk_at "xfalse"
      · rfl
      exact ⟨_, _, _, rfl⟩
  · rintro δ1 ⟨e5, e6, e7, rfl⟩
    obtain ⟨x, y, z, hxyz, hxy, hyz⟩ := srt3 d0 d1 d2
    refine x_cons (x_asgOL (by assumption) (o_sortedI (ns := [d0, d1, d2]) (by assumption) (by walk_at "px")) ?_)
    rw [hxyz]
    dsimp only [List.set, List.map]
    have hc9 : cl.length < 100000 := by omega
    have c01 : CntOk (cl, x, y) := ⟨hcl, hc9⟩
    have c12 : CntOk (cl, y, z) := ⟨hcl, hc9⟩
    have c02 : CntOk (cl, x, z) := ⟨hcl, hc9⟩
    have c20 : CntOk (cl, z, x) := ⟨hcl, hc9⟩
    have c11 : CntOk (cl, y, y + 1) := ⟨hcl, hc9⟩
    have c1n : CntOk (cl, y, nextO cl y) := ⟨hcl, hc9⟩
    walk_at "xasg"
    walk_at "xfalse"
    · have e1 : countO cl x y + countO cl y z = countO cl x z := by
        have o1 : ∀ a b : Int, a ≤ b → countO cl a b = opn cl b - opn cl a := fun a b hab => by
          unfold countO
          by_cases c : b ≤ a
          · have : a = b := by omega
            subst this
            rw [if_pos c]; omega
          · rw [if_neg c]
        rw [o1 x y hxy, o1 y z hyz, o1 x z (by omega)]; omega
      have e2 : countO cl z x = 0 := by unfold countO; rw [if_pos (by omega)]
      rw [e1, e2]
      simp
    walk_at "xif"
    · intro hT
      have ho : IsO cl y := by
        refine isO_iff.mpr ?_
        cases e : shut cl y with
        | none => rfl
        | some p => rw [e] at hT; cases hT
      refine x_one (x_retE (by walk_at "ex") ?_)
      show PyData.bool _ = PyData.bool true
      have e1 : countO cl y (y + 1) = 1 := by
        unfold countO
        rw [if_neg (by omega), opn_open hcl ho]; omega
      rw [e1]; rfl
    · intro hF
      refine x_nil ?_
      refine x_one (x_retE (by walk_at "ex") ?_)
      show PyData.bool _ = PyData.bool true
      have hn := next_is hcl y
      have e1 : countO cl y (nextO cl y) = 0 := by
        unfold countO
        split
        · rfl
        · rw [hn.eq]; omega
      rw [e1]; rfl
end

end Prf

namespace Prf
def d_check_order : He.DefD := ⟨("check_order", none), "check_order", "check_order", defArgs s_check_order, defBody s_check_order, defScope s_check_order, [], []⟩
def d_place_of : He.DefD := ⟨("place_of", none), "place_of", "place_of", defArgs s_place_of, defBody s_place_of, defScope s_place_of, [], []⟩
def d_stretch_at : He.DefD := ⟨("stretch_at", none), "stretch_at", "stretch_at", defArgs s_stretch_at, defBody s_stretch_at, defScope s_stretch_at, [], []⟩
def d_is_open : He.DefD := ⟨("is_open", none), "is_open", "is_open", defArgs s_is_open, defBody s_is_open, defScope s_is_open, [], []⟩
def d_next_open : He.DefD := ⟨("next_open", none), "next_open", "next_open", defArgs s_next_open, defBody s_next_open, defScope s_next_open, [], []⟩
def d_prev_open : He.DefD := ⟨("prev_open", none), "prev_open", "prev_open", defArgs s_prev_open, defBody s_prev_open, defScope s_prev_open, [], []⟩
def d_open_behind : He.DefD := ⟨("open_behind", none), "open_behind", "open_behind", defArgs s_open_behind, defBody s_open_behind, defScope s_open_behind, [], []⟩
def d_open_before : He.DefD := ⟨("open_before", none), "open_before", "open_before", defArgs s_open_before, defBody s_open_before, defScope s_open_before, [], []⟩
def d_nth_open : He.DefD := ⟨("nth_open", none), "nth_open", "nth_open", defArgs s_nth_open, defBody s_nth_open, defScope s_nth_open, [], []⟩
def d_count_open : He.DefD := ⟨("count_open", none), "count_open", "count_open", defArgs s_count_open, defBody s_count_open, defScope s_count_open, [], []⟩
def d_cut : He.DefD := ⟨("cut", none), "cut", "cut", defArgs s_cut, defBody s_cut, defScope s_cut, [], []⟩
def d__law_stream : He.DefD := ⟨("_law_stream", none), "_law_stream", "_law_stream", defArgs s__law_stream, defBody s__law_stream, defScope s__law_stream, [], []⟩
def d__law_pick : He.DefD := ⟨("_law_pick", none), "_law_pick", "_law_pick", defArgs s__law_pick, defBody s__law_pick, defScope s__law_pick, [], []⟩
def d__law_closed : He.DefD := ⟨("_law_closed", none), "_law_closed", "_law_closed", defArgs s__law_closed, defBody s__law_closed, defScope s__law_closed, [], []⟩
def d__law_day : He.DefD := ⟨("_law_day", none), "_law_day", "_law_day", defArgs s__law_day, defBody s__law_day, defScope s__law_day, [], []⟩
def d__law_pair : He.DefD := ⟨("_law_pair", none), "_law_pair", "_law_pair", defArgs s__law_pair, defBody s__law_pair, defScope s__law_pair, [], []⟩
def d__law_steps : He.DefD := ⟨("_law_steps", none), "_law_steps", "_law_steps", defArgs s__law_steps, defBody s__law_steps, defScope s__law_steps, [], []⟩
def d_law : He.DefD := ⟨("law", none), "law", "law", defArgs s_law, defBody s_law, defScope s_law, [], []⟩
def fnL : List He.DefD := [d_check_order, d_place_of, d_stretch_at, d_is_open, d_next_open, d_prev_open, d_open_behind, d_open_before, d_nth_open, d_count_open, d_cut, d__law_stream, d__law_pick, d__law_closed, d__law_day, d__law_pair, d__law_steps, d_law]
def faL : List He.Fa := [.glo "check_order", .glo "place_of", .glo "stretch_at", .glo "is_open", .glo "next_open", .glo "prev_open", .glo "open_behind", .glo "open_before", .glo "nth_open", .glo "count_open", .glo "cut", .glo "_law_stream", .glo "_law_pick", .glo "_law_closed", .glo "_law_day", .glo "_law_pair", .glo "_law_steps", .glo "law", .free "int", .free "len", .free "max", .free "min", .free "range", .free "sorted", .free "sum", .free "tuple"]
def fxL : List Fy := []
abbrev RR : PySem.W.OpenRow := PySem.W.OpenLaw.row PySem.Challenge.rw_diesnon_k04_whole_next_and_previous_are
abbrev hk : PySem.W.Hook := hookY 4 faL fxL fnL
def ob (s : PySem.W.SharedT) : AlX := obsY 4 faL fxL fnL (HandSHeadRun.getT s)
theorem ob_eq (s : PySem.W.SharedT) : ob s = hk.obs s.abs := obsY_eq (HandSHeadRun.getT_eq s)
abbrev looseL : List PySem.Str := ["DiesError", "NotAllowed", "check_order", "place_of", "stretch_at", "is_open", "next_open", "prev_open", "open_behind", "open_before", "nth_open", "count_open", "cut", "_law_stream", "_law_pick", "_law_closed", "_law_day", "_law_pair", "_law_steps"]
theorem run (w : World) : HandSHeadRun.RunEq RR (PySem.W.view RR.prog [22]) hk ob 4000 looseL w := by
  intro os
  kernel_rfl
theorem facts {P : Program} {w : World} {K : PySem.W.Frag} {h : Heap} {mg : Str → Option Value} {f : Addr} (X : K.In h) (G : h.Ns mainGlobals mg) (hfa : mg ("law" : Str) = some (.ref f)) (c0 : SaysY faL fxL fnL K) :
    ∃ fd : FuncData, (∀ (s : Shared) (v : Value), BindsTo s fd ⟨[v], []⟩ [("script", v)]) ∧ ∀ base : Heap, K.In base → base.Ns mainGlobals mg → FnOk P w K mg base CX0 5 f fd ["script"] (fun vs H Q _ => sp_law K vs H Q fun _ _ _ => False) := by
  have c := c0.1
  obtain ⟨fd_check_order, F_check_order⟩ := c.def_ 0 (d := d_check_order) rfl
  have D_check_order : DefAt K mg "check_order" s_check_order ["first", "last"] := DefAt.mk' F_check_order (He.glo_ok X G (c.fact 0 (f := .glo "check_order") rfl)) fun _ _ _ _ _ _ us hl => match us, hl with | [_, _], _ => rfl
  obtain ⟨fd_place_of, F_place_of⟩ := c.def_ 1 (d := d_place_of) rfl
  have D_place_of : DefAt K mg "place_of" s_place_of ["closed", "day"] := DefAt.mk' F_place_of (He.glo_ok X G (c.fact 1 (f := .glo "place_of") rfl)) fun _ _ _ _ _ _ us hl => match us, hl with | [_, _], _ => rfl
  obtain ⟨fd_stretch_at, F_stretch_at⟩ := c.def_ 2 (d := d_stretch_at) rfl
  have D_stretch_at : DefAt K mg "stretch_at" s_stretch_at ["closed", "day"] := DefAt.mk' F_stretch_at (He.glo_ok X G (c.fact 2 (f := .glo "stretch_at") rfl)) fun _ _ _ _ _ _ us hl => match us, hl with | [_, _], _ => rfl
  obtain ⟨fd_is_open, F_is_open⟩ := c.def_ 3 (d := d_is_open) rfl
  have D_is_open : DefAt K mg "is_open" s_is_open ["closed", "day"] := DefAt.mk' F_is_open (He.glo_ok X G (c.fact 3 (f := .glo "is_open") rfl)) fun _ _ _ _ _ _ us hl => match us, hl with | [_, _], _ => rfl
  obtain ⟨fd_next_open, F_next_open⟩ := c.def_ 4 (d := d_next_open) rfl
  have D_next_open : DefAt K mg "next_open" s_next_open ["closed", "day"] := DefAt.mk' F_next_open (He.glo_ok X G (c.fact 4 (f := .glo "next_open") rfl)) fun _ _ _ _ _ _ us hl => match us, hl with | [_, _], _ => rfl
  obtain ⟨fd_prev_open, F_prev_open⟩ := c.def_ 5 (d := d_prev_open) rfl
  have D_prev_open : DefAt K mg "prev_open" s_prev_open ["closed", "day"] := DefAt.mk' F_prev_open (He.glo_ok X G (c.fact 5 (f := .glo "prev_open") rfl)) fun _ _ _ _ _ _ us hl => match us, hl with | [_, _], _ => rfl
  obtain ⟨fd_open_behind, F_open_behind⟩ := c.def_ 6 (d := d_open_behind) rfl
  have D_open_behind : DefAt K mg "open_behind" s_open_behind ["closed", "day", "n"] := DefAt.mk' F_open_behind (He.glo_ok X G (c.fact 6 (f := .glo "open_behind") rfl)) fun _ _ _ _ _ _ us hl => match us, hl with | [_, _, _], _ => rfl
  obtain ⟨fd_open_before, F_open_before⟩ := c.def_ 7 (d := d_open_before) rfl
  have D_open_before : DefAt K mg "open_before" s_open_before ["closed", "day", "n"] := DefAt.mk' F_open_before (He.glo_ok X G (c.fact 7 (f := .glo "open_before") rfl)) fun _ _ _ _ _ _ us hl => match us, hl with | [_, _, _], _ => rfl
  obtain ⟨fd_nth_open, F_nth_open⟩ := c.def_ 8 (d := d_nth_open) rfl
  have D_nth_open : DefAt K mg "nth_open" s_nth_open ["closed", "day", "n"] := DefAt.mk' F_nth_open (He.glo_ok X G (c.fact 8 (f := .glo "nth_open") rfl)) fun _ _ _ _ _ _ us hl => match us, hl with | [_, _, _], _ => rfl
  obtain ⟨fd_count_open, F_count_open⟩ := c.def_ 9 (d := d_count_open) rfl
  have D_count_open : DefAt K mg "count_open" s_count_open ["closed", "first", "behind"] := DefAt.mk' F_count_open (He.glo_ok X G (c.fact 9 (f := .glo "count_open") rfl)) fun _ _ _ _ _ _ us hl => match us, hl with | [_, _, _], _ => rfl
  obtain ⟨fd_cut, F_cut⟩ := c.def_ 10 (d := d_cut) rfl
  have D_cut : DefAt K mg "cut" s_cut ["closed", "first", "last"] := DefAt.mk' F_cut (He.glo_ok X G (c.fact 10 (f := .glo "cut") rfl)) fun _ _ _ _ _ _ us hl => match us, hl with | [_, _, _], _ => rfl
  obtain ⟨fd__law_stream, F__law_stream⟩ := c.def_ 11 (d := d__law_stream) rfl
  have D__law_stream : DefAt K mg "_law_stream" s__law_stream ["script"] := DefAt.mk' F__law_stream (He.glo_ok X G (c.fact 11 (f := .glo "_law_stream") rfl)) fun _ _ _ _ _ _ us hl => match us, hl with | [_], _ => rfl
  obtain ⟨fd__law_pick, F__law_pick⟩ := c.def_ 12 (d := d__law_pick) rfl
  have D__law_pick : DefAt K mg "_law_pick" s__law_pick ["numbers", "at", "many"] := DefAt.mk' F__law_pick (He.glo_ok X G (c.fact 12 (f := .glo "_law_pick") rfl)) fun _ _ _ _ _ _ us hl => match us, hl with | [_, _, _], _ => rfl
  obtain ⟨fd__law_closed, F__law_closed⟩ := c.def_ 13 (d := d__law_closed) rfl
  have D__law_closed : DefAt K mg "_law_closed" s__law_closed ["numbers", "at", "scale"] := DefAt.mk' F__law_closed (He.glo_ok X G (c.fact 13 (f := .glo "_law_closed") rfl)) fun _ _ _ _ _ _ us hl => match us, hl with | [_, _, _], _ => rfl
  obtain ⟨fd__law_day, F__law_day⟩ := c.def_ 14 (d := d__law_day) rfl
  have D__law_day : DefAt K mg "_law_day" s__law_day ["closed", "numbers", "at", "scale"] := DefAt.mk' F__law_day (He.glo_ok X G (c.fact 14 (f := .glo "_law_day") rfl)) fun _ _ _ _ _ _ us hl => match us, hl with | [_, _, _, _], _ => rfl
  obtain ⟨fd__law_pair, F__law_pair⟩ := c.def_ 15 (d := d__law_pair) rfl
  have D__law_pair : DefAt K mg "_law_pair" s__law_pair ["closed", "p", "q"] := DefAt.mk' F__law_pair (He.glo_ok X G (c.fact 15 (f := .glo "_law_pair") rfl)) fun _ _ _ _ _ _ us hl => match us, hl with | [_, _, _], _ => rfl
  obtain ⟨fd__law_steps, F__law_steps⟩ := c.def_ 16 (d := d__law_steps) rfl
  have D__law_steps : DefAt K mg "_law_steps" s__law_steps ["closed", "day", "m", "n"] := DefAt.mk' F__law_steps (He.glo_ok X G (c.fact 16 (f := .glo "_law_steps") rfl)) fun _ _ _ _ _ _ us hl => match us, hl with | [_, _, _, _], _ => rfl
  obtain ⟨fd_law, F_law⟩ := c.def_ 17 (d := d_law) rfl
  have D_law : DefAt K mg "law" s_law ["script"] := DefAt.mk' F_law (He.glo_ok X G (c.fact 17 (f := .glo "law") rfl)) fun _ _ _ _ _ _ us hl => match us, hl with | [_], _ => rfl
  have M : Mods mg := ⟨He.free_ok X G (c.fact 18 (f := .free "int") rfl), He.free_ok X G (c.fact 19 (f := .free "len") rfl), He.free_ok X G (c.fact 20 (f := .free "max") rfl), He.free_ok X G (c.fact 21 (f := .free "min") rfl), He.free_ok X G (c.fact 22 (f := .free "range") rfl), He.free_ok X G (c.fact 23 (f := .free "sorted") rfl), He.free_ok X G (c.fact 24 (f := .free "sum") rfl), He.free_ok X G (c.fact 25 (f := .free "tuple") rfl)⟩
  have e := hfa.symm.trans (He.glo_ok X G (c.fact 17 (f := .glo "law") rfl))
  cases e
  have b := FunD.bindsA (ps := ["script"]) F_law fun _ _ _ _ _ _ us hl => match us, hl with | [_], _ => rfl
  refine ⟨fd_law, fun s v => b s [v] rfl, fun base _ _ => ?_⟩
  -- 5 5
  have G1 := ok_place_of (P := P) (w := w) (base := base) D_place_of M
  have G2 := ok_stretch_at D_stretch_at M G1
  have G3 := ok_is_open D_is_open M G2
  have G4 := ok_next_open D_next_open M G2
  have G5 := ok_prev_open D_prev_open M G2
  have G6 := ok_open_behind D_open_behind M G1
  have G7 := ok_open_before D_open_before M G1
  have G8 := ok_nth_open D_nth_open M G6 G7
  have G9 := ok_check_order (P := P) (w := w) (base := base) D_check_order M
  have G10 := ok_cut D_cut M G9
  have G11 := ok_count_open D_count_open M G10
  have L1 := ok__law_stream (P := P) (w := w) (base := base) D__law_stream M
  have L2 := ok__law_pick (P := P) (w := w) (base := base) D__law_pick M
  have L3 := ok__law_closed D__law_closed M L2
  have L4 := ok__law_day D__law_day M L2
  have L5 := ok__law_pair D__law_pair M G3 G4 G5
  have L6 := ok__law_steps D__law_steps M G8 G4 G5
  exact fn_c0 (ok_law F_law M L1 L2 L3 L4 L5 L6 G11 G3 G4)
end Prf
open PySem PySem.W PySem.Calls PyProof.Rows
set_option maxRecDepth 100000 in
set_option maxHeartbeats 8000000 in
theorem PySem.Challenge.cw_diesnon_k04_whole_next_and_previous_are_holds : PySem.Challenge.rw_diesnon_k04_whole_next_and_previous_are.Holds := by
  w_on; o_law
  refine HandSHeadRun.head_any (r := OpenLaw.row PySem.Challenge.rw_diesnon_k04_whole_next_and_previous_are) (q := view (OpenLaw.row PySem.Challenge.rw_diesnon_k04_whole_next_and_previous_are).prog [22]) (H := Prf.hk) (ob := Prf.ob) (M := 4000) (loose := Prf.looseL) (d := HandSHeadRun.topDef (OpenLaw.row PySem.Challenge.rw_diesnon_k04_whole_next_and_previous_are).prog 22) (kwd := []) Prf.ob_eq
    (by kernel_rfl) (fun s => by kernel_rfl) Prf.run (by kernel_rfl) (by kernel_rfl) (by kernel_rfl) (by rfl) (by first | assumption | decide +kernel) (by decide +kernel) ⟨rfl, rfl, rfl, rfl, rfl, by decide +kernel⟩ ?hw ?hc
  case hw => w_witness2
  case hc =>
    refine L2.walk_ofE (l := PySem.Challenge.rw_diesnon_k04_whole_next_and_previous_are) (n := 63) (k := 5) (x := "script") (CX := L2.CX0) rfl (by decide) (by kernel_rfl) ⟨rfl, by decide, by decide⟩ ?F (fun _ _ _ _ z => z)
    intro w mg fa h Y G hmg0
    obtain ⟨K, KX, c⟩ := Y
    have hmg : mg ("law" : PySem.Str) = some (.ref fa) := by
      have e : (HandSHeadRun.topDef (OpenLaw.row PySem.Challenge.rw_diesnon_k04_whole_next_and_previous_are).prog 22).name = ("law" : PySem.Str) := by kernel_rfl
      rw [← e]
      exact hmg0
    obtain ⟨fd, hb, hF⟩ := Prf.facts (P := (PySem.Challenge.rw_diesnon_k04_whole_next_and_previous_are).prog) (w := w) KX G hmg c
    exact ⟨K, fd, (fun vs H Q _ => Prf.sp_law K vs H Q fun _ _ _ => False), KX, hb, fun H a ns hl _ hS => Dy.law_sp hl hS fun _ h => h, hF⟩

