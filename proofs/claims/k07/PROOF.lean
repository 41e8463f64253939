import PyProof.Rows.All
import Wide.All
import OpenK.AllK
import Wide.FinOn
import HandS.Base
import HandS.Call
import HandS.List
import HandS.Comp
import HandS.Evl
import HandS.ForMost
import HandS.Wide
import HandS.IsInst
import HandS.Strs
import HandS.Conv
import HandS.SortInts
import HandS.SortRule
import HandS.More
import HandS.NoneIn
import HandS.Flow
import HandS.AnyAll
import HandS.Sort
import HandS.Style
import HandS.Zip
import HandS.Ends
import HandS.Dict
import PySem.Challenge.RW_turntell_k07_whole_rows_agree
set_option Elab.async false
set_option linter.all false
set_option maxRecDepth 100000
set_option maxHeartbeats 4000000
namespace Dn
open PySem PySem.Spec PyProof.Rows L2
open Evl (Ex)

abbrev D := PyData

/-! ### what stands for what -/
mutual
inductive Rp (K : PySem.W.Frag) (H : Hp) : V → D → Prop
  | non : Rp K H .non .none
  | bl (b : Bool) : Rp K H (.bl b) (.bool b)
  | int (i : Int) : Rp K H (.int i) (.int i)
  | str (x : Str) : Rp K H (.str x) (.str x)
  | lst {a : Addr} {xs : List V} {ds : List D} : SqL K H a xs → RpA K H xs ds → Rp K H (.ref a) (.list ds)
  | tup {a : Addr} {xs : List V} {ds : List D} : H a = some (.tup xs) → RpA K H xs ds → Rp K H (.ref a) (.tuple ds)
  | dic {a : Addr} (kvs : List (Str × Str)) : H a = some (.dK (kvs.map fun q => (Sum.inr q.1, V.str q.2))) → Rp K H (.ref a) (.dict (kvs.map fun q => (.str q.1, .str q.2)))
inductive RpA (K : PySem.W.Frag) (H : Hp) : List V → List D → Prop
  | nil : RpA K H [] []
  | cons {v : V} {vs : List V} {d : D} {ds : List D} : Rp K H v d → RpA K H vs ds → RpA K H (v :: vs) (d :: ds)
end

mutual
theorem Rp.mono {K : PySem.W.Frag} {H H' : Hp} (e : Ex H H') : ∀ (d : D) (v : V), Rp K H v d → Rp K H' v d
  | .none, _, h => by cases h; exact .non
  | .bool b, _, h => by cases h; exact .bl b
  | .int i, _, h => by cases h; exact .int i
  | .str x, _, h => by cases h; exact .str x
  | .list ds, _, h => by
    cases h with
    | lst hs ha => exact .lst (Evl.ex_l e hs) (RpA.mono e ds _ ha)
  | .tuple ds, _, h => by
    cases h with
    | tup hs ha => exact .tup (e _ _ hs) (RpA.mono e ds _ ha)
  | .dict _, _, h => by
    cases h with
    | dic kvs h => exact .dic kvs (e _ _ h)
theorem RpA.mono {K : PySem.W.Frag} {H H' : Hp} (e : Ex H H') : ∀ (ds : List D) (vs : List V), RpA K H vs ds → RpA K H' vs ds
  | [], _, h => by cases h; exact .nil
  | d :: ds, _, h => by
    cases h with
    | cons h1 h2 => exact .cons (Rp.mono e d _ h1) (RpA.mono e ds _ h2)
end
theorem Rp.up {K : PySem.W.Frag} {H H' : Hp} {v : V} {d : D} (h : Rp K H v d) (e : Ex H H') : Rp K H' v d := Rp.mono e _ _ h
theorem RpA.up {K : PySem.W.Frag} {H H' : Hp} {v : List V} {d : List D} (h : RpA K H v d) (e : Ex H H') : RpA K H' v d := RpA.mono e _ _ h
theorem RpA.len {K : PySem.W.Frag} {H : Hp} : ∀ {vs : List V} {ds : List D}, RpA K H vs ds → vs.length = ds.length
  | _, _, .nil => rfl
  | _, _, .cons _ t => congrArg (· + 1) (RpA.len t)
theorem RpA.get {K : PySem.W.Frag} {H : Hp} : ∀ {vs : List V} {ds : List D} {i : Nat} {v : V}, RpA K H vs ds → vs[i]? = some v → ∃ d, ds[i]? = some d ∧ Rp K H v d
  | _, _, _, _, .nil, e => by simp at e
  | _, _, 0, _, .cons r _, e => by simp at e; subst e; exact ⟨_, rfl, r⟩
  | _, _, i + 1, _, .cons _ t, e => by
    obtain ⟨d, h1, h2⟩ := RpA.get (i := i) t (by simpa using e)
    exact ⟨d, by simpa using h1, h2⟩
theorem RpA.getD {K : PySem.W.Frag} {H : Hp} : ∀ {vs : List V} {ds : List D} {i : Nat} {d : D}, RpA K H vs ds → ds[i]? = some d → ∃ v, vs[i]? = some v ∧ Rp K H v d
  | _, _, _, _, .nil, e => by simp at e
  | _, _, 0, _, .cons r _, e => by simp at e; subst e; exact ⟨_, rfl, r⟩
  | _, _, i + 1, _, .cons _ t, e => by
    obtain ⟨d, h1, h2⟩ := RpA.getD (i := i) t (by simpa using e)
    exact ⟨d, by simpa using h1, h2⟩
theorem RpA.app {K : PySem.W.Frag} {H : Hp} : ∀ {vs ws : List V} {ds es : List D}, RpA K H vs ds → RpA K H ws es → RpA K H (vs ++ ws) (ds ++ es)
  | _, _, _, _, .nil, s => s
  | _, _, _, _, .cons r t, s => .cons r (RpA.app t s)
theorem RpA.set {K : PySem.W.Frag} {H : Hp} {v : V} {d : D} (r : Rp K H v d) : ∀ {vs : List V} {ds : List D} (i : Nat), RpA K H vs ds → RpA K H (vs.set i v) (ds.set i d)
  | _, _, _, .nil => .nil
  | _, _, 0, .cons _ t => .cons r t
  | _, _, i + 1, .cons q t => .cons q (RpA.set r i t)
theorem RpA.take {K : PySem.W.Frag} {H : Hp} : ∀ {vs : List V} {ds : List D} (n : Nat), RpA K H vs ds → RpA K H (vs.take n) (ds.take n)
  | _, _, 0, _ => .nil
  | _, _, _ + 1, .nil => .nil
  | _, _, n + 1, .cons r t => .cons r (RpA.take n t)
theorem RpA.drop {K : PySem.W.Frag} {H : Hp} : ∀ {vs : List V} {ds : List D} (n : Nat), RpA K H vs ds → RpA K H (vs.drop n) (ds.drop n)
  | _, _, 0, r => r
  | _, _, _ + 1, .nil => .nil
  | _, _, n + 1, .cons _ t => RpA.drop n t
theorem RpA.rev {K : PySem.W.Frag} {H : Hp} : ∀ {vs : List V} {ds : List D}, RpA K H vs ds → RpA K H vs.reverse ds.reverse
  | _, _, .nil => .nil
  | _, _, .cons r t => by
    rw [List.reverse_cons, List.reverse_cons]
    exact RpA.app (RpA.rev t) (.cons r .nil)
theorem RpA.ints {K : PySem.W.Frag} {H : Hp} : ∀ {vs : List V} {ns : List Int}, RpA K H vs (ns.map PyData.int) → vs = ns.map V.int
  | _, [], h => by cases h; rfl
  | _, n :: ns, h => by
    cases h with
    | cons h1 h2 =>
      cases h1
      rw [RpA.ints h2]
      rfl
theorem RpA.ofInts {K : PySem.W.Frag} {H : Hp} : ∀ {ns : List Int}, RpA K H (ns.map V.int) (ns.map PyData.int)
  | [] => .nil
  | n :: ns => .cons (.int n) RpA.ofInts
theorem RpA.bools {K : PySem.W.Frag} {H : Hp} : ∀ {vs : List V} {ns : List Bool}, RpA K H vs (ns.map PyData.bool) → vs = ns.map V.bl
  | _, [], h => by cases h; rfl
  | _, n :: ns, h => by
    cases h with
    | cons h1 h2 =>
      cases h1
      rw [RpA.bools h2]
      rfl

/-! ### slots -/
inductive Sl where
  | un
  | val (d : D)
  | own (ds : List D)
  | ex (cls : Str)
abbrev Ent := Sl × Option V
/-- the class of that name -/
def cn (K : PySem.W.Frag) (x : Str) : Value := match PySem.W.nsIn K mainGlobals x with
  | some (some v) => v
  | _ => .none
/-- an exception's object, by its class and its dict -/
def IsExc (a : Addr) (cls : Value) (d : Option Addr) (h : Heap) : Prop := ∃ o vs, h.get? a = some o ∧ o.cls = cls ∧ o.dict = d ∧ o.data = .fields vs
abbrev excO (a : Addr) (cls : Value) (d : Option Addr) : HO := .ext (IsExc a cls d)
def SlOk (K : PySem.W.Frag) (G F H : Hp) : Ent → Prop
  | (.un, _) => True
  | (.val d, ov) => ∃ v, ov = some v ∧ Rp K G v d
  | (.own ds, ov) => ∃ p vs, ov = some (.ref p) ∧ H p = some (.lst vs) ∧ G p = none ∧ F p = none ∧ RpA K G vs ds
  | (.ex c, ov) => ∃ a, ov = some (.ref a) ∧ G a = some (excO a (cn K c) none)
def Own (e : Ent) (p : Addr) : Prop := (∃ ds, e.1 = .own ds) ∧ e.2 = some (.ref p)
def apart (e e' : Ent) : Prop := ∀ p, Own e p → ¬ Own e' p
theorem apart.symm {e e' : Ent} (h : apart e e') : apart e' e := fun p a b => h p b a
theorem apart_un {ov : Option V} {e : Ent} : apart (.un, ov) e := fun p h => by
  obtain ⟨⟨ds, e⟩, _⟩ := h
  cases e
theorem apart_val {d : D} {ov : Option V} {e : Ent} : apart (.val d, ov) e := fun p h => by
  obtain ⟨⟨ds, e⟩, _⟩ := h
  cases e
theorem Own.eq {ds : List D} {p q : Addr} (h : Own (.own ds, some (.ref p)) q) : q = p := by
  obtain ⟨_, e⟩ := h
  exact (V.ref.inj (Option.some.inj e)).symm
theorem own_own {ds : List D} {p : Addr} : Own (.own ds, some (.ref p)) p := ⟨⟨ds, rfl⟩, rfl⟩

/-- G: what stays for good; F: the callers' own; L: the entries -/
structure RelL (K : PySem.W.Frag) (G F : Hp) (L : List Ent) (H : Hp) : Prop where
  eg : Ex G H
  ef : Ex F H
  gf : ∀ a o, F a = some o → G a = none
  ok : ∀ e ∈ L, SlOk K G F H e
  ap : L.Pairwise apart

section
variable {K : PySem.W.Frag} {G F H : Hp} {L L' : List Ent} {p : Addr} {d : D} {v : V} {ds : List D} {vs : List V} {ov : Option V} {e : Ent}
theorem RelL.owned (R : RelL K G F L H) (he : e ∈ L) (ho : Own e p) : ∃ vs, H p = some (.lst vs) ∧ G p = none ∧ F p = none := by
  have h := R.ok e he
  obtain ⟨⟨ds, e1⟩, e2⟩ := ho
  obtain ⟨s, ov⟩ := e
  cases e1
  cases e2
  obtain ⟨q, vs, h1, h2, h3, h4, _⟩ := h
  cases h1
  exact ⟨vs, h2, h3, h4⟩
theorem RelL.sub (R : RelL K G F L H) (h : L'.Sublist L) : RelL K G F L' H := ⟨R.eg, R.ef, R.gf, fun e he => R.ok e (h.subset he), R.ap.sublist h⟩
theorem RelL.perm (R : RelL K G F L H) (h : L.Perm L') : RelL K G F L' H :=
  ⟨R.eg, R.ef, R.gf, fun e he => R.ok e (h.symm.subset he), (h.pairwise_iff (fun {x y} (a : apart x y) => a.symm)).mp R.ap⟩
theorem RelL.push (R : RelL K G F L H) (h : SlOk K G F H e) (a : ∀ e' ∈ L, apart e e') : RelL K G F (e :: L) H :=
  ⟨R.eg, R.ef, R.gf, fun x hx => (List.mem_cons.mp hx).elim (fun z => z ▸ h) (R.ok x), List.Pairwise.cons a R.ap⟩
theorem RelL.pushVal (R : RelL K G F L H) (h : Rp K G v d) : RelL K G F ((.val d, some v) :: L) H := R.push ⟨v, rfl, h⟩ fun _ _ => apart_val
theorem RelL.pushUn (R : RelL K G F L H) : RelL K G F ((.un, ov) :: L) H := R.push True.intro fun _ _ => apart_un
theorem ex_new2 {A B : Hp} {o : HO} (e : Ex A B) (hn : B p = none) : Ex A (upd B p o) := e.trans (Ex.new hn)
theorem free_of {A B : Hp} (e : Ex A B) (hn : B p = none) : A p = none := Evl.fresh_back e hn
theorem ex_both {A B : Hp} {o : HO} (e : Ex A B) : Ex (upd A p o) (upd B p o) := fun a u h => by
  by_cases q : a = p
  · subst q
    rw [upd_same] at h ⊢
    exact h
  · rw [upd_ne q] at h ⊢
    exact e a u h
/-- a new object that never changes -/
theorem RelL.grow {o : HO} (R : RelL K G F L H) (hn : H p = none) : RelL K (upd G p o) F L (upd H p o) := by
  have hg := free_of R.eg hn
  have hf := free_of R.ef hn
  refine ⟨ex_both R.eg, ex_new2 R.ef hn, fun a u h => ?_, fun e he => ?_, R.ap⟩
  · rw [upd_ne (ne_of_none h hf)]
    exact R.gf a u h
  · have h := R.ok e he
    obtain ⟨s, ov⟩ := e
    cases s with
    | un => exact True.intro
    | ex c =>
      obtain ⟨v, h1, h2⟩ := h
      exact ⟨v, h1, (Ex.new hg) _ _ h2⟩
    | val d =>
      obtain ⟨v, h1, h2⟩ := h
      exact ⟨v, h1, h2.up (Ex.new hg)⟩
    | own ds =>
      obtain ⟨q, vs, h1, h2, h3, h4, h5⟩ := h
      have nq : q ≠ p := ne_of_none h2 hn
      exact ⟨q, vs, h1, by rw [upd_ne nq]; exact h2, by rw [upd_ne nq]; exact h3, h4, h5.up (Ex.new hg)⟩
/-- a new list, ours -/
theorem RelL.pushOwn (R : RelL K G F L H) (hn : H p = none) (h : RpA K G vs ds) : RelL K G F ((.own ds, some (.ref p)) :: L) (upd H p (.lst vs)) := by
  have hg := free_of R.eg hn
  have hf := free_of R.ef hn
  have R1 : RelL K G F L (upd H p (.lst vs)) := by
    refine ⟨ex_new2 R.eg hn, ex_new2 R.ef hn, R.gf, fun e he => ?_, R.ap⟩
    have h := R.ok e he
    obtain ⟨s, ov⟩ := e
    cases s with
    | un => exact True.intro
    | ex c => exact h
    | val d => exact h
    | own ds =>
      obtain ⟨q, vs, h1, h2, h3, h4, h5⟩ := h
      exact ⟨q, vs, h1, by rw [upd_ne (ne_of_none h2 hn)]; exact h2, h3, h4, h5⟩
  refine R1.push ⟨p, vs, rfl, upd_same, hg, hf, h⟩ fun e he q ho ho' => ?_
  have hq := Own.eq ho
  subst hq
  obtain ⟨vs', h1, _⟩ := R.owned he ho'
  rw [hn] at h1
  cases h1
/-- the first entry's list is changed -/
theorem RelL.mut (R : RelL K G F ((.own ds, some (.ref p)) :: L) H) {vs' : List V} {ds' : List D} (h : RpA K G vs' ds') : RelL K G F ((.own ds', some (.ref p)) :: L) (upd H p (.lst vs')) := by
  obtain ⟨vs, h1, h2, h3⟩ := R.owned List.mem_cons_self own_own
  have hp := List.pairwise_cons.mp R.ap
  have exm : ∀ {A : Hp}, Ex A H → A p = none → Ex A (upd H p (.lst vs')) := fun e n => Ex.mut e n
  have R1 : RelL K G F L (upd H p (.lst vs')) := by
    refine ⟨exm R.eg h2, exm R.ef h3, R.gf, fun e he => ?_, hp.2⟩
    have h := R.ok e (List.mem_cons_of_mem _ he)
    have ha := hp.1 e he
    obtain ⟨s, ov⟩ := e
    cases s with
    | un => exact True.intro
    | ex c => exact h
    | val d => exact h
    | own es =>
      obtain ⟨q, ws, g1, g2, g3, g4, g5⟩ := h
      have nq : q ≠ p := fun z => ha p own_own ⟨⟨es, rfl⟩, by rw [g1, z]⟩
      exact ⟨q, ws, g1, by rw [upd_ne nq]; exact g2, g3, g4, g5⟩
  exact R1.push ⟨p, vs', rfl, upd_same, h2, h3, h⟩ fun e he q ho => hp.1 e he q ⟨⟨ds, rfl⟩, ho.2⟩
/-- the first entry's list is given away for good -/
theorem RelL.give (R : RelL K G F ((.own ds, ov) :: L) H) : ∃ G', Ex G G' ∧ RelL K G' F ((.val (.list ds), ov) :: L) H := by
  obtain ⟨p, vs, h1, h2, h3, h4, h5⟩ := R.ok _ List.mem_cons_self
  subst h1
  have hp := List.pairwise_cons.mp R.ap
  have eg' : Ex G (upd G p (.lst vs)) := Ex.new h3
  refine ⟨upd G p (.lst vs), eg', ⟨fun a o h => ?_, R.ef, fun a o h => ?_, fun e he => ?_, List.Pairwise.cons (fun _ _ => apart_val) hp.2⟩⟩
  · by_cases q : a = p
    · subst q
      rw [upd_same] at h
      rw [h2, ← h]
    · rw [upd_ne q] at h
      exact R.eg a o h
  · have nq : a ≠ p := ne_of_none h h4
    rw [upd_ne nq]
    exact R.gf a o h
  · rcases List.mem_cons.mp he with rfl | he
    · exact ⟨_, rfl, .lst (.inl (.inl upd_same)) (h5.up eg')⟩
    · have h := R.ok e (List.mem_cons_of_mem _ he)
      have ha := hp.1 e he
      obtain ⟨s, ov⟩ := e
      cases s with
      | un => exact True.intro
      | ex c =>
        obtain ⟨v, g1, g2⟩ := h
        exact ⟨v, g1, (eg') _ _ g2⟩
      | val d =>
        obtain ⟨v, g1, g2⟩ := h
        exact ⟨v, g1, g2.up eg'⟩
      | own es =>
        obtain ⟨q, ws, g1, g2, g3, g4, g5⟩ := h
        have nq : q ≠ p := fun z => ha p own_own ⟨⟨es, rfl⟩, by rw [g1, z]⟩
        exact ⟨q, ws, g1, g2, by rw [upd_ne nq]; exact g3, g4, g5.up eg'⟩
end

/-! ### slots of a frame -/
structure Rel (K : PySem.W.Frag) (G F : Hp) (T : List Ent) (ρ : List Sl) (σ : L2.St) (H : Hp) : Prop where
  len : ρ.length = σ.length
  l : RelL K G F (T ++ ρ.zip σ) H

theorem zip_set {α β : Type} : ∀ (xs : List α) (ys : List β) (i : Nat) (x : α) (y : β), (xs.set i x).zip (ys.set i y) = (xs.zip ys).set i (x, y)
  | [], ys, i, x, y => by simp
  | a :: xs, [], i, x, y => by cases i <;> simp
  | a :: xs, b :: ys, 0, x, y => by simp
  | a :: xs, b :: ys, i + 1, x, y => by simp [zip_set xs ys i x y]
theorem zip_set1 {α β : Type} : ∀ (xs : List α) (ys : List β) (i : Nat) (x : α) (y : β), ys[i]? = some y → (xs.set i x).zip ys = (xs.zip ys).set i (x, y)
  | [], ys, i, x, y, h => by simp
  | a :: xs, [], i, x, y, h => by simp at h
  | a :: xs, b :: ys, 0, x, y, h => by simp at h; simp [h]
  | a :: xs, b :: ys, i + 1, x, y, h => by simp [zip_set1 xs ys i x y (by simpa using h)]
theorem erase_perm {α : Type} : ∀ {Z : List α} {i : Nat} {x : α}, Z[i]? = some x → (x :: Z.eraseIdx i).Perm Z
  | [], i, x, h => by simp at h
  | z :: Z, 0, x, h => by
    have e : z = x := Option.some.inj h
    subst e
    exact List.Perm.refl _
  | z :: Z, i + 1, x, h => by
    have p := erase_perm (Z := Z) (i := i) (x := x) h
    exact (List.Perm.swap z x _).trans (List.Perm.cons z p)
theorem set_erase {α : Type} : ∀ (Z : List α) (i : Nat) (x : α), (Z.set i x).eraseIdx i = Z.eraseIdx i
  | [], i, x => rfl
  | z :: Z, 0, x => rfl
  | z :: Z, i + 1, x => by
    show z :: (Z.set i x).eraseIdx i = z :: Z.eraseIdx i
    rw [set_erase Z i x]
theorem set_perm {α : Type} {Z : List α} {i : Nat} (x : α) (hi : i < Z.length) : (Z.set i x).Perm (x :: Z.eraseIdx i) := by
  have h : (Z.set i x)[i]? = some x := by rw [List.getElem?_set_self hi]
  have p := erase_perm h
  rw [set_erase] at p
  exact p.symm
theorem perm_at {α : Type} {T Z : List α} {i : Nat} {x : α} (h : Z[i]? = some x) : (T ++ Z).Perm (x :: (T ++ Z.eraseIdx i)) := by
  have hi : i < Z.length := (List.getElem?_eq_some_iff.mp h).1
  have e : Z[i] = x := (List.getElem?_eq_some_iff.mp h).2
  have p1 : Z.Perm (x :: Z.eraseIdx i) := (erase_perm h).symm
  exact (List.Perm.append_left T p1).trans List.perm_middle
theorem perm_set {α : Type} {T Z : List α} {i : Nat} {x : α} (hi : i < Z.length) : (T ++ Z.set i x).Perm (x :: (T ++ Z.eraseIdx i)) :=
  (List.Perm.append_left T (set_perm x hi)).trans List.perm_middle
end Dn

namespace Dn
open PySem PySem.Spec PyProof.Rows L2
open Evl (Ex)

section
variable {K : PySem.W.Frag} {G F H : Hp} {T : List Ent} {ρ : List Sl} {σ : L2.St} {i : Nat} {r : Sl} {v : V} {d : D} {ds : List D} {e e' : Ent} {ov : Option V}
theorem zip_at {s : Sl} (len : ρ.length = σ.length) (h : ρ[i]? = some s) : ∃ ov, σ[i]? = some ov ∧ (ρ.zip σ)[i]? = some (s, ov) := by
  have hi : i < ρ.length := (List.getElem?_eq_some_iff.mp h).1
  have hs : σ[i]? = some σ[i] := List.getElem?_eq_getElem (by omega)
  refine ⟨σ[i], hs, ?_⟩
  rw [List.getElem?_zip_eq_some]
  exact ⟨h, hs⟩
theorem Rel.drop (R : Rel K G F (e :: T) ρ σ H) : Rel K G F T ρ σ H := ⟨R.len, R.l.sub (List.sublist_cons_self _ _)⟩
theorem Rel.dropN {A : List Ent} (R : Rel K G F (A ++ T) ρ σ H) : Rel K G F T ρ σ H := ⟨R.len, R.l.sub (by rw [List.append_assoc]; exact List.sublist_append_right _ _)⟩
theorem Rel.dropAll (R : Rel K G F T ρ σ H) : Rel K G F [] ρ σ H := ⟨R.len, R.l.sub (List.sublist_append_right T _)⟩
theorem Rel.swap (R : Rel K G F (e :: e' :: T) ρ σ H) : Rel K G F (e' :: e :: T) ρ σ H := ⟨R.len, R.l.perm (List.Perm.swap _ _ _)⟩
theorem Rel.permT {T' : List Ent} (R : Rel K G F T ρ σ H) (p : T.Perm T') : Rel K G F T' ρ σ H := ⟨R.len, R.l.perm (List.Perm.append_right _ p)⟩
theorem Rel.var (R : Rel K G F T ρ σ H) (h : ρ[i]? = some (.val d)) : ∃ v, σ[i]? = some (some v) ∧ Rp K G v d ∧ Rel K G F ((.val d, some v) :: T) ρ σ H := by
  obtain ⟨ov, h1, h2⟩ := zip_at R.len h
  obtain ⟨v, e, hv⟩ := R.l.ok (.val d, ov) (List.mem_append_right _ (List.mem_of_getElem? h2))
  subst e
  exact ⟨v, h1, hv, R.len, R.l.pushVal hv⟩
theorem Rel.exVar {c : Str} (R : Rel K G F T ρ σ H) (h : ρ[i]? = some (.ex c)) : ∃ v, σ[i]? = some (some v) ∧ Rel K G F ((.ex c, some v) :: T) ρ σ H := by
  obtain ⟨ov, h1, h2⟩ := zip_at R.len h
  obtain ⟨a, e, ha⟩ := R.l.ok (.ex c, ov) (List.mem_append_right _ (List.mem_of_getElem? h2))
  subst e
  refine ⟨.ref a, h1, R.len, R.l.push ⟨a, rfl, ha⟩ fun e _ q ho => ?_⟩
  obtain ⟨⟨ds, z⟩, _⟩ := ho
  cases z
theorem Rel.ownVar (R : Rel K G F T ρ σ H) (h : ρ[i]? = some (.own ds)) : ∃ p vs, σ[i]? = some (some (.ref p)) ∧ H p = some (.lst vs) ∧ RpA K G vs ds := by
  obtain ⟨ov, h1, h2⟩ := zip_at R.len h
  obtain ⟨p, vs, e, q1, q2, q3, q4⟩ := R.l.ok (.own ds, ov) (List.mem_append_right _ (List.mem_of_getElem? h2))
  subst e
  exact ⟨p, vs, h1, q1, q4⟩
theorem Rel.giveVar (R : Rel K G F T ρ σ H) (h : ρ[i]? = some (.own ds)) : ∃ v G', σ[i]? = some (some v) ∧ Ex G G' ∧ Rel K G' F ((.val (.list ds), some v) :: T) (ρ.set i (.val (.list ds))) σ H := by
  obtain ⟨ov, h1, h2⟩ := zip_at R.len h
  have hi : i < ρ.length := (List.getElem?_eq_some_iff.mp h).1
  have hiz : i < (ρ.zip σ).length := (List.getElem?_eq_some_iff.mp h2).1
  have R1 := R.l.perm (perm_at (T := T) h2)
  obtain ⟨G', eg, R2⟩ := R1.give
  obtain ⟨v, e, hv⟩ := R2.ok _ List.mem_cons_self
  subst e
  refine ⟨v, G', h1, eg, by rw [List.length_set]; exact R.len, ?_⟩
  rw [zip_set1 _ _ _ _ _ h1]
  exact (R2.perm (perm_set (T := T) hiz).symm).pushVal hv
theorem Rel.assign (R : Rel K G F ((r, ov) :: T) ρ σ H) (hi : i < ρ.length) : Rel K G F T (ρ.set i r) (σ.set i ov) H := by
  refine ⟨by rw [List.length_set, List.length_set]; exact R.len, ?_⟩
  have hiz : i < (ρ.zip σ).length := by rw [List.length_zip, ← R.len]; omega
  rw [zip_set]
  refine (R.l.sub ?_).perm (perm_set (T := T) hiz).symm
  exact List.Sublist.cons_cons _ (List.Sublist.append (List.Sublist.refl T) (List.eraseIdx_sublist _ _))
theorem Rel.forget (R : Rel K G F T ρ σ H) (i : Nat) (ov : Option V) : Rel K G F T (ρ.set i .un) (σ.set i ov) H := by
  by_cases hi : i < ρ.length
  · exact Rel.assign ⟨R.len, R.l.pushUn⟩ hi
  · have e1 : ρ.set i .un = ρ := List.set_eq_of_length_le (by omega)
    have e2 : σ.set i ov = σ := List.set_eq_of_length_le (by rw [← R.len]; omega)
    rw [e1, e2]
    exact R
/-- a change of an own list in a slot -/
theorem Rel.mutVar {p : Addr} {vs' : List V} {ds' : List D} (R : Rel K G F T ρ σ H) (h : ρ[i]? = some (.own ds)) (hp : σ[i]? = some (some (.ref p))) (ha : RpA K G vs' ds') :
    Rel K G F T (ρ.set i (.own ds')) σ (upd H p (.lst vs')) := by
  obtain ⟨ov, h1, h2⟩ := zip_at R.len h
  rw [hp] at h1
  cases h1
  have hiz : i < (ρ.zip σ).length := (List.getElem?_eq_some_iff.mp h2).1
  have R1 := (R.l.perm (perm_at (T := T) h2)).mut ha
  refine ⟨by rw [List.length_set]; exact R.len, ?_⟩
  rw [zip_set1 _ _ _ _ _ hp]
  exact R1.perm (perm_set (T := T) hiz).symm
/-- a slot's list goes out (to a call), and comes back -/
theorem Rel.out {p : Addr} (R : Rel K G F T ρ σ H) (h : ρ[i]? = some (.own ds)) (hp : σ[i]? = some (some (.ref p))) : Rel K G F ((.own ds, some (.ref p)) :: T) (ρ.set i .un) σ H := by
  obtain ⟨ov, h1, h2⟩ := zip_at R.len h
  rw [hp] at h1
  cases h1
  have hiz : i < (ρ.zip σ).length := (List.getElem?_eq_some_iff.mp h2).1
  refine ⟨by rw [List.length_set]; exact R.len, ?_⟩
  have R1 := R.l.perm (perm_at (T := T) h2)
  rw [zip_set1 _ _ _ _ _ hp]
  have hc := List.pairwise_cons.mp R1.ap
  have R0 := (R1.sub (List.sublist_cons_self _ _)).pushUn (ov := some (.ref p))
  have R2 := R0.perm (perm_set (T := T) hiz).symm
  refine R2.push (R1.ok _ List.mem_cons_self) fun e he => ?_
  rcases List.mem_cons.mp ((perm_set (T := T) hiz).subset he) with rfl | he'
  · exact apart_un.symm
  · exact hc.1 e he'
theorem Rel.back {s : Sl} (R : Rel K G F ((s, ov) :: T) ρ σ H) (hp : σ[i]? = some ov) : Rel K G F T (ρ.set i s) σ H := by
  have hi : i < σ.length := (List.getElem?_eq_some_iff.mp hp).1
  have R1 := R.assign (i := i) (by rw [R.len]; exact hi)
  have e : σ.set i ov = σ := by
    have e1 : σ[i] = ov := (List.getElem?_eq_some_iff.mp hp).2
    rw [← e1]
    exact List.set_getElem_self hi
  rw [e] at R1
  exact R1
end

/-! ### what an expression is worth -/
abbrev MX := List Sl → Option (Sl × List Sl)
abbrev MT := List Sl → Option (Bool × List Sl)
abbrev MA := List Sl → Option (List Sl × List Sl)
def Den (K : PySem.W.Frag) (t : TE) (m : MX) : Prop := ∀ (G F : Hp) (T : List Ent) (ρ : List Sl) (σ : L2.St) (H : Hp) (r : Sl) (ρ' : List Sl) (Q : VK), Rel K G F T ρ σ H → m ρ = some (r, ρ') →
  (∀ v G' H', Ex G G' → Rel K G' F ((r, some v) :: T) ρ' σ H' → Q v H') → t σ H Q
def DenT (K : PySem.W.Frag) (t : TT) (m : MT) : Prop := ∀ (G F : Hp) (T : List Ent) (ρ : List Sl) (σ : L2.St) (H : Hp) (b : Bool) (ρ' : List Sl) (Q : Bool → Hp → Prop), Rel K G F T ρ σ H → m ρ = some (b, ρ') →
  (∀ G' H', Ex G G' → Rel K G' F T ρ' σ H' → Q b H') → t σ H Q
def ents (rs : List Sl) (vs : List V) : List Ent := rs.zip (vs.map some)
def DenA (K : PySem.W.Frag) (t : TA) (m : MA) : Prop := ∀ (G F : Hp) (T : List Ent) (ρ : List Sl) (σ : L2.St) (H : Hp) (rs : List Sl) (ρ' : List Sl) (Q : List V → Hp → Prop), Rel K G F T ρ σ H → m ρ = some (rs, ρ') →
  (∀ vs G' H', Ex G G' → rs.length = vs.length → Rel K G' F (ents rs vs ++ T) ρ' σ H' → Q vs H') → t σ H Q
structure ME (X : Cx) (K : PySem.W.Frag) (e : Expr) (t : TE) (m : MX) : Prop where
  hK : X.K = K
  pe : PE X e t
  dn : Den K t m
structure MET (X : Cx) (K : PySem.W.Frag) (e : Expr) (t : TT) (m : MT) : Prop where
  hK : X.K = K
  pe : PT X e t
  dn : DenT K t m
structure MEW (X : Cx) (K : PySem.W.Frag) (e : Expr) (t : TT) (m : MT) : Prop where
  hK : X.K = K
  pe : PW X e t
  dn : DenT K t m
structure MEA (X : Cx) (K : PySem.W.Frag) (es : List Expr) (t : TA) (m : MA) : Prop where
  hK : X.K = K
  pe : PA X es t
  dn : DenA K t m

def mVar (i : Nat) : MX := fun ρ => match ρ[i]? with
  | some (.val d) => some (.val d, ρ)
  | some (.ex c) => some (.ex c, ρ)
  | some (.own ds) => some (.val (.list ds), ρ.set i (.val (.list ds)))
  | _ => none
def mC (d : D) : MX := fun ρ => some (.val d, ρ)
def mBin (f : Sl → Sl → Option Sl) (a b : MX) : MX := fun ρ => match a ρ with
  | none => none
  | some (x, ρ1) => match b ρ1 with
    | none => none
    | some (y, ρ2) => match f x y with
      | none => none
      | some z => some (z, ρ2)
def mUn (f : Sl → Option Sl) (a : MX) : MX := fun ρ => match a ρ with
  | none => none
  | some (x, ρ1) => match f x with
    | none => none
    | some z => some (z, ρ1)
def mNil : MA := fun ρ => some ([], ρ)
def mCons (a : MX) (b : MA) : MA := fun ρ => match a ρ with
  | none => none
  | some (x, ρ1) => match b ρ1 with
    | none => none
    | some (xs, ρ2) => some (x :: xs, ρ2)
def mFn (f : List Sl → Option Sl) (a : MA) : MX := fun ρ => match a ρ with
  | none => none
  | some (xs, ρ1) => match f xs with
    | none => none
    | some z => some (z, ρ1)
/-- a test by a value -/
def mB (a : MX) : MT := fun ρ => match a ρ with
  | some (.val (.bool b), ρ1) => some (b, ρ1)
  | _ => none
@[simp] def tru : Sl → Option Bool
  | .val .none => some false
  | .val (.bool b) => some b
  | .val (.int i) => some (i != 0)
  | .val (.str x) => if x.length ≤ sizeLine then some ((x.length : Int) != 0) else none
  | .val (.list ds) => some (!ds.isEmpty)
  | .val (.tuple ds) => some (!ds.isEmpty)
  | .own ds => some (!ds.isEmpty)
  | _ => none
def mTru (a : MX) : MT := fun ρ => match a ρ with
  | none => none
  | some (x, ρ1) => match tru x with
    | none => none
    | some b => some (b, ρ1)
def mTAnd (a b : MT) : MT := fun ρ => match a ρ with
  | none => none
  | some (c, ρ1) => if c = true then b ρ1 else some (false, ρ1)
def mTOr (a b : MT) : MT := fun ρ => match a ρ with
  | none => none
  | some (c, ρ1) => if c = true then some (true, ρ1) else b ρ1
def mTNot (a : MT) : MT := fun ρ => match a ρ with
  | none => none
  | some (c, ρ1) => some (!c, ρ1)
def mAndV (a b : MX) : MX := fun ρ => match a ρ with
  | some (.val (.bool c), ρ1) => if c = true then b ρ1 else some (.val (.bool false), ρ1)
  | _ => none
def mOrV (a b : MX) : MX := fun ρ => match a ρ with
  | some (.val (.bool c), ρ1) => if c = true then some (.val (.bool true), ρ1) else b ρ1
  | _ => none
def mNotV (a : MX) : MX := fun ρ => match a ρ with
  | some (.val (.bool c), ρ1) => some (.val (.bool (!c)), ρ1)
  | _ => none
def mIf (c : MT) (a b : MX) : MX := fun ρ => match c ρ with
  | none => none
  | some (k, ρ1) => if k = true then a ρ1 else b ρ1

section
variable {K : PySem.W.Frag} {X : Cx} {a b c : Expr} {ta tb tc : TE} {ma mb mc : MX} {pos : Pos} {t u : TT} {mt mu : MT} {tA tB' : TT}
theorem den_var {i : Nat} : Den K (tVar i) (mVar i) := by
  intro G F T ρ σ H r ρ' Q R h q
  unfold mVar at h
  cases hs : ρ[i]? with
  | none => rw [hs] at h; cases h
  | some s =>
    rw [hs] at h
    cases s with
    | un => cases h
    | ex c =>
      cases h
      obtain ⟨v, h1, h3⟩ := R.exVar hs
      exact ⟨v, h1, q v G H (Ex.refl G) h3⟩
    | val d =>
      cases h
      obtain ⟨v, h1, _, h3⟩ := R.var hs
      exact ⟨v, h1, q v G H (Ex.refl G) h3⟩
    | own ds =>
      cases h
      obtain ⟨v, G', h1, h2, h3⟩ := R.giveVar hs
      exact ⟨v, h1, q v G' H h2 h3⟩
theorem me_var (i : Nat) {x : Str} (hN : X.N[i]? = some x := by rfl) (hv : Vis X.env.scope x := by first | exact Or.inl rfl | exact Or.inr (Or.inl rfl) | exact Or.inr (Or.inr rfl)) (hd : (x == ("__debug__" : Str)) = false := by decide)
    (hcd : (x == ("__classdict__" : Str)) = false := by decide) (hK : X.K = K := by rfl) : ME X K (.Name x pos) (tVar i) (mVar i) := by
  obtain rfl := hK
  exact ⟨rfl, pe_var hN hv hd hcd, den_var⟩
theorem den_c {v : V} {d : D} (h : ∀ G, Rp K G v d) : Den K (tC v) (mC d) := by
  intro G F T ρ σ H r ρ' Q R e q
  cases e
  exact q v G H (Ex.refl G) ⟨R.len, R.l.pushVal (h G)⟩
theorem me_int {i : Int} {j : Nat} (hK : X.K = K := by rfl) : ME X K (.Constant (.int i) j pos) (tC (.int i)) (mC (.int i)) := by
  obtain rfl := hK
  exact ⟨rfl, pe_int, den_c fun _ => .int i⟩
theorem me_bl {i : Bool} {j : Nat} (hK : X.K = K := by rfl) : ME X K (.Constant (.bool i) j pos) (tC (.bl i)) (mC (.bool i)) := by
  obtain rfl := hK
  exact ⟨rfl, pe_bl, den_c fun _ => .bl i⟩
theorem me_str {i : Str} {j : Nat} (hK : X.K = K := by rfl) : ME X K (.Constant (.str i) j pos) (tC (.str i)) (mC (.str i)) := by
  obtain rfl := hK
  exact ⟨rfl, pe_str, den_c fun _ => .str i⟩
theorem me_non {j : Nat} (hK : X.K = K := by rfl) : ME X K (.Constant .none j pos) (tC .non) (mC .none) := by
  obtain rfl := hK
  exact ⟨rfl, pe_non, den_c fun _ => .non⟩
/-- a two-place operation on what stands on top -/
def OpS (K : PySem.W.Frag) (r : R2) (f : Sl → Sl → Option Sl) : Prop := ∀ (G F : Hp) (T : List Ent) (ρ : List Sl) (σ : L2.St) (H : Hp) (x y z : Sl) (v w : V) (Q : VK), Rel K G F ((y, some w) :: (x, some v) :: T) ρ σ H → f x y = some z →
  (∀ v' G' H', Ex G G' → Rel K G' F ((z, some v') :: T) ρ σ H' → Q v' H') → r v w H Q
def UnS (K : PySem.W.Frag) (r : V → Hp → VK → Prop) (f : Sl → Option Sl) : Prop := ∀ (G F : Hp) (T : List Ent) (ρ : List Sl) (σ : L2.St) (H : Hp) (x z : Sl) (v : V) (Q : VK), Rel K G F ((x, some v) :: T) ρ σ H → f x = some z →
  (∀ v' G' H', Ex G G' → Rel K G' F ((z, some v') :: T) ρ σ H' → Q v' H') → r v H Q
def FnS (K : PySem.W.Frag) (r : List V → Hp → VK → Prop) (f : List Sl → Option Sl) : Prop := ∀ (G F : Hp) (T : List Ent) (ρ : List Sl) (σ : L2.St) (H : Hp) (xs : List Sl) (z : Sl) (vs : List V) (Q : VK), xs.length = vs.length → Rel K G F (ents xs vs ++ T) ρ σ H → f xs = some z →
  (∀ v' G' H', Ex G G' → Rel K G' F ((z, some v') :: T) ρ σ H' → Q v' H') → r vs H Q
theorem den_bin {r : R2} {f : Sl → Sl → Option Sl} (ho : OpS K r f) (ha : Den K ta ma) (hb : Den K tb mb) : Den K (tOp r ta tb) (mBin f ma mb) := by
  intro G F T ρ σ H z ρ' Q R h q
  unfold mBin at h
  cases h1 : ma ρ with
  | none => rw [h1] at h; cases h
  | some p1 =>
    obtain ⟨x, ρ1⟩ := p1
    rw [h1] at h
    cases h2 : mb ρ1 with
    | none => simp only [h2] at h; cases h
    | some p2 =>
      obtain ⟨y, ρ2⟩ := p2
      cases h3 : f x y with
      | none => simp only [h2, h3] at h; cases h
      | some z' =>
        simp only [h2, h3] at h
        cases h
        refine ha G F T ρ σ H x ρ1 _ R h1 fun v G1 H1 e1 R1 => ?_
        refine hb G1 F _ ρ1 σ H1 y ρ' _ R1 h2 fun w G2 H2 e2 R2 => ?_
        exact ho G2 F T ρ' σ H2 x y z v w Q R2 h3 fun v' G' H' e3 R3 => q v' G' H' ((e1.trans e2).trans e3) R3
theorem me_bin {op : Operator} {r : R2} {f : Sl → Sl → Option Sl} (ho : OpS K r f) (hr : OpR X (binaryOp op) r) (ha : ME X K a ta ma) (hb : ME X K b tb mb) : ME X K (.BinOp a op b pos) (tOp r ta tb) (mBin f ma mb) := by
  obtain rfl := ha.hK
  exact ⟨rfl, pe_op hr ha.pe hb.pe, den_bin ho ha.dn hb.dn⟩
theorem me_cmp {op : CmpOp} {r : R2} {f : Sl → Sl → Option Sl} (ho : OpS K r f) (hr : OpR X (compareOp op) r) (hm : behindInMarks op b = false) (ha : ME X K a ta ma) (hb : ME X K b tb mb) : ME X K (.Compare a [op] [b] pos) (tOp r ta tb) (mBin f ma mb) := by
  obtain rfl := ha.hK
  exact ⟨rfl, pe_cmpR hr ha.pe hb.pe hm, den_bin ho ha.dn hb.dn⟩
theorem den_un {r : V → Hp → VK → Prop} {f : Sl → Option Sl} (ho : UnS K r f) (ha : Den K ta ma) : Den K (tUn r ta) (mUn f ma) := by
  intro G F T ρ σ H z ρ' Q R h q
  unfold mUn at h
  cases h1 : ma ρ with
  | none => rw [h1] at h; cases h
  | some p1 =>
    obtain ⟨x, ρ1⟩ := p1
    cases h3 : f x with
    | none => simp only [h1, h3] at h; cases h
    | some z' =>
      simp only [h1, h3] at h
      cases h
      refine ha G F T ρ σ H x ρ' _ R h1 fun v G1 H1 e1 R1 => ?_
      exact ho G1 F T ρ' σ H1 x z v Q R1 h3 fun v' G' H' e3 R3 => q v' G' H' (e1.trans e3) R3
theorem me_un {op : UnaryOp} {r : V → Hp → VK → Prop} {f : Sl → Option Sl} (ho : UnS K r f) (hr : UnR X (unaryOp op) r) (ha : ME X K a ta ma) : ME X K (.UnaryOp op a pos) (tUn r ta) (mUn f ma) := by
  obtain rfl := ha.hK
  exact ⟨rfl, pe_un hr ha.pe, den_un ho ha.dn⟩
/-! tests -/
theorem denT_B (ha : Den K ta ma) : DenT K (tB ta) (mB ma) := by
  intro G F T ρ σ H b ρ' Q R h q
  unfold mB at h
  split at h
  · rename_i b1 ρ1 h1
    cases h
    refine ha G F T ρ σ H _ ρ' _ R h1 fun v G1 H1 e1 R1 => ?_
    obtain ⟨v', e, hv⟩ := R1.l.ok _ List.mem_cons_self
    cases e
    cases hv
    exact ⟨b, rfl, q G1 H1 e1 R1.drop⟩
  · cases h
theorem met_val (ha : ME X K a ta ma) (hw : ∀ (whole : Sem Value), PySem.isTrue a X.env whole = (do
          let v ← whole
          standAt (Expr.pos a)
          holding [v] (truthy v)) := by intro _; rfl) : MET X K a (tB ta) (mB ma) := by
  obtain rfl := ha.hK
  exact ⟨rfl, pt_val ha.pe hw, denT_B ha.dn⟩
theorem met_cmp {op : CmpOp} {r : R2} {f : Sl → Sl → Option Sl} (ho : OpS K r f) (hr : OpR X (compareOp op) r) (hm : behindInMarks op b = false) (ha : ME X K a ta ma) (hb : ME X K b tb mb) : MET X K (.Compare a [op] [b] pos) (tTest (tOp r ta tb)) (mB (mBin f ma mb)) := by
  obtain rfl := ha.hK
  exact ⟨rfl, pt_cmpR hr ha.pe hb.pe hm, denT_B (den_bin ho ha.dn hb.dn)⟩
theorem tru_ok {G F H : Hp} {s : Sl} {v : V} {k : Bool} (eg : Ex G H) (h : SlOk K G F H (s, some v)) (e : tru s = some k) : TruV K v H k := by
  unfold tru at e
  split at e
  · obtain ⟨v', e1, hv⟩ := h; cases e1; cases hv; cases e; rfl
  · obtain ⟨v', e1, hv⟩ := h; cases e1; cases hv; cases e; rfl
  · obtain ⟨v', e1, hv⟩ := h; cases e1; cases hv; cases e; rfl
  · obtain ⟨v', e1, hv⟩ := h
    cases e1
    cases hv
    split at e
    · rename_i hl
      cases e
      exact ⟨hl, rfl⟩
    · cases e
  · obtain ⟨v', e1, hv⟩ := h
    cases e1
    cases hv with
    | lst hs ha =>
      cases e
      refine .inl ⟨_, Evl.ex_l eg hs, ?_⟩
      cases ha <;> rfl
  · obtain ⟨v', e1, hv⟩ := h
    cases e1
    cases hv with
    | tup hs ha =>
      cases e
      refine .inr (.inl ⟨_, .inl (.inl (eg _ _ hs)), ?_⟩)
      cases ha <;> rfl
  · obtain ⟨p, vs, e1, h1, h2, h3, ha⟩ := h
    cases e1
    cases e
    refine .inl ⟨_, .inl (.inl h1), ?_⟩
    cases ha <;> rfl
  · cases e
theorem denT_tru (ha : Den K ta ma) : DenT K (fun σ H Q => ta σ H fun x H' => ∃ k, TruV K x H' k ∧ Q k H') (mTru ma) := by
  intro G F T ρ σ H b ρ' Q R h q
  unfold mTru at h
  cases h1 : ma ρ with
  | none => rw [h1] at h; cases h
  | some p1 =>
    obtain ⟨x, ρ1⟩ := p1
    cases h3 : tru x with
    | none => simp only [h1, h3] at h; cases h
    | some z' =>
      simp only [h1, h3] at h
      cases h
      refine ha G F T ρ σ H x ρ' _ R h1 fun v G1 H1 e1 R1 => ?_
      exact ⟨b, tru_ok R1.l.eg (R1.l.ok _ List.mem_cons_self) h3, q G1 H1 e1 R1.drop⟩
theorem met_tru (ha : ME X K a ta ma) (hw : ∀ (whole : Sem Value), PySem.isTrue a X.env whole = (do
          let v ← whole
          standAt (Expr.pos a)
          holding [v] (truthy v)) := by intro _; rfl) : MET X K a (fun σ H Q => ta σ H fun x H' => ∃ k, TruV K x H' k ∧ Q k H') (mTru ma) := by
  obtain rfl := ha.hK
  exact ⟨rfl, pt_truth ha.pe hw, denT_tru ha.dn⟩
theorem denT_and (h1 : DenT K t mt) (h2 : DenT K u mu) : DenT K (tAnd t u) (mTAnd mt mu) := by
  intro G F T ρ σ H b ρ' Q R h q
  unfold mTAnd at h
  cases e : mt ρ with
  | none => rw [e] at h; cases h
  | some p1 =>
    obtain ⟨k, ρ1⟩ := p1
    simp only [e] at h
    refine h1 G F T ρ σ H k ρ1 _ R e fun G1 H1 e1 R1 => ?_
    cases k with
    | true =>
      rw [if_pos rfl] at h ⊢
      exact h2 G1 F T ρ1 σ H1 b ρ' Q R1 h fun G2 H2 e2 R2 => q G2 H2 (e1.trans e2) R2
    | false =>
      rw [if_neg Bool.false_ne_true] at h ⊢
      cases h
      exact q G1 H1 e1 R1
theorem denT_or (h1 : DenT K t mt) (h2 : DenT K u mu) : DenT K (tOr t u) (mTOr mt mu) := by
  intro G F T ρ σ H b ρ' Q R h q
  unfold mTOr at h
  cases e : mt ρ with
  | none => rw [e] at h; cases h
  | some p1 =>
    obtain ⟨k, ρ1⟩ := p1
    simp only [e] at h
    refine h1 G F T ρ σ H k ρ1 _ R e fun G1 H1 e1 R1 => ?_
    cases k with
    | true =>
      rw [if_pos rfl] at h ⊢
      cases h
      exact q G1 H1 e1 R1
    | false =>
      rw [if_neg Bool.false_ne_true] at h ⊢
      exact h2 G1 F T ρ1 σ H1 b ρ' Q R1 h fun G2 H2 e2 R2 => q G2 H2 (e1.trans e2) R2
theorem denT_not (h1 : DenT K t mt) : DenT K (tNot t) (mTNot mt) := by
  intro G F T ρ σ H b ρ' Q R h q
  unfold mTNot at h
  cases e : mt ρ with
  | none => rw [e] at h; cases h
  | some p1 =>
    obtain ⟨k, ρ1⟩ := p1
    simp only [e] at h
    cases h
    exact h1 G F T ρ σ H k ρ' _ R e fun G1 H1 e1 R1 => q G1 H1 e1 R1
theorem met_not (h : MET X K a t mt) : MET X K (.UnaryOp .Not a pos) (tNot t) (mTNot mt) := by
  obtain rfl := h.hK
  exact ⟨rfl, pt_not h.pe, denT_not h.dn⟩
theorem mew_and {rest : List Expr} (h1 : MET X K a t mt) (h2 : MEW X K (.BoolOp .And (b :: rest) pos) u mu) : MEW X K (.BoolOp .And (a :: b :: rest) pos) (tAnd t u) (mTAnd mt mu) := by
  obtain rfl := h1.hK
  exact ⟨rfl, pw_and h1.pe h2.pe, denT_and h1.dn h2.dn⟩
theorem mew_or {rest : List Expr} (h1 : MET X K a t mt) (h2 : MEW X K (.BoolOp .Or (b :: rest) pos) u mu) : MEW X K (.BoolOp .Or (a :: b :: rest) pos) (tOr t u) (mTOr mt mu) := by
  obtain rfl := h1.hK
  exact ⟨rfl, pw_or h1.pe h2.pe, denT_or h1.dn h2.dn⟩
theorem mew_and1 (h1 : MET X K a t mt) : MEW X K (.BoolOp .And [a] pos) t mt := by
  obtain rfl := h1.hK
  exact ⟨rfl, pw_and1 h1.pe, h1.dn⟩
theorem mew_or1 (h1 : MET X K a t mt) : MEW X K (.BoolOp .Or [a] pos) t mt := by
  obtain rfl := h1.hK
  exact ⟨rfl, pw_or1 h1.pe, h1.dn⟩
theorem MEW.met (h : MEW X K a t mt) : MET X K a t mt := by
  obtain rfl := h.hK
  exact ⟨rfl, PW.pt h.pe, h.dn⟩
/-! and, or, not, if of values -/
theorem bool_of {G F H : Hp} {v : V} {b : Bool} (h : SlOk K G F H (.val (.bool b), some v)) : v = .bl b := by
  obtain ⟨v', e, hv⟩ := h
  cases e
  cases hv
  rfl
theorem den_andV (ha : Den K ta ma) (hb : Den K tb mb) : Den K (tAndV ta tb) (mAndV ma mb) := by
  intro G F T ρ σ H z ρ' Q R h q
  unfold mAndV at h
  split at h
  · rename_i k ρ1 h1
    refine ha G F T ρ σ H _ ρ1 _ R h1 fun v G1 H1 e1 R1 => ⟨k, bool_of (R1.l.ok _ List.mem_cons_self), ?_⟩
    cases k with
    | true =>
      rw [if_pos rfl] at h ⊢
      exact hb G1 F T ρ1 σ H1 z ρ' Q R1.drop h fun v G2 H2 e2 R2 => q v G2 H2 (e1.trans e2) R2
    | false =>
      rw [if_neg Bool.false_ne_true] at h ⊢
      cases h
      exact q _ G1 H1 e1 ⟨R1.len, R1.drop.l.pushVal (.bl false)⟩
  · cases h
theorem den_orV (ha : Den K ta ma) (hb : Den K tb mb) : Den K (tOrV ta tb) (mOrV ma mb) := by
  intro G F T ρ σ H z ρ' Q R h q
  unfold mOrV at h
  split at h
  · rename_i k ρ1 h1
    refine ha G F T ρ σ H _ ρ1 _ R h1 fun v G1 H1 e1 R1 => ⟨k, bool_of (R1.l.ok _ List.mem_cons_self), ?_⟩
    cases k with
    | true =>
      rw [if_pos rfl] at h ⊢
      cases h
      exact q _ G1 H1 e1 ⟨R1.len, R1.drop.l.pushVal (.bl true)⟩
    | false =>
      rw [if_neg Bool.false_ne_true] at h ⊢
      exact hb G1 F T ρ1 σ H1 z ρ' Q R1.drop h fun v G2 H2 e2 R2 => q v G2 H2 (e1.trans e2) R2
  · cases h
theorem den_notV (ha : Den K ta ma) : Den K (tNotV ta) (mNotV ma) := by
  intro G F T ρ σ H z ρ' Q R h q
  unfold mNotV at h
  split at h
  · rename_i k ρ1 h1
    cases h
    refine ha G F T ρ σ H _ ρ' _ R h1 fun v G1 H1 e1 R1 => ⟨k, bool_of (R1.l.ok _ List.mem_cons_self), ?_⟩
    exact q _ G1 H1 e1 ⟨R1.len, R1.drop.l.pushVal (.bl _)⟩
  · cases h
theorem me_and {rest : List Expr} (h1 : ME X K a ta ma) (h2 : ME X K (.BoolOp .And (b :: rest) pos) tb mb) : ME X K (.BoolOp .And (a :: b :: rest) pos) (tAndV ta tb) (mAndV ma mb) := by
  obtain rfl := h1.hK
  exact ⟨rfl, pe_and h1.pe h2.pe, den_andV h1.dn h2.dn⟩
theorem me_or {rest : List Expr} (h1 : ME X K a ta ma) (h2 : ME X K (.BoolOp .Or (b :: rest) pos) tb mb) : ME X K (.BoolOp .Or (a :: b :: rest) pos) (tOrV ta tb) (mOrV ma mb) := by
  obtain rfl := h1.hK
  exact ⟨rfl, pe_or h1.pe h2.pe, den_orV h1.dn h2.dn⟩
theorem me_one {op : BoolOp} (h : ME X K a ta ma) : ME X K (.BoolOp op [a] pos) ta ma := by
  obtain rfl := h.hK
  exact ⟨rfl, pe_one h.pe, h.dn⟩
theorem me_not (h : ME X K a ta ma) : ME X K (.UnaryOp .Not a pos) (tNotV ta) (mNotV ma) := by
  obtain rfl := h.hK
  exact ⟨rfl, pe_not h.pe, den_notV h.dn⟩
theorem den_if (hc : DenT K t mt) (ha : Den K ta ma) (hb : Den K tb mb) : Den K (tIf t ta tb) (mIf mt ma mb) := by
  intro G F T ρ σ H z ρ' Q R h q
  unfold mIf at h
  cases e : mt ρ with
  | none => rw [e] at h; cases h
  | some p1 =>
    obtain ⟨k, ρ1⟩ := p1
    simp only [e] at h
    refine hc G F T ρ σ H k ρ1 _ R e fun G1 H1 e1 R1 => ?_
    cases k with
    | true =>
      rw [if_pos rfl] at h ⊢
      exact ha G1 F T ρ1 σ H1 z ρ' Q R1 h fun v G2 H2 e2 R2 => q v G2 H2 (e1.trans e2) R2
    | false =>
      rw [if_neg Bool.false_ne_true] at h ⊢
      exact hb G1 F T ρ1 σ H1 z ρ' Q R1 h fun v G2 H2 e2 R2 => q v G2 H2 (e1.trans e2) R2
theorem me_if (hc : MET X K c t mt) (ha : ME X K a ta ma) (hb : ME X K b tb mb) : ME X K (.IfExp c a b pos) (tIf t ta tb) (mIf mt ma mb) := by
  obtain rfl := hc.hK
  exact ⟨rfl, pe_ifExp hc.pe ha.pe hb.pe, den_if hc.dn ha.dn hb.dn⟩
/-! arguments -/
theorem mea_nil (hK : X.K = K := by rfl) : MEA X K [] tNil mNil := by
  obtain rfl := hK
  exact ⟨rfl, pa_nil, by
    intro G F T ρ σ H rs ρ' Q R h q
    cases h
    exact q [] G H (Ex.refl G) rfl R⟩
theorem mea_cons {es : List Expr} {tr : TA} {mr : MA} (ha : ME X K a ta ma) (hr : MEA X K es tr mr) (hs : starEach (a :: es) X.env = (false, eval a X.env) :: starEach es X.env := by rfl) : MEA X K (a :: es) (tCons ta tr) (mCons ma mr) := by
  obtain rfl := ha.hK
  exact ⟨rfl, pa_cons ha.pe hr.pe hs, by
    intro G F T ρ σ H rs ρ' Q R h q
    unfold mCons at h
    cases e : ma ρ with
    | none => rw [e] at h; cases h
    | some p1 =>
      obtain ⟨x, ρ1⟩ := p1
      cases e2 : mr ρ1 with
      | none => simp only [e, e2] at h; cases h
      | some p2 =>
        obtain ⟨xs, ρ2⟩ := p2
        simp only [e, e2] at h
        cases h
        refine ha.dn G F T ρ σ H x ρ1 _ R e fun v G1 H1 e1 R1 => ?_
        refine hr.dn G1 F _ ρ1 σ H1 xs ρ' _ R1 e2 fun vs G2 H2 e3 hl R2 => ?_
        refine q (v :: vs) G2 H2 (e1.trans e3) (congrArg (· + 1) hl) (R2.permT ?_)
        exact List.perm_middle⟩
theorem den_fn {r : List V → Hp → VK → Prop} {f : List Sl → Option Sl} {t : TA} {m : MA} (ho : FnS K r f) (ha : DenA K t m) : Den K (tCB r t) (mFn f m) := by
  intro G F T ρ σ H z ρ' Q R h q
  unfold mFn at h
  cases h1 : m ρ with
  | none => rw [h1] at h; cases h
  | some p1 =>
    obtain ⟨xs, ρ1⟩ := p1
    cases h3 : f xs with
    | none => simp only [h1, h3] at h; cases h
    | some z' =>
      simp only [h1, h3] at h
      cases h
      refine ha G F T ρ σ H xs ρ' _ R h1 fun vs G1 H1 e1 hl R1 => ?_
      exact ho G1 F T ρ' σ H1 xs z vs Q hl R1 h3 fun v' G' H' e3 R3 => q v' G' H' (e1.trans e3) R3
end
end Dn

namespace Dn
open PySem PySem.Spec PyProof.Rows L2
open Evl (Ex)

@[simp] def lstOf : Sl → Option (List D)
  | .val (.list ds) => some ds
  | .own ds => some ds
  | _ => none
@[simp] def seqOf : Sl → Option (List D)
  | .val (.list ds) => some ds
  | .val (.tuple ds) => some ds
  | .own ds => some ds
  | _ => none
@[simp] def datOf : Sl → Option D
  | .val d => some d
  | .own ds => some (.list ds)
  | .un => none
  | .ex _ => none

section
variable {K : PySem.W.Frag} {G F H : Hp} {s : Sl} {v : V} {ds : List D} {i : Int} {d : D}
theorem int_of (h : SlOk K G F H (.val (.int i), some v)) : v = .int i := by
  obtain ⟨v', e, hv⟩ := h
  cases e
  cases hv
  rfl
theorem str_of {x : Str} (h : SlOk K G F H (.val (.str x), some v)) : v = .str x := by
  obtain ⟨v', e, hv⟩ := h
  cases e
  cases hv
  rfl
theorem lst_of (eg : Ex G H) (e : lstOf s = some ds) (h : SlOk K G F H (s, some v)) : ∃ a xs, v = .ref a ∧ SqL K H a xs ∧ RpA K G xs ds := by
  cases s with
  | un => cases e
  | ex c => cases e
  | val d =>
    obtain ⟨v', e1, hv⟩ := h
    cases e1
    cases hv <;> first | cases e | skip
    rename_i hs ha
    exact ⟨_, _, rfl, Evl.ex_l eg hs, ha⟩
  | own es =>
    cases e
    obtain ⟨p, vs, e1, h1, h2, h3, ha⟩ := h
    cases e1
    exact ⟨p, vs, rfl, .inl (.inl h1), ha⟩
theorem tup_ofH (eg : Ex G H) (h : SlOk K G F H (.val (.tuple ds), some v)) : ∃ a xs, v = .ref a ∧ H a = some (.tup xs) ∧ RpA K G xs ds := by
  obtain ⟨v', e1, hv⟩ := h
  cases e1
  cases hv with
  | tup hs ha => exact ⟨_, _, rfl, eg _ _ hs, ha⟩
theorem tup_of (eg : Ex G H) (h : SlOk K G F H (.val (.tuple ds), some v)) : ∃ a xs, v = .ref a ∧ SqT K H a xs ∧ RpA K G xs ds :=
  let ⟨a, xs, e, h1, h2⟩ := tup_ofH eg h
  ⟨a, xs, e, .inl (.inl h1), h2⟩
theorem seq_of (eg : Ex G H) (e : seqOf s = some ds) (h : SlOk K G F H (s, some v)) : ∃ a xs, v = .ref a ∧ (SqL K H a xs ∨ SqT K H a xs) ∧ RpA K G xs ds := by
  unfold seqOf at e
  split at e
  · cases e
    obtain ⟨a, xs, h1, h2, h3⟩ := lst_of (s := .val (.list ds)) eg rfl h
    exact ⟨a, xs, h1, .inl h2, h3⟩
  · cases e
    obtain ⟨a, xs, h1, h2, h3⟩ := tup_of eg h
    exact ⟨a, xs, h1, .inr h2, h3⟩
  · cases e
    obtain ⟨a, xs, h1, h2, h3⟩ := lst_of (s := .own ds) eg rfl h
    exact ⟨a, xs, h1, .inl h2, h3⟩
  · cases e
mutual
theorem dp_of {K : PySem.W.Frag} {H : Hp} : ∀ (d : D) (v : V), PyData.canLay0 d = true → Rp K H v d → Dp K H v d
  | .none, _, _, h => by cases h; exact .non
  | .bool b, _, _, h => by cases h; exact .bl b
  | .int i, _, _, h => by cases h; exact .int i
  | .str x, _, _, h => by cases h; exact .str x
  | .list ds, _, c, h => by
    cases h with
    | lst hs ha => exact .lst hs (dpA_of ds _ c ha)
  | .tuple ds, _, c, h => by
    cases h with
    | tup hs ha => exact .tup (.inl (.inl hs)) (dpA_of ds _ c ha)
  | .dict _, _, c, h => by cases c
theorem dpA_of {K : PySem.W.Frag} {H : Hp} : ∀ (ds : List D) (vs : List V), PyData.canLayAll0 ds = true → RpA K H vs ds → DpAll K H vs ds
  | [], _, _, h => by cases h; exact .nil
  | d :: ds, _, c, h => by
    cases h with
    | cons h1 h2 =>
      have c2 := Bool.and_eq_true_iff.mp c
      exact .cons (dp_of d _ c2.1 h1) (dpA_of ds _ c2.2 h2)
end
theorem dat_of (eg : Ex G H) (e : datOf s = some d) (h : SlOk K G F H (s, some v)) : Rp K H v d := by
  cases s with
  | un => cases e
  | ex c => cases e
  | val d' =>
    cases e
    obtain ⟨v', e1, hv⟩ := h
    cases e1
    exact hv.up eg
  | own ds =>
    cases e
    obtain ⟨p, vs, e1, h1, h2, h3, ha⟩ := h
    cases e1
    exact .lst (.inl (.inl h1)) (ha.up eg)
end

/-! ### + of lists -/
def rCatR (K : PySem.W.Frag) : R2 := fun x y H Q => ∃ l b xs zs, x = .ref l ∧ y = .ref b ∧ SqL K H l xs ∧ SqL K H b zs ∧ xs.length + zs.length ≤ sizeLine ∧ ∀ p, H p = none → Q (.ref p) (upd H p (.lst (xs ++ zs)))
theorem op_catR {X : Cx} : OpR X (binaryOp .Add) (rCatR X.K) := by
  intro pins s σ H x y v u Q I rx ry h
  obtain ⟨l, b, xs, zs, rfl, rfl, hH, hB, hz, q⟩ := h
  cases rx
  cases ry
  obtain ⟨its, r, p1, _⟩ := I.list hH
  obtain ⟨its2, r2, p2, _⟩ := I.list hB
  obtain ⟨⟨cls, dd, data, sl⟩, n, ho, hc, hd0, hd⟩ := p1
  obtain ⟨⟨cls2, dd2, data2, sl2⟩, n2, ho2, hc2, hd02, hd2⟩ := p2
  simp only at hc hd hc2 hd2 hd0 hd02
  subst hc hd hc2 hd2 hd0 hd02
  have e : its.toArray ++ its2.toArray = (its ++ its2).toArray := by simp
  have e1 := r.length
  have e2 := r2.length
  refine concat_meets ⟨_, ho, rfl⟩ ⟨_, ho2, rfl⟩ noFill_list_add seq_list_add PySem.F.slot_list_add PySem.F.entry_list_add (PySem.F.args_list_add_2 _ _)
    (list_addW l b its.toArray its2.toArray n n2 none none sl sl2 (by simp; omega)) ⟨ho, ho2, ?_⟩
  rw [e]
  exact ⟨.ref _, _, I.lnew (t' := s.toks) (r.append r2) (by rw [List.length_append]; omega), rfl, q _ I.fresh⟩
/-! ### int -/
@[simp] def fI (C : Int → Int → Bool) (g : Int → Int → Int) : Sl → Sl → Option Sl
  | .val (.int i), .val (.int j) => if C i j = true then some (.val (.int (g i j))) else none
  | _, _ => none
@[simp] def fB (g : Int → Int → Bool) : Sl → Sl → Option Sl
  | .val (.int i), .val (.int j) => some (.val (.bool (g i j)))
  | _, _ => none
section
variable {K : PySem.W.Frag} {T : List Ent} {ρ : List Sl} {σ : L2.St} {G F H : Hp} {x y : Sl} {v w : V}
theorem Rel.fst (R : Rel K G F ((x, some v) :: T) ρ σ H) : SlOk K G F H (x, some v) := R.l.ok _ List.mem_cons_self
theorem Rel.snd {e : Ent} (R : Rel K G F (e :: (x, some v) :: T) ρ σ H) : SlOk K G F H (x, some v) := R.l.ok _ (List.mem_cons_of_mem _ List.mem_cons_self)
theorem Rel.pushV {d : D} (R : Rel K G F T ρ σ H) (h : Rp K G v d) : Rel K G F ((.val d, some v) :: T) ρ σ H := ⟨R.len, R.l.pushVal h⟩
theorem Rel.pushO {p : Addr} {vs : List V} {ds : List D} (R : Rel K G F T ρ σ H) (hn : H p = none) (h : RpA K G vs ds) : Rel K G F ((.own ds, some (.ref p)) :: T) ρ σ (upd H p (.lst vs)) := ⟨R.len, R.l.pushOwn hn h⟩
theorem Rel.pushT {p : Addr} {vs : List V} {ds : List D} (R : Rel K G F T ρ σ H) (hn : H p = none) (h : RpA K G vs ds) :
    Rel K (upd G p (.tup vs)) F ((.val (.tuple ds), some (.ref p)) :: T) ρ σ (upd H p (.tup vs)) :=
  ⟨R.len, (R.l.grow hn).pushVal (.tup upd_same (h.up (Ex.new (free_of R.l.eg hn))))⟩
theorem exg {p : Addr} {o : HO} (R : Rel K G F T ρ σ H) (hn : H p = none) : Ex G (upd G p o) := Ex.new (free_of R.l.eg hn)
theorem opS_I {C : Int → Int → Prop} {Cb : Int → Int → Bool} {g : Int → Int → Int} (hC : ∀ i j, Cb i j = true → C i j) : OpS K (rI C fun i j => .int (g i j)) (fI Cb g) := by
  intro G F T ρ σ H x y z v w Q R h q
  unfold fI at h
  split at h
  · rename_i i j
    split at h
    · rename_i hc
      cases h
      exact ⟨i, j, int_of R.snd, int_of R.fst, hC i j hc, q _ G H (Ex.refl G) (R.drop.drop.pushV (.int _))⟩
    · cases h
  · cases h
theorem opS_B {g : Int → Int → Bool} : OpS K (rI0 fun i j => .bl (g i j)) (fB g) := by
  intro G F T ρ σ H x y z v w Q R h q
  unfold fB at h
  split at h
  · cases h
    exact ⟨_, _, int_of R.snd, int_of R.fst, q _ G H (Ex.refl G) (R.drop.drop.pushV (.bl _))⟩
  · cases h
/-! + -/
@[simp] def fAdd (x y : Sl) : Option Sl := match x, y with
  | .val (.int i), .val (.int j) => some (.val (.int (i + j)))
  | .val (.str a), .val (.str b) => if a.length + b.length ≤ sizeLine then some (.val (.str (a ++ b))) else none
  | x, y => match lstOf x, lstOf y with
    | some xs, some ys => if xs.length + ys.length ≤ sizeLine then some (.own (xs ++ ys)) else none
    | _, _ => none
def rAddA (K : PySem.W.Frag) : R2 := fun x y H Q => (rI0 fun i j => .int (i + j)) x y H Q ∨ ((∃ i j, x = .str i ∧ y = .str j ∧ i.length + j.length ≤ sizeLine ∧ Q (.str (i ++ j)) H) ∨ rCatR K x y H Q)
theorem op_addA {X : Cx} : OpR X (binaryOp .Add) (rAddA X.K) := OpR.or op_add (OpR.or op_add_str op_catR)
theorem opS_add : OpS K (rAddA K) fAdd := by
  intro G F T ρ σ H x y z v w Q R h q
  unfold fAdd at h
  split at h
  · cases h
    exact .inl ⟨_, _, int_of R.snd, int_of R.fst, q _ G H (Ex.refl G) (R.drop.drop.pushV (.int _))⟩
  · split at h
    · rename_i hl
      cases h
      exact .inr (.inl ⟨_, _, str_of R.snd, str_of R.fst, hl, q _ G H (Ex.refl G) (R.drop.drop.pushV (.str _))⟩)
    · cases h
  · split at h
    · rename_i xs ys h1 h2
      split at h
      · rename_i hl
        cases h
        obtain ⟨a, us, e1, s1, r1⟩ := lst_of R.l.eg h1 R.snd
        obtain ⟨b, ws, e2, s2, r2⟩ := lst_of R.l.eg h2 R.fst
        refine .inr (.inr ⟨a, b, us, ws, e1, e2, s1, s2, by rw [r1.len, r2.len]; exact hl, fun p hp => ?_⟩)
        exact q _ G _ (Ex.refl G) (R.drop.drop.pushO hp (r1.app r2))
      · cases h
    · cases h
/-! * -/
@[simp] def cMul (i j : Int) : Bool := decide (i.natAbs.log2 + j.natAbs.log2 < 1000000) || (decide (i.natAbs.log2 < 60) || decide (j.natAbs.log2 < 60))
theorem cMul_ok {i j : Int} (h : cMul i j = true) : IntMulOk i j := by
  have b : ∀ x : Int, Builtin.Int.intBits x ≤ x.natAbs.log2 + 1 := fun x => by
    unfold Builtin.Int.intBits
    split <;> omega
  unfold cMul at h
  rcases Bool.or_eq_true_iff.mp h with h | h
  · exact CMulW.ok (i := i) (j := j) (show i.natAbs.log2 + j.natAbs.log2 < 1000000 from of_decide_eq_true h)
  · rcases Bool.or_eq_true_iff.mp h with h | h
    · exact IntMulOk.of_left (by have := of_decide_eq_true h; have := b i; omega)
    · exact IntMulOk.of_right (by have := of_decide_eq_true h; have := b j; omega)
/-- a list times an int -/
@[simp] def fMul (x y : Sl) : Option Sl := match x, y with
  | .val (.int i), .val (.int j) => if cMul i j = true then some (.val (.int (i * j))) else none
  | .own xs, .val (.int k) => if -(2 ^ 63) ≤ k ∧ k < 2 ^ 63 ∧ xs.length * k.toNat ≤ sizeLine then some (.own (List.replicate k.toNat xs).flatten) else none
  | _, _ => none
theorem op_mulX {X : Cx} : OpR X (binaryOp .Mult) (rI IntMulOk fun i j => .int (i * j)) := opI fun _ _ _ _ _ _ _ hc q => mul_int q hc
def rMulA : R2 := fun x y H Q => (rI IntMulOk fun i j => .int (i * j)) x y H Q ∨ rRep x y H Q
theorem op_mulA {X : Cx} : OpR X (binaryOp .Mult) rMulA := OpR.or op_mulX op_rep
theorem RpA.rep {vs : List V} {ds : List D} (h : RpA K G vs ds) : ∀ n : Nat, RpA K G (List.replicate n vs).flatten (List.replicate n ds).flatten
  | 0 => .nil
  | n + 1 => by
    rw [List.replicate_succ, List.replicate_succ, List.flatten_cons, List.flatten_cons]
    exact h.app (RpA.rep h n)
theorem opS_mul : OpS K rMulA fMul := by
  intro G F T ρ σ H x y z v w Q R h q
  unfold fMul at h
  split at h
  · split at h
    · rename_i hc
      cases h
      exact .inl ⟨_, _, int_of R.snd, int_of R.fst, cMul_ok hc, q _ G H (Ex.refl G) (R.drop.drop.pushV (.int _))⟩
    · cases h
  · split at h
    · rename_i xs k hc
      cases h
      obtain ⟨p, vs, e1, h1, h2, h3, ha⟩ := R.snd
      cases e1
      refine .inr ⟨p, k, vs, rfl, int_of R.fst, h1, hc.1, hc.2.1, by rw [ha.len]; exact hc.2.2, fun p' hp => ?_⟩
      exact q _ G _ (Ex.refl G) (R.drop.drop.pushO hp (ha.rep _))
    · cases h
  · cases h
/-! // % ** -/
@[simp] def cDiv (_ j : Int) : Bool := decide (0 < j) && decide (j.natAbs.log2 < 9000)
@[simp] def cMod (_ j : Int) : Bool := decide (0 < j)
def CPowW (i j : Int) : Prop := 0 ≤ j ∧ ((i.natAbs.log2 + 1 : Nat) : Int) * j ≤ 2 ^ 27
@[simp] def cPow (i j : Int) : Bool := decide (0 ≤ j) && (decide (j.toNat ≤ 1000) && decide (i.natAbs.log2 < 100000))
theorem op_powW {X : Cx} : OpR X (binaryOp .Pow) (rI CPowW fun i j => .int (i ^ j.toNat)) := opI fun i j _ _ _ _ _ hc q => by
  refine pow_int hc.1 ?_ q
  have hb : (Builtin.Int.intBits i : Int) ≤ ((i.natAbs.log2 + 1 : Nat) : Int) := by
    unfold Builtin.Int.intBits
    split <;> omega
  exact Int.le_trans (Int.mul_le_mul_of_nonneg_right hb hc.1) hc.2
theorem opS_div : OpS K (rI CDivW fun i j => .int (i / j)) (fI cDiv fun i j => i / j) := opS_I fun i j h => by
  have h2 := Bool.and_eq_true_iff.mp h
  exact ⟨of_decide_eq_true h2.1, of_decide_eq_true h2.2⟩
theorem opS_mod : OpS K (rI (fun _ j => 0 < j) fun i j => .int (i % j)) (fI cMod fun i j => i % j) := opS_I fun i j h => of_decide_eq_true h
theorem cPow_fits {i j : Int} (h : cPow i j = true) : CPowW i j := by
  unfold cPow at h
  simp only [Bool.and_eq_true, decide_eq_true_eq] at h
  obtain ⟨h1, h2, h3⟩ := h
  refine ⟨h1, ?_⟩
  have hj : j ≤ 1000 := by omega
  have hi : ((i.natAbs.log2 + 1 : Nat) : Int) ≤ 100000 := by omega
  have h4 := Int.mul_le_mul hi hj h1 (by decide)
  exact Int.le_trans h4 (by decide)
theorem opS_pow : OpS K (rI CPowW fun i j => .int (i ^ j.toNat)) (fI cPow fun i j => i ^ j.toNat) := opS_I fun i j h => cPow_fits h
theorem opS_sub : OpS K (rI0 fun i j => .int (i - j)) (fI (fun _ _ => true) fun i j => i - j) := by
  intro G F T ρ σ H x y z v w Q R h q
  unfold fI at h
  split at h
  · cases h
    exact ⟨_, _, int_of R.snd, int_of R.fst, q _ G H (Ex.refl G) (R.drop.drop.pushV (.int _))⟩
  · cases h
@[simp] def fNeg : Sl → Option Sl
  | .val (.int i) => some (.val (.int (-i)))
  | _ => none
theorem unS_neg : UnS K (rU fun i => .int (-i)) fNeg := by
  intro G F T ρ σ H x z v Q R h q
  unfold fNeg at h
  split at h
  · cases h
    exact ⟨_, int_of R.fst, q _ G H (Ex.refl G) (R.drop.pushV (.int _))⟩
  · cases h
/-! == -/
@[simp] def fEq (neg : Bool) (x y : Sl) : Option Sl := match datOf x, datOf y with
  | some d, some e => if (SeqAt.shaped d && SeqAt.shaped e) = true then some (.val (.bool (if neg then !PyData.eqv d e else PyData.eqv d e))) else none
  | _, _ => none
theorem opS_eq : OpS K (rEqD K) (fEq false) := by
  intro G F T ρ σ H x y z v w Q R h q
  unfold fEq at h
  split at h
  · rename_i d e h1 h2
    split at h
    · rename_i hc
      cases h
      have hc2 := Bool.and_eq_true_iff.mp hc
      exact ⟨d, e, dp_of _ _ (SeqAt.canLay_of_shaped hc2.1) (dat_of R.l.eg h1 R.snd), dp_of _ _ (SeqAt.canLay_of_shaped hc2.2) (dat_of R.l.eg h2 R.fst), hc2.1, hc2.2, q _ G H (Ex.refl G) (R.drop.drop.pushV (.bl _))⟩
    · cases h
  · cases h
theorem opS_ne : OpS K (rNeD K) (fEq true) := by
  intro G F T ρ σ H x y z v w Q R h q
  unfold fEq at h
  split at h
  · rename_i d e h1 h2
    split at h
    · rename_i hc
      cases h
      have hc2 := Bool.and_eq_true_iff.mp hc
      exact ⟨d, e, dp_of _ _ (SeqAt.canLay_of_shaped hc2.1) (dat_of R.l.eg h1 R.snd), dp_of _ _ (SeqAt.canLay_of_shaped hc2.2) (dat_of R.l.eg h2 R.fst), hc2.1, hc2.2, q _ G H (Ex.refl G) (R.drop.drop.pushV (.bl _))⟩
    · cases h
  · cases h
/-! is None -/
@[simp] def isNone : Sl → Bool
  | .val .none => true
  | _ => false
@[simp] def fIsN (neg : Bool) (x y : Sl) : Option Sl := match x, y with
  | .un, _ => none
  | x, .val .none => some (.val (.bool (if neg then !isNone x else isNone x)))
  | _, _ => none
theorem non_of (h : SlOk K G F H (.val .none, some v)) : v = .non := by
  obtain ⟨v', e, hv⟩ := h
  cases e
  cases hv
  rfl
theorem isNone_ok (hu : x ≠ .un) (h : SlOk K G F H (x, some v)) : decide (v = .non) = isNone x := by
  cases x with
  | un => exact absurd rfl hu
  | ex c =>
    obtain ⟨a, e, _⟩ := h
    cases e
    simp [isNone]
  | val d =>
    obtain ⟨v', e, hv⟩ := h
    cases e
    cases hv <;> simp [isNone]
  | own ds =>
    obtain ⟨p, vs, e1, _⟩ := h
    cases e1
    simp [isNone]
def rIsN0 : R2 := fun x y H Q => y = .non ∧ Q (.bl (decide (x = .non))) H
def rNotN0 : R2 := fun x y H Q => y = .non ∧ Q (.bl (!decide (x = .non))) H
theorem op_isN0 {X : Cx} : OpR X (compareOp .Is) rIsN0 := op_isN
theorem op_notN0 {X : Cx} : OpR X (compareOp .IsNot) rNotN0 := op_notN
theorem opS_isN : OpS K rIsN0 (fIsN false) := by
  intro G F T ρ σ H x y z v w Q R h q
  unfold fIsN at h
  split at h
  · cases h
  · rename_i x hx
    cases h
    refine ⟨non_of R.fst, ?_⟩
    rw [isNone_ok hx R.snd]
    exact q _ G H (Ex.refl G) (R.drop.drop.pushV (.bl _))
  · cases h
theorem opS_notN : OpS K rNotN0 (fIsN true) := by
  intro G F T ρ σ H x y z v w Q R h q
  unfold fIsN at h
  split at h
  · cases h
  · rename_i x hx
    cases h
    refine ⟨non_of R.fst, ?_⟩
    rw [isNone_ok hx R.snd]
    exact q _ G H (Ex.refl G) (R.drop.drop.pushV (.bl _))
  · cases h
/-! x[i] -/
@[simp] def fIx (x y : Sl) : Option Sl := match y with
  | .val (.int k) => match x with
    | .val (.str z) => if z.length ≤ sizeLine then (atI z.cps.toList k).map fun c => .val (.str ⟨#[c]⟩) else none
    | x => match seqOf x with
      | some ds => (atI ds k).map .val
      | none => none
  | _ => none
theorem atI_rp {xs : List V} {ds : List D} {k : Int} {d : D} (h : RpA K G xs ds) (e : atI ds k = some d) : ∃ v, atI xs k = some v ∧ Rp K G v d := by
  unfold atI at e ⊢
  rw [h.len]
  cases hx : ixN ds.length k with
  | none => rw [hx] at e; cases e
  | some j =>
    rw [hx] at e
    exact h.getD e
theorem opS_ix : OpS K (rIx K) fIx := by
  intro G F T ρ σ H x y z v w Q R h q
  unfold fIx at h
  split at h
  · rename_i k
    have hw := int_of R.fst
    split at h
    · rename_i s
      split at h
      · rename_i hl
        cases hc : atI s.cps.toList k with
        | none => rw [hc] at h; cases h
        | some c =>
          rw [hc] at h
          cases h
          exact .inr (.inr ⟨s, k, c, str_of R.snd, hw, hl, hc, q _ G H (Ex.refl G) (R.drop.drop.pushV (.str _))⟩)
      · cases h
    · split at h
      · rename_i ds hs
        obtain ⟨a, xs, e1, s1, r1⟩ := seq_of R.l.eg hs R.snd
        cases hc : atI ds k with
        | none => rw [hc] at h; cases h
        | some d =>
          rw [hc] at h
          cases h
          obtain ⟨u, hu, hr⟩ := atI_rp r1 hc
          rcases s1 with s1 | s1
          · exact .inl ⟨a, xs, k, u, e1, hw, s1, hu, q _ G H (Ex.refl G) (R.drop.drop.pushV hr)⟩
          · exact .inr (.inl ⟨a, xs, k, u, e1, hw, s1, hu, q _ G H (Ex.refl G) (R.drop.drop.pushV hr)⟩)
      · cases h
  · cases h
end
section
variable {K : PySem.W.Frag} {X : Cx} {a b c : Expr} {ta tb tc : TE} {ma mb mc : MX} {pos : Pos}
theorem me_add (ha : ME X K a ta ma) (hb : ME X K b tb mb) : ME X K (.BinOp a .Add b pos) (tOp (rAddA K) ta tb) (mBin fAdd ma mb) := by
  obtain rfl := ha.hK
  exact me_bin opS_add op_addA ha hb
theorem me_sub (ha : ME X K a ta ma) (hb : ME X K b tb mb) : ME X K (.BinOp a .Sub b pos) (tOp (rI0 fun i j => .int (i - j)) ta tb) (mBin (fI (fun _ _ => true) fun i j => i - j) ma mb) := by
  obtain rfl := ha.hK
  exact me_bin opS_sub op_sub ha hb
theorem me_mul (ha : ME X K a ta ma) (hb : ME X K b tb mb) : ME X K (.BinOp a .Mult b pos) (tOp rMulA ta tb) (mBin fMul ma mb) := by
  obtain rfl := ha.hK
  exact me_bin opS_mul op_mulA ha hb
theorem me_div (ha : ME X K a ta ma) (hb : ME X K b tb mb) : ME X K (.BinOp a .FloorDiv b pos) (tOp (rI CDivW fun i j => .int (i / j)) ta tb) (mBin (fI cDiv fun i j => i / j) ma mb) := by
  obtain rfl := ha.hK
  exact me_bin opS_div op_fdivW ha hb
theorem me_mod (ha : ME X K a ta ma) (hb : ME X K b tb mb) : ME X K (.BinOp a .Mod b pos) (tOp (rI (fun _ j => 0 < j) fun i j => .int (i % j)) ta tb) (mBin (fI cMod fun i j => i % j) ma mb) := by
  obtain rfl := ha.hK
  exact me_bin opS_mod op_mod ha hb
theorem me_pow (ha : ME X K a ta ma) (hb : ME X K b tb mb) : ME X K (.BinOp a .Pow b pos) (tOp (rI CPowW fun i j => .int (i ^ j.toNat)) ta tb) (mBin (fI cPow fun i j => i ^ j.toNat) ma mb) := by
  obtain rfl := ha.hK
  exact me_bin opS_pow op_powW ha hb
theorem me_neg (ha : ME X K a ta ma) : ME X K (.UnaryOp .USub a pos) (tUn (rU fun i => .int (-i)) ta) (mUn fNeg ma) := by
  obtain rfl := ha.hK
  exact me_un unS_neg un_neg ha
theorem me_lt (ha : ME X K a ta ma) (hb : ME X K b tb mb) : ME X K (.Compare a [.Lt] [b] pos) (tOp (rI0 fun i j => .bl (decide (i < j))) ta tb) (mBin (fB fun i j => decide (i < j)) ma mb) := by
  obtain rfl := ha.hK
  exact me_cmp opS_B op_lt (nomark _) ha hb
theorem me_le (ha : ME X K a ta ma) (hb : ME X K b tb mb) : ME X K (.Compare a [.LtE] [b] pos) (tOp (rI0 fun i j => .bl (decide (i ≤ j))) ta tb) (mBin (fB fun i j => decide (i ≤ j)) ma mb) := by
  obtain rfl := ha.hK
  exact me_cmp opS_B op_le (nomark _) ha hb
theorem me_gt (ha : ME X K a ta ma) (hb : ME X K b tb mb) : ME X K (.Compare a [.Gt] [b] pos) (tOp (rI0 fun i j => .bl (decide (j < i))) ta tb) (mBin (fB fun i j => decide (j < i)) ma mb) := by
  obtain rfl := ha.hK
  exact me_cmp opS_B op_gt (nomark _) ha hb
theorem me_ge (ha : ME X K a ta ma) (hb : ME X K b tb mb) : ME X K (.Compare a [.GtE] [b] pos) (tOp (rI0 fun i j => .bl (decide (j ≤ i))) ta tb) (mBin (fB fun i j => decide (j ≤ i)) ma mb) := by
  obtain rfl := ha.hK
  exact me_cmp opS_B op_ge (nomark _) ha hb
theorem me_eq (hu : X.A.units + 64 < cLine) (ha : ME X K a ta ma) (hb : ME X K b tb mb) : ME X K (.Compare a [.Eq] [b] pos) (tOp (rEqD K) ta tb) (mBin (fEq false) ma mb) := by
  obtain rfl := ha.hK
  exact me_cmp opS_eq (op_eqD hu) (nomark _) ha hb
theorem me_ne (hu : X.A.units + 64 < cLine) (ha : ME X K a ta ma) (hb : ME X K b tb mb) : ME X K (.Compare a [.NotEq] [b] pos) (tOp (rNeD K) ta tb) (mBin (fEq true) ma mb) := by
  obtain rfl := ha.hK
  exact me_cmp opS_ne (op_neD hu) (nomark _) ha hb
theorem me_isN (ha : ME X K a ta ma) (hb : ME X K b tb mb) : ME X K (.Compare a [.Is] [b] pos) (tOp rIsN0 ta tb) (mBin (fIsN false) ma mb) := by
  obtain rfl := ha.hK
  exact me_cmp opS_isN op_isN0 (nomark _) ha hb
theorem me_notN (ha : ME X K a ta ma) (hb : ME X K b tb mb) : ME X K (.Compare a [.IsNot] [b] pos) (tOp rNotN0 ta tb) (mBin (fIsN true) ma mb) := by
  obtain rfl := ha.hK
  exact me_cmp opS_notN op_notN0 (nomark _) ha hb
theorem met_lt (ha : ME X K a ta ma) (hb : ME X K b tb mb) : MET X K (.Compare a [.Lt] [b] pos) (tTest (tOp (rI0 fun i j => .bl (decide (i < j))) ta tb)) (mB (mBin (fB fun i j => decide (i < j)) ma mb)) := by
  obtain rfl := ha.hK
  exact met_cmp opS_B op_lt (nomark _) ha hb
theorem met_le (ha : ME X K a ta ma) (hb : ME X K b tb mb) : MET X K (.Compare a [.LtE] [b] pos) (tTest (tOp (rI0 fun i j => .bl (decide (i ≤ j))) ta tb)) (mB (mBin (fB fun i j => decide (i ≤ j)) ma mb)) := by
  obtain rfl := ha.hK
  exact met_cmp opS_B op_le (nomark _) ha hb
theorem met_gt (ha : ME X K a ta ma) (hb : ME X K b tb mb) : MET X K (.Compare a [.Gt] [b] pos) (tTest (tOp (rI0 fun i j => .bl (decide (j < i))) ta tb)) (mB (mBin (fB fun i j => decide (j < i)) ma mb)) := by
  obtain rfl := ha.hK
  exact met_cmp opS_B op_gt (nomark _) ha hb
theorem met_ge (ha : ME X K a ta ma) (hb : ME X K b tb mb) : MET X K (.Compare a [.GtE] [b] pos) (tTest (tOp (rI0 fun i j => .bl (decide (j ≤ i))) ta tb)) (mB (mBin (fB fun i j => decide (j ≤ i)) ma mb)) := by
  obtain rfl := ha.hK
  exact met_cmp opS_B op_ge (nomark _) ha hb
theorem met_eq (hu : X.A.units + 64 < cLine) (ha : ME X K a ta ma) (hb : ME X K b tb mb) : MET X K (.Compare a [.Eq] [b] pos) (tTest (tOp (rEqD K) ta tb)) (mB (mBin (fEq false) ma mb)) := by
  obtain rfl := ha.hK
  exact met_cmp opS_eq (op_eqD hu) (nomark _) ha hb
theorem met_ne (hu : X.A.units + 64 < cLine) (ha : ME X K a ta ma) (hb : ME X K b tb mb) : MET X K (.Compare a [.NotEq] [b] pos) (tTest (tOp (rNeD K) ta tb)) (mB (mBin (fEq true) ma mb)) := by
  obtain rfl := ha.hK
  exact met_cmp opS_ne (op_neD hu) (nomark _) ha hb
theorem met_isN (ha : ME X K a ta ma) (hb : ME X K b tb mb) : MET X K (.Compare a [.Is] [b] pos) (tTest (tOp rIsN0 ta tb)) (mB (mBin (fIsN false) ma mb)) := by
  obtain rfl := ha.hK
  exact met_cmp opS_isN op_isN0 (nomark _) ha hb
theorem met_notN (ha : ME X K a ta ma) (hb : ME X K b tb mb) : MET X K (.Compare a [.IsNot] [b] pos) (tTest (tOp rNotN0 ta tb)) (mB (mBin (fIsN true) ma mb)) := by
  obtain rfl := ha.hK
  exact met_cmp opS_notN op_notN0 (nomark _) ha hb
theorem me_ix (ha : ME X K a ta ma) (hb : ME X K b tb mb) (hp : PlainIx b) : ME X K (.Subscript a b pos) (tOp (rIx K) ta tb) (mBin fIx ma mb) := by
  obtain rfl := ha.hK
  exact ⟨rfl, pe_ix ix_seq ha.pe hb.pe hp, den_bin opS_ix ha.dn hb.dn⟩
end
/-! a <= b <= c over ints -/
def mChain (p p' : Int → Int → Bool) (a b c : MX) : MX := fun ρ => match a ρ with
  | some (.val (.int i), ρ1) => match b ρ1 with
    | some (.val (.int j), ρ2) => if p i j = true then match c ρ2 with
        | some (.val (.int k), ρ3) => some (.val (.bool (p' j k)), ρ3)
        | _ => none
      else some (.val (.bool false), ρ2)
    | _ => none
  | _ => none
theorem den_chain {K : PySem.W.Frag} {p p' : Int → Int → Bool} {ta tb tc : TE} {ma mb mc : MX} (ha : Den K ta ma) (hb : Den K tb mb) (hc : Den K tc mc) :
    Den K (tChain (rI0 fun i j => .bl (p i j)) (rI0 fun i j => .bl (p' i j)) ta tb tc) (mChain p p' ma mb mc) := by
  intro G F T ρ σ H z ρ' Q R h q
  unfold mChain at h
  split at h
  · rename_i i ρ1 h1
    split at h
    · rename_i j ρ2 h2
      refine ha G F T ρ σ H _ ρ1 _ R h1 fun v G1 H1 e1 R1 => ?_
      refine hb G1 F _ ρ1 σ H1 _ ρ2 _ R1 h2 fun w G2 H2 e2 R2 => ?_
      refine ⟨i, j, int_of R2.snd, int_of R2.fst, p i j, rfl, ?_⟩
      by_cases hp : p i j = true
      · rw [if_pos hp] at h ⊢
        split at h
        · rename_i k ρ3 h3
          cases h
          refine hc G2 F _ ρ2 σ H2 _ ρ' _ R2 h3 fun u G3 H3 e3 R3 => ?_
          exact ⟨j, k, int_of R2.fst, int_of R3.fst, q _ G3 H3 ((e1.trans e2).trans e3) (R3.drop.drop.drop.pushV (.bl _))⟩
        · cases h
      · rw [if_neg hp] at h ⊢
        cases h
        exact q _ G2 H2 (e1.trans e2) (R2.drop.drop.pushV (.bl _))
    · cases h
  · cases h
section
variable {K : PySem.W.Frag} {X : Cx} {a b c : Expr} {ta tb tc : TE} {ma mb mc : MX} {pos : Pos}
theorem me_lele (ha : ME X K a ta ma) (hb : ME X K b tb mb) (hc : ME X K c tc mc) (hm : lastMarks [.LtE, .LtE] [b, c] = false := by with_unfolding_all rfl) :
    ME X K (.Compare a [.LtE, .LtE] [b, c] pos) (tChain (rI0 fun i j => .bl (decide (i ≤ j))) (rI0 fun i j => .bl (decide (i ≤ j))) ta tb tc) (mChain (fun i j => decide (i ≤ j)) (fun i j => decide (i ≤ j)) ma mb mc) := by
  obtain rfl := ha.hK
  exact ⟨rfl, pe_chain op_le op_le ha.pe hb.pe hc.pe hm, den_chain ha.dn hb.dn hc.dn⟩
theorem met_lele (ha : ME X K a ta ma) (hb : ME X K b tb mb) (hc : ME X K c tc mc) (hm : lastMarks [.LtE, .LtE] [b, c] = false := by with_unfolding_all rfl) :
    MET X K (.Compare a [.LtE, .LtE] [b, c] pos) (tTest (tChain (rI0 fun i j => .bl (decide (i ≤ j))) (rI0 fun i j => .bl (decide (i ≤ j))) ta tb tc)) (mB (mChain (fun i j => decide (i ≤ j)) (fun i j => decide (i ≤ j)) ma mb mc)) := by
  obtain rfl := ha.hK
  exact ⟨rfl, pt_chain op_le op_le ha.pe hb.pe hc.pe hm, denT_B (den_chain ha.dn hb.dn hc.dn)⟩
end
end Dn

namespace Dn
open PySem PySem.Spec PyProof.Rows L2
open Evl (Ex)

/-! ### several entries given away -/
@[simp] def datAll : List Sl → Option (List D)
  | [] => some []
  | s :: r => match datOf s, datAll r with
    | some d, some ds => some (d :: ds)
    | _, _ => none
section
variable {K : PySem.W.Frag} {F : Hp} {ρ : List Sl} {σ : L2.St}
theorem Rel.giveAll : ∀ {rs : List Sl} {vs : List V} {ds : List D} {G H : Hp} {T : List Ent}, rs.length = vs.length → Rel K G F (ents rs vs ++ T) ρ σ H → datAll rs = some ds → ∃ G', Ex G G' ∧ RpA K G' vs ds ∧ Rel K G' F T ρ σ H
  | [], [], ds, G, H, T, _, R, e => by
    cases e
    exact ⟨G, Ex.refl G, .nil, R⟩
  | [], _ :: _, _, _, _, _, l, _, _ => by cases l
  | _ :: _, [], _, _, _, _, l, _, _ => by cases l
  | s :: rs, v :: vs, ds, G, H, T, l, R, e => by
    unfold datAll at e
    cases h1 : datOf s with
    | none => rw [h1] at e; cases e
    | some d =>
      cases h2 : datAll rs with
      | none => rw [h1, h2] at e; cases e
      | some es =>
        rw [h1, h2] at e
        cases e
        have hl : rs.length = vs.length := Nat.succ.inj l
        have R' : Rel K G F ((s, some v) :: (ents rs vs ++ T)) ρ σ H := R
        have key : ∃ G1, Ex G G1 ∧ Rel K G1 F ((.val d, some v) :: (ents rs vs ++ T)) ρ σ H := by
          cases s with
          | un => cases h1
          | ex c => cases h1
          | val d' => cases h1; exact ⟨G, Ex.refl G, R'⟩
          | own es' =>
            cases h1
            obtain ⟨G1, e1, R1⟩ := R'.l.give
            exact ⟨G1, e1, R.len, R1⟩
        obtain ⟨G1, e1, R1⟩ := key
        obtain ⟨v', ev, hv⟩ := R1.fst
        cases ev
        obtain ⟨G2, e2, ha, R2⟩ := Rel.giveAll hl R1.drop h2
        exact ⟨G2, e1.trans e2, .cons (hv.up e2) ha, R2⟩
end
theorem datAll_len : ∀ {rs : List Sl} {ds : List D}, datAll rs = some ds → ds.length = rs.length
  | [], _, e => by cases e; rfl
  | s :: r, ds, e => by
    unfold datAll at e
    cases h1 : datOf s with
    | none => rw [h1] at e; cases e
    | some d =>
      cases h2 : datAll r with
      | none => rw [h1, h2] at e; cases e
      | some es =>
        rw [h1, h2] at e
        cases e
        exact congrArg (· + 1) (datAll_len h2)
def mTup (a : MA) : MX := fun ρ => match a ρ with
  | none => none
  | some (xs, ρ1) => match datAll xs with
    | none => none
    | some ds => if ds.length ≤ sizeLine then some (.val (.tuple ds), ρ1) else none
def mLst (a : MA) : MX := fun ρ => match a ρ with
  | none => none
  | some (xs, ρ1) => match datAll xs with
    | none => none
    | some ds => if ds.length ≤ sizeLine then some (.own ds, ρ1) else none
section
variable {K : PySem.W.Frag} {X : Cx} {a b c : Expr} {ta tb tc : TE} {ma mb mc : MX} {pos : Pos} {es : List Expr} {t : TA} {m : MA}
theorem den_tup (ha : DenA K t m) : Den K (tTup t) (mTup m) := by
  intro G F T ρ σ H z ρ' Q R h q
  unfold mTup at h
  cases h1 : m ρ with
  | none => rw [h1] at h; cases h
  | some p1 =>
    obtain ⟨xs, ρ1⟩ := p1
    cases h3 : datAll xs with
    | none => simp only [h1, h3] at h; cases h
    | some ds =>
      simp only [h1, h3] at h
      split at h
      · rename_i hl
        cases h
        refine ha G F T ρ σ H xs ρ' _ R h1 fun vs G1 H1 e1 l1 R1 => ?_
        obtain ⟨G2, e2, hr, R2⟩ := R1.giveAll l1 h3
        refine ⟨by rw [hr.len]; exact hl, fun p hp => ?_⟩
        exact q _ _ _ ((e1.trans e2).trans (exg R2 hp)) (R2.pushT hp hr)
      · cases h
theorem den_lst (ha : DenA K t m) : Den K (tLst t) (mLst m) := by
  intro G F T ρ σ H z ρ' Q R h q
  unfold mLst at h
  cases h1 : m ρ with
  | none => rw [h1] at h; cases h
  | some p1 =>
    obtain ⟨xs, ρ1⟩ := p1
    cases h3 : datAll xs with
    | none => simp only [h1, h3] at h; cases h
    | some ds =>
      simp only [h1, h3] at h
      split at h
      · rename_i hl
        cases h
        refine ha G F T ρ σ H xs ρ' _ R h1 fun vs G1 H1 e1 l1 R1 => ?_
        obtain ⟨G2, e2, hr, R2⟩ := R1.giveAll l1 h3
        refine ⟨by rw [hr.len]; exact hl, fun p hp => ?_⟩
        exact q _ _ _ (e1.trans e2) (R2.pushO hp hr)
      · cases h
theorem me_tup {k : Nat} (h : MEA X K es t m) : ME X K (.Tuple es k pos) (tTup t) (mTup m) := by
  obtain rfl := h.hK
  exact ⟨rfl, pe_tup h.pe, den_tup h.dn⟩
theorem me_lst (h : MEA X K es t m) : ME X K (.List es pos) (tLst t) (mLst m) := by
  obtain rfl := h.hK
  exact ⟨rfl, pe_lst h.pe, den_lst h.dn⟩
end
/-! ### slices -/
def cutL {α : Type} (xs : List α) (lo hi : Option Int) : List α := (xs.drop (HT.sIx xs.length 0 lo)).take (HT.sIx xs.length xs.length hi - HT.sIx xs.length 0 lo)
abbrev MO := List Sl → Option (Option Int × List Sl)
def DenO (K : PySem.W.Frag) (t : TO) (m : MO) : Prop := ∀ (G F : Hp) (T : List Ent) (ρ : List Sl) (σ : L2.St) (H : Hp) (o : Option Int) (ρ' : List Sl) (Q : Option Int → Hp → Prop), Rel K G F T ρ σ H → m ρ = some (o, ρ') →
  (∀ G' H', Ex G G' → Rel K G' F T ρ' σ H' → Q o H') → t σ H Q
structure MEO (X : Cx) (K : PySem.W.Frag) (e : Option Expr) (t : TO) (m : MO) : Prop where
  hK : X.K = K
  pe : PO X e t
  dn : DenO K t m
def mON : MO := fun ρ => some (none, ρ)
def mOS (a : MX) : MO := fun ρ => match a ρ with
  | some (.val (.int i), ρ1) => some (some i, ρ1)
  | _ => none
@[simp] def fSl (x : Sl) (lo hi : Option Int) : Option Sl := match x with
  | .val (.str z) => if z.length ≤ sizeLine then some (.val (.str (cutS z lo hi))) else none
  | x => match lstOf x with
    | some ds => some (.own (cutL ds lo hi))
    | none => none
def mSl (a : MX) (l h : MO) : MX := fun ρ => match a ρ with
  | none => none
  | some (x, ρ1) => match l ρ1 with
    | none => none
    | some (lo, ρ2) => match h ρ2 with
      | none => none
      | some (hi, ρ3) => match fSl x lo hi with
        | none => none
        | some z => some (z, ρ3)
def rSlA (K : PySem.W.Frag) : V → Option Int → Option Int → Hp → VK → Prop := fun x lo hi H Q => rSlS x lo hi H Q ∨ rSlL K x lo hi H Q
section
variable {K : PySem.W.Frag} {X : Cx} {a b c : Expr} {ta tb tc : TE} {ma mb mc : MX} {pos : Pos} {tl th : TO} {ml mh : MO} {lo hi : Option Expr}
theorem sl_A : SlR X (rSlA X.K) := SlR.or sl_str sl_list
theorem meo_none (hK : X.K = K := by rfl) : MEO X K none tNoPart mON := by
  obtain rfl := hK
  exact ⟨rfl, po_none, by
    intro G F T ρ σ H o ρ' Q R h q
    cases h
    exact q G H (Ex.refl G) R⟩
theorem meo_some (ha : ME X K a ta ma) : MEO X K (some a) (tPart ta) (mOS ma) := by
  obtain rfl := ha.hK
  exact ⟨rfl, po_some ha.pe, by
    intro G F T ρ σ H o ρ' Q R h q
    unfold mOS at h
    split at h
    · rename_i i ρ1 h1
      cases h
      refine ha.dn G F T ρ σ H _ ρ' _ R h1 fun v G1 H1 e1 R1 => ?_
      exact ⟨i, int_of R1.fst, q G1 H1 e1 R1.drop⟩
    · cases h⟩
theorem den_sl (ha : Den K ta ma) (hl : DenO K tl ml) (hh : DenO K th mh) : Den K (tSl (rSlA K) ta tl th) (mSl ma ml mh) := by
  intro G F T ρ σ H z ρ' Q R h q
  unfold mSl at h
  cases h1 : ma ρ with
  | none => rw [h1] at h; cases h
  | some p1 =>
    obtain ⟨x, ρ1⟩ := p1
    cases h2 : ml ρ1 with
    | none => simp only [h1, h2] at h; cases h
    | some p2 =>
      obtain ⟨lo, ρ2⟩ := p2
      cases h3 : mh ρ2 with
      | none => simp only [h1, h2, h3] at h; cases h
      | some p3 =>
        obtain ⟨hi, ρ3⟩ := p3
        cases h4 : fSl x lo hi with
        | none => simp only [h1, h2, h3, h4] at h; cases h
        | some z' =>
          simp only [h1, h2, h3, h4] at h
          cases h
          refine ha G F T ρ σ H x ρ1 _ R h1 fun v G1 H1 e1 R1 => ?_
          refine hl G1 F _ ρ1 σ H1 lo ρ2 _ R1 h2 fun G2 H2 e2 R2 => ?_
          refine hh G2 F _ ρ2 σ H2 hi ρ' _ R2 h3 fun G3 H3 e3 R3 => ?_
          have e123 := (e1.trans e2).trans e3
          unfold fSl at h4
          split at h4
          · split at h4
            · rename_i s hl
              cases h4
              exact .inl ⟨s, str_of R3.fst, hl, q _ G3 H3 e123 (R3.drop.pushV (.str _))⟩
            · cases h4
          · split at h4
            · rename_i ds hd
              cases h4
              obtain ⟨p, xs, ev, s1, r1⟩ := lst_of R3.l.eg hd R3.fst
              refine .inr ⟨p, xs, ev, s1, fun p' hp => ?_⟩
              refine q _ G3 _ e123 (R3.drop.pushO hp ?_)
              unfold cutV cutL
              rw [r1.len]
              exact (r1.drop _).take _
            · cases h4
theorem me_sl {p2 : Pos} (ha : ME X K a ta ma) (hl : MEO X K lo tl ml) (hh : MEO X K hi th mh) : ME X K (.Subscript a (.Slice lo hi none p2) pos) (tSl (rSlA K) ta tl th) (mSl ma ml mh) := by
  obtain rfl := ha.hK
  exact ⟨rfl, pe_slice sl_A ha.pe hl.pe hh.pe, den_sl ha.dn hl.dn hh.dn⟩
end
/-! ### an own list read where it stands -/
def mIxO (i : Nat) (b : MX) : MX := fun ρ => match ρ[i]? with
  | none => none
  | some s0 => match lstOf s0 with
    | none => none
    | some _ => match b ρ with
      | some (.val (.int k), ρ1) => match ρ1[i]? with
        | some s => match lstOf s with
          | some ds => (atI ds k).map fun d => (.val d, ρ1)
          | none => none
        | none => none
      | _ => none
def mLenO (i : Nat) : MX := fun ρ => match ρ[i]? with
  | some s => match lstOf s with
    | some ds => some (.val (.int ds.length), ρ)
    | none => none
  | none => none
def mTruO (i : Nat) : MT := fun ρ => match ρ[i]? with
  | some s => match lstOf s with
    | some ds => some (!ds.isEmpty, ρ)
    | none => none
  | none => none
/-- x == [..], x != [..] -/
def mEqO (neg : Bool) (i : Nat) (b : MX) : MX := fun ρ => match ρ[i]? with
  | none => none
  | some s0 => match lstOf s0 with
    | none => none
    | some _ => match b ρ with
      | some (y, ρ1) => match ρ1[i]? with
        | some s => match fEq neg s y with
          | some z => some (z, ρ1)
          | none => none
        | none => none
      | none => none
section
variable {K : PySem.W.Frag} {X : Cx} {G F H : Hp} {T : List Ent} {ρ : List Sl} {σ : L2.St} {i : Nat} {s : Sl} {ds : List D} {b : Expr} {tb : TE} {mb : MX} {pos : Pos}
theorem Rel.slot (R : Rel K G F T ρ σ H) (h : ρ[i]? = some s) : ∃ ov, σ[i]? = some ov ∧ SlOk K G F H (s, ov) := by
  obtain ⟨ov, h1, h2⟩ := zip_at R.len h
  exact ⟨ov, h1, R.l.ok (s, ov) (List.mem_append_right _ (List.mem_of_getElem? h2))⟩
theorem Rel.slotL (R : Rel K G F T ρ σ H) (h : ρ[i]? = some s) (e : lstOf s = some ds) : ∃ a xs, σ[i]? = some (some (.ref a)) ∧ SqL K H a xs ∧ RpA K G xs ds := by
  obtain ⟨ov, h1, h2⟩ := R.slot h
  cases ov with
  | none =>
    cases s with
    | un => cases e
    | ex c => cases e
    | val d => obtain ⟨_, z, _⟩ := h2; cases z
    | own ds => obtain ⟨_, _, z, _⟩ := h2; cases z
  | some v =>
    obtain ⟨a, xs, e1, s1, r1⟩ := lst_of R.l.eg e h2
    subst e1
    exact ⟨a, xs, h1, s1, r1⟩
theorem den_ixO (hb : Den K tb mb) : Den K (tOp (rIx K) (tVar i) tb) (mIxO i mb) := by
  intro G F T ρ σ H z ρ' Q R h q
  unfold mIxO at h
  split at h
  · cases h
  · rename_i s0 hs0
    split at h
    · cases h
    · rename_i ds0 hd0
      obtain ⟨a, xs0, ha, _, _⟩ := R.slotL hs0 hd0
      split at h
      · rename_i k ρ1 h1
        split at h
        · rename_i s hs
          split at h
          · rename_i ds hd
            cases hc : atI ds k with
            | none => rw [hc] at h; cases h
            | some d =>
              rw [hc] at h
              cases h
              refine ⟨_, ha, ?_⟩
              refine hb G F T ρ σ H _ ρ' _ R h1 fun v G1 H1 e1 R1 => ?_
              obtain ⟨a', xs, ha', s1, r1⟩ := R1.slotL hs hd
              rw [ha] at ha'
              cases ha'
              obtain ⟨u, hu, hr⟩ := atI_rp r1 hc
              exact .inl ⟨a, xs, k, u, rfl, int_of R1.fst, s1, hu, q _ G1 H1 e1 (R1.drop.pushV hr)⟩
          · cases h
        · cases h
      · cases h
theorem den_eqO (hu : True) (hb : Den K tb mb) : Den K (tOp (rEqD K) (tVar i) tb) (mEqO false i mb) := by
  intro G F T ρ σ H z ρ' Q R h q
  unfold mEqO at h
  split at h
  · cases h
  · rename_i s0 hs0
    split at h
    · cases h
    · rename_i ds0 hd0
      obtain ⟨a, xs0, ha, _, _⟩ := R.slotL hs0 hd0
      split at h
      · rename_i y ρ1 h1
        split at h
        · rename_i s hs
          split at h
          · rename_i z' hz
            cases h
            refine ⟨_, ha, ?_⟩
            refine hb G F T ρ σ H _ ρ' _ R h1 fun v G1 H1 e1 R1 => ?_
            obtain ⟨ov, ho, hok⟩ := R1.slot hs
            rw [ha] at ho
            cases ho
            unfold fEq at hz
            split at hz
            · rename_i d e h2 h3
              split at hz
              · rename_i hc
                cases hz
                have hc2 := Bool.and_eq_true_iff.mp hc
                exact ⟨d, e, dp_of _ _ (SeqAt.canLay_of_shaped hc2.1) (dat_of R1.l.eg h2 hok), dp_of _ _ (SeqAt.canLay_of_shaped hc2.2) (dat_of R1.l.eg h3 R1.fst), hc2.1, hc2.2, q _ G1 H1 e1 (R1.drop.pushV (.bl _))⟩
              · cases hz
            · cases hz
          · cases h
        · cases h
      · cases h
theorem den_neO (hu : True) (hb : Den K tb mb) : Den K (tOp (rNeD K) (tVar i) tb) (mEqO true i mb) := by
  intro G F T ρ σ H z ρ' Q R h q
  unfold mEqO at h
  split at h
  · cases h
  · rename_i s0 hs0
    split at h
    · cases h
    · rename_i ds0 hd0
      obtain ⟨a, xs0, ha, _, _⟩ := R.slotL hs0 hd0
      split at h
      · rename_i y ρ1 h1
        split at h
        · rename_i s hs
          split at h
          · rename_i z' hz
            cases h
            refine ⟨_, ha, ?_⟩
            refine hb G F T ρ σ H _ ρ' _ R h1 fun v G1 H1 e1 R1 => ?_
            obtain ⟨ov, ho, hok⟩ := R1.slot hs
            rw [ha] at ho
            cases ho
            unfold fEq at hz
            split at hz
            · rename_i d e h2 h3
              split at hz
              · rename_i hc
                cases hz
                have hc2 := Bool.and_eq_true_iff.mp hc
                exact ⟨d, e, dp_of _ _ (SeqAt.canLay_of_shaped hc2.1) (dat_of R1.l.eg h2 hok), dp_of _ _ (SeqAt.canLay_of_shaped hc2.2) (dat_of R1.l.eg h3 R1.fst), hc2.1, hc2.2, q _ G1 H1 e1 (R1.drop.pushV (.bl _))⟩
              · cases hz
            · cases hz
          · cases h
        · cases h
      · cases h
theorem den_lenO : Den K (tCB (rLen K) (tCons (tVar i) tNil)) (mLenO i) := by
  intro G F T ρ σ H z ρ' Q R h q
  unfold mLenO at h
  split at h
  · rename_i s hs
    split at h
    · rename_i ds hd
      cases h
      obtain ⟨a, xs, ha, s1, r1⟩ := R.slotL hs hd
      refine ⟨_, ha, _, ds.length, rfl, .inl ⟨xs, s1, r1.len.symm⟩, q _ G H (Ex.refl G) (R.pushV (.int _))⟩
    · cases h
  · cases h
theorem denT_truO : DenT K (fun σ H Q => tVar i σ H fun x H' => ∃ k, TruV K x H' k ∧ Q k H') (mTruO i) := by
  intro G F T ρ σ H z ρ' Q R h q
  unfold mTruO at h
  split at h
  · rename_i s hs
    split at h
    · rename_i ds hd
      cases h
      obtain ⟨a, xs, ha, s1, r1⟩ := R.slotL hs hd
      refine ⟨_, ha, _, .inl ⟨xs, s1, rfl⟩, ?_⟩
      have e : (!xs.isEmpty) = !ds.isEmpty := by cases r1 <;> rfl
      rw [e]
      exact q G H (Ex.refl G) R
    · cases h
  · cases h
section
variable {x : Str} {p1 : Pos}
theorem me_ixO (i : Nat) (hb : ME X K b tb mb) (hp : PlainIx b) (hN : X.N[i]? = some x := by rfl) (hv : Vis X.env.scope x := by first | exact Or.inl rfl | exact Or.inr (Or.inl rfl) | exact Or.inr (Or.inr rfl)) (hd : (x == ("__debug__" : Str)) = false := by decide)
    (hcd : (x == ("__classdict__" : Str)) = false := by decide) : ME X K (.Subscript (.Name x p1) b pos) (tOp (rIx K) (tVar i) tb) (mIxO i mb) := by
  obtain rfl := hb.hK
  exact ⟨rfl, pe_ix ix_seq (pe_var hN hv hd hcd) hb.pe hp, den_ixO hb.dn⟩
theorem me_eqO (i : Nat) (hu : X.A.units + 64 < cLine) (hb : ME X K b tb mb) (hN : X.N[i]? = some x := by rfl) (hv : Vis X.env.scope x := by first | exact Or.inl rfl | exact Or.inr (Or.inl rfl) | exact Or.inr (Or.inr rfl)) (hd : (x == ("__debug__" : Str)) = false := by decide)
    (hcd : (x == ("__classdict__" : Str)) = false := by decide) : ME X K (.Compare (.Name x p1) [.Eq] [b] pos) (tOp (rEqD K) (tVar i) tb) (mEqO false i mb) := by
  obtain rfl := hb.hK
  exact ⟨rfl, pe_cmpR (op_eqD hu) (pe_var hN hv hd hcd) hb.pe (nomark _), den_eqO trivial hb.dn⟩
theorem me_neO (i : Nat) (hu : X.A.units + 64 < cLine) (hb : ME X K b tb mb) (hN : X.N[i]? = some x := by rfl) (hv : Vis X.env.scope x := by first | exact Or.inl rfl | exact Or.inr (Or.inl rfl) | exact Or.inr (Or.inr rfl)) (hd : (x == ("__debug__" : Str)) = false := by decide)
    (hcd : (x == ("__classdict__" : Str)) = false := by decide) : ME X K (.Compare (.Name x p1) [.NotEq] [b] pos) (tOp (rNeD K) (tVar i) tb) (mEqO true i mb) := by
  obtain rfl := hb.hK
  exact ⟨rfl, pe_cmpR (op_neD hu) (pe_var hN hv hd hcd) hb.pe (nomark _), den_neO trivial hb.dn⟩
theorem met_eqO (i : Nat) (hu : X.A.units + 64 < cLine) (hb : ME X K b tb mb) (hN : X.N[i]? = some x := by rfl) (hv : Vis X.env.scope x := by first | exact Or.inl rfl | exact Or.inr (Or.inl rfl) | exact Or.inr (Or.inr rfl)) (hd : (x == ("__debug__" : Str)) = false := by decide)
    (hcd : (x == ("__classdict__" : Str)) = false := by decide) : MET X K (.Compare (.Name x p1) [.Eq] [b] pos) (tTest (tOp (rEqD K) (tVar i) tb)) (mB (mEqO false i mb)) := by
  obtain rfl := hb.hK
  exact ⟨rfl, pt_cmpR (op_eqD hu) (pe_var hN hv hd hcd) hb.pe (nomark _), denT_B (den_eqO trivial hb.dn)⟩
theorem met_neO (i : Nat) (hu : X.A.units + 64 < cLine) (hb : ME X K b tb mb) (hN : X.N[i]? = some x := by rfl) (hv : Vis X.env.scope x := by first | exact Or.inl rfl | exact Or.inr (Or.inl rfl) | exact Or.inr (Or.inr rfl)) (hd : (x == ("__debug__" : Str)) = false := by decide)
    (hcd : (x == ("__classdict__" : Str)) = false := by decide) : MET X K (.Compare (.Name x p1) [.NotEq] [b] pos) (tTest (tOp (rNeD K) (tVar i) tb)) (mB (mEqO true i mb)) := by
  obtain rfl := hb.hK
  exact ⟨rfl, pt_cmpR (op_neD hu) (pe_var hN hv hd hcd) hb.pe (nomark _), denT_B (den_neO trivial hb.dn)⟩
theorem me_lenO (i : Nat) {p2 : Pos} (hg : Gl X "len") (hm : X.mg "len" = none) (hN : X.N[i]? = some x := by rfl) (hv : Vis X.env.scope x := by first | exact Or.inl rfl | exact Or.inr (Or.inl rfl) | exact Or.inr (Or.inr rfl)) (hd : (x == ("__debug__" : Str)) = false := by decide)
    (hcd : (x == ("__classdict__" : Str)) = false := by decide) (hs : starEach [Expr.Name x p1] X.env = [(false, eval (.Name x p1) X.env)] := by rfl) (hK : X.K = K := by rfl) : ME X K (.Call (.Name "len" p2) [.Name x p1] [] pos) (tCB (rLen K) (tCons (tVar i) tNil)) (mLenO i) := by
  obtain rfl := hK
  exact ⟨rfl, pe_callB call_len hg hm boot_len (pa_cons (pe_var hN hv hd hcd) pa_nil hs) (by decide) (by decide) hs rfl, den_lenO⟩
theorem met_truO (i : Nat) (hN : X.N[i]? = some x := by rfl) (hv : Vis X.env.scope x := by first | exact Or.inl rfl | exact Or.inr (Or.inl rfl) | exact Or.inr (Or.inr rfl)) (hd : (x == ("__debug__" : Str)) = false := by decide)
    (hcd : (x == ("__classdict__" : Str)) = false := by decide) (hw : ∀ (whole : Sem Value), PySem.isTrue (.Name x p1) X.env whole = (do
          let v ← whole
          standAt (Expr.pos (.Name x p1))
          holding [v] (truthy v)) := by intro _; rfl) (hK : X.K = K := by rfl) : MET X K (.Name x p1) (fun σ H Q => tVar i σ H fun x H' => ∃ k, TruV K x H' k ∧ Q k H') (mTruO i) := by
  obtain rfl := hK
  exact ⟨rfl, pt_truth (pe_var hN hv hd hcd) hw, denT_truO⟩
end
end
end Dn

namespace Dn
open PySem PySem.Spec PyProof.Rows L2
open Evl (Ex)

/-! ### built-in functions -/
@[simp] def intsOf : List D → Option (List Int)
  | [] => some []
  | .int i :: r => (intsOf r).map (i :: ·)
  | _ :: _ => none
@[simp] def boolsOf : List D → Option (List Bool)
  | [] => some []
  | .bool i :: r => (boolsOf r).map (i :: ·)
  | _ :: _ => none
@[simp] def strsOf : List D → Option (List Str)
  | [] => some []
  | .str i :: r => (strsOf r).map (i :: ·)
  | _ :: _ => none
theorem intsOf_eq : ∀ {ds : List D} {ns : List Int}, intsOf ds = some ns → ds = ns.map PyData.int
  | [], ns, h => by cases h; rfl
  | d :: r, ns, h => by
    cases d with
    | int i =>
      unfold intsOf at h
      cases e : intsOf r with
      | none => rw [e] at h; cases h
      | some ms => rw [e] at h; cases h; rw [intsOf_eq e]; rfl
    | _ => cases h
theorem boolsOf_eq : ∀ {ds : List D} {ns : List Bool}, boolsOf ds = some ns → ds = ns.map PyData.bool
  | [], ns, h => by cases h; rfl
  | d :: r, ns, h => by
    cases d with
    | bool i =>
      unfold boolsOf at h
      cases e : boolsOf r with
      | none => rw [e] at h; cases h
      | some ms => rw [e] at h; cases h; rw [boolsOf_eq e]; rfl
    | _ => cases h
theorem strsOf_eq : ∀ {ds : List D} {ns : List Str}, strsOf ds = some ns → ds = ns.map PyData.str
  | [], ns, h => by cases h; rfl
  | d :: r, ns, h => by
    cases d with
    | str i =>
      unfold strsOf at h
      cases e : strsOf r with
      | none => rw [e] at h; cases h
      | some ms => rw [e] at h; cases h; rw [strsOf_eq e]; rfl
    | _ => cases h
theorem intsOf_map (ns : List Int) : intsOf (ns.map PyData.int) = some ns := by
  induction ns with
  | nil => rfl
  | cons n r ih => simp [intsOf, ih]
theorem boolsOf_map (ns : List Bool) : boolsOf (ns.map PyData.bool) = some ns := by
  induction ns with
  | nil => rfl
  | cons n r ih => simp [boolsOf, ih]
theorem RpA.strs {K : PySem.W.Frag} {H : Hp} : ∀ {vs : List V} {ns : List Str}, RpA K H vs (ns.map PyData.str) → vs = ns.map V.str
  | _, [], h => by cases h; rfl
  | _, n :: ns, h => by
    cases h with
    | cons h1 h2 =>
      cases h1
      rw [RpA.strs h2]
      rfl
theorem RpA.ofStrs {K : PySem.W.Frag} {H : Hp} : ∀ {ns : List Str}, RpA K H (ns.map V.str) (ns.map PyData.str)
  | [] => .nil
  | n :: ns => .cons (.str n) RpA.ofStrs
/-- a list of ints -/
@[simp] def lstI (s : Sl) : Option (List Int) := (lstOf s).bind intsOf
theorem lstI_of {K : PySem.W.Frag} {G F H : Hp} {s : Sl} {v : V} {ns : List Int} (eg : Ex G H) (e : lstI s = some ns) (h : SlOk K G F H (s, some v)) : ∃ a, v = .ref a ∧ SqL K H a (ns.map V.int) := by
  unfold lstI at e
  cases h1 : lstOf s with
  | none => rw [h1] at e; cases e
  | some ds =>
    rw [h1] at e
    have e2 := intsOf_eq e
    subst e2
    obtain ⟨a, xs, ev, s1, r1⟩ := lst_of eg h1 h
    rw [r1.ints] at s1
    exact ⟨a, ev, s1⟩
@[simp] def lstB (s : Sl) : Option (List Bool) := (lstOf s).bind boolsOf
theorem lstB_of {K : PySem.W.Frag} {G F H : Hp} {s : Sl} {v : V} {ns : List Bool} (eg : Ex G H) (e : lstB s = some ns) (h : SlOk K G F H (s, some v)) : ∃ a, v = .ref a ∧ SqL K H a (ns.map V.bl) := by
  unfold lstB at e
  cases h1 : lstOf s with
  | none => rw [h1] at e; cases e
  | some ds =>
    rw [h1] at e
    have e2 := boolsOf_eq e
    subst e2
    obtain ⟨a, xs, ev, s1, r1⟩ := lst_of eg h1 h
    rw [r1.bools] at s1
    exact ⟨a, ev, s1⟩
@[simp] def fLen : List Sl → Option Sl
  | [.val (.str x)] => if x.length ≤ sizeLine then some (.val (.int x.length)) else none
  | [s] => (seqOf s).map fun ds => .val (.int ds.length)
  | _ => none
@[simp] def fSum : List Sl → Option Sl
  | [s] => (lstI s).map fun ns => .val (.int ns.sum)
  | _ => none
def maxI : Int → List Int → Int
  | m, [] => m
  | m, n :: r => maxI (if n > m then n else m) r
theorem maxI_ge : ∀ (r : List Int) (m : Int), m ≤ maxI m r ∧ ∀ y ∈ r, y ≤ maxI m r
  | [], m => ⟨Int.le_refl m, fun y h => by cases h⟩
  | n :: r, m => by
    have h := maxI_ge r (if n > m then n else m)
    unfold maxI
    refine ⟨?_, fun y hy => ?_⟩
    · split at h <;> rename_i c <;> simp only [c] <;> simp at * <;> omega
    · rcases List.mem_cons.mp hy with rfl | hy
      · split at h <;> rename_i c <;> simp only [c] <;> simp at * <;> omega
      · exact h.2 y hy
theorem maxI_mem : ∀ (r : List Int) (m : Int), maxI m r ∈ m :: r
  | [], m => List.mem_cons_self
  | n :: r, m => by
    have h := maxI_mem r (if n > m then n else m)
    unfold maxI
    rcases List.mem_cons.mp h with e | h
    · rw [e]
      split
      · exact List.mem_cons_of_mem _ List.mem_cons_self
      · exact List.mem_cons_self
    · exact List.mem_cons_of_mem _ (List.mem_cons_of_mem _ h)
@[simp] def fMax1 : List Sl → Option Sl
  | [s] => match lstI s with
    | some (n :: r) => some (.val (.int (maxI n r)))
    | _ => none
  | _ => none
@[simp] def fMax2 : List Sl → Option Sl
  | [.val (.int i), .val (.int j)] => some (.val (.int (if j > i then j else i)))
  | _ => none
@[simp] def fMin2 : List Sl → Option Sl
  | [.val (.int i), .val (.int j)] => some (.val (.int (if j < i then j else i)))
  | _ => none
@[simp] def fAll : List Sl → Option Sl
  | [s] => (lstB s).map fun ns => .val (.bool (ns.all id))
  | _ => none
@[simp] def fAny : List Sl → Option Sl
  | [s] => (lstB s).map fun ns => .val (.bool (ns.any id))
  | _ => none
@[simp] def fInt : List Sl → Option Sl
  | [.val (.int i)] => some (.val (.int i))
  | [.val (.bool b)] => some (.val (.int (if b = true then 1 else 0)))
  | _ => none
@[simp] def fList : List Sl → Option Sl
  | [s] => (seqOf s).map fun ds => .own ds
  | _ => none
@[simp] def fTuple : List Sl → Option Sl
  | [s] => (seqOf s).map fun ds => .val (.tuple ds)
  | _ => none
def sortI (ns : List Int) : List Int := ns.mergeSort (fun a b => decide (a ≤ b))
theorem sortI_perm (ns : List Int) : (sortI ns).Perm ns := List.mergeSort_perm ns _
theorem sortI_sorted (ns : List Int) : (sortI ns).Pairwise (· ≤ ·) := by
  have h := List.pairwise_mergeSort (le := fun a b : Int => decide (a ≤ b)) (fun a b c h1 h2 => by simp at *; omega) (fun a b => by simp; omega) ns
  exact h.imp fun h => by simpa using h
theorem sortI_uniq {ns ms : List Int} (p : ms.Perm ns) (s : ms.Pairwise (· ≤ ·)) : ms = sortI ns :=
  List.Perm.eq_of_pairwise (fun a b _ _ h1 h2 => by omega) s (sortI_sorted ns) (p.trans (sortI_perm ns).symm)
@[simp] def fSortI : List Sl → Option Sl
  | [s] => (lstI s).map fun ns => .own ((sortI ns).map PyData.int)
  | _ => none
section
variable {K : PySem.W.Frag} {G F H : Hp} {T : List Ent} {ρ : List Sl} {σ : L2.St} {x y : Sl} {v w : V} {xs : List Sl} {vs : List V}
theorem one_of (hl : xs.length = vs.length) (e : xs = [x]) : ∃ v, vs = [v] := by
  subst e
  match vs, hl with
  | [v], _ => exact ⟨v, rfl⟩
theorem fnS_len : FnS K (rLen K) fLen := by
  intro G F T ρ σ H xs z vs Q hl R h q
  unfold fLen at h
  split at h
  · obtain ⟨v, rfl⟩ := one_of hl rfl
    split at h
    · rename_i hz
      cases h
      have hv := str_of R.fst
      subst hv
      exact ⟨_, _, rfl, ⟨hz, rfl⟩, q _ G H (Ex.refl G) (R.drop.pushV (.int _))⟩
    · cases h
  · obtain ⟨v, rfl⟩ := one_of hl rfl
    rename_i s _
    cases hd : seqOf s with
    | none => rw [hd] at h; cases h
    | some ds =>
      rw [hd] at h
      cases h
      obtain ⟨a, us, ev, s1, r1⟩ := seq_of R.l.eg hd R.fst
      subst ev
      refine ⟨_, ds.length, rfl, ?_, q _ G H (Ex.refl G) (R.drop.pushV (.int _))⟩
      rcases s1 with s1 | s1
      · exact .inl ⟨us, s1, r1.len.symm⟩
      · exact .inr ⟨us, s1, r1.len.symm⟩
  · cases h
theorem fnS_sum : FnS K (rSum K) fSum := by
  intro G F T ρ σ H xs z vs Q hl R h q
  unfold fSum at h
  split at h
  · obtain ⟨v, rfl⟩ := one_of hl rfl
    rename_i s
    cases hd : lstI s with
    | none => rw [hd] at h; cases h
    | some ns =>
      rw [hd] at h
      cases h
      obtain ⟨a, ev, s1⟩ := lstI_of R.l.eg hd R.fst
      subst ev
      exact ⟨a, ns, rfl, s1, q _ G H (Ex.refl G) (R.drop.pushV (.int _))⟩
  · cases h
theorem fnS_max1 : FnS K (rMax K) fMax1 := by
  intro G F T ρ σ H xs z vs Q hl R h q
  unfold fMax1 at h
  split at h
  · obtain ⟨v, rfl⟩ := one_of hl rfl
    split at h
    · rename_i s n r hd
      cases h
      obtain ⟨a, ev, s1⟩ := lstI_of R.l.eg hd R.fst
      subst ev
      refine ⟨a, n :: r, rfl, s1, Nat.succ_pos _, fun m hm hle => ?_⟩
      have e : m = maxI n r := by
        have h1 := hle _ (maxI_mem r n)
        have h2 := maxI_ge r n
        rcases List.mem_cons.mp hm with e | hm
        · have := h2.1
          omega
        · have := h2.2 m hm
          omega
      subst e
      exact q _ G H (Ex.refl G) (R.drop.pushV (.int _))
    · cases h
  · cases h
theorem two_of {x y : Sl} (hl : xs.length = vs.length) (e : xs = [x, y]) : ∃ v w, vs = [v, w] := by
  subst e
  match vs, hl with
  | [v, w], _ => exact ⟨v, w, rfl⟩
theorem fnS_max2 : FnS K (fun xs H Q => ∃ i j, xs = [V.int i, V.int j] ∧ Q (V.int (if j > i then j else i)) H) fMax2 := by
  intro G F T ρ σ H xs z vs Q hl R h q
  unfold fMax2 at h
  split at h
  · obtain ⟨v, w, rfl⟩ := two_of hl rfl
    cases h
    have h1 := int_of R.fst
    have h2 := int_of R.drop.fst
    subst h1 h2
    exact ⟨_, _, rfl, q _ G H (Ex.refl G) (R.drop.drop.pushV (.int _))⟩
  · cases h
theorem fnS_min2 : FnS K (fun xs H Q => ∃ i j, xs = [V.int i, V.int j] ∧ Q (V.int (if j < i then j else i)) H) fMin2 := by
  intro G F T ρ σ H xs z vs Q hl R h q
  unfold fMin2 at h
  split at h
  · obtain ⟨v, w, rfl⟩ := two_of hl rfl
    cases h
    have h1 := int_of R.fst
    have h2 := int_of R.drop.fst
    subst h1 h2
    exact ⟨_, _, rfl, q _ G H (Ex.refl G) (R.drop.drop.pushV (.int _))⟩
  · cases h
theorem fnS_all : FnS K (rAll K) fAll := by
  intro G F T ρ σ H xs z vs Q hl R h q
  unfold fAll at h
  split at h
  · obtain ⟨v, rfl⟩ := one_of hl rfl
    rename_i s
    cases hd : lstB s with
    | none => rw [hd] at h; cases h
    | some ns =>
      rw [hd] at h
      cases h
      obtain ⟨a, ev, s1⟩ := lstB_of R.l.eg hd R.fst
      subst ev
      exact ⟨a, ns, rfl, s1, q _ G H (Ex.refl G) (R.drop.pushV (.bl _))⟩
  · cases h
theorem fnS_any : FnS K (rAny K) fAny := by
  intro G F T ρ σ H xs z vs Q hl R h q
  unfold fAny at h
  split at h
  · obtain ⟨v, rfl⟩ := one_of hl rfl
    rename_i s
    cases hd : lstB s with
    | none => rw [hd] at h; cases h
    | some ns =>
      rw [hd] at h
      cases h
      obtain ⟨a, ev, s1⟩ := lstB_of R.l.eg hd R.fst
      subst ev
      exact ⟨a, ns, rfl, s1, q _ G H (Ex.refl G) (R.drop.pushV (.bl _))⟩
  · cases h
theorem fnS_int : FnS K (fun xs H Q => (∃ i, xs = [V.int i] ∧ Q (V.int i) H) ∨ ∃ k, xs = [V.bl k] ∧ Q (V.int (if k = true then 1 else 0)) H) fInt := by
  intro G F T ρ σ H xs z vs Q hl R h q
  unfold fInt at h
  split at h
  · obtain ⟨v, rfl⟩ := one_of hl rfl
    cases h
    have h1 := int_of R.fst
    subst h1
    exact .inl ⟨_, rfl, q _ G H (Ex.refl G) (R.drop.pushV (.int _))⟩
  · obtain ⟨v, rfl⟩ := one_of hl rfl
    cases h
    have h1 := bool_of R.fst
    subst h1
    exact .inr ⟨_, rfl, q _ G H (Ex.refl G) (R.drop.pushV (.int _))⟩
  · cases h
theorem fnS_list : FnS K (fun xs H Q => ∃ p ys, xs = [V.ref p] ∧ (SqL K H p ys ∨ SqT K H p ys) ∧ ∀ (l : Addr), H l = none → Q (V.ref l) (upd H l (HO.lst ys))) fList := by
  intro G F T ρ σ H xs z vs Q hl R h q
  unfold fList at h
  split at h
  · obtain ⟨v, rfl⟩ := one_of hl rfl
    rename_i s
    cases hd : seqOf s with
    | none => rw [hd] at h; cases h
    | some ds =>
      rw [hd] at h
      cases h
      obtain ⟨a, us, ev, s1, r1⟩ := seq_of R.l.eg hd R.fst
      subst ev
      exact ⟨a, us, rfl, s1, fun l hn => q _ G _ (Ex.refl G) (R.drop.pushO hn r1)⟩
  · cases h
theorem fnS_tuple : FnS K (fun xs H Q => ∃ p ys, xs = [V.ref p] ∧ ((SqL K H p ys ∧ ∀ (l : Addr), H l = none → Q (V.ref l) (upd H l (HO.tup ys))) ∨ SqT K H p ys ∧ Q (V.ref p) H)) fTuple := by
  intro G F T ρ σ H xs z vs Q hl R h q
  unfold fTuple at h
  split at h
  · obtain ⟨v, rfl⟩ := one_of hl rfl
    rename_i s
    unfold seqOf at h
    split at h
    · cases h
      obtain ⟨a, us, ev, s1, r1⟩ := lst_of (s := .val (.list _)) R.l.eg rfl R.fst
      subst ev
      exact ⟨a, us, rfl, .inl ⟨s1, fun l hn => q _ _ _ (exg R hn) (R.drop.pushT hn r1)⟩⟩
    · cases h
      obtain ⟨a, us, ev, s1, r1⟩ := tup_of R.l.eg R.fst
      subst ev
      exact ⟨a, us, rfl, .inr ⟨s1, q _ G H (Ex.refl G) R⟩⟩
    · cases h
      obtain ⟨a, us, ev, s1, r1⟩ := lst_of (s := .own _) R.l.eg rfl R.fst
      subst ev
      exact ⟨a, us, rfl, .inl ⟨s1, fun l hn => q _ _ _ (exg R hn) (R.drop.pushT hn r1)⟩⟩
    · cases h
  · cases h
theorem fnS_sortI : FnS K (rSortedI K) fSortI := by
  intro G F T ρ σ H xs z vs Q hl R h q
  unfold fSortI at h
  split at h
  · obtain ⟨v, rfl⟩ := one_of hl rfl
    rename_i s
    cases hd : lstI s with
    | none => rw [hd] at h; cases h
    | some ns =>
      rw [hd] at h
      cases h
      obtain ⟨a, ev, s1⟩ := lstI_of R.l.eg hd R.fst
      subst ev
      refine ⟨a, ns, rfl, s1, fun ns' p hp hs hn => ?_⟩
      rw [sortI_uniq hp hs]
      exact q _ G _ (Ex.refl G) (R.drop.pushO hn RpA.ofInts)
  · cases h
end
section
variable {K : PySem.W.Frag} {X : Cx} {e : Expr} {es : List Expr} {t : TA} {m : MA} {pos p : Pos} {x : Str} {r : List V → Hp → VK → Prop} {f : List Sl → Option Sl}
theorem me_fn {id : String} (hf : FnS K r f) (hr : CallR X (.builtin id) r) (hg : Gl X x) (hm : X.mg x = none) (hb : bootBuiltins x = some (.builtin id)) (ha : MEA X K (e :: es) t m) (h1 : x ≠ "__name__" := by decide) (h2 : (x == ("__debug__" : Str)) = false := by decide)
    (h3 : starEach (e :: es) X.env = (false, eval e X.env) :: starEach es X.env := by rfl) (h4 : (backTo pos (starEach es X.env)).any (·.1) = false := by rfl) : ME X K (.Call (.Name x p) (e :: es) [] pos) (tCB r t) (mFn f m) := by
  obtain rfl := ha.hK
  exact ⟨rfl, pe_callB hr hg hm hb ha.pe h1 h2 h3 h4, den_fn hf ha.dn⟩
theorem me_fnT {T : String} (hf : FnS K r f) (hr : CallR X (.type T) r) (hg : Gl X x) (hm : X.mg x = none) (hb : bootBuiltins x = some (.type T)) (ha : MEA X K (e :: es) t m) (h1 : x ≠ "__name__" := by decide) (h2 : (x == ("__debug__" : Str)) = false := by decide)
    (h3 : starEach (e :: es) X.env = (false, eval e X.env) :: starEach es X.env := by rfl) (h4 : (backTo pos (starEach es X.env)).any (·.1) = false := by rfl) : ME X K (.Call (.Name x p) (e :: es) [] pos) (tCB r t) (mFn f m) := by
  obtain rfl := ha.hK
  exact ⟨rfl, pe_callTy hr hg hm hb ha.pe h1 h2 h3 h4, den_fn hf ha.dn⟩
end
/-! ### isinstance -/
@[simp] def tyName : D → String
  | .none => "NoneType"
  | .bool _ => "bool"
  | .int _ => "int"
  | .str _ => "str"
  | .list _ => "list"
  | .tuple _ => "tuple"
  | .dict _ => "dict"
@[simp] def tySl : Sl → Option String
  | .val d => some (tyName d)
  | .own _ => some "list"
  | .un => none
  | .ex _ => none
@[simp] def isTy (a b : String) : Bool := a == b || (a == "bool" && b == "int")
@[simp] def fIsi (ts : List String) (s : Sl) : Option Sl := (tySl s).map fun a => .val (.bool (ts.any (isTy a)))
def knownT : List String := ["int", "bool", "list", "tuple", "str"]
theorem kit_known : ∀ a ∈ ["NoneType", "bool", "int", "str", "list", "tuple", "dict"], ∀ b ∈ knownT, kitB a b = some (isTy a b) := by decide +kernel
theorem tyName_mem (d : D) : tyName d ∈ ["NoneType", "bool", "int", "str", "list", "tuple", "dict"] := by cases d <;> simp [tyName]
section
variable {K : PySem.W.Frag} {G F H : Hp} {s : Sl} {v : V} {a : String}
theorem lst_tyX {p : Addr} {xs : List V} (h : SqL K H p xs) : TyX K H (.ref p) (.type "list") := by
  rcases h with (h | ⟨o, h⟩) | ⟨o, its, n, hk, hc, _⟩
  · exact .base (.lst h)
  · exact .base (.frz h)
  · exact .kList hk hc
theorem tyX_of (eg : Ex G H) (e : tySl s = some a) (h : SlOk K G F H (s, some v)) : TyX K H v (.type a) ∧ a ∈ ["NoneType", "bool", "int", "str", "list", "tuple", "dict"] := by
  cases s with
  | un => cases e
  | ex c => cases e
  | val d =>
    cases e
    refine ⟨?_, tyName_mem d⟩
    obtain ⟨v', ev, hv⟩ := h
    cases ev
    cases hv with
    | non => exact .base .non
    | bl b => exact .base (.bl b)
    | int i => exact .base (.int i)
    | str x => exact .base (.str x)
    | lst hs _ => exact lst_tyX (Evl.ex_l eg hs)
    | tup hs _ => exact .base (.tup (eg _ _ hs))
    | dic kvs hs => exact .base (.dK (eg _ _ hs))
  | own ds =>
    cases e
    refine ⟨?_, by decide⟩
    obtain ⟨p, vs, ev, h1, _⟩ := h
    cases ev
    exact .base (.lst h1)
theorem kitAny_of : ∀ {ts : List String}, a ∈ ["NoneType", "bool", "int", "str", "list", "tuple", "dict"] → (∀ b ∈ ts, b ∈ knownT) → PySem.W.kitAny K (.type a) (ts.map .type) = some (ts.any (isTy a))
  | [], _, _ => rfl
  | b :: ts, ha, h => by
    have h1 := kit_known a ha b (h b List.mem_cons_self)
    have ih := kitAny_of (ts := ts) ha fun c hc => h c (List.mem_cons_of_mem _ hc)
    refine kitAny_cons (kit_ty h1) (fun hb => ?_) (fun hb => ?_)
    · show PySem.W.kitAny K (.type a) (ts.map .type) = some (isTy a b || ts.any (isTy a))
      rw [hb, Bool.false_or]
      exact ih
    · show (isTy a b || ts.any (isTy a)) = true
      rw [hb, Bool.true_or]
def tIsi (K : PySem.W.Frag) (ta : TE) (b : String) : TE := tCB (rIsi K) (tCons ta (tCons (tC (.ty b)) tNil))
theorem den_isi {ta : TE} {ma : MX} {b : String} (hb : b ∈ knownT) (ha : Den K ta ma) : Den K (tIsi K ta b) (mUn (fIsi [b]) ma) := by
  intro G F T ρ σ H z ρ' Q R h q
  unfold mUn at h
  cases h1 : ma ρ with
  | none => rw [h1] at h; cases h
  | some p1 =>
    obtain ⟨x, ρ1⟩ := p1
    simp only [h1] at h
    unfold fIsi at h
    cases h3 : tySl x with
    | none => rw [h3] at h; cases h
    | some a =>
      rw [h3] at h
      cases h
      refine ha G F T ρ σ H x ρ' _ R h1 fun v G1 H1 e1 R1 => ?_
      obtain ⟨ty, hm⟩ := tyX_of R1.l.eg h3 R1.fst
      refine ⟨v, .ty b, .type a, .type b, isTy a b, rfl, .ty b, ty, kit_ty (kit_known a hm b hb), ?_⟩
      have e : isTy a b = [b].any (isTy a) := by simp
      rw [e]
      exact q _ G1 H1 e1 (R1.drop.pushV (.bl _))
def tTys : List String → TA
  | [] => tNil
  | b :: r => tCons (tC (.ty b)) (tTys r)
theorem tTys_eq : ∀ (bs : List String) (σ : L2.St) (H : Hp) (Q : List V → Hp → Prop), Q (bs.map V.ty) H → tTys bs σ H Q
  | [], _, _, _, h => h
  | b :: r, σ, H, Q, h => tTys_eq r σ H _ h
def tIsiT (K : PySem.W.Frag) (ta : TE) (bs : List String) : TE := tCB (rIsiT K) (tCons ta (tCons (tTup (tTys bs)) tNil))
theorem den_isiT {ta : TE} {ma : MX} {bs : List String} (hb : ∀ b ∈ bs, b ∈ knownT) (hl : bs.length ≤ 100) (ha : Den K ta ma) : Den K (tIsiT K ta bs) (mUn (fIsi bs) ma) := by
  intro G F T ρ σ H z ρ' Q R h q
  unfold mUn at h
  cases h1 : ma ρ with
  | none => rw [h1] at h; cases h
  | some p1 =>
    obtain ⟨x, ρ1⟩ := p1
    simp only [h1] at h
    unfold fIsi at h
    cases h3 : tySl x with
    | none => rw [h3] at h; cases h
    | some a =>
      rw [h3] at h
      cases h
      refine ha G F T ρ σ H x ρ' _ R h1 fun v G1 H1 e1 R1 => ?_
      refine tTys_eq bs σ H1 _ ⟨by rw [List.length_map]; exact Nat.le_trans hl (by decide), fun p hp => ?_⟩
      have R2 : Rel K (upd G1 p (.tup (bs.map V.ty))) F ((x, some v) :: T) ρ' σ (upd H1 p (.tup (bs.map V.ty))) := ⟨R1.len, R1.l.grow hp⟩
      obtain ⟨ty, hm⟩ := tyX_of R2.l.eg h3 R2.fst
      have hcs : ∀ cs : List String, Paired ClsV (cs.map V.ty) (cs.map Value.type) := fun cs => by
        induction cs with
        | nil => exact .nil
        | cons c r ih => exact .cons (.ty c) ih
      exact ⟨v, p, bs.map V.ty, .type a, bs.map Value.type, bs.any (isTy a), rfl, upd_same, hcs bs, ty, kitAny_of hm hb, q _ _ _ (e1.trans (exg R1 hp)) (R2.drop.pushV (.bl _))⟩
end
section
variable {K : PySem.W.Frag} {X : Cx} {e : Expr} {ta : TE} {ma : MX} {pos p p1 p2 p3 p4 : Pos} {x y z : Str} {b c : String} {k : Nat}
theorem me_isi (hg : Gl X "isinstance") (hm : X.mg "isinstance" = none) (ha : ME X K e ta ma) (hgy : Gl X y) (hmy : X.mg y = none) (hby : bootBuiltins y = some (.type b)) (hk : b ∈ knownT) (hn : y ≠ "__name__" := by decide) (hd : (y == ("__debug__" : Str)) = false := by decide)
    (h3 : starEach [e, .Name y p1] X.env = (false, eval e X.env) :: starEach [.Name y p1] X.env := by rfl) (h5 : starEach [Expr.Name y p1] X.env = [(false, eval (.Name y p1) X.env)] := by rfl) (h4 : (backTo pos (starEach [Expr.Name y p1] X.env)).any (·.1) = false := by rfl) :
    ME X K (.Call (.Name "isinstance" p) [e, .Name y p1] [] pos) (tIsi K ta b) (mUn (fIsi [b]) ma) := by
  obtain rfl := ha.hK
  exact ⟨rfl, pe_callB call_isi hg hm (by decide +kernel) (pa_cons ha.pe (pa_cons (pe_bltn (v := .ty b) hgy hmy hby rfl hn hd) pa_nil h5) h3) (by decide) (by decide) h3 h4, den_isi hk ha.dn⟩
theorem me_isiT2 (hg : Gl X "isinstance") (hm : X.mg "isinstance" = none) (ha : ME X K e ta ma) (hgy : Gl X y) (hmy : X.mg y = none) (hby : bootBuiltins y = some (.type b)) (hgz : Gl X z) (hmz : X.mg z = none) (hbz : bootBuiltins z = some (.type c)) (hk : b ∈ knownT) (hk2 : c ∈ knownT)
    (hn : y ≠ "__name__" := by decide) (hd : (y == ("__debug__" : Str)) = false := by decide) (hn2 : z ≠ "__name__" := by decide) (hd2 : (z == ("__debug__" : Str)) = false := by decide)
    (h3 : starEach [e, .Tuple [.Name y p1, .Name z p2] k p3] X.env = (false, eval e X.env) :: starEach [.Tuple [.Name y p1, .Name z p2] k p3] X.env := by rfl)
    (h5 : starEach [Expr.Tuple [.Name y p1, .Name z p2] k p3] X.env = [(false, eval (.Tuple [.Name y p1, .Name z p2] k p3) X.env)] := by rfl)
    (h6 : starEach [Expr.Name y p1, .Name z p2] X.env = (false, eval (.Name y p1) X.env) :: starEach [Expr.Name z p2] X.env := by rfl)
    (h7 : starEach [Expr.Name z p2] X.env = [(false, eval (.Name z p2) X.env)] := by rfl)
    (h4 : (backTo pos (starEach [Expr.Tuple [.Name y p1, .Name z p2] k p3] X.env)).any (·.1) = false := by rfl) :
    ME X K (.Call (.Name "isinstance" p) [e, .Tuple [.Name y p1, .Name z p2] k p3] [] pos) (tIsiT K ta [b, c]) (mUn (fIsi [b, c]) ma) := by
  obtain rfl := ha.hK
  exact ⟨rfl, pe_callB call_isiT hg hm (by decide +kernel) (pa_cons ha.pe (pa_cons (pe_tup (pa_cons (pe_bltn (v := .ty b) hgy hmy hby rfl hn hd) (pa_cons (pe_bltn (v := .ty c) hgz hmz hbz rfl hn2 hd2) pa_nil h7) h6)) pa_nil h5) h3) (by decide) (by decide) h3 h4,
      den_isiT (fun d hd => by rcases List.mem_cons.mp hd with rfl | hd; exact hk; rcases List.mem_cons.mp hd with rfl | hd; exact hk2; cases hd) (show 2 ≤ 100 by decide) ha.dn⟩
end
end Dn

namespace Dn
open PySem PySem.Spec PyProof.Rows L2
open Evl (Ex)

/-! ### statements -/
inductive Out where
  | nx (ρ : List Sl)
  | rt (r : Sl) (ρ : List Sl)
  | bk (ρ : List Sl)
  | ct (ρ : List Sl)
abbrev MS := List Sl → Option Out
def Kept (kp : Nat → Bool) (σ σ' : L2.St) : Prop := σ'.length = σ.length ∧ ∀ i, kp i = true → σ'[i]? = σ[i]?
theorem Kept.refl (kp : Nat → Bool) (σ : L2.St) : Kept kp σ σ := ⟨rfl, fun _ _ => rfl⟩
theorem Kept.trans {kp : Nat → Bool} {σ σ1 σ2 : L2.St} (a : Kept kp σ σ1) (b : Kept kp σ1 σ2) : Kept kp σ σ2 := ⟨b.1.trans a.1, fun i h => (b.2 i h).trans (a.2 i h)⟩
theorem Kept.set {kp : Nat → Bool} {σ : L2.St} {i : Nat} {o : Option V} (h : kp i = false) : Kept kp σ (σ.set i o) := ⟨List.length_set, fun j hj => by
  have ne : i ≠ j := fun e => by
    subst e
    rw [h] at hj
    cases hj
  rw [List.getElem?_set_ne ne]⟩
def Post (K : PySem.W.Frag) (kp : Nat → Bool) (G F : Hp) (σ : L2.St) (D : Ends) : Out → Prop
  | .nx ρ' => ∀ G' σ' H', Ex G G' → Kept kp σ σ' → Rel K G' F [] ρ' σ' H' → D.nx σ' H'
  | .rt r ρ' => ∀ v G' σ' H', Ex G G' → Kept kp σ σ' → Rel K G' F [(r, some v)] ρ' σ' H' → D.rt v H'
  | .bk ρ' => ∀ G' σ' H', Ex G G' → Kept kp σ σ' → Rel K G' F [] ρ' σ' H' → D.bk σ' H'
  | .ct ρ' => ∀ G' σ' H', Ex G G' → Kept kp σ σ' → Rel K G' F [] ρ' σ' H' → D.ct σ' H'
def DenS (K : PySem.W.Frag) (kp : Nat → Bool) (t : TS) (m : MS) : Prop := ∀ (G F : Hp) (ρ : List Sl) (σ : L2.St) (H : Hp) (D : Ends) (o : Out), Rel K G F [] ρ σ H → m ρ = some o → Post K kp G F σ D o → t D σ H
theorem Post.up {K : PySem.W.Frag} {kp : Nat → Bool} {G G1 F : Hp} {σ σ1 : L2.St} {D : Ends} {o : Out} (h : Post K kp G F σ D o) (e : Ex G G1) (k : Kept kp σ σ1) : Post K kp G1 F σ1 D o := by
  cases o with
  | nx ρ => exact fun G' σ' H' e' k' R => h G' σ' H' (e.trans e') (k.trans k') R
  | rt r ρ => exact fun v G' σ' H' e' k' R => h v G' σ' H' (e.trans e') (k.trans k') R
  | bk ρ => exact fun G' σ' H' e' k' R => h G' σ' H' (e.trans e') (k.trans k') R
  | ct ρ => exact fun G' σ' H' e' k' R => h G' σ' H' (e.trans e') (k.trans k') R
structure MSt (X : Cx) (kp : Nat → Bool) (st : Stmt) (t : TS) (m : MS) : Prop where
  pe : PS X st t
  dn : DenS X.K kp t m
structure MSs (X : Cx) (kp : Nat → Bool) (st : List Stmt) (t : TS) (m : MS) : Prop where
  pe : PSs X st t
  dn : DenS X.K kp t m
/-! targets -/
abbrev MG := D → List Sl → Option (List Sl)
def DenG (K : PySem.W.Frag) (kp : Nat → Bool) (vs : List Nat) (g : TG) (m : MG) : Prop := ∀ (G F : Hp) (T : List Ent) (ρ : List Sl) (σ : L2.St) (H : Hp) (d : D) (v : V) (ρ' : List Sl) (Q : L2.St → Hp → Prop), Rel K G F ((.val d, some v) :: T) ρ σ H → m d ρ = some ρ' →
  (∀ σ', Kept kp σ σ' → (∀ ws, (∀ i ∈ vs, i ∈ ws) → wipe σ' ws = wipe σ ws) → Rel K G F T ρ' σ' H → Q σ' H) → g v σ H Q
structure MGt (X : Cx) (K : PySem.W.Frag) (kp : Nat → Bool) (vs : List Nat) (e : Expr) (g : TG) (m : MG) : Prop where
  hK : X.K = K
  pe : PG X e g
  dn : DenG K kp vs g m
theorem wipe_set {i : Nat} {o : Option V} : ∀ {ws : List Nat} {σ : L2.St}, i ∈ ws → wipe (σ.set i o) ws = wipe σ ws
  | [], _, h => by cases h
  | w :: ws, σ, h => by
    unfold wipe
    by_cases e : i = w
    · subst e
      by_cases hm : i ∈ ws
      · rw [wipe_set hm]
      · have key : ∀ (ws : List Nat), i ∉ ws → ∀ τ : L2.St, wipe (τ.set i o) ws = (wipe τ ws).set i o := by
          intro ws
          induction ws with
          | nil => intro _ τ; rfl
          | cons y ys ih =>
            intro hn τ
            unfold wipe
            rw [ih (fun z => hn (List.mem_cons_of_mem _ z)) τ]
            rw [List.set_comm _ _ (fun z => hn (by rw [z]; exact List.mem_cons_self))]
        rw [key ws hm σ, List.set_set]
    · have hm : i ∈ ws := (List.mem_cons.mp h).resolve_left e
      rw [wipe_set hm]
theorem wipe_wipe (σ : L2.St) : ∀ ws : List Nat, wipe (wipe σ ws) ws = wipe σ ws := by
  have key : ∀ (us ws : List Nat), (∀ i ∈ us, i ∈ ws) → wipe (wipe σ us) ws = wipe σ ws := by
    intro us
    induction us with
    | nil => intro ws _; rfl
    | cons u us ih =>
      intro ws h
      show wipe ((wipe σ us).set u none) ws = wipe σ ws
      rw [wipe_set (h u List.mem_cons_self)]
      exact ih ws fun i hi => h i (List.mem_cons_of_mem _ hi)
  exact fun ws => key ws ws fun _ h => h
def mgN (kp : Nat → Bool) (i : Nat) : MG := fun d ρ => if kp i = false ∧ i < ρ.length then some (ρ.set i (.val d)) else none
/-- names in a row -/
@[simp] def mgNs (kp : Nat → Bool) : List Nat → List D → List Sl → Option (List Sl)
  | [], [], ρ => some ρ
  | i :: r, d :: ds, ρ => if kp i = false ∧ i < ρ.length then mgNs kp r ds (ρ.set i (.val d)) else none
  | _, _, _ => none
def mgT (kp : Nat → Bool) (is : List Nat) : MG := fun d ρ => match d with
  | .tuple ds => mgNs kp is ds ρ
  | _ => none
def mgL (kp : Nat → Bool) (is : List Nat) : MG := fun d ρ => match d with
  | .tuple ds => mgNs kp is ds ρ
  | .list ds => mgNs kp is ds ρ
  | _ => none
def gNames : List Nat → TGs
  | [] => gNil
  | i :: r => gCons (gName i) (gNames r)
section
variable {K : PySem.W.Frag} {X : Cx} {kp : Nat → Bool} {pos : Pos}
theorem denG_name {i : Nat} : DenG K kp [i] (gName i) (mgN kp i) := by
  intro G F T ρ σ H d v ρ' Q R h q
  unfold mgN at h
  split at h
  · rename_i hc
    cases h
    exact q _ (Kept.set hc.1) (fun ws hw => wipe_set (hw i List.mem_cons_self)) (R.assign hc.2)
  · cases h
theorem mg_name (i : Nat) {x : Str} (hN : X.N.Nodup) (hi : X.N[i]? = some x := by rfl) (hx : Loc X.env.scope x := by first | exact Or.inl rfl | exact Or.inr rfl) (hf : X.fn x = true ∨ X.env.scope.names.lookup x = some .local := by first | exact .inl rfl | exact .inr rfl) (hK : X.K = K := by rfl) : MGt X K kp [i] (.Name x pos) (gName i) (mgN kp i) := by
  obtain rfl := hK
  exact ⟨rfl, pg_name hN hi hx hf, denG_name⟩
theorem den_gNs : ∀ (is : List Nat) (ds : List D) (G F : Hp) (T : List Ent) (ρ : List Sl) (σ : L2.St) (H : Hp) (xs : List V) (ρ' : List Sl) (Q : L2.St → Hp → Prop), Rel K G F T ρ σ H → RpA K G xs ds → mgNs kp is ds ρ = some ρ' →
    (∀ σ', Kept kp σ σ' → (∀ ws, (∀ i ∈ is, i ∈ ws) → wipe σ' ws = wipe σ ws) → Rel K G F T ρ' σ' H → Q σ' H) → gNames is xs σ H Q
  | [], ds, G, F, T, ρ, σ, H, xs, ρ', Q, R, ha, h, q => by
    cases ds with
    | nil =>
      cases ha
      cases h
      exact ⟨rfl, q σ (Kept.refl kp σ) (fun _ _ => rfl) R⟩
    | cons _ _ => cases h
  | i :: is, ds, G, F, T, ρ, σ, H, xs, ρ', Q, R, ha, h, q => by
    cases ds with
    | nil => cases h
    | cons d ds =>
      cases ha with
      | cons hd ht =>
        rename_i v vs
        unfold mgNs at h
        split at h
        · rename_i hc
          refine ⟨v, vs, rfl, ?_⟩
          refine den_gNs is ds G F T (ρ.set i (.val d)) (σ.set i (some v)) H vs ρ' _ ((R.pushV hd).assign hc.2) ht h fun σ' k hw R' => ?_
          refine q σ' ((Kept.set hc.1).trans k) (fun ws hi => ?_) R'
          rw [hw ws fun j hj => hi j (List.mem_cons_of_mem _ hj)]
          exact wipe_set (hi i List.mem_cons_self)
        · cases h
theorem mgNs_len : ∀ {is : List Nat} {ds : List D} {ρ ρ' : List Sl}, mgNs kp is ds ρ = some ρ' → ds.length = is.length
  | [], [], _, _, _ => rfl
  | [], _ :: _, _, _, h => by cases h
  | _ :: _, [], _, _, h => by cases h
  | i :: is, d :: ds, ρ, ρ', h => by
    unfold mgNs at h
    split at h
    · exact congrArg (· + 1) (mgNs_len h)
    · cases h
theorem denG_tup {is : List Nat} : DenG K kp is (gTup K is.length (gNames is)) (mgT kp is) := by
  intro G F T ρ σ H d v ρ' Q R h q
  unfold mgT at h
  split at h
  · obtain ⟨a, xs, ev, s1, r1⟩ := tup_of R.l.eg R.fst
    exact ⟨a, xs, ev, s1, by rw [r1.len]; exact mgNs_len h, den_gNs is _ G F T ρ σ H xs ρ' Q R.drop r1 h q⟩
  · cases h
def gTL (K : PySem.W.Frag) (n : Nat) (t : TGs) : TG := fun v σ H Q => gTup K n t v σ H Q ∨ gUnl K n t v σ H Q
theorem PG.or {e : Expr} {g g' : TG} (h : PG X e g) (h' : PG X e g') : PG X e (fun v σ H Q => g v σ H Q ∨ g' v σ H Q) := ⟨fun pins s σ H v u Q I r q => by
  rcases q with q | q
  · exact h.run pins s σ H v u Q I r q
  · exact h'.run pins s σ H v u Q I r q⟩
theorem denG_tl {is : List Nat} : DenG K kp is (gTL K is.length (gNames is)) (mgL kp is) := by
  intro G F T ρ σ H d v ρ' Q R h q
  unfold mgL at h
  split at h
  · obtain ⟨a, xs, ev, s1, r1⟩ := tup_of R.l.eg R.fst
    exact .inl ⟨a, xs, ev, s1, by rw [r1.len]; exact mgNs_len h, den_gNs is _ G F T ρ σ H xs ρ' Q R.drop r1 h q⟩
  · obtain ⟨a, xs, ev, s1, r1⟩ := lst_of (s := .val (.list _)) R.l.eg rfl R.fst
    exact .inr ⟨a, xs, ev, s1, by rw [r1.len]; exact mgNs_len h, den_gNs is _ G F T ρ σ H xs ρ' Q R.drop r1 h q⟩
  · cases h
theorem mg_tup {es : List Expr} {k : Nat} {is : List Nat} (hc : X.calm = true) (h : PGs X es (gNames is)) (h1 : (assignEach es X.env).length = is.length := by rfl) (h2 : (assignEach es X.env).findIdx? (·.1) = none := by rfl) (hK : X.K = K := by rfl) : MGt X K kp is (.Tuple es k pos) (gTup K is.length (gNames is)) (mgT kp is) := by
  obtain rfl := hK
  exact ⟨rfl, pg_tup hc h h1 h2, denG_tup⟩
theorem mg_tl {es : List Expr} {k : Nat} {is : List Nat} (hc : X.calm = true) (h : PGs X es (gNames is)) (h1 : (assignEach es X.env).length = is.length := by rfl) (h2 : (assignEach es X.env).findIdx? (·.1) = none := by rfl) (hK : X.K = K := by rfl) : MGt X K kp is (.Tuple es k pos) (gTL K is.length (gNames is)) (mgL kp is) := by
  obtain rfl := hK
  exact ⟨rfl, PG.or (pg_tup hc h h1 h2) (pg_unl hc h h1 h2), denG_tl⟩
theorem pgn_nil : PGs X [] (gNames []) := pgs_nil
theorem pgn_cons (i : Nat) {x : Str} {es : List Expr} {is : List Nat} (h2 : PGs X es (gNames is)) (hN : X.N.Nodup) (hi : X.N[i]? = some x := by rfl) (hx : Loc X.env.scope x := by first | exact Or.inl rfl | exact Or.inr rfl) (hf : X.fn x = true ∨ X.env.scope.names.lookup x = some .local := by first | exact .inl rfl | exact .inr rfl)
    (hs : (assignEach (.Name x pos :: es) X.env).map (·.2) = assign (.Name x pos) X.env :: (assignEach es X.env).map (·.2) := by rfl) : PGs X (.Name x pos :: es) (gNames (i :: is)) := pgs_cons (pg_name hN hi hx hf) h2 hs
end
/-! ### what statements do -/
def mNext : MS := fun ρ => some (.nx ρ)
def mBrk : MS := fun ρ => some (.bk ρ)
def mCont : MS := fun ρ => some (.ct ρ)
def mSeq (a b : MS) : MS := fun ρ => match a ρ with
  | some (.nx ρ1) => b ρ1
  | o => o
def mIfS (c : MT) (a b : MS) : MS := fun ρ => match c ρ with
  | none => none
  | some (k, ρ1) => if k = true then a ρ1 else b ρ1
def mRet (a : MX) : MS := fun ρ => match a ρ with
  | none => none
  | some (r, ρ1) => some (.rt r ρ1)
def mExpr (a : MX) : MS := fun ρ => match a ρ with
  | none => none
  | some (_, ρ1) => some (.nx ρ1)
def mAsg (kp : Nat → Bool) (i : Nat) (a : MX) : MS := fun ρ => match a ρ with
  | none => none
  | some (r, ρ1) => if kp i = false ∧ i < ρ1.length then some (.nx (ρ1.set i r)) else none
/-- x = y = e -/
def mAsg2 (kp : Nat → Bool) (i j : Nat) (a : MX) : MS := fun ρ => match a ρ with
  | some (.val d, ρ1) => if kp i = false ∧ kp j = false ∧ i < ρ1.length ∧ j < ρ1.length then some (.nx ((ρ1.set i (.val d)).set j (.val d))) else none
  | _ => none
/-- a, b = e -/
def mAsgT (a : MX) (g : MG) : MS := fun ρ => match a ρ with
  | some (.val d, ρ1) => match g d ρ1 with
    | some ρ2 => some (.nx ρ2)
    | none => none
  | _ => none
/-- x op= e, ints -/
def mAug (kp : Nat → Bool) (i : Nat) (f : Int → Int → Int) (a : MX) : MS := fun ρ => match ρ[i]? with
  | some (.val (.int k)) => match a ρ with
    | some (.val (.int j), ρ1) => if kp i = false ∧ i < ρ1.length then some (.nx (ρ1.set i (.val (.int (f k j))))) else none
    | _ => none
  | _ => none
/-- x[e1] = e, x an own list -/
def mSetO (i : Nat) (b a : MX) : MS := fun ρ => match a ρ with
  | none => none
  | some (r, ρ1) => match datOf r with
    | none => none
    | some d => match ρ1[i]? with
      | some (.own _) => match b ρ1 with
        | some (.val (.int k), ρ2) => match ρ2[i]? with
          | some (.own ds) => match ixN ds.length k with
            | some j => some (.nx (ρ2.set i (.own (ds.set j d))))
            | none => none
          | _ => none
        | _ => none
      | _ => none
/-- x[k] op= e, x an own list, ints -/
def mAugO (i : Nat) (f : Int → Int → Int) (b a : MX) : MS := fun ρ => match ρ[i]? with
  | some (.own _) => match b ρ with
    | some (.val (.int k), ρ1) => match ρ1[i]? with
      | some (.own ds) => match atI ds k with
        | some (.int x) => match a ρ1 with
          | some (.val (.int y), ρ2) => match ρ2[i]? with
            | some (.own es) => match ixN es.length k with
              | some j => some (.nx (ρ2.set i (.own (es.set j (.int (f x y))))))
              | none => none
            | _ => none
          | _ => none
        | _ => none
      | _ => none
    | _ => none
  | _ => none
section
variable {K : PySem.W.Frag} {X : Cx} {kp : Nat → Bool} {pos : Pos} {st : Stmt} {rest' body els : List Stmt} {t u : TS} {mt mu : MS} {e c : Expr} {te : TE} {me : MX} {tc : TT} {mc : MT}
theorem denS_next : DenS K kp tNext mNext := by
  intro G F ρ σ H D o R h q
  cases h
  exact q G σ H (Ex.refl G) (Kept.refl kp σ) R
theorem mss_nil : MSs X kp [] tNext mNext := ⟨pss_nil, denS_next⟩
theorem ms_pass : MSt X kp (.Pass pos) tNext mNext := ⟨ps_pass, denS_next⟩
theorem ms_brk : MSt X kp (.Break pos) tBreak mBrk := ⟨ps_break, by
  intro G F ρ σ H D o R h q
  cases h
  exact q G σ H (Ex.refl G) (Kept.refl kp σ) R⟩
theorem ms_cont : MSt X kp (.Continue pos) tCont mCont := ⟨ps_continue, by
  intro G F ρ σ H D o R h q
  cases h
  exact q G σ H (Ex.refl G) (Kept.refl kp σ) R⟩
theorem denS_seq (h1 : DenS K kp t mt) (h2 : DenS K kp u mu) : DenS K kp (tSeq t u) (mSeq mt mu) := by
  intro G F ρ σ H D o R h q
  unfold mSeq at h
  cases e1 : mt ρ with
  | none => rw [e1] at h; cases h
  | some o1 =>
    rw [e1] at h
    refine h1 G F ρ σ H { D with nx := u D } o1 R e1 ?_
    cases o1 with
    | nx ρ1 => exact fun G' σ' H' e' k' R' => h2 G' F ρ1 σ' H' D o R' h (q.up e' k')
    | rt r ρ1 => cases h; exact q
    | bk ρ1 => cases h; exact q
    | ct ρ1 => cases h; exact q
theorem mss_cons (h1 : MSt X kp st t mt) (h2 : MSs X kp rest' u mu) : MSs X kp (st :: rest') (tSeq t u) (mSeq mt mu) := ⟨pss_cons h1.pe h2.pe, denS_seq h1.dn h2.dn⟩
theorem mss_one (h1 : MSt X kp st t mt) : MSs X kp [st] t mt := ⟨pss_one h1.pe, h1.dn⟩
theorem denS_if (hc : DenT K tc mc) (h1 : DenS K kp t mt) (h2 : DenS K kp u mu) : DenS K kp (tIfS tc t u) (mIfS mc mt mu) := by
  intro G F ρ σ H D o R h q
  unfold mIfS at h
  cases e1 : mc ρ with
  | none => rw [e1] at h; cases h
  | some p =>
    obtain ⟨k, ρ1⟩ := p
    simp only [e1] at h
    refine hc G F [] ρ σ H k ρ1 _ R e1 fun G1 H1 ex1 R1 => ?_
    cases k with
    | true =>
      rw [if_pos rfl] at h ⊢
      exact h1 G1 F ρ1 σ H1 D o R1 h (q.up ex1 (Kept.refl kp σ))
    | false =>
      rw [if_neg Bool.false_ne_true] at h ⊢
      exact h2 G1 F ρ1 σ H1 D o R1 h (q.up ex1 (Kept.refl kp σ))
theorem ms_if (hc : MET X X.K c tc mc) (h1 : MSs X kp body t mt) (h2 : MSs X kp els u mu) : MSt X kp (.If c body els pos) (tIfS tc t u) (mIfS mc mt mu) := ⟨ps_if hc.pe h1.pe h2.pe, denS_if hc.dn h1.dn h2.dn⟩
theorem ms_ret (h1 : ME X X.K e te me) : MSt X kp (.Return (some e) pos) (tRet te) (mRet me) := ⟨ps_ret h1.pe, by
  intro G F ρ σ H D o R h q
  unfold mRet at h
  cases e1 : me ρ with
  | none => rw [e1] at h; cases h
  | some p =>
    obtain ⟨r, ρ1⟩ := p
    simp only [e1] at h
    cases h
    exact h1.dn G F [] ρ σ H r ρ1 _ R e1 fun v G1 H1 e1 R1 => q v G1 σ H1 e1 (Kept.refl kp σ) R1⟩
theorem ms_expr (h1 : ME X X.K e te me) (hs : swapsWith e none pos.line X.env = pure false := by rfl) : MSt X kp (.Expr e pos) (tDrop te) (mExpr me) := ⟨ps_expr h1.pe hs, by
  intro G F ρ σ H D o R h q
  unfold mExpr at h
  cases e1 : me ρ with
  | none => rw [e1] at h; cases h
  | some p =>
    obtain ⟨r, ρ1⟩ := p
    simp only [e1] at h
    cases h
    exact h1.dn G F [] ρ σ H r ρ1 _ R e1 fun v G1 H1 e1 R1 => q G1 σ H1 e1 (Kept.refl kp σ) R1.drop⟩
theorem denS_asg {i : Nat} (h1 : Den K te me) : DenS K kp (tAsg te (gName i)) (mAsg kp i me) := by
  intro G F ρ σ H D o R h q
  unfold mAsg at h
  cases e1 : me ρ with
  | none => rw [e1] at h; cases h
  | some p =>
    obtain ⟨r, ρ1⟩ := p
    simp only [e1] at h
    split at h
    · rename_i hc
      cases h
      exact h1 G F [] ρ σ H r ρ1 _ R e1 fun v G1 H1 e1 R1 => q G1 _ H1 e1 (Kept.set hc.1) (R1.assign hc.2)
    · cases h
theorem ms_asg (i : Nat) {x : Str} {p : Pos} (h1 : ME X X.K e te me) (hN : X.N.Nodup) (hi : X.N[i]? = some x := by rfl) (hx : Loc X.env.scope x := by first | exact Or.inl rfl | exact Or.inr rfl) (hf : X.fn x = true ∨ X.env.scope.names.lookup x = some .local := by first | exact .inl rfl | exact .inr rfl)
    (hs1 : swapsWithSole [.Name x p] e pos.line X.env = pure false := by rfl) (hs2 : swappedStores [.Name x p] e X.env = pure none := by rfl) (hs3 : (assignEach [.Name x p] X.env).map (·.2) = [assign (.Name x p) X.env] := by rfl) : MSt X kp (.Assign [.Name x p] e pos) (tAsg te (gName i)) (mAsg kp i me) :=
  ⟨ps_asg h1.pe (pg_name hN hi hx hf) hs1 hs2 hs3, denS_asg h1.dn⟩
theorem ms_asg2 (i j : Nat) {x y : Str} {p p2 : Pos} (h1 : ME X X.K e te me) (hN : X.N.Nodup) (hi : X.N[i]? = some x := by rfl) (hx : Loc X.env.scope x := by first | exact Or.inl rfl | exact Or.inr rfl) (hf : X.fn x = true ∨ X.env.scope.names.lookup x = some .local := by first | exact .inl rfl | exact .inr rfl)
    (hi2 : X.N[j]? = some y := by rfl) (hx2 : Loc X.env.scope y := by first | exact Or.inl rfl | exact Or.inr rfl) (hf2 : X.fn y = true ∨ X.env.scope.names.lookup y = some .local := by first | exact .inl rfl | exact .inr rfl)
    (hs1 : (assignEach [.Name x p, .Name y p2] X.env).map (·.2) = [assign (.Name x p) X.env, assign (.Name y p2) X.env] := by rfl) (hs2 : swappedStores [.Name x p, .Name y p2] e X.env = pure none := by rfl) : MSt X kp (.Assign [.Name x p, .Name y p2] e pos) (tAsg2 te (gName i) (gName j)) (mAsg2 kp i j me) :=
  ⟨ps_asg2 h1.pe (pg_name hN hi hx hf) (pg_name hN hi2 hx2 hf2) hs1 hs2, by
    intro G F ρ σ H D o R h q
    unfold mAsg2 at h
    split at h
    · rename_i d ρ1 e1
      split at h
      · rename_i hc
        cases h
        refine h1.dn G F [] ρ σ H _ ρ1 _ R e1 fun v G1 H1 e1 R1 => ?_
        obtain ⟨v', ev, hv⟩ := R1.fst
        cases ev
        refine q G1 _ H1 e1 ((Kept.set hc.1).trans (Kept.set hc.2.1)) ?_
        have R2 := R1.assign (i := i) hc.2.2.1
        exact (R2.pushV hv).assign (by rw [List.length_set]; exact hc.2.2.2)
      · cases h
    · cases h⟩
theorem ms_asgT {tg : Expr} {g : TG} {mg : MG} {vs : List Nat} (h1 : ME X X.K e te me) (h2 : MGt X X.K kp vs tg g mg)
    (hs1 : swapsWithSole [tg] e pos.line X.env = pure false := by rfl) (hs2 : swappedStores [tg] e X.env = pure none := by rfl) (hs3 : (assignEach [tg] X.env).map (·.2) = [assign tg X.env] := by rfl) : MSt X kp (.Assign [tg] e pos) (tAsg te g) (mAsgT me mg) :=
  ⟨ps_asg h1.pe h2.pe hs1 hs2 hs3, by
    intro G F ρ σ H D o R h q
    unfold mAsgT at h
    split at h
    · rename_i d ρ1 e1
      split at h
      · rename_i ρ2 e2
        cases h
        refine h1.dn G F [] ρ σ H _ ρ1 _ R e1 fun v G1 H1 e1 R1 => ?_
        exact h2.dn G1 F [] ρ1 σ H1 d v ρ2 _ R1 e2 fun σ' k _ R2 => q G1 σ' H1 e1 k R2
      · cases h
    · cases h⟩
theorem denS_aug {i : Nat} {f : Int → Int → Int} (h1 : Den K te me) : DenS K kp (tAug i te (ipI f)) (mAug kp i f me) := by
  intro G F ρ σ H D o R h q
  unfold mAug at h
  split at h
  · rename_i k hk
    split at h
    · rename_i j ρ1 e1
      split at h
      · rename_i hc
        cases h
        obtain ⟨v, hv1, hv2, _⟩ := R.var hk
        cases hv2
        refine ⟨_, hv1, ?_⟩
        refine h1 G F [] ρ σ H _ ρ1 _ R e1 fun v G1 H1 e1 R1 => ?_
        exact ⟨k, j, rfl, int_of R1.fst, q G1 _ H1 e1 (Kept.set hc.1) ((R1.drop.pushV (.int _)).assign hc.2)⟩
      · cases h
    · cases h
  · cases h
theorem denS_setO {i : Nat} {tb : TE} {mb : MX} (hb : Den K tb mb) (h1 : Den K te me) : DenS K kp (tAsg te (gSub (tVar i) tb rSetL)) (mSetO i mb me) := by
  intro G F ρ σ H D o R h q
  unfold mSetO at h
  split at h
  · cases h
  · rename_i r ρ1 e1
    split at h
    · cases h
    · rename_i d hd
      split at h
      · rename_i ds0 hs0
        split at h
        · rename_i k ρ2 e2
          split at h
          · rename_i ds hs
            split at h
            · rename_i j hj
              cases h
              refine h1 G F [] ρ σ H _ ρ1 _ R e1 fun v G1 H1 e1 R1 => ?_
              obtain ⟨a, _, ha, _, _⟩ := R1.ownVar hs0
              refine ⟨_, ha, ?_⟩
              refine hb G1 F _ ρ1 σ H1 _ ρ2 _ R1 e2 fun w G2 H2 e2 R2 => ?_
              obtain ⟨a', xs, ha', hx, hr⟩ := R2.ownVar hs
              rw [ha] at ha'
              cases ha'
              have hl : [r].length = [v].length := rfl
              obtain ⟨G3, e3, hrs, R3⟩ := Rel.giveAll (rs := [r]) (vs := [v]) (ds := [d]) (T := []) hl R2.drop (by unfold datAll; rw [hd]; rfl)
              cases hrs with
              | cons hv _ =>
                obtain ⟨a', xs', ha', hx', hr'⟩ := R3.ownVar hs
                rw [ha] at ha'
                cases ha'
                rw [hx] at hx'
                cases hx'
                refine ⟨a, xs, k, j, rfl, int_of R2.fst, hx, by rw [hr.len]; exact hj, ?_⟩
                exact q G3 σ _ ((e1.trans e2).trans e3) (Kept.refl kp σ) (R3.mutVar hs ha (hr'.set hv j))
            · cases h
          · cases h
        · cases h
      · cases h
def gIxI (K : PySem.W.Frag) : V → V → Hp → VK → Prop := fun o i H Q => ∃ l xs k v, o = .ref l ∧ i = .int k ∧ H l = some (.lst xs) ∧ atI xs k = some v ∧ Q v H
theorem denS_augO {i : Nat} {tb : TE} {mb : MX} {f : Int → Int → Int} (hb : Den K tb mb) (h1 : Den K te me) : DenS K kp (tAugS (tVar i) tb te (gIxI K) (ipI f) rSetL) (mAugO i f mb me) := by
  intro G F ρ σ H D o R h q
  unfold mAugO at h
  split at h
  · rename_i ds0 hs0
    split at h
    · rename_i k ρ1 e1
      split at h
      · rename_i ds hs
        split at h
        · rename_i x hx
          split at h
          · rename_i y ρ2 e2
            split at h
            · rename_i es hes
              split at h
              · rename_i j hj
                cases h
                obtain ⟨a, _, ha, _, _⟩ := R.ownVar hs0
                refine ⟨_, ha, ?_⟩
                refine hb G F [] ρ σ H _ ρ1 _ R e1 fun w G1 H1 e1 R1 => ?_
                have hw := int_of R1.fst
                subst hw
                obtain ⟨a', xs, ha', hH, hr⟩ := R1.ownVar hs
                rw [ha] at ha'
                cases ha'
                obtain ⟨u, hu, hru⟩ := atI_rp hr hx
                cases hru
                refine ⟨a, xs, k, _, rfl, rfl, hH, hu, ?_⟩
                refine h1 G1 F _ ρ1 σ H1 _ ρ2 _ R1 e2 fun w G2 H2 e2 R2 => ?_
                obtain ⟨a', xs', ha', hH', hr'⟩ := R2.ownVar hes
                rw [ha] at ha'
                cases ha'
                refine ⟨x, y, rfl, int_of R2.fst, ?_⟩
                refine ⟨a, xs', k, j, rfl, rfl, hH', by rw [hr'.len]; exact hj, ?_⟩
                exact q G2 σ _ (e1.trans e2) (Kept.refl kp σ) (R2.dropAll.mutVar hes ha (hr'.set (.int _) j))
              · cases h
            · cases h
          · cases h
        · cases h
      · cases h
    · cases h
  · cases h
theorem get_I : PGet X (gIxI X.K) := by
  intro pins s σ H o i ov iv Q I r1 r2 h
  obtain ⟨l, xs, k, z, rfl, rfl, hH, he, q⟩ := h
  cases r1
  obtain ⟨t, rfl⟩ := r2
  obtain ⟨its, r, pl, hz⟩ := I.list (.inl (.inl hH))
  obtain ⟨j, h1, h2, h3, h4, h5⟩ := atI_get he
  obtain ⟨w, ew, rw'⟩ := r.get h2
  have hl := r.length
  have hn := line63
  have fin : EP X pins σ Q w s := ⟨z, H, I, rw', q⟩
  by_cases h0 : 0 ≤ k
  · have hj : k.toNat = j := by
      rw [seqIndex_of h0 h5] at h1
      exact Option.some.inj h1
    exact wpAny_getItem_list pl.isList h0 (by omega) (by rw [hj]; simpa using ew) fin
  · have hj : (k + (its.toArray.size : Int)).toNat = j := by
      rw [seqIndex_neg (by omega) h4] at h1
      rw [List.size_toArray, ← hl]
      exact Option.some.inj h1
    exact wpAny_getItem_list_neg pl.isList (by omega) (by rw [List.size_toArray] <;> omega) (by omega) (by rw [hj]; simpa using ew) fin
section
variable {x : Str} {p p2 : Pos} {b : Expr} {tb : TE} {mb : MX}
theorem ms_aug (i : Nat) {op : Operator} {f : Int → Int → Int} (hp : PIp X op (ipI f)) (h1 : ME X X.K e te me) (hN : X.N.Nodup) (hi : X.N[i]? = some x := by rfl) (hx : Loc X.env.scope x := by first | exact Or.inl rfl | exact Or.inr rfl) (hv : X.fn x = true ∨ X.env.scope.names.lookup x = some .local := by first | exact .inl rfl | exact .inr rfl) : MSt X kp (.AugAssign (.Name x p) op e pos) (tAug i te (ipI f)) (mAug kp i f me) :=
  ⟨ps_aug hN hi hx h1.pe hp, denS_aug h1.dn⟩
theorem ms_setO (i : Nat) (h1 : ME X X.K e te me) (hb : ME X X.K b tb mb) (hN : X.N[i]? = some x := by rfl) (hv : Vis X.env.scope x := by first | exact Or.inl rfl | exact Or.inr (Or.inl rfl) | exact Or.inr (Or.inr rfl)) (hd : (x == ("__debug__" : Str)) = false := by decide)
    (hcd : (x == ("__classdict__" : Str)) = false := by decide) (hs1 : swapsWithSole [.Subscript (.Name x p) b p2] e pos.line X.env = pure false := by rfl) (hs2 : swappedStores [.Subscript (.Name x p) b p2] e X.env = pure none := by rfl)
    (hs3 : (assignEach [.Subscript (.Name x p) b p2] X.env).map (·.2) = [assign (.Subscript (.Name x p) b p2) X.env] := by rfl)
    (ha : ∀ v, assign (.Subscript (.Name x p) b p2) X.env v = (do let ov ← holding [v] (eval (.Name x p) X.env); let iv ← holding [v, ov] (eval b X.env); standAt p2; holding [v, ov, iv] (setItem ov iv v); release [v, ov, iv] []) := by intro _; rfl) : MSt X kp (.Assign [.Subscript (.Name x p) b p2] e pos) (tAsg te (gSub (tVar i) tb rSetL)) (mSetO i mb me) :=
  ⟨ps_asg h1.pe (pg_sub (pe_var hN hv hd hcd) hb.pe set_list ha) hs1 hs2 hs3, denS_setO hb.dn h1.dn⟩
theorem ms_augO (i : Nat) {op : Operator} {f : Int → Int → Int} (hp : PIp X op (ipI f)) (h1 : ME X X.K e te me) (hb : ME X X.K b tb mb) (hN : X.N[i]? = some x := by rfl) (hv : Vis X.env.scope x := by first | exact Or.inl rfl | exact Or.inr (Or.inl rfl) | exact Or.inr (Or.inr rfl)) (hd : (x == ("__debug__" : Str)) = false := by decide)
    (hcd : (x == ("__classdict__" : Str)) = false := by decide) (ha : ∀ ov iv new, augStore b ov iv new = (do holding [new, ov, iv] (setItem ov iv new); release [new, ov, iv] []; pure .next) := by intros; rfl) : MSt X kp (.AugAssign (.Subscript (.Name x p) b p2) op e pos) (tAugS (tVar i) tb te (gIxI X.K) (ipI f) rSetL) (mAugO i f mb me) :=
  ⟨ps_augS (pe_var hN hv hd hcd) hb.pe get_I h1.pe hp set_list ha, denS_augO hb.dn h1.dn⟩
end
end
end Dn

namespace Dn
open PySem PySem.Spec PyProof.Rows L2
open Evl (Ex)

/-! ### methods of an own list -/
/-- x.m(args), x an own list: the result, the list behind -/
def mMeth (i : Nat) (f : List D → List D → Option (D × List D)) (a : MA) : MX := fun ρ => match ρ[i]? with
  | some (.own _) => match a ρ with
    | none => none
    | some (xs, ρ1) => match datAll xs with
      | none => none
      | some es => match ρ1[i]? with
        | some (.own ds) => match f ds es with
          | none => none
          | some (d, ds') => some (.val d, ρ1.set i (.own ds'))
        | _ => none
  | _ => none
def MethS (K : PySem.W.Frag) (r : V → List V → Hp → VK → Prop) (f : List D → List D → Option (D × List D)) : Prop := ∀ (G H : Hp) (p : Addr) (xs vs : List V) (ds es : List D) (d : D) (ds' : List D) (Q : VK), H p = some (.lst xs) → Ex G H → RpA K G xs ds → RpA K G vs es → f ds es = some (d, ds') →
  (∀ v xs', RpA K G xs' ds' → Rp K G v d → Q v (upd H p (.lst xs'))) → r (.ref p) vs H Q
section
variable {K : PySem.W.Frag} {X : Cx} {i : Nat} {f : List D → List D → Option (D × List D)} {r : V → List V → Hp → VK → Prop} {t : TA} {m : MA}
theorem den_meth (hf : MethS K r f) (ha : DenA K t m) : Den K (tBM K "list" r (tVar i) t) (mMeth i f m) := by
  intro G F T ρ σ H z ρ' Q R h q
  unfold mMeth at h
  split at h
  · rename_i ds0 hs0
    split at h
    · cases h
    · rename_i xs ρ1 e1
      split at h
      · cases h
      · rename_i es hd
        split at h
        · rename_i ds hs
          split at h
          · cases h
          · rename_i d ds' hfd
            cases h
            obtain ⟨a, us, haσ, hH0, _⟩ := R.ownVar hs0
            refine ⟨_, haσ, .inl ⟨rfl, us, .inl (.inl hH0)⟩, ?_⟩
            refine ha G F T ρ σ H xs ρ1 _ R e1 fun vs G1 H1 ex1 l1 R1 => ?_
            obtain ⟨G2, e2, hr, R2⟩ := R1.giveAll l1 hd
            obtain ⟨a', us', ha', hH, hrs⟩ := R2.ownVar hs
            rw [haσ] at ha'
            cases ha'
            refine hf G2 H1 a us' vs ds es d ds' Q hH R2.l.eg hrs hr hfd fun v xs' hx hv => ?_
            exact q v G2 _ (ex1.trans e2) ((R2.mutVar hs haσ hx).pushV hv)
        · cases h
  · cases h
theorem den_meth0 (hf : MethS K r f) : Den K (tBM0 K "list" r (tVar i)) (mMeth i f mNil) := by
  intro G F T ρ σ H z ρ' Q R h q
  unfold mMeth at h
  split at h
  · rename_i ds0 hs0
    simp only [mNil, datAll, hs0] at h
    split at h
    · cases h
    · rename_i d ds' hfd
      cases h
      obtain ⟨a, us, haσ, hH, hrs⟩ := R.ownVar hs0
      refine ⟨_, haσ, .inl ⟨rfl, us, .inl (.inl hH)⟩, ?_⟩
      exact hf G H a us [] ds0 [] d ds' Q hH R.l.eg hrs .nil hfd fun v xs' hx hv => q v G _ (Ex.refl G) ((R.mutVar hs0 haσ hx).pushV hv)
  · cases h
@[simp] def fApp (ds es : List D) : Option (D × List D) := match es with
  | [e] => if ds.length < sizeLine then some (.none, ds ++ [e]) else none
  | _ => none
theorem methS_app : MethS K rAppend fApp := by
  intro G H p xs vs ds es d ds' Q hH eg hx hv hf q
  unfold fApp at hf
  split at hf
  · rename_i e
    split at hf
    · rename_i hl
      cases hf
      cases hv with
      | cons h1 h2 =>
        cases h2
        exact ⟨p, xs, _, rfl, rfl, hH, by rw [hx.len]; exact hl, q _ _ (hx.app (.cons h1 .nil)) .non⟩
    · cases hf
  · cases hf
@[simp] def fIns (ds es : List D) : Option (D × List D) := match es with
  | [.int i, e] => if ds.length < sizeLine ∧ 0 ≤ i ∧ i < 2 ^ 63 then some (.none, ds.take i.toNat ++ [e] ++ ds.drop i.toNat) else none
  | _ => none
def rInsert : V → List V → Hp → VK → Prop := fun x vs H Q => ∃ l xs i y, x = V.ref l ∧ vs = [V.int i, y] ∧ H l = some (HO.lst xs) ∧ List.length xs < sizeLine ∧ 0 ≤ i ∧ i < 2 ^ 63 ∧ Q V.non (upd H l (HO.lst (List.take (Int.toNat i) xs ++ [y] ++ List.drop (Int.toNat i) xs)))
theorem mt_ins {X : Cx} : MtR X "list.insert" rInsert := mt_insert
theorem methS_ins : MethS K rInsert fIns := by
  intro G H p xs vs ds es d ds' Q hH eg hx hv hf q
  unfold fIns at hf
  split at hf
  · rename_i i e
    split at hf
    · rename_i hl
      cases hf
      cases hv with
      | cons h1 h2 =>
        cases h1
        cases h2 with
        | cons h2 h3 =>
          cases h3
          exact ⟨p, xs, i, _, rfl, rfl, hH, by rw [hx.len]; exact hl.1, hl.2.1, hl.2.2, q _ _ (((hx.take _).app (.cons h2 .nil)).app (hx.drop _)) .non⟩
    · cases hf
  · cases hf
@[simp] def fPop (ds es : List D) : Option (D × List D) := match es with
  | [] => match ds[ds.length - 1]? with
    | some d => some (d, ds.dropLast)
    | none => none
  | _ => none
theorem RpA.dropLast {H : Hp} {xs : List V} {ds : List D} (h : RpA K H xs ds) : RpA K H xs.dropLast ds.dropLast := by
  rw [List.dropLast_eq_take, List.dropLast_eq_take, h.len]
  exact h.take _
theorem methS_pop : MethS K rPop fPop := by
  intro G H p xs vs ds es d ds' Q hH eg hx hv hf q
  unfold fPop at hf
  split at hf
  · split at hf
    · rename_i d0 hd
      cases hf
      cases hv
      obtain ⟨v, h1, h2⟩ := hx.getD hd
      exact ⟨p, xs, v, rfl, rfl, hH, by rw [hx.len]; exact h1, q _ _ hx.dropLast h2⟩
    · cases hf
  · cases hf
/-- x.pop(0) -/
@[simp] def fPop0 (ds es : List D) : Option (D × List D) := match es with
  | [.int i] => if i = 0 then match ds with
      | d :: r => some (d, r)
      | [] => none
    else none
  | _ => none
theorem methS_pop0 : MethS K rPopAt fPop0 := by
  intro G H p xs vs ds es d ds' Q hH eg hx hv hf q
  unfold fPop0 at hf
  split at hf
  · rename_i i
    split at hf
    · rename_i hi
      subst hi
      split at hf
      · cases hf
        cases hv with
        | cons h1 h2 =>
          cases h1
          cases h2
          cases hx with
          | cons hx1 hx2 =>
            exact ⟨p, _, 0, 0, _, rfl, rfl, hH, by decide, by decide, seqIndex_of (Int.le_refl 0) (by rw [List.length_cons]; omega), rfl, q _ _ hx2 hx1⟩
      · cases hf
    · cases hf
  · cases hf
@[simp] def fRev (ds es : List D) : Option (D × List D) := match es with
  | [] => some (.none, ds.reverse)
  | _ => none
theorem methS_rev : MethS K rReverse fRev := by
  intro G H p xs vs ds es d ds' Q hH eg hx hv hf q
  unfold fRev at hf
  split at hf
  · cases hf
    cases hv
    exact ⟨p, xs, rfl, rfl, hH, q _ _ hx.rev .non⟩
  · cases hf
@[simp] def fClr (ds es : List D) : Option (D × List D) := match es with
  | [] => some (.none, [])
  | _ => none
theorem methS_clr : MethS K rClear fClr := by
  intro G H p xs vs ds es d ds' Q hH eg hx hv hf q
  unfold fClr at hf
  split at hf
  · cases hf
    cases hv
    exact ⟨p, xs, rfl, rfl, hH, q _ _ .nil .non⟩
  · cases hf
section
variable {x : Str} {p apos cpos : Pos} {e : Expr} {es : List Expr} {name : Str} {id : String}
theorem me_meth (i : Nat) (hsl : Slot "list" name id) (hty : typeOf (.builtin id) = pure (.type "method_descriptor")) (hf : MethS K r f) (hr : MtR X id r) (ha : MEA X K (e :: es) t m) (hN : X.N[i]? = some x := by rfl) (hv : Vis X.env.scope x := by first | exact Or.inl rfl | exact Or.inr (Or.inl rfl) | exact Or.inr (Or.inr rfl)) (hd : (x == ("__debug__" : Str)) = false := by decide)
    (hcd : (x == ("__classdict__" : Str)) = false := by decide)
    (h1 : attributeBase (.Name x p) name X.env (eval (.Name x p) X.env) = eval (.Name x p) X.env := by rfl)
    (h2 : (((backTo cpos (starEach (e :: es) X.env)).all (fun x => !x.1)) && ((backToKw cpos (keywordEach [] X.env)).all fun x => x.1.isSome) && decide (((e :: es).length + ([] : List Keyword).length + if ([] : List Keyword).isEmpty then 0 else 1) < 30)) = true := by rfl)
    (h3 : (apos.endLine == cpos.line) = true := by rfl)
    (h4 : starEach (e :: es) X.env = (false, eval e X.env) :: starEach es X.env := by rfl) (h5 : (backTo cpos (starEach es X.env)).any (·.1) = false := by rfl) : ME X K (.Call (.Attribute (.Name x p) name apos) (e :: es) [] cpos) (tBM K "list" r (tVar i) t) (mMeth i f m) := by
  obtain rfl := ha.hK
  exact ⟨rfl, pe_bm PySem.F.plainAttrs_list hsl hty hr (pe_var hN hv hd hcd) ha.pe h1 h2 h3 h4 h5, den_meth hf ha.dn⟩
theorem me_meth0 (i : Nat) (hsl : Slot "list" name id) (hty : typeOf (.builtin id) = pure (.type "method_descriptor")) (hf : MethS K r f) (hr : MtR X id r) (hN : X.N[i]? = some x := by rfl) (hv : Vis X.env.scope x := by first | exact Or.inl rfl | exact Or.inr (Or.inl rfl) | exact Or.inr (Or.inr rfl)) (hd : (x == ("__debug__" : Str)) = false := by decide)
    (hcd : (x == ("__classdict__" : Str)) = false := by decide)
    (h1 : attributeBase (.Name x p) name X.env (eval (.Name x p) X.env) = eval (.Name x p) X.env := by rfl)
    (h3 : (apos.endLine == cpos.line) = true := by rfl) (hK : X.K = K := by rfl) : ME X K (.Call (.Attribute (.Name x p) name apos) [] [] cpos) (tBM0 K "list" r (tVar i)) (mMeth i f mNil) := by
  obtain rfl := hK
  exact ⟨rfl, pe_bm0 PySem.F.plainAttrs_list hsl hty hr (pe_var hN hv hd hcd) h1 h3, den_meth0 hf⟩
end
end

/-! ### what is walked -/
/-- turn by turn the items ds, at any heap behind G -/
def Walks (K : PySem.W.Frag) (J : It) (G : Hp) (ds : List D) : Prop := ∀ (G1 F : Hp) (T : List Ent) (ρ : List Sl) (σ : L2.St) (H : Hp), Ex G G1 → Rel K G1 F T ρ σ H →
  J.stop ds.length H ∧ ∀ i d, ds[i]? = some d → J.go i H ∧ ∀ x H', J.yld i H x H' → ∃ G2, Ex G1 G2 ∧ Rel K G2 F ((.val d, some x) :: T) ρ σ H'
abbrev MI := List Sl → Option (List D × List Sl)
def DenI (K : PySem.W.Frag) (wi : TI) (m : MI) : Prop := ∀ (G F : Hp) (T : List Ent) (ρ : List Sl) (σ : L2.St) (H : Hp) (ds : List D) (ρ' : List Sl) (R : It → Hp → Prop), Rel K G F T ρ σ H → m ρ = some (ds, ρ') →
  (∀ J G' H', Ex G G' → Rel K G' F T ρ' σ H' → Walks K J G' ds → R J H') → wi σ H R
structure MIt (X : Cx) (K : PySem.W.Frag) (tg iter : Expr) (wi : TI) (m : MI) : Prop where
  hK : X.K = K
  pe : PI X tg iter wi
  dn : DenI K wi m
def miL (a : MX) : MI := fun ρ => match a ρ with
  | some (.val (.list ds), ρ1) => some (ds, ρ1)
  | _ => none
/-- a list or a tuple -/
def miS (a : MX) : MI := fun ρ => match a ρ with
  | some (.val (.list ds), ρ1) => some (ds, ρ1)
  | some (.val (.tuple ds), ρ1) => some (ds, ρ1)
  | _ => none
/-- a list that the expression has made anew -/
def miN (a : MX) : MI := fun ρ => match a ρ with
  | some (.val (.list ds), ρ1) => some (ds, ρ1)
  | some (.own ds, ρ1) => some (ds, ρ1)
  | _ => none
def rangeD (lo : Int) (n : Nat) : List D := (List.range n).map fun (k : Nat) => PyData.int (lo + (k : Int))
def miR1 (a : MA) : MI := fun ρ => match a ρ with
  | some ([.val (.int n)], ρ1) => if n < 2 ^ 62 ∧ -(2 ^ 62) ≤ n then some (rangeD 0 n.toNat, ρ1) else none
  | _ => none
def miR2 (a : MA) : MI := fun ρ => match a ρ with
  | some ([.val (.int m), .val (.int n)], ρ1) => if -(2 ^ 62) ≤ m ∧ m < 2 ^ 62 ∧ -(2 ^ 62) ≤ n ∧ n < 2 ^ 62 then some (rangeD m (n - m).toNat, ρ1) else none
  | _ => none
def enumD (ds : List D) : List D := ds.zipIdx.map fun p => .tuple [.int (p.2 : Int), p.1]
def zipD (ds es : List D) : List D := (ds.zip es).map fun p => .tuple [p.1, p.2]
def miE (a : MX) : MI := fun ρ => match a ρ with
  | some (.val (.list ds), ρ1) => some (enumD ds, ρ1)
  | some (.own ds, ρ1) => some (enumD ds, ρ1)
  | _ => none
def strD (x : Str) : List D := x.cps.toList.map fun c => .str ⟨#[c]⟩
def miStr (a : MX) : MI := fun ρ => match a ρ with
  | some (.val (.str x), ρ1) => some (strD x, ρ1)
  | _ => none
section
variable {K : PySem.W.Frag} {X : Cx} {G F H : Hp} {T : List Ent} {ρ : List Sl} {σ : L2.St} {tg e : Expr} {te : TE} {me : MX} {ds : List D}
theorem walks_list {a : Addr} {xs : List V} (hs : SqL K G a xs) (hr : RpA K G xs ds) : Walks K (Itl K a) G ds := by
  intro G1 F T ρ σ H e1 R
  have hH : SqL K H a xs := Evl.ex_l (e1.trans R.l.eg) hs
  refine ⟨⟨xs, hH, Nat.le_of_eq hr.len⟩, fun i d hd => ?_⟩
  obtain ⟨v, hv, hrv⟩ := hr.getD hd
  refine ⟨⟨xs, v, hH, hv⟩, fun x H' hy => ?_⟩
  obtain ⟨rfl, hy⟩ := hy
  have ex := hy xs hH
  rw [hv] at ex
  cases ex
  exact ⟨G1, Ex.refl G1, R.pushV (hrv.up e1)⟩
theorem walks_tup {a : Addr} {xs : List V} (hs : SqT K G a xs) (hr : RpA K G xs ds) : Walks K (Itt K a) G ds := by
  intro G1 F T ρ σ H e1 R
  have hH : SqT K H a xs := Evl.ex_t (e1.trans R.l.eg) hs
  refine ⟨⟨xs, hH, Nat.le_of_eq hr.len⟩, fun i d hd => ?_⟩
  obtain ⟨v, hv, hrv⟩ := hr.getD hd
  refine ⟨⟨xs, v, hH, hv⟩, fun x H' hy => ?_⟩
  obtain ⟨rfl, hy⟩ := hy
  have ex := hy xs hH
  rw [hv] at ex
  cases ex
  exact ⟨G1, Ex.refl G1, R.pushV (hrv.up e1)⟩
theorem walks_range {lo : Int} {n : Nat} : Walks K (Itr lo n) G (rangeD lo n) := by
  intro G1 F T ρ σ H e1 R
  refine ⟨by show n ≤ (rangeD lo n).length; simp [rangeD], fun i d hd => ?_⟩
  have hi : i < n := by
    have := (List.getElem?_eq_some_iff.mp hd).1
    simpa [rangeD] using this
  have ed : d = .int (lo + (i : Int)) := by
    unfold rangeD at hd
    rw [List.getElem?_map, List.getElem?_range hi] at hd
    exact (Option.some.inj hd).symm
  refine ⟨hi, fun x H' hy => ?_⟩
  obtain ⟨rfl, rfl⟩ := hy
  subst ed
  exact ⟨G1, Ex.refl G1, R.pushV (.int _)⟩
theorem walks_enum {a : Addr} {xs : List V} (hs : SqL K G a xs) (hr : RpA K G xs ds) : Walks K (Ite K a) G (enumD ds) := by
  intro G1 F T ρ σ H e1 R
  have hH : SqL K H a xs := Evl.ex_l (e1.trans R.l.eg) hs
  refine ⟨⟨xs, hH, Nat.le_of_eq (by rw [hr.len]; simp [enumD])⟩, fun i d hd => ?_⟩
  unfold enumD at hd
  rw [List.getElem?_map, List.getElem?_zipIdx] at hd
  cases hdi : ds[i]? with
  | none => rw [hdi] at hd; cases hd
  | some d0 =>
    rw [hdi] at hd
    simp only [Option.map_some, Nat.zero_add] at hd
    cases hd
    obtain ⟨v, hv, hrv⟩ := hr.getD hdi
    refine ⟨⟨xs, v, hH, hv⟩, fun x H' hy => ?_⟩
    obtain ⟨t, y, rfl, hn, rfl, hy⟩ := hy
    have ex := hy xs hH
    rw [hv] at ex
    cases ex
    exact ⟨_, exg R hn, R.pushT hn (.cons (.int _) (.cons (hrv.up e1) .nil))⟩
theorem walks_str {x : Str} : Walks K (Its x) G (strD x) := by
  intro G1 F T ρ σ H e1 R
  refine ⟨by show x.cps.size ≤ (strD x).length; simp [strD], fun i d hd => ?_⟩
  unfold strD at hd
  rw [List.getElem?_map] at hd
  cases hdi : x.cps.toList[i]? with
  | none => rw [hdi] at hd; cases hd
  | some c =>
    rw [hdi] at hd
    cases hd
    have hc : x.cps[i]? = some c := by simpa using hdi
    refine ⟨?_, fun y H' hy => ?_⟩
    · show i < x.cps.size
      have := (List.getElem?_eq_some_iff.mp hdi).1
      simpa using this
    · obtain ⟨rfl, c', h1, rfl⟩ := hy
      rw [hc] at h1
      cases h1
      exact ⟨G1, Ex.refl G1, R.pushV (.str _)⟩
theorem mi_list (h1 : ME X K e te me) : MIt X K tg e (iList K te) (miL me) := by
  obtain rfl := h1.hK
  exact ⟨rfl, pi_list h1.pe, by
    intro G F T ρ σ H ds ρ' P R h q
    unfold miL at h
    split at h
    · rename_i e1
      cases h
      refine h1.dn G F T ρ σ H _ ρ' _ R e1 fun v G1 H1 ex R1 => ?_
      obtain ⟨v', ev, hv⟩ := R1.fst
      cases ev
      cases hv with
      | lst hs ha => exact ⟨_, rfl, ⟨_, Evl.ex_l R1.l.eg hs⟩, q _ G1 H1 ex R1.drop (walks_list hs ha)⟩
    · cases h⟩
theorem mi_new (h1 : ME X K e te me) : MIt X K tg e (iList K te) (miN me) := by
  obtain rfl := h1.hK
  exact ⟨rfl, pi_list h1.pe, by
    intro G F T ρ σ H ds ρ' P R h q
    unfold miN at h
    split at h
    · rename_i e1
      cases h
      refine h1.dn G F T ρ σ H _ ρ' _ R e1 fun v G1 H1 ex R1 => ?_
      obtain ⟨v', ev, hv⟩ := R1.fst
      cases ev
      cases hv with
      | lst hs ha => exact ⟨_, rfl, ⟨_, Evl.ex_l R1.l.eg hs⟩, q _ G1 H1 ex R1.drop (walks_list hs ha)⟩
    · rename_i e1
      cases h
      refine h1.dn G F T ρ σ H _ ρ' _ R e1 fun v G1 H1 ex R1 => ?_
      obtain ⟨G2, ex2, R2'⟩ := R1.l.give
      have R2 : Rel X.K G2 F ((.val (.list ds), some v) :: T) ρ' σ H1 := ⟨R1.len, R2'⟩
      obtain ⟨v', ev, hv⟩ := R2.fst
      cases ev
      cases hv with
      | lst hs ha => exact ⟨_, rfl, ⟨_, Evl.ex_l R2.l.eg hs⟩, q _ G2 H1 (ex.trans ex2) R2.drop (walks_list hs ha)⟩
    · cases h⟩
theorem mi_enum {p pos tpos : Pos} {elts : List Expr} {kk : Nat} (hg : Gl X "enumerate") (hm : X.mg "enumerate" = none) (h1 : ME X K e te me) (hs1 : starEach [e] X.env = [(false, eval e X.env)] := by rfl) : MIt X K (.Tuple elts kk tpos) (.Call (.Name "enumerate" p) [e] [] pos) (iEnum K (tCons te tNil)) (miE me) := by
  obtain rfl := h1.hK
  exact ⟨rfl, pi_enum hg hm (pa_cons h1.pe pa_nil hs1) hs1, by
    intro G F T ρ σ H ds ρ' P R h q
    unfold miE at h
    split at h
    · rename_i e1
      cases h
      refine h1.dn G F T ρ σ H _ ρ' _ R e1 fun v G1 H1 ex R1 => ?_
      obtain ⟨v', ev, hv⟩ := R1.fst
      cases ev
      cases hv with
      | lst hs ha => exact ⟨_, _, rfl, Evl.ex_l R1.l.eg hs, q _ G1 H1 ex R1.drop (walks_enum hs ha)⟩
    · rename_i e1
      cases h
      refine h1.dn G F T ρ σ H _ ρ' _ R e1 fun v G1 H1 ex R1 => ?_
      obtain ⟨G2, ex2, R2'⟩ := R1.l.give
      have R2 : Rel X.K G2 F ((.val (.list _), some v) :: T) ρ' σ H1 := ⟨R1.len, R2'⟩
      obtain ⟨v', ev, hv⟩ := R2.fst
      cases ev
      cases hv with
      | lst hs ha => exact ⟨_, _, rfl, Evl.ex_l R2.l.eg hs, q _ G2 H1 (ex.trans ex2) R2.drop (walks_enum hs ha)⟩
    · cases h⟩
theorem mi_str (h1 : ME X K e te me) : MIt X K tg e (iStr te) (miStr me) := by
  obtain rfl := h1.hK
  exact ⟨rfl, pi_str h1.pe, by
    intro G F T ρ σ H ds ρ' P R h q
    unfold miStr at h
    split at h
    · rename_i e1
      cases h
      refine h1.dn G F T ρ σ H _ ρ' _ R e1 fun v G1 H1 ex R1 => ?_
      exact ⟨_, str_of R1.fst, q _ G1 H1 ex R1.drop walks_str⟩
    · cases h⟩
theorem mi_range1 {p pos : Pos} {ta : TA} {ma : MA} (hg : Gl X "range") (hm : X.mg "range" = none) (h1 : MEA X K [e] ta ma) (hs : starEach [e] X.env = [(false, eval e X.env)] := by rfl) : MIt X K tg (.Call (.Name "range" p) [e] [] pos) (iRng1 ta) (miR1 ma) := by
  obtain rfl := h1.hK
  exact ⟨rfl, pi_range1 hg hm h1.pe hs, by
    intro G F T ρ σ H ds ρ' P R h q
    unfold miR1 at h
    split at h
    · rename_i n ρ1 e1
      split at h
      · rename_i hc
        cases h
        refine h1.dn G F T ρ σ H _ ρ' _ R e1 fun vs G1 H1 ex hl R1 => ?_
        obtain ⟨v, rfl⟩ := one_of hl rfl
        have hv := int_of R1.fst
        subst hv
        exact ⟨n, rfl, hc.2, hc.1, q _ G1 H1 ex R1.drop walks_range⟩
      · cases h
    · cases h⟩
theorem mi_range2 {e2 : Expr} {p pos : Pos} {ta : TA} {ma : MA} (hg : Gl X "range") (hm : X.mg "range" = none) (h1 : MEA X K [e, e2] ta ma) (hs : starEach [e, e2] X.env = [(false, eval e X.env), (false, eval e2 X.env)] := by rfl) (hs2 : starEach [e2] X.env = [(false, eval e2 X.env)] := by rfl) : MIt X K tg (.Call (.Name "range" p) [e, e2] [] pos) (iRng2 ta) (miR2 ma) := by
  obtain rfl := h1.hK
  exact ⟨rfl, pi_range2 hg hm h1.pe hs hs2, by
    intro G F T ρ σ H ds ρ' P R h q
    unfold miR2 at h
    split at h
    · rename_i m n ρ1 e1
      split at h
      · rename_i hc
        cases h
        refine h1.dn G F T ρ σ H _ ρ' _ R e1 fun vs G1 H1 ex hl R1 => ?_
        obtain ⟨v, w, rfl⟩ := two_of hl rfl
        have hv := int_of R1.fst
        have hw := int_of R1.drop.fst
        subst hv hw
        exact ⟨m, n, rfl, hc, q _ G1 H1 ex R1.drop.drop walks_range⟩
      · cases h
    · cases h⟩
end
/-! a list or a tuple walked: by the one rule or the other -/
def iSeq (K : PySem.W.Frag) (tl : TE) : TI := fun σ H R => tl σ H fun x H1 => ∃ a, x = .ref a ∧ (((∃ xs, SqL K H1 a xs) ∧ R (Itl K a) H1) ∨ ((∃ xs, SqT K H1 a xs) ∧ R (Itt K a) H1))
section
variable {K : PySem.W.Frag} {X : Cx} {tg e : Expr} {te : TE} {me : MX}
theorem pi_seq (hl : PE X e te) : PI X tg e (iSeq X.K te) := by
  refine ⟨fun pins s σ H R I h => ?_⟩
  refine thn (hl.run pins s σ H _ I h) fun v s1 ⟨x, H1, I1, r1, a, ex, q⟩ => ?_
  subst ex
  rcases q with ⟨⟨xs, hq⟩, q⟩ | ⟨⟨xs, hq⟩, q⟩
  · cases r1
    obtain ⟨its, rv, p, hz⟩ := I1.list hq
    refine wpAny_pyIter_list p.isList ?_
    refine ⟨s1.heap.objs.size, [s1.heap.objs.size], _, _, H1, rfl, I1.kept (t' := s1.toks) fun b o e => Heap.get?_push_of_some _ e, turn_list a _, ⟨_, Heap.get?_push_size _ rfl, rfl, rfl⟩, fun b hb => ?_, q⟩
    have e : b = s1.heap.objs.size := by simpa using hb
    subst e
    exact I1.fpOk (Nat.le_refl _) (I1.hok.fresh (Nat.le_refl _))
  · cases r1
    obtain ⟨its, rv, p, hz⟩ := I1.tuple hq
    refine wpAny_pyIter_tuple (show s1.heap.IsTuple a its.toArray from p) ?_
    refine ⟨s1.heap.objs.size, [s1.heap.objs.size], _, _, H1, rfl, I1.kept (t' := s1.toks) fun b o e => Heap.get?_push_of_some _ e, turn_tuple a _, ⟨_, Heap.get?_push_size _ rfl, rfl, rfl⟩, fun b hb => ?_, q⟩
    have e : b = s1.heap.objs.size := by simpa using hb
    subst e
    exact I1.fpOk (Nat.le_refl _) (I1.hok.fresh (Nat.le_refl _))
theorem mi_seq (h1 : ME X K e te me) : MIt X K tg e (iSeq K te) (miS me) := by
  obtain rfl := h1.hK
  exact ⟨rfl, pi_seq h1.pe, by
    intro G F T ρ σ H ds ρ' P R h q
    unfold miS at h
    split at h
    · rename_i e1
      cases h
      refine h1.dn G F T ρ σ H _ ρ' _ R e1 fun v G1 H1 ex R1 => ?_
      obtain ⟨v', ev, hv⟩ := R1.fst
      cases ev
      cases hv with
      | lst hs ha => exact ⟨_, rfl, .inl ⟨⟨_, Evl.ex_l R1.l.eg hs⟩, q _ G1 H1 ex R1.drop (walks_list hs ha)⟩⟩
    · rename_i e1
      cases h
      refine h1.dn G F T ρ σ H _ ρ' _ R e1 fun v G1 H1 ex R1 => ?_
      obtain ⟨v', ev, hv⟩ := R1.fst
      cases ev
      cases hv with
      | tup hs ha => exact ⟨_, rfl, .inr ⟨⟨_, .inl (.inl (R1.l.eg _ _ hs))⟩, q _ G1 H1 ex R1.drop (walks_tup (.inl (.inl hs)) ha)⟩⟩
    · cases h⟩
end
end Dn

namespace Dn
open PySem PySem.Spec PyProof.Rows L2
open Evl (Ex)

/-! ### for -/
@[simp] def mLoop (g : MG) (b : MS) : List D → List Sl → Option Out
  | [], ρ => some (.nx ρ)
  | d :: ds, ρ => match g d ρ with
    | none => none
    | some ρ1 => match b ρ1 with
      | some (.nx ρ2) => mLoop g b ds ρ2
      | some (.ct ρ2) => mLoop g b ds ρ2
      | some (.bk ρ2) => some (.nx ρ2)
      | some (.rt r ρ2) => some (.rt r ρ2)
      | none => none
def mFor (i : MI) (g : MG) (b : MS) : MS := fun ρ => match i ρ with
  | none => none
  | some (ds, ρ1) => mLoop g b ds ρ1
section
variable {K : PySem.W.Frag} {X : Cx} {kp : Nat → Bool} {pos : Pos} {wi : TI} {mi : MI} {g : TG} {mg : MG} {tb : TS} {mb : MS} {vs : List Nat}
theorem denS_for (hi : DenI K wi mi) (hg : DenG K kp vs g mg) (hb : DenS K kp tb mb) : DenS K kp (tFor wi g tb) (mFor mi mg mb) := by
  intro G F ρ σ H D o R h q
  unfold mFor at h
  cases e1 : mi ρ with
  | none => rw [e1] at h; cases h
  | some p =>
    obtain ⟨ds, ρ1⟩ := p
    simp only [e1] at h
    refine hi G F [] ρ σ H ds ρ1 _ R e1 fun J G1 H1 ex1 R1 W => ?_
    refine ⟨fun i m σ' H' => i + m = ds.length ∧ ∃ ρ' G', Ex G1 G' ∧ Kept kp σ σ' ∧ Rel K G' F [] ρ' σ' H' ∧ mLoop mg mb (ds.drop i) ρ' = some o, ⟨ds.length, Nat.zero_add _, ρ1, G1, Ex.refl G1, Kept.refl kp σ, R1, h⟩, ?_⟩
    rintro i m σ2 H2 ⟨him, ρ2, G2, ex2, k2, R2, h2⟩
    obtain ⟨hstop, hgo⟩ := W G2 F [] ρ2 σ2 H2 ex2 R2
    by_cases hlt : i < ds.length
    · have hd : ds[i]? = some ds[i] := List.getElem?_eq_getElem hlt
      have hdrop : ds.drop i = ds[i] :: ds.drop (i + 1) := (List.drop_eq_getElem_cons hlt)
      rw [hdrop] at h2
      unfold mLoop at h2
      obtain ⟨go, yld⟩ := hgo i _ hd
      refine .inr ⟨go, fun σ' H' => ∃ ρ' G', Ex G1 G' ∧ Kept kp σ σ' ∧ Rel K G' F [] ρ' σ' H' ∧ mLoop mg mb (ds.drop (i + 1)) ρ' = some o, fun σ' H' hN => ⟨m - 1, by omega, by omega, hN⟩, fun x H' hy => ?_⟩
      obtain ⟨G3, ex3, R3⟩ := yld x H' hy
      cases e3 : mg ds[i] ρ2 with
      | none => rw [e3] at h2; cases h2
      | some ρ3 =>
        simp only [e3] at h2
        refine hg G3 F [] ρ2 σ2 H' _ x ρ3 _ R3 e3 fun σ4 k4 _ R4 => ?_
        cases e4 : mb ρ3 with
        | none => rw [e4] at h2; cases h2
        | some o4 =>
          rw [e4] at h2
          refine hb G3 F ρ3 σ4 H' _ o4 R4 e4 ?_
          cases o4 with
          | nx ρ5 => exact fun G5 σ5 H5 ex5 k5 R5 => ⟨ρ5, G5, (ex2.trans ex3).trans ex5, (k2.trans k4).trans k5, R5, h2⟩
          | ct ρ5 => exact fun G5 σ5 H5 ex5 k5 R5 => ⟨ρ5, G5, (ex2.trans ex3).trans ex5, (k2.trans k4).trans k5, R5, h2⟩
          | bk ρ5 =>
            cases h2
            exact fun G5 σ5 H5 ex5 k5 R5 => q G5 σ5 H5 (((ex1.trans ex2).trans ex3).trans ex5) ((k2.trans k4).trans k5) R5
          | rt r ρ5 =>
            cases h2
            exact fun v G5 σ5 H5 ex5 k5 R5 => q v G5 σ5 H5 (((ex1.trans ex2).trans ex3).trans ex5) ((k2.trans k4).trans k5) R5
    · have e : i = ds.length := by omega
      subst e
      rw [List.drop_length] at h2
      cases h2
      exact .inl ⟨hstop, q G2 σ2 H2 (ex1.trans ex2) k2 R2⟩
theorem ms_for {tg iter : Expr} {body : List Stmt} (hp : PassesOwn (model X.prog X.w) X.A X.env X.xe) (hc : X.calm = true) (hi : MIt X X.K tg iter wi mi) (hg : MGt X X.K kp vs tg g mg) (hb : MSs X kp body tb mb)
    (hs : ∀ x, foldedSetIterable iter X.env x = pure x := by intro _; rfl) : MSt X kp (.For tg iter body [] pos) (tFor wi g tb) (mFor mi mg mb) := ⟨ps_for hp hc hi.pe hg.pe hb.pe hs, denS_for hi.dn hg.dn hb.dn⟩
end
/-! ### comprehensions -/
@[simp] def wipeD (ρ : List Sl) : List Nat → List Sl
  | [] => ρ
  | v :: vs => (wipeD ρ vs).set v .un
def mTYes : MT := fun ρ => some (true, ρ)
/-- the turns of a comprehension: the list so far, the slots -/
@[simp] def mCompL (g : MG) (t : MT) (e : MX) (vs : List Nat) : List D → List D → List Sl → Option (List D × List Sl)
  | [], acc, ρ => some (acc, ρ)
  | d :: ds, acc, ρ => match g d (wipeD ρ vs) with
    | none => none
    | some ρ1 => match t ρ1 with
      | none => none
      | some (false, ρ2) => mCompL g t e vs ds acc ρ2
      | some (true, ρ2) => match e ρ2 with
        | none => none
        | some (r, ρ3) => match datOf r with
          | none => none
          | some y => if acc.length < sizeLine then mCompL g t e vs ds (acc ++ [y]) ρ3 else none
def mComp (i : MI) (g : MG) (t : MT) (e : MX) (vs : List Nat) : MX := fun ρ => match i ρ with
  | none => none
  | some (ds, ρ1) => match mCompL g t e vs ds [] (wipeD ρ1 vs) with
    | none => none
    | some (acc, ρ2) => some (.own acc, wipeD ρ2 vs)
section
variable {K : PySem.W.Frag} {X : Cx} {kp : Nat → Bool} {pos : Pos} {wi : TI} {mi : MI} {g : TG} {mg : MG} {tt : TT} {mt : MT} {te : TE} {me : MX} {vs : List Nat} {G F H : Hp} {T : List Ent} {ρ : List Sl} {σ : L2.St}
theorem Rel.wiped (R : Rel K G F T ρ σ H) : ∀ ws : List Nat, Rel K G F T (wipeD ρ ws) (wipe σ ws) H
  | [] => R
  | w :: ws => (Rel.wiped R ws).forget w none
/-- wiped slots do not tell what stands there: back to any frame that agrees elsewhere -/
theorem Rel.unwipe {τ : L2.St} (R : Rel K G F T ρ τ H) : ∀ (ws : List Nat) (σ : L2.St), wipe σ ws = wipe τ ws → Rel K G F T (wipeD ρ ws) σ H := by
  intro ws σ e
  have key : ∀ (us : List Nat) (τ' : L2.St), wipe σ us = wipe τ' us → ∀ ρ', Rel K G F T ρ' τ' H → Rel K G F T (wipeD ρ' us) σ H := by
    intro us
    induction us with
    | nil => intro τ' e ρ' R'; rw [show σ = τ' from e]; exact R'
    | cons u us ih =>
      intro τ' e ρ' R'
      -- at u: take τ' with σ's own value at u
      have e2 : (wipe σ us).set u none = (wipe τ' us).set u none := e
      have hl : τ'.length = σ.length := by
        have := congrArg List.length e2
        rw [List.length_set, List.length_set, wipe_length, wipe_length] at this
        exact this.symm
      by_cases hu : u < σ.length
      · have R2 : Rel K G F T (ρ'.set u .un) (τ'.set u σ[u]) H := R'.forget u _
        have e3 : wipe σ us = wipe (τ'.set u σ[u]) us := by
          refine List.ext_getElem? fun j => ?_
          by_cases hj : u = j
          · subst hj
            by_cases hm : u ∈ us
            · rw [wipe_set hm]
              have h1 : ∀ τ : L2.St, u < τ.length → (wipe τ us)[u]? = some none := by
                intro τ hτ
                cases q : (wipe τ us)[u]? with
                | none =>
                  rw [List.getElem?_eq_none_iff, wipe_length] at q
                  omega
                | some o =>
                  cases o with
                  | none => rfl
                  | some v => exact absurd hm (wipe_some q).2
              rw [h1 σ hu, h1 τ' (by omega)]
            · rw [wipe_out hm, wipe_out hm, List.getElem?_set_self (by omega), List.getElem?_eq_getElem hu]
          · have h1 := congrArg (fun l : L2.St => l[j]?) e2
            simp only [List.getElem?_set_ne hj] at h1
            rw [h1]
            by_cases hm : j ∈ us
            · have h1 : ∀ τ : L2.St, (wipe τ us)[j]? = if j < τ.length then some none else none := by
                intro τ
                split
                · rename_i hτ
                  cases q : (wipe τ us)[j]? with
                  | none =>
                    rw [List.getElem?_eq_none_iff, wipe_length] at q
                    omega
                  | some o =>
                    cases o with
                    | none => rfl
                    | some v => exact absurd hm (wipe_some q).2
                · rename_i hτ
                  rw [List.getElem?_eq_none_iff, wipe_length]
                  omega
              rw [h1, h1, List.length_set]
            · rw [wipe_out hm, wipe_out hm, List.getElem?_set_ne hj]
        have R3 := ih (τ'.set u σ[u]) e3 (ρ'.set u .un) R2
        have e4 : wipeD (ρ'.set u .un) us = wipeD ρ' (u :: us) := by
          have key2 : ∀ (ws : List Nat) (ρ : List Sl), wipeD (ρ.set u .un) ws = (wipeD ρ ws).set u .un := by
            intro ws
            induction ws with
            | nil => intro ρ; rfl
            | cons w ws ih =>
              intro ρ
              show (wipeD (ρ.set u .un) ws).set w .un = ((wipeD ρ ws).set w .un).set u .un
              rw [ih]
              by_cases hw : u = w
              · subst hw; rfl
              · rw [List.set_comm _ _ hw]
          exact key2 us ρ'
        rw [e4] at R3
        exact R3
      · have e5 : (wipe σ us).set u none = wipe σ us := List.set_eq_of_length_le (by rw [wipe_length]; omega)
        have e6 : (wipe τ' us).set u none = wipe τ' us := List.set_eq_of_length_le (by rw [wipe_length]; omega)
        have R3 := ih τ' (by rw [e5, e6] at e2; exact e2) ρ' R'
        have e7 : wipeD ρ' (u :: us) = wipeD ρ' us := List.set_eq_of_length_le (by
          have key2 : ∀ (ws : List Nat), (wipeD ρ' ws).length = ρ'.length := by
            intro ws
            induction ws with
            | nil => rfl
            | cons w ws ih => show ((wipeD ρ' ws).set w .un).length = _; rw [List.length_set, ih]
          rw [key2 us, R'.len]; omega)
        rw [e7]
        exact R3
  exact key ws τ e ρ R
theorem Rel.newOwn {p : Addr} (R : Rel K G F T ρ σ H) (hn : H p = none) : Rel K G F ((.own [], some (.ref p)) :: T) ρ σ (upd H p (.lst [])) := R.pushO hn .nil
theorem Rel.mutTop {p : Addr} {ds ds' : List D} {vs' : List V} (R : Rel K G F ((.own ds, some (.ref p)) :: T) ρ σ H) (h : RpA K G vs' ds') : Rel K G F ((.own ds', some (.ref p)) :: T) ρ σ (upd H p (.lst vs')) := ⟨R.len, R.l.mut h⟩
theorem den_comp (hi : DenI K wi mi) (hg : DenG K kp vs g mg) (ht : DenT K tt mt) (he : Den K te me) : Den K (tLc wi g tt te vs) (mComp mi mg mt me vs) := by
  intro G F T ρ σ H z ρ' Q R h q
  unfold mComp at h
  cases e1 : mi ρ with
  | none => rw [e1] at h; cases h
  | some p =>
    obtain ⟨ds, ρ1⟩ := p
    simp only [e1] at h
    cases e2 : mCompL mg mt me vs ds [] (wipeD ρ1 vs) with
    | none => simp only [e2] at h; cases h
    | some p2 =>
      obtain ⟨acc, ρ2⟩ := p2
      simp only [e2] at h
      cases h
      refine hi G F T ρ σ H ds ρ1 _ R e1 fun J G1 H1 ex1 R1 W => fun D hD => ?_
      have Rs : Rel K G1 F ((.own [], some (.ref D)) :: T) (wipeD ρ1 vs) (wipe σ vs) (upd H1 D (.lst [])) := (R1.newOwn hD).wiped vs
      refine ⟨fun i m H' => i + m = ds.length ∧ ∃ ac ρx τ G', Ex G1 G' ∧ wipe τ vs = wipe σ vs ∧ Rel K G' F ((.own ac, some (.ref D)) :: T) ρx τ H' ∧ mCompL mg mt me vs (ds.drop i) ac ρx = some (acc, ρ2), ⟨ds.length, Nat.zero_add _, [], _, _, G1, Ex.refl G1, wipe_wipe σ vs, Rs, e2⟩, ?_⟩
      rintro i m H2 ⟨him, ac, ρx, τ, G2, ex2, hτ, R2, h2⟩
      obtain ⟨hstop, hgo⟩ := W G2 F _ ρx τ H2 ex2 R2
      by_cases hlt : i < ds.length
      · have hd : ds[i]? = some ds[i] := List.getElem?_eq_getElem hlt
        rw [List.drop_eq_getElem_cons hlt] at h2
        unfold mCompL at h2
        obtain ⟨go, yld⟩ := hgo i _ hd
        refine .inr ⟨go, fun H' => ∃ ac ρx τ G', Ex G1 G' ∧ wipe τ vs = wipe σ vs ∧ Rel K G' F ((.own ac, some (.ref D)) :: T) ρx τ H' ∧ mCompL mg mt me vs (ds.drop (i + 1)) ac ρx = some (acc, ρ2), fun H' hN => ⟨m - 1, by omega, by omega, hN⟩, fun x H' hy => ?_⟩
        obtain ⟨G3, ex3, R3⟩ := yld x H' hy
        have R3' : Rel K G3 F ((.val ds[i], some x) :: (.own ac, some (.ref D)) :: T) (wipeD ρx vs) (wipe σ vs) H' := by
          rw [← hτ]
          exact R3.wiped vs
        cases e3 : mg ds[i] (wipeD ρx vs) with
        | none => rw [e3] at h2; cases h2
        | some ρ3 =>
          simp only [e3] at h2
          refine hg G3 F _ _ _ H' _ x ρ3 _ R3' e3 fun σ4 _ hw R4 => ?_
          have hw4 : wipe σ4 vs = wipe σ vs := by
            rw [hw vs fun _ h => h]
            exact wipe_wipe σ vs
          refine ⟨hw4, ?_⟩
          cases e4 : mt ρ3 with
          | none => rw [e4] at h2; cases h2
          | some p4 =>
            obtain ⟨b, ρ4⟩ := p4
            simp only [e4] at h2
            refine ht G3 F _ ρ3 σ4 H' b ρ4 _ R4 e4 fun G5 H5 ex5 R5 => ?_
            cases b with
            | false =>
              rw [if_neg Bool.false_ne_true]
              exact ⟨ac, ρ4, σ4, G5, (ex2.trans ex3).trans ex5, hw4, R5, h2⟩
            | true =>
              rw [if_pos rfl]
              cases e6 : me ρ4 with
              | none => simp only [e6] at h2; cases h2
              | some p6 =>
                obtain ⟨r, ρ6⟩ := p6
                simp only [e6] at h2
                cases e7 : datOf r with
                | none => simp only [e7] at h2; cases h2
                | some y =>
                  simp only [e7] at h2
                  split at h2
                  · rename_i hz
                    refine he G5 F _ ρ4 σ4 H5 r ρ6 _ R5 e6 fun v G6 H6 ex6 R6 => ?_
                    have hl : [r].length = [v].length := rfl
                    obtain ⟨G7, ex7, hrs, R7⟩ := Rel.giveAll (rs := [r]) (vs := [v]) (ds := [y]) hl R6 (by unfold datAll; rw [e7]; rfl)
                    obtain ⟨p0, us, ep, hp0, _, _, hra⟩ := R7.fst
                    cases ep
                    cases hrs with
                    | cons hv _ =>
                      refine ⟨us, hp0, by rw [hra.len]; exact hz, ?_⟩
                      exact ⟨ac ++ [y], ρ6, σ4, G7, (((ex2.trans ex3).trans ex5).trans ex6).trans ex7, hw4, R7.mutTop (hra.app (.cons hv .nil)), h2⟩
                  · cases h2
      · have e : i = ds.length := by omega
        subst e
        rw [List.drop_length] at h2
        cases h2
        exact .inl ⟨hstop, q _ G2 H2 (ex1.trans ex2) (R2.unwipe vs σ hτ.symm)⟩
structure MTs (X : Cx) (K : PySem.W.Frag) (ifs : List Expr) (t : TT) (m : MT) : Prop where
  hK : X.K = K
  pe : PTs X ifs t
  dn : DenT K t m
theorem mts_nil (hK : X.K = K := by rfl) : MTs X K [] tYes mTYes := by
  obtain rfl := hK
  exact ⟨rfl, pts_nil, by
    intro G F T ρ σ H b ρ' Q R h q
    cases h
    exact q G H (Ex.refl G) R⟩
theorem mts_one {c : Expr} {t : TT} {m : MT} (h : MET X K c t m) : MTs X K [c] t m := by
  obtain rfl := h.hK
  exact ⟨rfl, pts_one h.pe, h.dn⟩
theorem me_comp {elt tg iter : Expr} {ifs : List Expr} {scope : Scope} {own : List (Str × Nat)} (hc : X.calm = true) (hN : X.N.Nodup) (hi : MIt X K tg iter wi mi) (ok : BlkOk X.N X.env.scope scope own)
    (hg : ∀ (s : Shared) (H : Hp) (C : Addr) (cl : List (Str × Addr)) (fp : List Addr), MGt (X.blk s H scope (compEnvC scope cl C X.env) fp) K (fun _ => false) (own.map (·.2)) tg g mg)
    (ht : ∀ (s : Shared) (H : Hp) (C : Addr) (cl : List (Str × Addr)) (fp : List Addr), MTs (X.blk s H scope (compEnvC scope cl C X.env) fp) K ifs tt mt)
    (he : ∀ (s : Shared) (H : Hp) (C : Addr) (cl : List (Str × Addr)) (fp : List Addr), ME (X.blk s H scope (compEnvC scope cl C X.env) fp) K elt te me) (hs : ∀ x, foldedSetIterable iter X.env x = pure x := by intro _; rfl) :
    ME X K (.ListComp elt [⟨tg, iter, ifs, 0⟩] scope pos) (tLc wi g tt te (own.map (·.2))) (mComp mi mg mt me (own.map (·.2))) := by
  obtain rfl := hi.hK
  have s0 : Shared := X.s_0
  exact ⟨rfl, pe_lc hc hN hi.pe ok (fun s H C cl fp => (hg s H C cl fp).pe) (fun s H C cl fp => (ht s H C cl fp).pe) (fun s H C cl fp => (he s H C cl fp).pe) hs,
    den_comp hi.dn (hg X.s_0 X.H_0 0 [] []).dn (ht X.s_0 X.H_0 0 [] []).dn (he X.s_0 X.H_0 0 [] []).dn⟩
theorem ms_asgComp (i : Nat) {y : Str} {py : Pos} {elt tg iter : Expr} {ifs : List Expr} {scope : Scope} {own : List (Str × Nat)} {spos : Pos} (hc : X.calm = true) (hN : X.N.Nodup) (hi : MIt X X.K tg iter wi mi) (ok : BlkOk X.N X.env.scope scope own)
    (hg : ∀ (s : Shared) (H : Hp) (C : Addr) (cl : List (Str × Addr)) (fp : List Addr), MGt (X.blk s H scope (compEnvC scope cl C X.env) fp) X.K (fun _ => false) (own.map (·.2)) tg g mg)
    (ht : ∀ (s : Shared) (H : Hp) (C : Addr) (cl : List (Str × Addr)) (fp : List Addr), MTs (X.blk s H scope (compEnvC scope cl C X.env) fp) X.K ifs tt mt)
    (he : ∀ (s : Shared) (H : Hp) (C : Addr) (cl : List (Str × Addr)) (fp : List Addr), ME (X.blk s H scope (compEnvC scope cl C X.env) fp) X.K elt te me)
    (hsw : swapsWith (.ListComp elt [⟨tg, iter, ifs, 0⟩] scope pos) (some (.Name y py)) spos.line X.env = pure true)
    (hy : X.N[i]? = some y := by rfl) (hyl : X.env.scope.names.lookup y = some .local := by rfl) (hs : ∀ x, foldedSetIterable iter X.env x = pure x := by intro _; rfl) :
    MSt X kp (.Assign [.Name y py] (.ListComp elt [⟨tg, iter, ifs, 0⟩] scope pos) spos) (tAsg (tLc wi g tt te (own.map (·.2))) (gName i)) (mAsg kp i (mComp mi mg mt me (own.map (·.2)))) :=
  ⟨ps_setLc hc hN hy hyl hsw hi.pe ok (fun s H C cl fp => (hg s H C cl fp).pe) (fun s H C cl fp => (ht s H C cl fp).pe) (fun s H C cl fp => (he s H C cl fp).pe) hs,
    denS_asg (den_comp hi.dn (hg X.s_0 X.H_0 0 [] []).dn (ht X.s_0 X.H_0 0 [] []).dn (he X.s_0 X.H_0 0 [] []).dn)⟩
end
end Dn

namespace Dn
open PySem PySem.Spec PyProof.Rows L2
open Evl (Ex)

/-! ### calls -/
abbrev MF := List Sl → Option (Sl × List Sl)
def spD (K : PySem.W.Frag) (mf : MF) : Sp := fun vs H Q _ => ∃ G F args r args', Rel K G F [] args (vs.map some) H ∧ mf args = some (r, args') ∧ ∀ v G' H', Ex G G' → Rel K G' F [(r, some v)] args' (vs.map some) H' → Q v H'
open Classical in
/-- the callers' own together with ours that is not handed in -/
noncomputable def hold (F : Hp) (L : List Ent) (H : Hp) : Hp := fun a => if ∃ e ∈ L, Own e a then H a else F a
section
variable {K : PySem.W.Frag} {G G' F H H' : Hp} {L : List Ent} {A : List Ent} {T : List Ent} {ρ : List Sl} {σ : L2.St}
theorem hold_in {a : Addr} {e : Ent} (h : e ∈ L) (o : Own e a) : hold F L H a = H a := by
  unfold hold
  rw [if_pos ⟨e, h, o⟩]
theorem hold_out {a : Addr} (h : ¬ ∃ e ∈ L, Own e a) : hold F L H a = F a := by
  unfold hold
  rw [if_neg h]
theorem call_in (R : RelL K G F (A ++ L) H) : RelL K G (hold F L H) A H := by
  have hp := List.pairwise_append.mp R.ap
  refine ⟨R.eg, fun a o h => ?_, fun a o h => ?_, fun e he => ?_, hp.1⟩
  · by_cases c : ∃ e ∈ L, Own e a
    · obtain ⟨e, h1, h2⟩ := c
      rw [hold_in h1 h2] at h
      exact h
    · rw [hold_out c] at h
      exact R.ef a o h
  · by_cases c : ∃ e ∈ L, Own e a
    · obtain ⟨e, h1, h2⟩ := c
      obtain ⟨_, _, g, _⟩ := R.owned (List.mem_append_right _ h1) h2
      exact g
    · rw [hold_out c] at h
      exact R.gf a o h
  · have h := R.ok e (List.mem_append_left _ he)
    obtain ⟨s, ov⟩ := e
    cases s with
    | un => exact True.intro
    | ex c => exact h
    | val d => exact h
    | own ds =>
      obtain ⟨p, vs, h1, h2, h3, h4, h5⟩ := h
      refine ⟨p, vs, h1, h2, h3, ?_, h5⟩
      subst h1
      rw [hold_out (fun ⟨e', g1, g2⟩ => hp.2.2 _ he e' g1 p own_own g2)]
      exact h4
theorem call_out (R : RelL K G F L H) (eg : Ex G G') (R' : RelL K G' (hold F L H) A H') : RelL K G' F (A ++ L) H' := by
  have own_hold : ∀ e ∈ L, ∀ p, Own e p → ∃ vs, hold F L H p = some (.lst vs) := fun e he p ho => by
    obtain ⟨vs, h1, _⟩ := R.owned he ho
    exact ⟨vs, by rw [hold_in he ho]; exact h1⟩
  have fh : ∀ a o, F a = some o → hold F L H a = some o := fun a o h => by
    by_cases c : ∃ e ∈ L, Own e a
    · obtain ⟨e, h1, h2⟩ := c
      obtain ⟨_, _, _, g⟩ := R.owned h1 h2
      rw [h] at g
      cases g
    · rw [hold_out c]
      exact h
  refine ⟨R'.eg, fun a o h => R'.ef a o (fh a o h), fun a o h => R'.gf a o (fh a o h), fun e he => ?_, List.pairwise_append.mpr ⟨R'.ap, R.ap, fun e he e' he' p ho ho' => ?_⟩⟩
  · rcases List.mem_append.mp he with he | he
    · have h := R'.ok e he
      obtain ⟨s, ov⟩ := e
      cases s with
      | un => exact True.intro
      | ex c => exact h
      | val d => exact h
      | own ds =>
        obtain ⟨p, vs, h1, h2, h3, h4, h5⟩ := h
        refine ⟨p, vs, h1, h2, h3, ?_, h5⟩
        by_cases c : ∃ e ∈ L, Own e p
        · obtain ⟨e, g1, g2⟩ := c
          obtain ⟨ws, g3⟩ := own_hold e g1 p g2
          rw [h4] at g3
          cases g3
        · rw [hold_out c] at h4
          exact h4
    · have h := R.ok e he
      obtain ⟨s, ov⟩ := e
      cases s with
      | un => exact True.intro
      | ex c =>
        obtain ⟨v, h1, h2⟩ := h
        exact ⟨v, h1, (eg) _ _ h2⟩
      | val d =>
        obtain ⟨v, h1, h2⟩ := h
        exact ⟨v, h1, h2.up eg⟩
      | own ds =>
        obtain ⟨p, vs, h1, h2, h3, h4, h5⟩ := h
        subst h1
        have hh : hold F L H p = some (.lst vs) := by rw [hold_in he own_own]; exact h2
        exact ⟨p, vs, rfl, R'.ef p _ hh, R'.gf p _ hh, h4, h5.up eg⟩
  · obtain ⟨ws, g3⟩ := own_hold e' he' p ho'
    obtain ⟨_, _, _, g⟩ := R'.owned he ho
    rw [g3] at g
    cases g
end
def mCall (mf : MF) (ws : List D) (a : MA) : MX := fun ρ => match a ρ with
  | none => none
  | some (xs, ρ1) => match mf (xs ++ ws.map Sl.val) with
    | none => none
    | some (r, _) => some (r, ρ1)
/-- the first argument a name that holds an own list: it comes back changed -/
def mCallM (mf : MF) (i : Nat) (ws : List D) (a : MA) : MX := fun ρ => match ρ[i]? with
  | some (.own _) => match a ρ with
    | none => none
    | some (xs, ρ1) => match ρ1[i]? with
      | some (.own ds) => match mf (.own ds :: (xs ++ ws.map Sl.val)) with
        | some (r, s :: _) => some (r, ρ1.set i s)
        | _ => none
      | _ => none
  | _ => none
section
variable {K : PySem.W.Frag} {X : Cx} {mf : MF} {ta : TA} {ma : MA} {E : XK}
theorem zip_append' {α β : Type} : ∀ (a b : List α) (c d : List β), a.length = c.length → (a ++ b).zip (c ++ d) = a.zip c ++ b.zip d
  | [], b, [], d, _ => rfl
  | [], _, _ :: _, _, h => by cases h
  | _ :: _, _, [], _, h => by cases h
  | x :: a, b, y :: c, d, h => by
    show (x, y) :: (a ++ b).zip (c ++ d) = (x, y) :: (a.zip c ++ b.zip d)
    rw [zip_append' a b c d (Nat.succ.inj h)]
theorem consts_push {dvs : List V} {ws : List D} (hw : RpA K (fun _ => none) dvs ws) {G F H : Hp} : ∀ {L : List Ent}, RelL K G F L H → RelL K G F (ents (ws.map Sl.val) dvs ++ L) H := by
  intro L R
  have key : ∀ (dvs : List V) (ws : List D), RpA K (fun _ => none) dvs ws → RelL K G F (ents (ws.map Sl.val) dvs ++ L) H := by
    intro dvs
    induction dvs with
    | nil => intro ws h; cases h; exact R
    | cons v r ih =>
      intro ws h
      cases h with
      | cons h1 h2 => exact (ih _ h2).pushVal (h1.up fun _ _ z => by cases z)
  exact key dvs ws hw
theorem den_call {dvs : List V} {ws : List D} (hw : RpA K (fun _ => none) dvs ws) (ha : DenA K ta ma) : Den K (tCall (spD K mf) dvs E ta) (mCall mf ws ma) := by
  intro G F T ρ σ H z ρ' Q R h q
  unfold mCall at h
  cases e1 : ma ρ with
  | none => rw [e1] at h; cases h
  | some p =>
    obtain ⟨xs, ρ1⟩ := p
    simp only [e1] at h
    cases e2 : mf (xs ++ ws.map Sl.val) with
    | none => simp only [e2] at h; cases h
    | some p2 =>
      obtain ⟨r, args'⟩ := p2
      simp only [e2] at h
      cases h
      refine ha G F T ρ σ H xs ρ' _ R e1 fun vs G1 H1 ex1 l1 R1 => ?_
      have hwl : (ws.map Sl.val).length = dvs.length := by rw [List.length_map]; exact hw.len.symm
      -- arguments, defaults behind them
      have RA : RelL K G1 F ((xs ++ ws.map Sl.val).zip ((vs ++ dvs).map some) ++ (T ++ ρ'.zip σ)) H1 := by
        have e : (xs ++ ws.map Sl.val).zip ((vs ++ dvs).map some) = ents xs vs ++ ents (ws.map Sl.val) dvs := by
          rw [List.map_append]
          exact zip_append' _ _ _ _ (by rw [List.length_map]; exact l1)
        rw [e]
        have R2 := consts_push hw R1.l
        refine R2.perm ?_
        simp only [List.append_assoc]
        exact List.perm_append_comm_assoc _ _ _
      have RL : RelL K G1 F (T ++ ρ'.zip σ) H1 := RA.sub (List.sublist_append_right _ _)
      refine ⟨G1, hold F (T ++ ρ'.zip σ) H1, xs ++ ws.map Sl.val, z, args', ⟨by have := hw.len; simp; omega, call_in RA⟩, e2, fun v G2 H2 ex2 R2 => ?_⟩
      have R3 := call_out RL ex2 R2.l
      refine q v G2 H2 (ex1.trans ex2) ⟨R1.len, ?_⟩
      refine R3.sub ?_
      show ((z, some v) :: (T ++ ρ'.zip σ)).Sublist ((z, some v) :: (args'.zip _ ++ (T ++ ρ'.zip σ)))
      exact List.Sublist.cons_cons _ (List.sublist_append_right _ _)
theorem den_callM {i : Nat} {dvs : List V} {ws : List D} (hw : RpA K (fun _ => none) dvs ws) (ha : DenA K ta ma) : Den K (tCall (spD K mf) dvs E (tCons (tVar i) ta)) (mCallM mf i ws ma) := by
  intro G F T ρ σ H z ρ' Q R h q
  unfold mCallM at h
  split at h
  · rename_i ds0 hs0
    split at h
    · cases h
    · rename_i xs ρ1 e1
      split at h
      · rename_i ds hs
        split at h
        · rename_i r s args' e2
          cases h
          obtain ⟨a, _, haσ, _, _⟩ := R.ownVar hs0
          refine ⟨_, haσ, ?_⟩
          refine ha G F T ρ σ H xs ρ1 _ R e1 fun vs G1 H1 ex1 l1 R1 => ?_
          have hwl : (ws.map Sl.val).length = dvs.length := by rw [List.length_map]; exact hw.len.symm
          have Ro := R1.out hs haσ
          have RA : RelL K G1 F ((Sl.own ds :: (xs ++ ws.map Sl.val)).zip ((V.ref a :: (vs ++ dvs)).map some) ++ (T ++ (ρ1.set i .un).zip σ)) H1 := by
            have e : (Sl.own ds :: (xs ++ ws.map Sl.val)).zip ((V.ref a :: (vs ++ dvs)).map some) = (Sl.own ds, some (V.ref a)) :: (ents xs vs ++ ents (ws.map Sl.val) dvs) := by
              exact congrArg (fun l => (Sl.own ds, some (V.ref a)) :: l) (by
                rw [List.map_append]
                exact zip_append' _ _ _ _ (by rw [List.length_map]; exact l1))
            rw [e]
            have R2 := consts_push hw Ro.l
            refine R2.perm ?_
            -- consts ++ (own :: (ents ++ T)) ++ Z  ~  own :: (ents ++ consts) ++ (T ++ Z)
            have p1 : (ents (ws.map Sl.val) dvs ++ (((Sl.own ds, some (V.ref a)) :: (ents xs vs ++ T)) ++ (ρ1.set i .un).zip σ)).Perm ((Sl.own ds, some (V.ref a)) :: (ents (ws.map Sl.val) dvs ++ ((ents xs vs ++ T) ++ (ρ1.set i .un).zip σ))) := List.perm_middle
            refine p1.trans (List.Perm.cons _ ?_)
            show (ents (ws.map Sl.val) dvs ++ ((ents xs vs ++ T) ++ (ρ1.set i .un).zip σ)).Perm ((ents xs vs ++ ents (ws.map Sl.val) dvs) ++ (T ++ (ρ1.set i .un).zip σ))
            simp only [List.append_assoc]
            exact List.perm_append_comm_assoc _ _ _
          have RL : RelL K G1 F (T ++ (ρ1.set i .un).zip σ) H1 := RA.sub (List.sublist_append_right _ _)
          refine ⟨G1, hold F (T ++ (ρ1.set i .un).zip σ) H1, .own ds :: (xs ++ ws.map Sl.val), z, s :: args', ⟨by have := hw.len; simp; omega, call_in RA⟩, e2, fun v G2 H2 ex2 R2 => ?_⟩
          have R3 := call_out RL ex2 R2.l
          have R4 : Rel K G2 F ((s, some (V.ref a)) :: (z, some v) :: T) (ρ1.set i .un) σ H2 := by
            refine ⟨Ro.len, ?_⟩
            have R5 : RelL K G2 F ((z, some v) :: (s, some (V.ref a)) :: (args'.zip ((vs ++ dvs).map some) ++ (T ++ (ρ1.set i .un).zip σ))) H2 := R3
            refine (R5.sub (List.Sublist.cons_cons _ (List.Sublist.cons_cons _ (List.sublist_append_right _ _)))).perm (List.Perm.swap _ _ _)
          have R6 := R4.back haσ
          rw [List.set_set] at R6
          exact q v G2 H2 (ex1.trans ex2) R6
        · cases h
      · cases h
  · cases h
end
section
variable {K : PySem.W.Frag} {X : Cx} {mf : MF} {f : Addr} {fd : FuncData} {ps : List Str} {k : Nat} {e : Expr} {es : List Expr} {x : Str} {p pos : Pos} {t : TA} {m : MA} {ds : List Value} {dvs : List V} {ws : List D}
theorem me_call (Fk : FnOk X.prog X.w K X.mg X.base CX0 k f fd ps (spD K mf)) (hr : Room k X.A) (hg : Gl X x) (hm : X.mg x = some (.ref f)) (hk : PySem.W.keepIn K (.ref f) = true) (hb : Binds K fd ps ds) (hd : Vals dvs ds) (hw : RpA K (fun _ => none) dvs ws)
    (ha : MEA X K (e :: es) t m) (hdb : (x == ("__debug__" : Str)) = false := by decide) (he : starEach (e :: es) X.env = (false, eval e X.env) :: starEach es X.env := by rfl) (hpl : (backTo pos (starEach es X.env)).any (·.1) = false := by rfl) :
    ME X K (.Call (.Name x p) (e :: es) [] pos) (tCall (spD K mf) dvs E0 t) (mCall mf ws m) := by
  obtain rfl := ha.hK
  exact ⟨rfl, pe_call Fk hr hg hm hk hb hd pass0 ha.pe hdb he hpl, den_call hw ha.dn⟩
theorem me_callM (i : Nat) {y : Str} {p1 : Pos} (Fk : FnOk X.prog X.w K X.mg X.base CX0 k f fd ps (spD K mf)) (hr : Room k X.A) (hg : Gl X x) (hm : X.mg x = some (.ref f)) (hk : PySem.W.keepIn K (.ref f) = true) (hb : Binds K fd ps ds) (hd : Vals dvs ds) (hw : RpA K (fun _ => none) dvs ws)
    (ha : MEA X K es t m) (hN : X.N[i]? = some y := by rfl) (hv : Vis X.env.scope y := by first | exact Or.inl rfl | exact Or.inr (Or.inl rfl) | exact Or.inr (Or.inr rfl)) (hyd : (y == ("__debug__" : Str)) = false := by decide)
    (hcd : (y == ("__classdict__" : Str)) = false := by decide) (hdb : (x == ("__debug__" : Str)) = false := by decide) (he : starEach (.Name y p1 :: es) X.env = (false, eval (.Name y p1) X.env) :: starEach es X.env := by rfl) (hpl : (backTo pos (starEach es X.env)).any (·.1) = false := by rfl) :
    ME X K (.Call (.Name x p) (.Name y p1 :: es) [] pos) (tCall (spD K mf) dvs E0 (tCons (tVar i) t)) (mCallM mf i ws m) := by
  obtain rfl := ha.hK
  exact ⟨rfl, pe_call Fk hr hg hm hk hb hd pass0 (pa_cons (pe_var hN hv hyd hcd) ha.pe he) hdb he hpl, den_callM hw ha.dn⟩
end
/-! ### defs -/
@[simp] def outA : (Nat → Bool) → Nat → List Sl → List Sl
  | _, 0, _ => []
  | kp, n + 1, [] => .un :: outA (fun j => kp (j + 1)) n []
  | kp, n + 1, s :: ρ => (if kp 0 = true then s else .un) :: outA (fun j => kp (j + 1)) n ρ
def mDef (np nl : Nat) (kp : Nat → Bool) (mb : MS) : MF := fun args => if args.length = np then match mb (args ++ List.replicate (nl - np) .un) with
    | some (.rt r ρ') => some (r, outA kp np ρ')
    | some (.nx ρ') => some (.val .none, outA kp np ρ')
    | _ => none
  else none
theorem outA_len : ∀ (kp : Nat → Bool) (n : Nat) (ρ : List Sl), (outA kp n ρ).length = n
  | _, 0, _ => rfl
  | kp, n + 1, [] => congrArg (· + 1) (outA_len _ n [])
  | kp, n + 1, s :: ρ => congrArg (· + 1) (outA_len _ n ρ)
section
variable {K : PySem.W.Frag} {G F H : Hp}
theorem out_rel : ∀ (vs : List V) (kp : Nat → Bool) (ρ : List Sl) (σ : L2.St) (A : List Ent), (∀ j v, vs[j]? = some v → kp j = true → σ[j]? = some (some v)) → vs.length ≤ ρ.length → ρ.length = σ.length →
    RelL K G F (A ++ ρ.zip σ) H → RelL K G F (A ++ (outA kp vs.length ρ).zip (vs.map some)) H
  | [], kp, ρ, σ, A, _, _, _, R => by
    show RelL K G F (A ++ []) H
    rw [List.append_nil]
    exact R.sub (List.sublist_append_left _ _)
  | v :: vs, kp, [], σ, A, _, l, _, R => by cases l
  | v :: vs, kp, s :: ρ, [], A, _, _, l, R => by cases l
  | v :: vs, kp, s :: ρ, o :: σ, A, hk, l, l2, R => by
    have R' : RelL K G F (A ++ (s, o) :: ρ.zip σ) H := R
    show RelL K G F (A ++ ((if kp 0 = true then s else .un), some v) :: (outA (fun j => kp (j + 1)) vs.length ρ).zip (vs.map some)) H
    have step : RelL K G F ((A ++ [((if kp 0 = true then s else Sl.un), some v)]) ++ ρ.zip σ) H := by
      rw [List.append_assoc]
      by_cases c : kp 0 = true
      · rw [if_pos c]
        have e := hk 0 v rfl c
        simp at e
        subst e
        exact R'
      · rw [if_neg c]
        have R2 : RelL K G F (A ++ ρ.zip σ) H := R'.sub (List.Sublist.append (List.Sublist.refl A) (List.sublist_cons_self _ _))
        exact (R2.pushUn (ov := some v)).perm List.perm_middle.symm
    have R3 := out_rel vs (fun j => kp (j + 1)) ρ σ _ (fun j w hj hkj => by simpa using hk (j + 1) w (by simpa using hj) hkj) (by simpa using l) (by simpa using l2) step
    rw [List.append_assoc] at R3
    exact R3
end
section
variable {P : Program} {w : World} {K : PySem.W.Frag} {mg : Str → Option Value} {base : Heap}
theorem start_rel {G F H : Hp} {args : List Sl} {vs : List V} {N : List Str} (R : Rel K G F [] args (vs.map some) H) : Rel K G F [] (args ++ List.replicate (N.length - vs.length) Sl.un) (L2.start N vs) H := by
  have l := R.len
  rw [List.length_map] at l
  refine ⟨by unfold L2.start; simp [l], ?_⟩
  show RelL K G F ([] ++ (args ++ List.replicate (N.length - vs.length) Sl.un).zip (vs.map some ++ List.replicate (N.length - vs.length) none)) H
  rw [List.nil_append, zip_append' _ _ _ _ (by rw [List.length_map]; exact l)]
  have key : ∀ n : Nat, RelL K G F (args.zip (vs.map some) ++ (List.replicate n Sl.un).zip (List.replicate n (none : Option V))) H := by
    intro n
    induction n with
    | zero =>
      show RelL K G F (args.zip (vs.map some) ++ []) H
      rw [List.append_nil]
      exact R.l
    | succ n ih =>
      rw [List.replicate_succ, List.replicate_succ]
      show RelL K G F (args.zip (vs.map some) ++ (Sl.un, none) :: _) H
      exact (ih.pushUn (ov := none)).perm List.perm_middle.symm
  exact key _
theorem fn_ok {x qual : Str} {st : Stmt} {f : Addr} {fd : FuncData} {N ps : List Str} {k : Nat} {kp : Nat → Bool} {mb : MS} (Fn : Fun K x qual st f fd) (S : FnScope N ps (defScope st)) (hnp : ps.length ≤ N.length)
    (hb : ∀ (cdv : Value) (A : Around) (outer : List Env) (s : Shared) (H : Hp) (E : XK), Room k (A.deeper (envOfC qual (defScope st) s.heap.objs.size f cdv)) →
      ∃ t, MSs (cxOf CX0 P w K mg base N qual (defScope st) f cdv A outer s H E).nox kp (defBody st) t mb) : FnOk P w K mg base CX0 (k + 1) f fd ps (spD K (mDef ps.length N.length kp mb)) := by
  refine Fn.ok S (fun vs H Q E h => ?_) (fun cdv A outer s H vs Q E hr h => ?_)
  · obtain ⟨G, F, args, r, args', R, e, _⟩ := h
    have l := R.len
    rw [List.length_map] at l
    unfold mDef at e
    split at e
    · rename_i hl
      rw [← l]
      exact hl
    · cases e
  · obtain ⟨G, F, args, r, args', R, e, q⟩ := h
    obtain ⟨t, M⟩ := hb cdv A outer s H E hr
    refine ⟨t, M.pe, ?_⟩
    have l := R.len
    rw [List.length_map] at l
    unfold mDef at e
    split at e
    · rename_i hl
      have hvl : vs.length = ps.length := by rw [← l]; exact hl
      have R0 : Rel K G F [] (args ++ List.replicate (N.length - ps.length) Sl.un) (L2.start N vs) H := by
        rw [← hvl]
        exact start_rel R
      -- what the frame leaves of the arguments
      have fin : ∀ (r : Sl) (ρ' : List Sl) (v : V) (G' : Hp) (σ' : L2.St) (H' : Hp), Ex G G' → Kept kp (L2.start N vs) σ' → Rel K G' F [(r, some v)] ρ' σ' H' → Rel K G' F [(r, some v)] (outA kp ps.length ρ') (vs.map some) H' := by
        intro r ρ' v G' σ' H' ex kk R'
        refine ⟨by rw [outA_len, List.length_map, hvl], ?_⟩
        rw [← hvl]
        have hl0 : σ'.length ≥ vs.length := by
          rw [kk.1]
          unfold L2.start
          simp
        refine out_rel vs kp ρ' σ' [(r, some v)] (fun j u hj hkj => ?_) (by rw [R'.len]; exact hl0) R'.len R'.l
        rw [kk.2 j hkj]
        unfold L2.start
        have hjl : j < vs.length := (List.getElem?_eq_some_iff.mp hj).1
        rw [List.getElem?_append_left (by rw [List.length_map]; exact hjl), List.getElem?_map, hj]
        rfl
      split at e
      · rename_i r0 ρ' eb
        cases e
        exact M.dn G F _ _ H _ _ R0 eb fun v G' σ' H' ex kk R' => q v G' H' ex (fin _ ρ' v G' σ' H' ex kk R')
      · rename_i ρ' eb
        cases e
        exact M.dn G F _ _ H _ _ R0 eb fun G' σ' H' ex kk R' => q .non G' H' ex (fin _ ρ' .non G' σ' H' ex kk (R'.pushV .non))
      · cases e
    · cases e
/-- nothing is promised: nothing is to be shown -/
theorem fn_none {f : Addr} {fd : FuncData} {ps : List Str} {k : Nat} : FnOk P w K mg base CX0 k f fd ps (spD K fun _ => none) :=
  ⟨fun vs H Q E h => (by
    obtain ⟨_, _, _, _, _, _, e, _⟩ := h
    cases e), fun A outer s H args us vs Q E _ _ _ _ h => (by
    obtain ⟨_, _, _, _, _, _, e, _⟩ := h
    cases e)⟩
/-- the law's own end -/
theorem law_ends {mf : MF} {n : Nat} (h : ∀ ns : List Int, ns.length ≤ n → ∃ a', mf [.val (.list (ns.map PyData.int))] = some (.val (.bool true), a')) (H : Hp) (a : Addr) (ns : List Int) (hl : ns.length ≤ n) (hS : SqL K H a (ns.map V.int)) :
    spD K mf [.ref a] H (fun v _ => v = .bl true) fun _ _ _ => False := by
  obtain ⟨a', e⟩ := h ns hl
  refine ⟨H, fun _ => none, [.val (.list (ns.map PyData.int))], .val (.bool true), a', ⟨rfl, ⟨Ex.refl H, fun _ _ z => (by cases z), fun _ _ z => (by cases z), fun e he => ?_, List.pairwise_singleton _ _⟩⟩, e, fun v G' H' _ R => bool_of R.fst⟩
  have e2 : e = (.val (.list (ns.map PyData.int)), some (.ref a)) := by simpa using he
  subst e2
  exact ⟨_, rfl, .lst hS RpA.ofInts⟩
end
end Dn

namespace Dn
open PySem PySem.Spec PyProof.Rows L2
open Evl (Ex)
open RZ (ItzT iZipA pi_zipA)

/-! ### what is not gone -/
def mNone : MS := fun _ => none
/-- return x, x a name: an own list is handed out -/
def mRetO (i : Nat) : MS := fun ρ => match ρ[i]? with
  | some (.own ds) => some (.rt (.own ds) (ρ.set i .un))
  | some (.val d) => some (.rt (.val d) ρ)
  | _ => none
def mPar (kp : Nat → Bool) (i j : Nat) (a b : MX) : MS := fun ρ => match a ρ with
  | none => none
  | some (x, ρ1) => match b ρ1 with
    | none => none
    | some (y, ρ2) => if kp i = false ∧ kp j = false ∧ i < ρ2.length ∧ j < ρ2.length then some (.nx ((ρ2.set i x).set j y)) else none
section
variable {K : PySem.W.Frag} {X : Cx} {kp : Nat → Bool} {pos : Pos} {st : Stmt} {a b : Expr} {ta tb : TE} {ma mb : MX}
theorem ms_never : MSt X kp st tNever mNone := ⟨ps_never, fun _ _ _ _ _ _ _ _ h _ => by cases h⟩
theorem ms_retO (i : Nat) {x : Str} {p : Pos} (hN : X.N[i]? = some x := by rfl) (hv : Vis X.env.scope x := by first | exact Or.inl rfl | exact Or.inr (Or.inl rfl) | exact Or.inr (Or.inr rfl)) (hd : (x == ("__debug__" : Str)) = false := by decide)
    (hcd : (x == ("__classdict__" : Str)) = false := by decide) : MSt X kp (.Return (some (.Name x p)) pos) (tRet (tVar i)) (mRetO i) := ⟨ps_ret (pe_var hN hv hd hcd), by
  intro G F ρ σ H D o R h q
  unfold mRetO at h
  split at h
  · rename_i ds hs
    cases h
    obtain ⟨p, vs, hσ, _, _⟩ := R.ownVar hs
    exact ⟨_, hσ, q _ G σ H (Ex.refl G) (Kept.refl kp σ) (R.out hs hσ)⟩
  · rename_i d hs
    cases h
    obtain ⟨v, hσ, _, R1⟩ := R.var hs
    exact ⟨_, hσ, q _ G σ H (Ex.refl G) (Kept.refl kp σ) R1⟩
  · cases h⟩
theorem ms_retN : MSt X kp (.Return none pos) tRetN (mRet (mC .none)) := ⟨ps_retN, by
  intro G F ρ σ H D o R h q
  cases h
  exact q .non G σ H (Ex.refl G) (Kept.refl kp σ) (R.pushV .non)⟩
theorem ms_par (i j : Nat) {x y : Str} {px py pt : Pos} {kt k2 : Nat} {pt2 : Pos} (ha : ME X X.K a ta ma) (hb : ME X X.K b tb mb) (hN : X.N.Nodup) (hc : X.calm = true := by rfl) (hi : X.N[i]? = some x := by rfl) (hj : X.N[j]? = some y := by rfl) (hij : i ≠ j := by decide) (hx : X.env.scope.names.lookup x = some .local := by rfl) (hy : X.env.scope.names.lookup y = some .local := by rfl)
    (he : starEach [a, b] X.env = (false, eval a X.env) :: starEach [b] X.env := by rfl) (he2 : starEach [b] X.env = [(false, eval b X.env)] := by rfl)
    (hs : swappedStores [.Tuple [.Name x px, .Name y py] kt pt] (.Tuple [a, b] k2 pt2) X.env = pure (some [x, y]) := by rfl) (hs2 : swapsWithSole [.Tuple [.Name x px, .Name y py] kt pt] (.Tuple [a, b] k2 pt2) pos.line X.env = pure false := by rfl) :
    MSt X kp (.Assign [.Tuple [.Name x px, .Name y py] kt pt] (.Tuple [a, b] k2 pt2) pos) (tPar i j (tCons ta (tCons tb tNil))) (mPar kp i j ma mb) :=
  ⟨ps_par hc hN hi hj hij hx hy (pa_cons ha.pe (pa_cons hb.pe pa_nil he2) he) hs hs2, by
    intro G F ρ σ H D o R h q
    unfold mPar at h
    split at h
    · cases h
    · rename_i r ρ1 e1
      split at h
      · cases h
      · rename_i s ρ2 e2
        split at h
        · rename_i hcn
          cases h
          refine ha.dn G F [] ρ σ H _ ρ1 _ R e1 fun v G1 H1 ex1 R1 => ?_
          refine hb.dn G1 F _ ρ1 σ H1 _ ρ2 _ R1 e2 fun u G2 H2 ex2 R2 => ?_
          refine ⟨v, u, rfl, q G2 _ H2 (ex1.trans ex2) ((Kept.set hcn.1).trans (Kept.set hcn.2.1)) ?_⟩
          exact (R2.swap.assign hcn.2.2.1).assign (by rw [List.length_set]; exact hcn.2.2.2)
        · cases h⟩
end
/-! ### x[::-1] of a list -/
@[simp] def fRevSl (x : Sl) : Option Sl := (lstOf x).map fun ds => .own ds.reverse
section
variable {K : PySem.W.Frag} {X : Cx} {e : Expr} {te : TE} {me : MX}
theorem den_revsl (ha : Den K te me) : Den K (tRevL K te) (mUn fRevSl me) := by
  intro G F T ρ σ H z ρ' Q R h q
  unfold mUn at h
  cases h1 : me ρ with
  | none => rw [h1] at h; cases h
  | some p1 =>
    obtain ⟨x, ρ1⟩ := p1
    simp only [h1] at h
    unfold fRevSl at h
    cases h3 : lstOf x with
    | none => rw [h3] at h; cases h
    | some ds =>
      rw [h3] at h
      cases h
      refine ha G F T ρ σ H x ρ' _ R h1 fun v G1 H1 ex1 R1 => ?_
      obtain ⟨a, us, ev, s1, r1⟩ := lst_of R1.l.eg h3 R1.fst
      exact ⟨a, us, ev, s1, fun p hp => q _ G1 _ ex1 (R1.drop.pushO hp r1.rev)⟩
theorem me_revsl {k : Nat} {p1 p2 p3 pos : Pos} (he : ME X K e te me) : ME X K (.Subscript e (.Slice none none (some (.UnaryOp .USub (.Constant (.int 1) k p1) p2)) p3) pos) (tRevL K te) (mUn fRevSl me) := by
  obtain rfl := he.hK
  exact ⟨rfl, pe_revL he.pe, den_revsl he.dn⟩
end
/-! ### zip -/
def miZ (a : MA) : MI := fun ρ => match a ρ with
  | some ([.val (.list ds), .val (.list es)], ρ1) => some (zipD ds es, ρ1)
  | some ([.val (.tuple ds), .val (.tuple es)], ρ1) => some (zipD ds es, ρ1)
  | _ => none
section
variable {K : PySem.W.Frag} {X : Cx} {G F H : Hp} {T : List Ent} {ρ : List Sl} {σ : L2.St} {ds es : List D}
theorem zip_get {i : Nat} {d : D} (h : (zipD ds es)[i]? = some d) : ∃ x y, ds[i]? = some x ∧ es[i]? = some y ∧ d = .tuple [x, y] := by
  unfold zipD at h
  rw [List.getElem?_map] at h
  cases e : (ds.zip es)[i]? with
  | none => rw [e] at h; cases h
  | some p =>
    rw [e] at h
    cases h
    obtain ⟨h1, h2⟩ := List.getElem?_zip_eq_some.mp e
    exact ⟨p.1, p.2, h1, h2, rfl⟩
theorem zip_len : (zipD ds es).length = min ds.length es.length := by unfold zipD; simp
theorem walks_zip {a b : Addr} {xs ys : List V} (ha : SqL K G a xs) (hb : SqL K G b ys) (hr : RpA K G xs ds) (hq : RpA K G ys es) : Walks K (Itz K a b) G (zipD ds es) := by
  intro G1 F T ρ σ H e1 R
  have hA : SqL K H a xs := Evl.ex_l (e1.trans R.l.eg) ha
  have hB : SqL K H b ys := Evl.ex_l (e1.trans R.l.eg) hb
  have l1 := hr.len
  have l2 := hq.len
  refine ⟨⟨xs, ys, hA, hB, by rw [zip_len]; omega⟩, fun i d hd => ?_⟩
  obtain ⟨x, y, h1, h2, rfl⟩ := zip_get hd
  obtain ⟨v, hv, rv⟩ := hr.getD h1
  obtain ⟨u, hu, ru⟩ := hq.getD h2
  refine ⟨⟨xs, ys, v, u, hA, hB, hv, hu⟩, fun z H' hy => ?_⟩
  obtain ⟨t, v', u', rfl, hn, rfl, f1, f2⟩ := hy
  have e3 := f1 xs hA
  have e4 := f2 ys hB
  rw [hv] at e3
  rw [hu] at e4
  cases e3
  cases e4
  exact ⟨_, exg R hn, R.pushT hn (.cons (rv.up e1) (.cons (ru.up e1) .nil))⟩
theorem walks_zipT {a b : Addr} {xs ys : List V} (ha : SqT K G a xs) (hb : SqT K G b ys) (hr : RpA K G xs ds) (hq : RpA K G ys es) : Walks K (ItzT K a b) G (zipD ds es) := by
  intro G1 F T ρ σ H e1 R
  have hA : SqT K H a xs := Evl.ex_t (e1.trans R.l.eg) ha
  have hB : SqT K H b ys := Evl.ex_t (e1.trans R.l.eg) hb
  have l1 := hr.len
  have l2 := hq.len
  refine ⟨⟨xs, ys, hA, hB, by rw [zip_len]; omega⟩, fun i d hd => ?_⟩
  obtain ⟨x, y, h1, h2, rfl⟩ := zip_get hd
  obtain ⟨v, hv, rv⟩ := hr.getD h1
  obtain ⟨u, hu, ru⟩ := hq.getD h2
  refine ⟨⟨xs, ys, v, u, hA, hB, hv, hu⟩, fun z H' hy => ?_⟩
  obtain ⟨t, v', u', rfl, hn, rfl, f1, f2⟩ := hy
  have e3 := f1 xs hA
  have e4 := f2 ys hB
  rw [hv] at e3
  rw [hu] at e4
  cases e3
  cases e4
  exact ⟨_, exg R hn, R.pushT hn (.cons (rv.up e1) (.cons (ru.up e1) .nil))⟩
theorem mi_zip {e e2 : Expr} {ta : TA} {ma : MA} {p pos tpos : Pos} {elts : List Expr} {kk : Nat} (hg : Gl X "zip") (hm : X.mg "zip" = none) (h1 : MEA X K [e, e2] ta ma)
    (hs : starEach [e, e2] X.env = (false, eval e X.env) :: starEach [e2] X.env := by rfl) (hpl : (backTo pos (starEach [e2] X.env)).any (·.1) = false := by rfl) : MIt X K (.Tuple elts kk tpos) (.Call (.Name "zip" p) [e, e2] [] pos) (iZipA K ta) (miZ ma) := by
  obtain rfl := h1.hK
  exact ⟨rfl, pi_zipA hg hm h1.pe hs hpl, by
    intro G F T ρ σ H ds ρ' P R h q
    unfold miZ at h
    split at h
    · rename_i e1
      cases h
      refine h1.dn G F T ρ σ H _ ρ' _ R e1 fun vs G1 H1 ex hl R1 => ?_
      obtain ⟨v, w, rfl⟩ := two_of hl rfl
      obtain ⟨v', ev, hv⟩ := R1.fst
      obtain ⟨w', ew, hw⟩ := R1.drop.fst
      cases ev
      cases ew
      cases hv with
      | lst s1 r1 =>
        cases hw with
        | lst s2 r2 => exact ⟨_, _, _, _, rfl, .inl ⟨Evl.ex_l R1.l.eg s1, Evl.ex_l R1.l.eg s2, q _ G1 H1 ex R1.drop.drop (walks_zip s1 s2 r1 r2)⟩⟩
    · rename_i e1
      cases h
      refine h1.dn G F T ρ σ H _ ρ' _ R e1 fun vs G1 H1 ex hl R1 => ?_
      obtain ⟨v, w, rfl⟩ := two_of hl rfl
      obtain ⟨v', ev, hv⟩ := R1.fst
      obtain ⟨w', ew, hw⟩ := R1.drop.fst
      cases ev
      cases ew
      cases hv with
      | tup s1 r1 =>
        cases hw with
        | tup s2 r2 => exact ⟨_, _, _, _, rfl, .inr ⟨.inl (.inl (R1.l.eg _ _ s1)), .inl (.inl (R1.l.eg _ _ s2)), q _ G1 H1 ex R1.drop.drop (walks_zipT (.inl (.inl s1)) (.inl (.inl s2)) r1 r2)⟩⟩
    · cases h⟩
end
/-! ### in, over flat things -/
@[simp] def flatD : D → Option V
  | .none => some .non
  | .bool b => some (.bl b)
  | .int i => some (.int i)
  | .str x => some (.str x)
  | _ => none
@[simp] def flatDs : List D → Option (List V)
  | [] => some []
  | d :: r => match flatD d, flatDs r with
    | some v, some vs => some (v :: vs)
    | _, _ => none
theorem flatD_ok {K : PySem.W.Frag} {H : Hp} {d : D} {v u : V} (h : flatD d = some v) (r : Rp K H u d) : u = v ∧ flatV v = true := by
  cases d <;> first | cases h | skip
  all_goals (cases r; exact ⟨rfl, rfl⟩)
theorem flatDs_ok {K : PySem.W.Frag} {H : Hp} : ∀ {ds : List D} {vs us : List V}, flatDs ds = some vs → RpA K H us ds → us = vs ∧ vs.all flatV = true
  | [], vs, us, h, r => by
    cases h
    cases r
    exact ⟨rfl, rfl⟩
  | d :: ds, vs, us, h, r => by
    unfold flatDs at h
    cases r with
    | cons r1 r2 =>
      split at h
      · rename_i v ws h1 h2
        cases h
        obtain ⟨rfl, f1⟩ := flatD_ok h1 r1
        obtain ⟨rfl, f2⟩ := flatDs_ok h2 r2
        exact ⟨rfl, by rw [List.all_cons, f1, f2]; rfl⟩
      · cases h
@[simp] def fIn (neg : Bool) (x y : Sl) : Option Sl := match x with
  | .val d => match flatD d, (seqOf y).bind flatDs with
    | some v, some vs => some (.val (.bool (if neg = true then !inV v vs else inV v vs)))
    | _, _ => none
  | _ => none
section
variable {K : PySem.W.Frag} {X : Cx} {a b : Expr} {ta tb : TE} {ma mb : MX} {pos : Pos}
theorem opS_in {neg : Bool} : OpS K (rIn K neg) (fIn neg) := by
  intro G F T ρ σ H x y z v w Q R h q
  unfold fIn at h
  split at h
  · rename_i d
    split at h
    · rename_i u us h1 h2
      cases h
      cases h3 : seqOf y with
      | none => rw [h3] at h2; cases h2
      | some ds =>
        rw [h3] at h2
        have h2' : flatDs ds = some us := h2
        obtain ⟨p, xs, ew, s1, r1⟩ := seq_of R.l.eg h3 R.fst
        obtain ⟨v', ev, hv⟩ := R.snd
        cases ev
        obtain ⟨rfl, f1⟩ := flatD_ok h1 hv
        obtain ⟨rfl, f2⟩ := flatDs_ok h2' r1
        exact ⟨p, xs, ew, s1, f1, f2, q _ G H (Ex.refl G) (R.drop.drop.pushV (.bl _))⟩
    · cases h
  · cases h
theorem me_in (ha : ME X K a ta ma) (hb : ME X K b tb mb) (hm : behindInMarks .In b = false := by rfl) : ME X K (.Compare a [.In] [b] pos) (tOp (rIn K false) ta tb) (mBin (fIn false) ma mb) := by
  obtain rfl := ha.hK
  exact me_cmp opS_in op_in_seq hm ha hb
theorem me_notin (ha : ME X K a ta ma) (hb : ME X K b tb mb) (hm : behindInMarks .NotIn b = false := by rfl) : ME X K (.Compare a [.NotIn] [b] pos) (tOp (rIn K true) ta tb) (mBin (fIn true) ma mb) := by
  obtain rfl := ha.hK
  exact me_cmp opS_in op_notIn_seq hm ha hb
theorem met_in (ha : ME X K a ta ma) (hb : ME X K b tb mb) (hm : behindInMarks .In b = false := by rfl) : MET X K (.Compare a [.In] [b] pos) (tTest (tOp (rIn K false) ta tb)) (mB (mBin (fIn false) ma mb)) := by
  obtain rfl := ha.hK
  exact met_cmp opS_in op_in_seq hm ha hb
theorem met_notin (ha : ME X K a ta ma) (hb : ME X K b tb mb) (hm : behindInMarks .NotIn b = false := by rfl) : MET X K (.Compare a [.NotIn] [b] pos) (tTest (tOp (rIn K true) ta tb)) (mB (mBin (fIn true) ma mb)) := by
  obtain rfl := ha.hK
  exact met_cmp opS_in op_notIn_seq hm ha hb
end
/-! ### sorted -/
def pairD (p : Int × Int) : D := .tuple [.int p.1, .int p.2]
def pairsOf : List D → Option (List (Int × Int))
  | [] => some []
  | .tuple [.int i, .int j] :: r => (pairsOf r).map ((i, j) :: ·)
  | _ :: _ => none
theorem pairsOf_eq : ∀ {ds : List D} {ps : List (Int × Int)}, pairsOf ds = some ps → ds = ps.map pairD
  | [], ps, h => by cases h; rfl
  | d :: r, ps, h => by
    unfold pairsOf at h
    split at h
    · rename_i heq
      cases heq
    · rename_i i j r' heq
      cases heq
      cases e : pairsOf r with
      | none => rw [e] at h; cases h
      | some qs => rw [e] at h; cases h; rw [pairsOf_eq e]; rfl
    · cases h
theorem pairsOf_map (ps : List (Int × Int)) : pairsOf (ps.map pairD) = some ps := by
  induction ps with
  | nil => rfl
  | cons p r ih =>
    show pairsOf (.tuple [.int p.1, .int p.2] :: r.map pairD) = _
    unfold pairsOf
    rw [ih]
    rfl
def leP (a b : Int × Int) : Bool := decide (a.1 < b.1) || (decide (a.1 = b.1) && decide (a.2 ≤ b.2))
def sortP (ps : List (Int × Int)) : List (Int × Int) := ps.mergeSort leP
theorem leP_trans (a b c : Int × Int) (h1 : leP a b = true) (h2 : leP b c = true) : leP a c = true := by
  simp only [leP, Bool.or_eq_true, Bool.and_eq_true, decide_eq_true_eq] at *
  omega
theorem leP_total (a b : Int × Int) : (leP a b || leP b a) = true := by
  simp only [leP, Bool.or_eq_true, Bool.and_eq_true, decide_eq_true_eq]
  omega
theorem leP_anti (a b : Int × Int) (h1 : leP a b = true) (h2 : leP b a = true) : a = b := by
  simp only [leP, Bool.or_eq_true, Bool.and_eq_true, decide_eq_true_eq] at *
  obtain ⟨a1, a2⟩ := a
  obtain ⟨b1, b2⟩ := b
  simp only [Prod.mk.injEq]
  simp only at h1 h2
  omega
theorem sortP_perm (ps : List (Int × Int)) : (sortP ps).Perm ps := List.mergeSort_perm ps _
theorem sortP_sorted (ps : List (Int × Int)) : (sortP ps).Pairwise (fun a b => leP a b = true) := List.pairwise_mergeSort leP_trans leP_total ps
theorem sortP_uniq {ps qs : List (Int × Int)} (p : qs.Perm ps) (s : qs.Pairwise (fun a b => leP a b = true)) : qs = sortP ps :=
  List.Perm.eq_of_pairwise (fun a b _ _ h1 h2 => leP_anti a b h1 h2) s (sortP_sorted ps) (p.trans (sortP_perm ps).symm)
@[simp] def fSortA : List Sl → Option Sl
  | [s] => match lstOf s with
    | none => none
    | some ds => match intsOf ds with
      | some ns => some (.own ((sortI ns).map PyData.int))
      | none => match pairsOf ds with
        | some ps => some (.own ((sortP ps).map pairD))
        | none => none
  | _ => none
def rSortA (K : PySem.W.Frag) : List V → Hp → VK → Prop := fun vs H Q => rSortedI K vs H Q ∨ rSortedPO K vs H Q
theorem cr_sortA {X : Cx} : CallR X (.builtin "sorted") (rSortA X.K) := by
  intro pins s σ H vs us Q I r h
  rcases h with h | h
  · exact cr_sortedI pins s σ H vs us Q I r h
  · exact cr_sortedPO pins s σ H vs us Q I r h
def keyP (H : Hp) (v : V) : Int × Int := match v with
  | .ref t => match H t with
    | some (.tup [.int i, .int j]) => (i, j)
    | _ => (0, 0)
  | _ => (0, 0)
section
variable {K : PySem.W.Frag} {G H : Hp}
theorem keyP_of {v : V} {p : Int × Int} (eg : Ex G H) (h : Rp K G v (pairD p)) : ∃ t, v = .ref t ∧ H t = some (.tup [.int p.1, .int p.2]) ∧ keyP H v = p := by
  unfold pairD at h
  cases h with
  | tup hs ha =>
    cases ha with
    | cons h1 h2 =>
      cases h2 with
      | cons h2 h3 =>
        cases h3
        cases h1
        cases h2
        have e := eg _ _ hs
        refine ⟨_, rfl, e, ?_⟩
        unfold keyP
        simp only [e]
theorem keyP_map (eg : Ex G H) : ∀ {vs : List V} {ps : List (Int × Int)}, RpA K G vs (ps.map pairD) → vs.map (keyP H) = ps
  | _, [], h => by cases h; rfl
  | _, p :: ps, h => by
    cases h with
    | cons h1 h2 =>
      obtain ⟨_, _, _, e⟩ := keyP_of eg h1
      rw [List.map_cons, e, keyP_map eg h2]
theorem RpA.mem {vs : List V} {ds : List D} (h : RpA K G vs ds) {v : V} (hv : v ∈ vs) : ∃ d ∈ ds, Rp K G v d := by
  obtain ⟨i, hi⟩ := List.getElem?_of_mem hv
  obtain ⟨d, h1, h2⟩ := h.get hi
  exact ⟨d, List.mem_of_getElem? h1, h2⟩
theorem rpA_keys (eg : Ex G H) : ∀ (ys : List V), (∀ y ∈ ys, ∃ p, Rp K G y (pairD p)) → RpA K G ys ((ys.map (keyP H)).map pairD)
  | [], _ => .nil
  | y :: ys, h => by
    obtain ⟨p, hp⟩ := h y List.mem_cons_self
    obtain ⟨_, _, _, e⟩ := keyP_of eg hp
    refine .cons ?_ (rpA_keys eg ys fun z hz => h z (List.mem_cons_of_mem _ hz))
    rw [e]
    exact hp
theorem fnS_sortA : FnS K (rSortA K) fSortA := by
  intro G F T ρ σ H xs z vs Q hl R h q
  unfold fSortA at h
  split at h
  · obtain ⟨v, rfl⟩ := one_of hl rfl
    rename_i s
    split at h
    · cases h
    · rename_i ds hd
      split at h
      · rename_i ns hn
        cases h
        obtain ⟨a, ev, s1⟩ := lstI_of (ns := ns) R.l.eg (by unfold lstI; rw [hd]; exact hn) R.fst
        subst ev
        refine .inl ⟨a, ns, rfl, s1, fun ns' p hp hs hn => ?_⟩
        rw [sortI_uniq hp hs]
        exact q _ G _ (Ex.refl G) (R.drop.pushO hn RpA.ofInts)
      · split at h
        · rename_i ps hps
          cases h
          have e2 := pairsOf_eq hps
          subst e2
          obtain ⟨a, us, ev, s1, r1⟩ := lst_of R.l.eg hd R.fst
          subst ev
          refine .inr ⟨a, us, keyP H, rfl, s1, fun x hx => ?_, fun ys p hs hst hn => ?_⟩
          · obtain ⟨d, hd, hr⟩ := r1.mem hx
            obtain ⟨p, _, rfl⟩ := List.mem_map.mp hd
            obtain ⟨t, e1, e2, e3⟩ := keyP_of R.l.eg hr
            exact ⟨t, e1, by rw [e3]; exact e2⟩
          · have hys : ∀ y ∈ ys, ∃ p, Rp K G y (pairD p) := fun y hy => by
              obtain ⟨d, hd, hr⟩ := r1.mem (hst.perm.subset hy)
              obtain ⟨p, _, rfl⟩ := List.mem_map.mp hd
              exact ⟨p, hr⟩
            have e3 : ys.map (keyP H) = sortP ps := by
              refine sortP_uniq ?_ ?_
              · rw [← keyP_map R.l.eg r1]
                exact hst.perm.map _
              · rw [List.pairwise_map]
                refine hs.imp fun {x y} hxy => ?_
                have hxy' : SrtO.lexB (keyP H y) (keyP H x) = false := hxy
                revert hxy'
                generalize keyP H x = k1
                generalize keyP H y = k2
                intro hxy'
                have hn : ¬ (k2.1 < k1.1 ∨ (k2.1 = k1.1 ∧ k2.2 < k1.2)) := fun z => by
                  rw [SrtO.lexB_iff.mpr z] at hxy'
                  cases hxy'
                simp only [leP, Bool.or_eq_true, Bool.and_eq_true, decide_eq_true_eq]
                omega
            refine q _ G _ (Ex.refl G) ?_
            rw [← e3]
            exact R.drop.pushO hn (rpA_keys R.l.eg ys hys)
        · cases h
  · cases h
end
/-! ### x.extend of a list made for it -/
def mExtN (i : Nat) (a : MX) : MX := fun ρ => match ρ[i]? with
  | some (.own _) => match a ρ with
    | some (.own es, ρ1) => match ρ1[i]? with
      | some (.own ds) => if ds.length + es.length ≤ sizeLine then some (.val .none, ρ1.set i (.own (ds ++ es))) else none
      | _ => none
    | _ => none
  | _ => none
section
variable {K : PySem.W.Frag} {X : Cx} {e : Expr} {te : TE} {me : MX} {i : Nat}
theorem den_extN (ha : Den K te me) : Den K (tBM K "list" rExtend (tVar i) (tCons te tNil)) (mExtN i me) := by
  intro G F T ρ σ H z ρ' Q R h q
  unfold mExtN at h
  split at h
  · rename_i ds0 hs0
    split at h
    · rename_i es ρ1 e1
      split at h
      · rename_i ds hs
        split at h
        · rename_i hl
          cases h
          obtain ⟨a, us, haσ, hH0, _⟩ := R.ownVar hs0
          refine ⟨_, haσ, .inl ⟨rfl, us, .inl (.inl hH0)⟩, ?_⟩
          refine ha G F T ρ σ H _ ρ1 _ R e1 fun v G1 H1 ex1 R1 => ?_
          obtain ⟨b, ws, ev, hb, hg, _, hr⟩ := R1.fst
          cases ev
          obtain ⟨a', us', ha', hH, hrs⟩ := R1.ownVar hs
          rw [haσ] at ha'
          cases ha'
          refine ⟨a, b, us', ws, rfl, rfl, hH, hb, by rw [hrs.len, hr.len]; exact hl, ?_⟩
          exact q _ G1 _ ex1 ((R1.drop.mutVar hs haσ (hrs.app hr)).pushV .non)
        · cases h
      · cases h
    · cases h
  · cases h
theorem me_extN {x : Str} {p apos cpos : Pos} (i : Nat) (ha : ME X K e te me) (hN : X.N[i]? = some x := by rfl) (hv : Vis X.env.scope x := by first | exact Or.inl rfl | exact Or.inr (Or.inl rfl) | exact Or.inr (Or.inr rfl)) (hd : (x == ("__debug__" : Str)) = false := by decide)
    (hcd : (x == ("__classdict__" : Str)) = false := by decide)
    (h1 : attributeBase (.Name x p) "extend" X.env (eval (.Name x p) X.env) = eval (.Name x p) X.env := by rfl)
    (h2 : (((backTo cpos (starEach [e] X.env)).all (fun x => !x.1)) && ((backToKw cpos (keywordEach [] X.env)).all fun x => x.1.isSome) && decide (([e]).length + ([] : List Keyword).length + (if ([] : List Keyword).isEmpty then 0 else 1) < 30)) = true := by rfl)
    (h3 : (apos.endLine == cpos.line) = true := by rfl)
    (h4 : starEach [e] X.env = (false, eval e X.env) :: starEach [] X.env := by rfl) (h5 : (backTo cpos (starEach [] X.env)).any (·.1) = false := by rfl) : ME X K (.Call (.Attribute (.Name x p) "extend" apos) [e] [] cpos) (tBM K "list" rExtend (tVar i) (tCons te tNil)) (mExtN i me) := by
  obtain rfl := ha.hK
  exact ⟨rfl, pe_bm PySem.F.plainAttrs_list PySem.F.slot_list_extend PySem.F.type_list_extend mt_extend (pe_var hN hv hd hcd) (pa_cons ha.pe pa_nil h4) h1 h2 h3 h4 h5, den_extN ha.dn⟩
end
end Dn
namespace Dn
open PySem PySem.Spec PyProof.Rows L2
open Evl (Ex)
/-! ### sep.join of texts -/
@[simp] def fJoin (x y : Sl) : Option Sl := match x with
  | .val (.str a) => match (seqOf y).bind strsOf with
    | some ys => if (ys.map (·.length)).sum + ys.length * a.length ≤ 16777216 then some (.val (.str (Txt.join a ys))) else none
    | none => none
  | _ => none
def rJoin (K : PySem.W.Frag) : V → List V → Hp → VK → Prop := fun x xs H Q => ∃ a p ys, x = V.str a ∧ xs = [V.ref p] ∧ (SqL K H p (List.map V.str ys) ∨ SqT K H p (List.map V.str ys)) ∧ (ys.map (·.length)).sum + ys.length * a.length ≤ 16777216 ∧ Q (V.str (Txt.join a ys)) H
section
variable {K : PySem.W.Frag} {X : Cx} {a b : Expr} {ta tb : TE} {ma mb : MX} {pos apos : Pos}
theorem den_join (ha : Den K ta ma) (hb : Den K tb mb) : Den K (tM1 (rJoin K) ta tb) (mBin fJoin ma mb) := by
  intro G F T ρ σ H z ρ' Q R h q
  unfold mBin at h
  cases h1 : ma ρ with
  | none => rw [h1] at h; cases h
  | some p1 =>
    obtain ⟨x, ρ1⟩ := p1
    rw [h1] at h
    cases h2 : mb ρ1 with
    | none => simp only [h2] at h; cases h
    | some p2 =>
      obtain ⟨y, ρ2⟩ := p2
      cases h3 : fJoin x y with
      | none => simp only [h2, h3] at h; cases h
      | some z' =>
        simp only [h2, h3] at h
        cases h
        unfold fJoin at h3
        split at h3
        · rename_i s
          split at h3
          · rename_i ys hy
            split at h3
            · rename_i hl
              cases h3
              cases h4 : seqOf y with
              | none => rw [h4] at hy; cases hy
              | some ds =>
                rw [h4] at hy
                have e5 := strsOf_eq (show strsOf ds = some ys from hy)
                subst e5
                refine ha G F T ρ σ H _ ρ1 _ R h1 fun v G1 H1 ex1 R1 => ?_
                refine ⟨⟨s, str_of R1.fst⟩, ?_⟩
                refine hb G1 F _ ρ1 σ H1 _ ρ' _ R1 h2 fun u G2 H2 ex2 R2 => ?_
                obtain ⟨p, xs, eu, s1, r1⟩ := seq_of R2.l.eg h4 R2.fst
                rw [r1.strs] at s1
                exact ⟨s, p, ys, str_of R2.snd, by rw [eu], s1, hl, q _ G2 H2 (ex1.trans ex2) (R2.drop.drop.pushV (.str _))⟩
            · cases h3
          · cases h3
        · cases h3
theorem me_join (ha : ME X K a ta ma) (hb : ME X K b tb mb) (h1 : starEach [b] X.env = [(false, eval b X.env)] := by rfl) (h2 : attributeBase a "join" X.env (eval a X.env) = eval a X.env := by rfl) (h3 : (apos.endLine == pos.line) = true := by rfl) :
    ME X K (.Call (.Attribute a "join" apos) [b] [] pos) (tM1 (rJoin K) ta tb) (mBin fJoin ma mb) := by
  obtain rfl := ha.hK
  exact ⟨rfl, pe_join ha.pe hb.pe h1 h2 h3, den_join ha.dn hb.dn⟩
end
end Dn

namespace Dn
open PySem PySem.Spec PyProof.Rows L2
/-! ### what the combinators are, at a frame -/
@[simp] theorem mVar_ap (i : Nat) (ρ : List Sl) : mVar i ρ = (match ρ[i]? with
  | some (.val d) => some (.val d, ρ)
  | some (.ex c) => some (.ex c, ρ)
  | some (.own ds) => some (.val (.list ds), ρ.set i (.val (.list ds)))
  | _ => none) := rfl
@[simp] theorem mC_ap (d : D) (ρ : List Sl) : mC d ρ = (some (.val d, ρ)) := rfl
@[simp] theorem mBin_ap (f : Sl → Sl → Option Sl) (a b : MX) (ρ : List Sl) : mBin f a b ρ = (match a ρ with
  | none => none
  | some (x, ρ1) => match b ρ1 with
    | none => none
    | some (y, ρ2) => match f x y with
      | none => none
      | some z => some (z, ρ2)) := rfl
@[simp] theorem mUn_ap (f : Sl → Option Sl) (a : MX) (ρ : List Sl) : mUn f a ρ = (match a ρ with
  | none => none
  | some (x, ρ1) => match f x with
    | none => none
    | some z => some (z, ρ1)) := rfl
@[simp] theorem mNil_ap  (ρ : List Sl) : mNil  ρ = (some ([], ρ)) := rfl
@[simp] theorem mCons_ap (a : MX) (b : MA) (ρ : List Sl) : mCons a b ρ = (match a ρ with
  | none => none
  | some (x, ρ1) => match b ρ1 with
    | none => none
    | some (xs, ρ2) => some (x :: xs, ρ2)) := rfl
@[simp] theorem mFn_ap (f : List Sl → Option Sl) (a : MA) (ρ : List Sl) : mFn f a ρ = (match a ρ with
  | none => none
  | some (xs, ρ1) => match f xs with
    | none => none
    | some z => some (z, ρ1)) := rfl
@[simp] theorem mB_ap (a : MX) (ρ : List Sl) : mB a ρ = (match a ρ with
  | some (.val (.bool b), ρ1) => some (b, ρ1)
  | _ => none) := rfl
@[simp] theorem mTru_ap (a : MX) (ρ : List Sl) : mTru a ρ = (match a ρ with
  | none => none
  | some (x, ρ1) => match tru x with
    | none => none
    | some b => some (b, ρ1)) := rfl
@[simp] theorem mTAnd_ap (a b : MT) (ρ : List Sl) : mTAnd a b ρ = (match a ρ with
  | none => none
  | some (c, ρ1) => if c = true then b ρ1 else some (false, ρ1)) := rfl
@[simp] theorem mTOr_ap (a b : MT) (ρ : List Sl) : mTOr a b ρ = (match a ρ with
  | none => none
  | some (c, ρ1) => if c = true then some (true, ρ1) else b ρ1) := rfl
@[simp] theorem mTNot_ap (a : MT) (ρ : List Sl) : mTNot a ρ = (match a ρ with
  | none => none
  | some (c, ρ1) => some (!c, ρ1)) := rfl
@[simp] theorem mAndV_ap (a b : MX) (ρ : List Sl) : mAndV a b ρ = (match a ρ with
  | some (.val (.bool c), ρ1) => if c = true then b ρ1 else some (.val (.bool false), ρ1)
  | _ => none) := rfl
@[simp] theorem mOrV_ap (a b : MX) (ρ : List Sl) : mOrV a b ρ = (match a ρ with
  | some (.val (.bool c), ρ1) => if c = true then some (.val (.bool true), ρ1) else b ρ1
  | _ => none) := rfl
@[simp] theorem mNotV_ap (a : MX) (ρ : List Sl) : mNotV a ρ = (match a ρ with
  | some (.val (.bool c), ρ1) => some (.val (.bool (!c)), ρ1)
  | _ => none) := rfl
@[simp] theorem mIf_ap (c : MT) (a b : MX) (ρ : List Sl) : mIf c a b ρ = (match c ρ with
  | none => none
  | some (k, ρ1) => if k = true then a ρ1 else b ρ1) := rfl
@[simp] theorem mChain_ap (p p' : Int → Int → Bool) (a b c : MX) (ρ : List Sl) : mChain p p' a b c ρ = (match a ρ with
  | some (.val (.int i), ρ1) => match b ρ1 with
    | some (.val (.int j), ρ2) => if p i j = true then match c ρ2 with
        | some (.val (.int k), ρ3) => some (.val (.bool (p' j k)), ρ3)
        | _ => none
      else some (.val (.bool false), ρ2)
    | _ => none
  | _ => none) := rfl
@[simp] theorem mTup_ap (a : MA) (ρ : List Sl) : mTup a ρ = (match a ρ with
  | none => none
  | some (xs, ρ1) => match datAll xs with
    | none => none
    | some ds => if ds.length ≤ sizeLine then some (.val (.tuple ds), ρ1) else none) := rfl
@[simp] theorem mLst_ap (a : MA) (ρ : List Sl) : mLst a ρ = (match a ρ with
  | none => none
  | some (xs, ρ1) => match datAll xs with
    | none => none
    | some ds => if ds.length ≤ sizeLine then some (.own ds, ρ1) else none) := rfl
@[simp] theorem mON_ap  (ρ : List Sl) : mON  ρ = (some (none, ρ)) := rfl
@[simp] theorem mOS_ap (a : MX) (ρ : List Sl) : mOS a ρ = (match a ρ with
  | some (.val (.int i), ρ1) => some (some i, ρ1)
  | _ => none) := rfl
@[simp] theorem mSl_ap (a : MX) (l h : MO) (ρ : List Sl) : mSl a l h ρ = (match a ρ with
  | none => none
  | some (x, ρ1) => match l ρ1 with
    | none => none
    | some (lo, ρ2) => match h ρ2 with
      | none => none
      | some (hi, ρ3) => match fSl x lo hi with
        | none => none
        | some z => some (z, ρ3)) := rfl
@[simp] theorem mIxO_ap (i : Nat) (b : MX) (ρ : List Sl) : mIxO i b ρ = (match ρ[i]? with
  | none => none
  | some s0 => match lstOf s0 with
    | none => none
    | some _ => match b ρ with
      | some (.val (.int k), ρ1) => match ρ1[i]? with
        | some s => match lstOf s with
          | some ds => (atI ds k).map fun d => (.val d, ρ1)
          | none => none
        | none => none
      | _ => none) := rfl
@[simp] theorem mLenO_ap (i : Nat) (ρ : List Sl) : mLenO i ρ = (match ρ[i]? with
  | some s => match lstOf s with
    | some ds => some (.val (.int ds.length), ρ)
    | none => none
  | none => none) := rfl
@[simp] theorem mTruO_ap (i : Nat) (ρ : List Sl) : mTruO i ρ = (match ρ[i]? with
  | some s => match lstOf s with
    | some ds => some (!ds.isEmpty, ρ)
    | none => none
  | none => none) := rfl
@[simp] theorem mEqO_ap (neg : Bool) (i : Nat) (b : MX) (ρ : List Sl) : mEqO neg i b ρ = (match ρ[i]? with
  | none => none
  | some s0 => match lstOf s0 with
    | none => none
    | some _ => match b ρ with
      | some (y, ρ1) => match ρ1[i]? with
        | some s => match fEq neg s y with
          | some z => some (z, ρ1)
          | none => none
        | none => none
      | none => none) := rfl
@[simp] theorem mgN_ap (kp : Nat → Bool) (i : Nat) (d : D) (ρ : List Sl) : mgN kp i d ρ = (if kp i = false ∧ i < ρ.length then some (ρ.set i (.val d)) else none) := rfl
@[simp] theorem mgT_ap (kp : Nat → Bool) (is : List Nat) (d : D) (ρ : List Sl) : mgT kp is d ρ = (match d with
  | .tuple ds => mgNs kp is ds ρ
  | _ => none) := rfl
@[simp] theorem mgL_ap (kp : Nat → Bool) (is : List Nat) (d : D) (ρ : List Sl) : mgL kp is d ρ = (match d with
  | .tuple ds => mgNs kp is ds ρ
  | .list ds => mgNs kp is ds ρ
  | _ => none) := rfl
@[simp] theorem mNext_ap  (ρ : List Sl) : mNext  ρ = (some (.nx ρ)) := rfl
@[simp] theorem mBrk_ap  (ρ : List Sl) : mBrk  ρ = (some (.bk ρ)) := rfl
@[simp] theorem mCont_ap  (ρ : List Sl) : mCont  ρ = (some (.ct ρ)) := rfl
@[simp] theorem mSeq_ap (a b : MS) (ρ : List Sl) : mSeq a b ρ = (match a ρ with
  | some (.nx ρ1) => b ρ1
  | o => o) := rfl
@[simp] theorem mIfS_ap (c : MT) (a b : MS) (ρ : List Sl) : mIfS c a b ρ = (match c ρ with
  | none => none
  | some (k, ρ1) => if k = true then a ρ1 else b ρ1) := rfl
@[simp] theorem mRet_ap (a : MX) (ρ : List Sl) : mRet a ρ = (match a ρ with
  | none => none
  | some (r, ρ1) => some (.rt r ρ1)) := rfl
@[simp] theorem mExpr_ap (a : MX) (ρ : List Sl) : mExpr a ρ = (match a ρ with
  | none => none
  | some (_, ρ1) => some (.nx ρ1)) := rfl
@[simp] theorem mAsg_ap (kp : Nat → Bool) (i : Nat) (a : MX) (ρ : List Sl) : mAsg kp i a ρ = (match a ρ with
  | none => none
  | some (r, ρ1) => if kp i = false ∧ i < ρ1.length then some (.nx (ρ1.set i r)) else none) := rfl
@[simp] theorem mAsg2_ap (kp : Nat → Bool) (i j : Nat) (a : MX) (ρ : List Sl) : mAsg2 kp i j a ρ = (match a ρ with
  | some (.val d, ρ1) => if kp i = false ∧ kp j = false ∧ i < ρ1.length ∧ j < ρ1.length then some (.nx ((ρ1.set i (.val d)).set j (.val d))) else none
  | _ => none) := rfl
@[simp] theorem mAsgT_ap (a : MX) (g : MG) (ρ : List Sl) : mAsgT a g ρ = (match a ρ with
  | some (.val d, ρ1) => match g d ρ1 with
    | some ρ2 => some (.nx ρ2)
    | none => none
  | _ => none) := rfl
@[simp] theorem mAug_ap (kp : Nat → Bool) (i : Nat) (f : Int → Int → Int) (a : MX) (ρ : List Sl) : mAug kp i f a ρ = (match ρ[i]? with
  | some (.val (.int k)) => match a ρ with
    | some (.val (.int j), ρ1) => if kp i = false ∧ i < ρ1.length then some (.nx (ρ1.set i (.val (.int (f k j))))) else none
    | _ => none
  | _ => none) := rfl
@[simp] theorem mSetO_ap (i : Nat) (b a : MX) (ρ : List Sl) : mSetO i b a ρ = (match a ρ with
  | none => none
  | some (r, ρ1) => match datOf r with
    | none => none
    | some d => match ρ1[i]? with
      | some (.own _) => match b ρ1 with
        | some (.val (.int k), ρ2) => match ρ2[i]? with
          | some (.own ds) => match ixN ds.length k with
            | some j => some (.nx (ρ2.set i (.own (ds.set j d))))
            | none => none
          | _ => none
        | _ => none
      | _ => none) := rfl
@[simp] theorem mAugO_ap (i : Nat) (f : Int → Int → Int) (b a : MX) (ρ : List Sl) : mAugO i f b a ρ = (match ρ[i]? with
  | some (.own _) => match b ρ with
    | some (.val (.int k), ρ1) => match ρ1[i]? with
      | some (.own ds) => match atI ds k with
        | some (.int x) => match a ρ1 with
          | some (.val (.int y), ρ2) => match ρ2[i]? with
            | some (.own es) => match ixN es.length k with
              | some j => some (.nx (ρ2.set i (.own (es.set j (.int (f x y))))))
              | none => none
            | _ => none
          | _ => none
        | _ => none
      | _ => none
    | _ => none
  | _ => none) := rfl
@[simp] theorem mMeth_ap (i : Nat) (f : List D → List D → Option (D × List D)) (a : MA) (ρ : List Sl) : mMeth i f a ρ = (match ρ[i]? with
  | some (.own _) => match a ρ with
    | none => none
    | some (xs, ρ1) => match datAll xs with
      | none => none
      | some es => match ρ1[i]? with
        | some (.own ds) => match f ds es with
          | none => none
          | some (d, ds') => some (.val d, ρ1.set i (.own ds'))
        | _ => none
  | _ => none) := rfl
@[simp] theorem miL_ap (a : MX) (ρ : List Sl) : miL a ρ = (match a ρ with
  | some (.val (.list ds), ρ1) => some (ds, ρ1)
  | _ => none) := rfl
@[simp] theorem miS_ap (a : MX) (ρ : List Sl) : miS a ρ = (match a ρ with
  | some (.val (.list ds), ρ1) => some (ds, ρ1)
  | some (.val (.tuple ds), ρ1) => some (ds, ρ1)
  | _ => none) := rfl
@[simp] theorem miN_ap (a : MX) (ρ : List Sl) : miN a ρ = (match a ρ with
  | some (.val (.list ds), ρ1) => some (ds, ρ1)
  | some (.own ds, ρ1) => some (ds, ρ1)
  | _ => none) := rfl
@[simp] theorem miR1_ap (a : MA) (ρ : List Sl) : miR1 a ρ = (match a ρ with
  | some ([.val (.int n)], ρ1) => if n < 2 ^ 62 ∧ -(2 ^ 62) ≤ n then some (rangeD 0 n.toNat, ρ1) else none
  | _ => none) := rfl
@[simp] theorem miR2_ap (a : MA) (ρ : List Sl) : miR2 a ρ = (match a ρ with
  | some ([.val (.int m), .val (.int n)], ρ1) => if -(2 ^ 62) ≤ m ∧ m < 2 ^ 62 ∧ -(2 ^ 62) ≤ n ∧ n < 2 ^ 62 then some (rangeD m (n - m).toNat, ρ1) else none
  | _ => none) := rfl
@[simp] theorem miE_ap (a : MX) (ρ : List Sl) : miE a ρ = (match a ρ with
  | some (.val (.list ds), ρ1) => some (enumD ds, ρ1)
  | some (.own ds, ρ1) => some (enumD ds, ρ1)
  | _ => none) := rfl
@[simp] theorem miStr_ap (a : MX) (ρ : List Sl) : miStr a ρ = (match a ρ with
  | some (.val (.str x), ρ1) => some (strD x, ρ1)
  | _ => none) := rfl
@[simp] theorem mFor_ap (i : MI) (g : MG) (b : MS) (ρ : List Sl) : mFor i g b ρ = (match i ρ with
  | none => none
  | some (ds, ρ1) => mLoop g b ds ρ1) := rfl
@[simp] theorem mTYes_ap  (ρ : List Sl) : mTYes  ρ = (some (true, ρ)) := rfl
@[simp] theorem mComp_ap (i : MI) (g : MG) (t : MT) (e : MX) (vs : List Nat) (ρ : List Sl) : mComp i g t e vs ρ = (match i ρ with
  | none => none
  | some (ds, ρ1) => match mCompL g t e vs ds [] (wipeD ρ1 vs) with
    | none => none
    | some (acc, ρ2) => some (.own acc, wipeD ρ2 vs)) := rfl
@[simp] theorem mCall_ap (mf : MF) (ws : List D) (a : MA) (ρ : List Sl) : mCall mf ws a ρ = (match a ρ with
  | none => none
  | some (xs, ρ1) => match mf (xs ++ ws.map Sl.val) with
    | none => none
    | some (r, _) => some (r, ρ1)) := rfl
@[simp] theorem mCallM_ap (mf : MF) (i : Nat) (ws : List D) (a : MA) (ρ : List Sl) : mCallM mf i ws a ρ = (match ρ[i]? with
  | some (.own _) => match a ρ with
    | none => none
    | some (xs, ρ1) => match ρ1[i]? with
      | some (.own ds) => match mf (.own ds :: (xs ++ ws.map Sl.val)) with
        | some (r, s :: _) => some (r, ρ1.set i s)
        | _ => none
      | _ => none
  | _ => none) := rfl
@[simp] theorem mDef_ap (np nl : Nat) (kp : Nat → Bool) (mb : MS) (args : List Sl) : mDef np nl kp mb args = (if args.length = np then match mb (args ++ List.replicate (nl - np) .un) with
    | some (.rt r ρ') => some (r, outA kp np ρ')
    | some (.nx ρ') => some (.val .none, outA kp np ρ')
    | _ => none
  else none) := rfl
@[simp] theorem mNone_ap (ρ : List Sl) : mNone ρ = (none) := rfl
@[simp] theorem mPar_ap (kp : Nat → Bool) (i j : Nat) (a b : MX) (ρ : List Sl) : mPar kp i j a b ρ = (match a ρ with
  | none => none
  | some (x, ρ1) => match b ρ1 with
    | none => none
    | some (y, ρ2) => if kp i = false ∧ kp j = false ∧ i < ρ2.length ∧ j < ρ2.length then some (.nx ((ρ2.set i x).set j y)) else none) := rfl
@[simp] theorem miZ_ap (a : MA) (ρ : List Sl) : miZ a ρ = (match a ρ with
  | some ([.val (.list ds), .val (.list es)], ρ1) => some (zipD ds es, ρ1)
  | some ([.val (.tuple ds), .val (.tuple es)], ρ1) => some (zipD ds es, ρ1)
  | _ => none) := rfl
@[simp] theorem mExtN_ap (i : Nat) (a : MX) (ρ : List Sl) : mExtN i a ρ = (match ρ[i]? with
  | some (.own _) => match a ρ with
    | some (.own es, ρ1) => match ρ1[i]? with
      | some (.own ds) => if ds.length + es.length ≤ sizeLine then some (.val .none, ρ1.set i (.own (ds ++ es))) else none
      | _ => none
    | _ => none
  | _ => none) := rfl
@[simp] theorem mRetO_ap (i : Nat) (ρ : List Sl) : mRetO i ρ = (match ρ[i]? with
  | some (.own ds) => some (.rt (.own ds) (ρ.set i .un))
  | some (.val d) => some (.rt (.val d) ρ)
  | _ => none) := rfl
end Dn

namespace Dn
open PySem PySem.Spec PyProof.Rows L2
open Evl (Ex)
/-! ### repr of lists and tuples -/
def reprOk (d : D) : Bool := PyData.canLay0 d && PyData.showable d && decide (PyData.depth d ≤ 40) && decide (d.shown.length ≤ sizeLine)
@[simp] def fRepr : List Sl → Option Sl
  | [.val (.list ds)] => if reprOk (.list ds) = true then some (.val (.str (PyData.shown (.list ds)))) else none
  | [.val (.tuple ds)] => if reprOk (.tuple ds) = true then some (.val (.str (PyData.shown (.tuple ds)))) else none
  | _ => none
def rRepr (K : PySem.W.Frag) : List V → Hp → VK → Prop := fun vs H Q => ∃ (a : Addr) (d : D), vs = [V.ref a] ∧ Dp K H (V.ref a) d ∧ reprOk d = true ∧ Q (.str d.shown) H
theorem reprOk_of {d : D} (h : reprOk d = true) : PyData.canLay0 d = true ∧ PyData.showable d = true ∧ PyData.depth d ≤ 40 ∧ d.shown.length ≤ sizeLine := by
  unfold reprOk at h
  simp only [Bool.and_eq_true, decide_eq_true_eq] at h
  exact ⟨h.1.1.1, h.1.1.2, h.1.2, h.2⟩
theorem call_reprA {X : Cx} {k : Nat} (hg : X.A.guards = some []) (hr : Room k X.A) : CallR X (.builtin "repr") (rRepr X.K) := by
  intro pins s σ H xs us Q I rv h
  obtain ⟨a, d, rfl, hd, hk, q⟩ := h
  obtain ⟨c1, c2, c3, c4⟩ := reprOk_of hk
  cases rv with
  | cons r1 r2 =>
    rename_i u ut
    cases r2
    obtain rfl : u = Value.ref a := r1
    obtain ⟨as, rd⟩ := Dp.reads I d (V.ref a) (Value.ref a) hd rfl
    have hn : d.hasDict = false := PyData.hasDict_of_canLay d c1
    refine repr_of_reads' rd c2 (fun z => by rw [hn] at z; cases z) hg (by have := hr.un; omega) (fun b o e => e) (fun h' u tk hk' => ?_) c4
    exact ⟨.str d.shown, H, I.kept hk', ⟨_, rfl⟩, q⟩
theorem fnS_repr {K : PySem.W.Frag} : FnS K (rRepr K) fRepr := by
  intro G F T ρ σ H xs z vs Q hl R h q
  unfold fRepr at h
  split at h
  · obtain ⟨v, rfl⟩ := one_of hl rfl
    split at h
    · rename_i hk
      cases h
      have c1 := (reprOk_of hk).1
      have hv := dat_of R.l.eg (s := .val _) rfl R.fst
      cases hv with
      | lst hs ha => exact ⟨_, _, rfl, dp_of _ _ c1 (.lst hs ha), hk, q _ G H (Ex.refl G) (R.drop.pushV (.str _))⟩
    · cases h
  · obtain ⟨v, rfl⟩ := one_of hl rfl
    split at h
    · rename_i hk
      cases h
      have c1 := (reprOk_of hk).1
      have hv := dat_of R.l.eg (s := .val _) rfl R.fst
      cases hv with
      | tup hs ha => exact ⟨_, _, rfl, dp_of _ _ c1 (.tup hs ha), hk, q _ G H (Ex.refl G) (R.drop.pushV (.str _))⟩
    · cases h
  · cases h
end Dn

namespace Dn
open PySem PySem.Spec PyProof.Rows L2
open Evl (Ex)
/-! ### defs under a caller in whose state no repr is under way -/
structure FnG (P : Program) (w : World) (K : PySem.W.Frag) (mg : Str → Option Value) (base : Heap) (k : Nat) (f : Addr) (fd : FuncData) (ps : List Str) (sp : Sp) : Prop where
  lenG : ∀ vs H Q E, sp vs H Q E → vs.length = ps.length
  runG : ∀ (B : Around) (fr : List Env) (s : Shared) (H : Hp) (ag : Args) (us : List Value) (vs : List V) (Q : VK) (E : XK), B.guards = some [] → Room k B → Env0 P w K mg base B fr s H →
    BindsTo s fd ag (ps.zip us) → Vals vs us → sp vs H Q E → codeAny (model P w) B (.call (.ref f) ag) (CR CX0 fr P w H s Q E) s
section
variable {P : Program} {w : World} {K : PySem.W.Frag} {mg : Str → Option Value} {base : Heap}
theorem FnG.of {k : Nat} {f : Addr} {fd : FuncData} {ps : List Str} {sp : Sp} (F : FnOk P w K mg base CX0 k f fd ps sp) : FnG P w K mg base k f fd ps sp :=
  ⟨F.len, fun B fr s H ag us vs Q E _ hr e0 hb rv q => F.run B fr s H ag us vs Q E hr e0 hb rv q⟩
end
section
variable {K : PySem.W.Frag} {X : Cx} {mf : MF} {f : Addr} {fd : FuncData} {ps : List Str} {k : Nat} {e : Expr} {es : List Expr} {x : Str} {p pos : Pos} {t : TA} {m : MA} {sp : Sp}
theorem pe_callG (F : FnG X.prog X.w X.K X.mg X.base k f fd ps sp) (hgd : X.A.guards = some []) (hr : Room k X.A) (hg : Gl X x) (hm : X.mg x = some (.ref f)) (hk : PySem.W.keepIn X.K (.ref f) = true) (hb : Binds X.K fd ps [])
    (ha : PA X (e :: es) t) (hdb : (x == ("__debug__" : Str)) = false) (he : starEach (e :: es) X.env = (false, eval e X.env) :: starEach es X.env) (hpl : (backTo pos (starEach es X.env)).any (·.1) = false) :
    PE X (.Call (.Name x p) (e :: es) [] pos) (tCall sp [] E0 t) := by
  constructor
  intro pins s σ H Q I h
  apply wpAny_Call_Name_kw
  apply ld_glob I hg hm _ hdb
  refine PySem.W.callWith_K (h₀ := X.base) I.ok.mod.kin hk (thn (ha.run pos pins s σ H _ I h) ?_) he hpl
  rintro us s1 ⟨vs, H1, I1, rv, q⟩
  refine ⟨I1.kIn, ?_⟩
  rw [List.append_nil] at q
  have hl : us.length = ps.length := rv.length.symm.trans (F.lenG vs H1 _ _ q)
  have hbb := hb s1 us I1.kIn (by rw [List.append_nil]; exact hl)
  rw [List.append_nil] at hbb
  refine wpAny_call (codeAny_mono (F.runG X.A X.stack s1 H1 ⟨us, []⟩ us vs _ _ hgd hr I1.env0 hbb rv q) ?_)
  intro r s' hq
  rcases r with er | fl
  · exact hq.elim
  · cases fl with
    | ret u => exact I1.after hq
    | _ => exact False.elim hq
theorem me_callG (Fk : FnG X.prog X.w K X.mg X.base k f fd ps (spD K mf)) (hgd : X.A.guards = some []) (hr : Room k X.A) (hg : Gl X x) (hm : X.mg x = some (.ref f)) (hk : PySem.W.keepIn K (.ref f) = true) (hb : Binds K fd ps [])
    (ha : MEA X K (e :: es) t m) (hdb : (x == ("__debug__" : Str)) = false := by decide) (he : starEach (e :: es) X.env = (false, eval e X.env) :: starEach es X.env := by rfl) (hpl : (backTo pos (starEach es X.env)).any (·.1) = false := by rfl) :
    ME X K (.Call (.Name x p) (e :: es) [] pos) (tCall (spD K mf) [] E0 t) (mCall mf [] m) := by
  obtain rfl := ha.hK
  exact ⟨rfl, pe_callG Fk hgd hr hg hm hk hb ha.pe hdb he hpl, den_call .nil ha.dn⟩
theorem me_callMG (i : Nat) {y : Str} {p1 : Pos} (Fk : FnG X.prog X.w K X.mg X.base k f fd ps (spD K mf)) (hgd : X.A.guards = some []) (hr : Room k X.A) (hg : Gl X x) (hm : X.mg x = some (.ref f)) (hk : PySem.W.keepIn K (.ref f) = true) (hb : Binds K fd ps [])
    (ha : MEA X K es t m) (hN : X.N[i]? = some y := by rfl) (hv : Vis X.env.scope y := by first | exact Or.inl rfl | exact Or.inr (Or.inl rfl) | exact Or.inr (Or.inr rfl)) (hyd : (y == ("__debug__" : Str)) = false := by decide)
    (hcd : (y == ("__classdict__" : Str)) = false := by decide) (hdb : (x == ("__debug__" : Str)) = false := by decide) (he : starEach (.Name y p1 :: es) X.env = (false, eval (.Name y p1) X.env) :: starEach es X.env := by rfl) (hpl : (backTo pos (starEach es X.env)).any (·.1) = false := by rfl) :
    ME X K (.Call (.Name x p) (.Name y p1 :: es) [] pos) (tCall (spD K mf) [] E0 (tCons (tVar i) t)) (mCallM mf i [] m) := by
  obtain rfl := ha.hK
  exact ⟨rfl, pe_callG Fk hgd hr hg hm hk hb (pa_cons (pe_var hN hv hyd hcd) ha.pe he) hdb he hpl, den_callM .nil ha.dn⟩
end
section
variable {P : Program} {w : World} {K : PySem.W.Frag} {mg : Str → Option Value} {base : Heap}
/-- a body by its mirror -/
theorem body_of {X : Cx} {ps N : List Str} {kp : Nat → Bool} {mb : MS} {b : List Stmt} {t : TS} (hnp : ps.length ≤ N.length) (M : MSs X kp b t mb) {vs : List V} {H : Hp} {Q : VK} {E : XK} (h : spD X.K (mDef ps.length N.length kp mb) vs H Q E) :
    t { nx := fun _ H' => Q .non H', rt := Q } (L2.start N vs) H := by
  obtain ⟨G, F, args, r, args', R, e, q⟩ := h
  have l := R.len
  rw [List.length_map] at l
  unfold mDef at e
  by_cases hl : args.length = ps.length
  · rw [if_pos hl] at e
    have hvl : vs.length = ps.length := l ▸ hl
    have R0 := start_rel (N := N) R
    rw [hvl] at R0
    have fin : ∀ (r : Sl) (ρ' : List Sl) (v : V) (G' : Hp) (σ' : L2.St) (H' : Hp), Ex G G' → Kept kp (L2.start N vs) σ' → Rel X.K G' F [(r, some v)] ρ' σ' H' → Rel X.K G' F [(r, some v)] (outA kp ps.length ρ') (vs.map some) H' := by
      intro r ρ' v G' σ' H' ex kk R'
      have hl0 : vs.length ≤ σ'.length := by
        rw [kk.1, L2.start, List.length_append, List.length_map]
        exact Nat.le_add_right _ _
      refine ⟨by rw [outA_len, List.length_map, hvl], hvl ▸ out_rel vs kp ρ' σ' [(r, some v)] (fun j u hj hkj => ?_) (R'.len.symm ▸ hl0) R'.len R'.l⟩
      have hjl := (List.getElem?_eq_some_iff.mp hj).1
      rw [kk.2 j hkj, L2.start, List.getElem?_append_left (by rw [List.length_map]; exact hjl), List.getElem?_map, hj]
      rfl
    rcases hm : mb (args ++ List.replicate (N.length - ps.length) .un) with _ | o
    · rw [hm] at e
      cases e
    · rw [hm] at e
      cases o with
      | rt r0 ρ' =>
        cases e
        exact M.dn G F _ _ H _ _ R0 hm fun v G' σ' H' ex kk R' => q v G' H' ex (fin _ ρ' v G' σ' H' ex kk R')
      | nx ρ' =>
        cases e
        exact M.dn G F _ _ H _ _ R0 hm fun G' σ' H' ex kk R' => q .non G' H' ex (fin _ ρ' .non G' σ' H' ex kk (R'.pushV .non))
      | _ => cases e
  · rw [if_neg hl] at e
    cases e
theorem spD_len {mf : MF} {np nl : Nat} {kp : Nat → Bool} {mb : MS} {vs : List V} {H : Hp} {Q : VK} {E : XK} (h : spD K (mDef np nl kp mb) vs H Q E) : vs.length = np := by
  obtain ⟨G, F, args, r, args', R, e, q⟩ := h
  have l := R.len
  rw [List.length_map] at l
  unfold mDef at e
  by_cases hl : args.length = np
  · rw [← l]
    exact hl
  · rw [if_neg hl] at e
    cases e
theorem fn_okG {x qual : Str} {st : Stmt} {f : Addr} {fd : FuncData} {N ps : List Str} {k : Nat} {kp : Nat → Bool} {mb : MS} (Fn : Fun K x qual st f fd) (S : FnScope N ps (defScope st)) (hnp : ps.length ≤ N.length)
    (hb : ∀ (cdv : Value) (B : Around) (outer : List Env) (s : Shared) (H : Hp) (E : XK), B.guards = some [] → Room k (B.deeper (envOfC qual (defScope st) s.heap.objs.size f cdv)) →
      ∃ t, MSs (cxOf CX0 P w K mg base N qual (defScope st) f cdv B outer s H E).nox kp (defBody st) t mb) : FnG P w K mg base (k + 1) f fd ps (spD K (mDef ps.length N.length kp mb)) := by
  obtain ⟨oc, od, kV, doc, pm, an, cdv, ct, osl, rfl, lk, hcd⟩ := Fn.ex
  refine ⟨fun vs H Q E h => spD_len (mf := fun _ => none) h, ?_⟩
  intro B fr s H ag us vs Q E hgd hr e0 hbd rv hsp
  have hl := spD_len (mf := fun _ => none) hsp
  have inK : K.In s.heap := e0.mod.kin.keeps fun b o e => And.left (e0.bs b o e)
  have hkind : ∀ y ∈ ps.zip us, (defScope st).names.lookup y.1 = some .local ∨ ((defScope st).names.lookup y.1 = some .cell ∧ ((cellsFrom (s.heap.objs.size + 1) (defScope st).names []).lookup y.1).isSome = true) := by
    rintro ⟨n, v⟩ hy
    exact (S.par n (List.of_mem_zip hy).1).imp id fun q => ⟨q, PySem.W.cellsFrom_some _ _ _ (.inl q)⟩
  apply codeAny_call_function hr.depth (inK _ _ lk) rfl S.co S.gen rfl (PySem.W.codeRec_of inK hcd)
  apply hbd
  apply wpAny_newFunctionEnv_cells S.kind hkind
  rintro env rfl s1 x
  refine ⟨(e0.mod.nolimit.keeps fun b o e => (e0.bs b o e).1).keeps x.toInCall.keep, codeAny_func ?_⟩
  obtain ⟨t, M⟩ := hb cdv B fr s H E hgd (hr.deeper _)
  have I : L2.Inv (cxOf CX0 P w K mg base N qual (defScope st) f cdv B fr s H E) [] (L2.start N vs) H s1 := inv_start S hr.hd e0 hl rv x
  refine wpAny_mono (M.pe.nox.run [] s1 (L2.start N vs) H _ I (body_of hnp M hsp)) ?_ fun e s' hs => hs
  intro fl s' hs
  cases fl with
  | next =>
    have ⟨σ', H', J, q⟩ := hs
    exact ⟨V.non, H', J.os, J.bare, J.base, J.hok, rfl, q⟩
  | ret u =>
    have ⟨v, σ', H', J, rv', q⟩ := hs
    exact ⟨v, H', J.os, J.bare, J.base, J.hok, rv', q⟩
  | _ => exact hs.choose_spec.choose_spec.2.elim
end
end Dn

namespace Dn
open PySem PySem.Spec PyProof.Rows L2
open Evl (Ex)
/-! ### the law's own end, of a def that wants that no repr is under way -/
section
variable {P : Program} {w : World} {K : PySem.W.Frag} {mg mb : Str → Option Value} {k : Nat} {fa a : Addr} {fd : FuncData} {x : Str} {sp : Sp} {s₁ : Shared} {vs : List Value} {ns : List Int}
abbrev LGoal (P : Program) (w : World) (fa a : Addr) (s₁ : Shared) : Prop :=
  codeAny (model P w) callerA (.call (.ref fa) ⟨[.ref a], []⟩) (fun r s' => r = .ok (.ret (.bool true)) ∧ OldK s₁.heap s'.heap ∧ s'.os = s₁.os ∧ AllBare s'.gens) s₁
/-- with nothing but the script tracked -/
theorem law_coreG (KX : K.In s₁.heap) (hns : s₁.heap.Ns mainGlobals mg) (hb : s₁.heap.Ns builtinsNs mb) (hbb : ∀ x : Str, x ≠ "__name__" → mb x = bootBuiltins x) (hlim : s₁.heap.NoLimit) (hg : s₁.gens = #[])
    (ha : s₁.heap.get? a = some { cls := .type "list", data := .seq vs.toArray }) (hr : Room k callerA)
    (F : ∀ base : Heap, K.In base → base.Ns mainGlobals mg → FnG P w K mg base k fa fd [x] sp) (hbind : ∀ (s : Shared) (u : Value), BindsTo s fd ⟨[u], []⟩ [(x, u)])
    {H : Hp} (hO : Only H) (hsp : sp [.ref a] H (fun v _ => v = .bl true) fun _ _ _ => False) (hok : HOk P w H s₁.heap) (hA : ∀ b, H b ≠ none → b = a) (hK : H a ≠ none → K.lookup a = none) : LGoal P w fa a s₁ := by
  have un : ∀ {b : Addr} {o : Obj}, s₁.heap.get? b = some o → (b = a → H b = none) → (hidT s₁.heap H).get? b = some o := fun {b o} e z => hidT_get e (Classical.byContradiction fun n => n (z (hA b n)))
  have dct : ∀ {b : Addr} {m : Str → Option Value}, s₁.heap.Ns b m → (hidT s₁.heap H).Ns b m := by
    rintro b m ⟨o, es, ep, e, d, r⟩
    refine ⟨o, es, ep, un e fun z => ?_, d, r⟩
    subst z
    have e2 := ha.symm.trans e
    injection e2 with e3
    rw [← e3] at d
    cases d
  have kin : K.In (hidT s₁.heap H) := by
    intro b o e
    refine un (KX b o e) fun z => ?_
    subst z
    refine Classical.byContradiction fun n => ?_
    rw [hK n] at e
    cases e
  obtain ⟨mc, l1, l2⟩ := hlim
  have e0 : Env0 P w K mg (hidT s₁.heap H) callerA [] s₁ H := ⟨rfl, ⟨kin, dct hns, ⟨mb, dct hb, hbb⟩, ⟨mc, dct l1, l2⟩⟩, fun b o => of_hidT, Nat.le_of_eq (hidT_size _ _), trivial, fun b z => (List.not_mem_nil z).elim, hok, .of_eq hg⟩
  have run := (F _ kin (dct hns)).runG callerA [] s₁ H ⟨[.ref a], []⟩ [.ref a] [.ref a] _ _ rfl hr e0 (hbind s₁ (.ref a)) (.cons rfl .nil) hsp
  refine codeAny_mono run ?_
  rintro (er | fl) s' h
  · exact h.elim
  · cases fl with
    | ret u =>
      obtain ⟨v, H', os, bare, un2, hok', rv, rfl⟩ := h
      refine ⟨by rw [show u = Value.bool true from rv], OldK.of_keep fun b o e => ?_, os, bare⟩
      rcases hO b with z | ⟨ob, xs, z⟩
      · exact un2.keep b o e z (fun y => nomatch y) (by simp)
      · have g1 := (hok b _ z).1
        have g2 := (hok' b _ (un2.frzs b ob _ z)).1
        rw [← e, g1]
        exact g2
    | _ => exact False.elim h
theorem law_callG (KX : K.In s₁.heap) (hns : s₁.heap.Ns mainGlobals mg) (hb : s₁.heap.Ns builtinsNs mb) (hbb : ∀ x : Str, x ≠ "__name__" → mb x = bootBuiltins x) (hlim : s₁.heap.NoLimit) (hg : s₁.gens = #[])
    (ha : s₁.heap.get? a = some { cls := .type "list", data := .seq vs.toArray }) (hi : IntsAre vs ns) (hl : ns.length ≤ sizeLine) (hr : Room k callerA)
    (F : ∀ base : Heap, K.In base → base.Ns mainGlobals mg → FnG P w K mg base k fa fd [x] sp) (hbind : ∀ (s : Shared) (u : Value), BindsTo s fd ⟨[u], []⟩ [(x, u)])
    (hsp : ∀ H : Hp, Only H → SqL K H a (ns.map V.int) → sp [.ref a] H (fun v _ => v = .bl true) fun _ _ _ => False) : LGoal P w fa a s₁ := by
  have rv := vals_ints hi
  rcases hk : K.lookup a with _ | o
  · have hH : ∀ b, (if b = a then some (HO.frz { cls := .type "list", data := .seq vs.toArray } (.lst (ns.map V.int))) else none) ≠ none → b = a := fun b z => Classical.byContradiction fun n => z (if_neg n)
    have hO : Only (fun b => if b = a then some (HO.frz { cls := .type "list", data := .seq vs.toArray } (.lst (ns.map V.int))) else none) := fun b => by
      by_cases e : b = a
      · exact .inr ⟨_, _, if_pos e⟩
      · exact .inl (if_neg e)
    refine law_coreG KX hns hb hbb hlim hg ha hr F hbind hO (hsp _ hO (.inl (.inr ⟨_, if_pos rfl⟩))) (fun b u z => ?_) hH fun _ => hk
    have e : b = a := hH b (by rw [z]; exact nofun)
    subst e
    have z2 := (if_pos rfl).symm.trans z
    injection z2 with z3
    subst z3
    exact ⟨ha, by simpa using hl, vs, _, rv, ha⟩
  · have e2 := (KX a o hk).symm.trans ha
    injection e2 with e3
    subst e3
    have hO : Only (fun _ => none) := fun _ => .inl rfl
    have hS : SqL K (fun _ => none) a (ns.map V.int) := .inr ⟨_, vs.toArray, _, hk, rfl, rfl, rfl, by rw [List.size_toArray, hi.length]; exact hl, by simpa using rv⟩
    exact law_coreG KX hns hb hbb hlim hg ha hr F hbind hO (hsp _ hO hS) (fun b u z => nomatch z) (fun b z => (z rfl).elim) fun z => (z rfl).elim
end
theorem walk_ofG {l : PySem.W.OpenLaw} {n k : Nat} {q : Program} {loose : List Str} {XP : (Str → Option Value) → Heap → Prop} {YP : World → Heap → Prop} {d : DefRec} {K : Params → PySem.W.Frag} {sp : World → Sp} {x : Str}
    (hn : l.most = some n) (hn2 : n ≤ sizeLine) (hdf : d.params.defaults = []) (hr : Room k callerA) (hY : ∀ (w : World) (h : Heap), YP w h → (K w.params).In h)
    (F : ∀ (w : World) (mg : Str → Option Value) (fa : Addr) (h : Heap), (K w.params).In h → h.Ns mainGlobals mg → mg d.name = some (.ref fa) →
      ∃ fd : FuncData, (∀ (s : Shared) (u : Value), BindsTo s fd ⟨[u], []⟩ [(x, u)]) ∧ ∀ base : Heap, (K w.params).In base → base.Ns mainGlobals mg → FnG l.prog w (K w.params) mg base k fa fd [x] (sp w))
    (hsp : ∀ (w : World) (H : Hp) (a : Addr) (ns : List Int), ns.length ≤ n → Only H → SqL (K w.params) H a (ns.map V.int) → sp w [.ref a] H (fun v _ => v = .bl true) fun _ _ _ => False) :
    PySem.W.WalkO q loose XP YP l.row.toRowW d [] (fun f vs => PySem.call f vs) := by
  apply Att.attach_call hn hdf
  intro w s₀ s₁ mg mb fa o pm cd doc a vs ns G Y ho hd hcd hmg hobj hints hlen hg
  have KX := hY w _ Y
  obtain ⟨fd, hb, hF⟩ := F w mg fa _ KX G.T.g hmg
  exact law_callG KX G.T.g G.T.b G.T.builtins G.T.nolimit hg hobj hints (Nat.le_trans hlen hn2) hr hF hb fun H hO hS => hsp w H a ns hlen hO hS
end Dn

namespace Dn
open PySem PySem.Spec PyProof.Rows L2
open Evl (Ex)
/-! ### a list of one's own, lent to a call that tells a truth, a number or a text -/
@[simp] def scal : D → Bool
  | .none => true
  | .bool _ => true
  | .int _ => true
  | .str _ => true
  | _ => false
theorem scal_rp {K : PySem.W.Frag} {G G' : Hp} {v : V} {d : D} (h : scal d = true) (r : Rp K G v d) : Rp K G' v d := by
  cases r with
  | non => exact .non
  | bl b => exact .bl b
  | int i => exact .int i
  | str x => exact .str x
  | _ => cases h
/-- the first argument a name that holds an own list, and holds it still behind the call -/
def mCallL (mf : MF) (i : Nat) (ws : List D) (a : MA) : MX := fun ρ => match ρ[i]? with
  | some (.own _) => match a ρ with
    | none => none
    | some (xs, ρ1) => match ρ1[i]? with
      | some (.own ds) => match mf (.val (.list ds) :: (xs ++ ws.map Sl.val)) with
        | some (.val z, _) => if scal z = true then some (.val z, ρ1) else none
        | _ => none
      | _ => none
  | _ => none
section
variable {K : PySem.W.Frag} {G F H : Hp} {L : List Ent} {ds : List D} {p : Addr}
theorem RelL.give2 (R : RelL K G F ((.own ds, some (.ref p)) :: L) H) : ∃ vs, H p = some (.lst vs) ∧ G p = none ∧ F p = none ∧ RpA K G vs ds ∧ RelL K (upd G p (.lst vs)) F ((.val (.list ds), some (.ref p)) :: L) H := by
  obtain ⟨p', vs, h1, h2, h3, h4, h5⟩ := R.ok _ List.mem_cons_self
  obtain rfl : p = p' := V.ref.inj (Option.some.inj h1)
  have hp := List.pairwise_cons.mp R.ap
  have up1 : Ex G (upd G p (.lst vs)) := Ex.new h3
  refine ⟨vs, h2, h3, h4, h5, ⟨fun a o h => ?_, R.ef, fun a o h => ?_, fun e he => ?_, List.Pairwise.cons (fun _ _ => apart_val) hp.2⟩⟩
  · by_cases c : a = p
    · rw [c, upd_same] at h
      rw [c, h2, ← h]
    · rw [upd_ne c] at h
      exact R.eg a o h
  · rw [upd_ne (ne_of_none h h4)]
    exact R.gf a o h
  · rcases List.mem_cons.mp he with rfl | he
    · exact ⟨_, rfl, .lst (.inl (.inl upd_same)) (h5.up up1)⟩
    · have g := R.ok e (List.mem_cons_of_mem _ he)
      have na := hp.1 e he
      rcases e with ⟨s, ov⟩
      cases s with
      | un => exact True.intro
      | ex c => exact g.imp fun v w => ⟨w.1, up1 _ _ w.2⟩
      | val d => exact g.imp fun v w => ⟨w.1, w.2.up up1⟩
      | own es =>
        obtain ⟨q, ws, g1, g2, g3, g4, g5⟩ := g
        have nq : q ≠ p := fun z => na p own_own ⟨⟨es, rfl⟩, by rw [g1, z]⟩
        exact ⟨q, ws, g1, g2, by rw [upd_ne nq]; exact g3, g4, g5.up up1⟩
theorem hold_sub (R : RelL K G F L H) : ∀ a o, F a = some o → hold F L H a = some o := fun a o h => by
  by_cases c : ∃ e ∈ L, Own e a
  · obtain ⟨e, h1, h2⟩ := c
    have := (R.owned h1 h2).choose_spec.2.2
    rw [h] at this
    cases this
  · rw [hold_out c, h]
/-- what was lent comes back -/
theorem take_back {H2 G2 : Hp} {A : List Ent} {vs : List V} {v : V} {z : D} (R : RelL K G F ((.own ds, some (.ref p)) :: L) H) (hv : RpA K G vs ds) (hp0 : G p = none) (hpF : F p = none)
    (e2 : Ex (upd G p (.lst vs)) G2) (R2 : RelL K G2 (hold F L H) ((.val z, some v) :: A) H2) (hz : scal z = true) :
    ∃ G3, Ex G G3 ∧ RelL K G3 F ((.own ds, some (.ref p)) :: (.val z, some v) :: L) H2 := by
  have hc := List.pairwise_cons.mp R.ap
  have RL : RelL K G F L H := R.sub (List.sublist_cons_self _ _)
  have ex3 : Ex G (fun b => if b = p then none else G2 b) := fun b o h => by
    have nb : b ≠ p := fun c => by rw [c, hp0] at h; cases h
    show (if b = p then none else G2 b) = some o
    rw [if_neg nb]
    exact e2 b o (by rw [upd_ne nb]; exact h)
  have g3 : ∀ b, G2 b = none → (if b = p then none else G2 b) = none := fun b h => by
    by_cases c : b = p
    · exact if_pos c
    · rw [if_neg c]; exact h
  have base : RelL K (fun b => if b = p then none else G2 b) F L H2 := by
    refine ⟨fun b o h => ?_, fun b o h => R2.ef b o (hold_sub RL b o h), fun b o h => g3 b (R2.gf b o (hold_sub RL b o h)), fun e he => ?_, hc.2⟩
    · have h' : (if b = p then none else G2 b) = some o := h
      by_cases c : b = p
      · rw [if_pos c] at h'; cases h'
      · rw [if_neg c] at h'; exact R2.eg b o h'
    · have g := RL.ok e he
      rcases e with ⟨s, ov⟩
      cases s with
      | un => exact True.intro
      | ex c => exact g.imp fun v w => ⟨w.1, ex3 _ _ w.2⟩
      | val d => exact g.imp fun v w => ⟨w.1, w.2.up ex3⟩
      | own es =>
        obtain ⟨q, ws, g1, g2, g3', g4, g5⟩ := g
        subst g1
        have hh : hold F L H q = some (.lst ws) := by rw [hold_in he own_own]; exact g2
        exact ⟨q, ws, rfl, R2.ef q _ hh, g3 q (R2.gf q _ hh), g4, g5.up ex3⟩
  obtain ⟨v', hv1, hv2⟩ := R2.ok _ List.mem_cons_self
  have base2 := base.push (e := (.val z, some v)) ⟨v', hv1, scal_rp hz hv2⟩ fun _ _ => apart_val
  have h2p : H2 p = some (.lst vs) := R2.eg p _ (e2 p _ upd_same)
  refine ⟨_, ex3, base2.push ⟨p, vs, rfl, h2p, if_pos rfl, hpF, hv.up ex3⟩ fun e he => ?_⟩
  rcases List.mem_cons.mp he with rfl | he
  · exact apart.symm apart_val
  · exact hc.1 e he
end
section
variable {K : PySem.W.Frag} {X : Cx} {mf : MF} {ta : TA} {ma : MA} {E : XK}
theorem den_callL {i : Nat} (ha : DenA K ta ma) : Den K (tCall (spD K mf) [] E (tCons (tVar i) ta)) (mCallL mf i [] ma) := by
  intro G F T ρ σ H z ρ' Q R h q
  unfold mCallL at h
  split at h
  · rename_i ds0 hs0
    split at h
    · cases h
    · rename_i xs ρ1 e1
      split at h
      · rename_i ds hs
        split at h
        · rename_i z0 args' e2
          split at h
          · rename_i hz
            cases h
            obtain ⟨a, _, haσ, _, _⟩ := R.ownVar hs0
            refine ⟨_, haσ, ?_⟩
            refine ha G F T ρ σ H xs _ _ R e1 fun vs G1 H1 ex1 l1 R1 => ?_
            have Ro := R1.out hs haσ
            have RP : RelL K G1 F ((Sl.own ds, some (V.ref a)) :: (ents xs vs ++ (T ++ (ρ'.set i .un).zip σ))) H1 := by
              have := Ro.l
              simp only [List.cons_append, List.append_assoc] at this
              exact this
            obtain ⟨us, u1, u2, u3, u4, RG⟩ := RP.give2
            have RL : RelL K G1 F ((Sl.own ds, some (V.ref a)) :: (T ++ (ρ'.set i .un).zip σ)) H1 := RP.sub (List.Sublist.cons_cons _ (List.sublist_append_right _ _))
            have RA : RelL K (upd G1 a (.lst us)) F ((Sl.val (.list ds) :: xs).zip ((V.ref a :: vs).map some) ++ (T ++ (ρ'.set i .un).zip σ)) H1 := RG
            refine ⟨upd G1 a (.lst us), hold F (T ++ (ρ'.set i .un).zip σ) H1, .val (.list ds) :: xs, .val z0, args', ⟨by simp; omega, ?_⟩, by simpa using e2, fun v G2 H2 ex2 R2 => ?_⟩
            · have := call_in RA
              simpa using this
            · obtain ⟨G3, ex3, R3⟩ := take_back RL u4 u2 u3 ex2 R2.l hz
              have R4 : Rel K G3 F ((.own ds, some (V.ref a)) :: (.val z0, some v) :: T) (ρ'.set i .un) σ H2 := ⟨Ro.len, R3⟩
              have R6 := R4.back haσ
              have e6 : (ρ'.set i .un).set i (.own ds) = ρ' := by
                rw [List.set_set]
                have hi := (List.getElem?_eq_some_iff.mp hs)
                rw [← hi.2]
                exact List.set_getElem_self hi.1
              rw [e6] at R6
              exact q v G3 H2 (ex1.trans ex3) R6
          · cases h
        · cases h
      · cases h
  · cases h
theorem me_callL (i : Nat) {f : Addr} {fd : FuncData} {ps : List Str} {k : Nat} {es : List Expr} {x : Str} {p pos : Pos} {y : Str} {p1 : Pos} (Fk : FnOk X.prog X.w K X.mg X.base CX0 k f fd ps (spD K mf)) (hr : Room k X.A) (hg : Gl X x) (hm : X.mg x = some (.ref f)) (hk : PySem.W.keepIn K (.ref f) = true) (hb : Binds K fd ps [])
    (ha : MEA X K es ta ma) (hN : X.N[i]? = some y := by rfl) (hv : Vis X.env.scope y := by first | exact Or.inl rfl | exact Or.inr (Or.inl rfl) | exact Or.inr (Or.inr rfl)) (hyd : (y == ("__debug__" : Str)) = false := by decide)
    (hcd : (y == ("__classdict__" : Str)) = false := by decide) (hdb : (x == ("__debug__" : Str)) = false := by decide) (he : starEach (.Name y p1 :: es) X.env = (false, eval (.Name y p1) X.env) :: starEach es X.env := by rfl) (hpl : (backTo pos (starEach es X.env)).any (·.1) = false := by rfl) :
    ME X K (.Call (.Name x p) (.Name y p1 :: es) [] pos) (tCall (spD K mf) [] E0 (tCons (tVar i) ta)) (mCallL mf i [] ma) := by
  obtain rfl := ha.hK
  exact ⟨rfl, pe_call Fk hr hg hm hk hb .nil pass0 (pa_cons (pe_var hN hv hyd hcd) ha.pe he) hdb he hpl, den_callL ha.dn⟩
@[simp] theorem mCallL_ap (mf : MF) (i : Nat) (ws : List D) (a : MA) (ρ : List Sl) : mCallL mf i ws a ρ = (match ρ[i]? with
  | some (.own _) => match a ρ with
    | none => none
    | some (xs, ρ1) => match ρ1[i]? with
      | some (.own ds) => match mf (.val (.list ds) :: (xs ++ ws.map Sl.val)) with
        | some (.val z, _) => if scal z = true then some (.val z, ρ1) else none
        | _ => none
      | _ => none
  | _ => none) := rfl
end
end Dn

namespace Dn
open PySem PySem.Spec PyProof.Rows L2
open Evl (Ex)
/-! ### sorted of a tuple of numbers -/
section
variable {prog : Program} {w : World} {A : Around} {E : Value → Shared → Prop} {s : Shared}
abbrev coll (h : Heap) (vs : List Value) : Heap := (h.push (seqObj "list" #[] 0)).update h.objs.size (Obj.mapSeq (· ++ vs.toArray))
theorem collect_tup {l : Addr} {vs : List Value} {Q : List Value → Shared → Prop} (hl : IsTup s.heap l vs.toArray) (h : Q vs { s with heap := coll s.heap vs }) (hsz : vs.length ≤ sizeLine) : wpAny (model prog w) A (collect (.ref l)) Q E s := by
  obtain ⟨o, ho, hc, n, hd⟩ := hl
  unfold collect
  apply wpAny_bind
  apply wpAny_runValue
  apply codeAny_builtin entry_proto_collect'
  show wpAny _ _ (do again (.builtin "list.__iadd__" ⟨[← newList [], Value.ref l], []⟩)) _ _ s
  apply wpAny_bind
  refine wpAny_newList ?_ (Nat.zero_le _)
  refine wpAny_pure ⟨Code.quiet_builtin _ (by decide +kernel), ?_⟩
  apply codeAny_builtin entry_list_iadd'
  show wpAny _ _ (Builtin.List.listExtendWith (Value.ref s.heap.objs.size) (Value.ref l) (Value.ref s.heap.objs.size)) _ _ { s with heap := s.heap.push (seqObj "list" #[] 0) }
  unfold Builtin.List.listExtendWith
  have ho' : (s.heap.push (seqObj "list" #[] 0)).get? l = some o := Heap.get?_push_of_some _ ho
  apply wpAny_bind
  refine wpAny_typeOf (T := "tuple") ⟨o, ho', hc⟩ ?_
  have ht : (Value.type "tuple" == Value.type "tuple") = true := by rfl
  rw [if_pos (by rw [ht, Bool.or_true])]
  apply wpAny_bind
  apply listItems_at ho' hd
  apply wpAny_bind
  apply listItems_at (xs := #[]) (n := 0) (Heap.get?_push_size _ rfl) rfl
  rw [if_neg (by simp)]
  apply wpAny_bind
  refine listUpdate_at (xs := #[]) (n := 0) (Heap.get?_push_size _ rfl) rfl ?_ (Nat.zero_le _) (by rw [Array.size_append, List.size_toArray]; exact Nat.le_succ_of_le (by simpa using hsz))
  apply wpAny_pure
  show wpAny (model prog w) A (do
      let ob ← load s.heap.objs.size
      match ob.data with
      | .seq xs _ => pure xs.toList
      | _ => unsupported "internal:collect") Q E { s with heap := coll s.heap vs }
  apply wpAny_bind
  refine wpAny_load (get?_update_seq (Heap.get?_push_size _ rfl) _) ?_
  have e : ((#[] : Array Value) ++ vs.toArray).toList = vs := by simp
  show wpAny _ _ (pure ((#[] : Array Value) ++ vs.toArray).toList) Q E _
  rw [e]
  exact wpAny_pure h
open SrtO in
theorem sorted_tup {l : Addr} {vs : List Value} {ltv : Value → Value → Bool} {Q : Value → Shared → Prop} (O : Swo ltv) (hl : IsTup s.heap l vs.toArray) (hz : vs.length ≤ sizeLine)
    (hS : 2 ≤ vs.length → ∀ (h₁ : Heap) (a : Addr), SortableO prog w A.in1.in1 { s with heap := h₁ } a vs ltv)
    (h : ∀ out : List Value, Srtd ltv out → Stb ltv out vs → Q (.ref (s.heap.objs.size + 1)) { s with heap := sortedAll s.heap vs out.toArray }) : wpAny (model prog w) A (call (.builtin "sorted") [.ref l]) Q E s := by
  apply Calls.call_function_entry kind_sorted plain_sorted entry_sorted (args_sorted1 _)
  unfold Builtin.«sorted»
  apply wpAny_bind (m := checkCount "sorted" 1 1 _)
  apply wpAny_pure
  apply wpAny_bind
  refine collect_tup hl ?_ hz
  apply wpAny_bind
  refine wpAny_newList ?_ hz
  have hsz : (coll s.heap vs).objs.size = s.heap.objs.size + 1 := (Heap.size_update ..).trans (size_push' ..)
  have hoL : ((coll s.heap vs).push (seqObj "list" vs.toArray 0)).get? (s.heap.objs.size + 1) = some (seqObj "list" vs.toArray 0) := hsz ▸ Heap.get?_push_size _ rfl
  show wpAny _ _ _ _ _ { s with heap := (coll s.heap vs).push (seqObj "list" vs.toArray 0) }
  rw [hsz]
  apply wpAny_bind
  apply wpAny_holding
  refine wpAny_call_entry slot_list_sort ⟨_, hoL, rfl⟩ entry_list_sort (list_sort_ord O hoL hz (fun h2 => hS h2 _ _) fun out hs hb => ⟨_, rfl, ?_⟩) (args_list_sort _)
  exact wpAny_pure ⟨_, rfl, h out hs hb⟩
end
def rSortedIT (K : PySem.W.Frag) : List V → Hp → VK → Prop := fun vs H Q => ∃ (a : Addr) (ns : List Int), vs = [V.ref a] ∧ SqT K H a (ns.map V.int) ∧
  ∀ (ms : List Int) (p : Addr), ms.Perm ns → ms.Pairwise (· ≤ ·) → H p = none → Q (.ref p) (upd H p (.lst (ms.map V.int)))
theorem cr_sortedIT {X : Cx} : CallR X (.builtin "sorted") (rSortedIT X.K) := by
  intro pins s σ H vs us Q I r h
  obtain ⟨a, ns, rfl, hs, q⟩ := h
  obtain ⟨its, rv, hl, hz⟩ := I.tuple hs
  have hi := rv.ints
  have hz' : its.length ≤ sizeLine := rv.length ▸ hz
  rw [Vals.ref1 r]
  refine sorted_tup SrtO.swo_int hl hz' (fun h2 h₁ a' => SrtO.ints_sortable hi h2) ?_
  intro out h1 h2
  have ⟨k1, k2, k3⟩ := SrtO.ints_out hi h1 h2
  have ⟨ep, he'⟩ := sortedAll_at s.heap its out.toArray
  have hlen : ((out.map SrtO.iv).map V.int).length ≤ sizeLine := by
    have := k2.length_eq
    simp only [List.length_map] at hz this ⊢
    omega
  refine ⟨.ref _, _, I.laid (o := .lst ((out.map SrtO.iv).map V.int)) (t' := s.toks) (fun _ _ => sortedAll_old) (Nat.le_succ _) ⟨hlen, out, ep, vals_of_ints k1, he'⟩, rfl, ?_⟩
  exact q _ _ k2 k3 (I.hok.fresh (Nat.le_succ _))
@[simp] def fSortB : List Sl → Option Sl
  | [.val (.tuple ds)] => match intsOf ds with
    | some ns => some (.own ((sortI ns).map PyData.int))
    | none => none
  | xs => fSortA xs
def rSortB (K : PySem.W.Frag) : List V → Hp → VK → Prop := fun vs H Q => rSortedIT K vs H Q ∨ rSortA K vs H Q
theorem cr_sortB {X : Cx} : CallR X (.builtin "sorted") (rSortB X.K) := by
  intro pins s σ H vs us Q I r h
  rcases h with h | h
  · exact cr_sortedIT pins s σ H vs us Q I r h
  · exact cr_sortA pins s σ H vs us Q I r h
theorem tupI_of {K : PySem.W.Frag} {G H F : Hp} {v : V} {ns : List Int} (eg : Ex G H) (h : SlOk K G F H (.val (.tuple (ns.map PyData.int)), some v)) : ∃ a, v = .ref a ∧ SqT K H a (ns.map V.int) := by
  obtain ⟨a, xs, h1, h2, h3⟩ := tup_of eg h
  rw [RpA.ints h3] at h2
  exact ⟨a, h1, h2⟩
theorem fnS_sortB {K : PySem.W.Frag} : FnS K (rSortB K) fSortB := by
  intro G F T ρ σ H xs z vs Q hl R h q
  unfold fSortB at h
  split at h
  · obtain ⟨v, rfl⟩ := one_of hl rfl
    split at h
    · rename_i ns hn
      cases h
      have e := intsOf_eq hn
      subst e
      obtain ⟨a, rfl, s1⟩ := tupI_of R.l.eg R.fst
      refine .inl ⟨a, ns, rfl, s1, fun ms p hp hs hn => ?_⟩
      rw [sortI_uniq hp hs]
      exact q _ G _ (Ex.refl G) (R.drop.pushO hn RpA.ofInts)
    · cases h
  · exact .inr (fnS_sortA G F T ρ σ H _ z vs Q hl R h q)
end Dn

namespace Dn
open PySem PySem.Spec PyProof.Rows L2
open Evl (Ex)
/-! ### the one argument handed in by its name -/
section
variable {K : PySem.W.Frag} {X : Cx} {mf : MF} {f : Addr} {fd : FuncData} {k : Nat} {e : Expr} {x n : Str} {p pos kp : Pos} {te : TE} {me : MX} {sp : Sp}
def BindsK1 (fd : FuncData) (n : Str) : Prop := ∀ (s : Shared) (w : Value), BindsTo s fd ⟨[], [(n, w)]⟩ [(n, w)]
theorem pe_callK1 (F : FnOk X.prog X.w X.K X.mg X.base CX0 k f fd [n] sp) (hr : Room k X.A) (hg : Gl X x) (hm : X.mg x = some (.ref f)) (hk : PySem.W.keepIn X.K (.ref f) = true) (hb : BindsK1 fd n) (ha : PE X e te)
    (hdb : (x == ("__debug__" : Str)) = false) (hall : (backToKw pos (keywordEach [⟨some n, e, kp⟩] X.env)).all (·.1.isSome) = true) (hks : (backToKw pos (keywordEach [⟨some n, e, kp⟩] X.env)).filterMap (·.1) = [n])
    (hpl : ((backTo pos (starEach [] X.env)).any (·.1) || (backToKw pos (keywordEach [⟨some n, e, kp⟩] X.env)).any (·.1.isNone)) = false) :
    PE X (.Call (.Name x p) [] [⟨some n, e, kp⟩] pos) (tCall sp [] E0 (tCons te tNil)) := by
  constructor
  intro pins s σ H Q I h
  have hkw : PK X [⟨some n, e, kp⟩] (tCons te tNil) := pk_cons ha pk_nil
  apply wpAny_Call_Name_kw
  apply ld_glob I hg hm _ hdb
  refine PySem.W.callWith_KW0 (h₀ := X.base) I.ok.mod.kin hk hall (thn (hkw.run pos pins s σ H _ I h) ?_) hpl
  rintro ws s1 ⟨vs, H1, I1, rv, q⟩
  refine ⟨I1.kIn, ?_⟩
  rw [List.append_nil] at q
  have hl : ws.length = 1 := rv.length.symm.trans (F.len vs H1 _ _ q)
  match ws, hl with
  | [w], _ =>
    rw [hks]
    refine wpAny_call (codeAny_mono (F.run X.A X.stack s1 H1 ⟨[], [(n, w)]⟩ [w] vs _ _ hr I1.env0 (hb s1 w) rv q) ?_)
    intro r s' hq
    rcases r with er | fl
    · exact hq.elim
    · cases fl with
      | ret u => exact I1.after hq
      | _ => exact False.elim hq
theorem me_callK1 (Fk : FnOk X.prog X.w X.K X.mg X.base CX0 k f fd [n] (spD K mf)) (hr : Room k X.A) (hg : Gl X x) (hm : X.mg x = some (.ref f)) (hk : PySem.W.keepIn K (.ref f) = true) (hb : BindsK1 fd n)
    (ha : ME X K e te me) (hs : starEach [e] X.env = (false, eval e X.env) :: starEach [] X.env := by rfl) (hdb : (x == ("__debug__" : Str)) = false := by decide) (hall : (backToKw pos (keywordEach [⟨some n, e, kp⟩] X.env)).all (·.1.isSome) = true := by rfl) (hks : (backToKw pos (keywordEach [⟨some n, e, kp⟩] X.env)).filterMap (·.1) = [n] := by rfl)
    (hpl : ((backTo pos (starEach [] X.env)).any (·.1) || (backToKw pos (keywordEach [⟨some n, e, kp⟩] X.env)).any (·.1.isNone)) = false := by rfl) :
    ME X K (.Call (.Name x p) [] [⟨some n, e, kp⟩] pos) (tCall (spD K mf) [] E0 (tCons te tNil)) (mCall mf [] (mCons me mNil)) := by
  obtain rfl := ha.hK
  exact ⟨rfl, pe_callK1 Fk hr hg hm hk hb ha.pe hdb hall hks hpl, den_call .nil (mea_cons ha (mea_nil rfl) hs).dn⟩
theorem fun_bindsK1 {qual : Str} {st : Stmt} (F : Fun K x qual st f fd)
    (h : ∀ (kV doc pm : Value) (an : Option Addr) (cdv ct : Value) (w : Value), bindArgs (PySem.W.fnOf x qual (defArgs st) (defBody st) (defScope st) .none kV doc pm an cdv ct) ⟨[], [(n, w)]⟩ = pure [(n, w)]) : BindsK1 fd n := by
  obtain ⟨oc, od, kV, doc, pm, an, cdv, ct, osl, rfl, lk, hcd⟩ := F.ex
  exact fun s w => .of_eq (h kV doc pm an cdv ct w)
end
end Dn

namespace Dn
open PySem PySem.Spec PyProof.Rows L2
/-! ### a dict of the module's, texts by texts -/
/-- at d: a written dict that has these texts at these keys -/
def KTab (K : PySem.W.Frag) (w : World) (d : Addr) (kvs : List (Str × Str)) : Prop :=
  ∃ es n, KDict K w d es n ∧ ∀ q ∈ kvs, ∃ t, PySem.W.nsIn K d q.1 = some (some (.str q.2 t))
@[simp] def fKIn (kvs : List (Str × Str)) : Sl → Option Sl
  | .val (.str z) => if (kvs.find? fun q => q.1 == z).isSome = true then some (.val (.bool true)) else none
  | _ => none
@[simp] def fKIx (kvs : List (Str × Str)) : Sl → Option Sl
  | .val (.str z) => match kvs.find? fun q => q.1 == z with
    | some q => some (.val (.str q.2))
    | none => none
  | _ => none
section
variable {X : Cx} {K : PySem.W.Frag} {e : Expr} {te : TE} {me : MX} {d : Addr} {kvs : List (Str × Str)} {x : Str} {pos p : Pos} {G F H : Hp}
def rKIn (K : PySem.W.Frag) (d : Addr) : R2 := fun x y H Q => ∃ (z : Str) (r : Option Value), x = .str z ∧ y = .ref d ∧ PySem.W.nsIn K d z = some r ∧ Q (.bl r.isSome) H
theorem KTab.get {w : World} {z : Str} {q : Str × Str} (D : KTab K w d kvs) (h : (kvs.find? fun q => q.1 == z) = some q) : ∃ t, PySem.W.nsIn K d z = some (some (.str q.2 t)) := by
  obtain ⟨es, n, _, h2⟩ := D
  have e := List.find?_some h
  have e2 : q.1 = z := eq_of_beq e
  rw [← e2]
  exact h2 q (List.mem_of_find?_eq_some h)
theorem unS_kin {w : World} (D : KTab K w d kvs) : UnS K (fun v H Q => rKIn K d v (.ref d) H Q) (fKIn kvs) := by
  intro G F T ρ σ H x z v Q R h q
  unfold fKIn at h
  split at h
  · rename_i s
    split at h
    · rename_i hs
      cases h
      obtain rfl := str_of R.fst
      cases hf : kvs.find? fun q => q.1 == s with
      | none => rw [hf] at hs; cases hs
      | some kv =>
        obtain ⟨t, ht⟩ := D.get hf
        exact ⟨s, _, rfl, rfl, ht, q _ G H (fun _ _ h => h) (R.drop.pushV (.bl true))⟩
    · cases h
  · cases h
theorem unS_kix {w : World} (D : KTab K w d kvs) : UnS K (fun v H Q => rIxD K w (.ref d) v H Q) (fKIx kvs) := by
  intro G F T ρ σ H x z v Q R h q
  unfold fKIx at h
  split at h
  · rename_i s
    split at h
    · rename_i kv hf
      cases h
      obtain rfl := str_of R.fst
      obtain ⟨t, ht⟩ := D.get hf
      obtain ⟨es, n, D1, _⟩ := D
      exact ⟨d, s, .str kv.2, rfl, rfl, ⟨es, n, _, D1.at_, D1.lit, ht, ⟨t, rfl⟩⟩, q _ G H (fun _ _ h => h) (R.drop.pushV (.str kv.2))⟩
    · cases h
  · cases h
theorem me_kin (D : KTab K X.w d kvs) (hg : Gl X x) (hm : X.mg x = some (.ref d)) (ha : ME X K e te me) (hd : (x == ("__debug__" : Str)) = false := by decide) (hb : behindInMarks .In (.Name x p) = false := by rfl) : ME X K (.Compare e [.In] [.Name x p] pos) (tOp (rKIn K d) te (tC (.ref d))) (mUn (fKIn kvs) me) := by
  obtain rfl := ha.hK
  obtain ⟨es, n, D1, D2⟩ := id D
  exact ⟨rfl, pe_cmpR (op_in_kd D1) ha.pe (pe_glob hg hm rfl hd) hb, den_un (unS_kin D) ha.dn⟩
theorem me_kix (D : KTab K X.w d kvs) (hg : Gl X x) (hm : X.mg x = some (.ref d)) (ha : ME X K e te me) (hp : PlainIx e) (hd : (x == ("__debug__" : Str)) = false := by decide) : ME X K (.Subscript (.Name x p) e pos) (tOp (rIxD K X.w) (tC (.ref d)) te) (mUn (fKIx kvs) me) := by
  obtain rfl := ha.hK
  exact ⟨rfl, pe_ix ix_kdict (pe_glob hg hm rfl hd) ha.pe hp, den_un (unS_kix D) ha.dn⟩
/-- a whole number of the module's -/
theorem me_con {i : Int} (hg : Gl X x) (hm : ∃ tk, X.mg x = some (.int i tk)) (hK : X.K = K := by rfl) (hd : (x == ("__debug__" : Str)) = false := by decide) : ME X K (.Name x p) (tC (.int i)) (mC (.int i)) := by
  obtain rfl := hK
  obtain ⟨tk, hm⟩ := hm
  exact ⟨rfl, pe_glob hg hm ⟨tk, rfl⟩ hd, den_c fun _ => .int i⟩
theorem KTab.two {w : World} {k1 v1 k2 v2 : Str} {es : Array DictEntry} {n : Nat} {t1 t2 : Tok} (h : K.lookup d = some ⟨.type "dict", none, .dict es n, #[]⟩) (lit : PySem.W.KeysLit w.params es.toList) (low : (d == sysModules) = false)
    (h1 : PySem.W.nsIn K d k1 = some (some (.str v1 t1))) (h2 : PySem.W.nsIn K d k2 = some (some (.str v2 t2))) : KTab K w d [(k1, v1), (k2, v2)] := ⟨es, n, ⟨h, lit, low⟩, fun q hq => by
  simp only [List.mem_cons, List.not_mem_nil, or_false] at hq
  rcases hq with rfl | rfl
  · exact ⟨t1, h1⟩
  · exact ⟨t2, h2⟩⟩
end
end Dn

namespace Dn
open PySem PySem.Spec PyProof.Rows L2
/-! ### a text times an int -/
def repS (z : Str) (k : Int) : Str := ⟨(List.replicate k.toNat z.cps.toList).flatten.toArray⟩
def rRepS : R2 := fun x y H Q => ∃ z k, x = .str z ∧ y = .int k ∧ -(2 ^ 63) ≤ k ∧ k < 2 ^ 63 ∧ z.length * k.toNat ≤ sizeLine ∧ Q (.str (repS z k)) H
theorem foldl_arr (a : Array Nat) : ∀ (n : Nat) (acc : List Nat), List.foldl (fun x y => x ++ y) acc.toArray (List.replicate n a) = (acc ++ (List.replicate n a.toList).flatten).toArray
  | 0, acc => by simp
  | n + 1, acc => by
    rw [List.replicate_succ, List.replicate_succ, List.foldl_cons, List.flatten_cons, ← List.append_assoc]
    have e : acc.toArray ++ a = (acc ++ a.toList).toArray := by simp
    rw [e]
    exact foldl_arr a n (acc ++ a.toList)
theorem repS_len (z : Str) (k : Int) : (repS z k).length = z.length * k.toNat := by
  unfold repS
  show (List.replicate k.toNat z.cps.toList).flatten.toArray.size = z.cps.size * k.toNat
  simp [Nat.mul_comm]
theorem op_repS {X : Cx} : OpR X (binaryOp .Mult) rRepS := by
  intro pins s σ H x y v u Q I rx ry h
  obtain ⟨z, k, rfl, rfl, h1, h2, hz, q⟩ := h
  obtain ⟨t, rfl⟩ := rx
  obtain ⟨t', rfl⟩ := ry
  have hl := repS_len z k
  refine PySem.P.mul_str (by
      have a1 : ¬ k < -(2 ^ 63) := by omega
      have a2 : ¬ k ≥ 2 ^ 63 := by omega
      rw [decide_eq_false a1, decide_eq_false a2]; rfl) (fun c1 c2 => ?_) (fun c1 c2 => ?_) ?_
  · have e : k = (k.toNat : Int) := by omega
    have hk : 0 < k := by omega
    intro hc
    have h3 : ((z.length : Int)) * k ≤ (sizeLine : Nat) := by
      rw [e]
      exact_mod_cast hz
    have h4 : (2 ^ 63 - 1) / k < (z.length : Int) := hc
    rw [Int.ediv_lt_iff_lt_mul hk] at h4
    have h5 : ((sizeLine : Nat) : Int) ≤ 2 ^ 63 - 1 := by decide
    omega
  · show decide _ = false
    apply decide_eq_false
    have : sizeLine = 16777216 := by decide
    omega
  · by_cases c1 : k < 1
    · have e : repS z k = Str.empty := by
        unfold repS
        rw [show k.toNat = 0 by omega]
        rfl
      rw [if_pos c1]
      rw [e] at q
      exact ⟨by decide, .str Str.empty, H, I.tok _, ⟨_, rfl⟩, q⟩
    · rw [if_neg c1]
      by_cases c2 : (k == 1 || z.length == 0) = true
      · rw [if_pos c2]
        have e : repS z k = z := by
          unfold repS
          rcases (Bool.or_eq_true _ _).mp c2 with c | c
          · have : k = 1 := eq_of_beq c
            subst this
            simp
          · have hz0 : z.cps.size = 0 := eq_of_beq c
            have : z.cps = #[] := Array.eq_empty_of_size_eq_zero hz0
            obtain ⟨cps⟩ := z
            simp only at this
            subst this
            simp
        rw [e] at q
        exact ⟨.str z, H, I, ⟨t, rfl⟩, q⟩
      · rw [if_neg c2]
        have e : (⟨(List.replicate k.toNat z.cps).foldl (· ++ ·) #[]⟩ : Str) = repS z k := by
          unfold repS
          have := foldl_arr z.cps k.toNat []
          simp only [List.nil_append] at this
          exact congrArg Str.mk this
        rw [e]
        exact ⟨by rw [hl]; exact hz, .str (repS z k), H, I.tok _, ⟨_, rfl⟩, q⟩
@[simp] def fMulS (x y : Sl) : Option Sl := match x, y with
  | .val (.str z), .val (.int k) => if -(2 ^ 63) ≤ k ∧ k < 2 ^ 63 ∧ z.length * k.toNat ≤ sizeLine then some (.val (.str (repS z k))) else none
  | _, _ => none
section
variable {X : Cx} {K : PySem.W.Frag} {a b : Expr} {ta tb : TE} {ma mb : MX} {pos : Pos}
theorem opS_mulS : OpS K rRepS fMulS := by
  intro G F T ρ σ H x y z v w Q R h q
  unfold fMulS at h
  split at h
  · rename_i s k
    split at h
    · rename_i hc
      cases h
      obtain rfl := int_of R.fst
      obtain rfl := str_of R.snd
      exact ⟨s, k, rfl, rfl, hc.1, hc.2.1, hc.2.2, q _ G H (fun _ _ h => h) (R.drop.drop.pushV (.str _))⟩
    · cases h
  · cases h
theorem me_mulS (ha : ME X K a ta ma) (hb : ME X K b tb mb) : ME X K (.BinOp a .Mult b pos) (tOp rRepS ta tb) (mBin fMulS ma mb) := me_bin opS_mulS op_repS ha hb
end
/-! ### x[::-1] of a text -/
def revS (z : Str) : Str := ⟨z.cps.toList.reverse.toArray⟩
theorem revS_len (z : Str) : (revS z).length = z.length := by
  show z.cps.toList.reverse.toArray.size = z.cps.size
  simp
def tRevS (te : TE) : TE := fun σ H Q => te σ H fun x H1 => ∃ z, x = .str z ∧ z.length ≤ sizeLine ∧ Q (.str (revS z)) H1
theorem made_rev (x : Str) (t u : Tok) : sliceMade x t none none (some (-1, u)) = .str (revS x) := by
  unfold sliceMade
  have hc : ((((some ((-1 : Int), u)).map (·.1)).getD 1 == 1) && ((slicePicked x none none (some (-1, u))).length == x.length)) = false := rfl
  rw [hc]
  show Made.str _ = _
  congr 1
  unfold slicePicked revS
  have e := picked_rev x.length
  show (⟨((Builtin.Str.strSliceIndices none none (-1) x.length).filterMap (x.cps[·]?)).toArray⟩ : Str) = _
  rw [e, filterMap_get _ _ (fun i hi => by
    obtain ⟨k, hk, rfl⟩ := List.mem_map.mp hi
    have := List.mem_range.mp hk
    show x.length - 1 - k < x.length
    omega)]
  congr 2
  apply List.ext_getElem
  · simp
    rfl
  · intro i h1 h2
    simp only [List.length_map, List.length_range] at h1
    have hi : x.length - 1 - i < x.cps.size := by show x.length - 1 - i < x.length; omega
    simp only [List.getElem_map, List.getElem_range, List.getElem_reverse, Array.getElem_toList]
    rw [Array.getD_eq_getD_getElem?, Array.getElem?_eq_getElem hi]
    rfl
section
variable {X : Cx} {K : PySem.W.Frag} {e : Expr} {te : TE} {me : MX}
theorem pe_revS {k : Nat} {p1 p2 p3 pos : Pos} (he : PE X e te) : PE X (.Subscript e (.Slice none none (some (.UnaryOp .USub (.Constant (.int 1) k p1) p2)) p3) pos) (tRevS te) := by
  refine ⟨fun pins s σ H Q I h => ?_⟩
  refine Subscript_ (thn (he.run pins s σ H _ I h) fun v s1 ⟨x, H1, I1, r1, q1⟩ => ?_)
  obtain ⟨z, ex, hz, q⟩ := q1
  subst ex
  obtain ⟨t, rfl⟩ := r1
  have hst : PO X (some (.UnaryOp .USub (.Constant (.int 1) k p1) p2)) (tPart (tUn (rU fun i => .int (-i)) (tC (.int 1)))) := po_some (pe_un un_neg pe_int)
  refine wpAny_Slice (thn (po_none.run pins s1 σ H1 (fun o H2 => o = none ∧ H2 = H1) I1 ⟨rfl, rfl⟩) fun vl s2 ⟨l, H2, I2, pl, el, e2⟩ => ?_)
  subst el e2
  refine thn (po_none.run pins s2 σ H2 (fun o H3 => o = none ∧ H3 = H2) I2 ⟨rfl, rfl⟩) fun vu s3 ⟨u, H3, I3, pu, eu, e3⟩ => ?_
  subst eu e3
  refine thn (hst.run pins s3 σ H3 (fun o H4 => o = some (-1) ∧ H4 = H3) I3 ⟨1, rfl, -1, rfl, rfl, rfl⟩) fun vs s4 ⟨o, H4, I4, ps, eo, e4⟩ => ?_
  subst eo e4
  have I5 : Inv X pins σ H4 { s4 with heap := s4.heap.push { cls := .type "slice", data := .fields #[vl, vu, vs] } } := I4.kept (t' := s4.toks) fun b ob q => Heap.get?_push_of_some _ q
  obtain ⟨l, rfl, hl⟩ := IsPart.raw pl
  obtain ⟨u, rfl, hu⟩ := IsPart.raw pu
  obtain ⟨w, rfl, hw⟩ := IsPart.raw ps
  have hl0 : l = none := by cases l with
    | none => rfl
    | some a => cases hl
  have hu0 : u = none := by cases u with
    | none => rfl
    | some a => cases hu
  subst hl0 hu0
  obtain ⟨tk, rfl⟩ : ∃ tk, w = some (-1, tk) := by
    cases w with
    | none => cases hw
    | some a =>
      obtain ⟨i, tk⟩ := a
      have : i = (-1 : Int) := Option.some.inj hw
      exact ⟨tk, by rw [this]⟩
  show wpAny (model X.prog X.w) X.A (subscriptTail e (.Slice none none (some (.UnaryOp .USub (.Constant (.int 1) k p1) p2)) p3) (.str z t) (.ref s4.heap.objs.size)) (EP X pins σ Q) X.xe { s4 with heap := s4.heap.push { cls := .type "slice", data := .fields #[partValue none, partValue none, partValue (some (-1, tk))] } }
  refine tail_any (ops := [.str z t, .ref s4.heap.objs.size]) (typeIs_str _ _ _) F.slot_str_getitem.lookup ?_ (by with_unfolding_all rfl)
  refine wpAny_getItem_str_slice (l := none) (u := none) (st := some (-1, tk)) ⟨_, Heap.get?_push_size _ rfl, rfl, rfl⟩ rfl ?_
  rw [made_rev]
  exact ⟨by rw [revS_len]; exact hz, .str _, _, I5.tok _, ⟨_, rfl⟩, q⟩
@[simp] def fRevStr (x : Sl) : Option Sl := match x with
  | .val (.str z) => if z.length ≤ sizeLine then some (.val (.str (revS z))) else none
  | _ => none
theorem den_revS (ha : Den K te me) : Den K (tRevS te) (mUn fRevStr me) := by
  intro G F T ρ σ H z ρ' Q R h q
  unfold mUn at h
  cases h1 : me ρ with
  | none => rw [h1] at h; cases h
  | some p1 =>
    obtain ⟨x, ρ1⟩ := p1
    simp only [h1] at h
    cases h2 : fRevStr x with
    | none => rw [h2] at h; cases h
    | some z1 =>
      rw [h2] at h
      cases h
      refine ha G F T ρ σ H x _ _ R h1 fun v G1 H1 ex1 R1 => ?_
      unfold fRevStr at h2
      split at h2
      · rename_i s
        split at h2
        · rename_i hc
          cases h2
          obtain rfl := str_of R1.fst
          exact ⟨s, rfl, hc, q _ G1 H1 ex1 (R1.drop.pushV (.str _))⟩
        · cases h2
      · cases h2
theorem me_revS {k : Nat} {p1 p2 p3 pos : Pos} (he : ME X K e te me) : ME X K (.Subscript e (.Slice none none (some (.UnaryOp .USub (.Constant (.int 1) k p1) p2)) p3) pos) (tRevS te) (mUn fRevStr me) := by
  obtain rfl := he.hK
  exact ⟨rfl, pe_revS he.pe, den_revS he.dn⟩
end
end Dn

namespace Dn
open PySem PySem.Spec PyProof.Rows L2
open Evl (Ex)
/-! ### one value and two by their names -/
section
variable {K : PySem.W.Frag} {X : Cx} {mf : MF} {f : Addr} {fd : FuncData} {k : Nat} {e e1 e2 : Expr} {x n n1 n2 : Str} {p pos kp1 kp2 : Pos} {te t1 t2 : TE} {me m1 m2 : MX} {sp : Sp}
def BindsK12 (fd : FuncData) (n n1 n2 : Str) : Prop := ∀ (s : Shared) (u w1 w2 : Value), BindsTo s fd ⟨[u], [(n1, w1), (n2, w2)]⟩ [(n, u), (n1, w1), (n2, w2)]
theorem pe_callK12 (F : FnOk X.prog X.w X.K X.mg X.base CX0 k f fd [n, n1, n2] sp) (hr : Room k X.A) (hg : Gl X x) (hm : X.mg x = some (.ref f)) (hk : PySem.W.keepIn X.K (.ref f) = true) (hb : BindsK12 fd n n1 n2) (ha : PE X e te) (h1 : PE X e1 t1) (h2 : PE X e2 t2)
    (hdb : (x == ("__debug__" : Str)) = false) (hall : (backToKw pos (keywordEach [⟨some n1, e1, kp1⟩, ⟨some n2, e2, kp2⟩] X.env)).all (·.1.isSome) = true) (hks : (backToKw pos (keywordEach [⟨some n1, e1, kp1⟩, ⟨some n2, e2, kp2⟩] X.env)).filterMap (·.1) = [n1, n2])
    (he : starEach [e] X.env = (false, eval e X.env) :: starEach [] X.env)
    (hpl : ((backTo pos (starEach [e] X.env)).any (·.1) || (backToKw pos (keywordEach [⟨some n1, e1, kp1⟩, ⟨some n2, e2, kp2⟩] X.env)).any (·.1.isNone)) = false) :
    PE X (.Call (.Name x p) [e] [⟨some n1, e1, kp1⟩, ⟨some n2, e2, kp2⟩] pos) (tCall sp [] E0 (tCons te (tCons t1 (tCons t2 tNil)))) := by
  constructor
  intro pins s σ H Q I h
  have h' : te σ H fun x H1 => t1 σ H1 fun y H2 => t2 σ H2 fun z H3 => sp [x, y, z] H3 Q E0 := h
  refine wpAny_Call_Name_kw (ld_glob I hg hm ?_ hdb)
  have go : wpAny (model X.prog X.w) X.A (spliced (backTo pos (starEach [e] X.env))) (fun vs s₁ => wpAny (model X.prog X.w) X.A (evalAll ((backToKw pos (keywordEach [⟨some n1, e1, kp1⟩, ⟨some n2, e2, kp2⟩] X.env)).map (·.2)))
      (fun ks s₂ => X.K.In s₂.heap ∧ wpAny (model X.prog X.w) X.A (call (.ref f) ([] ++ vs) (((backToKw pos (keywordEach [⟨some n1, e1, kp1⟩, ⟨some n2, e2, kp2⟩] X.env)).filterMap (·.1)).zip ks)) (EP X pins σ Q) X.xe s₂) X.xe s₁) X.xe s := by
    rw [he]
    show wpAny _ _ (spliced ((false, eval e X.env) :: backTo pos (starEach [] X.env))) _ _ s
    refine Calls.spliced_cons (thn (ha.run pins s σ H _ I h') fun u s1 ⟨x, H1, I1, r1, q1⟩ => ?_)
    refine Calls.spliced_nil ?_
    show wpAny _ _ (evalAll [(do let v ← eval e1 X.env; standAt pos; pure v), (do let v ← eval e2 X.env; standAt pos; pure v)]) _ _ s1
    refine wpAny_evalAll_cons (wpAny_bind (thn (h1.run pins s1 σ H1 _ I1 q1) fun w1 s2 ⟨y, H2, I2, r2, q2⟩ => wpAny_bind (wpAny_standAt (wpAny_pure ?_))))
    refine wpAny_evalAll_cons (wpAny_bind (thn (h2.run pins s2 σ H2 _ I2 q2) fun w2 s3 ⟨z, H3, I3, r3, q3⟩ => wpAny_bind (wpAny_standAt (wpAny_pure ?_))))
    refine wpAny_evalAll_nil ⟨I3.kIn, ?_⟩
    rw [hks]
    refine wpAny_call (codeAny_mono (F.run X.A X.stack s3 H3 ⟨[u], [(n1, w1), (n2, w2)]⟩ [u, w1, w2] [x, y, z] _ _ hr I3.env0 (hb s3 u w1 w2) (.cons r1 (.cons r2 (.cons r3 .nil))) q3) ?_)
    intro r s' hq
    rcases r with er | fl
    · exact hq.elim
    · cases fl with
      | ret u => exact I3.after hq
      | _ => exact False.elim hq
  exact PySem.W.callWith_KW (h₀ := X.base) I.ok.mod.kin hk hall go hpl he
theorem me_callK12 (Fk : FnOk X.prog X.w X.K X.mg X.base CX0 k f fd [n, n1, n2] (spD K mf)) (hr : Room k X.A) (hg : Gl X x) (hm : X.mg x = some (.ref f)) (hk : PySem.W.keepIn K (.ref f) = true) (hb : BindsK12 fd n n1 n2)
    (ha : ME X K e te me) (h1 : ME X K e1 t1 m1) (h2 : ME X K e2 t2 m2) (hs : starEach [e, e1, e2] X.env = (false, eval e X.env) :: starEach [e1, e2] X.env := by rfl) (hs1 : starEach [e1, e2] X.env = (false, eval e1 X.env) :: starEach [e2] X.env := by rfl) (hs2 : starEach [e2] X.env = (false, eval e2 X.env) :: starEach [] X.env := by rfl)
    (hdb : (x == ("__debug__" : Str)) = false := by decide) (hall : (backToKw pos (keywordEach [⟨some n1, e1, kp1⟩, ⟨some n2, e2, kp2⟩] X.env)).all (·.1.isSome) = true := by rfl) (hks : (backToKw pos (keywordEach [⟨some n1, e1, kp1⟩, ⟨some n2, e2, kp2⟩] X.env)).filterMap (·.1) = [n1, n2] := by rfl)
    (he : starEach [e] X.env = (false, eval e X.env) :: starEach [] X.env := by rfl)
    (hpl : ((backTo pos (starEach [e] X.env)).any (·.1) || (backToKw pos (keywordEach [⟨some n1, e1, kp1⟩, ⟨some n2, e2, kp2⟩] X.env)).any (·.1.isNone)) = false := by rfl) :
    ME X K (.Call (.Name x p) [e] [⟨some n1, e1, kp1⟩, ⟨some n2, e2, kp2⟩] pos) (tCall (spD K mf) [] E0 (tCons te (tCons t1 (tCons t2 tNil)))) (mCall mf [] (mCons me (mCons m1 (mCons m2 mNil)))) := by
  obtain rfl := ha.hK
  exact ⟨rfl, pe_callK12 Fk hr hg hm hk hb ha.pe h1.pe h2.pe hdb hall hks he hpl, den_call .nil (mea_cons ha (mea_cons h1 (mea_cons h2 (mea_nil rfl) hs2) hs1) hs).dn⟩
theorem fun_bindsK12 {qual : Str} {st : Stmt} (F : Fun K x qual st f fd)
    (h : ∀ (kV doc pm : Value) (an : Option Addr) (cdv ct : Value) (u w1 w2 : Value), bindArgs (PySem.W.fnOf x qual (defArgs st) (defBody st) (defScope st) .none kV doc pm an cdv ct) ⟨[u], [(n1, w1), (n2, w2)]⟩ = pure [(n, u), (n1, w1), (n2, w2)]) : BindsK12 fd n n1 n2 := by
  obtain ⟨oc, od, kV, doc, pm, an, cdv, ct, osl, rfl, lk, hcd⟩ := F.ex
  exact fun s u w1 w2 => .of_eq (h kV doc pm an cdv ct u w1 w2)
end
/-! ### a written dict of texts, of a text its text -/
section
variable {K : PySem.W.Frag} {X : Cx} {e e1 e2 : Expr} {pos : Pos} {te t1 t2 : TE} {me m1 m2 : MX} {G F H : Hp}
def dDic (kvs : List (Str × Str)) : D := .dict (kvs.map fun q => (.str q.1, .str q.2))
theorem me_dic2 {k1 v1 k2 v2 : Str} {a b c d : Nat} {p1 p2 p3 p4 : Pos} (hne : k1 ≠ k2) (hK : X.K = K := by rfl) :
    ME X K (.Dict [some (.Constant (.str k1) a p1), some (.Constant (.str k2) b p2)] [.Constant (.str v1) c p3, .Constant (.str v2) d p4] pos) (tDisp [(tC (.str k1), tC (.str v1)), (tC (.str k2), tC (.str v2))]) (mC (dDic [(k1, v1), (k2, v2)])) := by
  obtain rfl := hK
  refine ⟨rfl, pe_disp (pps_cons pe_str pe_str (pps_cons pe_str pe_str pps_nil)) rfl rfl (by simp) (by simp), ?_⟩
  intro G F T ρ σ H z ρ' Q R h q
  cases h
  intro p hp
  refine ⟨upd_same .., [(Sum.inr k1, .str v1), (Sum.inr k2, .str v2)], rfl, by simp, ?_⟩
  have e : mergeK [] [(Sum.inr k1, V.str v1), (Sum.inr k2, V.str v2)] = [(Sum.inr k1, V.str v1), (Sum.inr k2, V.str v2)] := by
    have h2 : ¬ ((Sum.inr k1 : Key) = Sum.inr k2) := fun h => hne (Sum.inr.inj h)
    simp [mergeK, putK, h2]
  rw [e]
  have e2 : upd (upd H p (HO.dK [])) p (HO.dK [(Sum.inr k1, V.str v1), (Sum.inr k2, V.str v2)]) = upd H p (HO.dK [(Sum.inr k1, V.str v1), (Sum.inr k2, V.str v2)]) := by
    funext a
    unfold upd
    split <;> rfl
  rw [e2]
  refine q _ (upd G p (HO.dK [(Sum.inr k1, V.str v1), (Sum.inr k2, V.str v2)])) _ (exg R hp) ⟨R.len, (R.l.grow hp).pushVal ?_⟩
  exact .dic [(k1, v1), (k2, v2)] (upd_same ..)
def keyIs (z : Str) (q : D × D) : Bool := match q.1 with
  | .str k => k == z
  | _ => false
@[simp] def fDix (x y : Sl) : Option Sl := match x, y with
  | .val (.dict ds), .val (.str z) => match ds.find? (keyIs z) with
    | some (_, .str v) => some (.val (.str v))
    | _ => none
  | _, _ => none
theorem units1 {n c : Nat} (h : n + 64 < c) : n + 1 < c := by omega
def rDG : R2 := fun x y H Q => ∃ a v, x = .ref a ∧ DGet H a y (some v) ∧ Q v H
theorem find_dic (kvs : List (Str × Str)) (z : Str) : ((kvs.map fun q => ((PyData.str q.1, PyData.str q.2) : D × D)).find? (keyIs z)) = (kvs.find? fun q => q.1 == z).map fun q => (PyData.str q.1, PyData.str q.2) := by
  induction kvs with
  | nil => rfl
  | cons q kvs ih =>
    simp only [List.map_cons, List.find?_cons]
    have e : keyIs z (PyData.str q.1, PyData.str q.2) = (q.1 == z) := rfl
    rw [e]
    cases h : q.1 == z
    · exact ih
    · rfl
theorem valV_dic (kvs : List (Str × Str)) (z : Str) : valV (kvs.map fun q => ((Sum.inr q.1, V.str q.2) : Key × V)) (Sum.inr z) = (kvs.find? fun q => q.1 == z).map fun q => V.str q.2 := by
  unfold valV
  induction kvs with
  | nil => rfl
  | cons q kvs ih =>
    simp only [List.map_cons, List.find?_cons]
    by_cases h : q.1 = z
    · simp [h]
    · have h2 : ¬ ((Sum.inr q.1 : Key) = Sum.inr z) := fun e => h (Sum.inr.inj e)
      have h3 : (q.1 == z) = false := beq_false_of_ne h
      simp only [h3, decide_eq_false h2]
      exact ih
theorem opS_dix : OpS K rDG fDix := by
  intro G F T ρ σ H x y z v w Q R h q
  unfold fDix at h
  split at h
  · rename_i ds s
    have ho := str_of R.fst
    have hx := R.snd
    obtain ⟨v', hv, hr⟩ : ∃ v', some v = some v' ∧ Rp K G v' (.dict ds) := hx
    obtain rfl := Option.some.inj hv
    subst ho
    cases hr with
    | @dic a kvs hH =>
      rw [find_dic] at h
      cases hf : kvs.find? fun q => q.1 == s with
      | none => rw [hf] at h; cases h
      | some kv =>
        rw [hf] at h
        cases h
        refine ⟨a, .str kv.2, rfl, ?_, q _ G H (fun _ _ h => h) (R.drop.drop.pushV (.str _))⟩
        have := DGet.k (k := Sum.inr s) (R.l.eg _ _ hH)
        rw [valV_dic, hf] at this
        exact this
  · cases h
theorem me_dix (hu : X.A.units + 1 < cLine) (ha : ME X K e1 t1 m1) (hb : ME X K e2 t2 m2) (hs : NoSl e2) : ME X K (.Subscript e1 e2 pos) (tOp rDG t1 t2) (mBin fDix m1 m2) := by
  obtain rfl := ha.hK
  exact ⟨rfl, pe_dget hu ha.pe hb.pe hs, den_bin opS_dix ha.dn hb.dn⟩
/-! ### sorted of one text or two -/
@[simp] def fSortS : List Sl → Option Sl
  | [s] => match (lstOf s).bind strsOf with
    | some [] => some (.own [])
    | some [a] => some (.own [.str a])
    | some [a, b] => if (sortedS [a, b] && !sortedS [b, a]) = true then some (.own [.str a, .str b]) else if (sortedS [b, a] && !sortedS [a, b]) = true then some (.own [.str b, .str a]) else none
    | _ => none
  | _ => none
theorem perm_two {α : Type} {ys : List α} {a b : α} (h : ys.Perm [a, b]) : ys = [a, b] ∨ ys = [b, a] := by
  have hl := h.length_eq
  match ys, hl with
  | [c, d], _ =>
    by_cases e : c = a
    · subst e
      have := (List.perm_cons c).mp h
      rw [List.perm_singleton.mp this]
      exact .inl rfl
    · have hm : c ∈ [a, b] := h.mem_iff.mp List.mem_cons_self
      have hc : c = b := by
        rcases List.mem_cons.mp hm with h | h
        · exact absurd h e
        · exact List.mem_singleton.mp h
      subst hc
      have h2 : [c, d].Perm [c, a] := h.trans (List.Perm.swap _ _ _)
      have := (List.perm_cons c).mp h2
      rw [List.perm_singleton.mp this]
      exact .inr rfl
theorem fnS_sortS : FnS K (rSortedS K) fSortS := by
  intro G F T ρ σ H xs z vs Q hl R h q
  unfold fSortS at h
  split at h
  · rename_i s
    match vs, hl with
    | [v], _ =>
      cases e1 : lstOf s with
      | none => rw [e1] at h; cases h
      | some ds =>
        rw [e1] at h
        cases e2 : strsOf ds with
        | none => simp only [Option.bind, e2] at h; cases h
        | some ts =>
          simp only [Option.bind, e2] at h
          obtain ⟨a, us, rfl, hs, hr⟩ := lst_of R.l.eg e1 R.fst
          have hu : us = ts.map V.str := by
            have e5 := strsOf_eq e2
            rw [e5] at hr
            exact hr.strs
          subst hu
          have fin : ∀ ws : List Str, z = .own (ws.map PyData.str) → ts.length < 64 → (∀ ys : List Str, ys.Perm ts → sortedS ys = true → ys = ws) → rSortedS K [.ref a] H Q := by
            intro ws hz h64 hu
            refine ⟨a, ts, rfl, hs, h64, fun ys p hp hso hn => ?_⟩
            obtain rfl := hu ys hp hso
            subst hz
            have R0 : Rel K G F T ρ σ H := R.drop
            exact q _ G _ (fun _ _ h => h) (R0.pushO hn RpA.ofStrs)
          match ts, h with
          | [], h => cases h; exact fin [] rfl (by simp) fun ys hp _ => List.perm_nil.mp hp
          | [x], h => cases h; exact fin [x] rfl (by simp) fun ys hp _ => List.perm_singleton.mp hp
          | [x, y], h =>
            simp only [] at h
            split at h
            · rename_i hc
              cases h
              refine fin [x, y] rfl (by simp) fun ys hp hso => ?_
              rcases perm_two hp with rfl | rfl
              · rfl
              · simp [hso] at hc
            · split at h
              · rename_i hc
                cases h
                refine fin [y, x] rfl (by simp) fun ys hp hso => ?_
                rcases perm_two hp with rfl | rfl
                · simp [hso] at hc
                · rfl
              · cases h
          | _ :: _ :: _ :: _, h => cases h
  · cases h
end
end Dn

namespace Dn
open PySem PySem.Spec PyProof.Rows L2
open Evl (Ex)
/-! ### repr of anything told here: of an empty dict, of None, truths, numbers, texts too -/
section
variable {K : PySem.W.Frag} {X : Cx} {G F H : Hp} {pos : Pos}
theorem me_dic0 (hK : X.K = K := by rfl) : ME X K (.Dict [] [] pos) tDNewK (mC (dDic [])) := by
  obtain rfl := hK
  refine ⟨rfl, pe_dnewK, ?_⟩
  intro G F T ρ σ H z ρ' Q R h q
  cases h
  intro p hp
  exact q _ (upd G p (HO.dK [])) _ (exg R hp) ⟨R.len, (R.l.grow hp).pushVal (.dic [] upd_same)⟩
def fReprX : List Sl → Option Sl
  | [.val .none] => some (.val (.str "None"))
  | [.val (.bool b)] => some (.val (.str (if b then "True" else "False")))
  | [.val (.int i)] => if i.natAbs.log2 < 1920 then some (.val (.str (toString i : String))) else none
  | [.val (.str x)] => if (reprText x).length ≤ sizeLine then some (.val (.str (reprText x))) else none
  | [.val (.dict [])] => some (.val (.str (PyData.shown (.dict []))))
  | xs => fRepr xs
inductive RpX (H : Hp) : V → Str → Prop
  | non : RpX H .non "None"
  | bl (b : Bool) : RpX H (.bl b) (if b then "True" else "False")
  | int {i : Int} : i.natAbs.log2 < 1920 → RpX H (.int i) (toString i : String)
  | str {x : Str} : (reprText x).length ≤ sizeLine → RpX H (.str x) (reprText x)
  | dic {a : Addr} : H a = some (.dK []) → RpX H (.ref a) (PyData.shown (.dict []))
def rReprX (K : PySem.W.Frag) : List V → Hp → VK → Prop := fun vs H Q => rRepr K vs H Q ∨ ∃ v t, vs = [v] ∧ RpX H v t ∧ Q (.str t) H
theorem call_reprX {k : Nat} (hg : X.A.guards = some []) (hr : Room k X.A) : CallR X (.builtin "repr") (rReprX X.K) := by
  intro pins s σ H xs us Q I rv h
  rcases h with h | ⟨v, t, rfl, hx, q⟩
  · exact call_reprA hg hr pins s σ H xs us Q I rv h
  · cases rv with
    | cons r1 r2 =>
      rename_i u ut
      cases r2
      cases hx with
      | non =>
        cases (show u = Value.none from r1)
        exact PySem.P.repr_of_none ⟨.str "None", H, I.tok _, ⟨_, rfl⟩, q⟩
      | bl b =>
        cases (show u = Value.bool b from r1)
        exact PySem.P.repr_of_bool ⟨.str _, H, I.tok _, ⟨_, rfl⟩, q⟩
      | int hi =>
        obtain ⟨t, rfl⟩ := (show ∃ t, u = Value.int _ t from r1)
        exact PySem.P.repr_of_int hi ⟨.str _, H, I.tok _, ⟨_, rfl⟩, q⟩
      | str hx =>
        obtain ⟨t, rfl⟩ := (show ∃ t, u = Value.str _ t from r1)
        exact PySem.P.repr_of_str ⟨.str _, H, I.tok _, ⟨_, rfl⟩, q⟩ hx
      | @dic a ha =>
        obtain rfl : u = Value.ref a := r1
        obtain ⟨z, hd, vs, rel, dd⟩ := dk_of I.hok ha
        cases rel
        obtain ⟨o, es, ep, h1, h2, h3, h4, h5, h6⟩ := dd
        have he : es.toList = [] := by
          cases h : es.toList with
          | nil => rfl
          | cons e l => rw [h] at h5; cases h5
        have rd : Reads s.heap (.ref a) (.dict []) (a :: [] ++ []) := by
          refine Reads.dict (kvs := []) h1 h2.1 h3 ?_ ?_
          · rw [he]; exact .nil
          · rw [he]; exact .nil
        have hne : sysModules ∉ (a :: [] ++ [] : List Addr) := by
          simp only [List.cons_append, List.nil_append, List.mem_singleton]
          intro e
          rw [← e] at hd
          simp at hd
        refine repr_of_reads' rd rfl (fun _ => hne) hg (by have := hr.un; simp [PyData.depth, PyData.depthKv]; omega) (fun b o e => e) (fun h' u tk hk' => ?_) (by decide)
        exact ⟨.str _, H, I.kept hk', ⟨_, rfl⟩, q⟩
theorem fnS_reprX : FnS K (rReprX K) fReprX := by
  intro G F T ρ σ H xs z vs Q hl R h q
  unfold fReprX at h
  split at h
  · obtain ⟨v, rfl⟩ := one_of hl rfl
    cases h
    obtain rfl := non_of R.fst
    exact .inr ⟨_, _, rfl, .non, q _ G H (fun _ _ h => h) (R.drop.pushV (.str _))⟩
  · obtain ⟨v, rfl⟩ := one_of hl rfl
    cases h
    obtain rfl := bool_of R.fst
    exact .inr ⟨_, _, rfl, .bl _, q _ G H (fun _ _ h => h) (R.drop.pushV (.str _))⟩
  · obtain ⟨v, rfl⟩ := one_of hl rfl
    split at h
    · rename_i hc
      cases h
      obtain rfl := int_of R.fst
      exact .inr ⟨_, _, rfl, .int hc, q _ G H (fun _ _ h => h) (R.drop.pushV (.str _))⟩
    · cases h
  · obtain ⟨v, rfl⟩ := one_of hl rfl
    split at h
    · rename_i hc
      cases h
      obtain rfl := str_of R.fst
      exact .inr ⟨_, _, rfl, .str hc, q _ G H (fun _ _ h => h) (R.drop.pushV (.str _))⟩
    · cases h
  · obtain ⟨v, rfl⟩ := one_of hl rfl
    cases h
    obtain ⟨v', hv, hr⟩ : ∃ v', some v = some v' ∧ Rp K G v' (.dict []) := R.fst
    obtain rfl := Option.some.inj hv
    generalize hd : PyData.dict [] = d at hr
    cases hr with
    | @dic a kvs hH =>
      have : kvs = [] := by
        cases kvs with
        | nil => rfl
        | cons p l => cases hd
      subst this
      exact .inr ⟨_, _, rfl, .dic (R.l.eg _ _ hH), q _ G H (fun _ _ h => h) (R.drop.pushV (.str _))⟩
    | _ => cases hd
  · exact .inl (fnS_repr G F T ρ σ H _ z vs Q hl R h q)
end
end Dn

namespace Dn
open PySem PySem.Spec PyProof.Rows L2
open Evl (Ex)
/-! ### defs that tell a tuple of two new lists -/
def Fresh (K : PySem.W.Frag) (G G' : Hp) (r : Sl) (v : V) : Prop := ∃ (t p1 p2 : Addr) (vs1 vs2 : List V) (a b : List D), r = .val (.tuple [.list a, .list b]) ∧ v = .ref t ∧ G' t = some (.tup [.ref p1, .ref p2]) ∧ G' p1 = some (.lst vs1) ∧ RpA K G' vs1 a ∧ G' p2 = some (.lst vs2) ∧ RpA K G' vs2 b ∧ G p1 = none ∧ G p2 = none ∧ p1 ≠ p2
theorem Fresh.down {K : PySem.W.Frag} {G G1 G' : Hp} {r : Sl} {v : V} (h : Fresh K G1 G' r v) (e : Ex G G1) : Fresh K G G' r v := by
  obtain ⟨t, p1, p2, vs1, vs2, a, b, h1, h2, h3, h4, h5, h6, h7, h8, h9, h10⟩ := h
  exact ⟨t, p1, p2, vs1, vs2, a, b, h1, h2, h3, h4, h5, h6, h7, free_of e h8, free_of e h9, h10⟩
def PostF (K : PySem.W.Frag) (kp : Nat → Bool) (G F : Hp) (σ : L2.St) (D : Ends) : Out → Prop
  | .nx ρ' => ∀ G' σ' H', Ex G G' → Kept kp σ σ' → Rel K G' F [] ρ' σ' H' → D.nx σ' H'
  | .rt r ρ' => ∀ v G' σ' H', Ex G G' → Kept kp σ σ' → Rel K G' F [(r, some v)] ρ' σ' H' → Fresh K G G' r v → D.rt v H'
  | .bk ρ' => ∀ G' σ' H', Ex G G' → Kept kp σ σ' → Rel K G' F [] ρ' σ' H' → D.bk σ' H'
  | .ct ρ' => ∀ G' σ' H', Ex G G' → Kept kp σ σ' → Rel K G' F [] ρ' σ' H' → D.ct σ' H'
theorem PostF.up {K : PySem.W.Frag} {kp : Nat → Bool} {G G1 F : Hp} {σ σ1 : L2.St} {D : Ends} {o : Out} (h : PostF K kp G F σ D o) (e : Ex G G1) (k : Kept kp σ σ1) : PostF K kp G1 F σ1 D o := by
  cases o with
  | nx ρ => exact fun G' σ' H' e' k' R => h G' σ' H' (e.trans e') (k.trans k') R
  | rt r ρ => exact fun v G' σ' H' e' k' R f => h v G' σ' H' (e.trans e') (k.trans k') R (f.down e)
  | bk ρ => exact fun G' σ' H' e' k' R => h G' σ' H' (e.trans e') (k.trans k') R
  | ct ρ => exact fun G' σ' H' e' k' R => h G' σ' H' (e.trans e') (k.trans k') R
def DenSF (K : PySem.W.Frag) (kp : Nat → Bool) (t : TS) (m : MS) : Prop := ∀ (G F : Hp) (ρ : List Sl) (σ : L2.St) (H : Hp) (D : Ends) (o : Out), Rel K G F [] ρ σ H → m ρ = some o → PostF K kp G F σ D o → t D σ H
structure MStF (X : Cx) (kp : Nat → Bool) (st : Stmt) (t : TS) (m : MS) : Prop where
  pe : PS X st t
  dn : DenSF X.K kp t m
structure MSsF (X : Cx) (kp : Nat → Bool) (st : List Stmt) (t : TS) (m : MS) : Prop where
  pe : PSs X st t
  dn : DenSF X.K kp t m
def NoRt (m : MS) : Prop := ∀ ρ r ρ', m ρ ≠ some (.rt r ρ')
section
variable {X : Cx} {kp : Nat → Bool} {st : Stmt} {rest : List Stmt} {t u : TS} {m m' : MS} {K : PySem.W.Frag} {pos : Pos}
theorem msF_plain (h : MSt X kp st t m) (hn : NoRt m) : MStF X kp st t m := ⟨h.pe, by
  intro G F ρ σ H D o R hm q
  refine h.dn G F ρ σ H D o R hm ?_
  cases o with
  | nx ρ' => exact q
  | rt r ρ' => exact absurd hm (hn _ _ _)
  | bk ρ' => exact q
  | ct ρ' => exact q⟩
theorem mssF_cons (h1 : MStF X kp st t m) (h2 : MSsF X kp rest u m') : MSsF X kp (st :: rest) (tSeq t u) (mSeq m m') := ⟨pss_cons h1.pe h2.pe, by
  intro G F ρ σ H D o R h q
  unfold mSeq at h
  cases e1 : m ρ with
  | none => rw [e1] at h; cases h
  | some o1 =>
    cases o1 with
    | nx ρ1 =>
      rw [e1] at h
      exact h1.dn G F ρ σ H _ (.nx ρ1) R e1 fun G' σ' H' ex k R' => h2.dn G' F ρ1 σ' H' D o R' h (q.up ex k)
    | rt r ρ1 => rw [e1] at h; cases h; exact h1.dn G F ρ σ H _ _ R e1 q
    | bk ρ1 => rw [e1] at h; cases h; exact h1.dn G F ρ σ H _ _ R e1 q
    | ct ρ1 => rw [e1] at h; cases h; exact h1.dn G F ρ σ H _ _ R e1 q⟩
theorem mssF_one (h1 : MStF X kp st t m) : MSsF X kp [st] t m := ⟨pss_one h1.pe, h1.dn⟩
theorem mssF_nil : MSsF X kp [] tNext mNext := ⟨pss_nil, by
  intro G F ρ σ H D o R h q
  cases h
  exact q G σ H (fun _ _ h => h) (Kept.refl kp σ) R⟩
theorem msF_if {c : Expr} {body els : List Stmt} {tc : TT} {mc : MT} (hc : MET X X.K c tc mc) (h1 : MSsF X kp body t m) (h2 : MSsF X kp els u m') : MStF X kp (.If c body els pos) (tIfS tc t u) (mIfS mc m m') := ⟨ps_if hc.pe h1.pe h2.pe, by
  intro G F ρ σ H D o R h q
  unfold mIfS at h
  cases e1 : mc ρ with
  | none => rw [e1] at h; cases h
  | some p =>
    obtain ⟨k, ρ1⟩ := p
    simp only [e1] at h
    refine hc.dn G F [] ρ σ H k ρ1 _ R e1 fun G1 H1 ex1 R1 => ?_
    cases k with
    | true =>
      rw [if_pos rfl] at h ⊢
      exact h1.dn G1 F ρ1 σ H1 D o R1 h (q.up ex1 (Kept.refl kp σ))
    | false =>
      rw [if_neg Bool.false_ne_true] at h ⊢
      exact h2.dn G1 F ρ1 σ H1 D o R1 h (q.up ex1 (Kept.refl kp σ))⟩
def mRetT2 (a b : MX) : MS := fun ρ => match a ρ with
  | some (.own x, ρ1) => match b ρ1 with
    | some (.own y, ρ2) => some (.rt (.val (.tuple [.list x, .list y])) ρ2)
    | _ => none
  | _ => none
theorem msF_ret2 {e1 e2 : Expr} {t1 t2 : TE} {m1 m2 : MX} {kk : Nat} {tpos : Pos} (h1 : ME X X.K e1 t1 m1) (h2 : ME X X.K e2 t2 m2) (hs : starEach [e1, e2] X.env = (false, eval e1 X.env) :: starEach [e2] X.env := by rfl) (hs2 : starEach [e2] X.env = (false, eval e2 X.env) :: starEach [] X.env := by rfl) :
    MStF X kp (.Return (some (.Tuple [e1, e2] kk tpos)) pos) (tRet (tTup (tCons t1 (tCons t2 tNil)))) (mRetT2 m1 m2) := ⟨ps_ret (pe_tup (pa_cons h1.pe (pa_cons h2.pe pa_nil hs2) hs)), by
  intro G F ρ σ H D o R h q
  unfold mRetT2 at h
  split at h
  · rename_i x ρ1 q1
    split at h
    · rename_i y ρ2 q2
      cases h
      refine h1.dn G F [] ρ σ H _ ρ1 _ R q1 fun v1 G1 H1 ex1 R1 => ?_
      refine h2.dn G1 F _ ρ1 σ H1 _ ρ2 _ R1 q2 fun v2 G2 H2 ex2 R2 => ?_
      refine ⟨by show 2 ≤ sizeLine; decide, fun p hp => ?_⟩
      obtain ⟨p2, vs2, g1, g2, g3, g4, g5⟩ := R2.l.ok _ List.mem_cons_self
      obtain ⟨p1, vs1, f1, f2, f3, f4, f5⟩ := R2.l.ok _ (List.mem_cons_of_mem _ List.mem_cons_self)
      have hv2 : v2 = .ref p2 := Option.some.inj g1
      have hv1 : v1 = .ref p1 := Option.some.inj f1
      subst hv1 hv2
      have hne : p1 ≠ p2 := fun e => by
        subst e
        exact (List.pairwise_cons.mp R2.l.ap).1 _ List.mem_cons_self p1 own_own own_own
      have n1 : p1 ≠ p := ne_of_none f2 hp
      have n2 : p2 ≠ p := ne_of_none g2 hp
      have R3 := R2.l.grow (o := .tup [.ref p1, .ref p2]) hp
      obtain ⟨ws2, b1, b2, b3, b4, R4⟩ := RelL.give2 R3
      have R4' := R4.perm (List.Perm.swap _ _ _)
      obtain ⟨ws1, c1, c2, c3, c4, R5⟩ := RelL.give2 R4'
      have exA : Ex (upd G2 p (.tup [.ref p1, .ref p2])) (upd (upd G2 p (.tup [.ref p1, .ref p2])) p2 (.lst ws2)) := Ex.new b2
      have exB : Ex (upd (upd G2 p (.tup [.ref p1, .ref p2])) p2 (.lst ws2)) (upd (upd (upd G2 p (.tup [.ref p1, .ref p2])) p2 (.lst ws2)) p1 (.lst ws1)) := Ex.new c2
      have exP : Ex G2 (upd G2 p (.tup [.ref p1, .ref p2])) := Ex.new (free_of R2.l.eg hp)
      generalize hG5 : upd (upd (upd G2 p (.tup [.ref p1, .ref p2])) p2 (.lst ws2)) p1 (.lst ws1) = G5 at R5 exB
      have gp : G5 p = some (.tup [.ref p1, .ref p2]) := exB _ _ (exA _ _ upd_same)
      have gp2 : G5 p2 = some (.lst ws2) := exB _ _ upd_same
      have gp1 : G5 p1 = some (.lst ws1) := by rw [← hG5]; exact upd_same
      have r1 : RpA X.K G5 ws1 x := c4.up exB
      have r2 : RpA X.K G5 ws2 y := b4.up (exA.trans exB)
      have hT : Rp X.K G5 (.ref p) (.tuple [.list x, .list y]) := .tup gp (.cons (.lst (SqL.of gp1) r1) (.cons (.lst (SqL.of gp2) r2) .nil))
      have exG : Ex G G2 := ex1.trans ex2
      have exF : Ex G G5 := exG.trans (exP.trans (exA.trans exB))
      have RF := (R5.sub ((List.sublist_cons_self _ _).trans (List.sublist_cons_self _ _))).pushVal hT
      exact q (.ref p) G5 σ _ exF (Kept.refl kp σ) ⟨R2.len, RF⟩ ⟨p, p1, p2, ws1, ws2, x, y, rfl, rfl, gp, gp1, r1, gp2, r2, free_of exG f3, free_of exG g3, hne⟩
    · cases h
  · cases h⟩
end
def spF (K : PySem.W.Frag) (mf : MF) : Sp := fun vs H Q _ => ∃ G F args r args', Rel K G F [] args (vs.map some) H ∧ mf args = some (r, args') ∧ ∀ v G' H', Ex G G' → Rel K G' F [(r, some v)] args' (vs.map some) H' → Fresh K G G' r v → Q v H'
theorem spF_of {K : PySem.W.Frag} {mf : MF} {vs : List V} {H : Hp} {Q : VK} {E : XK} (h : spD K mf vs H Q E) : spF K mf vs H Q E := by
  obtain ⟨G, F, args, r, args', R, e, q⟩ := h
  exact ⟨G, F, args, r, args', R, e, fun v G' H' ex R' _ => q v G' H' ex R'⟩
section
variable {K : PySem.W.Frag} {X : Cx} {mf : MF} {f : Addr} {fd : FuncData} {ps : List Str} {k : Nat} {e : Expr} {es : List Expr} {x : Str} {p pos pos2 : Pos} {t ta : TA} {m ma : MA} {kp : Nat → Bool}
theorem fn_weak {P : Program} {w : World} {mg : Str → Option Value} {base : Heap} (F : FnOk P w K mg base CX0 k f fd ps (spF K mf)) : FnOk P w K mg base CX0 k f fd ps (spD K mf) :=
  ⟨fun vs H Q E h => F.len vs H Q E (spF_of h), fun A outer s H args us vs Q E a b c d h => F.run A outer s H args us vs Q E a b c d (spF_of h)⟩
theorem den_callF (ha : DenA K ta ma) {G F : Hp} {T : List Ent} {ρ : List Sl} {σ : L2.St} {H : Hp} {r : Sl} {ρ' : List Sl} {Q : VK} (R : Rel K G F T ρ σ H) (h : mCall mf [] ma ρ = some (r, ρ'))
    (q : ∀ v G' H' G1, Ex G G1 → Ex G1 G' → Rel K G' F ((r, some v) :: T) ρ' σ H' → Fresh K G1 G' r v → Q v H') : tCall (spF K mf) [] E0 ta σ H Q := by
  unfold mCall at h
  cases e1 : ma ρ with
  | none => rw [e1] at h; cases h
  | some p =>
    obtain ⟨xs, ρ1⟩ := p
    simp only [e1, List.map_nil, List.append_nil] at h
    cases e2 : mf xs with
    | none => simp only [e2] at h; cases h
    | some p2 =>
      obtain ⟨r0, args'⟩ := p2
      simp only [e2] at h
      cases h
      refine ha G F T ρ σ H xs ρ' _ R e1 fun vs G1 H1 ex1 l1 R1 => ?_
      have RA : RelL K G1 F (xs.zip (vs.map some) ++ (T ++ ρ'.zip σ)) H1 := by
        have := R1.l
        simp only [ents, List.append_assoc] at this
        exact this
      have RL : RelL K G1 F (T ++ ρ'.zip σ) H1 := RA.sub (List.sublist_append_right _ _)
      show spF K mf (vs ++ []) H1 Q E0
      rw [List.append_nil]
      refine ⟨G1, hold F (T ++ ρ'.zip σ) H1, xs, r, args', ⟨by rw [List.length_map]; exact l1, call_in RA⟩, e2, fun v G2 H2 ex2 R2 fr => ?_⟩
      have R3 := call_out RL ex2 R2.l
      refine q v G2 H2 G1 ex1 ex2 ⟨R1.len, ?_⟩ fr
      refine R3.sub ?_
      show ((r, some v) :: (T ++ ρ'.zip σ)).Sublist ((r, some v) :: (args'.zip _ ++ (T ++ ρ'.zip σ)))
      exact List.Sublist.cons_cons _ (List.sublist_append_right _ _)
theorem msF_retCall (Fk : FnOk X.prog X.w X.K X.mg X.base CX0 k f fd ps (spF X.K mf)) (hr : Room k X.A) (hg : Gl X x) (hm : X.mg x = some (.ref f)) (hk : PySem.W.keepIn X.K (.ref f) = true) (hb : Binds X.K fd ps [])
    (ha : MEA X X.K (e :: es) t m) (hdb : (x == ("__debug__" : Str)) = false := by decide) (he : starEach (e :: es) X.env = (false, eval e X.env) :: starEach es X.env := by rfl) (hpl : (backTo pos (starEach es X.env)).any (·.1) = false := by rfl) :
    MStF X kp (.Return (some (.Call (.Name x p) (e :: es) [] pos)) pos2) (tRet (tCall (spF X.K mf) [] E0 t)) (mRet (mCall mf [] m)) := ⟨ps_ret (pe_call Fk hr hg hm hk hb .nil pass0 ha.pe hdb he hpl), by
  intro G F ρ σ H D o R h q
  unfold mRet at h
  cases e1 : mCall mf [] m ρ with
  | none => rw [e1] at h; cases h
  | some p1 =>
    obtain ⟨r, ρ1⟩ := p1
    simp only [e1] at h
    cases h
    exact den_callF ha.dn R e1 fun v G' H' G1 ex1 ex2 R' fr => q v G' σ H' (ex1.trans ex2) (Kept.refl kp σ) R' (fr.down ex1)⟩
end
def mDefF (np nl : Nat) (kp : Nat → Bool) (mb : MS) : MF := fun args => if args.length = np then match mb (args ++ List.replicate (nl - np) .un) with
    | some (.rt r ρ') => some (r, outA kp np ρ')
    | _ => none
  else none
theorem fn_okF {P : Program} {w : World} {K : PySem.W.Frag} {mg : Str → Option Value} {base : Heap} {x qual : Str} {st : Stmt} {f : Addr} {fd : FuncData} {N ps : List Str} {k : Nat} {kp : Nat → Bool} {mb : MS} (Fn : Fun K x qual st f fd) (S : FnScope N ps (defScope st)) (hnp : ps.length ≤ N.length)
    (hb : ∀ (cdv : Value) (A : Around) (outer : List Env) (s : Shared) (H : Hp) (E : XK), Room k (A.deeper (envOfC qual (defScope st) s.heap.objs.size f cdv)) →
      ∃ t, MSsF (cxOf CX0 P w K mg base N qual (defScope st) f cdv A outer s H E).nox kp (defBody st) t mb) : FnOk P w K mg base CX0 (k + 1) f fd ps (spF K (mDefF ps.length N.length kp mb)) := by
  refine Fn.ok S (fun vs H Q E h => ?_) (fun cdv A outer s H vs Q E hr h => ?_)
  · obtain ⟨G, F, args, r, args', R, e, _⟩ := h
    have l := R.len
    rw [List.length_map] at l
    unfold mDefF at e
    split at e
    · rename_i hl
      rw [← l]
      exact hl
    · cases e
  · obtain ⟨G, F, args, r, args', R, e, q⟩ := h
    obtain ⟨t, M⟩ := hb cdv A outer s H E hr
    refine ⟨t, M.pe, ?_⟩
    have l := R.len
    rw [List.length_map] at l
    unfold mDefF at e
    split at e
    · rename_i hl
      have hvl : vs.length = ps.length := by rw [← l]; exact hl
      have R0 : Rel K G F [] (args ++ List.replicate (N.length - ps.length) Sl.un) (L2.start N vs) H := by
        rw [← hvl]
        exact start_rel R
      have fin : ∀ (r : Sl) (ρ' : List Sl) (v : V) (G' : Hp) (σ' : L2.St) (H' : Hp), Ex G G' → Kept kp (L2.start N vs) σ' → Rel K G' F [(r, some v)] ρ' σ' H' → Rel K G' F [(r, some v)] (outA kp ps.length ρ') (vs.map some) H' := by
        intro r ρ' v G' σ' H' ex kk R'
        refine ⟨by rw [outA_len, List.length_map, hvl], ?_⟩
        rw [← hvl]
        have hl0 : σ'.length ≥ vs.length := by
          rw [kk.1]
          unfold L2.start
          simp
        refine out_rel vs kp ρ' σ' [(r, some v)] (fun j u hj hkj => ?_) (by rw [R'.len]; exact hl0) R'.len R'.l
        rw [kk.2 j hkj]
        unfold L2.start
        have hjl : j < vs.length := (List.getElem?_eq_some_iff.mp hj).1
        rw [List.getElem?_append_left (by rw [List.length_map]; exact hjl), List.getElem?_map, hj]
        rfl
      split at e
      · rename_i r0 ρ' eb
        cases e
        exact M.dn G F _ _ H _ _ R0 eb fun v G' σ' H' ex kk R' fr => q v G' H' ex (fin _ ρ' v G' σ' H' ex kk R') fr
      · cases e
    · cases e
/-! ### what is new is taken apart -/
theorem thin {K : PySem.W.Frag} {G G3 : Hp} {p1 p2 : Addr} {w1 w2 : List V} (h1 : G p1 = some (.lst w1)) (h2 : G p2 = some (.lst w2)) (hG : ∀ b, b ≠ p1 → b ≠ p2 → G3 b = G b) : ∀ {vs : List V} {r : List (Int × Int)}, RpA K G vs (r.map pairD) → RpA K G3 vs (r.map pairD)
  | _, [], h => by cases h; exact .nil
  | _, p :: r, h => by
    cases h with
    | cons a b =>
      refine .cons ?_ (thin h1 h2 hG b)
      cases a with
      | @tup a xs ds ht ha =>
        have n1 : a ≠ p1 := fun e => by rw [e, h1] at ht; cases ht
        have n2 : a ≠ p2 := fun e => by rw [e, h2] at ht; cases ht
        refine .tup (by rw [hG a n1 n2]; exact ht) ?_
        cases ha with
        | cons c d =>
          cases c
          cases d with
          | cons c2 d2 =>
            cases c2
            cases d2
            exact .cons (.int _) (.cons (.int _) .nil)
theorem own2_of {K : PySem.W.Frag} {G F H G2 H2 : Hp} {L A : List Ent} {r : Sl} {v : V} {a b : List (Int × Int)} (RL : RelL K G F L H) (ex : Ex G G2) (R2 : RelL K G2 (hold F L H) A H2) (fr : Fresh K G G2 r v) (hr : r = .val (.tuple [.list (a.map pairD), .list (b.map pairD)])) :
    ∃ (t p1 p2 : Addr) (G3 : Hp), v = .ref t ∧ Ex G G3 ∧ G3 t = some (.tup [.ref p1, .ref p2]) ∧ RelL K G3 F ((.own (a.map pairD), some (.ref p1)) :: (.own (b.map pairD), some (.ref p2)) :: L) H2 := by
  obtain ⟨t, p1, p2, w1, w2, a', b', h1, h2, ht, hp1, ha, hp2, hb, n1, n2, hne⟩ := fr
  rw [h1] at hr
  cases hr
  have ex3 : Ex G (fun x => if x = p1 then none else if x = p2 then none else G2 x) := fun c o h => by
    have c1 : c ≠ p1 := fun e => by rw [e, n1] at h; cases h
    have c2 : c ≠ p2 := fun e => by rw [e, n2] at h; cases h
    show (if c = p1 then none else if c = p2 then none else G2 c) = some o
    rw [if_neg c1, if_neg c2]
    exact ex c o h
  have hG : ∀ c, c ≠ p1 → c ≠ p2 → (fun x => if x = p1 then none else if x = p2 then none else G2 x) c = G2 c := fun c c1 c2 => by
    show (if c = p1 then none else if c = p2 then none else G2 c) = G2 c
    rw [if_neg c1, if_neg c2]
  have g3 : ∀ c, G2 c = none → (fun x => if x = p1 then none else if x = p2 then none else G2 x) c = none := fun c h => by
    show (if c = p1 then none else if c = p2 then none else G2 c) = none
    split
    · rfl
    · split
      · rfl
      · exact h
  have t1 : t ≠ p1 := fun e => by rw [e, hp1] at ht; cases ht
  have t2 : t ≠ p2 := fun e => by rw [e, hp2] at ht; cases ht
  have notheld : ∀ p, G2 p ≠ none → hold F L H p = none := fun p hp => by
    cases c : hold F L H p with
    | none => rfl
    | some o => exact absurd (R2.gf p o c) hp
  have k1 := notheld p1 (by rw [hp1]; exact fun z => by cases z)
  have k2 := notheld p2 (by rw [hp2]; exact fun z => by cases z)
  have f1 : F p1 = none := by
    cases c : F p1 with
    | none => rfl
    | some o => have := hold_sub RL p1 o c; rw [k1] at this; cases this
  have f2 : F p2 = none := by
    cases c : F p2 with
    | none => rfl
    | some o => have := hold_sub RL p2 o c; rw [k2] at this; cases this
  refine ⟨t, p1, p2, fun x => if x = p1 then none else if x = p2 then none else G2 x, h2, ex3, by rw [hG t t1 t2]; exact ht, ?_⟩
  have base : RelL K (fun x => if x = p1 then none else if x = p2 then none else G2 x) F L H2 := by
    refine ⟨fun c o h => ?_, fun c o h => R2.ef c o (hold_sub RL c o h), fun c o h => g3 c (R2.gf c o (hold_sub RL c o h)), fun e he => ?_, RL.ap⟩
    · have h' : (if c = p1 then none else if c = p2 then none else G2 c) = some o := h
      split at h'
      · cases h'
      · split at h'
        · cases h'
        · exact R2.eg c o h'
    · have g := RL.ok e he
      rcases e with ⟨s, ov⟩
      cases s with
      | un => exact True.intro
      | ex c => exact g.imp fun v w => ⟨w.1, ex3 _ _ w.2⟩
      | val d => exact g.imp fun v w => ⟨w.1, w.2.up ex3⟩
      | own es =>
        obtain ⟨q, ws, g1, g2, g3', g4, g5⟩ := g
        subst g1
        have hh : hold F L H q = some (.lst ws) := by rw [hold_in he own_own]; exact g2
        exact ⟨q, ws, rfl, R2.ef q _ hh, g3 q (R2.gf q _ hh), g4, g5.up ex3⟩
  have notown : ∀ p, hold F L H p = none → ∀ e ∈ L, ¬ Own e p := fun p hp e he ho => by
    obtain ⟨ws, g1, _⟩ := RL.owned he ho
    rw [hold_in he ho, g1] at hp
    cases hp
  have B2 := base.push (e := (.own (b.map pairD), some (.ref p2))) ⟨p2, w2, rfl, R2.eg p2 _ hp2, by show (if p2 = p1 then none else if p2 = p2 then none else G2 p2) = none; split <;> simp, f2, thin hp1 hp2 hG hb⟩ fun e he q ho ho' => by
    have hq := Own.eq ho
    subst hq
    exact notown q k2 e he ho'
  refine B2.push (e := (.own (a.map pairD), some (.ref p1))) ⟨p1, w1, rfl, R2.eg p1 _ hp1, by show (if p1 = p1 then none else if p1 = p2 then none else G2 p1) = none; simp, f1, thin hp1 hp2 hG ha⟩ fun e he q ho ho' => ?_
  have hq := Own.eq ho
  subst hq
  rcases List.mem_cons.mp he with rfl | he
  · exact hne (Own.eq ho')
  · exact notown q k1 e he ho'
end Dn

namespace Dn
open PySem PySem.Spec PyProof.Rows L2
open Evl (Ex)
/-! ### told rows, looked at and changed -/
section
variable {K : PySem.W.Frag} {G F H : Hp} {L T : List Ent} {ρ : List Sl} {σ : L2.St} {p p1 p2 t : Addr} {ds A B : List D}
/-- ours, set aside among the callers' own -/
theorem RelL.park (R : RelL K G F ((.own ds, some (.ref p)) :: L) H) : ∃ vs, H p = some (.lst vs) ∧ RpA K G vs ds ∧ G p = none ∧ F p = none ∧ RelL K G (upd F p (.lst vs)) L H := by
  obtain ⟨p', vs, h1, h2, h3, h4, h5⟩ := R.ok _ List.mem_cons_self
  obtain rfl : p = p' := V.ref.inj (Option.some.inj h1)
  have hp := List.pairwise_cons.mp R.ap
  refine ⟨vs, h2, h5, h3, h4, R.eg, fun a o h => ?_, fun a o h => ?_, fun e he => ?_, hp.2⟩
  · by_cases c : a = p
    · subst c; rw [upd_same] at h; rw [h2, ← h]
    · rw [upd_ne c] at h; exact R.ef a o h
  · by_cases c : a = p
    · subst c; exact h3
    · rw [upd_ne c] at h; exact R.gf a o h
  · have g := R.ok e (List.mem_cons_of_mem _ he)
    have na := hp.1 e he
    rcases e with ⟨s, ov⟩
    cases s with
    | un => exact True.intro
    | ex c => exact g
    | val d => exact g
    | own es =>
      obtain ⟨q, ws, g1, g2, g3, g4, g5⟩ := g
      have nq : q ≠ p := fun z => na p own_own ⟨⟨es, rfl⟩, by rw [g1, z]⟩
      exact ⟨q, ws, g1, g2, g3, by rw [upd_ne nq]; exact g4, g5⟩
theorem RelL.unpark {vs : List V} (R : RelL K G (upd F p (.lst vs)) L H) (hF : F p = none) (hv : RpA K G vs ds) : RelL K G F ((.own ds, some (.ref p)) :: L) H := by
  have gp : G p = none := R.gf p _ upd_same
  have hp : H p = some (.lst vs) := R.ef p _ upd_same
  have hne : ∀ a o, F a = some o → a ≠ p := fun a o h e => by rw [e, hF] at h; cases h
  have base : RelL K G F L H := by
    refine ⟨R.eg, fun a o h => R.ef a o (by rw [upd_ne (hne a o h)]; exact h), fun a o h => R.gf a o (by rw [upd_ne (hne a o h)]; exact h), fun e he => ?_, R.ap⟩
    have g := R.ok e he
    rcases e with ⟨s, ov⟩
    cases s with
    | un => exact True.intro
    | ex c => exact g
    | val d => exact g
    | own es =>
      obtain ⟨q, ws, g1, g2, g3, g4, g5⟩ := g
      have nq : q ≠ p := fun z => by rw [z, upd_same] at g4; cases g4
      exact ⟨q, ws, g1, g2, g3, by rw [upd_ne nq] at g4; exact g4, g5⟩
  refine base.push ⟨p, vs, rfl, hp, gp, hF, hv⟩ fun e he q ho ho' => ?_
  have hq := Own.eq ho
  subst hq
  obtain ⟨ws, _, _, g⟩ := R.owned he ho'
  rw [upd_same] at g
  cases g
/-- two lists of ours are lent to a def and come back -/
theorem take2 {H2 G2 : Hp} {A' : List Ent} {w1 w2 : List V} {v : V} {z : D} {a b : List D} (R : RelL K G F ((.own a, some (.ref p1)) :: (.own b, some (.ref p2)) :: L) H) (h1 : RpA K G w1 a) (h2 : RpA K G w2 b)
    (e2 : Ex (upd (upd G p1 (.lst w1)) p2 (.lst w2)) G2) (R2 : RelL K G2 (hold F L H) ((.val z, some v) :: A') H2) (hz : scal z = true) :
    ∃ G3, Ex G G3 ∧ RelL K G3 F ((.val z, some v) :: (.own a, some (.ref p1)) :: (.own b, some (.ref p2)) :: L) H2 := by
  obtain ⟨_, _, c1, _, n1, f1, _⟩ := R.ok _ List.mem_cons_self
  obtain rfl := V.ref.inj (Option.some.inj c1)
  obtain ⟨_, _, c2, _, n2, f2, _⟩ := R.ok _ (List.mem_cons_of_mem _ List.mem_cons_self)
  obtain rfl := V.ref.inj (Option.some.inj c2)
  have hc := List.pairwise_cons.mp R.ap
  have hc2 := List.pairwise_cons.mp hc.2
  have hne : p1 ≠ p2 := fun e => by
    subst e
    exact hc.1 _ List.mem_cons_self p1 own_own own_own
  have RL : RelL K G F L H := R.sub ((List.sublist_cons_self _ _).trans (List.sublist_cons_self _ _))
  have g1 : G2 p1 = some (.lst w1) := e2 p1 _ (by rw [upd_ne hne]; exact upd_same)
  have g2 : G2 p2 = some (.lst w2) := e2 p2 _ upd_same
  have ex3 : Ex G (fun x => if x = p1 then none else if x = p2 then none else G2 x) := fun c o h => by
    have k1 : c ≠ p1 := fun e => by rw [e, n1] at h; cases h
    have k2 : c ≠ p2 := fun e => by rw [e, n2] at h; cases h
    show (if c = p1 then none else if c = p2 then none else G2 c) = some o
    rw [if_neg k1, if_neg k2]
    exact e2 c o (by rw [upd_ne k2, upd_ne k1]; exact h)
  have g3 : ∀ c, G2 c = none → (fun x => if x = p1 then none else if x = p2 then none else G2 x) c = none := fun c h => by
    show (if c = p1 then none else if c = p2 then none else G2 c) = none
    split
    · rfl
    · split
      · rfl
      · exact h
  have base : RelL K (fun x => if x = p1 then none else if x = p2 then none else G2 x) F L H2 := by
    refine ⟨fun c o h => ?_, fun c o h => R2.ef c o (hold_sub RL c o h), fun c o h => g3 c (R2.gf c o (hold_sub RL c o h)), fun e he => ?_, RL.ap⟩
    · have h' : (if c = p1 then none else if c = p2 then none else G2 c) = some o := h
      split at h'
      · cases h'
      · split at h'
        · cases h'
        · exact R2.eg c o h'
    · have g := RL.ok e he
      rcases e with ⟨s, ov⟩
      cases s with
      | un => exact True.intro
      | ex c => exact g.imp fun v w => ⟨w.1, ex3 _ _ w.2⟩
      | val d => exact g.imp fun v w => ⟨w.1, w.2.up ex3⟩
      | own es =>
        obtain ⟨q, ws, g1, g2, g3', g4, g5⟩ := g
        subst g1
        have hh : hold F L H q = some (.lst ws) := by rw [hold_in he own_own]; exact g2
        exact ⟨q, ws, rfl, R2.ef q _ hh, g3 q (R2.gf q _ hh), g4, g5.up ex3⟩
  have B2 := base.push (e := (.own b, some (.ref p2))) ⟨p2, w2, rfl, R2.eg p2 _ g2, by show (if p2 = p1 then none else if p2 = p2 then none else G2 p2) = none; split <;> simp, f2, h2.up ex3⟩ hc2.1
  have B1 := B2.push (e := (.own a, some (.ref p1))) ⟨p1, w1, rfl, R2.eg p1 _ g1, by show (if p1 = p1 then none else if p1 = p2 then none else G2 p1) = none; simp, f1, h1.up ex3⟩ hc.1
  obtain ⟨v', hv1, hv2⟩ := R2.ok _ List.mem_cons_self
  exact ⟨_, ex3, B1.push (e := (.val z, some v)) ⟨v', hv1, scal_rp hz hv2⟩ fun _ _ => apart_val⟩
theorem lend2 {mx : MF} {it : Nat} {td : TE} {md : MX} {z dd : D} {ρ1 args' : List Sl} {Q : VK} (R : Rel K G F ((.own A, some (.ref p1)) :: (.own B, some (.ref p2)) :: T) ρ σ H) (ht : G t = some (.tup [.ref p1, .ref p2])) (hσ : σ[it]? = some (some (.ref t)))
    (hd : Den K td md) (e1 : md ρ = some (.val dd, ρ1)) (e2 : mx [.val (.tuple [.list A, .list B]), .val dd] = some (.val z, args')) (hz : scal z = true)
    (q : ∀ v G' H', Ex G G' → Rel K G' F ((.val z, some v) :: (.own A, some (.ref p1)) :: (.own B, some (.ref p2)) :: T) ρ1 σ H' → Q v H') : tCall (spD K mx) [] E0 (tCons (tVar it) (tCons td tNil)) σ H Q := by
  refine ⟨.ref t, hσ, ?_⟩
  refine hd G F _ ρ σ H _ ρ1 _ R e1 fun y G1 H1 ex1 R1 => ?_
  show spD K mx ([.ref t, y] ++ []) H1 Q E0
  rw [List.append_nil]
  -- the lists to the front
  have P1 : RelL K G1 F ((.own A, some (.ref p1)) :: (.own B, some (.ref p2)) :: ((.val dd, some y) :: (T ++ ρ1.zip σ))) H1 := by
    refine R1.l.perm ?_
    simp only [List.cons_append]
    exact (List.Perm.swap _ _ _).trans (List.Perm.cons _ (List.Perm.swap _ _ _))
  have RL : RelL K G1 F ((.own A, some (.ref p1)) :: (.own B, some (.ref p2)) :: (T ++ ρ1.zip σ)) H1 := P1.sub (List.Sublist.cons_cons _ (List.Sublist.cons_cons _ (List.sublist_cons_self _ _)))
  obtain ⟨w1, a1, a2, a3, a4, S1⟩ := RelL.give2 P1
  have S1' := S1.perm (List.Perm.swap _ _ _)
  obtain ⟨w2, b1, b2, b3, b4, S2⟩ := RelL.give2 S1'
  have exA : Ex G1 (upd G1 p1 (.lst w1)) := Ex.new a2
  have exB : Ex (upd G1 p1 (.lst w1)) (upd (upd G1 p1 (.lst w1)) p2 (.lst w2)) := Ex.new b2
  have b4' : RpA K G1 w2 B := by
    obtain ⟨_, ws, c1, c2, _, _, c5⟩ := RL.ok _ (List.mem_cons_of_mem _ List.mem_cons_self)
    obtain rfl := V.ref.inj (Option.some.inj c1)
    rw [b1] at c2
    cases c2
    exact c5
  have n2 : G1 p2 = none := free_of exA b2
  have hne : p1 ≠ p2 := fun e => by rw [← e, upd_same] at b2; cases b2
  have g1 : (upd (upd G1 p1 (.lst w1)) p2 (.lst w2)) p1 = some (.lst w1) := by rw [upd_ne hne]; exact upd_same
  have g2 : (upd (upd G1 p1 (.lst w1)) p2 (.lst w2)) p2 = some (.lst w2) := upd_same
  have gt : (upd (upd G1 p1 (.lst w1)) p2 (.lst w2)) t = some (.tup [.ref p1, .ref p2]) := exB _ _ (exA _ _ (ex1 _ _ ht))
  have hT : Rp K (upd (upd G1 p1 (.lst w1)) p2 (.lst w2)) (.ref t) (.tuple [.list A, .list B]) := .tup gt (.cons (.lst (SqL.of g1) (a4.up (exA.trans exB))) (.cons (.lst (SqL.of g2) (b4'.up (exA.trans exB))) .nil))
  have S3 : RelL K (upd (upd G1 p1 (.lst w1)) p2 (.lst w2)) F ((.val dd, some y) :: (T ++ ρ1.zip σ)) H1 := S2.sub ((List.sublist_cons_self _ _).trans (List.sublist_cons_self _ _))
  have S4 := S3.pushVal hT
  have RA : RelL K (upd (upd G1 p1 (.lst w1)) p2 (.lst w2)) F ([((.val (.tuple [.list A, .list B]) : Sl), some (V.ref t)), (.val dd, some y)] ++ (T ++ ρ1.zip σ)) H1 := S4
  refine ⟨_, hold F (T ++ ρ1.zip σ) H1, [.val (.tuple [.list A, .list B]), .val dd], .val z, args', ⟨rfl, by
    have := call_in RA
    exact this⟩, e2, fun v G2 H2 ex2 R2 => ?_⟩
  obtain ⟨G3, ex3, R3⟩ := take2 RL a4 b4' ex2 R2.l hz
  exact q v G3 H2 (ex1.trans ex3) ⟨R1.len, R3⟩
end
end Dn

namespace Dn
open PySem PySem.Spec PyProof.Rows L2
open Evl (Ex)
/-! ### told = f(..); if not look(told, due) or ..: return False; for row in told: .. -/
def mGrp (kp : Nat → Bool) (it ir : Nat) (mf mx : MF) (ma : MA) (md : MX) (mc : MT) (mb : MS) : MS := fun ρ => match mCall mf [] ma ρ with
  | some (.val (.tuple [.list A, .list B]), ρ1) => match pairsOf A, pairsOf B with
    | some _, some _ => if kp it = false ∧ kp ir = false ∧ it < ρ1.length then match md (ρ1.set it .un) with
      | some (.val dd, ρ2) => match mx [.val (.tuple [.list A, .list B]), .val dd] with
        | some (.val (.bool true), _) => match mc ρ2 with
          | some (false, ρ3) => if ir < ρ3.length then match mb (ρ3.set ir (.own A)) with
            | some (.nx ρ4) => if ir < ρ4.length then match mb (ρ4.set ir (.own B)) with
              | some (.nx ρ5) => some (.nx ρ5)
              | _ => none
              else none
            | _ => none
            else none
          | _ => none
        | _ => none
      | _ => none
      else none
    | _, _ => none
  | _ => none
section
variable {X : Cx} {kp : Nat → Bool} {s1 s2 s3 : Stmt} {rest : List Stmt} {it ir : Nat} {mf mx : MF} {ta : TA} {ma : MA} {td : TE} {md : MX} {tr : TT} {mc : MT} {tb u tret : TS} {mb m' : MS}
theorem mss_grp (h1 : PS X s1 (tAsg (tCall (spF X.K mf) [] E0 ta) (gName it))) (hta : DenA X.K ta ma)
    (h2 : PS X s2 (tIfS (tOr (tNot (fun σ H Q => (tCall (spD X.K mx) [] E0 (tCons (tVar it) (tCons td tNil))) σ H fun x H' => ∃ k, TruV X.K x H' k ∧ Q k H')) tr) tret tNext)) (hd : Den X.K td md) (hr : DenT X.K tr mc)
    (h3 : PS X s3 (tFor (iSeq X.K (tVar it)) (gName ir) tb)) (hb : DenS X.K kp tb mb) (h4 : MSs X kp rest u m') :
    MSs X kp (s1 :: s2 :: s3 :: rest) (tSeq (tAsg (tCall (spF X.K mf) [] E0 ta) (gName it)) (tSeq (tIfS (tOr (tNot (fun σ H Q => (tCall (spD X.K mx) [] E0 (tCons (tVar it) (tCons td tNil))) σ H fun x H' => ∃ k, TruV X.K x H' k ∧ Q k H')) tr) tret tNext) (tSeq (tFor (iSeq X.K (tVar it)) (gName ir) tb) u)))
      (mSeq (mGrp kp it ir mf mx ma md mc mb) m') := ⟨pss_cons h1 (pss_cons h2 (pss_cons h3 h4.pe)), by
  intro G F ρ σ H D o R h q
  unfold mSeq at h
  cases eg : mGrp kp it ir mf mx ma md mc mb ρ with
  | none => rw [eg] at h; cases h
  | some o1 =>
    rw [eg] at h
    unfold mGrp at eg
    split at eg
    · rename_i A B ρ1 e1
      split at eg
      · rename_i pa pb ea eb
        split at eg
        · rename_i hk
          split at eg
          · rename_i dd ρ2 e2
            split at eg
            · rename_i o2 e3
              split at eg
              · rename_i ρ3 e4
                split at eg
                · rename_i hl3
                  split at eg
                  · rename_i ρ4 e5
                    split at eg
                    · rename_i hl4
                      split at eg
                      · rename_i ρ5 e6
                        cases eg
                        have hA := pairsOf_eq ea
                        have hB := pairsOf_eq eb
                        subst hA hB
                        have hk1 := hk.1
                        have hk2 := hk.2.1
                        have hl1 := hk.2.2
                        -- the call, and what it tells taken apart
                        unfold mCall at e1
                        cases ea1 : ma ρ with
                        | none => rw [ea1] at e1; cases e1
                        | some p =>
                          obtain ⟨xs, ρa⟩ := p
                          simp only [ea1, List.map_nil, List.append_nil] at e1
                          cases ef : mf xs with
                          | none => simp only [ef] at e1; cases e1
                          | some pf =>
                            obtain ⟨r0, args'⟩ := pf
                            simp only [ef] at e1
                            cases e1
                            show tCall (spF X.K mf) [] E0 ta σ H _
                            refine hta G F [] ρ σ H xs _ _ R ea1 fun vs G1 H1 ex1 l1 R1 => ?_
                            have RA : RelL X.K G1 F (xs.zip (vs.map some) ++ (ρ1.zip σ)) H1 := by
                              have := R1.l
                              simp only [ents, List.append_nil, List.nil_append] at this
                              exact this
                            have RL : RelL X.K G1 F (ρ1.zip σ) H1 := RA.sub (List.sublist_append_right _ _)
                            show spF X.K mf (vs ++ []) H1 _ E0
                            rw [List.append_nil]
                            refine ⟨G1, hold F (ρ1.zip σ) H1, xs, _, args', ⟨by rw [List.length_map]; exact l1, call_in RA⟩, ef, fun v G2 H2 ex2 R2 fr => ?_⟩
                            obtain ⟨t, p1, p2, G3, rfl, ex3, gt, R3⟩ := own2_of RL ex2 R2.l fr rfl
                            have hlen : ρ1.length = σ.length := R1.len
                            have R4 : Rel X.K G3 F [(.own (pa.map pairD), some (.ref p1)), (.own (pb.map pairD), some (.ref p2))] ρ1 σ H2 := ⟨hlen, R3⟩
                            have R5 := R4.forget it (some (V.ref t))
                            -- the look
                            have hσ : (σ.set it (some (V.ref t)))[it]? = some (some (V.ref t)) := by
                              rw [List.getElem?_set_self (by rw [← hlen]; exact hl1)]
                            have exK : Kept kp σ (σ.set it (some (V.ref t))) := Kept.set hk1
                            show tCall (spD X.K mx) [] E0 (tCons (tVar it) (tCons td tNil)) _ H2 _
                            refine lend2 R5 gt hσ hd e2 e3 rfl fun v2 G4 H3 ex4 R6 => ?_
                            refine ⟨true, tru_ok R6.l.eg (R6.l.ok _ List.mem_cons_self) rfl, ?_⟩
                            have R7 := R6.drop
                            -- what else is asked
                            refine hr G4 F _ ρ2 _ H3 false ρ3 _ R7 e4 fun G5 H4 ex5 R8 => ?_
                            -- the rows
                            have gt5 : G5 t = some (.tup [.ref p1, .ref p2]) := ex5 _ _ (ex4 _ _ gt)
                            rw [if_neg Bool.false_ne_true]
                            show tFor (iSeq X.K (tVar it)) (gName ir) tb { D with nx := u D } (σ.set it (some (V.ref t))) H4
                            refine ⟨.ref t, hσ, t, rfl, .inr ⟨⟨_, SqT.of (R8.l.eg _ _ gt5)⟩, ?_⟩⟩
                            let σ0 := σ.set it (some (V.ref t))
                            let S1 : L2.St → Hp → Prop := fun σ' H' => ∃ G', Ex G5 G' ∧ Kept kp σ0 σ' ∧ Rel X.K G' F [(.own (pb.map pairD), some (.ref p2))] ρ4 σ' H'
                            let S2 : L2.St → Hp → Prop := fun σ' H' => ∃ G', Ex G5 G' ∧ Kept kp σ0 σ' ∧ Rel X.K G' F [] ρ5 σ' H'
                            refine ⟨fun i m σ' H' => (i = 0 ∧ m = 2 ∧ σ' = σ0 ∧ H' = H4) ∨ (i = 1 ∧ m = 1 ∧ S1 σ' H') ∨ (i = 2 ∧ m = 0 ∧ S2 σ' H'), ⟨2, .inl ⟨rfl, rfl, rfl, rfl⟩⟩, fun i m σ' H' hW => ?_⟩
                            rcases hW with ⟨rfl, rfl, rfl, rfl⟩ | ⟨rfl, rfl, hS⟩ | ⟨rfl, rfl, hS⟩
                            · refine .inr ⟨⟨_, .ref p1, SqT.of (R8.l.eg _ _ gt5), rfl⟩, S1, fun σ' H' hN => ⟨1, by omega, .inr (.inl ⟨rfl, rfl, hN⟩)⟩, fun x H' hy => ?_⟩
                              obtain ⟨rfl, hx⟩ := hy
                              have hx1 := hx _ (SqT.of (R8.l.eg _ _ gt5))
                              obtain rfl : V.ref p1 = x := Option.some.inj hx1
                              have Ra := R8.assign (i := ir) hl3
                              obtain ⟨w2, k1, k2, k3, k4, RP⟩ := RelL.park (show RelL X.K G5 F ((.own (pb.map pairD), some (.ref p2)) :: _) _ from Ra.l)
                              refine hb G5 (upd F p2 (.lst w2)) _ _ _ _ (.nx ρ4) ⟨Ra.len, RP⟩ e5 fun G6 σ6 H6 ex6 k6 R9 => ?_
                              exact ⟨G6, ex6, (Kept.set hk2).trans k6, R9.len, RelL.unpark R9.l k4 (k2.up ex6)⟩
                            · obtain ⟨G6, ex6, k6, R9⟩ := hS
                              have gt6 : H' t = some (.tup [.ref p1, .ref p2]) := R9.l.eg _ _ (ex6 _ _ gt5)
                              refine .inr ⟨⟨_, .ref p2, SqT.of gt6, rfl⟩, S2, fun σ' H' hN => ⟨0, by omega, .inr (.inr ⟨rfl, rfl, hN⟩)⟩, fun x H'' hy => ?_⟩
                              obtain ⟨rfl, hx⟩ := hy
                              have hx1 := hx _ (SqT.of gt6)
                              obtain rfl : V.ref p2 = x := Option.some.inj hx1
                              have Ra := R9.assign (i := ir) hl4
                              refine hb G6 F _ _ _ _ (.nx ρ5) Ra e6 fun G7 σ7 H7 ex7 k7 R10 => ?_
                              exact ⟨G7, ex6.trans ex7, k6.trans ((Kept.set hk2).trans k7), R10⟩
                            · obtain ⟨G6, ex6, k6, R9⟩ := hS
                              have gt6 : H' t = some (.tup [.ref p1, .ref p2]) := R9.l.eg _ _ (ex6 _ _ gt5)
                              refine .inl ⟨⟨_, SqT.of gt6, Nat.le_refl 2⟩, ?_⟩
                              have exAll : Ex G G6 := ex1.trans (ex3.trans (ex4.trans (ex5.trans ex6)))
                              exact h4.dn G6 F ρ5 σ' H' D o R9 h (q.up exAll (exK.trans k6))
                      · cases eg
                    · cases eg
                  · cases eg
                · cases eg
              · cases eg
            · cases eg
          · cases eg
        · cases eg
      · cases eg
    · cases eg⟩
end
theorem mss_grp2 {X : Cx} {kp : Nat → Bool} {it ir : Nat} {mf mx : MF} {x x2 y r : Str} {e dueE restE : Expr} {es : List Expr} {retS body rest : List Stmt} {p p1 p2 p3 p4 p5 p6 p7 p8 p9 pA pB pC : Pos} {ta : TA} {ma : MA} {td : TE} {md : MX} {tr : TT} {mc : MT} {tb u tret : TS} {mb m' m0 m1 m2 : MS}
    (h1 : MSt X kp (.Assign [.Name y p] (.Call (.Name x p1) (e :: es) [] p2) p3) (tAsg (tCall (spF X.K mf) [] E0 ta) (gName it)) m0) (hA : MEA X X.K (e :: es) ta ma)
    (h2 : MSt X kp (.If (.BoolOp .Or [.UnaryOp .Not (.Call (.Name x2 p4) [.Name y p5, dueE] [] p6) p7, restE] p8) retS [] p9) (tIfS (tOr (tNot (fun σ H Q => (tCall (spD X.K mx) [] E0 (tCons (tVar it) (tCons td tNil))) σ H fun x H' => ∃ k, TruV X.K x H' k ∧ Q k H')) tr) tret tNext) m1) (hd : ME X X.K dueE td md) (hr : MET X X.K restE tr mc)
    (h3 : MSt X kp (.For (.Name r pA) (.Name y pB) body [] pC) (tFor (iSeq X.K (tVar it)) (gName ir) tb) m2) (hb : MSs X kp body tb mb) (h4 : MSs X kp rest u m') :
    MSs X kp (.Assign [.Name y p] (.Call (.Name x p1) (e :: es) [] p2) p3 :: .If (.BoolOp .Or [.UnaryOp .Not (.Call (.Name x2 p4) [.Name y p5, dueE] [] p6) p7, restE] p8) retS [] p9 :: .For (.Name r pA) (.Name y pB) body [] pC :: rest)
      (tSeq (tAsg (tCall (spF X.K mf) [] E0 ta) (gName it)) (tSeq (tIfS (tOr (tNot (fun σ H Q => (tCall (spD X.K mx) [] E0 (tCons (tVar it) (tCons td tNil))) σ H fun x H' => ∃ k, TruV X.K x H' k ∧ Q k H')) tr) tret tNext) (tSeq (tFor (iSeq X.K (tVar it)) (gName ir) tb) u)))
      (mSeq (mGrp kp it ir mf mx ma md mc mb) m') := mss_grp h1.pe hA.dn h2.pe hd.dn hr.dn h3.pe hb.dn h4
/-! ### two by their names, turned about -/
section
variable {K : PySem.W.Frag} {X : Cx} {mf : MF} {f : Addr} {fd : FuncData} {k : Nat} {e1 e2 : Expr} {x n1 n2 : Str} {p pos kp1 kp2 : Pos} {t1 t2 : TE} {m1 m2 : MX} {sp : Sp}
def BindsK21 (fd : FuncData) (n1 n2 : Str) : Prop := ∀ (s : Shared) (w1 w2 : Value), BindsTo s fd ⟨[], [(n2, w2), (n1, w1)]⟩ [(n1, w1), (n2, w2)]
def tCall21 (sp : Sp) (t1 t2 : TE) : TE := fun σ H Q => t1 σ H fun x H1 => t2 σ H1 fun y H2 => sp [y, x] H2 Q E0
def mCall21 (mf : MF) (a b : MX) : MX := fun ρ => match a ρ with
  | some (x, ρ1) => match b ρ1 with
    | some (y, ρ2) => match mf [y, x] with
      | some (r, _) => some (r, ρ2)
      | none => none
    | none => none
  | none => none
theorem pe_callK21 (F : FnOk X.prog X.w X.K X.mg X.base CX0 k f fd [n1, n2] sp) (hr : Room k X.A) (hg : Gl X x) (hm : X.mg x = some (.ref f)) (hk : PySem.W.keepIn X.K (.ref f) = true) (hb : BindsK21 fd n1 n2) (h1 : PE X e2 t1) (h2 : PE X e1 t2)
    (hdb : (x == ("__debug__" : Str)) = false) (hall : (backToKw pos (keywordEach [⟨some n2, e2, kp1⟩, ⟨some n1, e1, kp2⟩] X.env)).all (·.1.isSome) = true) (hks : (backToKw pos (keywordEach [⟨some n2, e2, kp1⟩, ⟨some n1, e1, kp2⟩] X.env)).filterMap (·.1) = [n2, n1])
    (hpl : ((backTo pos (starEach [] X.env)).any (·.1) || (backToKw pos (keywordEach [⟨some n2, e2, kp1⟩, ⟨some n1, e1, kp2⟩] X.env)).any (·.1.isNone)) = false) :
    PE X (.Call (.Name x p) [] [⟨some n2, e2, kp1⟩, ⟨some n1, e1, kp2⟩] pos) (tCall21 sp t1 t2) := by
  constructor
  intro pins s σ H Q I h
  refine wpAny_Call_Name_kw (ld_glob I hg hm ?_ hdb)
  have go : wpAny (model X.prog X.w) X.A (evalAll ((backToKw pos (keywordEach [⟨some n2, e2, kp1⟩, ⟨some n1, e1, kp2⟩] X.env)).map (·.2)))
      (fun ks s₂ => X.K.In s₂.heap ∧ wpAny (model X.prog X.w) X.A (call (.ref f) ([] ++ []) (((backToKw pos (keywordEach [⟨some n2, e2, kp1⟩, ⟨some n1, e1, kp2⟩] X.env)).filterMap (·.1)).zip ks)) (EP X pins σ Q) X.xe s₂) X.xe s := by
    show wpAny _ _ (evalAll [(do let v ← eval e2 X.env; standAt pos; pure v), (do let v ← eval e1 X.env; standAt pos; pure v)]) _ _ s
    refine wpAny_evalAll_cons (wpAny_bind (thn (h1.run pins s σ H _ I h) fun w2 s2 ⟨y, H2, I2, r2, q2⟩ => wpAny_bind (wpAny_standAt (wpAny_pure ?_))))
    refine wpAny_evalAll_cons (wpAny_bind (thn (h2.run pins s2 σ H2 _ I2 q2) fun w1 s3 ⟨z, H3, I3, r3, q3⟩ => wpAny_bind (wpAny_standAt (wpAny_pure ?_))))
    refine wpAny_evalAll_nil ⟨I3.kIn, ?_⟩
    rw [hks]
    refine wpAny_call (codeAny_mono (F.run X.A X.stack s3 H3 ⟨[], [(n2, w2), (n1, w1)]⟩ [w1, w2] [z, y] _ _ hr I3.env0 (hb s3 w1 w2) (.cons r3 (.cons r2 .nil)) q3) ?_)
    intro r s' hq
    rcases r with er | fl
    · exact hq.elim
    · cases fl with
      | ret u => exact I3.after hq
      | _ => exact False.elim hq
  exact PySem.W.callWith_KW0 (h₀ := X.base) I.ok.mod.kin hk hall go hpl
theorem den_call21 (h1 : Den K t1 m1) (h2 : Den K t2 m2) : Den K (tCall21 (spD K mf) t1 t2) (mCall21 mf m1 m2) := by
  intro G F T ρ σ H r ρ' Q R h q
  unfold mCall21 at h
  split at h
  · rename_i x ρ1 q1
    split at h
    · rename_i y ρ2 q2
      split at h
      · rename_i r0 args' q3
        cases h
        refine h1 G F T ρ σ H x ρ1 _ R q1 fun v1 G1 H1 ex1 R1 => ?_
        refine h2 G1 F _ ρ1 σ H1 y ρ' _ R1 q2 fun v2 G2 H2 ex2 R2 => ?_
        have RA : RelL K G2 F ([(y, some v2), (x, some v1)] ++ (T ++ ρ'.zip σ)) H2 := R2.l
        have RL : RelL K G2 F (T ++ ρ'.zip σ) H2 := RA.sub (List.sublist_append_right _ _)
        refine ⟨G2, hold F (T ++ ρ'.zip σ) H2, [y, x], r, args', ⟨rfl, by
          have := call_in RA
          exact this⟩, q3, fun v G3 H3 ex3 R3 => ?_⟩
        have R4 := call_out RL ex3 R3.l
        refine q v G3 H3 ((ex1.trans ex2).trans ex3) ⟨R2.len, ?_⟩
        refine R4.sub ?_
        show ((r, some v) :: (T ++ ρ'.zip σ)).Sublist ((r, some v) :: (args'.zip _ ++ (T ++ ρ'.zip σ)))
        exact List.Sublist.cons_cons _ (List.sublist_append_right _ _)
      · cases h
    · cases h
  · cases h
theorem me_callK21 (Fk : FnOk X.prog X.w X.K X.mg X.base CX0 k f fd [n1, n2] (spD K mf)) (hr : Room k X.A) (hg : Gl X x) (hm : X.mg x = some (.ref f)) (hk : PySem.W.keepIn K (.ref f) = true) (hb : BindsK21 fd n1 n2)
    (h1 : ME X K e2 t1 m1) (h2 : ME X K e1 t2 m2)
    (hdb : (x == ("__debug__" : Str)) = false := by decide) (hall : (backToKw pos (keywordEach [⟨some n2, e2, kp1⟩, ⟨some n1, e1, kp2⟩] X.env)).all (·.1.isSome) = true := by rfl) (hks : (backToKw pos (keywordEach [⟨some n2, e2, kp1⟩, ⟨some n1, e1, kp2⟩] X.env)).filterMap (·.1) = [n2, n1] := by rfl)
    (hpl : ((backTo pos (starEach [] X.env)).any (·.1) || (backToKw pos (keywordEach [⟨some n2, e2, kp1⟩, ⟨some n1, e1, kp2⟩] X.env)).any (·.1.isNone)) = false := by rfl) :
    ME X K (.Call (.Name x p) [] [⟨some n2, e2, kp1⟩, ⟨some n1, e1, kp2⟩] pos) (tCall21 (spD K mf) t1 t2) (mCall21 mf m1 m2) := by
  obtain rfl := h1.hK
  exact ⟨rfl, pe_callK21 Fk hr hg hm hk hb h1.pe h2.pe hdb hall hks hpl, den_call21 h1.dn h2.dn⟩
theorem fun_bindsK21 {qual : Str} {st : Stmt} (F : Fun K x qual st f fd)
    (h : ∀ (kV doc pm : Value) (an : Option Addr) (cdv ct : Value) (w1 w2 : Value), bindArgs (PySem.W.fnOf x qual (defArgs st) (defBody st) (defScope st) .none kV doc pm an cdv ct) ⟨[], [(n2, w2), (n1, w1)]⟩ = pure [(n1, w1), (n2, w2)]) : BindsK21 fd n1 n2 := by
  obtain ⟨oc, od, kV, doc, pm, an, cdv, ct, osl, rfl, lk, hcd⟩ := F.ex
  exact fun s w1 w2 => .of_eq (h kV doc pm an cdv ct w1 w2)
theorem me_callF {e : Expr} {es : List Expr} {t : TA} {m : MA} {ps : List Str} (Fk : FnOk X.prog X.w X.K X.mg X.base CX0 k f fd ps (spF X.K mf)) (hr : Room k X.A) (hg : Gl X x) (hm : X.mg x = some (.ref f)) (hk : PySem.W.keepIn X.K (.ref f) = true) (hb : Binds X.K fd ps [])
    (ha : MEA X X.K (e :: es) t m) (hdb : (x == ("__debug__" : Str)) = false := by decide) (he : starEach (e :: es) X.env = (false, eval e X.env) :: starEach es X.env := by rfl) (hpl : (backTo pos (starEach es X.env)).any (·.1) = false := by rfl) :
    ME X X.K (.Call (.Name x p) (e :: es) [] pos) (tCall (spF X.K mf) [] E0 t) (fun _ => none) := ⟨rfl, pe_call Fk hr hg hm hk hb .nil pass0 ha.pe hdb he hpl, fun _ _ _ _ _ _ _ _ _ _ h => by cases h⟩
end
end Dn
namespace Dn
open PySem L2
theorem noRt_asg {kp : Nat → Bool} {i : Nat} {a : MX} : NoRt (mAsg kp i a) := fun ρ r ρ' h => by
  unfold mAsg at h
  split at h
  · cases h
  · split at h <;> cases h
theorem noRt_expr {a : MX} : NoRt (mExpr a) := fun ρ r ρ' h => by
  unfold mExpr at h
  split at h <;> cases h
theorem noRt_asgT {a : MX} {g : MG} : NoRt (mAsgT a g) := fun ρ r ρ' h => by
  unfold mAsgT at h
  split at h
  · split at h <;> cases h
  · cases h
end Dn

namespace Dn
open PySem PySem.Spec PyProof.Rows L2
open Evl (Ex)
/-! ### a def that goes on from one told tuple to the next, and tells the last -/
theorem Fresh.upF {K : PySem.W.Frag} {G G1 G' : Hp} {r : Sl} {v : V} (h : Fresh K G G1 r v) (e : Ex G1 G') : Fresh K G G' r v := by
  obtain ⟨t, p1, p2, vs1, vs2, a, b, h1, h2, h3, h4, h5, h6, h7, h8, h9, h10⟩ := h
  exact ⟨t, p1, p2, vs1, vs2, a, b, h1, h2, e _ _ h3, e _ _ h4, h5.up e, e _ _ h6, h7.up e, h8, h9, h10⟩
/-- what stands at a slot is a tuple of new lists -/
def FrAt (K : PySem.W.Frag) (i : Nat) (G0 G : Hp) (ρ : List Sl) (σ : L2.St) : Prop := ∃ d v, ρ[i]? = some (.val d) ∧ σ[i]? = some (some v) ∧ Fresh K G0 G (.val d) v
theorem FrAt.up {K : PySem.W.Frag} {i : Nat} {G0 G G' : Hp} {ρ : List Sl} {σ : L2.St} (h : FrAt K i G0 G ρ σ) (e : Ex G G') : FrAt K i G0 G' ρ σ := by
  obtain ⟨d, v, h1, h2, h3⟩ := h
  exact ⟨d, v, h1, h2, h3.upF e⟩
/-- what a mirror keeps at a slot -/
def KeepV (i : Nat) (ρ ρ' : List Sl) : Prop := ∀ d, ρ[i]? = some (.val d) → ρ'[i]? = some (.val d)
theorem FrAt.keep {K : PySem.W.Frag} {i : Nat} {G0 G : Hp} {ρ ρ' : List Sl} {σ : L2.St} (h : FrAt K i G0 G ρ σ) (k : KeepV i ρ ρ') : FrAt K i G0 G ρ' σ := by
  obtain ⟨d, v, h1, h2, h3⟩ := h
  exact ⟨d, v, k d h1, h2, h3⟩
def PostK (K : PySem.W.Frag) (kp : Nat → Bool) (i : Nat) (G0 F : Hp) (σ : L2.St) (D : Ends) : Out → Prop
  | .nx ρ' => ∀ G' σ' H', Ex G0 G' → Kept kp σ σ' → Rel K G' F [] ρ' σ' H' → FrAt K i G0 G' ρ' σ' → D.nx σ' H'
  | .rt r ρ' => ∀ v G' σ' H', Ex G0 G' → Kept kp σ σ' → Rel K G' F [(r, some v)] ρ' σ' H' → Fresh K G0 G' r v → D.rt v H'
  | .bk ρ' => ∀ G' σ' H', Ex G0 G' → Kept kp σ σ' → Rel K G' F [] ρ' σ' H' → D.bk σ' H'
  | .ct ρ' => ∀ G' σ' H', Ex G0 G' → Kept kp σ σ' → Rel K G' F [] ρ' σ' H' → D.ct σ' H'
theorem PostK.of {K : PySem.W.Frag} {kp : Nat → Bool} {i : Nat} {G F : Hp} {σ : L2.St} {D : Ends} {o : Out} (q : PostF K kp G F σ D o) : PostK K kp i G F σ D o := by
  cases o with
  | nx ρ => exact fun G' σ' H' ex k R _ => q G' σ' H' ex k R
  | rt r ρ => exact q
  | bk ρ => exact q
  | ct ρ => exact q
theorem PostK.up {K : PySem.W.Frag} {kp : Nat → Bool} {i : Nat} {G F : Hp} {σ σ1 : L2.St} {D : Ends} {o : Out} (q : PostK K kp i G F σ D o) (k1 : Kept kp σ σ1) : PostK K kp i G F σ1 D o := by
  cases o with
  | nx ρ => exact fun G' σ' H' ex k R f => q G' σ' H' ex (k1.trans k) R f
  | rt r ρ => exact fun v G' σ' H' ex k R f => q v G' σ' H' ex (k1.trans k) R f
  | bk ρ => exact fun G' σ' H' ex k R => q G' σ' H' ex (k1.trans k) R
  | ct ρ => exact fun G' σ' H' ex k R => q G' σ' H' ex (k1.trans k) R
def DenSK (K : PySem.W.Frag) (kp : Nat → Bool) (i : Nat) (t : TS) (m : MS) : Prop := ∀ (G0 G F : Hp) (ρ : List Sl) (σ : L2.St) (H : Hp) (D : Ends) (o : Out), Ex G0 G → Rel K G F [] ρ σ H → FrAt K i G0 G ρ σ → m ρ = some o → PostK K kp i G0 F σ D o → t D σ H
structure MSsK (X : Cx) (kp : Nat → Bool) (i : Nat) (st : List Stmt) (t : TS) (m : MS) : Prop where
  pe : PSs X st t
  dn : DenSK X.K kp i t m
structure MStK (X : Cx) (kp : Nat → Bool) (i : Nat) (st : Stmt) (t : TS) (m : MS) : Prop where
  pe : PS X st t
  dn : DenSK X.K kp i t m
section
variable {X : Cx} {st : Stmt} {rest : List Stmt} {t u : TS} {m m' : MS} {K : PySem.W.Frag} {pos : Pos} {i : Nat} {mf : MF} {ta : TA} {ma : MA} {kp : Nat → Bool} {e : Expr} {te : TE} {me : MX} {wi : TI} {mi : MI} {g : TG} {mg : MG} {tb : TS} {mb : MS} {vs : List Nat}
theorem asgF_den (hta : DenA K ta ma) {G0 G F : Hp} {ρ : List Sl} {σ : L2.St} {H : Hp} {D : Ends} {o : Out} (ex0 : Ex G0 G) (R : Rel K G F [] ρ σ H) (h : mAsg kp i (mCall mf [] ma) ρ = some o)
    (q : ∀ ρ', o = .nx ρ' → ∀ G' σ' H', Ex G G' → Kept kp σ σ' → Rel K G' F [] ρ' σ' H' → FrAt K i G0 G' ρ' σ' → D.nx σ' H') : tAsg (tCall (spF K mf) [] E0 ta) (gName i) D σ H := by
  unfold mAsg at h
  cases e1 : mCall mf [] ma ρ with
  | none => rw [e1] at h; cases h
  | some p =>
    obtain ⟨r, ρ1⟩ := p
    simp only [e1] at h
    split at h
    · rename_i hc
      cases h
      show tCall (spF K mf) [] E0 ta σ H _
      refine den_callF hta R e1 fun v G' H' G1 ex1 ex2 R' fr => ?_
      have fr0 : Fresh K G0 G' r v := (fr.down ex1).down ex0
      have R2 := R'.assign hc.2
      refine q _ rfl G' _ H' (ex1.trans ex2) (Kept.set hc.1) R2 ?_
      have hl : ρ1.length = σ.length := R'.len
      have hr : ∃ d, r = .val d := by
        obtain ⟨t, p1, p2, vs1, vs2, a, b, h1, h2⟩ := fr0
        exact ⟨_, h1⟩
      obtain ⟨d, rfl⟩ := hr
      exact ⟨d, v, by rw [List.getElem?_set_self hc.2], by rw [List.getElem?_set_self (by rw [← hl]; exact hc.2)], fr0⟩
    · cases h
/-- now = f(..), then what keeps it -/
theorem mssF_asgF (h1 : PS X st (tAsg (tCall (spF X.K mf) [] E0 ta) (gName i))) (hta : DenA X.K ta ma) (h2 : MSsK X kp i rest u m') :
    MSsF X kp (st :: rest) (tSeq (tAsg (tCall (spF X.K mf) [] E0 ta) (gName i)) u) (mSeq (mAsg kp i (mCall mf [] ma)) m') := ⟨pss_cons h1 h2.pe, by
  intro G F ρ σ H D o R h q
  unfold mSeq at h
  cases e1 : mAsg kp i (mCall mf [] ma) ρ with
  | none => rw [e1] at h; cases h
  | some o1 =>
    rw [e1] at h
    refine asgF_den (D := { D with nx := u D }) hta (Ex.refl G) R e1 fun ρ' ho G' σ' H' ex k R' fr => ?_
    subst ho
    exact h2.dn G G' F ρ' σ' H' D o ex R' fr h ((PostK.of q).up k)⟩
theorem mssK_cons (h1 : MStK X kp i st t m) (h2 : MSsK X kp i rest u m') : MSsK X kp i (st :: rest) (tSeq t u) (mSeq m m') := ⟨pss_cons h1.pe h2.pe, by
  intro G0 G F ρ σ H D o ex R fr h q
  unfold mSeq at h
  cases e1 : m ρ with
  | none => rw [e1] at h; cases h
  | some o1 =>
    cases o1 with
    | nx ρ1 =>
      rw [e1] at h
      exact h1.dn G0 G F ρ σ H { D with nx := u D } (.nx ρ1) ex R fr e1 fun G' σ' H' ex' k R' fr' => h2.dn G0 G' F ρ1 σ' H' D o ex' R' fr' h (q.up k)
    | rt r ρ1 => rw [e1] at h; cases h; exact h1.dn G0 G F ρ σ H _ _ ex R fr e1 q
    | bk ρ1 => rw [e1] at h; cases h; exact h1.dn G0 G F ρ σ H _ _ ex R fr e1 q
    | ct ρ1 => rw [e1] at h; cases h; exact h1.dn G0 G F ρ σ H _ _ ex R fr e1 q⟩
theorem mssK_one (h1 : MStK X kp i st t m) : MSsK X kp i [st] t m := ⟨pss_one h1.pe, h1.dn⟩
theorem msK_expr (h1 : ME X X.K e te me) (hk : ∀ ρ r ρ', me ρ = some (r, ρ') → KeepV i ρ ρ') (hs : swapsWith e none pos.line X.env = pure false := by rfl) : MStK X kp i (.Expr e pos) (tDrop te) (mExpr me) := ⟨ps_expr h1.pe hs, by
  intro G0 G F ρ σ H D o ex R fr h q
  unfold mExpr at h
  cases e1 : me ρ with
  | none => rw [e1] at h; cases h
  | some p =>
    obtain ⟨r, ρ1⟩ := p
    simp only [e1] at h
    cases h
    exact h1.dn G F [] ρ σ H r ρ1 _ R e1 fun v G1 H1 e2 R1 => q G1 σ H1 (ex.trans e2) (Kept.refl kp σ) R1.drop ((fr.up e2).keep (hk _ _ _ e1))⟩
theorem msK_retV {x : Str} {p : Pos} (h1 : ME X X.K (.Name x p) (tVar i) (mVar i)) : MStK X kp i (.Return (some (.Name x p)) pos) (tRet (tVar i)) (mRet (mVar i)) := ⟨ps_ret h1.pe, by
  intro G0 G F ρ σ H D o ex R fr h q
  obtain ⟨d, v, g1, g2, g3⟩ := fr
  have hm : mVar i ρ = some (.val d, ρ) := by
    unfold mVar
    rw [g1]
  unfold mRet at h
  rw [hm] at h
  cases h
  obtain ⟨v', w1, w2, R2⟩ := R.var g1
  have : v' = v := Option.some.inj (Option.some.inj (w1.symm.trans g2))
  subst this
  exact ⟨v', g2, q v' G σ H ex (Kept.refl kp σ) R2 g3⟩⟩
theorem msK_forF {tg iter : Expr} {s1 : Stmt} (hp : PassesOwn (model X.prog X.w) X.A X.env X.xe) (hc : X.calm = true) (hi : MIt X X.K tg iter wi mi) (hik : ∀ ρ ds ρ', mi ρ = some (ds, ρ') → KeepV i ρ ρ') (hg : MGt X X.K kp vs tg g mg)
    (hb : PSs X [s1] (tAsg (tCall (spF X.K mf) [] E0 ta) (gName i))) (hta : DenA X.K ta ma)
    (hs : ∀ x, foldedSetIterable iter X.env x = pure x := by intro _; rfl) : MStK X kp i (.For tg iter [s1] [] pos) (tFor wi g (tAsg (tCall (spF X.K mf) [] E0 ta) (gName i))) (mFor mi mg (mAsg kp i (mCall mf [] ma))) := ⟨ps_for hp hc hi.pe hg.pe hb hs, by
  intro G0 G F ρ σ H D o ex R fr h q
  unfold mFor at h
  cases e1 : mi ρ with
  | none => rw [e1] at h; cases h
  | some p =>
    obtain ⟨ds, ρ1⟩ := p
    simp only [e1] at h
    refine hi.dn G F [] ρ σ H ds ρ1 _ R e1 fun J G1 H1 ex1 R1 W => ?_
    refine ⟨fun j m σ' H' => j + m = ds.length ∧ ∃ ρ' G', Ex G1 G' ∧ Kept kp σ σ' ∧ Rel X.K G' F [] ρ' σ' H' ∧ FrAt X.K i G0 G' ρ' σ' ∧ mLoop mg (mAsg kp i (mCall mf [] ma)) (ds.drop j) ρ' = some o, ⟨ds.length, Nat.zero_add _, ρ1, G1, Ex.refl G1, Kept.refl kp σ, R1, (fr.up ex1).keep (hik _ _ _ e1), h⟩, ?_⟩
    rintro j m σ2 H2 ⟨him, ρ2, G2, ex2, k2, R2, fr2, h2⟩
    obtain ⟨hstop, hgo⟩ := W G2 F [] ρ2 σ2 H2 ex2 R2
    by_cases hlt : j < ds.length
    · have hd : ds[j]? = some ds[j] := List.getElem?_eq_getElem hlt
      have hdrop : ds.drop j = ds[j] :: ds.drop (j + 1) := (List.drop_eq_getElem_cons hlt)
      rw [hdrop] at h2
      unfold mLoop at h2
      obtain ⟨go, yld⟩ := hgo j _ hd
      refine .inr ⟨go, fun σ' H' => ∃ ρ' G', Ex G1 G' ∧ Kept kp σ σ' ∧ Rel X.K G' F [] ρ' σ' H' ∧ FrAt X.K i G0 G' ρ' σ' ∧ mLoop mg (mAsg kp i (mCall mf [] ma)) (ds.drop (j + 1)) ρ' = some o, fun σ' H' hN => ⟨m - 1, by omega, by omega, hN⟩, fun x H' hy => ?_⟩
      obtain ⟨G3, ex3, R3⟩ := yld x H' hy
      cases e3 : mg ds[j] ρ2 with
      | none => rw [e3] at h2; cases h2
      | some ρ3 =>
        simp only [e3] at h2
        refine hg.dn G3 F [] ρ2 σ2 H' _ x ρ3 _ R3 e3 fun σ4 k4 _ R4 => ?_
        cases e4 : mAsg kp i (mCall mf [] ma) ρ3 with
        | none => rw [e4] at h2; cases h2
        | some o4 =>
          rw [e4] at h2
          refine asgF_den hta (((ex.trans ex1).trans ex2).trans ex3) R4 e4 fun ρ5 ho G5 σ5 H5 ex5 k5 R5 fr5 => ?_
          subst ho
          exact ⟨ρ5, G5, (ex2.trans ex3).trans ex5, (k2.trans k4).trans k5, R5, fr5, h2⟩
    · have e : j = ds.length := by omega
      subst e
      rw [List.drop_length] at h2
      cases h2
      exact .inl ⟨hstop, q G2 σ2 H2 ((ex.trans ex1).trans ex2) k2 R2 fr2⟩⟩
theorem keep_var {j : Nat} {ρ ρ' : List Sl} {r : Sl} (h : mVar j ρ = some (r, ρ')) : KeepV i ρ ρ' := by
  intro d hd
  unfold mVar at h
  split at h
  · cases h; exact hd
  · cases h; exact hd
  · rename_i ds e1
    cases h
    have ne : j ≠ i := fun e => by
      subst e
      rw [hd] at e1
      cases e1
    rw [List.getElem?_set_ne ne]
    exact hd
  · cases h
theorem keep_call1 {j : Nat} {ρ ρ' : List Sl} {r : Sl} (h : mCall mf [] (mCons (mVar j) mNil) ρ = some (r, ρ')) : KeepV i ρ ρ' := by
  cases e1 : mVar j ρ with
  | none =>
    have h0 : mCons (mVar j) mNil ρ = none := by
      unfold mCons
      rw [e1]
    unfold mCall at h
    rw [h0] at h
    cases h
  | some p =>
    obtain ⟨x, ρ1⟩ := p
    have h0 : mCons (mVar j) mNil ρ = some ([x], ρ1) := by
      unfold mCons
      rw [e1]
      rfl
    unfold mCall at h
    rw [h0] at h
    simp only [List.map_nil, List.append_nil] at h
    cases e2 : mf [x] with
    | none => rw [e2] at h; cases h
    | some p2 =>
      rw [e2] at h
      cases h
      exact keep_var e1
theorem noRt_none : NoRt mNone := fun _ _ _ h => nomatch h
theorem mssF_asgF2 {es tgs : List Expr} {fe : Expr} {p1 p2 : Pos} {m0 : MS} (h1 : MSt X kp (.Assign tgs (.Call fe es [] p1) p2) (tAsg (tCall (spF X.K mf) [] E0 ta) (gName i)) m0) (hta : MEA X X.K es ta ma) (h2 : MSsK X kp i rest u m') :
    MSsF X kp (.Assign tgs (.Call fe es [] p1) p2 :: rest) (tSeq (tAsg (tCall (spF X.K mf) [] E0 ta) (gName i)) u) (mSeq (mAsg kp i (mCall mf [] ma)) m') := mssF_asgF h1.pe hta.dn h2
theorem msK_forF2 {es tgs : List Expr} {fe : Expr} {p1 p2 : Pos} {m0 : MS} {tg iter : Expr} (hp : PassesOwn (model X.prog X.w) X.A X.env X.xe) (hc : X.calm = true) (hi : MIt X X.K tg iter wi mi) (hik : ∀ ρ ds ρ', mi ρ = some (ds, ρ') → KeepV i ρ ρ') (hg : MGt X X.K kp vs tg g mg)
    (hb : MSt X kp (.Assign tgs (.Call fe es [] p1) p2) (tAsg (tCall (spF X.K mf) [] E0 ta) (gName i)) m0) (hta : MEA X X.K es ta ma)
    (hs : ∀ x, foldedSetIterable iter X.env x = pure x := by intro _; rfl) : MStK X kp i (.For tg iter [.Assign tgs (.Call fe es [] p1) p2] [] pos) (tFor wi g (tAsg (tCall (spF X.K mf) [] E0 ta) (gName i))) (mFor mi mg (mAsg kp i (mCall mf [] ma))) := msK_forF hp hc hi hik hg (pss_one hb.pe) hta.dn hs
theorem keep_str {j : Nat} {ρ ρ' : List Sl} {ds : List D} (h : miStr (mVar j) ρ = some (ds, ρ')) : KeepV i ρ ρ' := by
  unfold miStr at h
  split at h
  · rename_i x ρ1 e1
    cases h
    exact keep_var e1
  · cases h
end
end Dn

namespace Dn
open PySem PySem.Spec PyProof.Rows L2
open Evl (Ex)
/-! ### x += ys, an own list and one made for it -/
def mAugL (i : Nat) (a : MX) : MS := fun ρ => match ρ[i]? with
  | some (.own _) => match a ρ with
    | some (.own es, ρ1) => match ρ1[i]? with
      | some (.own ds) => if ds.length + es.length ≤ sizeLine then some (.nx (ρ1.set i (.own (ds ++ es)))) else none
      | _ => none
    | _ => none
  | _ => none
@[simp] theorem mAugL_ap (i : Nat) (a : MX) (ρ : List Sl) : mAugL i a ρ = (match ρ[i]? with
  | some (.own _) => match a ρ with
    | some (.own es, ρ1) => match ρ1[i]? with
      | some (.own ds) => if ds.length + es.length ≤ sizeLine then some (.nx (ρ1.set i (.own (ds ++ es)))) else none
      | _ => none
    | _ => none
  | _ => none) := rfl
section
variable {K : PySem.W.Frag} {X : Cx} {e : Expr} {te : TE} {me : MX} {i : Nat} {kp : Nat → Bool} {x : Str} {p pos : Pos}
theorem set_same {σ : L2.St} {o : Option V} (h : σ[i]? = some o) : σ.set i o = σ := by
  have hi := (List.getElem?_eq_some_iff.mp h)
  obtain ⟨h1, h2⟩ := hi
  rw [← h2]
  exact List.set_getElem_self h1
theorem denS_augL (h1 : Den K te me) : DenS K kp (tAug i te rExt2) (mAugL i me) := by
  intro G F ρ σ H D o R h q
  unfold mAugL at h
  split at h
  · rename_i ds0 hs0
    split at h
    · rename_i es ρ1 e1
      split at h
      · rename_i ds hs
        split at h
        · rename_i hl
          cases h
          obtain ⟨a, us, haσ, hH0, _⟩ := R.ownVar hs0
          refine ⟨_, haσ, ?_⟩
          refine h1 G F [] ρ σ H _ ρ1 _ R e1 fun v G1 H1 ex1 R1 => ?_
          obtain ⟨b, ws, ev, hb, hg, _, hr⟩ := R1.fst
          cases ev
          obtain ⟨a', us', ha', hH, hrs⟩ := R1.ownVar hs
          rw [haσ] at ha'
          cases ha'
          refine ⟨a, b, us', ws, rfl, rfl, hH, hb, by rw [hrs.len, hr.len]; exact hl, ?_⟩
          show D.nx (List.set σ i (some (V.ref a))) _
          rw [set_same haσ]
          exact q G1 σ _ ex1 (Kept.refl kp σ) (R1.drop.mutVar hs haσ (hrs.app hr))
        · cases h
      · cases h
    · cases h
  · cases h
theorem ms_augL (i : Nat) (h1 : ME X X.K e te me) (hN : X.N.Nodup) (hi : X.N[i]? = some x := by rfl) (hx : Loc X.env.scope x := by first | exact Or.inl rfl | exact Or.inr rfl) (hv : X.fn x = true ∨ X.env.scope.names.lookup x = some .local := by first | exact .inl rfl | exact .inr rfl) : MSt X kp (.AugAssign (.Name x p) .Add e pos) (tAug i te rExt2) (mAugL i me) :=
  ⟨ps_aug hN hi hx h1.pe iop_ext, denS_augL h1.dn⟩
end
end Dn

namespace PR
open PySem PySem.Spec PyProof.Rows L2 Dn
/-- slots of is_whole: 0 thing, 1 least -/
def mb_is_whole : MS :=
  mRet (mAndV (mUn (fIsi ["int"]) (mVar 0)) (mAndV (mNotV (mUn (fIsi ["bool"]) (mVar 0))) (mBin (fB fun i j => decide (j ≤ i)) (mVar 0) (mVar 1))))
def mf_is_whole : MF := mDef 2 2 (fun _ => false) mb_is_whole
end PR
namespace PR
open PySem PySem.Spec PyProof.Rows L2 Dn
/-- slots of is_stretch: 0 thing, 1 free, 2 first, 3 last -/
def mb_is_stretch : MS :=
  mSeq (mIfS (mTOr (mTNot (mTru (mUn (fIsi ["list", "tuple"]) (mVar 0)))) (mB (mBin (fEq true) (mFn fLen (mCons (mVar 0) (mNil))) (mC (.int 2))))) (mRet (mC (.bool false))) (mNext)) (mSeq (mAsgT (mVar 0) (mgL (fun _ => false) [2, 3])) (mRet (mAndV (mCall PR.mf_is_whole [] (mCons (mVar 2) (mCons (mVar 1) (mNil)))) (mCall PR.mf_is_whole [] (mCons (mVar 3) (mCons (mVar 2) (mNil)))))))
def mf_is_stretch : MF := mDef 2 4 (fun _ => false) mb_is_stretch
end PR
namespace PR
open PySem PySem.Spec PyProof.Rows L2 Dn
/-- slots of is_row: 0 thing, 1 free, 2 stretch -/
def mb_is_row : MS :=
  mSeq (mIfS (mTNot (mTru (mUn (fIsi ["list", "tuple"]) (mVar 0)))) (mRet (mC (.bool false))) (mNext)) (mSeq (mAsg (fun _ => false) 1 (mC (.int 1))) (mSeq (mFor (miS (mVar 0)) (mgN (fun _ => false) 2) (mSeq (mIfS (mTNot (mTru (mCall PR.mf_is_stretch [] (mCons (mVar 2) (mCons (mVar 1) (mNil)))))) (mRet (mC (.bool false))) (mNext)) (mAsg (fun _ => false) 1 (mBin fAdd (mBin fIx (mVar 2) (mC (.int 1))) (mC (.int 2)))))) (mRet (mC (.bool true)))))
def mf_is_row : MF := mDef 1 3 (fun _ => false) mb_is_row
end PR
namespace PR
open PySem PySem.Spec PyProof.Rows L2 Dn
/-- slots of given_row: 0 row, 1 first, 2 last -/
def mb_given_row : MS :=
  mSeq (mIfS (mTNot (mTru (mCall PR.mf_is_row [] (mCons (mVar 0) (mNil))))) (mNone) (mNext)) (mRet (mComp (miS (mVar 0)) (mgL (fun _ => false) [1, 2]) (mTYes) (mTup (mCons (mVar 1) (mCons (mVar 2) (mNil)))) [1, 2]))
def mf_given_row : MF := mDef 1 3 (fun _ => false) mb_given_row
end PR
namespace PR
open PySem PySem.Spec PyProof.Rows L2 Dn
/-- slots of check_place: 0 place, 1 least -/
def mb_check_place : MS :=
  mIfS (mTNot (mTru (mCall PR.mf_is_whole [] (mCons (mVar 0) (mCons (mVar 1) (mNil)))))) (mNone) (mNext)
def mf_check_place : MF := mDef 2 2 (fun _ => false) mb_check_place
end PR
namespace PR
open PySem PySem.Spec PyProof.Rows L2 Dn
/-- slots of count_heads: 0 stretches, 1 first, 2 last -/
def mb_count_heads : MS :=
  mRet (mFn fSum (mCons (mComp (miS (mVar 0)) (mgL (fun _ => false) [1, 2]) (mTYes) (mBin fAdd (mBin (fI (fun _ _ => true) fun i j => i - j) (mVar 2) (mVar 1)) (mC (.int 1))) [1, 2]) (mNil)))
def mf_count_heads : MF := mDef 1 3 (fun _ => false) mb_count_heads
end PR
namespace PR
open PySem PySem.Spec PyProof.Rows L2 Dn
/-- slots of heads: 0 row -/
def mb_heads : MS :=
  mRet (mCall PR.mf_count_heads [] (mCons (mCall PR.mf_given_row [] (mCons (mVar 0) (mNil))) (mNil)))
def mf_heads : MF := mDef 1 1 (fun _ => false) mb_heads
end PR
namespace PR
open PySem PySem.Spec PyProof.Rows L2 Dn
/-- slots of shows: 0 row, 1 place, 2 stretches, 3 first, 4 last -/
def mb_shows : MS :=
  mSeq (mAsg (fun _ => false) 2 (mCall PR.mf_given_row [] (mCons (mVar 0) (mNil)))) (mSeq (mExpr (mCall PR.mf_check_place [] (mCons (mVar 1) (mCons (mC (.int 1)) (mNil))))) (mRet (mFn fAny (mCons (mComp (miS (mVar 2)) (mgL (fun _ => false) [3, 4]) (mTYes) (mChain (fun i j => decide (i ≤ j)) (fun i j => decide (i ≤ j)) (mVar 3) (mVar 1) (mVar 4)) [3, 4]) (mNil)))))
def mf_shows : MF := mDef 2 5 (fun _ => false) mb_shows
end PR
namespace PR
open PySem PySem.Spec PyProof.Rows L2 Dn
/-- slots of heads_to: 0 row, 1 place, 2 stretches, 3 first, 4 last -/
def mb_heads_to : MS :=
  mSeq (mAsg (fun _ => false) 2 (mCall PR.mf_given_row [] (mCons (mVar 0) (mNil)))) (mSeq (mExpr (mCall PR.mf_check_place [] (mCons (mVar 1) (mCons (mC (.int 0)) (mNil))))) (mRet (mCall PR.mf_count_heads [] (mCons (mComp (miS (mVar 2)) (mgL (fun _ => false) [3, 4]) (mB (mBin (fB fun i j => decide (i ≤ j)) (mVar 3) (mVar 1))) (mTup (mCons (mVar 3) (mCons (mFn fMin2 (mCons (mVar 4) (mCons (mVar 1) (mNil)))) (mNil)))) [3, 4]) (mNil)))))
def mf_heads_to : MF := mDef 2 5 (fun _ => false) mb_heads_to
end PR
namespace PR
open PySem PySem.Spec PyProof.Rows L2 Dn
/-- slots of nth: 0 row, 1 number, 2 stretches, 3 left, 4 first, 5 last, 6 here -/
def mb_nth : MS :=
  mSeq (mAsg (fun _ => false) 2 (mCall PR.mf_given_row [] (mCons (mVar 0) (mNil)))) (mSeq (mIfS (mTNot (mTru (mCall PR.mf_is_whole [] (mCons (mVar 1) (mCons (mC (.int 1)) (mNil)))))) (mNone) (mNext)) (mSeq (mAsg (fun _ => false) 3 (mVar 1)) (mSeq (mFor (miS (mVar 2)) (mgL (fun _ => false) [4, 5]) (mSeq (mAsg (fun _ => false) 6 (mBin fAdd (mBin (fI (fun _ _ => true) fun i j => i - j) (mVar 5) (mVar 4)) (mC (.int 1)))) (mSeq (mIfS (mB (mBin (fB fun i j => decide (i ≤ j)) (mVar 3) (mVar 6))) (mRet (mBin (fI (fun _ _ => true) fun i j => i - j) (mBin fAdd (mVar 4) (mVar 3)) (mC (.int 1)))) (mNext)) (mAug (fun _ => false) 3 (fun i j => i - j) (mVar 6))))) (mNone))))
def mf_nth : MF := mDef 2 7 (fun _ => false) mb_nth
end PR
namespace PR
open PySem PySem.Spec PyProof.Rows L2 Dn
/-- slots of added: 0 row, 1 first, 2 last -/
def mb_added : MS :=
  mRet (mFn fSum (mCons (mComp (miN (mCall PR.mf_given_row [] (mCons (mVar 0) (mNil)))) (mgL (fun _ => false) [1, 2]) (mTYes) (mBin (fI cDiv fun i j => i / j) (mBin fMul (mBin fAdd (mVar 1) (mVar 2)) (mBin fAdd (mBin (fI (fun _ _ => true) fun i j => i - j) (mVar 2) (mVar 1)) (mC (.int 1)))) (mC (.int 2))) [1, 2]) (mNil)))
def mf_added : MF := mDef 1 3 (fun _ => false) mb_added
end PR
namespace PR
open PySem PySem.Spec PyProof.Rows L2 Dn
/-- slots of last_of: 0 stretches -/
def mb_last_of : MS :=
  mRet (mIf (mTru (mVar 0)) (mBin fIx (mBin fIx (mVar 0) (mUn fNeg (mC (.int 1)))) (mC (.int 1))) (mC (.int 0)))
def mf_last_of : MF := mDef 1 1 (fun _ => false) mb_last_of
end PR
namespace PR
open PySem PySem.Spec PyProof.Rows L2 Dn
/-- slots of last_place: 0 row -/
def mb_last_place : MS :=
  mRet (mCall PR.mf_last_of [] (mCons (mCall PR.mf_given_row [] (mCons (mVar 0) (mNil))) (mNil)))
def mf_last_place : MF := mDef 1 1 (fun _ => false) mb_last_place
end PR
namespace LA
open PySem PySem.Spec PyProof.Rows L2 Dn
/-- slots of _law_bank: 0 cell, 1 k -/
def mb__law_bank : MS :=
  mRet (mLst (mCons (mFn fMax2 (mCons (mC (.int 0)) (mCons (mBin (fI (fun _ _ => true) fun i j => i - j) (mVar 0) (mBin (fI cPow fun i j => i ^ j.toNat) (mC (.int 10)) (mC (.int 18)))) (mNil)))) (mCons (mBin fAdd (mBin (fI cMod fun i j => i % j) (mVar 0) (mBin fAdd (mBin (fI cPow fun i j => i ^ j.toNat) (mC (.int 10)) (mC (.int 43))) (mC (.int 57)))) (mBin fMul (mC (.int 6151)) (mVar 1))) (mCons (mC (.int 0)) (mNil)))))
def mf__law_bank : MF := mDef 2 2 (fun _ => false) mb__law_bank
end LA
namespace LA
open PySem PySem.Spec PyProof.Rows L2 Dn
/-- slots of _law_flip: 0 bank, 1 many, 2 found, 3 minted -/
def mb__law_flip : MS :=
  mSeq (mIfS (mB (mBin (fB fun i j => decide (j < i)) (mIxO 0 (mC (.int 0))) (mC (.int 0)))) (mSeq (mAsg (fun j => j == 0) 2 (mBin (fI cMod fun i j => i % j) (mIxO 0 (mC (.int 0))) (mVar 1))) (mSeq (mSetO 0 (mC (.int 0)) (mBin (fI cDiv fun i j => i / j) (mIxO 0 (mC (.int 0))) (mVar 1))) (mRet (mVar 2)))) (mNext)) (mSeq (mAugO 0 (fun i j => i + j) (mC (.int 2)) (mC (.int 1))) (mSeq (mAsg (fun j => j == 0) 3 (mBin (fI cMod fun i j => i % j) (mBin (fI cPow fun i j => i ^ j.toNat) (mBin fAdd (mIxO 0 (mC (.int 1))) (mBin fMul (mC (.int 779971)) (mIxO 0 (mC (.int 2))))) (mC (.int 3))) (mBin fAdd (mBin (fI cPow fun i j => i ^ j.toNat) (mC (.int 10)) (mC (.int 40))) (mC (.int 121))))) (mSeq (mAsg (fun j => j == 0) 3 (mBin (fI cMod fun i j => i % j) (mBin (fI cPow fun i j => i ^ j.toNat) (mBin fAdd (mBin fMul (mVar 3) (mVar 3)) (mBin fMul (mC (.int 15485867)) (mIxO 0 (mC (.int 2))))) (mC (.int 3))) (mBin fAdd (mBin (fI cPow fun i j => i ^ j.toNat) (mC (.int 10)) (mC (.int 37))) (mC (.int 43))))) (mRet (mBin (fI cMod fun i j => i % j) (mBin (fI cDiv fun i j => i / j) (mVar 3) (mC (.int 4096))) (mVar 1))))))
def mf__law_flip : MF := mDef 2 4 (fun j => j == 0) mb__law_flip
end LA
namespace LA
open PySem PySem.Spec PyProof.Rows L2 Dn
/-- slots of _law_strip: 0 bank, 1 many, 2 sort, 3 found, 4 at, 5 k, 6 wide, 7 first -/
def mb__law_strip : MS :=
  mSeq (mAsg (fun j => j == 0) 1 (mBin fIx (mLst (mCons (mCallM LA.mf__law_flip 0 [] (mCons (mC (.int 4)) (mNil))) (mCons (mCallM LA.mf__law_flip 0 [] (mCons (mC (.int 9)) (mNil))) (mCons (mCallM LA.mf__law_flip 0 [] (mCons (mC (.int 31)) (mNil))) (mCons (mC (.int 30)) (mNil)))))) (mCallM LA.mf__law_flip 0 [] (mCons (mC (.int 4)) (mNil))))) (mSeq (mAsg (fun j => j == 0) 2 (mCallM LA.mf__law_flip 0 [] (mCons (mC (.int 3)) (mNil)))) (mSeq (mAsg (fun j => j == 0) 3 (mLst (mNil))) (mSeq (mAsg (fun j => j == 0) 4 (mC (.int 0))) (mSeq (mFor (miR1 (mCons (mVar 1) (mNil))) (mgN (fun j => j == 0) 5) (mSeq (mAsg (fun j => j == 0) 6 (mLst (mCons (mC (.int 1)) (mCons (mBin fAdd (mC (.int 1)) (mCallM LA.mf__law_flip 0 [] (mCons (mC (.int 5)) (mNil)))) (mCons (mBin fAdd (mC (.int 1)) (mCallM LA.mf__law_flip 0 [] (mCons (mBin (fI cPow fun i j => i ^ j.toNat) (mC (.int 10)) (mC (.int 38))) (mNil)))) (mNil)))))) (mSeq (mAsg (fun j => j == 0) 7 (mBin (fI (fun _ _ => true) fun i j => i - j) (mBin fAdd (mBin fAdd (mVar 4) (mC (.int 1))) (mBin fIx (mVar 6) (mBin fIx (mLst (mCons (mC (.int 0)) (mCons (mC (.int 1)) (mCons (mCallM LA.mf__law_flip 0 [] (mCons (mC (.int 3)) (mNil))) (mNil))))) (mVar 2)))) (mFn fInt (mCons (mAndV (mBin (fEq false) (mVar 5) (mC (.int 0))) (mBin (fEq false) (mCallM LA.mf__law_flip 0 [] (mCons (mC (.int 2)) (mNil))) (mC (.int 0)))) (mNil))))) (mSeq (mAsg (fun j => j == 0) 4 (mBin (fI (fun _ _ => true) fun i j => i - j) (mBin fAdd (mVar 7) (mBin fIx (mVar 6) (mBin fIx (mLst (mCons (mCallM LA.mf__law_flip 0 [] (mCons (mC (.int 2)) (mNil))) (mCons (mC (.int 1)) (mCons (mCallM LA.mf__law_flip 0 [] (mCons (mC (.int 3)) (mNil))) (mNil))))) (mVar 2)))) (mC (.int 1)))) (mExpr (mMeth 3 fApp (mCons (mTup (mCons (mVar 7) (mCons (mVar 4) (mNil)))) (mNil)))))))) (mRetO 3)))))
def mf__law_strip : MF := mDef 1 8 (fun j => j == 0) mb__law_strip
end LA
namespace LA
open PySem PySem.Spec PyProof.Rows L2 Dn
/-- slots of _law_handed: 0 bank, 1 strip, 2 some, 3 first, 4 last -/
def mb__law_handed : MS :=
  mSeq (mAsg (fun j => j == 0) 2 (mLst (mNil))) (mSeq (mFor (miS (mVar 1)) (mgL (fun j => j == 0) [3, 4]) (mExpr (mMeth 2 fApp (mCons (mIf (mB (mBin (fEq false) (mCallM LA.mf__law_flip 0 [] (mCons (mC (.int 4)) (mNil))) (mC (.int 0)))) (mLst (mCons (mVar 3) (mCons (mVar 4) (mNil)))) (mTup (mCons (mVar 3) (mCons (mVar 4) (mNil))))) (mNil))))) (mRet (mIf (mB (mBin (fEq false) (mCallM LA.mf__law_flip 0 [] (mCons (mC (.int 3)) (mNil))) (mC (.int 0)))) (mFn fTuple (mCons (mVar 2) (mNil))) (mVar 2))))
def mf__law_handed : MF := mDef 2 5 (fun j => j == 0) mb__law_handed
end LA
namespace LA
open PySem PySem.Spec PyProof.Rows L2 Dn
/-- slots of _law_same: 0 found, 1 due, 2 one, 3 other -/
def mb__law_same (self : MF) : MS :=
  mSeq (mIfS (mTru (mUn (fIsi ["list", "tuple"]) (mVar 1))) (mSeq (mIfS (mTOr (mTNot (mTru (mUn (fIsi ["list", "tuple"]) (mVar 0)))) (mB (mBin (fEq true) (mUn (fIsi ["list"]) (mVar 0)) (mUn (fIsi ["list"]) (mVar 1))))) (mRet (mC (.bool false))) (mNext)) (mRet (mAndV (mBin (fEq false) (mFn fLen (mCons (mVar 0) (mNil))) (mFn fLen (mCons (mVar 1) (mNil)))) (mFn fAll (mCons (mComp (miZ (mCons (mVar 0) (mCons (mVar 1) (mNil)))) (mgL (fun _ => false) [2, 3]) (mTYes) (mCall self [] (mCons (mVar 2) (mCons (mVar 3) (mNil)))) [2, 3]) (mNil)))))) (mNext)) (mSeq (mIfS (mTOr (mTru (mUn (fIsi ["bool", "str"]) (mVar 1))) (mB (mBin (fIsN false) (mVar 1) (mC .none)))) (mRet (mAndV (mBin (fEq false) (mUn (fIsi ["bool"]) (mVar 0)) (mUn (fIsi ["bool"]) (mVar 1))) (mBin (fEq false) (mVar 0) (mVar 1)))) (mNext)) (mRet (mAndV (mUn (fIsi ["int"]) (mVar 0)) (mAndV (mNotV (mUn (fIsi ["bool"]) (mVar 0))) (mBin (fEq false) (mVar 0) (mVar 1))))))
def mf__law_same : Nat → MF
  | 0 => fun _ => none
  | n + 1 => mDef 2 4 (fun _ => false) (mb__law_same (mf__law_same n))
end LA
namespace LA
open PySem PySem.Spec PyProof.Rows L2 Dn
/-- slots of _law_spot: 0 bank, 1 strip, 2 near, 3 first, 4 last -/
def mb__law_spot : MS :=
  mSeq (mAsg (fun j => j == 0) 2 (mBin fAdd (mC (.int 1)) (mCallM LA.mf__law_flip 0 [] (mCons (mC (.int 3)) (mNil))))) (mSeq (mIfS (mB (mBin (fEq true) (mVar 1) (mLst (mNil)))) (mSeq (mAsgT (mBin fIx (mVar 1) (mCallM LA.mf__law_flip 0 [] (mCons (mFn fLen (mCons (mVar 1) (mNil))) (mNil)))) (mgL (fun j => j == 0) [3, 4])) (mAsg (fun j => j == 0) 2 (mBin fIx (mLst (mCons (mVar 3) (mCons (mVar 4) (mCons (mBin (fI (fun _ _ => true) fun i j => i - j) (mVar 3) (mC (.int 1))) (mCons (mBin fAdd (mVar 4) (mC (.int 1))) (mCons (mBin fAdd (mVar 3) (mBin (fI cDiv fun i j => i / j) (mBin (fI (fun _ _ => true) fun i j => i - j) (mVar 4) (mVar 3)) (mC (.int 2)))) (mCons (mBin fAdd (mVar 4) (mC (.int 2))) (mNil)))))))) (mCallM LA.mf__law_flip 0 [] (mCons (mC (.int 6)) (mNil)))))) (mNext)) (mRet (mBin fIx (mLst (mCons (mVar 2) (mCons (mVar 2) (mCons (mVar 2) (mCons (mBin fAdd (mC (.int 1)) (mCallM LA.mf__law_flip 0 [] (mCons (mC (.int 6)) (mNil)))) (mCons (mBin (fI (fun _ _ => true) fun i j => i - j) (mBin (fI cPow fun i j => i ^ j.toNat) (mC (.int 10)) (mC (.int 40))) (mC (.int 1))) (mNil))))))) (mCallM LA.mf__law_flip 0 [] (mCons (mC (.int 5)) (mNil))))))
def mf__law_spot : MF := mDef 2 5 (fun j => j == 0) mb__law_spot
end LA
namespace LA
open PySem PySem.Spec PyProof.Rows L2 Dn
/-- slots of _law_up_to: 0 strip, 1 place, 2 many, 3 here, 4 first, 5 last -/
def mb__law_up_to : MS :=
  mSeq (mAsg (fun _ => false) 2 (mC (.int 0))) (mSeq (mAsg (fun _ => false) 3 (mC (.bool false))) (mSeq (mFor (miS (mVar 0)) (mgL (fun _ => false) [4, 5]) (mSeq (mAsg (fun _ => false) 2 (mBin fAdd (mVar 2) (mFn fMax2 (mCons (mC (.int 0)) (mCons (mBin fAdd (mBin (fI (fun _ _ => true) fun i j => i - j) (mFn fMin2 (mCons (mVar 5) (mCons (mVar 1) (mNil)))) (mVar 4)) (mC (.int 1))) (mNil)))))) (mAsg (fun _ => false) 3 (mOrV (mVar 3) (mChain (fun i j => decide (i ≤ j)) (fun i j => decide (i ≤ j)) (mVar 4) (mVar 1) (mVar 5)))))) (mRet (mLst (mCons (mVar 2) (mCons (mVar 3) (mNil)))))))
def mf__law_up_to : MF := mDef 2 6 (fun _ => false) mb__law_up_to
end LA
namespace LA
open PySem PySem.Spec PyProof.Rows L2 Dn
/-- slots of _law_manieth: 0 strip, 1 number, 2 first, 3 last -/
def mb__law_manieth : MS :=
  mSeq (mFor (miS (mVar 0)) (mgL (fun _ => false) [2, 3]) (mSeq (mIfS (mB (mBin (fB fun i j => decide (i ≤ j)) (mVar 1) (mBin fAdd (mBin (fI (fun _ _ => true) fun i j => i - j) (mVar 3) (mVar 2)) (mC (.int 1))))) (mRet (mBin (fI (fun _ _ => true) fun i j => i - j) (mBin fAdd (mVar 2) (mVar 1)) (mC (.int 1)))) (mNext)) (mAsg (fun _ => false) 1 (mBin (fI (fun _ _ => true) fun i j => i - j) (mVar 1) (mBin fAdd (mBin (fI (fun _ _ => true) fun i j => i - j) (mVar 3) (mVar 2)) (mC (.int 1))))))) (mRet (mC .none))
def mf__law_manieth : MF := mDef 2 4 (fun _ => false) mb__law_manieth
end LA
namespace PR
open PySem PySem.Spec PyProof.Rows L2 Dn
/-- slots of parted: 0 stretch, 1 place, 2 first, 3 last, 4 parts, 5 low, 6 high -/
def mb_parted : MS :=
  mSeq (mAsgT (mVar 0) (mgL (fun _ => false) [2, 3])) (mSeq (mAsg (fun _ => false) 4 (mLst (mCons (mTup (mCons (mVar 2) (mCons (mBin (fI (fun _ _ => true) fun i j => i - j) (mVar 1) (mC (.int 1))) (mNil)))) (mCons (mTup (mCons (mBin fAdd (mVar 1) (mC (.int 1))) (mCons (mVar 3) (mNil)))) (mNil))))) (mRet (mComp (miS (mVar 4)) (mgL (fun _ => false) [5, 6]) (mB (mBin (fB fun i j => decide (i ≤ j)) (mVar 5) (mVar 6))) (mTup (mCons (mVar 5) (mCons (mVar 6) (mNil)))) [5, 6])))
def mf_parted : MF := mDef 2 7 (fun _ => false) mb_parted
end PR
namespace PR
open PySem PySem.Spec PyProof.Rows L2 Dn
/-- slots of flipped: 0 stretches, 1 place, 2 ahead, 3 behind, 4 first, 5 last, 6 stretch -/
def mb_flipped : MS :=
  mSeq (mIfS (mB (mBin (fEq false) (mVar 1) (mC (.int 0)))) (mRet (mFn fList (mCons (mVar 0) (mNil)))) (mNext)) (mSeq (mAsg (fun _ => false) 2 (mComp (miS (mVar 0)) (mgN (fun _ => false) 6) (mB (mBin (fB fun i j => decide (i < j)) (mBin fIx (mVar 6) (mC (.int 1))) (mVar 1))) (mVar 6) [6])) (mSeq (mAsg (fun _ => false) 3 (mComp (miS (mVar 0)) (mgN (fun _ => false) 6) (mB (mBin (fB fun i j => decide (j < i)) (mBin fIx (mVar 6) (mC (.int 0))) (mVar 1))) (mVar 6) [6])) (mSeq (mIfS (mB (mBin (fB fun i j => decide (i < j)) (mBin fAdd (mLenO 2) (mLenO 3)) (mFn fLen (mCons (mVar 0) (mNil))))) (mRet (mBin fAdd (mBin fAdd (mVar 2) (mCall PR.mf_parted [] (mCons (mBin fIx (mVar 0) (mLenO 2)) (mCons (mVar 1) (mNil))))) (mVar 3))) (mNext)) (mSeq (mAsg2 (fun _ => false) 4 5 (mVar 1)) (mSeq (mIfS (mTAnd (mTruO 2) (mB (mBin (fEq false) (mBin fIx (mIxO 2 (mUn fNeg (mC (.int 1)))) (mC (.int 1))) (mBin (fI (fun _ _ => true) fun i j => i - j) (mVar 1) (mC (.int 1)))))) (mAsg (fun _ => false) 4 (mBin fIx (mMeth 2 fPop mNil) (mC (.int 0)))) (mNext)) (mSeq (mIfS (mTAnd (mTruO 3) (mB (mBin (fEq false) (mBin fIx (mIxO 3 (mC (.int 0))) (mC (.int 0))) (mBin fAdd (mVar 1) (mC (.int 1)))))) (mAsg (fun _ => false) 5 (mBin fIx (mMeth 3 fPop0 (mCons (mC (.int 0)) (mNil))) (mC (.int 1)))) (mNext)) (mRet (mBin fAdd (mBin fAdd (mVar 2) (mLst (mCons (mTup (mCons (mVar 4) (mCons (mVar 5) (mNil)))) (mNil)))) (mVar 3)))))))))
def mf_flipped : MF := mDef 2 7 (fun _ => false) mb_flipped
end PR
namespace PR
open PySem PySem.Spec PyProof.Rows L2 Dn
/-- slots of turned_over: 0 row, 1 place, 2 stretches -/
def mb_turned_over : MS :=
  mSeq (mAsg (fun _ => false) 2 (mCall PR.mf_given_row [] (mCons (mVar 0) (mNil)))) (mSeq (mExpr (mCall PR.mf_check_place [] (mCons (mVar 1) (mCons (mC (.int 0)) (mNil))))) (mRet (mCall PR.mf_flipped [] (mCons (mVar 2) (mCons (mVar 1) (mNil))))))
def mf_turned_over : MF := mDef 2 3 (fun _ => false) mb_turned_over
end PR
namespace LA
open PySem PySem.Spec PyProof.Rows L2 Dn
/-- slots of _law_over: 0 strip, 1 place, 2 found, 3 low, 4 high, 5 inside, 6 first, 7 last -/
def mb__law_over : MS :=
  mSeq (mIfS (mB (mBin (fEq false) (mVar 1) (mC (.int 0)))) (mRet (mFn fList (mCons (mVar 0) (mNil)))) (mNext)) (mSeq (mAsg (fun _ => false) 2 (mLst (mNil))) (mSeq (mPar (fun _ => false) 3 4 (mVar 1) (mVar 1)) (mSeq (mAsg (fun _ => false) 5 (mC (.bool false))) (mSeq (mFor (miS (mVar 0)) (mgL (fun _ => false) [6, 7]) (mIfS (mB (mChain (fun i j => decide (i ≤ j)) (fun i j => decide (i ≤ j)) (mVar 6) (mVar 1) (mVar 7))) (mSeq (mAsg (fun _ => false) 5 (mC (.bool true))) (mAsg (fun _ => false) 2 (mBin fAdd (mBin fAdd (mVar 2) (mBin fMul (mLst (mCons (mTup (mCons (mVar 6) (mCons (mBin (fI (fun _ _ => true) fun i j => i - j) (mVar 1) (mC (.int 1))) (mNil)))) (mNil))) (mFn fInt (mCons (mBin (fB fun i j => decide (i < j)) (mVar 6) (mVar 1)) (mNil))))) (mBin fMul (mLst (mCons (mTup (mCons (mBin fAdd (mVar 1) (mC (.int 1))) (mCons (mVar 7) (mNil)))) (mNil))) (mFn fInt (mCons (mBin (fB fun i j => decide (i < j)) (mVar 1) (mVar 7)) (mNil))))))) (mIfS (mB (mBin (fEq false) (mVar 7) (mBin (fI (fun _ _ => true) fun i j => i - j) (mVar 1) (mC (.int 1))))) (mAsg (fun _ => false) 3 (mVar 6)) (mIfS (mB (mBin (fEq false) (mVar 6) (mBin fAdd (mVar 1) (mC (.int 1))))) (mAsg (fun _ => false) 4 (mVar 7)) (mExpr (mMeth 2 fApp (mCons (mTup (mCons (mVar 6) (mCons (mVar 7) (mNil)))) (mNil)))))))) (mRet (mIf (mTru (mVar 5)) (mFn fSortA (mCons (mVar 2) (mNil))) (mFn fSortA (mCons (mBin fAdd (mVar 2) (mLst (mCons (mTup (mCons (mVar 3) (mCons (mVar 4) (mNil)))) (mNil)))) (mNil)))))))))
def mf__law_over : MF := mDef 2 8 (fun _ => false) mb__law_over
end LA
namespace PR
open PySem PySem.Spec PyProof.Rows L2 Dn
/-- slots of check_places: 0 n, 1 stretches -/
def mb_check_places : MS :=
  mIfS (mTNot (mTru (mCall PR.mf_is_whole [] (mCons (mVar 0) (mCons (mCall PR.mf_last_of [] (mCons (mVar 1) (mNil))) (mNil)))))) (mNone) (mNext)
def mf_check_places : MF := mDef 2 2 (fun _ => false) mb_check_places
end PR
namespace PR
open PySem PySem.Spec PyProof.Rows L2 Dn
/-- slots of about: 0 row, 1 n, 2 stretches, 3 gaps, 4 free, 5 first, 6 last -/
def mb_about : MS :=
  mSeq (mAsg (fun _ => false) 2 (mCall PR.mf_given_row [] (mCons (mVar 0) (mNil)))) (mSeq (mExpr (mCall PR.mf_check_places [] (mCons (mVar 1) (mCons (mVar 2) (mNil))))) (mSeq (mAsg (fun _ => false) 3 (mLst (mNil))) (mSeq (mAsg (fun _ => false) 4 (mC (.int 1))) (mSeq (mFor (miN (mBin fAdd (mVar 2) (mLst (mCons (mTup (mCons (mBin fAdd (mVar 1) (mC (.int 1))) (mCons (mBin fAdd (mVar 1) (mC (.int 1))) (mNil)))) (mNil))))) (mgL (fun _ => false) [5, 6]) (mSeq (mIfS (mB (mBin (fB fun i j => decide (i < j)) (mVar 4) (mVar 5))) (mExpr (mMeth 3 fApp (mCons (mTup (mCons (mBin (fI (fun _ _ => true) fun i j => i - j) (mBin fAdd (mVar 1) (mC (.int 2))) (mVar 5)) (mCons (mBin (fI (fun _ _ => true) fun i j => i - j) (mBin fAdd (mVar 1) (mC (.int 1))) (mVar 4)) (mNil)))) (mNil)))) (mNext)) (mAsg (fun _ => false) 4 (mBin fAdd (mVar 6) (mC (.int 1)))))) (mRet (mUn fRevSl (mVar 3)))))))
def mf_about : MF := mDef 2 7 (fun _ => false) mb_about
end PR
namespace LA
open PySem PySem.Spec PyProof.Rows L2 Dn
/-- slots of _law_about: 0 strip, 1 n, 2 gaps, 3 low, 4 first, 5 last -/
def mb__law_about : MS :=
  mSeq (mAsg (fun _ => false) 2 (mLst (mNil))) (mSeq (mAsg (fun _ => false) 3 (mC (.int 1))) (mSeq (mFor (miS (mVar 0)) (mgL (fun _ => false) [4, 5]) (mSeq (mIfS (mB (mBin (fB fun i j => decide (j < i)) (mVar 4) (mVar 3))) (mExpr (mMeth 2 fApp (mCons (mTup (mCons (mVar 3) (mCons (mBin (fI (fun _ _ => true) fun i j => i - j) (mVar 4) (mC (.int 1))) (mNil)))) (mNil)))) (mNext)) (mAsg (fun _ => false) 3 (mBin fAdd (mVar 5) (mC (.int 1)))))) (mSeq (mIfS (mB (mBin (fB fun i j => decide (i ≤ j)) (mVar 3) (mVar 1))) (mExpr (mMeth 2 fApp (mCons (mTup (mCons (mVar 3) (mCons (mVar 1) (mNil)))) (mNil)))) (mNext)) (mRet (mComp (miN (mUn fRevSl (mVar 2))) (mgL (fun _ => false) [4, 5]) (mTYes) (mTup (mCons (mBin (fI (fun _ _ => true) fun i j => i - j) (mBin fAdd (mVar 1) (mC (.int 1))) (mVar 5)) (mCons (mBin (fI (fun _ _ => true) fun i j => i - j) (mBin fAdd (mVar 1) (mC (.int 1))) (mVar 4)) (mNil)))) [4, 5])))))
def mf__law_about : MF := mDef 2 6 (fun _ => false) mb__law_about
end LA
namespace PR
open PySem PySem.Spec PyProof.Rows L2 Dn
/-- slots of row_of: 0 places, 1 place, 2 stretches -/
def mb_row_of : MS :=
  mSeq (mIfS (mTNot (mTru (mUn (fIsi ["list", "tuple"]) (mVar 0)))) (mNone) (mNext)) (mSeq (mFor (miS (mVar 0)) (mgN (fun _ => false) 1) (mExpr (mCall PR.mf_check_place [] (mCons (mVar 1) (mCons (mC (.int 1)) (mNil)))))) (mSeq (mAsg (fun _ => false) 2 (mLst (mNil))) (mSeq (mFor (miN (mFn fSortB (mCons (mVar 0) (mNil)))) (mgN (fun _ => false) 1) (mSeq (mIfS (mB (mBin (fEq false) (mVar 1) (mCall PR.mf_last_of [] (mCons (mVar 2) (mNil))))) (mNone) (mNext)) (mAsg (fun _ => false) 2 (mCall PR.mf_flipped [] (mCons (mVar 2) (mCons (mVar 1) (mNil))))))) (mRetO 2))))
def mf_row_of : MF := mDef 1 3 (fun _ => false) mb_row_of
end PR
namespace PR
open PySem PySem.Spec PyProof.Rows L2 Dn
/-- slots of given_pair: 0 pair, 1 one, 2 other -/
def mb_given_pair : MS :=
  mSeq (mIfS (mTOr (mTNot (mTru (mUn (fIsi ["list", "tuple"]) (mVar 0)))) (mB (mBin (fEq true) (mFn fLen (mCons (mVar 0) (mNil))) (mC (.int 2))))) (mNone) (mNext)) (mSeq (mAsgT (mVar 0) (mgL (fun _ => false) [1, 2])) (mSeq (mIfS (mTOr (mTNot (mTru (mCall PR.mf_is_row [] (mCons (mVar 1) (mNil))))) (mTNot (mTru (mCall PR.mf_is_row [] (mCons (mVar 2) (mNil)))))) (mNone) (mNext)) (mRet (mTup (mCons (mCall PR.mf_given_row [] (mCons (mVar 1) (mNil))) (mCons (mCall PR.mf_given_row [] (mCons (mVar 2) (mNil))) (mNil)))))))
def mf_given_pair : MF := mDef 1 3 (fun _ => false) mb_given_pair
end PR
namespace PR
open PySem PySem.Spec PyProof.Rows L2 Dn
/-- slots of check_who: 0 who -/
def mb_check_who : MS :=
  mIfS (mTOr (mTNot (mTru (mUn (fIsi ["str"]) (mVar 0)))) (mB (mBin (fIn true) (mVar 0) (mTup (mCons (mC (.str "one")) (mCons (mC (.str "other")) (mNil))))))) (mNone) (mNext)
def mf_check_who : MF := mDef 1 1 (fun _ => false) mb_check_who
end PR
namespace PR
open PySem PySem.Spec PyProof.Rows L2 Dn
/-- slots of after_turn: 0 pair, 1 who, 2 one, 3 other -/
def mb_after_turn : MS :=
  mSeq (mAsgT (mVar 0) (mgL (fun _ => false) [2, 3])) (mSeq (mIfS (mB (mBin (fEq false) (mVar 1) (mC (.str "one")))) (mRet (mTup (mCons (mCall PR.mf_flipped [] (mCons (mVar 2) (mCons (mCall PR.mf_count_heads [] (mCons (mVar 3) (mNil))) (mNil)))) (mCons (mFn fList (mCons (mVar 3) (mNil))) (mNil))))) (mNext)) (mRet (mTup (mCons (mFn fList (mCons (mVar 2) (mNil))) (mCons (mCall PR.mf_flipped [] (mCons (mVar 3) (mCons (mCall PR.mf_count_heads [] (mCons (mVar 2) (mNil))) (mNil)))) (mNil))))))
def mf_after_turn : MF := mDef 2 4 (fun _ => false) mb_after_turn
end PR
namespace PR
open PySem PySem.Spec PyProof.Rows L2 Dn
/-- slots of turn: 0 pair, 1 who, 2 rows -/
def mb_turn : MS :=
  mSeq (mAsg (fun _ => false) 2 (mCall PR.mf_given_pair [] (mCons (mVar 0) (mNil)))) (mSeq (mExpr (mCall PR.mf_check_who [] (mCons (mVar 1) (mNil)))) (mRet (mCall PR.mf_after_turn [] (mCons (mVar 2) (mCons (mVar 1) (mNil))))))
def mf_turn : MF := mDef 2 3 (fun _ => false) mb_turn
end PR
namespace LB
open PySem PySem.Spec PyProof.Rows L2 Dn
/-- slots of _law_jar: 0 cell, 1 k -/
def mb__law_jar : MS :=
  mRet (mLst (mCons (mFn fMax2 (mCons (mC (.int 0)) (mCons (mBin (fI (fun _ _ => true) fun i j => i - j) (mVar 0) (mBin (fI cPow fun i j => i ^ j.toNat) (mC (.int 10)) (mC (.int 18)))) (mNil)))) (mCons (mBin fAdd (mBin fAdd (mBin (fI cPow fun i j => i ^ j.toNat) (mBin (fI cMod fun i j => i % j) (mVar 0) (mBin fAdd (mBin (fI cPow fun i j => i ^ j.toNat) (mC (.int 10)) (mC (.int 38))) (mC (.int 133)))) (mC (.int 3))) (mBin fMul (mC (.int 1299721)) (mVar 1))) (mC (.int 271828182845904523))) (mCons (mC (.int 0)) (mNil)))))
def mf__law_jar : MF := mDef 2 2 (fun _ => false) mb__law_jar
end LB
namespace LB
open PySem PySem.Spec PyProof.Rows L2 Dn
/-- slots of _law_pull: 0 jar, 1 count, 2 found -/
def mb__law_pull : MS :=
  mSeq (mIfS (mB (mBin (fB fun i j => decide (j < i)) (mIxO 0 (mC (.int 0))) (mC (.int 0)))) (mSeq (mAsg (fun j => j == 0) 2 (mBin (fI cMod fun i j => i % j) (mIxO 0 (mC (.int 0))) (mVar 1))) (mSeq (mSetO 0 (mC (.int 0)) (mBin (fI cDiv fun i j => i / j) (mIxO 0 (mC (.int 0))) (mVar 1))) (mRet (mVar 2)))) (mNext)) (mSeq (mSetO 0 (mC (.int 2)) (mBin fAdd (mIxO 0 (mC (.int 2))) (mC (.int 1)))) (mSeq (mSetO 0 (mC (.int 1)) (mBin (fI cMod fun i j => i % j) (mBin fAdd (mBin fAdd (mBin (fI cPow fun i j => i ^ j.toNat) (mIxO 0 (mC (.int 1))) (mC (.int 3))) (mBin fMul (mC (.int 39916801)) (mIxO 0 (mC (.int 2))))) (mC (.int 5))) (mBin fAdd (mBin (fI cPow fun i j => i ^ j.toNat) (mC (.int 10)) (mC (.int 33))) (mC (.int 61))))) (mRet (mBin (fI cMod fun i j => i % j) (mBin (fI cDiv fun i j => i / j) (mIxO 0 (mC (.int 1))) (mBin (fI cPow fun i j => i ^ j.toNat) (mC (.int 10)) (mC (.int 8)))) (mVar 1)))))
def mf__law_pull : MF := mDef 2 3 (fun j => j == 0) mb__law_pull
end LB
namespace LB
open PySem PySem.Spec PyProof.Rows L2 Dn
/-- slots of _law_cells: 0 script, 1 most -/
def mb__law_cells : MS :=
  mRet (mBin fAdd (mSl (mVar 0) (mON) (mOS (mVar 1))) (mBin fMul (mLst (mCons (mC (.int 0)) (mNil))) (mFn fInt (mCons (mBin (fEq false) (mVar 0) (mLst (mNil))) (mNil)))))
def mf__law_cells : MF := mDef 2 2 (fun _ => false) mb__law_cells
end LB
namespace LB
open PySem PySem.Spec PyProof.Rows L2 Dn
/-- slots of _law_row: 0 jar, 1 most, 2 wide, 3 found, 4 at, 5 k, 6 begin -/
def mb__law_row : MS :=
  mSeq (mAsg (fun j => j == 0) 3 (mLst (mNil))) (mSeq (mAsg (fun j => j == 0) 4 (mC (.int 0))) (mSeq (mFor (miR1 (mCons (mCallM LB.mf__law_pull 0 [] (mCons (mBin fAdd (mVar 1) (mC (.int 1))) (mNil))) (mNil))) (mgN (fun j => j == 0) 5) (mSeq (mAsg (fun j => j == 0) 6 (mBin fAdd (mBin fAdd (mBin fAdd (mVar 4) (mC (.int 1))) (mFn fInt (mCons (mBin (fB fun i j => decide (j < i)) (mVar 5) (mC (.int 0))) (mNil)))) (mCallM LB.mf__law_pull 0 [] (mCons (mVar 2) (mNil))))) (mSeq (mAsg (fun j => j == 0) 4 (mBin fAdd (mVar 6) (mCallM LB.mf__law_pull 0 [] (mCons (mVar 2) (mNil))))) (mExpr (mMeth 3 fApp (mCons (mTup (mCons (mVar 6) (mCons (mVar 4) (mNil)))) (mNil))))))) (mRetO 3)))
def mf__law_row : MF := mDef 3 7 (fun j => j == 0) mb__law_row
end LB
namespace LB
open PySem PySem.Spec PyProof.Rows L2 Dn
/-- slots of _law_has: 0 row, 1 spot, 2 begin, 3 close -/
def mb__law_has : MS :=
  mRet (mBin (fEq true) (mComp (miS (mVar 0)) (mgL (fun _ => false) [2, 3]) (mTAnd (mB (mBin (fB fun i j => decide (i ≤ j)) (mVar 2) (mVar 1))) (mB (mBin (fB fun i j => decide (i ≤ j)) (mVar 1) (mVar 3)))) (mC (.int 1)) [2, 3]) (mLst (mNil)))
def mf__law_has : MF := mDef 2 4 (fun _ => false) mb__law_has
end LB
namespace LB
open PySem PySem.Spec PyProof.Rows L2 Dn
/-- slots of _law_flip: 0 row, 1 spot, 2 parts, 3 begin, 4 close, 5 some, 6 found, 7 part -/
def mb__law_flip : MS :=
  mSeq (mAsg (fun _ => false) 2 (mLst (mNil))) (mSeq (mFor (miS (mVar 0)) (mgL (fun _ => false) [3, 4]) (mSeq (mAsg (fun _ => false) 5 (mLst (mCons (mTup (mCons (mVar 3) (mCons (mFn fMin2 (mCons (mVar 4) (mCons (mBin (fI (fun _ _ => true) fun i j => i - j) (mVar 1) (mC (.int 1))) (mNil)))) (mNil)))) (mCons (mTup (mCons (mFn fMax2 (mCons (mVar 3) (mCons (mBin fAdd (mVar 1) (mC (.int 1))) (mNil)))) (mCons (mVar 4) (mNil)))) (mNil))))) (mExpr (mExtN 2 (mComp (miS (mVar 5)) (mgN (fun _ => false) 7) (mB (mBin (fB fun i j => decide (i ≤ j)) (mBin fIx (mVar 7) (mC (.int 0))) (mBin fIx (mVar 7) (mC (.int 1))))) (mVar 7) [7]))))) (mSeq (mIfS (mTAnd (mB (mBin (fB fun i j => decide (j < i)) (mVar 1) (mC (.int 0)))) (mTNot (mTru (mCall LB.mf__law_has [] (mCons (mVar 0) (mCons (mVar 1) (mNil))))))) (mExpr (mMeth 2 fApp (mCons (mTup (mCons (mVar 1) (mCons (mVar 1) (mNil)))) (mNil)))) (mNext)) (mSeq (mAsg (fun _ => false) 6 (mLst (mNil))) (mSeq (mFor (miN (mFn fSortA (mCons (mVar 2) (mNil)))) (mgL (fun _ => false) [3, 4]) (mIfS (mTAnd (mB (mEqO true 6 (mLst (mNil)))) (mB (mBin (fEq false) (mBin fAdd (mBin fIx (mIxO 6 (mUn fNeg (mC (.int 1)))) (mC (.int 1))) (mC (.int 1))) (mVar 3)))) (mSetO 6 (mUn fNeg (mC (.int 1))) (mTup (mCons (mBin fIx (mIxO 6 (mUn fNeg (mC (.int 1)))) (mC (.int 0))) (mCons (mVar 4) (mNil))))) (mExpr (mMeth 6 fApp (mCons (mTup (mCons (mVar 3) (mCons (mVar 4) (mNil)))) (mNil)))))) (mRetO 6)))))
def mf__law_flip : MF := mDef 2 8 (fun _ => false) mb__law_flip
end LB
namespace LB
open PySem PySem.Spec PyProof.Rows L2 Dn
/-- slots of _law_exact: 0 found, 1 due, 2 one, 3 other -/
def mb__law_exact (self : MF) : MS :=
  mSeq (mIfS (mB (mBin (fIsN false) (mVar 1) (mC .none))) (mRet (mBin (fIsN false) (mVar 0) (mC .none))) (mNext)) (mSeq (mIfS (mTru (mUn (fIsi ["list", "tuple"]) (mVar 1))) (mSeq (mIfS (mTOr (mB (mBin (fEq true) (mUn (fIsi ["list"]) (mVar 0)) (mUn (fIsi ["list"]) (mVar 1)))) (mB (mBin (fEq true) (mUn (fIsi ["tuple"]) (mVar 0)) (mUn (fIsi ["tuple"]) (mVar 1))))) (mRet (mC (.bool false))) (mNext)) (mRet (mAndV (mBin (fEq false) (mFn fLen (mCons (mVar 0) (mNil))) (mFn fLen (mCons (mVar 1) (mNil)))) (mFn fAll (mCons (mComp (miZ (mCons (mVar 0) (mCons (mVar 1) (mNil)))) (mgL (fun _ => false) [2, 3]) (mTYes) (mCall self [] (mCons (mVar 2) (mCons (mVar 3) (mNil)))) [2, 3]) (mNil)))))) (mNext)) (mRet (mAndV (mBin (fEq false) (mUn (fIsi ["bool"]) (mVar 0)) (mUn (fIsi ["bool"]) (mVar 1))) (mBin (fEq false) (mVar 0) (mVar 1)))))
def mf__law_exact : Nat → MF
  | 0 => fun _ => none
  | n + 1 => mDef 2 4 (fun _ => false) (mb__law_exact (mf__law_exact n))
end LB
namespace LB
open PySem PySem.Spec PyProof.Rows L2 Dn
/-- slots of _law_pair: 0 jar, 1 most, 2 wide -/
def mb__law_pair : MS :=
  mSeq (mAsgT (mBin fIx (mLst (mCons (mTup (mCons (mC (.int 3)) (mCons (mC (.int 2)) (mNil)))) (mCons (mTup (mCons (mC (.int 4)) (mCons (mC (.int 4)) (mNil)))) (mCons (mTup (mCons (mC (.int 30)) (mCons (mC (.int 3)) (mNil)))) (mCons (mTup (mCons (mC (.int 30)) (mCons (mBin (fI cPow fun i j => i ^ j.toNat) (mC (.int 10)) (mC (.int 38))) (mNil)))) (mNil)))))) (mCallM LB.mf__law_pull 0 [] (mCons (mC (.int 4)) (mNil)))) (mgL (fun j => j == 0) [1, 2])) (mRet (mTup (mCons (mCallM LB.mf__law_row 0 [] (mCons (mVar 1) (mCons (mVar 2) (mNil)))) (mCons (mCallM LB.mf__law_row 0 [] (mCons (mBin fIx (mLst (mCons (mVar 1) (mCons (mC (.int 2)) (mNil)))) (mCallM LB.mf__law_pull 0 [] (mCons (mC (.int 2)) (mNil)))) (mCons (mVar 2) (mNil)))) (mNil)))))
def mf__law_pair : MF := mDef 1 3 (fun j => j == 0) mb__law_pair
end LB
namespace LB
open PySem PySem.Spec PyProof.Rows L2 Dn
/-- slots of _law_count: 0 row, 1 begin, 2 close -/
def mb__law_count : MS :=
  mRet (mFn fSum (mCons (mComp (miS (mVar 0)) (mgL (fun _ => false) [1, 2]) (mTYes) (mBin fAdd (mBin (fI (fun _ _ => true) fun i j => i - j) (mVar 2) (mVar 1)) (mC (.int 1))) [1, 2]) (mNil)))
def mf__law_count : MF := mDef 1 3 (fun _ => false) mb__law_count
end LB
namespace LB
open PySem PySem.Spec PyProof.Rows L2 Dn
/-- slots of _law_turn: 0 two, 1 mover, 2 one, 3 other -/
def mb__law_turn : MS :=
  mSeq (mAsgT (mVar 0) (mgL (fun _ => false) [2, 3])) (mSeq (mIfS (mB (mBin (fEq false) (mVar 1) (mC (.str "one")))) (mRet (mTup (mCons (mCall LB.mf__law_flip [] (mCons (mVar 2) (mCons (mCall LB.mf__law_count [] (mCons (mVar 3) (mNil))) (mNil)))) (mCons (mVar 3) (mNil))))) (mNext)) (mRet (mTup (mCons (mVar 2) (mCons (mCall LB.mf__law_flip [] (mCons (mVar 3) (mCons (mCall LB.mf__law_count [] (mCons (mVar 2) (mNil))) (mNil)))) (mNil))))))
def mf__law_turn : MF := mDef 2 4 (fun _ => false) mb__law_turn
end LB
namespace LB
open PySem PySem.Spec PyProof.Rows L2 Dn
/-- slots of _law_handed: 0 jar, 1 two, 2 both, 3 row, 4 some, 5 stretch -/
def mb__law_handed : MS :=
  mSeq (mAsg (fun j => j == 0) 2 (mLst (mNil))) (mSeq (mFor (miS (mVar 1)) (mgN (fun j => j == 0) 3) (mSeq (mAsg (fun j => j == 0) 4 (mLst (mCons (mVar 3) (mCons (mFn fTuple (mCons (mVar 3) (mNil))) (mCons (mComp (miS (mVar 3)) (mgN (fun _ => false) 5) (mTYes) (mFn fList (mCons (mVar 5) (mNil))) [5]) (mNil)))))) (mExpr (mMeth 2 fApp (mCons (mBin fIx (mVar 4) (mCallM LB.mf__law_pull 0 [] (mCons (mC (.int 3)) (mNil)))) (mNil)))))) (mRet (mIf (mB (mBin (fEq false) (mCallM LB.mf__law_pull 0 [] (mCons (mC (.int 2)) (mNil))) (mC (.int 0)))) (mFn fTuple (mCons (mVar 2) (mNil))) (mVar 2))))
def mf__law_handed : MF := mDef 2 6 (fun j => j == 0) mb__law_handed
end LB
namespace PR
open PySem PySem.Spec PyProof.Rows L2 Dn
/-- slots of rests: 0 pair, 1 one, 2 other, 3 who, 4 teller -/
def mb_rests : MS :=
  mSeq (mAsgT (mCall PR.mf_given_pair [] (mCons (mVar 0) (mNil))) (mgL (fun _ => false) [1, 2])) (mRet (mComp (miN (mLst (mCons (mTup (mCons (mC (.str "one")) (mCons (mVar 2) (mNil)))) (mCons (mTup (mCons (mC (.str "other")) (mCons (mVar 1) (mNil)))) (mNil))))) (mgL (fun _ => false) [3, 4]) (mTNot (mTru (mVar 4))) (mVar 3) [3, 4]))
def mf_rests : MF := mDef 1 5 (fun _ => false) mb_rests
end PR
namespace PR
open PySem PySem.Spec PyProof.Rows L2 Dn
/-- slots of check_word: 0 word, 1 sign -/
def mb_check_word : MS :=
  mIfS (mTOr (mTNot (mTru (mUn (fIsi ["str"]) (mVar 0)))) (mTNot (mTru (mFn fAll (mCons (mComp (miStr (mVar 0)) (mgN (fun _ => false) 1) (mTYes) (mUn (fKIn [("1", "one"), ("2", "other")]) (mVar 1)) [1]) (mNil)))))) (mNone) (mNext)
def mf_check_word : MF := mDef 1 2 (fun _ => false) mb_check_word
end PR
namespace PR
open PySem PySem.Spec PyProof.Rows L2 Dn
/-- slots of done: 0 pair, 1 word, 2 now, 3 sign -/
def mb_done : MS :=
  mSeq (mAsg (fun _ => false) 2 (mCall PR.mf_given_pair [] (mCons (mVar 0) (mNil)))) (mSeq (mExpr (mCall PR.mf_check_word [] (mCons (mVar 1) (mNil)))) (mSeq (mFor (miStr (mVar 1)) (mgN (fun _ => false) 3) (mAsg (fun _ => false) 2 (mCall PR.mf_after_turn [] (mCons (mVar 2) (mCons (mUn (fKIx [("1", "one"), ("2", "other")]) (mVar 3)) (mNil)))))) (mRet (mVar 2))))
def mf_done : MF := mDef 2 4 (fun _ => false) mb_done
end PR
namespace LB
open PySem PySem.Spec PyProof.Rows L2 Dn
/-- slots of _law_word: 0 jar, 1 most, 2 count, 3 way, 4 k -/
def mb__law_word : MS :=
  mSeq (mAsg (fun j => j == 0) 2 (mCallM LB.mf__law_pull 0 [] (mCons (mBin fAdd (mVar 1) (mC (.int 1))) (mNil)))) (mSeq (mAsg (fun j => j == 0) 3 (mCallM LB.mf__law_pull 0 [] (mCons (mC (.int 3)) (mNil)))) (mSeq (mIfS (mB (mBin (fEq false) (mVar 3) (mC (.int 0)))) (mRet (mBin fJoin (mC (.str "")) (mComp (miR1 (mCons (mVar 2) (mNil))) (mgN (fun _ => false) 4) (mTYes) (mBin fIx (mC (.str "12")) (mCallM LB.mf__law_pull 0 [] (mCons (mC (.int 2)) (mNil)))) [4]))) (mNext)) (mRet (mBin fJoin (mC (.str "")) (mComp (miR1 (mCons (mVar 2) (mNil))) (mgN (fun _ => false) 4) (mTYes) (mBin fIx (mC (.str "12")) (mBin (fI cMod fun i j => i % j) (mIf (mB (mBin (fEq false) (mVar 3) (mC (.int 1)))) (mVar 4) (mBin (fI cDiv fun i j => i / j) (mVar 4) (mC (.int 3)))) (mC (.int 2)))) [4])))))
def mf__law_word : MF := mDef 2 5 (fun j => j == 0) mb__law_word
end LB
namespace LB
open PySem PySem.Spec PyProof.Rows L2 Dn
/-- slots of _law_done: 0 two, 1 signs, 2 sign -/
def mb__law_done : MS :=
  mSeq (mFor (miStr (mVar 1)) (mgN (fun _ => false) 2) (mAsg (fun _ => false) 0 (mCall LB.mf__law_turn [] (mCons (mVar 0) (mCons (mBin fIx (mLst (mCons (mC (.str "one")) (mCons (mC (.str "other")) (mNil)))) (mFn fInt (mCons (mBin (fEq false) (mVar 2) (mC (.str "2"))) (mNil)))) (mNil)))))) (mRet (mVar 0))
def mf__law_done : MF := mDef 2 3 (fun _ => false) mb__law_done
end LB
namespace PR
open PySem PySem.Spec PyProof.Rows L2 Dn
/-- slots of least_word: 0 word, 1 left, 2 sign -/
def mb_least_word : MS :=
  mSeq (mExpr (mCall PR.mf_check_word [] (mCons (mVar 0) (mNil)))) (mSeq (mAsg (fun _ => false) 1 (mLst (mNil))) (mSeq (mFor (miStr (mVar 0)) (mgN (fun _ => false) 2) (mIfS (mTAnd (mTruO 1) (mB (mBin (fEq false) (mIxO 1 (mUn fNeg (mC (.int 1)))) (mVar 2)))) (mExpr (mMeth 1 fPop mNil)) (mExpr (mMeth 1 fApp (mCons (mVar 2) (mNil)))))) (mRet (mBin fJoin (mC (.str "")) (mVar 1)))))
def mf_least_word : MF := mDef 1 3 (fun _ => false) mb_least_word
end PR
namespace LB
open PySem PySem.Spec PyProof.Rows L2 Dn
/-- slots of _law_fallen: 0 jar, 1 signs, 2 turn_number, 3 some, 4 at, 5 k -/
def mb__law_fallen : MS :=
  mSeq (mFor (miR1 (mCons (mBin fAdd (mBin (fI cDiv fun i j => i / j) (mFn fLen (mCons (mVar 1) (mNil))) (mC (.int 2))) (mC (.int 1))) (mNil))) (mgN (fun j => j == 0) 2) (mSeq (mAsg (fun j => j == 0) 3 (mComp (miR2 (mCons (mC (.int 1)) (mCons (mFn fLen (mCons (mVar 1) (mNil))) (mNil)))) (mgN (fun _ => false) 5) (mB (mBin (fEq false) (mBin fIx (mVar 1) (mBin (fI (fun _ _ => true) fun i j => i - j) (mVar 5) (mC (.int 1)))) (mBin fIx (mVar 1) (mVar 5)))) (mVar 5) [5])) (mIfS (mB (mBin (fEq true) (mVar 3) (mLst (mNil)))) (mSeq (mAsg (fun j => j == 0) 4 (mBin fIx (mVar 3) (mCallM LB.mf__law_pull 0 [] (mCons (mFn fLen (mCons (mVar 3) (mNil))) (mNil))))) (mAsg (fun j => j == 0) 1 (mBin fAdd (mSl (mVar 1) (mON) (mOS (mBin (fI (fun _ _ => true) fun i j => i - j) (mVar 4) (mC (.int 1))))) (mSl (mVar 1) (mOS (mBin fAdd (mVar 4) (mC (.int 1)))) (mON))))) (mNext)))) (mRet (mVar 1))
def mf__law_fallen : MF := mDef 2 6 (fun j => j == 0) mb__law_fallen
end LB
namespace LB
open PySem PySem.Spec PyProof.Rows L2 Dn
/-- slots of _law_puffed: 0 jar, 1 signs, 2 turn_number, 3 at -/
def mb__law_puffed : MS :=
  mSeq (mFor (miR1 (mCons (mCallM LB.mf__law_pull 0 [] (mCons (mC (.int 12)) (mNil))) (mNil))) (mgN (fun j => j == 0) 2) (mSeq (mAsg (fun j => j == 0) 3 (mCallM LB.mf__law_pull 0 [] (mCons (mBin fAdd (mFn fLen (mCons (mVar 1) (mNil))) (mC (.int 1))) (mNil)))) (mAsg (fun j => j == 0) 1 (mBin fAdd (mBin fAdd (mSl (mVar 1) (mON) (mOS (mVar 3))) (mBin fIx (mLst (mCons (mC (.str "11")) (mCons (mC (.str "22")) (mNil)))) (mCallM LB.mf__law_pull 0 [] (mCons (mC (.int 2)) (mNil))))) (mSl (mVar 1) (mOS (mVar 3)) (mON)))))) (mRet (mVar 1))
def mf__law_puffed : MF := mDef 2 4 (fun j => j == 0) mb__law_puffed
end LB
namespace LB
open PySem PySem.Spec PyProof.Rows L2 Dn
/-- slots of _law_by_turns: 0 signs, 1 begin, 2 long, 3 sign, 4 close -/
def mb__law_by_turns : MS :=
  mSeq (mAsgT (mTup (mCons (mC (.str "1")) (mCons (mC (.int 0)) (mNil)))) (mgL (fun _ => false) [1, 2])) (mSeq (mFor (miStr (mVar 0)) (mgN (fun _ => false) 3) (mSeq (mAsg (fun _ => false) 4 (mIf (mB (mBin (fEq false) (mBin (fI cMod fun i j => i % j) (mVar 2) (mC (.int 2))) (mC (.int 1)))) (mVar 1) (mBin fIx (mLst (mCons (mC (.str "1")) (mCons (mC (.str "2")) (mNil)))) (mFn fInt (mCons (mBin (fEq false) (mVar 1) (mC (.str "1"))) (mNil)))))) (mIfS (mB (mBin (fEq false) (mVar 2) (mC (.int 0)))) (mPar (fun _ => false) 1 2 (mVar 3) (mC (.int 1))) (mAsg (fun _ => false) 2 (mIf (mB (mBin (fEq false) (mVar 4) (mVar 3))) (mBin (fI (fun _ _ => true) fun i j => i - j) (mVar 2) (mC (.int 1))) (mBin fAdd (mVar 2) (mC (.int 1)))))))) (mRet (mBin fAdd (mBin fMulS (mBin fAdd (mVar 1) (mBin fIx (mLst (mCons (mC (.str "1")) (mCons (mC (.str "2")) (mNil)))) (mFn fInt (mCons (mBin (fEq false) (mVar 1) (mC (.str "1"))) (mNil))))) (mBin (fI cDiv fun i j => i / j) (mVar 2) (mC (.int 2)))) (mBin fMulS (mVar 1) (mBin (fI cMod fun i j => i % j) (mVar 2) (mC (.int 2)))))))
def mf__law_by_turns : MF := mDef 1 5 (fun _ => false) mb__law_by_turns
end LB
namespace PR
open PySem PySem.Spec PyProof.Rows L2 Dn
/-- slots of check_many: 0 many -/
def mb_check_many : MS :=
  mIfS (mTOr (mTNot (mTru (mCall PR.mf_is_whole [] (mCons (mVar 0) (mCons (mC (.int 0)) (mNil)))))) (mB (mBin (fB fun i j => decide (j < i)) (mVar 0) (mC (.int 299))))) (mNone) (mNext)
def mf_check_many : MF := mDef 1 1 (fun _ => false) mb_check_many
end PR
namespace PR
open PySem PySem.Spec PyProof.Rows L2 Dn
/-- slots of not_who: 0 who -/
def mb_not_who : MS :=
  mRet (mIf (mB (mBin (fEq false) (mVar 0) (mC (.str "one")))) (mC (.str "other")) (mC (.str "one")))
def mf_not_who : MF := mDef 1 1 (fun _ => false) mb_not_who
end PR
namespace PR
open PySem PySem.Spec PyProof.Rows L2 Dn
/-- slots of by_turns: 0 pair, 1 first, 2 many, 3 now, 4 pairs, 5 who, 6 _ -/
def mb_by_turns : MS :=
  mSeq (mAsg (fun _ => false) 3 (mCall PR.mf_given_pair [] (mCons (mVar 0) (mNil)))) (mSeq (mExpr (mCall PR.mf_check_who [] (mCons (mVar 1) (mNil)))) (mSeq (mExpr (mCall PR.mf_check_many [] (mCons (mVar 2) (mNil)))) (mSeq (mAsg (fun _ => false) 4 (mLst (mCons (mVar 3) (mNil)))) (mSeq (mAsg (fun _ => false) 5 (mVar 1)) (mSeq (mFor (miR1 (mCons (mVar 2) (mNil))) (mgN (fun _ => false) 6) (mSeq (mAsg (fun _ => false) 3 (mCall PR.mf_after_turn [] (mCons (mVar 3) (mCons (mVar 5) (mNil))))) (mSeq (mExpr (mMeth 4 fApp (mCons (mVar 3) (mNil)))) (mAsg (fun _ => false) 5 (mCall PR.mf_not_who [] (mCons (mVar 5) (mNil))))))) (mRetO 4))))))
def mf_by_turns : MF := mDef 3 7 (fun _ => false) mb_by_turns
end PR
namespace LB
open PySem PySem.Spec PyProof.Rows L2 Dn
/-- slots of _law_exchanged: 0 signs, 1 sign -/
def mb__law_exchanged : MS :=
  mRet (mBin fJoin (mC (.str "")) (mComp (miStr (mVar 0)) (mgN (fun _ => false) 1) (mTYes) (mBin fIx (mC (.str "12")) (mFn fInt (mCons (mBin (fEq false) (mVar 1) (mC (.str "1"))) (mNil)))) [1]))
def mf__law_exchanged : MF := mDef 1 2 (fun _ => false) mb__law_exchanged
end LB
namespace LB
open PySem PySem.Spec PyProof.Rows L2 Dn
/-- slots of _law_about: 0 two -/
def mb__law_about : MS :=
  mRet (mTup (mCons (mBin fIx (mVar 0) (mC (.int 1))) (mCons (mBin fIx (mVar 0) (mC (.int 0))) (mNil))))
def mf__law_about : MF := mDef 1 1 (fun _ => false) mb__law_about
end LB
namespace LB
open PySem PySem.Spec PyProof.Rows L2 Dn
/-- slots of _law_kept: 0 two, 1 sums, 2 row, 3 begin, 4 close -/
def mb__law_kept : MS :=
  mSeq (mAsg (fun _ => false) 1 (mComp (miS (mVar 0)) (mgN (fun _ => false) 2) (mTYes) (mFn fSum (mCons (mComp (miS (mVar 2)) (mgL (fun _ => false) [3, 4]) (mTYes) (mBin (fI cDiv fun i j => i / j) (mBin fMul (mBin fAdd (mVar 3) (mVar 4)) (mBin fAdd (mBin (fI (fun _ _ => true) fun i j => i - j) (mVar 4) (mVar 3)) (mC (.int 1)))) (mC (.int 2))) [3, 4]) (mNil))) [2])) (mRet (mBin (fI (fun _ _ => true) fun i j => i - j) (mBin fAdd (mBin fIx (mVar 1) (mC (.int 0))) (mBin fIx (mVar 1) (mC (.int 1)))) (mBin fMul (mCall LB.mf__law_count [] (mCons (mBin fIx (mVar 0) (mC (.int 0))) (mNil))) (mCall LB.mf__law_count [] (mCons (mBin fIx (mVar 0) (mC (.int 1))) (mNil))))))
def mf__law_kept : MF := mDef 1 5 (fun _ => false) mb__law_kept
end LB
namespace LB
open PySem PySem.Spec PyProof.Rows L2 Dn
/-- slots of _law_one_coin: 0 old, 1 new, 2 less, 3 spot, 4 begin, 5 close -/
def mb__law_one_coin : MS :=
  mSeq (mAsg (fun _ => false) 2 (mBin (fI (fun _ _ => true) fun i j => i - j) (mCall LB.mf__law_count [] (mCons (mVar 1) (mNil))) (mCall LB.mf__law_count [] (mCons (mVar 0) (mNil))))) (mSeq (mAsg (fun _ => false) 3 (mFn fSum (mCons (mComp (miS (mVar 1)) (mgL (fun _ => false) [4, 5]) (mTYes) (mBin (fI cDiv fun i j => i / j) (mBin fMul (mBin fAdd (mVar 4) (mVar 5)) (mBin fAdd (mBin (fI (fun _ _ => true) fun i j => i - j) (mVar 5) (mVar 4)) (mC (.int 1)))) (mC (.int 2))) [4, 5]) (mNil)))) (mSeq (mAsg (fun _ => false) 3 (mBin fMul (mBin (fI (fun _ _ => true) fun i j => i - j) (mVar 3) (mFn fSum (mCons (mComp (miS (mVar 0)) (mgL (fun _ => false) [4, 5]) (mTYes) (mBin (fI cDiv fun i j => i / j) (mBin fMul (mBin fAdd (mVar 4) (mVar 5)) (mBin fAdd (mBin (fI (fun _ _ => true) fun i j => i - j) (mVar 5) (mVar 4)) (mC (.int 1)))) (mC (.int 2))) [4, 5]) (mNil)))) (mVar 2))) (mRet (mAndV (mBin (fIn false) (mVar 2) (mLst (mCons (mC (.int 1)) (mCons (mUn fNeg (mC (.int 1))) (mNil))))) (mAndV (mBin (fB fun i j => decide (j < i)) (mVar 3) (mC (.int 0))) (mBin (fEq false) (mCall LB.mf__law_flip [] (mCons (mVar 0) (mCons (mVar 3) (mNil)))) (mVar 1)))))))
def mf__law_one_coin : MF := mDef 2 6 (fun _ => false) mb__law_one_coin
end LB
namespace PR
open PySem PySem.Spec PyProof.Rows L2 Dn
/-- slots of strips_of: 0 stretches, 1 n, 2 strips, 3 free, 4 first, 5 last, 6 strip -/
def lb_strips_of_1 : MS :=
  mSeq (mAugL 2 (mLst (mCons (mTup (mCons (mC (.int 0)) (mCons (mBin (fI (fun _ _ => true) fun i j => i - j) (mVar 4) (mVar 3)) (mNil)))) (mCons (mTup (mCons (mC (.int 1)) (mCons (mBin fAdd (mBin (fI (fun _ _ => true) fun i j => i - j) (mVar 5) (mVar 4)) (mC (.int 1))) (mNil)))) (mNil))))) (mAsg (fun _ => false) 3 (mBin fAdd (mVar 5) (mC (.int 1))))
def lc_strips_of_2 : MX :=
  mComp (miS (mVar 2)) (mgN (fun _ => false) 6) (mB (mBin (fB fun i j => decide (j < i)) (mBin fIx (mVar 6) (mC (.int 1))) (mC (.int 0)))) (mVar 6) [6]
def mb_strips_of : MS :=
  mSeq (mAsg (fun _ => false) 2 (mLst (mNil))) (mSeq (mAsg (fun _ => false) 3 (mC (.int 1))) (mSeq (mFor (miS (mVar 0)) (mgL (fun _ => false) [4, 5]) (lb_strips_of_1)) (mSeq (mExpr (mMeth 2 fApp (mCons (mTup (mCons (mC (.int 0)) (mCons (mBin (fI (fun _ _ => true) fun i j => i - j) (mBin fAdd (mVar 1) (mC (.int 1))) (mVar 3)) (mNil)))) (mNil)))) (mRet (lc_strips_of_2)))))
def mf_strips_of : MF := mDef 2 7 (fun _ => false) mb_strips_of
end PR
namespace PR
open PySem PySem.Spec PyProof.Rows L2 Dn
/-- slots of climbed: 0 rungs, 1 coin, 2 many, 3 first, 4 second -/
def mb_climbed : MS :=
  mSeq (mAsgT (mVar 0) (mgL (fun _ => false) [3, 4])) (mSeq (mIfS (mB (mBin (fEq false) (mVar 1) (mC (.int 1)))) (mRet (mTup (mCons (mBin fAdd (mVar 3) (mBin fMul (mBin fMul (mC (.int 2)) (mVar 2)) (mVar 4))) (mCons (mVar 4) (mNil))))) (mNext)) (mRet (mTup (mCons (mVar 3) (mCons (mBin fAdd (mVar 4) (mBin fMul (mBin fMul (mC (.int 2)) (mVar 2)) (mVar 3))) (mNil))))))
def mf_climbed : MF := mDef 3 5 (fun _ => false) mb_climbed
end PR
namespace PR
open PySem PySem.Spec PyProof.Rows L2 Dn
/-- slots of rungs_within: 0 stretches, 1 n, 2 rungs, 3 coin, 4 many -/
def lb_rungs_within_1 : MS :=
  mAsg (fun _ => false) 2 (mCall PR.mf_climbed [] (mCons (mVar 2) (mCons (mVar 3) (mCons (mVar 4) (mNil)))))
def mb_rungs_within : MS :=
  mSeq (mAsg (fun _ => false) 2 (mTup (mCons (mC (.int 1)) (mCons (mC (.int 1)) (mNil))))) (mSeq (mFor (miN (mCall PR.mf_strips_of [] (mCons (mVar 0) (mCons (mVar 1) (mNil))))) (mgL (fun _ => false) [3, 4]) (lb_rungs_within_1)) (mRet (mVar 2)))
def mf_rungs_within : MF := mDef 2 5 (fun _ => false) mb_rungs_within
end PR
namespace PR
open PySem PySem.Spec PyProof.Rows L2 Dn
/-- slots of way_up: 0 stretches -/
def mb_way_up : MS :=
  mRet (mBin (fI (fun _ _ => true) fun i j => i - j) (mBin fIx (mCall PR.mf_rungs_within [] (mCons (mVar 0) (mCons (mCall PR.mf_last_of [] (mCons (mVar 0) (mNil))) (mNil)))) (mC (.int 0))) (mC (.int 1)))
def mf_way_up : MF := mDef 1 1 (fun _ => false) mb_way_up
end PR
namespace PR
open PySem PySem.Spec PyProof.Rows L2 Dn
/-- slots of ladder: 0 row, 1 n, 2 stretches -/
def mb_ladder : MS :=
  mSeq (mAsg (fun _ => false) 2 (mCall PR.mf_given_row [] (mCons (mVar 0) (mNil)))) (mSeq (mExpr (mCall PR.mf_check_places [] (mCons (mVar 1) (mCons (mVar 2) (mNil))))) (mRet (mCall PR.mf_rungs_within [] (mCons (mVar 2) (mCons (mVar 1) (mNil))))))
def mf_ladder : MF := mDef 2 3 (fun _ => false) mb_ladder
end PR
namespace PR
open PySem PySem.Spec PyProof.Rows L2 Dn
/-- slots of way_of: 0 row -/
def mb_way_of : MS :=
  mRet (mCall PR.mf_way_up [] (mCons (mCall PR.mf_given_row [] (mCons (mVar 0) (mNil))) (mNil)))
def mf_way_of : MF := mDef 1 1 (fun _ => false) mb_way_of
end PR
namespace LC
open PySem PySem.Spec PyProof.Rows L2 Dn
/-- slots of _law_bag: 0 cell, 1 bout, 2 size -/
def mb__law_bag : MS :=
  mSeq (mAsg (fun _ => false) 2 (mFn fMax2 (mCons (mVar 0) (mCons (mBin (fI (fun _ _ => true) fun i j => i - j) (mC (.int 0)) (mVar 0)) (mNil))))) (mRet (mLst (mCons (mFn fMax2 (mCons (mC (.int 0)) (mCons (mBin (fI (fun _ _ => true) fun i j => i - j) (mVar 2) (mBin (fI cPow fun i j => i ^ j.toNat) (mC (.int 10)) (mC (.int 18)))) (mNil)))) (mCons (mBin (fI cMod fun i j => i % j) (mBin fAdd (mBin fMul (mVar 0) (mC (.int 633910099))) (mBin fMul (mBin (fI cPow fun i j => i ^ j.toNat) (mC (.int 715827883)) (mC (.int 4))) (mBin fAdd (mVar 1) (mC (.int 1))))) (mBin fAdd (mBin (fI cPow fun i j => i ^ j.toNat) (mC (.int 10)) (mC (.int 41))) (mC (.int 63)))) (mCons (mC (.int 0)) (mNil))))))
def mf__law_bag : MF := mDef 2 3 (fun _ => false) mb__law_bag
end LC
namespace LC
open PySem PySem.Spec PyProof.Rows L2 Dn
/-- slots of _law_draw: 0 bag, 1 many, 2 found, 3 mixed -/
def mb__law_draw : MS :=
  mSeq (mIfS (mB (mBin (fB fun i j => decide (j < i)) (mIxO 0 (mC (.int 0))) (mC (.int 1)))) (mSeq (mAsg (fun j => j == 0) 2 (mBin (fI cMod fun i j => i % j) (mIxO 0 (mC (.int 0))) (mVar 1))) (mSeq (mSetO 0 (mC (.int 0)) (mBin (fI cDiv fun i j => i / j) (mIxO 0 (mC (.int 0))) (mVar 1))) (mRet (mVar 2)))) (mNext)) (mSeq (mSetO 0 (mC (.int 2)) (mBin fAdd (mIxO 0 (mC (.int 2))) (mC (.int 1)))) (mSeq (mAsg (fun j => j == 0) 3 (mBin (fI cMod fun i j => i % j) (mBin fAdd (mIxO 0 (mC (.int 1))) (mBin fMul (mIxO 0 (mC (.int 2))) (mBin (fI cPow fun i j => i ^ j.toNat) (mC (.int 73856093)) (mC (.int 3))))) (mBin fAdd (mBin (fI cPow fun i j => i ^ j.toNat) (mC (.int 10)) (mC (.int 41))) (mC (.int 63))))) (mSeq (mAsg (fun j => j == 0) 3 (mBin fAdd (mBin (fI cMod fun i j => i % j) (mBin (fI cPow fun i j => i ^ j.toNat) (mVar 3) (mC (.int 3))) (mBin fAdd (mBin (fI cPow fun i j => i ^ j.toNat) (mC (.int 10)) (mC (.int 39))) (mC (.int 33)))) (mBin fMul (mIxO 0 (mC (.int 2))) (mC (.int 19349663))))) (mRet (mBin (fI cMod fun i j => i % j) (mBin (fI cDiv fun i j => i / j) (mBin (fI cMod fun i j => i % j) (mBin (fI cPow fun i j => i ^ j.toNat) (mVar 3) (mC (.int 5))) (mBin fAdd (mBin (fI cPow fun i j => i ^ j.toNat) (mC (.int 10)) (mC (.int 37))) (mC (.int 43)))) (mC (.int 65537))) (mVar 1))))))
def mf__law_draw : MF := mDef 2 4 (fun j => j == 0) mb__law_draw
end LC
namespace LC
open PySem PySem.Spec PyProof.Rows L2 Dn
/-- slots of _law_spots: 0 bag, 1 most, 2 often, 3 wanted, 4 found, 5 spot -/
def lb__law_spots_1 : MS :=
  mIfS (mB (mBin (fEq false) (mBin (fEq false) (mCallM LC.mf__law_draw 0 [] (mCons (mVar 2) (mNil))) (mC (.int 0))) (mBin (fEq false) (mVar 3) (mC (.int 0))))) (mExpr (mMeth 4 fApp (mCons (mVar 5) (mNil)))) (mNext)
def mb__law_spots : MS :=
  mSeq (mAsg (fun j => j == 0) 2 (mBin fIx (mLst (mCons (mC (.int 2)) (mCons (mC (.int 3)) (mCons (mC (.int 5)) (mNil))))) (mCallM LC.mf__law_draw 0 [] (mCons (mC (.int 3)) (mNil))))) (mSeq (mAsg (fun j => j == 0) 3 (mCallM LC.mf__law_draw 0 [] (mCons (mC (.int 2)) (mNil)))) (mSeq (mAsg (fun j => j == 0) 4 (mLst (mNil))) (mSeq (mFor (miR2 (mCons (mC (.int 1)) (mCons (mBin fAdd (mVar 1) (mC (.int 1))) (mNil)))) (mgN (fun j => j == 0) 5) (lb__law_spots_1)) (mRetO 4))))
def mf__law_spots : MF := mDef 2 6 (fun j => j == 0) mb__law_spots
end LC
namespace LC
open PySem PySem.Spec PyProof.Rows L2 Dn
/-- slots of _law_told: 0 spots, 1 found, 2 spot -/
def lb__law_told_1 : MS :=
  mIfS (mTAnd (mB (mEqO true 1 (mLst (mNil)))) (mB (mBin (fEq false) (mBin fAdd (mBin fIx (mIxO 1 (mUn fNeg (mC (.int 1)))) (mC (.int 1))) (mC (.int 1))) (mVar 2)))) (mSetO 1 (mUn fNeg (mC (.int 1))) (mTup (mCons (mBin fIx (mIxO 1 (mUn fNeg (mC (.int 1)))) (mC (.int 0))) (mCons (mVar 2) (mNil))))) (mExpr (mMeth 1 fApp (mCons (mTup (mCons (mVar 2) (mCons (mVar 2) (mNil)))) (mNil))))
def mb__law_told : MS :=
  mSeq (mAsg (fun _ => false) 1 (mLst (mNil))) (mSeq (mFor (miS (mVar 0)) (mgN (fun _ => false) 2) (lb__law_told_1)) (mRetO 1))
def mf__law_told : MF := mDef 1 3 (fun _ => false) mb__law_told
end LC
namespace LC
open PySem PySem.Spec PyProof.Rows L2 Dn
/-- slots of _law_same: 0 found, 1 due, 2 k -/
def mb__law_same (self : MF) : MS :=
  mSeq (mIfS (mTru (mUn (fIsi ["list", "tuple"]) (mVar 1))) (mSeq (mIfS (mTOr (mTNot (mTru (mUn (fIsi ["list", "tuple"]) (mVar 0)))) (mB (mBin (fEq true) (mUn (fIsi ["list"]) (mVar 0)) (mUn (fIsi ["list"]) (mVar 1))))) (mRet (mC (.bool false))) (mNext)) (mRet (mAndV (mBin (fEq false) (mFn fLen (mCons (mVar 0) (mNil))) (mFn fLen (mCons (mVar 1) (mNil)))) (mFn fAll (mCons (mComp (miR1 (mCons (mFn fLen (mCons (mVar 1) (mNil))) (mNil))) (mgN (fun _ => false) 2) (mTYes) (mCall self [] (mCons (mBin fIx (mVar 0) (mVar 2)) (mCons (mBin fIx (mVar 1) (mVar 2)) (mNil)))) [2]) (mNil)))))) (mNext)) (mSeq (mIfS (mTru (mUn (fIsi ["int"]) (mVar 1))) (mRet (mAndV (mUn (fIsi ["int"]) (mVar 0)) (mAndV (mBin (fEq false) (mUn (fIsi ["bool"]) (mVar 0)) (mUn (fIsi ["bool"]) (mVar 1))) (mBin (fEq false) (mVar 0) (mVar 1))))) (mNext)) (mRet (mBin (fEq false) (mVar 0) (mVar 1))))
def mf__law_same (n : Nat) : MF := Nat.rec (motive := fun _ => MF) (fun _ => none) (fun _ self => mDef 2 3 (fun _ => false) (mb__law_same self)) n
theorem mf__law_same_succ (n : Nat) : mf__law_same (n + 1) = mDef 2 3 (fun _ => false) (mb__law_same (mf__law_same n)) := rfl
end LC
namespace LC
open PySem PySem.Spec PyProof.Rows L2 Dn
/-- slots of _law_by_places: 0 spots, 1 far, 2 p, 3 q, 4 spot -/
def lb__law_by_places_1 : MS :=
  mIfS (mB (mBin (fIn false) (mVar 4) (mVar 0))) (mAsg (fun _ => false) 2 (mBin fAdd (mVar 2) (mBin fMul (mC (.int 2)) (mVar 3)))) (mAsg (fun _ => false) 3 (mBin fAdd (mVar 3) (mBin fMul (mC (.int 2)) (mVar 2))))
def mb__law_by_places : MS :=
  mSeq (mAsgT (mTup (mCons (mC (.int 1)) (mCons (mC (.int 1)) (mNil)))) (mgL (fun _ => false) [2, 3])) (mSeq (mFor (miR2 (mCons (mC (.int 1)) (mCons (mBin fAdd (mVar 1) (mC (.int 1))) (mNil)))) (mgN (fun _ => false) 4) (lb__law_by_places_1)) (mRet (mTup (mCons (mVar 2) (mCons (mVar 3) (mNil))))))
def mf__law_by_places : MF := mDef 2 5 (fun _ => false) mb__law_by_places
end LC
namespace LC
open PySem PySem.Spec PyProof.Rows L2 Dn
/-- slots of _law_far_row: 0 bag, 1 most, 2 wide, 3 found, 4 last, 5 bout, 6 begin -/
def lb__law_far_row_1 : MS :=
  mSeq (mAsg (fun j => j == 0) 6 (mBin fAdd (mVar 4) (mBin fIx (mLst (mCons (mC (.int 1)) (mCons (mBin fAdd (mC (.int 1)) (mCallM LC.mf__law_draw 0 [] (mCons (mC (.int 4)) (mNil)))) (mCons (mBin fAdd (mC (.int 1)) (mCallM LC.mf__law_draw 0 [] (mCons (mVar 2) (mNil)))) (mNil))))) (mCallM LC.mf__law_draw 0 [] (mCons (mC (.int 3)) (mNil)))))) (mSeq (mAsg (fun j => j == 0) 4 (mBin fAdd (mVar 6) (mBin fIx (mLst (mCons (mC (.int 0)) (mCons (mCallM LC.mf__law_draw 0 [] (mCons (mC (.int 3)) (mNil))) (mCons (mCallM LC.mf__law_draw 0 [] (mCons (mVar 2) (mNil))) (mNil))))) (mCallM LC.mf__law_draw 0 [] (mCons (mC (.int 3)) (mNil)))))) (mSeq (mExpr (mMeth 3 fApp (mCons (mTup (mCons (mVar 6) (mCons (mVar 4) (mNil)))) (mNil)))) (mAsg (fun j => j == 0) 4 (mBin fAdd (mVar 4) (mC (.int 1))))))
def mb__law_far_row : MS :=
  mSeq (mAsg (fun j => j == 0) 3 (mLst (mNil))) (mSeq (mAsg (fun j => j == 0) 4 (mCallM LC.mf__law_draw 0 [] (mCons (mC (.int 2)) (mNil)))) (mSeq (mFor (miR1 (mCons (mCallM LC.mf__law_draw 0 [] (mCons (mBin fAdd (mVar 1) (mC (.int 1))) (mNil))) (mNil))) (mgN (fun j => j == 0) 5) (lb__law_far_row_1)) (mRetO 3)))
def mf__law_far_row : MF := mDef 3 7 (fun j => j == 0) mb__law_far_row
end LC
namespace LC
open PySem PySem.Spec PyProof.Rows L2 Dn
/-- slots of _law_climbed: 0 rungs, 1 shown, 2 many -/
def mb__law_climbed : MS :=
  mSeq (mIfS (mTru (mVar 1)) (mRet (mLst (mCons (mBin fAdd (mBin fIx (mVar 0) (mC (.int 0))) (mBin fMul (mBin fMul (mC (.int 2)) (mVar 2)) (mBin fIx (mVar 0) (mC (.int 1))))) (mCons (mBin fIx (mVar 0) (mC (.int 1))) (mNil))))) (mNext)) (mRet (mLst (mCons (mBin fIx (mVar 0) (mC (.int 0))) (mCons (mBin fAdd (mBin fIx (mVar 0) (mC (.int 1))) (mBin fMul (mBin fMul (mC (.int 2)) (mVar 2)) (mBin fIx (mVar 0) (mC (.int 0))))) (mNil)))))
def mf__law_climbed : MF := mDef 3 3 (fun _ => false) mb__law_climbed
end LC
namespace LC
open PySem PySem.Spec PyProof.Rows L2 Dn
/-- slots of _law_rungs: 0 stretches, 1 far, 2 rungs, 3 behind, 4 begin, 5 last -/
def lb__law_rungs_1 : MS :=
  mSeq (mAsg (fun _ => false) 2 (mCall LC.mf__law_climbed [] (mCons (mVar 2) (mCons (mC (.bool false)) (mCons (mBin (fI (fun _ _ => true) fun i j => i - j) (mBin (fI (fun _ _ => true) fun i j => i - j) (mVar 4) (mC (.int 1))) (mVar 3)) (mNil)))))) (mSeq (mAsg (fun _ => false) 2 (mCall LC.mf__law_climbed [] (mCons (mVar 2) (mCons (mC (.bool true)) (mCons (mBin fAdd (mBin (fI (fun _ _ => true) fun i j => i - j) (mVar 5) (mVar 4)) (mC (.int 1))) (mNil)))))) (mAsg (fun _ => false) 3 (mVar 5)))
def mb__law_rungs : MS :=
  mSeq (mAsg (fun _ => false) 2 (mLst (mCons (mC (.int 1)) (mCons (mC (.int 1)) (mNil))))) (mSeq (mAsg (fun _ => false) 3 (mC (.int 0))) (mSeq (mFor (miS (mVar 0)) (mgL (fun _ => false) [4, 5]) (lb__law_rungs_1)) (mRet (mFn fTuple (mCons (mCall LC.mf__law_climbed [] (mCons (mVar 2) (mCons (mC (.bool false)) (mCons (mBin (fI (fun _ _ => true) fun i j => i - j) (mVar 1) (mVar 3)) (mNil))))) (mNil))))))
def mf__law_rungs : MF := mDef 2 6 (fun _ => false) mb__law_rungs
end LC
namespace PR
open PySem PySem.Spec PyProof.Rows L2 Dn
/-- slots of sum_kept: 0 pair, 1 one, 2 other -/
def mb_sum_kept : MS :=
  mSeq (mAsgT (mCall PR.mf_given_pair [] (mCons (mVar 0) (mNil))) (mgL (fun _ => false) [1, 2])) (mRet (mBin (fI (fun _ _ => true) fun i j => i - j) (mBin fAdd (mCall PR.mf_added [] (mCons (mVar 1) (mNil))) (mCall PR.mf_added [] (mCons (mVar 2) (mNil)))) (mBin fMul (mCall PR.mf_count_heads [] (mCons (mVar 1) (mNil))) (mCall PR.mf_count_heads [] (mCons (mVar 2) (mNil))))))
def mf_sum_kept : MF := mDef 1 3 (fun _ => false) mb_sum_kept
end PR
namespace LC
open PySem PySem.Spec PyProof.Rows L2 Dn
/-- slots of _law_put: 0 blocks, 1 bottom, 2 shown, 3 many -/
def mb__law_put : MS :=
  mSeq (mIfS (mB (mBin (fEq false) (mVar 3) (mC (.int 0)))) (mRet (mVar 0)) (mNext)) (mRet (mIf (mB (mBin (fEq false) (mVar 1) (mC (.int 1)))) (mBin fAdd (mLst (mCons (mLst (mCons (mVar 2) (mCons (mVar 3) (mNil)))) (mNil))) (mVar 0)) (mBin fAdd (mVar 0) (mLst (mCons (mLst (mCons (mVar 2) (mCons (mVar 3) (mNil)))) (mNil))))))
def mf__law_put : MF := mDef 4 4 (fun _ => false) mb__law_put
end LC
namespace LC
open PySem PySem.Spec PyProof.Rows L2 Dn
/-- slots of _law_of_blocks: 0 blocks, 1 found, 2 behind, 3 shown, 4 many -/
def lb__law_of_blocks_1 : MS :=
  mSeq (mIfS (mTAnd (mB (mBin (fEq false) (mVar 3) (mC (.int 1)))) (mTAnd (mB (mEqO true 1 (mLst (mNil)))) (mB (mBin (fEq false) (mBin fIx (mIxO 1 (mUn fNeg (mC (.int 1)))) (mC (.int 1))) (mVar 2))))) (mSetO 1 (mUn fNeg (mC (.int 1))) (mTup (mCons (mBin fIx (mIxO 1 (mUn fNeg (mC (.int 1)))) (mC (.int 0))) (mCons (mBin fAdd (mVar 2) (mVar 4)) (mNil))))) (mIfS (mB (mBin (fEq false) (mVar 3) (mC (.int 1)))) (mExpr (mMeth 1 fApp (mCons (mTup (mCons (mBin fAdd (mVar 2) (mC (.int 1))) (mCons (mBin fAdd (mVar 2) (mVar 4)) (mNil)))) (mNil)))) (mNext))) (mAsg (fun _ => false) 2 (mBin fAdd (mVar 2) (mVar 4)))
def mb__law_of_blocks : MS :=
  mSeq (mAsg (fun _ => false) 1 (mLst (mNil))) (mSeq (mAsg (fun _ => false) 2 (mC (.int 0))) (mSeq (mFor (miS (mVar 0)) (mgL (fun _ => false) [3, 4]) (lb__law_of_blocks_1)) (mRetO 1)))
def mf__law_of_blocks : MF := mDef 1 5 (fun _ => false) mb__law_of_blocks
end LC
namespace LC
open PySem PySem.Spec PyProof.Rows L2 Dn
/-- slots of _law_single: 0 kind, 1 ends, 2 rungs, 3 far, 4 p, 5 q -/
def mb__law_single : MS :=
  mSeq (mAsgT (mVar 2) (mgL (fun _ => false) [4, 5])) (mSeq (mIfS (mB (mBin (fEq false) (mVar 0) (mTup (mCons (mC (.int 0)) (mCons (mC (.int 0)) (mNil)))))) (mRet (mIf (mB (mBin (fEq false) (mVar 1) (mTup (mCons (mC (.int 1)) (mCons (mC (.int 0)) (mNil)))))) (mVar 3) (mBin (fI (fun _ _ => true) fun i j => i - j) (mBin (fI (fun _ _ => true) fun i j => i - j) (mBin fAdd (mBin fMul (mC (.int 2)) (mVar 5)) (mVar 4)) (mC (.int 1))) (mVar 3)))) (mNext)) (mSeq (mIfS (mB (mBin (fEq false) (mVar 0) (mTup (mCons (mC (.int 1)) (mCons (mC (.int 1)) (mNil)))))) (mRet (mIf (mB (mBin (fEq false) (mVar 1) (mTup (mCons (mC (.int 1)) (mCons (mC (.int 0)) (mNil)))))) (mBin fAdd (mBin fAdd (mVar 5) (mVar 4)) (mVar 3)) (mBin (fI (fun _ _ => true) fun i j => i - j) (mBin (fI (fun _ _ => true) fun i j => i - j) (mVar 5) (mC (.int 1))) (mVar 3)))) (mNext)) (mSeq (mIfS (mB (mBin (fEq false) (mVar 0) (mTup (mCons (mC (.int 0)) (mCons (mC (.int 1)) (mNil)))))) (mRet (mIf (mB (mBin (fEq false) (mVar 1) (mTup (mCons (mC (.int 0)) (mCons (mC (.int 0)) (mNil)))))) (mVar 3) (mBin fAdd (mBin fAdd (mVar 4) (mVar 5)) (mVar 3)))) (mNext)) (mRet (mIf (mB (mBin (fEq false) (mVar 1) (mTup (mCons (mC (.int 0)) (mCons (mC (.int 0)) (mNil)))))) (mBin (fI (fun _ _ => true) fun i j => i - j) (mBin (fI (fun _ _ => true) fun i j => i - j) (mVar 4) (mC (.int 1))) (mVar 3)) (mBin (fI (fun _ _ => true) fun i j => i - j) (mBin (fI (fun _ _ => true) fun i j => i - j) (mBin fAdd (mBin fMul (mC (.int 2)) (mVar 4)) (mVar 5)) (mC (.int 1))) (mVar 3)))))))
def mf__law_single : MF := mDef 4 6 (fun _ => false) mb__law_single
end LC
namespace LC
open PySem PySem.Spec PyProof.Rows L2 Dn
/-- slots of _law_grown: 0 scene, 1 kind, 2 many, 3 ones, 4 twos, 5 below, 6 members, 7 rungs, 8 far, 9 contrary, 10 shown, 11 odd -/
def mb__law_grown : MS :=
  mSeq (mAsgT (mVar 0) (mgL (fun _ => false) [3, 4, 5, 6, 7, 8])) (mSeq (mAsg (fun _ => false) 9 (mTup (mCons (mBin (fI (fun _ _ => true) fun i j => i - j) (mC (.int 1)) (mBin fIx (mVar 5) (mC (.int 0)))) (mCons (mBin (fI (fun _ _ => true) fun i j => i - j) (mC (.int 1)) (mBin fIx (mVar 5) (mC (.int 1)))) (mNil))))) (mSeq (mIfS (mB (mBin (fEq false) (mVar 1) (mVar 5))) (mSeq (mAsg (fun _ => false) 10 (mBin (fEq true) (mBin fIx (mVar 1) (mC (.int 0))) (mBin fIx (mVar 1) (mC (.int 1))))) (mSeq (mAsg (fun _ => false) 3 (mCall LC.mf__law_put [] (mCons (mVar 3) (mCons (mBin fIx (mVar 1) (mC (.int 0))) (mCons (mBin fIx (mVar 5) (mC (.int 1))) (mCons (mVar 2) (mNil))))))) (mAsg (fun _ => false) 4 (mCall LC.mf__law_put [] (mCons (mVar 4) (mCons (mBin fIx (mVar 1) (mC (.int 1))) (mCons (mBin fIx (mVar 5) (mC (.int 0))) (mCons (mVar 2) (mNil))))))))) (mIfS (mB (mBin (fEq false) (mVar 1) (mVar 9))) (mSeq (mAsg (fun _ => false) 10 (mBin (fEq false) (mBin fIx (mVar 1) (mC (.int 0))) (mBin fIx (mVar 1) (mC (.int 1))))) (mSeq (mAsg (fun _ => false) 11 (mBin (fI cDiv fun i j => i / j) (mBin fAdd (mVar 2) (mC (.int 1))) (mC (.int 2)))) (mSeq (mAsg (fun _ => false) 3 (mCall LC.mf__law_put [] (mCons (mCall LC.mf__law_put [] (mCons (mVar 3) (mCons (mBin fIx (mVar 1) (mC (.int 0))) (mCons (mBin fIx (mVar 5) (mC (.int 1))) (mCons (mVar 11) (mNil)))))) (mCons (mBin fIx (mVar 5) (mC (.int 0))) (mCons (mBin fIx (mVar 1) (mC (.int 1))) (mCons (mBin (fI (fun _ _ => true) fun i j => i - j) (mVar 2) (mVar 11)) (mNil))))))) (mSeq (mAsg (fun _ => false) 4 (mCall LC.mf__law_put [] (mCons (mCall LC.mf__law_put [] (mCons (mVar 4) (mCons (mBin fIx (mVar 1) (mC (.int 1))) (mCons (mBin fIx (mVar 5) (mC (.int 0))) (mCons (mVar 11) (mNil)))))) (mCons (mBin fIx (mVar 5) (mC (.int 1))) (mCons (mBin fIx (mVar 1) (mC (.int 0))) (mCons (mBin (fI (fun _ _ => true) fun i j => i - j) (mVar 2) (mVar 11)) (mNil))))))) (mSeq (mIfS (mTru (mVar 10)) (mAsg (fun _ => false) 8 (mBin fAdd (mBin fMul (mVar 2) (mBin fIx (mVar 7) (mC (.int 1)))) (mIf (mB (mBin (fEq false) (mBin (fI cMod fun i j => i % j) (mVar 2) (mC (.int 2))) (mC (.int 0)))) (mVar 8) (mBin (fI (fun _ _ => true) fun i j => i - j) (mBin (fI (fun _ _ => true) fun i j => i - j) (mBin fIx (mVar 7) (mC (.int 0))) (mC (.int 1))) (mVar 8))))) (mAsg (fun _ => false) 8 (mBin fAdd (mBin fMul (mVar 2) (mBin fIx (mVar 7) (mC (.int 0)))) (mVar 8)))) (mAsg (fun _ => false) 1 (mIf (mB (mBin (fEq false) (mBin (fI cMod fun i j => i % j) (mVar 2) (mC (.int 2))) (mC (.int 1)))) (mVar 1) (mVar 5)))))))) (mSeq (mAsg (fun _ => false) 10 (mBin (fEq false) (mBin fIx (mVar 1) (mC (.int 0))) (mBin fIx (mVar 1) (mC (.int 1))))) (mSeq (mAsg (fun _ => false) 2 (mC (.int 1))) (mSeq (mAsg (fun _ => false) 8 (mCall LC.mf__law_single [] (mCons (mVar 1) (mCons (mTup (mCons (mBin fIx (mVar 5) (mC (.int 1))) (mCons (mBin fIx (mVar 5) (mC (.int 0))) (mNil)))) (mCons (mVar 7) (mCons (mVar 8) (mNil))))))) (mSeq (mAsg (fun _ => false) 3 (mCall LC.mf__law_put [] (mCons (mVar 3) (mCons (mBin fIx (mVar 1) (mC (.int 0))) (mCons (mBin fIx (mVar 5) (mC (.int 1))) (mCons (mC (.int 1)) (mNil))))))) (mAsg (fun _ => false) 4 (mCall LC.mf__law_put [] (mCons (mVar 4) (mCons (mBin fIx (mVar 1) (mC (.int 1))) (mCons (mBin fIx (mVar 5) (mC (.int 0))) (mCons (mC (.int 1)) (mNil))))))))))))) (mRet (mLst (mCons (mVar 3) (mCons (mVar 4) (mCons (mVar 1) (mCons (mBin fAdd (mVar 6) (mLst (mCons (mLst (mCons (mFn fInt (mCons (mVar 10) (mNil))) (mCons (mVar 2) (mNil)))) (mNil)))) (mCons (mCall LC.mf__law_climbed [] (mCons (mVar 7) (mCons (mVar 10) (mCons (mVar 2) (mNil))))) (mCons (mVar 8) (mNil)))))))))))
def mf__law_grown : MF := mDef 3 12 (fun _ => false) mb__law_grown
end LC
namespace LC
open PySem PySem.Spec PyProof.Rows L2 Dn
/-- slots of _law_scene: 0 bag, 1 most, 2 wide, 3 kinds, 4 scene, 5 bout, 6 many, 7 two -/
def lb__law_scene_1 : MS :=
  mSeq (mAsg (fun j => j == 0) 6 (mBin fIx (mLst (mCons (mC (.int 1)) (mCons (mBin fAdd (mC (.int 1)) (mCallM LC.mf__law_draw 0 [] (mCons (mC (.int 3)) (mNil)))) (mCons (mBin fAdd (mC (.int 1)) (mCallM LC.mf__law_draw 0 [] (mCons (mC (.int 9)) (mNil)))) (mCons (mBin fAdd (mC (.int 1)) (mCallM LC.mf__law_draw 0 [] (mCons (mVar 2) (mNil)))) (mNil)))))) (mCallM LC.mf__law_draw 0 [] (mCons (mC (.int 4)) (mNil))))) (mAsg (fun j => j == 0) 4 (mCall LC.mf__law_grown [] (mCons (mVar 4) (mCons (mBin fIx (mVar 3) (mCallM LC.mf__law_draw 0 [] (mCons (mC (.int 4)) (mNil)))) (mCons (mVar 6) (mNil))))))
def mb__law_scene : MS :=
  mSeq (mAsg (fun j => j == 0) 3 (mLst (mCons (mTup (mCons (mC (.int 0)) (mCons (mC (.int 0)) (mNil)))) (mCons (mTup (mCons (mC (.int 0)) (mCons (mC (.int 1)) (mNil)))) (mCons (mTup (mCons (mC (.int 1)) (mCons (mC (.int 0)) (mNil)))) (mCons (mTup (mCons (mC (.int 1)) (mCons (mC (.int 1)) (mNil)))) (mNil))))))) (mSeq (mAsg (fun j => j == 0) 4 (mLst (mCons (mLst (mNil)) (mCons (mLst (mNil)) (mCons (mBin fIx (mVar 3) (mCallM LC.mf__law_draw 0 [] (mCons (mC (.int 4)) (mNil)))) (mCons (mLst (mNil)) (mCons (mLst (mCons (mC (.int 1)) (mCons (mC (.int 1)) (mNil)))) (mCons (mC (.int 0)) (mNil))))))))) (mSeq (mFor (miR1 (mCons (mCallM LC.mf__law_draw 0 [] (mCons (mBin fAdd (mVar 1) (mC (.int 1))) (mNil))) (mNil))) (mgN (fun j => j == 0) 5) (lb__law_scene_1)) (mSeq (mIfS (mB (mBin (fEq true) (mBin fIx (mVar 4) (mC (.int 2))) (mTup (mCons (mC (.int 0)) (mCons (mC (.int 0)) (mNil)))))) (mAsg (fun j => j == 0) 4 (mCall LC.mf__law_grown [] (mCons (mVar 4) (mCons (mTup (mCons (mC (.int 0)) (mCons (mC (.int 0)) (mNil)))) (mCons (mC (.int 1)) (mNil)))))) (mNext)) (mSeq (mAsg (fun j => j == 0) 7 (mTup (mCons (mCall LC.mf__law_of_blocks [] (mCons (mBin fIx (mVar 4) (mC (.int 0))) (mNil))) (mCons (mCall LC.mf__law_of_blocks [] (mCons (mBin fIx (mVar 4) (mC (.int 1))) (mNil))) (mNil))))) (mRet (mTup (mCons (mVar 7) (mCons (mCall LC.mf__law_of_blocks [] (mCons (mBin fIx (mVar 4) (mC (.int 3))) (mNil))) (mCons (mBin fIx (mVar 4) (mC (.int 5))) (mCons (mBin fIx (mBin fIx (mVar 4) (mC (.int 4))) (mC (.int 0))) (mNil)))))))))))
def mf__law_scene : MF := mDef 3 8 (fun j => j == 0) mb__law_scene
end LC
namespace LC
open PySem PySem.Spec PyProof.Rows L2 Dn
/-- slots of _law_added: 0 stretches, 1 begin, 2 last -/
def lc__law_added_1 : MX :=
  mComp (miS (mVar 0)) (mgL (fun _ => false) [1, 2]) (mTYes) (mBin (fI cDiv fun i j => i / j) (mBin fMul (mBin fAdd (mVar 1) (mVar 2)) (mBin fAdd (mBin (fI (fun _ _ => true) fun i j => i - j) (mVar 2) (mVar 1)) (mC (.int 1)))) (mC (.int 2))) [1, 2]
def mb__law_added : MS :=
  mRet (mFn fSum (mCons (lc__law_added_1) (mNil)))
def mf__law_added : MF := mDef 1 3 (fun _ => false) mb__law_added
end LC
namespace PR
open PySem PySem.Spec PyProof.Rows L2 Dn
/-- slots of comers: 0 row, 1 stretches, 2 many, 3 found, 4 place, 5 came -/
def lc_comers_1 : MX :=
  mComp (miN (mTup (mCons (mBin (fI (fun _ _ => true) fun i j => i - j) (mVar 2) (mC (.int 1))) (mCons (mBin fAdd (mVar 2) (mC (.int 1))) (mNil))))) (mgN (fun _ => false) 4) (mB (mBin (fB fun i j => decide (j < i)) (mVar 4) (mC (.int 0)))) (mTup (mCons (mVar 4) (mCons (mCall PR.mf_flipped [] (mCons (mVar 1) (mCons (mVar 4) (mNil)))) (mNil)))) [4]
def lc_comers_2 : MX :=
  mComp (miS (mVar 3)) (mgL (fun _ => false) [4, 5]) (mB (mBin (fEq false) (mCall PR.mf_count_heads [] (mCons (mVar 5) (mNil))) (mVar 4))) (mVar 5) [4, 5]
def mb_comers : MS :=
  mSeq (mAsg (fun _ => false) 1 (mCall PR.mf_given_row [] (mCons (mVar 0) (mNil)))) (mSeq (mAsg (fun _ => false) 2 (mCall PR.mf_count_heads [] (mCons (mVar 1) (mNil)))) (mSeq (mAsg (fun _ => false) 3 (lc_comers_1)) (mRet (mFn fSortA (mCons (lc_comers_2) (mNil))))))
def mf_comers : MF := mDef 1 6 (fun _ => false) mb_comers
end PR
namespace LE
open PySem PySem.Spec PyProof.Rows L2 Dn
/-- slots of _law_mix: 0 bag, 1 one -/
def mb__law_mix : MS :=
  mSeq (mAsg (fun j => j == 0) 1 (mIxO 0 (mC (.int 1)))) (mSeq (mSetO 0 (mC (.int 1)) (mBin (fI cMod fun i j => i % j) (mBin fAdd (mBin fAdd (mBin fMul (mVar 1) (mVar 1)) (mBin fMul (mC (.int 69069)) (mVar 1))) (mIxO 0 (mC (.int 2)))) (mBin fAdd (mBin (fI cPow fun i j => i ^ j.toNat) (mC (.int 10)) (mC (.int 37))) (mC (.int 43))))) (mSetO 0 (mC (.int 2)) (mBin fAdd (mIxO 0 (mC (.int 2))) (mC (.int 2)))))
def mf__law_mix : MF := mDef 1 2 (fun j => j == 0) mb__law_mix
end LE
namespace LE
open PySem PySem.Spec PyProof.Rows L2 Dn
/-- slots of _law_bag: 0 cell, 1 bag -/
def mb__law_bag : MS :=
  mSeq (mAsg (fun _ => false) 1 (mLst (mCons (mFn fMax2 (mCons (mC (.int 0)) (mCons (mBin (fI (fun _ _ => true) fun i j => i - j) (mVar 0) (mBin (fI cPow fun i j => i ^ j.toNat) (mC (.int 10)) (mC (.int 18)))) (mNil)))) (mCons (mBin fAdd (mBin fAdd (mBin fMul (mBin (fI cMod fun i j => i % j) (mVar 0) (mBin (fI cPow fun i j => i ^ j.toNat) (mC (.int 10)) (mC (.int 24)))) (mC (.int 30011))) (mBin (fI cPow fun i j => i ^ j.toNat) (mC (.int 10)) (mC (.int 30)))) (mC (.int 33))) (mCons (mC (.int 7)) (mNil)))))) (mSeq (mExpr (mCallM LE.mf__law_mix 1 [] (mNil))) (mSeq (mExpr (mCallM LE.mf__law_mix 1 [] (mNil))) (mRetO 1)))
def mf__law_bag : MF := mDef 1 2 (fun _ => false) mb__law_bag
end LE
namespace LE
open PySem PySem.Spec PyProof.Rows L2 Dn
/-- slots of _law_draw: 0 bag, 1 size, 2 digit -/
def mb__law_draw : MS :=
  mSeq (mIfS (mB (mBin (fB fun i j => decide (j < i)) (mIxO 0 (mC (.int 0))) (mC (.int 0)))) (mSeq (mAsg (fun j => j == 0) 2 (mBin (fI cMod fun i j => i % j) (mIxO 0 (mC (.int 0))) (mVar 1))) (mSeq (mSetO 0 (mC (.int 0)) (mBin (fI cDiv fun i j => i / j) (mIxO 0 (mC (.int 0))) (mVar 1))) (mRet (mVar 2)))) (mNext)) (mSeq (mExpr (mCallM LE.mf__law_mix 0 [] (mNil))) (mRet (mBin (fI cMod fun i j => i % j) (mBin (fI cDiv fun i j => i / j) (mIxO 0 (mC (.int 1))) (mBin (fI cPow fun i j => i ^ j.toNat) (mC (.int 10)) (mC (.int 9)))) (mVar 1))))
def mf__law_draw : MF := mDef 2 3 (fun j => j == 0) mb__law_draw
end LE
namespace LE
open PySem PySem.Spec PyProof.Rows L2 Dn
/-- slots of _law_places: 0 bag, 1 most, 2 often, 3 place -/
def lc__law_places_1 : MX :=
  mComp (miR2 (mCons (mC (.int 1)) (mCons (mBin fAdd (mC (.int 1)) (mCallM LE.mf__law_draw 0 [] (mCons (mBin fAdd (mVar 1) (mC (.int 1))) (mNil)))) (mNil)))) (mgN (fun _ => false) 3) (mB (mBin (fB fun i j => decide (i < j)) (mCallM LE.mf__law_draw 0 [] (mCons (mC (.int 4)) (mNil))) (mVar 2))) (mVar 3) [3]
def mb__law_places : MS :=
  mSeq (mAsg (fun j => j == 0) 2 (mBin fAdd (mC (.int 1)) (mCallM LE.mf__law_draw 0 [] (mCons (mC (.int 3)) (mNil))))) (mRet (lc__law_places_1))
def mf__law_places : MF := mDef 2 4 (fun j => j == 0) mb__law_places
end LE
namespace LE
open PySem PySem.Spec PyProof.Rows L2 Dn
/-- slots of _law_stretched: 0 places, 1 found, 2 place -/
def lb__law_stretched_1 : MS :=
  mIfS (mTAnd (mB (mEqO true 1 (mLst (mNil)))) (mB (mBin (fEq false) (mBin fIx (mIxO 1 (mUn fNeg (mC (.int 1)))) (mC (.int 1))) (mBin (fI (fun _ _ => true) fun i j => i - j) (mVar 2) (mC (.int 1)))))) (mSetO 1 (mUn fNeg (mC (.int 1))) (mTup (mCons (mBin fIx (mIxO 1 (mUn fNeg (mC (.int 1)))) (mC (.int 0))) (mCons (mVar 2) (mNil))))) (mExpr (mMeth 1 fApp (mCons (mTup (mCons (mVar 2) (mCons (mVar 2) (mNil)))) (mNil))))
def mb__law_stretched : MS :=
  mSeq (mAsg (fun _ => false) 1 (mLst (mNil))) (mSeq (mFor (miS (mVar 0)) (mgN (fun _ => false) 2) (lb__law_stretched_1)) (mRetO 1))
def mf__law_stretched : MF := mDef 1 3 (fun _ => false) mb__law_stretched
end LE
namespace LE
open PySem PySem.Spec PyProof.Rows L2 Dn
/-- slots of _law_next: 0 places, 1 count, 2 place -/
def lc__law_next_1 : MX :=
  mComp (miS (mVar 0)) (mgN (fun _ => false) 2) (mB (mBin (fEq true) (mVar 2) (mVar 1))) (mVar 2) [2]
def mb__law_next : MS :=
  mSeq (mAsg (fun _ => false) 1 (mFn fLen (mCons (mVar 0) (mNil)))) (mSeq (mIfS (mB (mBin (fEq false) (mVar 1) (mC (.int 0)))) (mRet (mLst (mNil))) (mNext)) (mRet (mIf (mB (mBin (fIn false) (mVar 1) (mVar 0))) (lc__law_next_1) (mFn fSortA (mCons (mBin fAdd (mVar 0) (mLst (mCons (mVar 1) (mNil)))) (mNil))))))
def mf__law_next : MF := mDef 1 3 (fun _ => false) mb__law_next
end LE
namespace LE
open PySem PySem.Spec PyProof.Rows L2 Dn
/-- slots of _law_same: 0 found, 1 due, 2 k -/
def mb__law_same (self : MF) : MS :=
  mSeq (mIfS (mTru (mUn (fIsi ["list", "tuple"]) (mVar 1))) (mSeq (mIfS (mTOr (mB (mBin (fEq true) (mUn (fIsi ["list"]) (mVar 0)) (mUn (fIsi ["list"]) (mVar 1)))) (mTNot (mTru (mUn (fIsi ["list", "tuple"]) (mVar 0))))) (mRet (mC (.bool false))) (mNext)) (mRet (mAndV (mBin (fEq false) (mFn fLen (mCons (mVar 0) (mNil))) (mFn fLen (mCons (mVar 1) (mNil)))) (mFn fAll (mCons (mComp (miR1 (mCons (mFn fLen (mCons (mVar 1) (mNil))) (mNil))) (mgN (fun _ => false) 2) (mTYes) (mCall self [] (mCons (mBin fIx (mVar 0) (mVar 2)) (mCons (mBin fIx (mVar 1) (mVar 2)) (mNil)))) [2]) (mNil)))))) (mNext)) (mRet (mAndV (mUn (fIsi ["int"]) (mVar 0)) (mAndV (mNotV (mUn (fIsi ["bool"]) (mVar 0))) (mBin (fEq false) (mVar 0) (mVar 1)))))
def mf__law_same (n : Nat) : MF := Nat.rec (motive := fun _ => MF) (fun _ => none) (fun _ self => mDef 2 3 (fun _ => false) (mb__law_same self)) n
theorem mf__law_same_succ (n : Nat) : mf__law_same (n + 1) = mDef 2 3 (fun _ => false) (mb__law_same (mf__law_same n)) := rfl
end LE
namespace LE
open PySem PySem.Spec PyProof.Rows L2 Dn
/-- slots of _law_sets: 0 most, 1 found, 2 place, 3 some -/
def lc__law_sets_1 : MX :=
  mComp (miS (mVar 1)) (mgN (fun _ => false) 3) (mTYes) (mBin fAdd (mVar 3) (mLst (mCons (mVar 2) (mNil)))) [3]
def lb__law_sets_2 : MS :=
  mAsg (fun _ => false) 1 (mBin fAdd (mVar 1) (lc__law_sets_1))
def mb__law_sets : MS :=
  mSeq (mAsg (fun _ => false) 1 (mLst (mCons (mLst (mNil)) (mNil)))) (mSeq (mFor (miR2 (mCons (mC (.int 1)) (mCons (mBin fAdd (mVar 0) (mC (.int 1))) (mNil)))) (mgN (fun _ => false) 2) (lb__law_sets_2)) (mRetO 1))
def mf__law_sets : MF := mDef 1 4 (fun _ => false) mb__law_sets
end LE

namespace K07
open PySem PySem.Spec PyProof.Rows L2 Dn
/-- slots of _law_over_right: 0 strip, 1 place, 2 other, 3 more -/
def mb__law_over_right : MS :=
  mSeq (mAsg (fun _ => false) 2 (mCall PR.mf_turned_over [] (mCons (mVar 0) (mCons (mVar 1) (mNil))))) (mSeq (mAsg (fun _ => false) 3 (mBin (fI (fun _ _ => true) fun i j => i - j) (mC (.int 1)) (mBin fMul (mC (.int 2)) (mFn fInt (mCons (mCall PR.mf_shows [] (mCons (mVar 0) (mCons (mVar 1) (mNil)))) (mNil)))))) (mSeq (mIfS (mTOr (mB (mBin (fEq true) (mCall PR.mf_turned_over [] (mCons (mVar 2) (mCons (mVar 1) (mNil)))) (mVar 0))) (mB (mBin (fEq false) (mCall PR.mf_shows [] (mCons (mVar 2) (mCons (mVar 1) (mNil)))) (mCall PR.mf_shows [] (mCons (mVar 0) (mCons (mVar 1) (mNil))))))) (mRet (mC (.bool false))) (mNext)) (mSeq (mIfS (mTOr (mB (mBin (fEq true) (mCall PR.mf_heads [] (mCons (mVar 2) (mNil))) (mBin fAdd (mCall PR.mf_heads [] (mCons (mVar 0) (mNil))) (mVar 3)))) (mB (mBin (fEq true) (mCall PR.mf_added [] (mCons (mVar 2) (mNil))) (mBin fAdd (mCall PR.mf_added [] (mCons (mVar 0) (mNil))) (mBin fMul (mVar 3) (mVar 1)))))) (mRet (mC (.bool false))) (mNext)) (mSeq (mIfS (mB (mBin (fEq true) (mCall PR.mf_heads_to [] (mCons (mVar 2) (mCons (mBin (fI (fun _ _ => true) fun i j => i - j) (mVar 1) (mC (.int 1))) (mNil)))) (mCall PR.mf_heads_to [] (mCons (mVar 0) (mCons (mBin (fI (fun _ _ => true) fun i j => i - j) (mVar 1) (mC (.int 1))) (mNil)))))) (mRet (mC (.bool false))) (mNext)) (mRet (mBin (fEq false) (mCall PR.mf_heads_to [] (mCons (mVar 2) (mCons (mVar 1) (mNil)))) (mBin fAdd (mCall PR.mf_heads_to [] (mCons (mVar 0) (mCons (mVar 1) (mNil)))) (mVar 3))))))))
def mf__law_over_right : MF := mDef 2 4 (fun _ => false) mb__law_over_right
/-- slots of _law_about_right: 0 bank, 1 strip, 2 n, 3 other, 4 lap, 5 place -/
def mb__law_about_right : MS :=
  mSeq (mAsg (fun j => j == 0) 3 (mCall PR.mf_about [] (mCons (mVar 1) (mCons (mVar 2) (mNil))))) (mSeq (mIfS (mTOr (mB (mBin (fEq true) (mCall PR.mf_about [] (mCons (mVar 3) (mCons (mVar 2) (mNil)))) (mVar 1))) (mTOr (mB (mBin (fEq true) (mBin fAdd (mCall PR.mf_heads [] (mCons (mVar 3) (mNil))) (mCall PR.mf_heads [] (mCons (mVar 1) (mNil)))) (mVar 2))) (mB (mBin (fB fun i j => decide (j < i)) (mCall PR.mf_last_place [] (mCons (mVar 3) (mNil))) (mVar 2))))) (mRet (mC (.bool false))) (mNext)) (mSeq (mIfS (mB (mBin (fEq true) (mBin (fI (fun _ _ => true) fun i j => i - j) (mBin fAdd (mCall PR.mf_added [] (mCons (mVar 3) (mNil))) (mBin fMul (mBin fAdd (mVar 2) (mC (.int 1))) (mCall PR.mf_heads [] (mCons (mVar 1) (mNil))))) (mCall PR.mf_added [] (mCons (mVar 1) (mNil)))) (mBin (fI cDiv fun i j => i / j) (mBin fMul (mVar 2) (mBin fAdd (mVar 2) (mC (.int 1)))) (mC (.int 2))))) (mRet (mC (.bool false))) (mNext)) (mSeq (mFor (miR1 (mCons (mFn fMin2 (mCons (mVar 2) (mCons (mC (.int 4)) (mNil)))) (mNil))) (mgN (fun j => j == 0) 4) (mSeq (mAsg (fun j => j == 0) 5 (mBin fAdd (mC (.int 1)) (mCallM LA.mf__law_flip 0 [] (mCons (mVar 2) (mNil))))) (mSeq (mIfS (mB (mBin (fEq false) (mCall PR.mf_shows [] (mCons (mVar 3) (mCons (mVar 5) (mNil)))) (mCall PR.mf_shows [] (mCons (mVar 1) (mCons (mBin (fI (fun _ _ => true) fun i j => i - j) (mBin fAdd (mVar 2) (mC (.int 1))) (mVar 5)) (mNil)))))) (mRet (mC (.bool false))) (mNext)) (mIfS (mB (mBin (fEq true) (mCall PR.mf_heads_to [] (mCons (mVar 3) (mCons (mVar 5) (mNil)))) (mBin (fI (fun _ _ => true) fun i j => i - j) (mVar 5) (mBin (fI (fun _ _ => true) fun i j => i - j) (mCall PR.mf_heads [] (mCons (mVar 1) (mNil))) (mCall PR.mf_heads_to [] (mCons (mVar 1) (mCons (mBin (fI (fun _ _ => true) fun i j => i - j) (mVar 2) (mVar 5)) (mNil)))))))) (mRet (mC (.bool false))) (mNext))))) (mRet (mC (.bool true))))))
def mf__law_about_right : MF := mDef 3 6 (fun j => j == 0) mb__law_about_right
/-- slots of _law_right: 0 bank, 1 strip, 2 many, 3 lap, 4 number, 5 place, 6 n, 7 k -/
def mb__law_right : MS :=
  mSeq (mAsg (fun j => j == 0) 1 (mCallM LA.mf__law_strip 0 [] (mNil))) (mSeq (mAsg (fun j => j == 0) 2 (mCall PR.mf_heads [] (mCons (mVar 1) (mNil)))) (mSeq (mFor (miR1 (mCons (mC (.int 4)) (mNil))) (mgN (fun j => j == 0) 3) (mSeq (mIfS (mTNot (mTru (mCall mf__law_over_right [] (mCons (mVar 1) (mCons (mFn fMax2 (mCons (mC (.int 1)) (mCons (mCallM LA.mf__law_spot 0 [] (mCons (mVar 1) (mNil))) (mNil)))) (mNil)))))) (mRet (mC (.bool false))) (mNext)) (mIfS (mB (mBin (fB fun i j => decide (j < i)) (mVar 2) (mC (.int 0)))) (mSeq (mAsg (fun j => j == 0) 4 (mBin fAdd (mC (.int 1)) (mCallM LA.mf__law_flip 0 [] (mCons (mVar 2) (mNil))))) (mSeq (mAsg (fun j => j == 0) 5 (mCall PR.mf_nth [] (mCons (mVar 1) (mCons (mVar 4) (mNil))))) (mSeq (mIfS (mTOr (mTNot (mTru (mCall PR.mf_shows [] (mCons (mVar 1) (mCons (mVar 5) (mNil)))))) (mB (mBin (fEq true) (mCall PR.mf_heads_to [] (mCons (mVar 1) (mCons (mVar 5) (mNil)))) (mVar 4)))) (mRet (mC (.bool false))) (mNext)) (mIfS (mB (mBin (fEq true) (mCall PR.mf_heads_to [] (mCons (mVar 1) (mCons (mBin (fI (fun _ _ => true) fun i j => i - j) (mVar 5) (mC (.int 1))) (mNil)))) (mBin (fI (fun _ _ => true) fun i j => i - j) (mVar 4) (mC (.int 1))))) (mRet (mC (.bool false))) (mNext))))) (mNext)))) (mSeq (mIfS (mTAnd (mB (mBin (fB fun i j => decide (i < j)) (mVar 2) (mC (.int 200)))) (mB (mBin (fEq true) (mCall PR.mf_row_of [] (mCons (mComp (miR1 (mCons (mVar 2) (mNil))) (mgN (fun _ => false) 7) (mTYes) (mCall PR.mf_nth [] (mCons (mVar 1) (mCons (mBin (fI (fun _ _ => true) fun i j => i - j) (mVar 2) (mVar 7)) (mNil)))) [7]) (mNil))) (mVar 1)))) (mRet (mC (.bool false))) (mNext)) (mSeq (mAsg (fun j => j == 0) 6 (mBin fAdd (mCall PR.mf_last_place [] (mCons (mVar 1) (mNil))) (mBin fIx (mLst (mCons (mC (.int 0)) (mCons (mC (.int 1)) (mCons (mCallM LA.mf__law_flip 0 [] (mCons (mC (.int 9)) (mNil))) (mCons (mCallM LA.mf__law_flip 0 [] (mCons (mBin (fI cPow fun i j => i ^ j.toNat) (mC (.int 10)) (mC (.int 39))) (mNil))) (mNil)))))) (mCallM LA.mf__law_flip 0 [] (mCons (mC (.int 4)) (mNil)))))) (mRet (mCallM mf__law_about_right 0 [] (mCons (mVar 1) (mCons (mVar 6) (mNil)))))))))
def mf__law_right : MF := mDef 1 8 (fun j => j == 0) mb__law_right
/-- slots of law: 0 script, 1 k, 2 cell -/
def mb_law : MS :=
  mSeq (mFor (miE (mSl (mBin fAdd (mVar 0) (mLst (mCons (mC (.int 0)) (mNil)))) (mON) (mOS (mFn fMax2 (mCons (mC (.int 1)) (mCons (mFn fMin2 (mCons (mFn fLen (mCons (mVar 0) (mNil))) (mCons (mC (.int 10)) (mNil)))) (mNil))))))) (mgL (fun _ => false) [1, 2]) (mIfS (mTNot (mTru (mCall mf__law_right [] (mCons (mCall LA.mf__law_bank [] (mCons (mVar 2) (mCons (mVar 1) (mNil)))) (mNil))))) (mRet (mC (.bool false))) (mNext))) (mRet (mC (.bool true)))
def mf_law : MF := mDef 1 3 (fun _ => false) mb_law
end K07

namespace K07
open PySem PySem.Spec PyProof.Rows L2 Dn
def topS (i : Nat) : Stmt := PySem.Challenge.pw_turntell_k07_whole_rows_agree.main.body.getD i (.Pass ⟨0, 0, 0, 0⟩)
abbrev s_is_whole : Stmt := topS 7
abbrev N_is_whole : List Str := ["thing", "least"]
theorem sc_is_whole : FnScope N_is_whole ["thing", "least"] (defScope s_is_whole) := ⟨rfl, rfl, rfl, by decide +kernel, rfl, by decide +kernel, by decide +kernel⟩
abbrev s_is_row : Stmt := topS 8
abbrev N_is_row : List Str := ["thing", "free", "stretch"]
theorem sc_is_row : FnScope N_is_row ["thing"] (defScope s_is_row) := ⟨rfl, rfl, rfl, by decide +kernel, rfl, by decide +kernel, by decide +kernel⟩
abbrev s_is_stretch : Stmt := topS 9
abbrev N_is_stretch : List Str := ["thing", "free", "first", "last"]
theorem sc_is_stretch : FnScope N_is_stretch ["thing", "free"] (defScope s_is_stretch) := ⟨rfl, rfl, rfl, by decide +kernel, rfl, by decide +kernel, by decide +kernel⟩
abbrev s_given_row : Stmt := topS 10
abbrev N_given_row : List Str := ["row", "first", "last"]
theorem sc_given_row : FnScope N_given_row ["row"] (defScope s_given_row) := ⟨rfl, rfl, rfl, by decide +kernel, rfl, by decide +kernel, by decide +kernel⟩
abbrev s_check_place : Stmt := topS 11
abbrev N_check_place : List Str := ["place", "least"]
theorem sc_check_place : FnScope N_check_place ["place", "least"] (defScope s_check_place) := ⟨rfl, rfl, rfl, by decide +kernel, rfl, by decide +kernel, by decide +kernel⟩
abbrev s_check_places : Stmt := topS 12
abbrev N_check_places : List Str := ["n", "stretches"]
theorem sc_check_places : FnScope N_check_places ["n", "stretches"] (defScope s_check_places) := ⟨rfl, rfl, rfl, by decide +kernel, rfl, by decide +kernel, by decide +kernel⟩
abbrev s_heads : Stmt := topS 13
abbrev N_heads : List Str := ["row"]
theorem sc_heads : FnScope N_heads ["row"] (defScope s_heads) := ⟨rfl, rfl, rfl, by decide +kernel, rfl, by decide +kernel, by decide +kernel⟩
abbrev s_count_heads : Stmt := topS 14
abbrev N_count_heads : List Str := ["stretches", "first", "last"]
theorem sc_count_heads : FnScope N_count_heads ["stretches"] (defScope s_count_heads) := ⟨rfl, rfl, rfl, by decide +kernel, rfl, by decide +kernel, by decide +kernel⟩
abbrev s_shows : Stmt := topS 15
abbrev N_shows : List Str := ["row", "place", "stretches", "first", "last"]
theorem sc_shows : FnScope N_shows ["row", "place"] (defScope s_shows) := ⟨rfl, rfl, rfl, by decide +kernel, rfl, by decide +kernel, by decide +kernel⟩
abbrev s_heads_to : Stmt := topS 16
abbrev N_heads_to : List Str := ["row", "place", "stretches", "first", "last"]
theorem sc_heads_to : FnScope N_heads_to ["row", "place"] (defScope s_heads_to) := ⟨rfl, rfl, rfl, by decide +kernel, rfl, by decide +kernel, by decide +kernel⟩
abbrev s_nth : Stmt := topS 17
abbrev N_nth : List Str := ["row", "number", "stretches", "left", "first", "last", "here"]
theorem sc_nth : FnScope N_nth ["row", "number"] (defScope s_nth) := ⟨rfl, rfl, rfl, by decide +kernel, rfl, by decide +kernel, by decide +kernel⟩
abbrev s_added : Stmt := topS 18
abbrev N_added : List Str := ["row", "first", "last"]
theorem sc_added : FnScope N_added ["row"] (defScope s_added) := ⟨rfl, rfl, rfl, by decide +kernel, rfl, by decide +kernel, by decide +kernel⟩
abbrev s_last_place : Stmt := topS 19
abbrev N_last_place : List Str := ["row"]
theorem sc_last_place : FnScope N_last_place ["row"] (defScope s_last_place) := ⟨rfl, rfl, rfl, by decide +kernel, rfl, by decide +kernel, by decide +kernel⟩
abbrev s_last_of : Stmt := topS 20
abbrev N_last_of : List Str := ["stretches"]
theorem sc_last_of : FnScope N_last_of ["stretches"] (defScope s_last_of) := ⟨rfl, rfl, rfl, by decide +kernel, rfl, by decide +kernel, by decide +kernel⟩
abbrev s_turned_over : Stmt := topS 21
abbrev N_turned_over : List Str := ["row", "place", "stretches"]
theorem sc_turned_over : FnScope N_turned_over ["row", "place"] (defScope s_turned_over) := ⟨rfl, rfl, rfl, by decide +kernel, rfl, by decide +kernel, by decide +kernel⟩
abbrev s_flipped : Stmt := topS 22
abbrev N_flipped : List Str := ["stretches", "place", "ahead", "behind", "first", "last", "stretch"]
theorem sc_flipped : FnScope N_flipped ["stretches", "place"] (defScope s_flipped) := ⟨rfl, rfl, rfl, by decide +kernel, rfl, by decide +kernel, by decide +kernel⟩
abbrev s_parted : Stmt := topS 23
abbrev N_parted : List Str := ["stretch", "place", "first", "last", "parts", "low", "high"]
theorem sc_parted : FnScope N_parted ["stretch", "place"] (defScope s_parted) := ⟨rfl, rfl, rfl, by decide +kernel, rfl, by decide +kernel, by decide +kernel⟩
abbrev s_row_of : Stmt := topS 24
abbrev N_row_of : List Str := ["places", "place", "stretches"]
theorem sc_row_of : FnScope N_row_of ["places"] (defScope s_row_of) := ⟨rfl, rfl, rfl, by decide +kernel, rfl, by decide +kernel, by decide +kernel⟩
abbrev s_about : Stmt := topS 25
abbrev N_about : List Str := ["row", "n", "stretches", "gaps", "free", "first", "last"]
theorem sc_about : FnScope N_about ["row", "n"] (defScope s_about) := ⟨rfl, rfl, rfl, by decide +kernel, rfl, by decide +kernel, by decide +kernel⟩
abbrev s__law_bank : Stmt := topS 27
abbrev N__law_bank : List Str := ["cell", "k"]
theorem sc__law_bank : FnScope N__law_bank ["cell", "k"] (defScope s__law_bank) := ⟨rfl, rfl, rfl, by decide +kernel, rfl, by decide +kernel, by decide +kernel⟩
abbrev s__law_flip : Stmt := topS 28
abbrev N__law_flip : List Str := ["bank", "many", "found", "minted"]
theorem sc__law_flip : FnScope N__law_flip ["bank", "many"] (defScope s__law_flip) := ⟨rfl, rfl, rfl, by decide +kernel, rfl, by decide +kernel, by decide +kernel⟩
abbrev s__law_strip : Stmt := topS 29
abbrev N__law_strip : List Str := ["bank", "many", "sort", "found", "at", "k", "wide", "first"]
theorem sc__law_strip : FnScope N__law_strip ["bank"] (defScope s__law_strip) := ⟨rfl, rfl, rfl, by decide +kernel, rfl, by decide +kernel, by decide +kernel⟩
abbrev s__law_spot : Stmt := topS 30
abbrev N__law_spot : List Str := ["bank", "strip", "near", "first", "last"]
theorem sc__law_spot : FnScope N__law_spot ["bank", "strip"] (defScope s__law_spot) := ⟨rfl, rfl, rfl, by decide +kernel, rfl, by decide +kernel, by decide +kernel⟩
abbrev s__law_over_right : Stmt := topS 31
abbrev N__law_over_right : List Str := ["strip", "place", "other", "more"]
theorem sc__law_over_right : FnScope N__law_over_right ["strip", "place"] (defScope s__law_over_right) := ⟨rfl, rfl, rfl, by decide +kernel, rfl, by decide +kernel, by decide +kernel⟩
abbrev s__law_about_right : Stmt := topS 32
abbrev N__law_about_right : List Str := ["bank", "strip", "n", "other", "lap", "place"]
theorem sc__law_about_right : FnScope N__law_about_right ["bank", "strip", "n"] (defScope s__law_about_right) := ⟨rfl, rfl, rfl, by decide +kernel, rfl, by decide +kernel, by decide +kernel⟩
abbrev s__law_right : Stmt := topS 33
abbrev N__law_right : List Str := ["bank", "strip", "many", "lap", "number", "place", "n", "k"]
theorem sc__law_right : FnScope N__law_right ["bank"] (defScope s__law_right) := ⟨rfl, rfl, rfl, by decide +kernel, rfl, by decide +kernel, by decide +kernel⟩
abbrev s_law : Stmt := topS 34
abbrev N_law : List Str := ["script", "k", "cell"]
theorem sc_law : FnScope N_law ["script"] (defScope s_law) := ⟨rfl, rfl, rfl, by decide +kernel, rfl, by decide +kernel, by decide +kernel⟩
/-- where the defs stand -/
structure Ad where
  a_is_whole : Addr
  d_is_whole : FuncData
  a_is_row : Addr
  d_is_row : FuncData
  a_is_stretch : Addr
  d_is_stretch : FuncData
  a_given_row : Addr
  d_given_row : FuncData
  a_check_place : Addr
  d_check_place : FuncData
  a_check_places : Addr
  d_check_places : FuncData
  a_heads : Addr
  d_heads : FuncData
  a_count_heads : Addr
  d_count_heads : FuncData
  a_shows : Addr
  d_shows : FuncData
  a_heads_to : Addr
  d_heads_to : FuncData
  a_nth : Addr
  d_nth : FuncData
  a_added : Addr
  d_added : FuncData
  a_last_place : Addr
  d_last_place : FuncData
  a_last_of : Addr
  d_last_of : FuncData
  a_turned_over : Addr
  d_turned_over : FuncData
  a_flipped : Addr
  d_flipped : FuncData
  a_parted : Addr
  d_parted : FuncData
  a_row_of : Addr
  d_row_of : FuncData
  a_about : Addr
  d_about : FuncData
  a__law_bank : Addr
  d__law_bank : FuncData
  a__law_flip : Addr
  d__law_flip : FuncData
  a__law_strip : Addr
  d__law_strip : FuncData
  a__law_spot : Addr
  d__law_spot : FuncData
  a__law_over_right : Addr
  d__law_over_right : FuncData
  a__law_about_right : Addr
  d__law_about_right : FuncData
  a__law_right : Addr
  d__law_right : FuncData
  a_law : Addr
  d_law : FuncData
structure Txt (K : PySem.W.Frag) (w : World) (mg : Str → Option Value) (A : Ad) : Prop where
  f_is_whole : Fun K "is_whole" "is_whole" s_is_whole A.a_is_whole A.d_is_whole
  g_is_whole : mg "is_whole" = some (.ref A.a_is_whole)
  b_is_whole : Binds K A.d_is_whole ["thing", "least"] []
  f_is_row : Fun K "is_row" "is_row" s_is_row A.a_is_row A.d_is_row
  g_is_row : mg "is_row" = some (.ref A.a_is_row)
  b_is_row : Binds K A.d_is_row ["thing"] []
  f_is_stretch : Fun K "is_stretch" "is_stretch" s_is_stretch A.a_is_stretch A.d_is_stretch
  g_is_stretch : mg "is_stretch" = some (.ref A.a_is_stretch)
  b_is_stretch : Binds K A.d_is_stretch ["thing", "free"] []
  f_given_row : Fun K "given_row" "given_row" s_given_row A.a_given_row A.d_given_row
  g_given_row : mg "given_row" = some (.ref A.a_given_row)
  b_given_row : Binds K A.d_given_row ["row"] []
  f_check_place : Fun K "check_place" "check_place" s_check_place A.a_check_place A.d_check_place
  g_check_place : mg "check_place" = some (.ref A.a_check_place)
  b_check_place : Binds K A.d_check_place ["place", "least"] []
  f_check_places : Fun K "check_places" "check_places" s_check_places A.a_check_places A.d_check_places
  g_check_places : mg "check_places" = some (.ref A.a_check_places)
  b_check_places : Binds K A.d_check_places ["n", "stretches"] []
  f_heads : Fun K "heads" "heads" s_heads A.a_heads A.d_heads
  g_heads : mg "heads" = some (.ref A.a_heads)
  b_heads : Binds K A.d_heads ["row"] []
  f_count_heads : Fun K "count_heads" "count_heads" s_count_heads A.a_count_heads A.d_count_heads
  g_count_heads : mg "count_heads" = some (.ref A.a_count_heads)
  b_count_heads : Binds K A.d_count_heads ["stretches"] []
  f_shows : Fun K "shows" "shows" s_shows A.a_shows A.d_shows
  g_shows : mg "shows" = some (.ref A.a_shows)
  b_shows : Binds K A.d_shows ["row", "place"] []
  f_heads_to : Fun K "heads_to" "heads_to" s_heads_to A.a_heads_to A.d_heads_to
  g_heads_to : mg "heads_to" = some (.ref A.a_heads_to)
  b_heads_to : Binds K A.d_heads_to ["row", "place"] []
  f_nth : Fun K "nth" "nth" s_nth A.a_nth A.d_nth
  g_nth : mg "nth" = some (.ref A.a_nth)
  b_nth : Binds K A.d_nth ["row", "number"] []
  f_added : Fun K "added" "added" s_added A.a_added A.d_added
  g_added : mg "added" = some (.ref A.a_added)
  b_added : Binds K A.d_added ["row"] []
  f_last_place : Fun K "last_place" "last_place" s_last_place A.a_last_place A.d_last_place
  g_last_place : mg "last_place" = some (.ref A.a_last_place)
  b_last_place : Binds K A.d_last_place ["row"] []
  f_last_of : Fun K "last_of" "last_of" s_last_of A.a_last_of A.d_last_of
  g_last_of : mg "last_of" = some (.ref A.a_last_of)
  b_last_of : Binds K A.d_last_of ["stretches"] []
  f_turned_over : Fun K "turned_over" "turned_over" s_turned_over A.a_turned_over A.d_turned_over
  g_turned_over : mg "turned_over" = some (.ref A.a_turned_over)
  b_turned_over : Binds K A.d_turned_over ["row", "place"] []
  f_flipped : Fun K "flipped" "flipped" s_flipped A.a_flipped A.d_flipped
  g_flipped : mg "flipped" = some (.ref A.a_flipped)
  b_flipped : Binds K A.d_flipped ["stretches", "place"] []
  f_parted : Fun K "parted" "parted" s_parted A.a_parted A.d_parted
  g_parted : mg "parted" = some (.ref A.a_parted)
  b_parted : Binds K A.d_parted ["stretch", "place"] []
  f_row_of : Fun K "row_of" "row_of" s_row_of A.a_row_of A.d_row_of
  g_row_of : mg "row_of" = some (.ref A.a_row_of)
  b_row_of : Binds K A.d_row_of ["places"] []
  f_about : Fun K "about" "about" s_about A.a_about A.d_about
  g_about : mg "about" = some (.ref A.a_about)
  b_about : Binds K A.d_about ["row", "n"] []
  f__law_bank : Fun K "_law_bank" "_law_bank" s__law_bank A.a__law_bank A.d__law_bank
  g__law_bank : mg "_law_bank" = some (.ref A.a__law_bank)
  b__law_bank : Binds K A.d__law_bank ["cell", "k"] []
  f__law_flip : Fun K "_law_flip" "_law_flip" s__law_flip A.a__law_flip A.d__law_flip
  g__law_flip : mg "_law_flip" = some (.ref A.a__law_flip)
  b__law_flip : Binds K A.d__law_flip ["bank", "many"] []
  f__law_strip : Fun K "_law_strip" "_law_strip" s__law_strip A.a__law_strip A.d__law_strip
  g__law_strip : mg "_law_strip" = some (.ref A.a__law_strip)
  b__law_strip : Binds K A.d__law_strip ["bank"] []
  f__law_spot : Fun K "_law_spot" "_law_spot" s__law_spot A.a__law_spot A.d__law_spot
  g__law_spot : mg "_law_spot" = some (.ref A.a__law_spot)
  b__law_spot : Binds K A.d__law_spot ["bank", "strip"] []
  f__law_over_right : Fun K "_law_over_right" "_law_over_right" s__law_over_right A.a__law_over_right A.d__law_over_right
  g__law_over_right : mg "_law_over_right" = some (.ref A.a__law_over_right)
  b__law_over_right : Binds K A.d__law_over_right ["strip", "place"] []
  f__law_about_right : Fun K "_law_about_right" "_law_about_right" s__law_about_right A.a__law_about_right A.d__law_about_right
  g__law_about_right : mg "_law_about_right" = some (.ref A.a__law_about_right)
  b__law_about_right : Binds K A.d__law_about_right ["bank", "strip", "n"] []
  f__law_right : Fun K "_law_right" "_law_right" s__law_right A.a__law_right A.d__law_right
  g__law_right : mg "_law_right" = some (.ref A.a__law_right)
  b__law_right : Binds K A.d__law_right ["bank"] []
  f_law : Fun K "law" "law" s_law A.a_law A.d_law
  g_law : mg "law" = some (.ref A.a_law)
  b_law : Binds K A.d_law ["script"] []
  n_any : mg "any" = none
  n_bool : mg "bool" = none
  n_enumerate : mg "enumerate" = none
  n_int : mg "int" = none
  n_isinstance : mg "isinstance" = none
  n_len : mg "len" = none
  n_list : mg "list" = none
  n_max : mg "max" = none
  n_min : mg "min" = none
  n_range : mg "range" = none
  n_sorted : mg "sorted" = none
  n_sum : mg "sum" = none
  n_tuple : mg "tuple" = none
section
variable {P : Program} {w : World} {K : PySem.W.Frag} {mg : Str → Option Value} {base : Heap} {A : Ad}
theorem ok_is_whole (C : Txt K w mg A) : FnOk P w K mg base CX0 1 A.a_is_whole A.d_is_whole ["thing", "least"] (spD K PR.mf_is_whole) :=
  fn_ok (N := N_is_whole) (kp := (fun _ => false)) C.f_is_whole sc_is_whole (by decide) (fun cdv B outer s H E hr => ⟨_, mss_one (ms_ret (me_and (me_isi (by rfl) C.n_isinstance (me_var 0) (by rfl) C.n_int (by decide +kernel) (by decide)) (me_and (me_not (me_isi (by rfl) C.n_isinstance (me_var 0) (by rfl) C.n_bool (by decide +kernel) (by decide))) (me_one (me_ge (me_var 0) (me_var 1))))))⟩)
theorem ok_is_stretch (C : Txt K w mg A) : FnOk P w K mg base CX0 2 A.a_is_stretch A.d_is_stretch ["thing", "free"] (spD K PR.mf_is_stretch) :=
  fn_ok (N := N_is_stretch) (kp := (fun _ => false)) C.f_is_stretch sc_is_stretch (by decide) (fun cdv B outer s H E hr => ⟨_, mss_cons (ms_if ((mew_or (met_not (met_tru (me_isiT2 (by rfl) C.n_isinstance (me_var 0) (by rfl) C.n_list (by decide +kernel) (by rfl) C.n_tuple (by decide +kernel) (by decide) (by decide)))) (mew_or1 (met_ne hr.units (me_fn fnS_len call_len (by rfl) C.n_len (by decide +kernel) (mea_cons (me_var 0) (mea_nil))) (me_int)))).met) (mss_one (ms_ret (me_bl))) (mss_nil)) (mss_cons (ms_asgT (me_var 0) (mg_tl rfl (pgn_cons 2 (pgn_cons 3 (pgn_nil) sc_is_stretch.nd) sc_is_stretch.nd))) (mss_one (ms_ret (me_and (me_call (ok_is_whole C) (hr.mono (by decide)) (by rfl) C.g_is_whole C.f_is_whole.kp C.b_is_whole .nil .nil (mea_cons (me_var 2) (mea_cons (me_var 1) (mea_nil)))) (me_one (me_call (ok_is_whole C) (hr.mono (by decide)) (by rfl) C.g_is_whole C.f_is_whole.kp C.b_is_whole .nil .nil (mea_cons (me_var 3) (mea_cons (me_var 2) (mea_nil)))))))))⟩)
theorem ok_check_place (C : Txt K w mg A) : FnOk P w K mg base CX0 2 A.a_check_place A.d_check_place ["place", "least"] (spD K PR.mf_check_place) :=
  fn_ok (N := N_check_place) (kp := (fun _ => false)) C.f_check_place sc_check_place (by decide) (fun cdv B outer s H E hr => ⟨_, mss_one (ms_if (met_not (met_tru (me_call (ok_is_whole C) (hr.mono (by decide)) (by rfl) C.g_is_whole C.f_is_whole.kp C.b_is_whole .nil .nil (mea_cons (me_var 0) (mea_cons (me_var 1) (mea_nil)))))) (mss_one (ms_never)) (mss_nil))⟩)
theorem ok_count_heads (C : Txt K w mg A) : FnOk P w K mg base CX0 1 A.a_count_heads A.d_count_heads ["stretches"] (spD K PR.mf_count_heads) :=
  fn_ok (N := N_count_heads) (kp := (fun _ => false)) C.f_count_heads sc_count_heads (by decide) (fun cdv B outer s H E hr => ⟨_, mss_one (ms_ret (me_fn fnS_sum (cr_sum rfl) (by rfl) C.n_sum (by decide +kernel) (mea_cons (me_comp (own := [("first", 1), ("last", 2)]) rfl sc_count_heads.nd (mi_seq (me_var 0)) (blkOk_by (N := N_count_heads) (sc := defScope s_count_heads) (by decide +kernel)) (fun _ _ _ _ _ => mg_tl rfl (pgn_cons 1 (pgn_cons 2 (pgn_nil) sc_count_heads.nd) sc_count_heads.nd)) (fun _ _ _ _ _ => mts_nil) (fun _ _ _ _ _ => me_add (me_sub (me_var 2) (me_var 1)) (me_int))) (mea_nil))))⟩)
theorem ok_last_of (C : Txt K w mg A) : FnOk P w K mg base CX0 1 A.a_last_of A.d_last_of ["stretches"] (spD K PR.mf_last_of) :=
  fn_ok (N := N_last_of) (kp := (fun _ => false)) C.f_last_of sc_last_of (by decide) (fun cdv B outer s H E hr => ⟨_, mss_one (ms_ret (me_if (met_tru (me_var 0)) (me_ix (me_ix (me_var 0) (me_neg (me_int)) (fun _ _ => rfl)) (me_int) (fun _ _ => rfl)) (me_int)))⟩)
theorem ok_parted (C : Txt K w mg A) : FnOk P w K mg base CX0 1 A.a_parted A.d_parted ["stretch", "place"] (spD K PR.mf_parted) :=
  fn_ok (N := N_parted) (kp := (fun _ => false)) C.f_parted sc_parted (by decide) (fun cdv B outer s H E hr => ⟨_, mss_cons (ms_asgT (me_var 0) (mg_tl rfl (pgn_cons 2 (pgn_cons 3 (pgn_nil) sc_parted.nd) sc_parted.nd))) (mss_cons (ms_asg 4 (me_lst (mea_cons (me_tup (mea_cons (me_var 2) (mea_cons (me_sub (me_var 1) (me_int)) (mea_nil)))) (mea_cons (me_tup (mea_cons (me_add (me_var 1) (me_int)) (mea_cons (me_var 3) (mea_nil)))) (mea_nil)))) sc_parted.nd) (mss_one (ms_ret (me_comp (own := [("low", 5), ("high", 6)]) rfl sc_parted.nd (mi_seq (me_var 4)) (blkOk_by (N := N_parted) (sc := defScope s_parted) (by decide +kernel)) (fun _ _ _ _ _ => mg_tl rfl (pgn_cons 5 (pgn_cons 6 (pgn_nil) sc_parted.nd) sc_parted.nd)) (fun _ _ _ _ _ => mts_one (met_le (me_var 5) (me_var 6))) (fun _ _ _ _ _ => me_tup (mea_cons (me_var 5) (mea_cons (me_var 6) (mea_nil))))))))⟩)
theorem ok__law_bank (C : Txt K w mg A) : FnOk P w K mg base CX0 1 A.a__law_bank A.d__law_bank ["cell", "k"] (spD K LA.mf__law_bank) :=
  fn_ok (N := N__law_bank) (kp := (fun _ => false)) C.f__law_bank sc__law_bank (by decide) (fun cdv B outer s H E hr => ⟨_, mss_one (ms_ret (me_lst (mea_cons (me_fn fnS_max2 (call_max2 rfl) (by rfl) C.n_max (by decide +kernel) (mea_cons (me_int) (mea_cons (me_sub (me_var 0) (me_pow (me_int) (me_int))) (mea_nil)))) (mea_cons (me_add (me_mod (me_var 0) (me_add (me_pow (me_int) (me_int)) (me_int))) (me_mul (me_int) (me_var 1))) (mea_cons (me_int) (mea_nil))))))⟩)
theorem ok__law_flip (C : Txt K w mg A) : FnOk P w K mg base CX0 1 A.a__law_flip A.d__law_flip ["bank", "many"] (spD K LA.mf__law_flip) :=
  fn_ok (N := N__law_flip) (kp := (fun j => j == 0)) C.f__law_flip sc__law_flip (by decide) (fun cdv B outer s H E hr => ⟨_, mss_cons (ms_if (met_gt (me_ixO 0 (me_int) (fun _ _ => rfl)) (me_int)) (mss_cons (ms_asg 2 (me_mod (me_ixO 0 (me_int) (fun _ _ => rfl)) (me_var 1)) sc__law_flip.nd) (mss_cons (ms_setO 0 (me_div (me_ixO 0 (me_int) (fun _ _ => rfl)) (me_var 1)) (me_int)) (mss_one (ms_ret (me_var 2))))) (mss_nil)) (mss_cons (ms_augO 0 ip_add (me_int) (me_int)) (mss_cons (ms_asg 3 (me_mod (me_pow (me_add (me_ixO 0 (me_int) (fun _ _ => rfl)) (me_mul (me_int) (me_ixO 0 (me_int) (fun _ _ => rfl)))) (me_int)) (me_add (me_pow (me_int) (me_int)) (me_int))) sc__law_flip.nd) (mss_cons (ms_asg 3 (me_mod (me_pow (me_add (me_mul (me_var 3) (me_var 3)) (me_mul (me_int) (me_ixO 0 (me_int) (fun _ _ => rfl)))) (me_int)) (me_add (me_pow (me_int) (me_int)) (me_int))) sc__law_flip.nd) (mss_one (ms_ret (me_mod (me_div (me_var 3) (me_int)) (me_var 1)))))))⟩)
theorem ok__law_strip (C : Txt K w mg A) : FnOk P w K mg base CX0 2 A.a__law_strip A.d__law_strip ["bank"] (spD K LA.mf__law_strip) :=
  fn_ok (N := N__law_strip) (kp := (fun j => j == 0)) C.f__law_strip sc__law_strip (by decide) (fun cdv B outer s H E hr => ⟨_, mss_cons (ms_asg 1 (me_ix (me_lst (mea_cons (me_callM 0 (ok__law_flip C) (hr.mono (by decide)) (by rfl) C.g__law_flip C.f__law_flip.kp C.b__law_flip .nil .nil (mea_cons (me_int) (mea_nil))) (mea_cons (me_callM 0 (ok__law_flip C) (hr.mono (by decide)) (by rfl) C.g__law_flip C.f__law_flip.kp C.b__law_flip .nil .nil (mea_cons (me_int) (mea_nil))) (mea_cons (me_callM 0 (ok__law_flip C) (hr.mono (by decide)) (by rfl) C.g__law_flip C.f__law_flip.kp C.b__law_flip .nil .nil (mea_cons (me_int) (mea_nil))) (mea_cons (me_int) (mea_nil)))))) (me_callM 0 (ok__law_flip C) (hr.mono (by decide)) (by rfl) C.g__law_flip C.f__law_flip.kp C.b__law_flip .nil .nil (mea_cons (me_int) (mea_nil))) (fun _ _ => rfl)) sc__law_strip.nd) (mss_cons (ms_asg 2 (me_callM 0 (ok__law_flip C) (hr.mono (by decide)) (by rfl) C.g__law_flip C.f__law_flip.kp C.b__law_flip .nil .nil (mea_cons (me_int) (mea_nil))) sc__law_strip.nd) (mss_cons (ms_asg 3 (me_lst (mea_nil)) sc__law_strip.nd) (mss_cons (ms_asg 4 (me_int) sc__law_strip.nd) (mss_cons (ms_for PassesOwn.never rfl (mi_range1 (by rfl) C.n_range (mea_cons (me_var 1) (mea_nil))) (mg_name 5 sc__law_strip.nd) (mss_cons (ms_asg 6 (me_lst (mea_cons (me_int) (mea_cons (me_add (me_int) (me_callM 0 (ok__law_flip C) (hr.mono (by decide)) (by rfl) C.g__law_flip C.f__law_flip.kp C.b__law_flip .nil .nil (mea_cons (me_int) (mea_nil)))) (mea_cons (me_add (me_int) (me_callM 0 (ok__law_flip C) (hr.mono (by decide)) (by rfl) C.g__law_flip C.f__law_flip.kp C.b__law_flip .nil .nil (mea_cons (me_pow (me_int) (me_int)) (mea_nil)))) (mea_nil))))) sc__law_strip.nd) (mss_cons (ms_asg 7 (me_sub (me_add (me_add (me_var 4) (me_int)) (me_ix (me_var 6) (me_ix (me_lst (mea_cons (me_int) (mea_cons (me_int) (mea_cons (me_callM 0 (ok__law_flip C) (hr.mono (by decide)) (by rfl) C.g__law_flip C.f__law_flip.kp C.b__law_flip .nil .nil (mea_cons (me_int) (mea_nil))) (mea_nil))))) (me_var 2) (fun _ _ => rfl)) (fun _ _ => rfl))) (me_fnT fnS_int call_int1 (by rfl) C.n_int (by decide +kernel) (mea_cons (me_and (me_eq hr.units (me_var 5) (me_int)) (me_one (me_eq hr.units (me_callM 0 (ok__law_flip C) (hr.mono (by decide)) (by rfl) C.g__law_flip C.f__law_flip.kp C.b__law_flip .nil .nil (mea_cons (me_int) (mea_nil))) (me_int)))) (mea_nil)))) sc__law_strip.nd) (mss_cons (ms_asg 4 (me_sub (me_add (me_var 7) (me_ix (me_var 6) (me_ix (me_lst (mea_cons (me_callM 0 (ok__law_flip C) (hr.mono (by decide)) (by rfl) C.g__law_flip C.f__law_flip.kp C.b__law_flip .nil .nil (mea_cons (me_int) (mea_nil))) (mea_cons (me_int) (mea_cons (me_callM 0 (ok__law_flip C) (hr.mono (by decide)) (by rfl) C.g__law_flip C.f__law_flip.kp C.b__law_flip .nil .nil (mea_cons (me_int) (mea_nil))) (mea_nil))))) (me_var 2) (fun _ _ => rfl)) (fun _ _ => rfl))) (me_int)) sc__law_strip.nd) (mss_one (ms_expr (me_meth 3 PySem.F.slot_list_append PySem.F.type_list_append methS_app mt_append (mea_cons (me_tup (mea_cons (me_var 7) (mea_cons (me_var 4) (mea_nil)))) (mea_nil))))))))) (mss_one (ms_retO 3))))))⟩)
theorem ok__law_spot (C : Txt K w mg A) : FnOk P w K mg base CX0 2 A.a__law_spot A.d__law_spot ["bank", "strip"] (spD K LA.mf__law_spot) :=
  fn_ok (N := N__law_spot) (kp := (fun j => j == 0)) C.f__law_spot sc__law_spot (by decide) (fun cdv B outer s H E hr => ⟨_, mss_cons (ms_asg 2 (me_add (me_int) (me_callM 0 (ok__law_flip C) (hr.mono (by decide)) (by rfl) C.g__law_flip C.f__law_flip.kp C.b__law_flip .nil .nil (mea_cons (me_int) (mea_nil)))) sc__law_spot.nd) (mss_cons (ms_if (met_ne hr.units (me_var 1) (me_lst (mea_nil))) (mss_cons (ms_asgT (me_ix (me_var 1) (me_callM 0 (ok__law_flip C) (hr.mono (by decide)) (by rfl) C.g__law_flip C.f__law_flip.kp C.b__law_flip .nil .nil (mea_cons (me_fn fnS_len call_len (by rfl) C.n_len (by decide +kernel) (mea_cons (me_var 1) (mea_nil))) (mea_nil))) (fun _ _ => rfl)) (mg_tl rfl (pgn_cons 3 (pgn_cons 4 (pgn_nil) sc__law_spot.nd) sc__law_spot.nd))) (mss_one (ms_asg 2 (me_ix (me_lst (mea_cons (me_var 3) (mea_cons (me_var 4) (mea_cons (me_sub (me_var 3) (me_int)) (mea_cons (me_add (me_var 4) (me_int)) (mea_cons (me_add (me_var 3) (me_div (me_sub (me_var 4) (me_var 3)) (me_int))) (mea_cons (me_add (me_var 4) (me_int)) (mea_nil)))))))) (me_callM 0 (ok__law_flip C) (hr.mono (by decide)) (by rfl) C.g__law_flip C.f__law_flip.kp C.b__law_flip .nil .nil (mea_cons (me_int) (mea_nil))) (fun _ _ => rfl)) sc__law_spot.nd))) (mss_nil)) (mss_one (ms_ret (me_ix (me_lst (mea_cons (me_var 2) (mea_cons (me_var 2) (mea_cons (me_var 2) (mea_cons (me_add (me_int) (me_callM 0 (ok__law_flip C) (hr.mono (by decide)) (by rfl) C.g__law_flip C.f__law_flip.kp C.b__law_flip .nil .nil (mea_cons (me_int) (mea_nil)))) (mea_cons (me_sub (me_pow (me_int) (me_int)) (me_int)) (mea_nil))))))) (me_callM 0 (ok__law_flip C) (hr.mono (by decide)) (by rfl) C.g__law_flip C.f__law_flip.kp C.b__law_flip .nil .nil (mea_cons (me_int) (mea_nil))) (fun _ _ => rfl)))))⟩)
theorem ok_is_row (C : Txt K w mg A) : FnOk P w K mg base CX0 3 A.a_is_row A.d_is_row ["thing"] (spD K PR.mf_is_row) :=
  fn_ok (N := N_is_row) (kp := (fun _ => false)) C.f_is_row sc_is_row (by decide) (fun cdv B outer s H E hr => ⟨_, mss_cons (ms_if (met_not (met_tru (me_isiT2 (by rfl) C.n_isinstance (me_var 0) (by rfl) C.n_list (by decide +kernel) (by rfl) C.n_tuple (by decide +kernel) (by decide) (by decide)))) (mss_one (ms_ret (me_bl))) (mss_nil)) (mss_cons (ms_asg 1 (me_int) sc_is_row.nd) (mss_cons (ms_for PassesOwn.never rfl (mi_seq (me_var 0)) (mg_name 2 sc_is_row.nd) (mss_cons (ms_if (met_not (met_tru (me_call (ok_is_stretch C) (hr.mono (by decide)) (by rfl) C.g_is_stretch C.f_is_stretch.kp C.b_is_stretch .nil .nil (mea_cons (me_var 2) (mea_cons (me_var 1) (mea_nil)))))) (mss_one (ms_ret (me_bl))) (mss_nil)) (mss_one (ms_asg 1 (me_add (me_ix (me_var 2) (me_int) (fun _ _ => rfl)) (me_int)) sc_is_row.nd)))) (mss_one (ms_ret (me_bl)))))⟩)
theorem ok_given_row (C : Txt K w mg A) : FnOk P w K mg base CX0 4 A.a_given_row A.d_given_row ["row"] (spD K PR.mf_given_row) :=
  fn_ok (N := N_given_row) (kp := (fun _ => false)) C.f_given_row sc_given_row (by decide) (fun cdv B outer s H E hr => ⟨_, mss_cons (ms_if (met_not (met_tru (me_call (ok_is_row C) (hr.mono (by decide)) (by rfl) C.g_is_row C.f_is_row.kp C.b_is_row .nil .nil (mea_cons (me_var 0) (mea_nil))))) (mss_one (ms_never)) (mss_nil)) (mss_one (ms_ret (me_comp (own := [("first", 1), ("last", 2)]) rfl sc_given_row.nd (mi_seq (me_var 0)) (blkOk_by (N := N_given_row) (sc := defScope s_given_row) (by decide +kernel)) (fun _ _ _ _ _ => mg_tl rfl (pgn_cons 1 (pgn_cons 2 (pgn_nil) sc_given_row.nd) sc_given_row.nd)) (fun _ _ _ _ _ => mts_nil) (fun _ _ _ _ _ => me_tup (mea_cons (me_var 1) (mea_cons (me_var 2) (mea_nil)))))))⟩)
theorem ok_check_places (C : Txt K w mg A) : FnOk P w K mg base CX0 2 A.a_check_places A.d_check_places ["n", "stretches"] (spD K PR.mf_check_places) :=
  fn_ok (N := N_check_places) (kp := (fun _ => false)) C.f_check_places sc_check_places (by decide) (fun cdv B outer s H E hr => ⟨_, mss_one (ms_if (met_not (met_tru (me_call (ok_is_whole C) (hr.mono (by decide)) (by rfl) C.g_is_whole C.f_is_whole.kp C.b_is_whole .nil .nil (mea_cons (me_var 0) (mea_cons (me_call (ok_last_of C) (hr.mono (by decide)) (by rfl) C.g_last_of C.f_last_of.kp C.b_last_of .nil .nil (mea_cons (me_var 1) (mea_nil))) (mea_nil)))))) (mss_one (ms_never)) (mss_nil))⟩)
theorem ok_heads (C : Txt K w mg A) : FnOk P w K mg base CX0 5 A.a_heads A.d_heads ["row"] (spD K PR.mf_heads) :=
  fn_ok (N := N_heads) (kp := (fun _ => false)) C.f_heads sc_heads (by decide) (fun cdv B outer s H E hr => ⟨_, mss_one (ms_ret (me_call (ok_count_heads C) (hr.mono (by decide)) (by rfl) C.g_count_heads C.f_count_heads.kp C.b_count_heads .nil .nil (mea_cons (me_call (ok_given_row C) (hr.mono (by decide)) (by rfl) C.g_given_row C.f_given_row.kp C.b_given_row .nil .nil (mea_cons (me_var 0) (mea_nil))) (mea_nil))))⟩)
theorem ok_shows (C : Txt K w mg A) : FnOk P w K mg base CX0 5 A.a_shows A.d_shows ["row", "place"] (spD K PR.mf_shows) :=
  fn_ok (N := N_shows) (kp := (fun _ => false)) C.f_shows sc_shows (by decide) (fun cdv B outer s H E hr => ⟨_, mss_cons (ms_asg 2 (me_call (ok_given_row C) (hr.mono (by decide)) (by rfl) C.g_given_row C.f_given_row.kp C.b_given_row .nil .nil (mea_cons (me_var 0) (mea_nil))) sc_shows.nd) (mss_cons (ms_expr (me_call (ok_check_place C) (hr.mono (by decide)) (by rfl) C.g_check_place C.f_check_place.kp C.b_check_place .nil .nil (mea_cons (me_var 1) (mea_cons (me_int) (mea_nil))))) (mss_one (ms_ret (me_fn fnS_any (cr_any rfl) (by rfl) C.n_any (by decide +kernel) (mea_cons (me_comp (own := [("first", 3), ("last", 4)]) rfl sc_shows.nd (mi_seq (me_var 2)) (blkOk_by (N := N_shows) (sc := defScope s_shows) (by decide +kernel)) (fun _ _ _ _ _ => mg_tl rfl (pgn_cons 3 (pgn_cons 4 (pgn_nil) sc_shows.nd) sc_shows.nd)) (fun _ _ _ _ _ => mts_nil) (fun _ _ _ _ _ => me_lele (me_var 3) (me_var 1) (me_var 4))) (mea_nil))))))⟩)
theorem ok_heads_to (C : Txt K w mg A) : FnOk P w K mg base CX0 5 A.a_heads_to A.d_heads_to ["row", "place"] (spD K PR.mf_heads_to) :=
  fn_ok (N := N_heads_to) (kp := (fun _ => false)) C.f_heads_to sc_heads_to (by decide) (fun cdv B outer s H E hr => ⟨_, mss_cons (ms_asg 2 (me_call (ok_given_row C) (hr.mono (by decide)) (by rfl) C.g_given_row C.f_given_row.kp C.b_given_row .nil .nil (mea_cons (me_var 0) (mea_nil))) sc_heads_to.nd) (mss_cons (ms_expr (me_call (ok_check_place C) (hr.mono (by decide)) (by rfl) C.g_check_place C.f_check_place.kp C.b_check_place .nil .nil (mea_cons (me_var 1) (mea_cons (me_int) (mea_nil))))) (mss_one (ms_ret (me_call (ok_count_heads C) (hr.mono (by decide)) (by rfl) C.g_count_heads C.f_count_heads.kp C.b_count_heads .nil .nil (mea_cons (me_comp (own := [("first", 3), ("last", 4)]) rfl sc_heads_to.nd (mi_seq (me_var 2)) (blkOk_by (N := N_heads_to) (sc := defScope s_heads_to) (by decide +kernel)) (fun _ _ _ _ _ => mg_tl rfl (pgn_cons 3 (pgn_cons 4 (pgn_nil) sc_heads_to.nd) sc_heads_to.nd)) (fun _ _ _ _ _ => mts_one (met_le (me_var 3) (me_var 1))) (fun _ _ _ _ _ => me_tup (mea_cons (me_var 3) (mea_cons (me_fn fnS_min2 (call_min2 rfl) (by rfl) C.n_min (by decide +kernel) (mea_cons (me_var 4) (mea_cons (me_var 1) (mea_nil)))) (mea_nil))))) (mea_nil))))))⟩)
theorem ok_nth (C : Txt K w mg A) : FnOk P w K mg base CX0 5 A.a_nth A.d_nth ["row", "number"] (spD K PR.mf_nth) :=
  fn_ok (N := N_nth) (kp := (fun _ => false)) C.f_nth sc_nth (by decide) (fun cdv B outer s H E hr => ⟨_, mss_cons (ms_asg 2 (me_call (ok_given_row C) (hr.mono (by decide)) (by rfl) C.g_given_row C.f_given_row.kp C.b_given_row .nil .nil (mea_cons (me_var 0) (mea_nil))) sc_nth.nd) (mss_cons (ms_if (met_not (met_tru (me_call (ok_is_whole C) (hr.mono (by decide)) (by rfl) C.g_is_whole C.f_is_whole.kp C.b_is_whole .nil .nil (mea_cons (me_var 1) (mea_cons (me_int) (mea_nil)))))) (mss_one (ms_never)) (mss_nil)) (mss_cons (ms_asg 3 (me_var 1) sc_nth.nd) (mss_cons (ms_for PassesOwn.never rfl (mi_seq (me_var 2)) (mg_tl rfl (pgn_cons 4 (pgn_cons 5 (pgn_nil) sc_nth.nd) sc_nth.nd)) (mss_cons (ms_asg 6 (me_add (me_sub (me_var 5) (me_var 4)) (me_int)) sc_nth.nd) (mss_cons (ms_if (met_le (me_var 3) (me_var 6)) (mss_one (ms_ret (me_sub (me_add (me_var 4) (me_var 3)) (me_int)))) (mss_nil)) (mss_one (ms_aug 3 ip_sub (me_var 6) sc_nth.nd))))) (mss_one (ms_never)))))⟩)
theorem ok_added (C : Txt K w mg A) : FnOk P w K mg base CX0 5 A.a_added A.d_added ["row"] (spD K PR.mf_added) :=
  fn_ok (N := N_added) (kp := (fun _ => false)) C.f_added sc_added (by decide) (fun cdv B outer s H E hr => ⟨_, mss_one (ms_ret (me_fn fnS_sum (cr_sum rfl) (by rfl) C.n_sum (by decide +kernel) (mea_cons (me_comp (own := [("first", 1), ("last", 2)]) rfl sc_added.nd (mi_new (me_call (ok_given_row C) (hr.mono (by decide)) (by rfl) C.g_given_row C.f_given_row.kp C.b_given_row .nil .nil (mea_cons (me_var 0) (mea_nil)))) (blkOk_by (N := N_added) (sc := defScope s_added) (by decide +kernel)) (fun _ _ _ _ _ => mg_tl rfl (pgn_cons 1 (pgn_cons 2 (pgn_nil) sc_added.nd) sc_added.nd)) (fun _ _ _ _ _ => mts_nil) (fun _ _ _ _ _ => me_div (me_mul (me_add (me_var 1) (me_var 2)) (me_add (me_sub (me_var 2) (me_var 1)) (me_int))) (me_int))) (mea_nil))))⟩)
theorem ok_last_place (C : Txt K w mg A) : FnOk P w K mg base CX0 5 A.a_last_place A.d_last_place ["row"] (spD K PR.mf_last_place) :=
  fn_ok (N := N_last_place) (kp := (fun _ => false)) C.f_last_place sc_last_place (by decide) (fun cdv B outer s H E hr => ⟨_, mss_one (ms_ret (me_call (ok_last_of C) (hr.mono (by decide)) (by rfl) C.g_last_of C.f_last_of.kp C.b_last_of .nil .nil (mea_cons (me_call (ok_given_row C) (hr.mono (by decide)) (by rfl) C.g_given_row C.f_given_row.kp C.b_given_row .nil .nil (mea_cons (me_var 0) (mea_nil))) (mea_nil))))⟩)
theorem ok_flipped (C : Txt K w mg A) : FnOk P w K mg base CX0 2 A.a_flipped A.d_flipped ["stretches", "place"] (spD K PR.mf_flipped) :=
  fn_ok (N := N_flipped) (kp := (fun _ => false)) C.f_flipped sc_flipped (by decide) (fun cdv B outer s H E hr => ⟨_, mss_cons (ms_if (met_eq hr.units (me_var 1) (me_int)) (mss_one (ms_ret (me_fnT fnS_list call_list_of (by rfl) C.n_list (by decide +kernel) (mea_cons (me_var 0) (mea_nil))))) (mss_nil)) (mss_cons (ms_asgComp 2 (own := [("stretch", 6)]) rfl sc_flipped.nd (mi_seq (me_var 0)) (blkOk_by (N := N_flipped) (sc := defScope s_flipped) (by decide +kernel)) (fun _ _ _ _ _ => mg_name 6 sc_flipped.nd) (fun _ _ _ _ _ => mts_one (met_lt (me_ix (me_var 6) (me_int) (fun _ _ => rfl)) (me_var 1))) (fun _ _ _ _ _ => me_var 6) (sw_true rfl rfl rfl (by decide +kernel))) (mss_cons (ms_asgComp 3 (own := [("stretch", 6)]) rfl sc_flipped.nd (mi_seq (me_var 0)) (blkOk_by (N := N_flipped) (sc := defScope s_flipped) (by decide +kernel)) (fun _ _ _ _ _ => mg_name 6 sc_flipped.nd) (fun _ _ _ _ _ => mts_one (met_gt (me_ix (me_var 6) (me_int) (fun _ _ => rfl)) (me_var 1))) (fun _ _ _ _ _ => me_var 6) (sw_true rfl rfl rfl (by decide +kernel))) (mss_cons (ms_if (met_lt (me_add (me_lenO 2 (by rfl) C.n_len) (me_lenO 3 (by rfl) C.n_len)) (me_fn fnS_len call_len (by rfl) C.n_len (by decide +kernel) (mea_cons (me_var 0) (mea_nil)))) (mss_one (ms_ret (me_add (me_add (me_var 2) (me_call (ok_parted C) (hr.mono (by decide)) (by rfl) C.g_parted C.f_parted.kp C.b_parted .nil .nil (mea_cons (me_ix (me_var 0) (me_lenO 2 (by rfl) C.n_len) (fun _ _ => rfl)) (mea_cons (me_var 1) (mea_nil))))) (me_var 3)))) (mss_nil)) (mss_cons (ms_asg2 4 5 (me_var 1) sc_flipped.nd) (mss_cons (ms_if ((mew_and (met_truO 2) (mew_and1 (met_eq hr.units (me_ix (me_ixO 2 (me_neg (me_int)) (fun _ _ => rfl)) (me_int) (fun _ _ => rfl)) (me_sub (me_var 1) (me_int))))).met) (mss_one (ms_asg 4 (me_ix (me_meth0 2 PySem.F.slot_list_pop PySem.F.type_list_pop methS_pop mt_pop) (me_int) (fun _ _ => rfl)) sc_flipped.nd)) (mss_nil)) (mss_cons (ms_if ((mew_and (met_truO 3) (mew_and1 (met_eq hr.units (me_ix (me_ixO 3 (me_int) (fun _ _ => rfl)) (me_int) (fun _ _ => rfl)) (me_add (me_var 1) (me_int))))).met) (mss_one (ms_asg 5 (me_ix (me_meth 3 PySem.F.slot_list_pop PySem.F.type_list_pop methS_pop0 mt_popAt (mea_cons (me_int) (mea_nil))) (me_int) (fun _ _ => rfl)) sc_flipped.nd)) (mss_nil)) (mss_one (ms_ret (me_add (me_add (me_var 2) (me_lst (mea_cons (me_tup (mea_cons (me_var 4) (mea_cons (me_var 5) (mea_nil)))) (mea_nil)))) (me_var 3))))))))))⟩)
theorem ok_row_of (C : Txt K w mg A) : FnOk P w K mg base CX0 3 A.a_row_of A.d_row_of ["places"] (spD K PR.mf_row_of) :=
  fn_ok (N := N_row_of) (kp := (fun _ => false)) C.f_row_of sc_row_of (by decide) (fun cdv B outer s H E hr => ⟨_, mss_cons (ms_if (met_not (met_tru (me_isiT2 (by rfl) C.n_isinstance (me_var 0) (by rfl) C.n_list (by decide +kernel) (by rfl) C.n_tuple (by decide +kernel) (by decide) (by decide)))) (mss_one (ms_never)) (mss_nil)) (mss_cons (ms_for PassesOwn.never rfl (mi_seq (me_var 0)) (mg_name 1 sc_row_of.nd) (mss_one (ms_expr (me_call (ok_check_place C) (hr.mono (by decide)) (by rfl) C.g_check_place C.f_check_place.kp C.b_check_place .nil .nil (mea_cons (me_var 1) (mea_cons (me_int) (mea_nil))))))) (mss_cons (ms_asg 2 (me_lst (mea_nil)) sc_row_of.nd) (mss_cons (ms_for PassesOwn.never rfl (mi_new (me_fn fnS_sortB cr_sortB (by rfl) C.n_sorted (by decide +kernel) (mea_cons (me_var 0) (mea_nil)))) (mg_name 1 sc_row_of.nd) (mss_cons (ms_if (met_eq hr.units (me_var 1) (me_call (ok_last_of C) (hr.mono (by decide)) (by rfl) C.g_last_of C.f_last_of.kp C.b_last_of .nil .nil (mea_cons (me_var 2) (mea_nil)))) (mss_one (ms_never)) (mss_nil)) (mss_one (ms_asg 2 (me_call (ok_flipped C) (hr.mono (by decide)) (by rfl) C.g_flipped C.f_flipped.kp C.b_flipped .nil .nil (mea_cons (me_var 2) (mea_cons (me_var 1) (mea_nil)))) sc_row_of.nd)))) (mss_one (ms_retO 2)))))⟩)
theorem ok_about (C : Txt K w mg A) : FnOk P w K mg base CX0 5 A.a_about A.d_about ["row", "n"] (spD K PR.mf_about) :=
  fn_ok (N := N_about) (kp := (fun _ => false)) C.f_about sc_about (by decide) (fun cdv B outer s H E hr => ⟨_, mss_cons (ms_asg 2 (me_call (ok_given_row C) (hr.mono (by decide)) (by rfl) C.g_given_row C.f_given_row.kp C.b_given_row .nil .nil (mea_cons (me_var 0) (mea_nil))) sc_about.nd) (mss_cons (ms_expr (me_call (ok_check_places C) (hr.mono (by decide)) (by rfl) C.g_check_places C.f_check_places.kp C.b_check_places .nil .nil (mea_cons (me_var 1) (mea_cons (me_var 2) (mea_nil))))) (mss_cons (ms_asg 3 (me_lst (mea_nil)) sc_about.nd) (mss_cons (ms_asg 4 (me_int) sc_about.nd) (mss_cons (ms_for PassesOwn.never rfl (mi_new (me_add (me_var 2) (me_lst (mea_cons (me_tup (mea_cons (me_add (me_var 1) (me_int)) (mea_cons (me_add (me_var 1) (me_int)) (mea_nil)))) (mea_nil))))) (mg_tl rfl (pgn_cons 5 (pgn_cons 6 (pgn_nil) sc_about.nd) sc_about.nd)) (mss_cons (ms_if (met_lt (me_var 4) (me_var 5)) (mss_one (ms_expr (me_meth 3 PySem.F.slot_list_append PySem.F.type_list_append methS_app mt_append (mea_cons (me_tup (mea_cons (me_sub (me_add (me_var 1) (me_int)) (me_var 5)) (mea_cons (me_sub (me_add (me_var 1) (me_int)) (me_var 4)) (mea_nil)))) (mea_nil))))) (mss_nil)) (mss_one (ms_asg 4 (me_add (me_var 6) (me_int)) sc_about.nd)))) (mss_one (ms_ret (me_revsl (me_var 3))))))))⟩)
theorem ok__law_about_right (C : Txt K w mg A) : FnOk P w K mg base CX0 6 A.a__law_about_right A.d__law_about_right ["bank", "strip", "n"] (spD K mf__law_about_right) :=
  fn_ok (N := N__law_about_right) (kp := (fun j => j == 0)) C.f__law_about_right sc__law_about_right (by decide) (fun cdv B outer s H E hr => ⟨_, mss_cons (ms_asg 3 (me_call (ok_about C) (hr.mono (by decide)) (by rfl) C.g_about C.f_about.kp C.b_about .nil .nil (mea_cons (me_var 1) (mea_cons (me_var 2) (mea_nil)))) sc__law_about_right.nd) (mss_cons (ms_if ((mew_or (met_ne hr.units (me_call (ok_about C) (hr.mono (by decide)) (by rfl) C.g_about C.f_about.kp C.b_about .nil .nil (mea_cons (me_var 3) (mea_cons (me_var 2) (mea_nil)))) (me_var 1)) (mew_or (met_ne hr.units (me_add (me_call (ok_heads C) (hr.mono (by decide)) (by rfl) C.g_heads C.f_heads.kp C.b_heads .nil .nil (mea_cons (me_var 3) (mea_nil))) (me_call (ok_heads C) (hr.mono (by decide)) (by rfl) C.g_heads C.f_heads.kp C.b_heads .nil .nil (mea_cons (me_var 1) (mea_nil)))) (me_var 2)) (mew_or1 (met_gt (me_call (ok_last_place C) (hr.mono (by decide)) (by rfl) C.g_last_place C.f_last_place.kp C.b_last_place .nil .nil (mea_cons (me_var 3) (mea_nil))) (me_var 2))))).met) (mss_one (ms_ret (me_bl))) (mss_nil)) (mss_cons (ms_if (met_ne hr.units (me_sub (me_add (me_call (ok_added C) (hr.mono (by decide)) (by rfl) C.g_added C.f_added.kp C.b_added .nil .nil (mea_cons (me_var 3) (mea_nil))) (me_mul (me_add (me_var 2) (me_int)) (me_call (ok_heads C) (hr.mono (by decide)) (by rfl) C.g_heads C.f_heads.kp C.b_heads .nil .nil (mea_cons (me_var 1) (mea_nil))))) (me_call (ok_added C) (hr.mono (by decide)) (by rfl) C.g_added C.f_added.kp C.b_added .nil .nil (mea_cons (me_var 1) (mea_nil)))) (me_div (me_mul (me_var 2) (me_add (me_var 2) (me_int))) (me_int))) (mss_one (ms_ret (me_bl))) (mss_nil)) (mss_cons (ms_for PassesOwn.never rfl (mi_range1 (by rfl) C.n_range (mea_cons (me_fn fnS_min2 (call_min2 rfl) (by rfl) C.n_min (by decide +kernel) (mea_cons (me_var 2) (mea_cons (me_int) (mea_nil)))) (mea_nil))) (mg_name 4 sc__law_about_right.nd) (mss_cons (ms_asg 5 (me_add (me_int) (me_callM 0 (ok__law_flip C) (hr.mono (by decide)) (by rfl) C.g__law_flip C.f__law_flip.kp C.b__law_flip .nil .nil (mea_cons (me_var 2) (mea_nil)))) sc__law_about_right.nd) (mss_cons (ms_if (met_eq hr.units (me_call (ok_shows C) (hr.mono (by decide)) (by rfl) C.g_shows C.f_shows.kp C.b_shows .nil .nil (mea_cons (me_var 3) (mea_cons (me_var 5) (mea_nil)))) (me_call (ok_shows C) (hr.mono (by decide)) (by rfl) C.g_shows C.f_shows.kp C.b_shows .nil .nil (mea_cons (me_var 1) (mea_cons (me_sub (me_add (me_var 2) (me_int)) (me_var 5)) (mea_nil))))) (mss_one (ms_ret (me_bl))) (mss_nil)) (mss_one (ms_if (met_ne hr.units (me_call (ok_heads_to C) (hr.mono (by decide)) (by rfl) C.g_heads_to C.f_heads_to.kp C.b_heads_to .nil .nil (mea_cons (me_var 3) (mea_cons (me_var 5) (mea_nil)))) (me_sub (me_var 5) (me_sub (me_call (ok_heads C) (hr.mono (by decide)) (by rfl) C.g_heads C.f_heads.kp C.b_heads .nil .nil (mea_cons (me_var 1) (mea_nil))) (me_call (ok_heads_to C) (hr.mono (by decide)) (by rfl) C.g_heads_to C.f_heads_to.kp C.b_heads_to .nil .nil (mea_cons (me_var 1) (mea_cons (me_sub (me_var 2) (me_var 5)) (mea_nil))))))) (mss_one (ms_ret (me_bl))) (mss_nil)))))) (mss_one (ms_ret (me_bl))))))⟩)
theorem ok_turned_over (C : Txt K w mg A) : FnOk P w K mg base CX0 5 A.a_turned_over A.d_turned_over ["row", "place"] (spD K PR.mf_turned_over) :=
  fn_ok (N := N_turned_over) (kp := (fun _ => false)) C.f_turned_over sc_turned_over (by decide) (fun cdv B outer s H E hr => ⟨_, mss_cons (ms_asg 2 (me_call (ok_given_row C) (hr.mono (by decide)) (by rfl) C.g_given_row C.f_given_row.kp C.b_given_row .nil .nil (mea_cons (me_var 0) (mea_nil))) sc_turned_over.nd) (mss_cons (ms_expr (me_call (ok_check_place C) (hr.mono (by decide)) (by rfl) C.g_check_place C.f_check_place.kp C.b_check_place .nil .nil (mea_cons (me_var 1) (mea_cons (me_int) (mea_nil))))) (mss_one (ms_ret (me_call (ok_flipped C) (hr.mono (by decide)) (by rfl) C.g_flipped C.f_flipped.kp C.b_flipped .nil .nil (mea_cons (me_var 2) (mea_cons (me_var 1) (mea_nil)))))))⟩)
theorem ok__law_over_right (C : Txt K w mg A) : FnOk P w K mg base CX0 6 A.a__law_over_right A.d__law_over_right ["strip", "place"] (spD K mf__law_over_right) :=
  fn_ok (N := N__law_over_right) (kp := (fun _ => false)) C.f__law_over_right sc__law_over_right (by decide) (fun cdv B outer s H E hr => ⟨_, mss_cons (ms_asg 2 (me_call (ok_turned_over C) (hr.mono (by decide)) (by rfl) C.g_turned_over C.f_turned_over.kp C.b_turned_over .nil .nil (mea_cons (me_var 0) (mea_cons (me_var 1) (mea_nil)))) sc__law_over_right.nd) (mss_cons (ms_asg 3 (me_sub (me_int) (me_mul (me_int) (me_fnT fnS_int call_int1 (by rfl) C.n_int (by decide +kernel) (mea_cons (me_call (ok_shows C) (hr.mono (by decide)) (by rfl) C.g_shows C.f_shows.kp C.b_shows .nil .nil (mea_cons (me_var 0) (mea_cons (me_var 1) (mea_nil)))) (mea_nil))))) sc__law_over_right.nd) (mss_cons (ms_if ((mew_or (met_ne hr.units (me_call (ok_turned_over C) (hr.mono (by decide)) (by rfl) C.g_turned_over C.f_turned_over.kp C.b_turned_over .nil .nil (mea_cons (me_var 2) (mea_cons (me_var 1) (mea_nil)))) (me_var 0)) (mew_or1 (met_eq hr.units (me_call (ok_shows C) (hr.mono (by decide)) (by rfl) C.g_shows C.f_shows.kp C.b_shows .nil .nil (mea_cons (me_var 2) (mea_cons (me_var 1) (mea_nil)))) (me_call (ok_shows C) (hr.mono (by decide)) (by rfl) C.g_shows C.f_shows.kp C.b_shows .nil .nil (mea_cons (me_var 0) (mea_cons (me_var 1) (mea_nil))))))).met) (mss_one (ms_ret (me_bl))) (mss_nil)) (mss_cons (ms_if ((mew_or (met_ne hr.units (me_call (ok_heads C) (hr.mono (by decide)) (by rfl) C.g_heads C.f_heads.kp C.b_heads .nil .nil (mea_cons (me_var 2) (mea_nil))) (me_add (me_call (ok_heads C) (hr.mono (by decide)) (by rfl) C.g_heads C.f_heads.kp C.b_heads .nil .nil (mea_cons (me_var 0) (mea_nil))) (me_var 3))) (mew_or1 (met_ne hr.units (me_call (ok_added C) (hr.mono (by decide)) (by rfl) C.g_added C.f_added.kp C.b_added .nil .nil (mea_cons (me_var 2) (mea_nil))) (me_add (me_call (ok_added C) (hr.mono (by decide)) (by rfl) C.g_added C.f_added.kp C.b_added .nil .nil (mea_cons (me_var 0) (mea_nil))) (me_mul (me_var 3) (me_var 1)))))).met) (mss_one (ms_ret (me_bl))) (mss_nil)) (mss_cons (ms_if (met_ne hr.units (me_call (ok_heads_to C) (hr.mono (by decide)) (by rfl) C.g_heads_to C.f_heads_to.kp C.b_heads_to .nil .nil (mea_cons (me_var 2) (mea_cons (me_sub (me_var 1) (me_int)) (mea_nil)))) (me_call (ok_heads_to C) (hr.mono (by decide)) (by rfl) C.g_heads_to C.f_heads_to.kp C.b_heads_to .nil .nil (mea_cons (me_var 0) (mea_cons (me_sub (me_var 1) (me_int)) (mea_nil))))) (mss_one (ms_ret (me_bl))) (mss_nil)) (mss_one (ms_ret (me_eq hr.units (me_call (ok_heads_to C) (hr.mono (by decide)) (by rfl) C.g_heads_to C.f_heads_to.kp C.b_heads_to .nil .nil (mea_cons (me_var 2) (mea_cons (me_var 1) (mea_nil)))) (me_add (me_call (ok_heads_to C) (hr.mono (by decide)) (by rfl) C.g_heads_to C.f_heads_to.kp C.b_heads_to .nil .nil (mea_cons (me_var 0) (mea_cons (me_var 1) (mea_nil)))) (me_var 3)))))))))⟩)
theorem ok__law_right (C : Txt K w mg A) : FnOk P w K mg base CX0 7 A.a__law_right A.d__law_right ["bank"] (spD K mf__law_right) :=
  fn_ok (N := N__law_right) (kp := (fun j => j == 0)) C.f__law_right sc__law_right (by decide) (fun cdv B outer s H E hr => ⟨_, mss_cons (ms_asg 1 (me_callM 0 (ok__law_strip C) (hr.mono (by decide)) (by rfl) C.g__law_strip C.f__law_strip.kp C.b__law_strip .nil .nil (mea_nil)) sc__law_right.nd) (mss_cons (ms_asg 2 (me_call (ok_heads C) (hr.mono (by decide)) (by rfl) C.g_heads C.f_heads.kp C.b_heads .nil .nil (mea_cons (me_var 1) (mea_nil))) sc__law_right.nd) (mss_cons (ms_for PassesOwn.never rfl (mi_range1 (by rfl) C.n_range (mea_cons (me_int) (mea_nil))) (mg_name 3 sc__law_right.nd) (mss_cons (ms_if (met_not (met_tru (me_call (ok__law_over_right C) (hr.mono (by decide)) (by rfl) C.g__law_over_right C.f__law_over_right.kp C.b__law_over_right .nil .nil (mea_cons (me_var 1) (mea_cons (me_fn fnS_max2 (call_max2 rfl) (by rfl) C.n_max (by decide +kernel) (mea_cons (me_int) (mea_cons (me_callM 0 (ok__law_spot C) (hr.mono (by decide)) (by rfl) C.g__law_spot C.f__law_spot.kp C.b__law_spot .nil .nil (mea_cons (me_var 1) (mea_nil))) (mea_nil)))) (mea_nil)))))) (mss_one (ms_ret (me_bl))) (mss_nil)) (mss_one (ms_if (met_gt (me_var 2) (me_int)) (mss_cons (ms_asg 4 (me_add (me_int) (me_callM 0 (ok__law_flip C) (hr.mono (by decide)) (by rfl) C.g__law_flip C.f__law_flip.kp C.b__law_flip .nil .nil (mea_cons (me_var 2) (mea_nil)))) sc__law_right.nd) (mss_cons (ms_asg 5 (me_call (ok_nth C) (hr.mono (by decide)) (by rfl) C.g_nth C.f_nth.kp C.b_nth .nil .nil (mea_cons (me_var 1) (mea_cons (me_var 4) (mea_nil)))) sc__law_right.nd) (mss_cons (ms_if ((mew_or (met_not (met_tru (me_call (ok_shows C) (hr.mono (by decide)) (by rfl) C.g_shows C.f_shows.kp C.b_shows .nil .nil (mea_cons (me_var 1) (mea_cons (me_var 5) (mea_nil)))))) (mew_or1 (met_ne hr.units (me_call (ok_heads_to C) (hr.mono (by decide)) (by rfl) C.g_heads_to C.f_heads_to.kp C.b_heads_to .nil .nil (mea_cons (me_var 1) (mea_cons (me_var 5) (mea_nil)))) (me_var 4)))).met) (mss_one (ms_ret (me_bl))) (mss_nil)) (mss_one (ms_if (met_ne hr.units (me_call (ok_heads_to C) (hr.mono (by decide)) (by rfl) C.g_heads_to C.f_heads_to.kp C.b_heads_to .nil .nil (mea_cons (me_var 1) (mea_cons (me_sub (me_var 5) (me_int)) (mea_nil)))) (me_sub (me_var 4) (me_int))) (mss_one (ms_ret (me_bl))) (mss_nil)))))) (mss_nil))))) (mss_cons (ms_if ((mew_and (met_lt (me_var 2) (me_int)) (mew_and1 (met_ne hr.units (me_call (ok_row_of C) (hr.mono (by decide)) (by rfl) C.g_row_of C.f_row_of.kp C.b_row_of .nil .nil (mea_cons (me_comp (own := [("k", 7)]) rfl sc__law_right.nd (mi_range1 (by rfl) C.n_range (mea_cons (me_var 2) (mea_nil))) (blkOk_by (N := N__law_right) (sc := defScope s__law_right) (by decide +kernel)) (fun _ _ _ _ _ => mg_name 7 sc__law_right.nd) (fun _ _ _ _ _ => mts_nil) (fun _ _ _ _ _ => me_call (ok_nth C) (hr.mono (by decide)) (by rfl) C.g_nth C.f_nth.kp C.b_nth .nil .nil (mea_cons (me_var 1) (mea_cons (me_sub (me_var 2) (me_var 7)) (mea_nil))))) (mea_nil))) (me_var 1)))).met) (mss_one (ms_ret (me_bl))) (mss_nil)) (mss_cons (ms_asg 6 (me_add (me_call (ok_last_place C) (hr.mono (by decide)) (by rfl) C.g_last_place C.f_last_place.kp C.b_last_place .nil .nil (mea_cons (me_var 1) (mea_nil))) (me_ix (me_lst (mea_cons (me_int) (mea_cons (me_int) (mea_cons (me_callM 0 (ok__law_flip C) (hr.mono (by decide)) (by rfl) C.g__law_flip C.f__law_flip.kp C.b__law_flip .nil .nil (mea_cons (me_int) (mea_nil))) (mea_cons (me_callM 0 (ok__law_flip C) (hr.mono (by decide)) (by rfl) C.g__law_flip C.f__law_flip.kp C.b__law_flip .nil .nil (mea_cons (me_pow (me_int) (me_int)) (mea_nil))) (mea_nil)))))) (me_callM 0 (ok__law_flip C) (hr.mono (by decide)) (by rfl) C.g__law_flip C.f__law_flip.kp C.b__law_flip .nil .nil (mea_cons (me_int) (mea_nil))) (fun _ _ => rfl))) sc__law_right.nd) (mss_one (ms_ret (me_callM 0 (ok__law_about_right C) (hr.mono (by decide)) (by rfl) C.g__law_about_right C.f__law_about_right.kp C.b__law_about_right .nil .nil (mea_cons (me_var 1) (mea_cons (me_var 6) (mea_nil))))))))))⟩)
theorem ok_law (C : Txt K w mg A) : FnOk P w K mg base CX0 8 A.a_law A.d_law ["script"] (spD K mf_law) :=
  fn_ok (N := N_law) (kp := (fun _ => false)) C.f_law sc_law (by decide) (fun cdv B outer s H E hr => ⟨_, mss_cons (ms_for PassesOwn.never rfl (mi_enum (by rfl) C.n_enumerate (me_sl (me_add (me_var 0) (me_lst (mea_cons (me_int) (mea_nil)))) (meo_none) (meo_some (me_fn fnS_max2 (call_max2 rfl) (by rfl) C.n_max (by decide +kernel) (mea_cons (me_int) (mea_cons (me_fn fnS_min2 (call_min2 rfl) (by rfl) C.n_min (by decide +kernel) (mea_cons (me_fn fnS_len call_len (by rfl) C.n_len (by decide +kernel) (mea_cons (me_var 0) (mea_nil))) (mea_cons (me_int) (mea_nil)))) (mea_nil))))))) (mg_tl rfl (pgn_cons 1 (pgn_cons 2 (pgn_nil) sc_law.nd) sc_law.nd)) (mss_one (ms_if (met_not (met_tru (me_call (ok__law_right C) (hr.mono (by decide)) (by rfl) C.g__law_right C.f__law_right.kp C.b__law_right .nil .nil (mea_cons (me_call (ok__law_bank C) (hr.mono (by decide)) (by rfl) C.g__law_bank C.f__law_bank.kp C.b__law_bank .nil .nil (mea_cons (me_var 2) (mea_cons (me_var 1) (mea_nil)))) (mea_nil))))) (mss_one (ms_ret (me_bl))) (mss_nil)))) (mss_one (ms_ret (me_bl)))⟩)
end
theorem all_mk {l : PySem.W.OpenLaw} {w : World} {K : PySem.W.Frag} {h : Heap} {mg : Str → Option Value} {fa f0 f1 f2 f3 f4 f5 f6 f7 f8 f9 f10 f11 f12 f13 f14 f15 f16 f17 f18 f19 f20 f21 f22 f23 f24 f25 f26 : Addr} (X : K.In h) (G : h.Ns mainGlobals mg) (hfa : mg "law" = some (.ref fa))
    {od0 an0 : Option Addr} {sl0 : Array (Option Value)} {oc0 kV0 dc0 pm0 cd0 ct0 : Value}
    {od1 an1 : Option Addr} {sl1 : Array (Option Value)} {oc1 kV1 dc1 pm1 cd1 ct1 : Value}
    {od2 an2 : Option Addr} {sl2 : Array (Option Value)} {oc2 kV2 dc2 pm2 cd2 ct2 : Value}
    {od3 an3 : Option Addr} {sl3 : Array (Option Value)} {oc3 kV3 dc3 pm3 cd3 ct3 : Value}
    {od4 an4 : Option Addr} {sl4 : Array (Option Value)} {oc4 kV4 dc4 pm4 cd4 ct4 : Value}
    {od5 an5 : Option Addr} {sl5 : Array (Option Value)} {oc5 kV5 dc5 pm5 cd5 ct5 : Value}
    {od6 an6 : Option Addr} {sl6 : Array (Option Value)} {oc6 kV6 dc6 pm6 cd6 ct6 : Value}
    {od7 an7 : Option Addr} {sl7 : Array (Option Value)} {oc7 kV7 dc7 pm7 cd7 ct7 : Value}
    {od8 an8 : Option Addr} {sl8 : Array (Option Value)} {oc8 kV8 dc8 pm8 cd8 ct8 : Value}
    {od9 an9 : Option Addr} {sl9 : Array (Option Value)} {oc9 kV9 dc9 pm9 cd9 ct9 : Value}
    {od10 an10 : Option Addr} {sl10 : Array (Option Value)} {oc10 kV10 dc10 pm10 cd10 ct10 : Value}
    {od11 an11 : Option Addr} {sl11 : Array (Option Value)} {oc11 kV11 dc11 pm11 cd11 ct11 : Value}
    {od12 an12 : Option Addr} {sl12 : Array (Option Value)} {oc12 kV12 dc12 pm12 cd12 ct12 : Value}
    {od13 an13 : Option Addr} {sl13 : Array (Option Value)} {oc13 kV13 dc13 pm13 cd13 ct13 : Value}
    {od14 an14 : Option Addr} {sl14 : Array (Option Value)} {oc14 kV14 dc14 pm14 cd14 ct14 : Value}
    {od15 an15 : Option Addr} {sl15 : Array (Option Value)} {oc15 kV15 dc15 pm15 cd15 ct15 : Value}
    {od16 an16 : Option Addr} {sl16 : Array (Option Value)} {oc16 kV16 dc16 pm16 cd16 ct16 : Value}
    {od17 an17 : Option Addr} {sl17 : Array (Option Value)} {oc17 kV17 dc17 pm17 cd17 ct17 : Value}
    {od18 an18 : Option Addr} {sl18 : Array (Option Value)} {oc18 kV18 dc18 pm18 cd18 ct18 : Value}
    {od19 an19 : Option Addr} {sl19 : Array (Option Value)} {oc19 kV19 dc19 pm19 cd19 ct19 : Value}
    {od20 an20 : Option Addr} {sl20 : Array (Option Value)} {oc20 kV20 dc20 pm20 cd20 ct20 : Value}
    {od21 an21 : Option Addr} {sl21 : Array (Option Value)} {oc21 kV21 dc21 pm21 cd21 ct21 : Value}
    {od22 an22 : Option Addr} {sl22 : Array (Option Value)} {oc22 kV22 dc22 pm22 cd22 ct22 : Value}
    {od23 an23 : Option Addr} {sl23 : Array (Option Value)} {oc23 kV23 dc23 pm23 cd23 ct23 : Value}
    {od24 an24 : Option Addr} {sl24 : Array (Option Value)} {oc24 kV24 dc24 pm24 cd24 ct24 : Value}
    {od25 an25 : Option Addr} {sl25 : Array (Option Value)} {oc25 kV25 dc25 pm25 cd25 ct25 : Value}
    {od26 an26 : Option Addr} {sl26 : Array (Option Value)} {oc26 kV26 dc26 pm26 cd26 ct26 : Value}
    (a0 : PySem.W.nsIn K mainGlobals "is_whole" = some (some (.ref f0))) (l0 : K.lookup f0 = some ⟨oc0, od0, .func (PySem.W.fnOf "is_whole" "is_whole" (defArgs s_is_whole) (defBody s_is_whole) (defScope s_is_whole) .none kV0 dc0 pm0 an0 cd0 ct0), sl0⟩) (c0 : PySem.W.codeIn K cd0 "is_whole" = true) (k0 : PySem.W.keepIn K (.ref f0) = true)
    (a1 : PySem.W.nsIn K mainGlobals "is_row" = some (some (.ref f1))) (l1 : K.lookup f1 = some ⟨oc1, od1, .func (PySem.W.fnOf "is_row" "is_row" (defArgs s_is_row) (defBody s_is_row) (defScope s_is_row) .none kV1 dc1 pm1 an1 cd1 ct1), sl1⟩) (c1 : PySem.W.codeIn K cd1 "is_row" = true) (k1 : PySem.W.keepIn K (.ref f1) = true)
    (a2 : PySem.W.nsIn K mainGlobals "is_stretch" = some (some (.ref f2))) (l2 : K.lookup f2 = some ⟨oc2, od2, .func (PySem.W.fnOf "is_stretch" "is_stretch" (defArgs s_is_stretch) (defBody s_is_stretch) (defScope s_is_stretch) .none kV2 dc2 pm2 an2 cd2 ct2), sl2⟩) (c2 : PySem.W.codeIn K cd2 "is_stretch" = true) (k2 : PySem.W.keepIn K (.ref f2) = true)
    (a3 : PySem.W.nsIn K mainGlobals "given_row" = some (some (.ref f3))) (l3 : K.lookup f3 = some ⟨oc3, od3, .func (PySem.W.fnOf "given_row" "given_row" (defArgs s_given_row) (defBody s_given_row) (defScope s_given_row) .none kV3 dc3 pm3 an3 cd3 ct3), sl3⟩) (c3 : PySem.W.codeIn K cd3 "given_row" = true) (k3 : PySem.W.keepIn K (.ref f3) = true)
    (a4 : PySem.W.nsIn K mainGlobals "check_place" = some (some (.ref f4))) (l4 : K.lookup f4 = some ⟨oc4, od4, .func (PySem.W.fnOf "check_place" "check_place" (defArgs s_check_place) (defBody s_check_place) (defScope s_check_place) .none kV4 dc4 pm4 an4 cd4 ct4), sl4⟩) (c4 : PySem.W.codeIn K cd4 "check_place" = true) (k4 : PySem.W.keepIn K (.ref f4) = true)
    (a5 : PySem.W.nsIn K mainGlobals "check_places" = some (some (.ref f5))) (l5 : K.lookup f5 = some ⟨oc5, od5, .func (PySem.W.fnOf "check_places" "check_places" (defArgs s_check_places) (defBody s_check_places) (defScope s_check_places) .none kV5 dc5 pm5 an5 cd5 ct5), sl5⟩) (c5 : PySem.W.codeIn K cd5 "check_places" = true) (k5 : PySem.W.keepIn K (.ref f5) = true)
    (a6 : PySem.W.nsIn K mainGlobals "heads" = some (some (.ref f6))) (l6 : K.lookup f6 = some ⟨oc6, od6, .func (PySem.W.fnOf "heads" "heads" (defArgs s_heads) (defBody s_heads) (defScope s_heads) .none kV6 dc6 pm6 an6 cd6 ct6), sl6⟩) (c6 : PySem.W.codeIn K cd6 "heads" = true) (k6 : PySem.W.keepIn K (.ref f6) = true)
    (a7 : PySem.W.nsIn K mainGlobals "count_heads" = some (some (.ref f7))) (l7 : K.lookup f7 = some ⟨oc7, od7, .func (PySem.W.fnOf "count_heads" "count_heads" (defArgs s_count_heads) (defBody s_count_heads) (defScope s_count_heads) .none kV7 dc7 pm7 an7 cd7 ct7), sl7⟩) (c7 : PySem.W.codeIn K cd7 "count_heads" = true) (k7 : PySem.W.keepIn K (.ref f7) = true)
    (a8 : PySem.W.nsIn K mainGlobals "shows" = some (some (.ref f8))) (l8 : K.lookup f8 = some ⟨oc8, od8, .func (PySem.W.fnOf "shows" "shows" (defArgs s_shows) (defBody s_shows) (defScope s_shows) .none kV8 dc8 pm8 an8 cd8 ct8), sl8⟩) (c8 : PySem.W.codeIn K cd8 "shows" = true) (k8 : PySem.W.keepIn K (.ref f8) = true)
    (a9 : PySem.W.nsIn K mainGlobals "heads_to" = some (some (.ref f9))) (l9 : K.lookup f9 = some ⟨oc9, od9, .func (PySem.W.fnOf "heads_to" "heads_to" (defArgs s_heads_to) (defBody s_heads_to) (defScope s_heads_to) .none kV9 dc9 pm9 an9 cd9 ct9), sl9⟩) (c9 : PySem.W.codeIn K cd9 "heads_to" = true) (k9 : PySem.W.keepIn K (.ref f9) = true)
    (a10 : PySem.W.nsIn K mainGlobals "nth" = some (some (.ref f10))) (l10 : K.lookup f10 = some ⟨oc10, od10, .func (PySem.W.fnOf "nth" "nth" (defArgs s_nth) (defBody s_nth) (defScope s_nth) .none kV10 dc10 pm10 an10 cd10 ct10), sl10⟩) (c10 : PySem.W.codeIn K cd10 "nth" = true) (k10 : PySem.W.keepIn K (.ref f10) = true)
    (a11 : PySem.W.nsIn K mainGlobals "added" = some (some (.ref f11))) (l11 : K.lookup f11 = some ⟨oc11, od11, .func (PySem.W.fnOf "added" "added" (defArgs s_added) (defBody s_added) (defScope s_added) .none kV11 dc11 pm11 an11 cd11 ct11), sl11⟩) (c11 : PySem.W.codeIn K cd11 "added" = true) (k11 : PySem.W.keepIn K (.ref f11) = true)
    (a12 : PySem.W.nsIn K mainGlobals "last_place" = some (some (.ref f12))) (l12 : K.lookup f12 = some ⟨oc12, od12, .func (PySem.W.fnOf "last_place" "last_place" (defArgs s_last_place) (defBody s_last_place) (defScope s_last_place) .none kV12 dc12 pm12 an12 cd12 ct12), sl12⟩) (c12 : PySem.W.codeIn K cd12 "last_place" = true) (k12 : PySem.W.keepIn K (.ref f12) = true)
    (a13 : PySem.W.nsIn K mainGlobals "last_of" = some (some (.ref f13))) (l13 : K.lookup f13 = some ⟨oc13, od13, .func (PySem.W.fnOf "last_of" "last_of" (defArgs s_last_of) (defBody s_last_of) (defScope s_last_of) .none kV13 dc13 pm13 an13 cd13 ct13), sl13⟩) (c13 : PySem.W.codeIn K cd13 "last_of" = true) (k13 : PySem.W.keepIn K (.ref f13) = true)
    (a14 : PySem.W.nsIn K mainGlobals "turned_over" = some (some (.ref f14))) (l14 : K.lookup f14 = some ⟨oc14, od14, .func (PySem.W.fnOf "turned_over" "turned_over" (defArgs s_turned_over) (defBody s_turned_over) (defScope s_turned_over) .none kV14 dc14 pm14 an14 cd14 ct14), sl14⟩) (c14 : PySem.W.codeIn K cd14 "turned_over" = true) (k14 : PySem.W.keepIn K (.ref f14) = true)
    (a15 : PySem.W.nsIn K mainGlobals "flipped" = some (some (.ref f15))) (l15 : K.lookup f15 = some ⟨oc15, od15, .func (PySem.W.fnOf "flipped" "flipped" (defArgs s_flipped) (defBody s_flipped) (defScope s_flipped) .none kV15 dc15 pm15 an15 cd15 ct15), sl15⟩) (c15 : PySem.W.codeIn K cd15 "flipped" = true) (k15 : PySem.W.keepIn K (.ref f15) = true)
    (a16 : PySem.W.nsIn K mainGlobals "parted" = some (some (.ref f16))) (l16 : K.lookup f16 = some ⟨oc16, od16, .func (PySem.W.fnOf "parted" "parted" (defArgs s_parted) (defBody s_parted) (defScope s_parted) .none kV16 dc16 pm16 an16 cd16 ct16), sl16⟩) (c16 : PySem.W.codeIn K cd16 "parted" = true) (k16 : PySem.W.keepIn K (.ref f16) = true)
    (a17 : PySem.W.nsIn K mainGlobals "row_of" = some (some (.ref f17))) (l17 : K.lookup f17 = some ⟨oc17, od17, .func (PySem.W.fnOf "row_of" "row_of" (defArgs s_row_of) (defBody s_row_of) (defScope s_row_of) .none kV17 dc17 pm17 an17 cd17 ct17), sl17⟩) (c17 : PySem.W.codeIn K cd17 "row_of" = true) (k17 : PySem.W.keepIn K (.ref f17) = true)
    (a18 : PySem.W.nsIn K mainGlobals "about" = some (some (.ref f18))) (l18 : K.lookup f18 = some ⟨oc18, od18, .func (PySem.W.fnOf "about" "about" (defArgs s_about) (defBody s_about) (defScope s_about) .none kV18 dc18 pm18 an18 cd18 ct18), sl18⟩) (c18 : PySem.W.codeIn K cd18 "about" = true) (k18 : PySem.W.keepIn K (.ref f18) = true)
    (a19 : PySem.W.nsIn K mainGlobals "_law_bank" = some (some (.ref f19))) (l19 : K.lookup f19 = some ⟨oc19, od19, .func (PySem.W.fnOf "_law_bank" "_law_bank" (defArgs s__law_bank) (defBody s__law_bank) (defScope s__law_bank) .none kV19 dc19 pm19 an19 cd19 ct19), sl19⟩) (c19 : PySem.W.codeIn K cd19 "_law_bank" = true) (k19 : PySem.W.keepIn K (.ref f19) = true)
    (a20 : PySem.W.nsIn K mainGlobals "_law_flip" = some (some (.ref f20))) (l20 : K.lookup f20 = some ⟨oc20, od20, .func (PySem.W.fnOf "_law_flip" "_law_flip" (defArgs s__law_flip) (defBody s__law_flip) (defScope s__law_flip) .none kV20 dc20 pm20 an20 cd20 ct20), sl20⟩) (c20 : PySem.W.codeIn K cd20 "_law_flip" = true) (k20 : PySem.W.keepIn K (.ref f20) = true)
    (a21 : PySem.W.nsIn K mainGlobals "_law_strip" = some (some (.ref f21))) (l21 : K.lookup f21 = some ⟨oc21, od21, .func (PySem.W.fnOf "_law_strip" "_law_strip" (defArgs s__law_strip) (defBody s__law_strip) (defScope s__law_strip) .none kV21 dc21 pm21 an21 cd21 ct21), sl21⟩) (c21 : PySem.W.codeIn K cd21 "_law_strip" = true) (k21 : PySem.W.keepIn K (.ref f21) = true)
    (a22 : PySem.W.nsIn K mainGlobals "_law_spot" = some (some (.ref f22))) (l22 : K.lookup f22 = some ⟨oc22, od22, .func (PySem.W.fnOf "_law_spot" "_law_spot" (defArgs s__law_spot) (defBody s__law_spot) (defScope s__law_spot) .none kV22 dc22 pm22 an22 cd22 ct22), sl22⟩) (c22 : PySem.W.codeIn K cd22 "_law_spot" = true) (k22 : PySem.W.keepIn K (.ref f22) = true)
    (a23 : PySem.W.nsIn K mainGlobals "_law_over_right" = some (some (.ref f23))) (l23 : K.lookup f23 = some ⟨oc23, od23, .func (PySem.W.fnOf "_law_over_right" "_law_over_right" (defArgs s__law_over_right) (defBody s__law_over_right) (defScope s__law_over_right) .none kV23 dc23 pm23 an23 cd23 ct23), sl23⟩) (c23 : PySem.W.codeIn K cd23 "_law_over_right" = true) (k23 : PySem.W.keepIn K (.ref f23) = true)
    (a24 : PySem.W.nsIn K mainGlobals "_law_about_right" = some (some (.ref f24))) (l24 : K.lookup f24 = some ⟨oc24, od24, .func (PySem.W.fnOf "_law_about_right" "_law_about_right" (defArgs s__law_about_right) (defBody s__law_about_right) (defScope s__law_about_right) .none kV24 dc24 pm24 an24 cd24 ct24), sl24⟩) (c24 : PySem.W.codeIn K cd24 "_law_about_right" = true) (k24 : PySem.W.keepIn K (.ref f24) = true)
    (a25 : PySem.W.nsIn K mainGlobals "_law_right" = some (some (.ref f25))) (l25 : K.lookup f25 = some ⟨oc25, od25, .func (PySem.W.fnOf "_law_right" "_law_right" (defArgs s__law_right) (defBody s__law_right) (defScope s__law_right) .none kV25 dc25 pm25 an25 cd25 ct25), sl25⟩) (c25 : PySem.W.codeIn K cd25 "_law_right" = true) (k25 : PySem.W.keepIn K (.ref f25) = true)
    (a26 : PySem.W.nsIn K mainGlobals "law" = some (some (.ref f26))) (l26 : K.lookup f26 = some ⟨oc26, od26, .func (PySem.W.fnOf "law" "law" (defArgs s_law) (defBody s_law) (defScope s_law) .none kV26 dc26 pm26 an26 cd26 ct26), sl26⟩) (c26 : PySem.W.codeIn K cd26 "law" = true) (k26 : PySem.W.keepIn K (.ref f26) = true)
    (z_any : PySem.W.nsIn K mainGlobals "any" = some none) (z_bool : PySem.W.nsIn K mainGlobals "bool" = some none) (z_enumerate : PySem.W.nsIn K mainGlobals "enumerate" = some none) (z_int : PySem.W.nsIn K mainGlobals "int" = some none) (z_isinstance : PySem.W.nsIn K mainGlobals "isinstance" = some none) (z_len : PySem.W.nsIn K mainGlobals "len" = some none) (z_list : PySem.W.nsIn K mainGlobals "list" = some none) (z_max : PySem.W.nsIn K mainGlobals "max" = some none) (z_min : PySem.W.nsIn K mainGlobals "min" = some none) (z_range : PySem.W.nsIn K mainGlobals "range" = some none) (z_sorted : PySem.W.nsIn K mainGlobals "sorted" = some none) (z_sum : PySem.W.nsIn K mainGlobals "sum" = some none) (z_tuple : PySem.W.nsIn K mainGlobals "tuple" = some none) :
    ∃ fd : FuncData, (∀ (s : Shared) (v : Value), BindsTo s fd ⟨[v], []⟩ [("script", v)]) ∧ ∀ base : Heap, K.In base → base.Ns mainGlobals mg → FnOk l.prog w K mg base CX0 8 fa fd ["script"] (spD K mf_law) := by
  have e := hfa.symm.trans (PySem.W.mg_of X G a26)
  cases e
  have F0 := fun_mk (st := s_is_whole) l0 c0 k0
  have B0 := F0.binds (ps := ["thing", "least"]) fun _ _ _ _ _ _ us hl => match us, hl with | [_, _], _ => rfl
  have F1 := fun_mk (st := s_is_row) l1 c1 k1
  have B1 := F1.binds (ps := ["thing"]) fun _ _ _ _ _ _ us hl => match us, hl with | [_], _ => rfl
  have F2 := fun_mk (st := s_is_stretch) l2 c2 k2
  have B2 := F2.binds (ps := ["thing", "free"]) fun _ _ _ _ _ _ us hl => match us, hl with | [_, _], _ => rfl
  have F3 := fun_mk (st := s_given_row) l3 c3 k3
  have B3 := F3.binds (ps := ["row"]) fun _ _ _ _ _ _ us hl => match us, hl with | [_], _ => rfl
  have F4 := fun_mk (st := s_check_place) l4 c4 k4
  have B4 := F4.binds (ps := ["place", "least"]) fun _ _ _ _ _ _ us hl => match us, hl with | [_, _], _ => rfl
  have F5 := fun_mk (st := s_check_places) l5 c5 k5
  have B5 := F5.binds (ps := ["n", "stretches"]) fun _ _ _ _ _ _ us hl => match us, hl with | [_, _], _ => rfl
  have F6 := fun_mk (st := s_heads) l6 c6 k6
  have B6 := F6.binds (ps := ["row"]) fun _ _ _ _ _ _ us hl => match us, hl with | [_], _ => rfl
  have F7 := fun_mk (st := s_count_heads) l7 c7 k7
  have B7 := F7.binds (ps := ["stretches"]) fun _ _ _ _ _ _ us hl => match us, hl with | [_], _ => rfl
  have F8 := fun_mk (st := s_shows) l8 c8 k8
  have B8 := F8.binds (ps := ["row", "place"]) fun _ _ _ _ _ _ us hl => match us, hl with | [_, _], _ => rfl
  have F9 := fun_mk (st := s_heads_to) l9 c9 k9
  have B9 := F9.binds (ps := ["row", "place"]) fun _ _ _ _ _ _ us hl => match us, hl with | [_, _], _ => rfl
  have F10 := fun_mk (st := s_nth) l10 c10 k10
  have B10 := F10.binds (ps := ["row", "number"]) fun _ _ _ _ _ _ us hl => match us, hl with | [_, _], _ => rfl
  have F11 := fun_mk (st := s_added) l11 c11 k11
  have B11 := F11.binds (ps := ["row"]) fun _ _ _ _ _ _ us hl => match us, hl with | [_], _ => rfl
  have F12 := fun_mk (st := s_last_place) l12 c12 k12
  have B12 := F12.binds (ps := ["row"]) fun _ _ _ _ _ _ us hl => match us, hl with | [_], _ => rfl
  have F13 := fun_mk (st := s_last_of) l13 c13 k13
  have B13 := F13.binds (ps := ["stretches"]) fun _ _ _ _ _ _ us hl => match us, hl with | [_], _ => rfl
  have F14 := fun_mk (st := s_turned_over) l14 c14 k14
  have B14 := F14.binds (ps := ["row", "place"]) fun _ _ _ _ _ _ us hl => match us, hl with | [_, _], _ => rfl
  have F15 := fun_mk (st := s_flipped) l15 c15 k15
  have B15 := F15.binds (ps := ["stretches", "place"]) fun _ _ _ _ _ _ us hl => match us, hl with | [_, _], _ => rfl
  have F16 := fun_mk (st := s_parted) l16 c16 k16
  have B16 := F16.binds (ps := ["stretch", "place"]) fun _ _ _ _ _ _ us hl => match us, hl with | [_, _], _ => rfl
  have F17 := fun_mk (st := s_row_of) l17 c17 k17
  have B17 := F17.binds (ps := ["places"]) fun _ _ _ _ _ _ us hl => match us, hl with | [_], _ => rfl
  have F18 := fun_mk (st := s_about) l18 c18 k18
  have B18 := F18.binds (ps := ["row", "n"]) fun _ _ _ _ _ _ us hl => match us, hl with | [_, _], _ => rfl
  have F19 := fun_mk (st := s__law_bank) l19 c19 k19
  have B19 := F19.binds (ps := ["cell", "k"]) fun _ _ _ _ _ _ us hl => match us, hl with | [_, _], _ => rfl
  have F20 := fun_mk (st := s__law_flip) l20 c20 k20
  have B20 := F20.binds (ps := ["bank", "many"]) fun _ _ _ _ _ _ us hl => match us, hl with | [_, _], _ => rfl
  have F21 := fun_mk (st := s__law_strip) l21 c21 k21
  have B21 := F21.binds (ps := ["bank"]) fun _ _ _ _ _ _ us hl => match us, hl with | [_], _ => rfl
  have F22 := fun_mk (st := s__law_spot) l22 c22 k22
  have B22 := F22.binds (ps := ["bank", "strip"]) fun _ _ _ _ _ _ us hl => match us, hl with | [_, _], _ => rfl
  have F23 := fun_mk (st := s__law_over_right) l23 c23 k23
  have B23 := F23.binds (ps := ["strip", "place"]) fun _ _ _ _ _ _ us hl => match us, hl with | [_, _], _ => rfl
  have F24 := fun_mk (st := s__law_about_right) l24 c24 k24
  have B24 := F24.binds (ps := ["bank", "strip", "n"]) fun _ _ _ _ _ _ us hl => match us, hl with | [_, _, _], _ => rfl
  have F25 := fun_mk (st := s__law_right) l25 c25 k25
  have B25 := F25.binds (ps := ["bank"]) fun _ _ _ _ _ _ us hl => match us, hl with | [_], _ => rfl
  have F26 := fun_mk (st := s_law) l26 c26 k26
  have B26 := F26.binds (ps := ["script"]) fun _ _ _ _ _ _ us hl => match us, hl with | [_], _ => rfl
  have C : Txt K w mg ⟨_, _, _, _, _, _, _, _, _, _, _, _, _, _, _, _, _, _, _, _, _, _, _, _, _, _, _, _, _, _, _, _, _, _, _, _, _, _, _, _, _, _, _, _, _, _, _, _, _, _, _, _, _, _⟩ := ⟨F0, PySem.W.mg_of X G a0, B0, F1, PySem.W.mg_of X G a1, B1, F2, PySem.W.mg_of X G a2, B2, F3, PySem.W.mg_of X G a3, B3, F4, PySem.W.mg_of X G a4, B4, F5, PySem.W.mg_of X G a5, B5, F6, PySem.W.mg_of X G a6, B6, F7, PySem.W.mg_of X G a7, B7, F8, PySem.W.mg_of X G a8, B8, F9, PySem.W.mg_of X G a9, B9, F10, PySem.W.mg_of X G a10, B10, F11, PySem.W.mg_of X G a11, B11, F12, PySem.W.mg_of X G a12, B12, F13, PySem.W.mg_of X G a13, B13, F14, PySem.W.mg_of X G a14, B14, F15, PySem.W.mg_of X G a15, B15, F16, PySem.W.mg_of X G a16, B16, F17, PySem.W.mg_of X G a17, B17, F18, PySem.W.mg_of X G a18, B18, F19, PySem.W.mg_of X G a19, B19, F20, PySem.W.mg_of X G a20, B20, F21, PySem.W.mg_of X G a21, B21, F22, PySem.W.mg_of X G a22, B22, F23, PySem.W.mg_of X G a23, B23, F24, PySem.W.mg_of X G a24, B24, F25, PySem.W.mg_of X G a25, B25, F26, PySem.W.mg_of X G a26, B26, PySem.W.mg_none_of X G z_any, PySem.W.mg_none_of X G z_bool, PySem.W.mg_none_of X G z_enumerate, PySem.W.mg_none_of X G z_int, PySem.W.mg_none_of X G z_isinstance, PySem.W.mg_none_of X G z_len, PySem.W.mg_none_of X G z_list, PySem.W.mg_none_of X G z_max, PySem.W.mg_none_of X G z_min, PySem.W.mg_none_of X G z_range, PySem.W.mg_none_of X G z_sorted, PySem.W.mg_none_of X G z_sum, PySem.W.mg_none_of X G z_tuple⟩
  exact ⟨_, fun s v => .of_eq rfl, fun base _ _ => ok_law C⟩
end K07

namespace Dn
open PySem L2
/-! ### loops and comprehensions as plain folds -/
theorem sizeN {n : Nat} (h : n ≤ 100000) : n ≤ sizeLine := Nat.le_trans h (by decide)
theorem sizeL {n : Nat} (h : n < 100000) : n < sizeLine := Nat.lt_of_lt_of_le h (by decide)
/-- one turn of a comprehension, from the wiped frame ρ0 and back to it -/
def TurnC (g : MG) (t : MT) (e : MX) (vs : List Nat) (ρ0 : List Sl) (d : D) (y : Option D) : Prop :=
  ∃ ρ1 b ρ2, g d ρ0 = some ρ1 ∧ t ρ1 = some (b, ρ2) ∧ ((b = false ∧ y = none ∧ wipeD ρ2 vs = ρ0) ∨ (b = true ∧ ∃ r z ρ3, e ρ2 = some (r, ρ3) ∧ datOf r = some z ∧ y = some z ∧ wipeD ρ3 vs = ρ0))
theorem compL_map {α : Type} {g : MG} {t : MT} {e : MX} {vs : List Nat} {ρ0 : List Sl} (q : α → D) (f : α → Option D) : ∀ (l : List α) (acc : List D) (ρ : List Sl), (∀ a ∈ l, TurnC g t e vs ρ0 (q a) (f a)) → wipeD ρ vs = ρ0 → acc.length + l.length ≤ sizeLine →
    ∃ ρ', mCompL g t e vs (l.map q) acc ρ = some (acc ++ l.filterMap f, ρ') ∧ wipeD ρ' vs = ρ0
  | [], acc, ρ, _, hw, _ => ⟨ρ, by simp, hw⟩
  | a :: l, acc, ρ, h, hw, hl => by
    obtain ⟨ρ1, b, ρ2, h1, h2, h3⟩ := h a List.mem_cons_self
    have hl' : acc.length + l.length + 1 ≤ sizeLine := by simpa [Nat.add_assoc] using hl
    show ∃ ρ', mCompL g t e vs (q a :: l.map q) acc ρ = _ ∧ _
    unfold mCompL
    rw [hw, h1]
    simp only [h2]
    rcases h3 with ⟨rfl, hy, hw2⟩ | ⟨rfl, r, z, ρ3, h4, h5, hy, hw3⟩
    · obtain ⟨ρ', e1, e2⟩ := compL_map q f l acc ρ2 (fun x hx => h x (List.mem_cons_of_mem _ hx)) hw2 (by omega)
      refine ⟨ρ', ?_, e2⟩
      simp only [e1]
      rw [List.filterMap_cons, hy]
    · obtain ⟨ρ', e1, e2⟩ := compL_map q f l (acc ++ [z]) ρ3 (fun x hx => h x (List.mem_cons_of_mem _ hx)) hw3 (by rw [List.length_append]; show acc.length + 1 + l.length ≤ sizeLine; omega)
      refine ⟨ρ', ?_, e2⟩
      simp only [h4, h5]
      rw [if_pos (by omega), e1, List.filterMap_cons, hy]
      simp
theorem comp_map {α : Type} {i : MI} {g : MG} {t : MT} {e : MX} {vs : List Nat} {ρ ρ0 ρ1 : List Sl} (q : α → D) (f : α → Option D) (l : List α) (hi : i ρ = some (l.map q, ρ1)) (hw : wipeD ρ1 vs = ρ0) (hw0 : wipeD ρ0 vs = ρ0)
    (h : ∀ a ∈ l, TurnC g t e vs ρ0 (q a) (f a)) (hl : l.length ≤ sizeLine) : mComp i g t e vs ρ = some (.own (l.filterMap f), ρ0) := by
  obtain ⟨ρ', e1, e2⟩ := compL_map q f l [] (wipeD ρ1 vs) h (by rw [hw]; exact hw0) (by simpa using hl)
  unfold mComp
  simp only [hi, e1, e2, List.nil_append]
/-- a loop whose turns all go on -/
theorem loop_fold {α S : Type} {g : MG} {b : MS} (q : α → D) (W : S → List Sl → Prop) (step : S → α → S) : ∀ (l : List α) (s : S) (ρ : List Sl), (∀ s a ρ, a ∈ l → W s ρ → ∃ ρ1 ρ2, g (q a) ρ = some ρ1 ∧ (b ρ1 = some (.nx ρ2) ∨ b ρ1 = some (.ct ρ2)) ∧ W (step s a) ρ2) → W s ρ →
    ∃ ρ', mLoop g b (l.map q) ρ = some (.nx ρ') ∧ W (l.foldl step s) ρ'
  | [], s, ρ, _, w => ⟨ρ, rfl, w⟩
  | a :: l, s, ρ, h, w => by
    obtain ⟨ρ1, ρ2, h1, h2, h3⟩ := h s a ρ List.mem_cons_self w
    obtain ⟨ρ', e1, e2⟩ := loop_fold q W step l (step s a) ρ2 (fun s x ρ hx => h s x ρ (List.mem_cons_of_mem _ hx)) h3
    refine ⟨ρ', ?_, e2⟩
    show mLoop g b (q a :: l.map q) ρ = _
    unfold mLoop
    rw [h1]
    rcases h2 with h2 | h2 <;> simp only [h2] <;> exact e1
/-- a loop that may return: turns go on while ok, the first that is not returns r -/
theorem loop_until {α S : Type} {g : MG} {b : MS} (q : α → D) (W : S → List Sl → Prop) (step : S → α → Option S) (r : Sl) : ∀ (l : List α) (s : S) (ρ : List Sl),
    (∀ s a ρ, a ∈ l → W s ρ → ∃ ρ1, g (q a) ρ = some ρ1 ∧ match step s a with
      | some s' => ∃ ρ2, (b ρ1 = some (.nx ρ2) ∨ b ρ1 = some (.ct ρ2)) ∧ W s' ρ2
      | none => ∃ ρ2, b ρ1 = some (.rt r ρ2)) → W s ρ →
    match l.foldlM step s with
    | some s' => ∃ ρ', mLoop g b (l.map q) ρ = some (.nx ρ') ∧ W s' ρ'
    | none => ∃ ρ', mLoop g b (l.map q) ρ = some (.rt r ρ')
  | [], s, ρ, _, w => ⟨ρ, rfl, w⟩
  | a :: l, s, ρ, h, w => by
    obtain ⟨ρ1, h1, h2⟩ := h s a ρ List.mem_cons_self w
    rw [List.foldlM_cons]
    cases hs : step s a with
    | none =>
      rw [hs] at h2
      obtain ⟨ρ2, h2⟩ := h2
      refine ⟨ρ2, ?_⟩
      show mLoop g b (q a :: l.map q) ρ = _
      unfold mLoop
      rw [h1]
      simp only [h2]
    | some s' =>
      rw [hs] at h2
      obtain ⟨ρ2, h2, h3⟩ := h2
      have ih := loop_until q W step r l s' ρ2 (fun s x ρ hx => h s x ρ (List.mem_cons_of_mem _ hx)) h3
      have e : mLoop g b ((a :: l).map q) ρ = mLoop g b (l.map q) ρ2 := by
        show mLoop g b (q a :: l.map q) ρ = _
        conv => lhs; unfold mLoop
        rw [h1]
        rcases h2 with h2 | h2 <;> simp only [h2]
      rw [e]
      exact ih
/-- a loop whose turns all go on, by the number of the turn -/
theorem loop_count {α : Type} {g : MG} {b : MS} (q : α → D) (W : Nat → List Sl → Prop) : ∀ (l : List α) (n : Nat) (ρ : List Sl),
    (∀ i a ρ, l[i]? = some a → W (n + i) ρ → ∃ ρ1 ρ2, g (q a) ρ = some ρ1 ∧ (b ρ1 = some (.nx ρ2) ∨ b ρ1 = some (.ct ρ2)) ∧ W (n + i + 1) ρ2) → W n ρ → ∃ ρ', mLoop g b (l.map q) ρ = some (.nx ρ') ∧ W (n + l.length) ρ'
  | [], n, ρ, _, w => ⟨ρ, rfl, w⟩
  | a :: l, n, ρ, h, w => by
    obtain ⟨ρ1, ρ2, h1, h2, h3⟩ := h 0 a ρ rfl w
    obtain ⟨ρ', e1, e2⟩ := loop_count q W l (n + 1) ρ2 (fun i x ρ hx hw => by
      have e : n + 1 + i = n + (i + 1) := by omega
      rw [e] at hw ⊢
      exact h (i + 1) x ρ (by simpa using hx) hw) h3
    refine ⟨ρ', ?_, by
      have e : n + (a :: l).length = n + 1 + l.length := by simp; omega
      rw [e]
      exact e2⟩
    show mLoop g b (q a :: l.map q) ρ = _
    unfold mLoop
    rw [h1]
    rcases h2 with h2 | h2 <;> simp only [h2] <;> exact e1
theorem rangeD_get {lo : Int} {n i : Nat} (h : i < n) : (rangeD lo n)[i]? = some (.int (lo + i)) := by
  unfold rangeD
  rw [List.getElem?_map, List.getElem?_range h]
  rfl
theorem rangeD_map (lo : Int) (n : Nat) : rangeD lo n = (List.range n).map fun (k : Nat) => PyData.int (lo + (k : Int)) := rfl
@[simp] theorem outA_no : ∀ (n : Nat) (ρ : List Sl), outA (fun _ => false) n ρ = List.replicate n .un
  | 0, _ => rfl
  | n + 1, [] => by
    show Sl.un :: outA (fun _ => false) n [] = _
    rw [outA_no n []]
    rfl
  | n + 1, s :: ρ => by
    show (if false = true then s else Sl.un) :: outA (fun _ => false) n ρ = _
    rw [outA_no n ρ]
    rfl
@[simp] theorem outA_first (n : Nat) (s : Sl) (ρ : List Sl) : outA (fun j => j == 0) (n + 1) (s :: ρ) = s :: List.replicate n .un := by
  show (if (0 == 0) = true then s else Sl.un) :: outA (fun j => (j + 1) == 0) n ρ = _
  have e : (fun j => (j + 1) == 0 : Nat → Bool) = fun _ => false := by funext j; simp
  rw [e, outA_no]
  rfl
theorem mSeq_nx {a b : MS} {ρ ρ1 : List Sl} (h : a ρ = some (.nx ρ1)) : mSeq a b ρ = b ρ1 := by rw [mSeq_ap, h]
theorem mDef_rt {np nl : Nat} {kp : Nat → Bool} {mb : MS} {args ρ' : List Sl} {r : Sl} (hn : args.length = np) (h : mb (args ++ List.replicate (nl - np) .un) = some (.rt r ρ')) : mDef np nl kp mb args = some (r, outA kp np ρ') := by rw [mDef_ap, if_pos hn, h]
theorem mIfS_f {c : MT} {a b : MS} {ρ ρ1 : List Sl} (h : c ρ = some (false, ρ1)) : mIfS c a b ρ = b ρ1 := by rw [mIfS_ap, h]; rfl
theorem mIfS_t {c : MT} {a b : MS} {ρ ρ1 : List Sl} (h : c ρ = some (true, ρ1)) : mIfS c a b ρ = a ρ1 := by rw [mIfS_ap, h]; rfl
theorem mTAnd_t {a b : MT} {ρ ρ1 : List Sl} (h : a ρ = some (true, ρ1)) : mTAnd a b ρ = b ρ1 := by rw [mTAnd_ap, h]; rfl
theorem mTAnd_f {a b : MT} {ρ ρ1 : List Sl} (h : a ρ = some (false, ρ1)) : mTAnd a b ρ = some (false, ρ1) := by rw [mTAnd_ap, h]; rfl
theorem mTOr_f {a b : MT} {ρ ρ1 : List Sl} (h : a ρ = some (false, ρ1)) : mTOr a b ρ = b ρ1 := by rw [mTOr_ap, h]; rfl
/-! ### rows -/
abbrev RowT := List (Int × Int)
def dRow (r : RowT) : D := .list (r.map pairD)
/-- a stretch as it may be handed in -/
inductive HP : D → Int × Int → Prop
  | t (a b : Int) : HP (.tuple [.int a, .int b]) (a, b)
  | l (a b : Int) : HP (.list [.int a, .int b]) (a, b)
theorem HP.shape {d : D} {p : Int × Int} (h : HP d p) : d = .tuple [.int p.1, .int p.2] ∨ d = .list [.int p.1, .int p.2] := by
  cases h with
  | t a b => exact .inl rfl
  | l a b => exact .inr rfl
inductive HA : List D → RowT → Prop
  | nil : HA [] []
  | cons {d : D} {ds : List D} {p : Int × Int} {r : RowT} : HP d p → HA ds r → HA (d :: ds) (p :: r)
inductive HR : D → RowT → Prop
  | t {ds : List D} {r : RowT} : HA ds r → HR (.tuple ds) r
  | l {ds : List D} {r : RowT} : HA ds r → HR (.list ds) r
theorem HA.of_row : ∀ r : RowT, HA (r.map pairD) r
  | [] => .nil
  | (a, b) :: r => .cons (.t a b) (HA.of_row r)
theorem HR.of_row (r : RowT) : HR (dRow r) r := .l (HA.of_row r)
theorem HA.app : ∀ {ds es : List D} {r s : RowT}, HA ds r → HA es s → HA (ds ++ es) (r ++ s)
  | _, _, _, _, .nil, h => h
  | _, _, _, _, .cons a b, h => .cons a (HA.app b h)
theorem HA.len : ∀ {ds : List D} {r : RowT}, HA ds r → ds.length = r.length
  | _, _, .nil => rfl
  | _, _, .cons _ t => congrArg (· + 1) (HA.len t)
theorem HA.zipped : ∀ {ds : List D} {r : RowT}, HA ds r → ∃ l : List (D × (Int × Int)), ds = l.map (·.1) ∧ r = l.map (·.2) ∧ ∀ a ∈ l, HP a.1 a.2
  | _, _, .nil => ⟨[], rfl, rfl, fun a h => by cases h⟩
  | _, _, .cons (d := d) (p := p) h t => by
    obtain ⟨l, h1, h2, h3⟩ := HA.zipped t
    refine ⟨(d, p) :: l, by rw [h1]; rfl, by rw [h2]; rfl, fun a ha => ?_⟩
    rcases List.mem_cons.mp ha with rfl | ha
    · exact h
    · exact h3 a ha
/-- rising from f on, none touching the next -/
def okF : Int → RowT → Bool
  | _, [] => true
  | f, p :: r => decide (f ≤ p.1) && decide (p.1 ≤ p.2) && okF (p.2 + 2) r
def cnt (r : RowT) : Int := (r.map fun p => p.2 - p.1 + 1).sum
end Dn

namespace PR
open PySem L2 Dn
theorem is_whole_int (a l : Int) : mf_is_whole [.val (.int a), .val (.int l)] = some (.val (.bool (decide (l ≤ a))), [.un, .un]) := by
  rfl
theorem shaped_int (i : Int) : SeqAt.shaped (.int i) = true := rfl
theorem shaped_bool (i : Bool) : SeqAt.shaped (.bool i) = true := rfl
theorem eqv_int (i j : Int) : PyData.eqv (.int i) (.int j) = (i == j) := by simp [PyData.eqv]
theorem eqv_bool (i j : Bool) : PyData.eqv (.bool i) (.bool j) = (i == j) := by simp [PyData.eqv]
theorem is_stretch_ok {d : D} {p : Int × Int} (h : HP d p) (f : Int) : mf_is_stretch [.val d, .val (.int f)] = some (.val (.bool (decide (f ≤ p.1) && decide (p.1 ≤ p.2))), [.un, .un]) := by
  cases h with
  | t a b => by_cases h1 : f ≤ a <;> by_cases h2 : a ≤ b <;> simp [mf_is_stretch, mb_is_stretch, shaped_int, eqv_int, is_whole_int, h1, h2]
  | l a b => by_cases h1 : f ≤ a <;> by_cases h2 : a ≤ b <;> simp [mf_is_stretch, mb_is_stretch, shaped_int, eqv_int, is_whole_int, h1, h2]
def stepR (f : Int) (a : D × (Int × Int)) : Option Int := if f ≤ a.2.1 ∧ a.2.1 ≤ a.2.2 then some (a.2.2 + 2) else none
theorem stepR_ok : ∀ (l : List (D × (Int × Int))) (f : Int), (l.foldlM stepR f).isSome = okF f (l.map (·.2))
  | [], f => rfl
  | a :: l, f => by
    rw [List.foldlM_cons]
    unfold stepR
    by_cases h : f ≤ a.2.1 ∧ a.2.1 ≤ a.2.2
    · rw [if_pos h]
      show (l.foldlM stepR (a.2.2 + 2)).isSome = _
      rw [stepR_ok l]
      simp [okF, h.1, h.2]
    · rw [if_neg h]
      show false = _
      simp [okF]
      intro h1 h2
      exact absurd ⟨h1, h2⟩ h
theorem atI_1 {α : Type} (x y : α) : atI [x, y] 1 = some y := rfl
theorem atI_0 {α : Type} (x : α) (l : List α) : atI (x :: l) 0 = some x := by
  unfold atI ixN
  rw [if_pos (by decide), if_pos (by rw [List.length_cons]; omega)]
  rfl
theorem is_row_items {ds : List D} {r : RowT} (h : HA ds r) (x : Sl) (hx : x = .val (.list ds) ∨ x = .val (.tuple ds)) : mf_is_row [x] = some (.val (.bool (okF 1 r)), [.un]) := by
  obtain ⟨l, rfl, rfl, hp⟩ := h.zipped
  have key := loop_until (g := mgN (fun _ => false) 2) (b := mSeq (mIfS (mTNot (mTru (mCall PR.mf_is_stretch [] (mCons (mVar 2) (mCons (mVar 1) (mNil)))))) (mRet (mC (.bool false))) (mNext)) (mAsg (fun _ => false) 1 (mBin fAdd (mBin fIx (mVar 2) (mC (.int 1))) (mC (.int 2)))))
    (fun a : D × (Int × Int) => a.1) (fun f ρ => ∃ s, ρ = [x, .val (.int f), s]) stepR (.val (.bool false)) l 1 [x, .val (.int 1), .un] (fun f a ρ ha hw => by
      obtain ⟨s, rfl⟩ := hw
      refine ⟨[x, .val (.int f), .val a.1], by simp, ?_⟩
      have hs := is_stretch_ok (hp a ha) f
      unfold stepR
      by_cases h : f ≤ a.2.1 ∧ a.2.1 ≤ a.2.2
      · rw [if_pos h]
        refine ⟨[x, .val (.int (a.2.2 + 2)), .val a.1], .inl ?_, _, rfl⟩
        have hq := hp a ha
        revert hq hs
        generalize a.1 = d
        generalize a.2 = p at h
        intro hs hq
        cases hq <;> simp [hs, h.1, h.2, atI_1]
      · rw [if_neg h]
        have hb : (decide (f ≤ a.2.1) && decide (a.2.1 ≤ a.2.2)) = false := by simp; intro h1; have := fun h2 => h ⟨h1, h2⟩; omega
        rw [hb] at hs
        exact ⟨_, by simp [hs]; rfl⟩) ⟨_, rfl⟩
  have hok := stepR_ok l 1
  rcases hx with rfl | rfl
  · cases hf : l.foldlM stepR 1 with
    | none =>
      rw [hf] at key hok
      obtain ⟨ρ', e⟩ := key
      rw [← hok]
      simp [mf_is_row, mb_is_row, e, -mLoop]
    | some s' =>
      rw [hf] at key hok
      obtain ⟨ρ', e, _⟩ := key
      rw [← hok]
      simp [mf_is_row, mb_is_row, e, -mLoop]
  · cases hf : l.foldlM stepR 1 with
    | none =>
      rw [hf] at key hok
      obtain ⟨ρ', e⟩ := key
      rw [← hok]
      simp [mf_is_row, mb_is_row, e, -mLoop]
    | some s' =>
      rw [hf] at key hok
      obtain ⟨ρ', e, _⟩ := key
      rw [← hok]
      simp [mf_is_row, mb_is_row, e, -mLoop]
theorem is_row_ok {d : D} {r : RowT} (h : HR d r) : mf_is_row [.val d] = some (.val (.bool (okF 1 r)), [.un]) := by
  cases h with
  | t h => exact is_row_items h _ (.inr rfl)
  | l h => exact is_row_items h _ (.inl rfl)
theorem given_row_ok {d : D} {r : RowT} (h : HR d r) (hr : okF 1 r = true) (hl : r.length ≤ 100000) : mf_given_row [.val d] = some (.own (r.map pairD), [.un]) := by
  have e1 := is_row_ok h
  rw [hr] at e1
  have key : ∀ ds : List D, HA ds r → ∀ x : Sl, (x = .val (.list ds) ∨ x = .val (.tuple ds)) → mComp (miS (mVar 0)) (mgL (fun _ => false) [1, 2]) mTYes (mTup (mCons (mVar 1) (mCons (mVar 2) mNil))) [1, 2] [x, .un, .un] = some (.own (r.map pairD), [x, .un, .un]) := by
    intro ds ha x hx
    obtain ⟨l, rfl, rfl, hp⟩ := ha.zipped
    have e : (l.map (·.2)).map pairD = l.filterMap (fun a => some (pairD a.2)) := by
      rw [List.filterMap_eq_map', List.map_map]
      rfl
    rw [e]
    refine comp_map (fun a : D × (Int × Int) => a.1) _ l (ρ1 := [x, .un, .un]) (by rcases hx with rfl | rfl <;> simp) rfl rfl (fun a ha => ?_) (sizeN (by simpa using hl))
    rcases (hp a ha).shape with e | e <;> rw [e] <;> exact ⟨[x, .val (.int a.2.1), .val (.int a.2.2)], true, _, by simp, rfl, .inr ⟨rfl, .val (pairD a.2), pairD a.2, _, by simp [pairD, sizeN]; rfl, rfl, rfl, rfl⟩⟩
  cases h with
  | t h => simp [mf_given_row, mb_given_row, e1, key _ h _ (.inr rfl), -mComp_ap]
  | l h => simp [mf_given_row, mb_given_row, e1, key _ h _ (.inl rfl), -mComp_ap]
theorem count_heads_ok (r : RowT) (hl : r.length ≤ 100000) : mf_count_heads [.val (dRow r)] = some (.val (.int (cnt r)), [.un]) := by
  have key : mComp (miS (mVar 0)) (mgL (fun _ => false) [1, 2]) mTYes (mBin fAdd (mBin (fI (fun _ _ => true) fun i j => i - j) (mVar 2) (mVar 1)) (mC (.int 1))) [1, 2] [.val (dRow r), .un, .un] = some (.own ((r.map fun p => p.2 - p.1 + 1).map PyData.int), [.val (dRow r), .un, .un]) := by
    have e : (r.map fun p => p.2 - p.1 + 1).map PyData.int = r.filterMap (fun p => some (PyData.int (p.2 - p.1 + 1))) := by
      rw [List.filterMap_eq_map', List.map_map]
      rfl
    rw [e]
    refine comp_map pairD _ r (ρ1 := [.val (dRow r), .un, .un]) (by simp [dRow]) rfl rfl (fun p hp => ?_) (sizeN hl)
    exact ⟨[.val (dRow r), .val (.int p.1), .val (.int p.2)], true, _, by simp [pairD], rfl, .inr ⟨rfl, .val (.int (p.2 - p.1 + 1)), _, _, by simp; rfl, rfl, rfl, rfl⟩⟩
  simp [mf_count_heads, mb_count_heads, key, -mComp_ap, intsOf_map, cnt, lstI, -List.map_map]
def partsR (p : Int × Int) (x : Int) : RowT := [(p.1, x - 1), (x + 1, p.2)].filter fun q => decide (q.1 ≤ q.2)
theorem parted_ok (p : Int × Int) (x : Int) : mf_parted [.val (pairD p), .val (.int x)] = some (.own ((partsR p x).map pairD), [.un, .un]) := by
  have key : ∀ s0 s1 s2 s3, mComp (miS (mVar 4)) (mgL (fun _ => false) [5, 6]) (mB (mBin (fB fun i j => decide (i ≤ j)) (mVar 5) (mVar 6))) (mTup (mCons (mVar 5) (mCons (mVar 6) mNil))) [5, 6] [s0, s1, s2, s3, .own [.tuple [.int p.1, .int (x - 1)], .tuple [.int (x + 1), .int p.2]], .un, .un]
      = some (.own ((partsR p x).map pairD), [s0, s1, s2, s3, .val (.list [.tuple [.int p.1, .int (x - 1)], .tuple [.int (x + 1), .int p.2]]), .un, .un]) := by
    intro s0 s1 s2 s3
    have e : (partsR p x).map pairD = [(p.1, x - 1), (x + 1, p.2)].filterMap (fun q => if q.1 ≤ q.2 then some (pairD q) else none) := by
      unfold partsR
      by_cases h1 : p.1 ≤ x - 1 <;> by_cases h2 : x + 1 ≤ p.2 <;> simp [List.filter, h1, h2]
    rw [e]
    refine comp_map pairD _ _ (ρ1 := [s0, s1, s2, s3, .val (.list [.tuple [.int p.1, .int (x - 1)], .tuple [.int (x + 1), .int p.2]]), .un, .un]) (by simp [pairD]) rfl rfl (fun q hq => ?_) (sizeN (by simp))
    refine ⟨[s0, s1, s2, s3, .val (.list [.tuple [.int p.1, .int (x - 1)], .tuple [.int (x + 1), .int p.2]]), .val (.int q.1), .val (.int q.2)], decide (q.1 ≤ q.2), _, by simp [pairD], by simp; rfl, ?_⟩
    by_cases h : q.1 ≤ q.2
    · exact .inr ⟨by simp [h], .val (pairD q), _, _, by simp [pairD, sizeN]; rfl, rfl, by simp [h], rfl⟩
    · exact .inl ⟨by simp [h], by simp [h], rfl⟩
  simp [mf_parted, mb_parted, pairD, sizeN, key, -mComp_ap]
def preF (a : RowT) (x : Int) : Int × RowT := match a.getLast? with
  | some q => if q.2 = x - 1 then (q.1, a.dropLast) else (x, a)
  | none => (x, a)
def postF (b : RowT) (x : Int) : Int × RowT := match b with
  | q :: b' => if q.1 = x + 1 then (q.2, b') else (x, b)
  | [] => (x, [])
/-- the row behind a coin's turning, as it is reckoned -/
def flipR (r : RowT) (x : Int) : RowT :=
  if x = 0 then r else
  let a := r.filter fun q => decide (q.2 < x)
  let b := r.filter fun q => decide (x < q.1)
  if a.length + b.length < r.length then a ++ partsR (r.getD a.length (0, 0)) x ++ b
  else
    (preF a x).2 ++ [((preF a x).1, (postF b x).1)] ++ (postF b x).2
theorem ahead_ok (r : RowT) (x : Int) (s2 s3 s4 s5 : Sl) (hl : r.length ≤ 100000) :
    mComp (miS (mVar 0)) (mgN (fun _ => false) 6) (mB (mBin (fB fun i j => decide (i < j)) (mBin fIx (mVar 6) (mC (.int 1))) (mVar 1))) (mVar 6) [6] [.val (dRow r), .val (.int x), s2, s3, s4, s5, .un]
      = some (.own ((r.filter fun q => decide (q.2 < x)).map pairD), [.val (dRow r), .val (.int x), s2, s3, s4, s5, .un]) := by
  have e : (r.filter fun q => decide (q.2 < x)).map pairD = r.filterMap (fun q => if q.2 < x then some (pairD q) else none) := by
    induction r with
    | nil => rfl
    | cons p r ih =>
      have ih' := ih (by simp at hl; omega)
      by_cases h : p.2 < x <;> simp [h, ih']
  rw [e]
  refine comp_map pairD _ r (ρ1 := [.val (dRow r), .val (.int x), s2, s3, s4, s5, .un]) (by simp [dRow]) rfl rfl (fun q hq => ?_) (sizeN hl)
  refine ⟨[.val (dRow r), .val (.int x), s2, s3, s4, s5, .val (pairD q)], decide (q.2 < x), [.val (dRow r), .val (.int x), s2, s3, s4, s5, .val (pairD q)], by simp, by simp [pairD, atI_1], ?_⟩
  by_cases h : q.2 < x
  · exact .inr ⟨by simp [h], .val (pairD q), _, _, rfl, rfl, by simp [h], rfl⟩
  · exact .inl ⟨by simp [h], by simp [h], rfl⟩
theorem behind_ok (r : RowT) (x : Int) (s2 s3 s4 s5 : Sl) (hl : r.length ≤ 100000) :
    mComp (miS (mVar 0)) (mgN (fun _ => false) 6) (mB (mBin (fB fun i j => decide (j < i)) (mBin fIx (mVar 6) (mC (.int 0))) (mVar 1))) (mVar 6) [6] [.val (dRow r), .val (.int x), s2, s3, s4, s5, .un]
      = some (.own ((r.filter fun q => decide (x < q.1)).map pairD), [.val (dRow r), .val (.int x), s2, s3, s4, s5, .un]) := by
  have e : (r.filter fun q => decide (x < q.1)).map pairD = r.filterMap (fun q => if x < q.1 then some (pairD q) else none) := by
    induction r with
    | nil => rfl
    | cons p r ih =>
      have ih' := ih (by simp at hl; omega)
      by_cases h : x < p.1 <;> simp [h, ih']
  rw [e]
  refine comp_map pairD _ r (ρ1 := [.val (dRow r), .val (.int x), s2, s3, s4, s5, .un]) (by simp [dRow]) rfl rfl (fun q hq => ?_) (sizeN hl)
  refine ⟨[.val (dRow r), .val (.int x), s2, s3, s4, s5, .val (pairD q)], decide (x < q.1), [.val (dRow r), .val (.int x), s2, s3, s4, s5, .val (pairD q)], by simp, by simp [pairD, atI_0], ?_⟩
  by_cases h : x < q.1
  · exact .inr ⟨by simp [h], .val (pairD q), _, _, rfl, rfl, by simp [h], rfl⟩
  · exact .inl ⟨by simp [h], by simp [h], rfl⟩
theorem atI_nat' {α : Type} {l : List α} {j : Nat} {x : α} (h : l[j]? = some x) : atI l (j : Int) = some x := by
  have hj := (List.getElem?_eq_some_iff.mp h).1
  unfold atI ixN
  rw [if_pos (by omega), if_pos (by omega)]
  simpa using h
theorem atI_end {α : Type} {l : List α} {x : α} (h : l.getLast? = some x) : atI l (-1) = some x := by
  have hl : 0 < l.length := by
    cases l with
    | nil => cases h
    | cons a r => simp
  unfold atI ixN
  rw [if_neg (by omega), if_pos (by omega)]
  rw [List.getLast?_eq_getElem?] at h
  have e : (-1 + (l.length : Int)).toNat = l.length - 1 := by omega
  simpa [e] using h
theorem map_getLast {r : RowT} : (r.map pairD).getLast? = r.getLast?.map pairD := by simp
theorem map_dropLast {r : RowT} : (r.map pairD).dropLast = r.dropLast.map pairD := by simp
theorem partsR_len (p : Int × Int) (x : Int) : (partsR p x).length ≤ 2 := by
  unfold partsR
  exact Nat.le_trans (List.length_filter_le _ _) (by simp)
theorem flipped_ok (r : RowT) (x : Int) (hl : r.length ≤ 1000) : mf_flipped [.val (dRow r), .val (.int x)] = some (.own ((flipR r x).map pairD), [.un, .un]) := by
  by_cases hx : x = 0
  · subst hx
    simp [mf_flipped, mb_flipped, shaped_int, eqv_int, flipR, dRow]
  · have hA : (r.filter fun q => decide (q.2 < x)).length ≤ 1000 := Nat.le_trans (List.length_filter_le _ _) hl
    have hB : (r.filter fun q => decide (x < q.1)).length ≤ 1000 := Nat.le_trans (List.length_filter_le _ _) hl
    have e1 := fun s2 s3 s4 s5 => ahead_ok r x s2 s3 s4 s5 (by omega)
    have e2 := fun s2 s3 s4 s5 => behind_ok r x s2 s3 s4 s5 (by omega)
    unfold flipR
    rw [if_neg hx]
    dsimp only [preF, postF]
    generalize (r.filter fun q => decide (q.2 < x)) = A at hA e1 ⊢
    generalize (r.filter fun q => decide (x < q.1)) = B at hB e2 ⊢
    by_cases hc : A.length + B.length < r.length
    · have hci : (A.length : Int) + (B.length : Int) < (r.length : Int) := by omega
      have ha : r[A.length]? = some (r.getD A.length (0, 0)) := by
        rw [List.getD_eq_getElem?_getD, List.getElem?_eq_getElem (by omega)]
        rfl
      have hd : (r.map pairD)[A.length]? = some (pairD (r.getD A.length (0, 0))) := by
        rw [List.getElem?_map, ha]
        rfl
      have hat := atI_nat' hd
      have hp := partsR_len (r.getD A.length (0, 0)) x
      rw [if_pos hc]
      have hz1 : A.length + (partsR (r.getD A.length (0, 0)) x).length ≤ sizeLine := sizeN (by omega)
      have hz2 : A.length + (partsR (r.getD A.length (0, 0)) x).length + B.length ≤ sizeLine := sizeN (by omega)
      simp only [dRow] at e1 e2 ⊢
      simp [mf_flipped, mb_flipped, shaped_int, eqv_int, hx, e1, e2, hci, hat, parted_ok, hz1, hz2, -mComp_ap, -List.getD_eq_getElem?_getD]
    · have hci : ¬ ((A.length : Int) + (B.length : Int) < (r.length : Int)) := by omega
      rw [if_neg hc]
      have hz : ∀ (A' B' : RowT), A'.length ≤ 1000 → B'.length ≤ 1000 → A'.length + 1 ≤ sizeLine ∧ A'.length + 1 + B'.length ≤ sizeLine := fun A' B' h1 h2 => ⟨sizeN (by omega), sizeN (by omega)⟩
      have hdl : A.dropLast.length ≤ 1000 := by rw [List.length_dropLast]; omega
      simp only [dRow] at e1 e2 ⊢
      cases hg : A.getLast? with
      | none =>
        have hnil : A = [] := by simpa using hg
        subst hnil
        cases B with
        | nil =>
          have hci' : ¬ ((0 : Int) < (r.length : Int)) := by have h := hc; simp only [List.length_nil] at h; omega
          simp [mf_flipped, mb_flipped, shaped_int, eqv_int, hx, e1, e2, hci', -mComp_ap, pairD, sizeN, -Int.natCast_pos]
        | cons q B' =>
          have hB' : B'.length + 1 ≤ 1000 := by simpa using hB
          have hsz2 : 1 + (B'.length + 1) ≤ sizeLine := sizeN (by omega)
          have hsz3 : 1 + B'.length ≤ sizeLine := sizeN (by omega)
          have hci' : ¬ ((B'.length : Int) + 1 < (r.length : Int)) := by have h := hc; simp only [List.length_nil, List.length_cons] at h; omega
          by_cases hq : q.1 = x + 1
          · simp [mf_flipped, mb_flipped, shaped_int, eqv_int, hx, e1, e2, hci', -mComp_ap, pairD, hq, atI_0, atI_1, sizeN, hsz3]
          · simp [mf_flipped, mb_flipped, shaped_int, eqv_int, hx, e1, e2, hci', -mComp_ap, pairD, hq, atI_0, atI_1, sizeN, hsz2]
      | some q =>
        have hne : (A.map pairD).isEmpty = false := by
          cases A with
          | nil => cases hg
          | cons a r => rfl
        have hat : atI (A.map pairD) (-1) = some (pairD q) := atI_end (by rw [map_getLast, hg]; rfl)
        have hpop : (A.map pairD)[(A.map pairD).length - 1]? = some (pairD q) := by
          rw [← List.getLast?_eq_getElem?, map_getLast, hg]
          rfl
        have hdr : (A.map pairD).dropLast = A.dropLast.map pairD := map_dropLast
        simp only [List.length_map] at hpop
        cases B with
        | nil =>
          have hci' : ¬ ((A.length : Int) < (r.length : Int)) := by have h := hc; simp only [List.length_nil] at h; omega
          have hsz1 : A.length + 1 ≤ sizeLine := sizeN (by omega)
          have hsz2 : A.length - 1 + 1 ≤ sizeLine := sizeN (by omega)
          by_cases hq : q.2 = x - 1
          · simp [mf_flipped, mb_flipped, shaped_int, eqv_int, hx, e1, e2, hci', -mComp_ap, hne, hat, hpop, hdr, hq, sizeN, -List.map_dropLast, pairD, atI_0, atI_1, -List.isEmpty_map, hsz1, hsz2]
          · simp [mf_flipped, mb_flipped, shaped_int, eqv_int, hx, e1, e2, hci', -mComp_ap, hne, hat, hpop, hdr, hq, sizeN, -List.map_dropLast, pairD, atI_0, atI_1, -List.isEmpty_map, hsz1, hsz2]
        | cons p B' =>
          have hB' : B'.length + 1 ≤ 1000 := by simpa using hB
          have hci' : ¬ ((A.length : Int) + ((B'.length : Int) + 1) < (r.length : Int)) := by have h := hc; simp only [List.length_cons] at h; omega
          have z1 : A.length + 1 ≤ sizeLine := sizeN (by omega)
          have z2 : A.length - 1 + 1 ≤ sizeLine := sizeN (by omega)
          have z3 : A.length + 1 + (B'.length + 1) ≤ sizeLine := sizeN (by omega)
          have z4 : A.length - 1 + 1 + (B'.length + 1) ≤ sizeLine := sizeN (by omega)
          have z5 : A.length + 1 + B'.length ≤ sizeLine := sizeN (by omega)
          have z6 : A.length - 1 + 1 + B'.length ≤ sizeLine := sizeN (by omega)
          by_cases hq : q.2 = x - 1 <;> by_cases hp : p.1 = x + 1 <;>
            simp [mf_flipped, mb_flipped, shaped_int, eqv_int, hx, e1, e2, hci', -mComp_ap, hne, hat, hpop, hdr, hq, hp, sizeN, -List.map_dropLast, pairD, atI_0, atI_1, -List.isEmpty_map, z1, z2, z3, z4, z5, z6]
end PR

namespace PR
open PySem L2 Dn
/-! ### rows as sets of places -/
def memR (r : RowT) (p : Int) : Prop := ∃ q ∈ r, q.1 ≤ p ∧ p ≤ q.2
def nextF : Int → RowT → Int
  | f, [] => f
  | _, p :: r => nextF (p.2 + 2) r
theorem okF_cons {f : Int} {p : Int × Int} {r : RowT} : okF f (p :: r) = true ↔ f ≤ p.1 ∧ p.1 ≤ p.2 ∧ okF (p.2 + 2) r = true := by
  simp [okF, and_assoc]
theorem okF_nil {f : Int} : okF f [] = true := rfl
theorem okF_mono : ∀ {r : RowT} {f g : Int}, g ≤ f → okF f r = true → okF g r = true
  | [], _, _, _, _ => rfl
  | p :: r, f, g, h, ok => by
    rw [okF_cons] at ok ⊢
    exact ⟨by omega, ok.2.1, ok.2.2⟩
theorem okF_ge : ∀ {r : RowT} {f : Int} {q : Int × Int}, okF f r = true → q ∈ r → f ≤ q.1 ∧ q.1 ≤ q.2
  | p :: r, f, q, ok, h => by
    rw [okF_cons] at ok
    rcases List.mem_cons.mp h with rfl | h
    · exact ⟨ok.1, ok.2.1⟩
    · have := okF_ge ok.2.2 h
      exact ⟨by omega, this.2⟩
theorem mem_ge {r : RowT} {f p : Int} (ok : okF f r = true) (h : memR r p) : f ≤ p := by
  obtain ⟨q, hq, h1, h2⟩ := h
  have := okF_ge ok hq
  omega
theorem mem_nil {p : Int} : ¬ memR [] p := fun ⟨_, h, _⟩ => by cases h
theorem mem_cons {q : Int × Int} {r : RowT} {p : Int} : memR (q :: r) p ↔ (q.1 ≤ p ∧ p ≤ q.2) ∨ memR r p := by
  constructor
  · rintro ⟨x, hx, h⟩
    rcases List.mem_cons.mp hx with rfl | hx
    · exact .inl h
    · exact .inr ⟨x, hx, h⟩
  · rintro (h | ⟨x, hx, h⟩)
    · exact ⟨q, List.mem_cons_self, h⟩
    · exact ⟨x, List.mem_cons_of_mem _ hx, h⟩
theorem mem_app {a b : RowT} {p : Int} : memR (a ++ b) p ↔ memR a p ∨ memR b p := by
  constructor
  · rintro ⟨x, hx, h⟩
    rcases List.mem_append.mp hx with hx | hx
    · exact .inl ⟨x, hx, h⟩
    · exact .inr ⟨x, hx, h⟩
  · rintro (⟨x, hx, h⟩ | ⟨x, hx, h⟩)
    · exact ⟨x, List.mem_append_left _ hx, h⟩
    · exact ⟨x, List.mem_append_right _ hx, h⟩
theorem okF_app : ∀ {a b : RowT} {f : Int}, okF f (a ++ b) = true ↔ okF f a = true ∧ okF (nextF f a) b = true
  | [], b, f => by simp [okF, nextF]
  | p :: a, b, f => by
    show okF f (p :: (a ++ b)) = true ↔ _
    rw [okF_cons, okF_cons, okF_app]
    simp [nextF, and_assoc]
theorem nextF_app : ∀ (a b : RowT) (f : Int), nextF f (a ++ b) = nextF (nextF f a) b
  | [], b, f => rfl
  | p :: a, b, f => nextF_app a b _
theorem nextF_ge : ∀ {a : RowT} {f : Int}, okF f a = true → f ≤ nextF f a
  | [], f, _ => Int.le_refl f
  | p :: a, f, ok => by
    rw [okF_cons] at ok
    have := nextF_ge ok.2.2
    show f ≤ nextF (p.2 + 2) a
    omega
/-- the last one's end is two below -/
theorem nextF_lt {a : RowT} {f x : Int} (hf : f ≤ x + 1) (h : ∀ q ∈ a, q.2 < x) : nextF f a ≤ x + 1 := by
  induction a generalizing f with
  | nil => exact hf
  | cons p a ih => exact ih (by have := h p List.mem_cons_self; omega) fun q hq => h q (List.mem_cons_of_mem _ hq)
/-- two rows that show the same are one -/
theorem row_ext : ∀ {r s : RowT} {f g : Int}, okF f r = true → okF g s = true → (∀ p, memR r p ↔ memR s p) → r = s
  | [], [], _, _, _, _, _ => rfl
  | [], q :: s, f, g, _, h2, e => by
    rw [okF_cons] at h2
    exact absurd ((e q.1).mpr (mem_cons.mpr (.inl ⟨Int.le_refl _, h2.2.1⟩))) mem_nil
  | p :: r, [], f, g, h1, _, e => by
    rw [okF_cons] at h1
    exact absurd ((e p.1).mp (mem_cons.mpr (.inl ⟨Int.le_refl _, h1.2.1⟩))) mem_nil
  | p :: r, q :: s, f, g, h1, h2, e => by
    rw [okF_cons] at h1 h2
    have m1 : ∀ {x}, memR r x → p.2 + 2 ≤ x := fun h => mem_ge h1.2.2 h
    have m2 : ∀ {x}, memR s x → q.2 + 2 ≤ x := fun h => mem_ge h2.2.2 h
    have a1 : q.1 ≤ p.1 := by
      rcases mem_cons.mp ((e p.1).mp (mem_cons.mpr (.inl ⟨Int.le_refl _, h1.2.1⟩))) with h | h
      · exact h.1
      · have := m2 h; omega
    have a2 : p.1 ≤ q.1 := by
      rcases mem_cons.mp ((e q.1).mpr (mem_cons.mpr (.inl ⟨Int.le_refl _, h2.2.1⟩))) with h | h
      · exact h.1
      · have := m1 h; omega
    have b1 : ¬ p.2 < q.2 := fun hlt => by
      rcases mem_cons.mp ((e (p.2 + 1)).mpr (mem_cons.mpr (.inl ⟨by omega, by omega⟩))) with h | h
      · omega
      · have := m1 h; omega
    have b2 : ¬ q.2 < p.2 := fun hlt => by
      rcases mem_cons.mp ((e (q.2 + 1)).mp (mem_cons.mpr (.inl ⟨by omega, by omega⟩))) with h | h
      · omega
      · have := m2 h; omega
    have hpq : p = q := by
      obtain ⟨p1, p2⟩ := p
      obtain ⟨q1, q2⟩ := q
      simp only [Prod.mk.injEq]
      simp only at a1 a2 b1 b2
      omega
    subst hpq
    have ht : r = s := row_ext h1.2.2 h2.2.2 fun x => by
      constructor
      · intro h
        have := m1 h
        rcases mem_cons.mp ((e x).mp (mem_cons.mpr (.inr h))) with h' | h'
        · omega
        · exact h'
      · intro h
        have := m2 h
        rcases mem_cons.mp ((e x).mpr (mem_cons.mpr (.inr h))) with h' | h'
        · omega
        · exact h'
    rw [ht]
theorem split_at (x : Int) : ∀ {r : RowT} {f : Int}, okF f r = true →
    (∃ a q b, r = a ++ q :: b ∧ (∀ y ∈ a, y.2 < x) ∧ q.1 ≤ x ∧ x ≤ q.2 ∧ ∀ y ∈ b, x < y.1) ∨ (∃ a b, r = a ++ b ∧ (∀ y ∈ a, y.2 < x) ∧ ∀ y ∈ b, x < y.1)
  | [], f, _ => .inr ⟨[], [], rfl, fun y h => (by cases h), fun y h => (by cases h)⟩
  | p :: r, f, ok => by
    have ok' := ok
    rw [okF_cons] at ok
    by_cases h1 : p.2 < x
    · rcases split_at x ok.2.2 with ⟨a, q, b, rfl, h2, h3⟩ | ⟨a, b, rfl, h2, h3⟩
      · refine .inl ⟨p :: a, q, b, rfl, fun y hy => ?_, h3⟩
        rcases List.mem_cons.mp hy with rfl | hy
        · exact h1
        · exact h2 y hy
      · refine .inr ⟨p :: a, b, rfl, fun y hy => ?_, h3⟩
        rcases List.mem_cons.mp hy with rfl | hy
        · exact h1
        · exact h2 y hy
    · by_cases h2 : p.1 ≤ x
      · refine .inl ⟨[], p, r, rfl, fun y h => (by cases h), h2, by omega, fun y hy => ?_⟩
        have := okF_ge ok.2.2 hy
        omega
      · refine .inr ⟨[], p :: r, rfl, fun y h => (by cases h), fun y hy => ?_⟩
        rcases List.mem_cons.mp hy with rfl | hy
        · omega
        · have := okF_ge ok.2.2 hy
          omega
theorem filter_all {l : RowT} {P : Int × Int → Bool} (h : ∀ y ∈ l, P y = true) : l.filter P = l := List.filter_eq_self.mpr h
theorem filter_no {l : RowT} {P : Int × Int → Bool} (h : ∀ y ∈ l, P y = false) : l.filter P = [] := List.filter_eq_nil_iff.mpr fun y hy => by rw [h y hy]; exact Bool.false_ne_true
theorem filt_ahead {x : Int} {a m b : RowT} (ha : ∀ y ∈ a, y.2 < x) (hm : ∀ y ∈ m, ¬ y.2 < x) (hb : ∀ y ∈ b, ¬ y.2 < x) : (a ++ (m ++ b)).filter (fun q => decide (q.2 < x)) = a := by
  rw [List.filter_append, List.filter_append, filter_all fun y hy => decide_eq_true (ha y hy), filter_no fun y hy => decide_eq_false (hm y hy), filter_no fun y hy => decide_eq_false (hb y hy)]
  simp
theorem filt_behind {x : Int} {a m b : RowT} (ha : ∀ y ∈ a, ¬ x < y.1) (hm : ∀ y ∈ m, ¬ x < y.1) (hb : ∀ y ∈ b, x < y.1) : (a ++ (m ++ b)).filter (fun q => decide (x < q.1)) = b := by
  rw [List.filter_append, List.filter_append, filter_all fun y hy => decide_eq_true (hb y hy), filter_no fun y hy => decide_eq_false (hm y hy), filter_no fun y hy => decide_eq_false (ha y hy)]
  simp
theorem okF_raise {r : RowT} {f g : Int} (ok : okF f r = true) (h : ∀ y ∈ r, g ≤ y.1) : okF g r = true := by
  cases r with
  | nil => rfl
  | cons p r =>
    rw [okF_cons] at ok ⊢
    exact ⟨h p List.mem_cons_self, ok.2⟩
/-- what lies ahead of a coin that shows tails -/
theorem pre_spec {a : RowT} {x : Int} (ok : okF 1 a = true) (hx : 1 ≤ x) (h : ∀ y ∈ a, y.2 < x) :
    ∃ pre f, preF a x = (f, pre) ∧ okF 1 pre = true ∧ nextF 1 pre ≤ f ∧ f ≤ x ∧ (∀ p, (memR pre p ∨ (f ≤ p ∧ p < x)) ↔ memR a p) ∧ pre.length ≤ a.length := by
  rcases List.eq_nil_or_concat a with rfl | ⟨a', q, rfl⟩
  · exact ⟨[], x, rfl, rfl, hx, Int.le_refl x, fun p => ⟨fun z => by rcases z with z | z; exact z; omega, fun z => .inl z⟩, Nat.le_refl _⟩
  · rw [List.concat_eq_append] at *
    rw [okF_app, okF_cons] at ok
    have hq := h q (by simp)
    by_cases c : q.2 = x - 1
    · refine ⟨a', q.1, by simp [preF, c], ok.1, ok.2.1, by omega, fun p => ?_, by simp⟩
      rw [mem_app, mem_cons]
      constructor
      · rintro (z | z)
        · exact .inl z
        · exact .inr (.inl ⟨z.1, by omega⟩)
      · rintro (z | z | z)
        · exact .inl z
        · exact .inr ⟨z.1, by omega⟩
        · exact absurd z mem_nil
    · refine ⟨a' ++ [q], x, by simp [preF, c], by rw [okF_app, okF_cons]; exact ok, ?_, Int.le_refl x, fun p => ⟨fun z => by rcases z with z | z; exact z; omega, fun z => .inl z⟩, Nat.le_refl _⟩
      rw [nextF_app]
      show q.2 + 2 ≤ x
      omega
theorem post_spec {b : RowT} {x g : Int} (ok : okF g b = true) (h : ∀ y ∈ b, x < y.1) :
    ∃ post l, postF b x = (l, post) ∧ x ≤ l ∧ okF (l + 2) post = true ∧ (∀ p, (memR post p ∨ (x < p ∧ p ≤ l)) ↔ memR b p) ∧ post.length ≤ b.length := by
  cases b with
  | nil => exact ⟨[], x, rfl, Int.le_refl x, rfl, fun p => ⟨fun z => by rcases z with z | z; exact z; omega, fun z => .inl z⟩, Nat.le_refl _⟩
  | cons q b' =>
    have hq := h q List.mem_cons_self
    have ok' := ok
    rw [okF_cons] at ok
    by_cases c : q.1 = x + 1
    · refine ⟨b', q.2, by simp [postF, c], by omega, ok.2.2, fun p => ?_, by simp⟩
      rw [mem_cons]
      constructor
      · rintro (z | z)
        · exact .inr z
        · exact .inl ⟨by omega, z.2⟩
      · rintro (z | z)
        · exact .inr ⟨by omega, z.2⟩
        · exact .inl z
    · refine ⟨q :: b', x, by simp [postF, c], Int.le_refl x, okF_raise ok' fun y hy => ?_, fun p => ⟨fun z => by rcases z with z | z; exact z; omega, fun z => .inl z⟩, Nat.le_refl _⟩
      rcases List.mem_cons.mp hy with rfl | hy
      · omega
      · have := okF_ge ok.2.2 hy
        omega
theorem flip_spec {r : RowT} {x : Int} (ok : okF 1 r = true) (hx : 1 ≤ x) : okF 1 (flipR r x) = true ∧ (∀ p, memR (flipR r x) p ↔ (memR r p ↔ p ≠ x)) ∧ (flipR r x).length ≤ r.length + 1 := by
  have hx0 : x ≠ 0 := by omega
  have hge : ∀ y ∈ r, 1 ≤ y.1 ∧ y.1 ≤ y.2 := fun y hy => okF_ge ok hy
  rcases split_at x ok with ⟨a, q, b, rfl, h1, h2, h3, h4⟩ | ⟨a, b, rfl, h1, h4⟩
  · -- the coin lies in q
    have ok' := ok
    rw [okF_app, okF_cons] at ok
    have hA : (a ++ q :: b).filter (fun q => decide (q.2 < x)) = a := filt_ahead (m := [q]) h1 (fun y hy => by have e : y = q := (by simpa using hy); rw [e]; omega) fun y hy => by have := h4 y hy; have := hge y (by simp [hy]); omega
    have hB : (a ++ q :: b).filter (fun q => decide (x < q.1)) = b := filt_behind (m := [q]) (fun y hy => by have := h1 y hy; have := hge y (by simp [hy]); omega) (fun y hy => by have e : y = q := (by simpa using hy); rw [e]; omega) h4
    have hg : (a ++ q :: b).getD a.length (0, 0) = q := by simp
    have e : flipR (a ++ q :: b) x = a ++ partsR q x ++ b := by
      unfold flipR
      rw [if_neg hx0]
      dsimp only
      rw [hA, hB, hg, if_pos (by simp)]
    rw [e]
    have hn : nextF 1 a ≤ q.1 := ok.2.1
    have hp : okF (nextF 1 a) (partsR q x ++ b) = true := by
      have hb1 : okF (x + 2) b = true := okF_raise ok.2.2.2 fun y hy => by
        have := okF_ge ok.2.2.2 hy
        omega
      have hb2 : okF (q.2 + 2) b = true := ok.2.2.2
      have hb3 : okF (nextF 1 a) b = true := okF_mono (by omega) hb2
      have hb4 : okF (x + 1) b = true := okF_mono (by omega) hb2
      have hb5 : okF (x - 1 + 2) b = true := okF_mono (by omega) hb2
      unfold partsR
      by_cases c1 : q.1 ≤ x - 1 <;> by_cases c2 : x + 1 ≤ q.2 <;> simp [List.filter, c1, c2, okF_cons, hb2, hb3, hb4, hb5, hn] <;> first | omega | skip
    refine ⟨by rw [List.append_assoc, okF_app]; exact ⟨ok.1, hp⟩, fun p => ?_, ?_⟩
    · rw [mem_app, mem_app, mem_app, mem_cons]
      have hap : memR a p → p < x := fun ⟨y, hy, z1, z2⟩ => by have := h1 y hy; omega
      have hbp : memR b p → x < p := fun ⟨y, hy, z1, z2⟩ => by have := h4 y hy; omega
      have hpp : memR (partsR q x) p ↔ (q.1 ≤ p ∧ p ≤ q.2 ∧ p ≠ x) := by
        unfold partsR memR
        constructor
        · rintro ⟨y, hy, z1, z2⟩
          have hy' := List.mem_filter.mp hy
          have hc : y = (q.1, x - 1) ∨ y = (x + 1, q.2) := by simpa using hy'.1
          rcases hc with rfl | rfl
          · simp only at z1 z2; omega
          · simp only at z1 z2; omega
        · rintro ⟨z1, z2, z3⟩
          by_cases c : p < x
          · exact ⟨(q.1, x - 1), List.mem_filter.mpr ⟨by simp, by simp; omega⟩, z1, by simp only; omega⟩
          · exact ⟨(x + 1, q.2), List.mem_filter.mpr ⟨by simp, by simp; omega⟩, by simp only; omega, z2⟩
      rw [hpp]
      constructor
      · rintro ((h | h) | h)
        · have := hap h
          exact ⟨fun _ => by omega, fun _ => .inl h⟩
        · exact ⟨fun _ => h.2.2, fun _ => .inr (.inl ⟨h.1, h.2.1⟩)⟩
        · have := hbp h
          exact ⟨fun _ => by omega, fun _ => .inr (.inr h)⟩
      · intro h
        by_cases c : p = x
        · subst c
          exact absurd rfl (h.mp (.inr (.inl ⟨h2, h3⟩)))
        · rcases h.mpr c with h | h | h
          · exact .inl (.inl h)
          · exact .inl (.inr ⟨h.1, h.2, c⟩)
          · exact .inr h
    · have := partsR_len q x
      simp only [List.length_append, List.length_cons]
      omega
  · -- the coin lies in a gap
    rw [okF_app] at ok
    have hA : (a ++ b).filter (fun q => decide (q.2 < x)) = a := filt_ahead (m := []) h1 (fun y hy => (by cases hy)) fun y hy => by have := h4 y hy; have := hge y (by simp [hy]); omega
    have hB : (a ++ b).filter (fun q => decide (x < q.1)) = b := filt_behind (m := []) (fun y hy => by have := h1 y hy; have := hge y (by simp [hy]); omega) (fun y hy => (by cases hy)) h4
    obtain ⟨pre, f, e1, o1, n1, f1, m1, l1⟩ := pre_spec ok.1 hx h1
    obtain ⟨post, l, e2, x2, o2, m2, l2⟩ := post_spec ok.2 h4
    have e : flipR (a ++ b) x = pre ++ [(f, l)] ++ post := by
      unfold flipR
      rw [if_neg hx0]
      dsimp only
      rw [hA, hB, if_neg (by simp), e1, e2]
    rw [e, List.append_assoc]
    refine ⟨?_, fun p => ?_, by simp only [List.length_append, List.length_cons, List.length_nil]; omega⟩
    · rw [okF_app]
      refine ⟨o1, ?_⟩
      show okF (nextF 1 pre) ((f, l) :: post) = true
      rw [okF_cons]
      exact ⟨n1, by show f ≤ l; omega, o2⟩
    · rw [mem_app]
      show memR pre p ∨ memR ((f, l) :: post) p ↔ _
      rw [mem_cons, mem_app, ← m1 p, ← m2 p]
      have hap : memR pre p → p < x := fun z => by
        obtain ⟨y, hy, z1, z2⟩ := (m1 p).mp (.inl z)
        have := h1 y hy
        omega
      have hbp : memR post p → x < p := fun z => by
        obtain ⟨y, hy, z1, z2⟩ := (m2 p).mp (.inl z)
        have := h4 y hy
        omega
      by_cases c : p = x
      · subst c
        constructor
        · rintro _
          refine ⟨fun z => ?_, fun z => absurd rfl z⟩
          rcases z with (z | z) | (z | z)
          · have := hap z; omega
          · omega
          · have := hbp z; omega
          · omega
        · intro _
          exact .inr (.inl ⟨f1, x2⟩)
      · constructor
        · intro z
          refine ⟨fun _ => c, fun _ => ?_⟩
          rcases z with z | z | z
          · exact .inl (.inl z)
          · simp only at z
            by_cases d : p < x
            · exact .inl (.inr ⟨z.1, d⟩)
            · exact .inr (.inr ⟨by omega, z.2⟩)
          · exact .inr (.inl z)
        · intro z
          rcases z.mpr c with (z | z) | (z | z)
          · exact .inl z
          · exact .inr (.inl ⟨z.1, by show p ≤ l; omega⟩)
          · exact .inr (.inr z)
          · exact .inr (.inl ⟨by show f ≤ p; omega, z.2⟩)
end PR

namespace PR
open PySem L2 Dn
/-- a pair as it may be handed in -/
inductive HQ : D → RowT → RowT → Prop
  | t {d e : D} {r s : RowT} : HR d r → HR e s → HQ (.tuple [d, e]) r s
  | l {d e : D} {r s : RowT} : HR d r → HR e s → HQ (.list [d, e]) r s
def dPair (r s : RowT) : D := .tuple [dRow r, dRow s]
theorem HQ.of (r s : RowT) : HQ (dPair r s) r s := .t (HR.of_row r) (HR.of_row s)
theorem given_pair_ok {d : D} {r s : RowT} (h : HQ d r s) (hr : okF 1 r = true) (hs : okF 1 s = true) (hl : r.length ≤ 1000) (hm : s.length ≤ 1000) : mf_given_pair [.val d] = some (.val (dPair r s), [.un]) := by
  cases h with
  | t h1 h2 => simp [mf_given_pair, mb_given_pair, shaped_int, eqv_int, is_row_ok h1, is_row_ok h2, hr, hs, given_row_ok h1 hr (by omega), given_row_ok h2 hs (by omega), dPair, dRow, sizeN]
  | l h1 h2 => simp [mf_given_pair, mb_given_pair, shaped_int, eqv_int, is_row_ok h1, is_row_ok h2, hr, hs, given_row_ok h1 hr (by omega), given_row_ok h2 hs (by omega), dPair, dRow, sizeN]
theorem check_one : mf_check_who [.val (.str "one")] = some (.val .none, [.un]) := by
  have h : inV (V.str "one") [V.str "one", V.str "other"] = true := by decide +kernel
  simp [mf_check_who, mb_check_who, sizeN, h]
theorem check_other : mf_check_who [.val (.str "other")] = some (.val .none, [.un]) := by
  have h : inV (V.str "other") [V.str "one", V.str "other"] = true := by decide +kernel
  simp [mf_check_who, mb_check_who, sizeN, h]
theorem shaped_str : SeqAt.shaped (.str "one") = true ∧ SeqAt.shaped (.str "other") = true := by decide +kernel
theorem eqv_str (x y : Str) : PyData.eqv (.str x) (.str y) = (x == y) := by simp [PyData.eqv]
theorem ne_oo : (("other" : Str) == ("one" : Str)) = false := by decide +kernel
theorem after_one (r s : RowT) (hl : r.length ≤ 1000) (hm : s.length ≤ 1000) : mf_after_turn [.val (dPair r s), .val (.str "one")] = some (.val (dPair (flipR r (cnt s)) s), [.un, .un]) := by
  have h1 := flipped_ok r (cnt s) hl
  have h2 := count_heads_ok s (by omega)
  simp only [dRow] at h1 h2
  simp [mf_after_turn, mb_after_turn, dPair, dRow, shaped_str, eqv_str, h1, h2, sizeN]
theorem after_other (r s : RowT) (hl : r.length ≤ 1000) (hm : s.length ≤ 1000) : mf_after_turn [.val (dPair r s), .val (.str "other")] = some (.val (dPair r (flipR s (cnt r))), [.un, .un]) := by
  have h1 := flipped_ok s (cnt r) hm
  have h2 := count_heads_ok r (by omega)
  simp only [dRow] at h1 h2
  simp [mf_after_turn, mb_after_turn, dPair, dRow, shaped_str, eqv_str, ne_oo, h1, h2, sizeN]
theorem turn_one {d : D} {r s : RowT} (h : HQ d r s) (hr : okF 1 r = true) (hs : okF 1 s = true) (hl : r.length ≤ 1000) (hm : s.length ≤ 1000) : mf_turn [.val d, .val (.str "one")] = some (.val (dPair (flipR r (cnt s)) s), [.un, .un]) := by
  simp [mf_turn, mb_turn, given_pair_ok h hr hs hl hm, check_one, after_one r s hl hm]
theorem turn_other {d : D} {r s : RowT} (h : HQ d r s) (hr : okF 1 r = true) (hs : okF 1 s = true) (hl : r.length ≤ 1000) (hm : s.length ≤ 1000) : mf_turn [.val d, .val (.str "other")] = some (.val (dPair r (flipR s (cnt r))), [.un, .un]) := by
  simp [mf_turn, mb_turn, given_pair_ok h hr hs hl hm, check_other, after_other r s hl hm]
end PR

namespace LB
open PySem L2 Dn PR
/-! ### the jar -/
/-- not too great -/
def Sm (b : Int) : Prop := b < 2 ^ 400
def JOK (m : Int) (j : List D) : Prop := ∃ a b c : Int, j = [.int a, .int b, .int c] ∧ 0 ≤ a ∧ 0 ≤ b ∧ Sm b ∧ 0 ≤ c ∧ c ≤ m
theorem JOK.mono {m n : Int} {j : List D} (h : JOK m j) (hm : m ≤ n) : JOK n j := by
  obtain ⟨a, b, c, e, h1, h2, h3, h4, h5⟩ := h
  exact ⟨a, b, c, e, h1, h2, h3, h4, by omega⟩
theorem log2_small {n : Int} {k : Nat} (h0 : 0 ≤ n) (h : n < 2 ^ k) (hk : 0 < k) : n.natAbs.log2 < k := by
  by_cases hz : n.natAbs = 0
  · rw [hz]
    simp [Nat.log2_zero, hk]
  · rw [Nat.log2_lt hz]
    have e : (n.natAbs : Int) = n := Int.natAbs_of_nonneg h0
    have : (n.natAbs : Int) < ((2 ^ k : Nat) : Int) := by
      rw [e, Int.natCast_pow]
      exact h
    exact Int.ofNat_lt.mp this
theorem cDiv_ok {i n : Int} (h0 : 0 < n) (h : Sm n) : cDiv i n = true := by
  have := log2_small (Int.le_of_lt h0) h (by decide)
  simp only [cDiv, Bool.and_eq_true, decide_eq_true_eq]
  exact ⟨h0, by omega⟩
theorem cMod_ok {i n : Int} (h0 : 0 < n) : cMod i n = true := by simp [cMod, h0]
theorem cPow_ok {b : Int} (h0 : 0 ≤ b) (h : Sm b) : cPow b 3 = true := by
  have := log2_small h0 h (by decide)
  simp only [cPow, Bool.and_eq_true, decide_eq_true_eq]
  exact ⟨by decide, by decide, by omega⟩
theorem cMul_ok' {a b : Int} (h0 : 0 ≤ a) (h : Sm a) (h1 : 0 ≤ b) (h2 : Sm b) : cMul a b = true := by
  have := log2_small h0 h (by decide)
  have := log2_small h1 h2 (by decide)
  simp only [cMul, Bool.or_eq_true, decide_eq_true_eq]
  left
  omega
theorem atI_2 {α : Type} (x y z : α) : atI [x, y, z] 2 = some z := rfl
theorem atI_1' {α : Type} (x y z : α) : atI [x, y, z] 1 = some y := rfl
theorem ix0 : ixN 3 0 = some 0 := rfl
theorem ix1 : ixN 3 1 = some 1 := rfl
theorem ix2 : ixN 3 2 = some 2 := rfl
theorem pw33 : cPow 10 33 = true := by decide +kernel
theorem pw8 : cPow 10 8 = true := by decide +kernel
theorem pw38 : cPow 10 38 = true := by decide +kernel
theorem pw18 : cPow 10 18 = true := by decide +kernel
theorem big400 : (10 : Int) ^ 33 + 61 ≤ 2 ^ 400 := by decide +kernel
theorem big33 : (0 : Int) < 10 ^ 33 + 61 := by decide +kernel
theorem big16 : (10 : Int) ^ 16 ≤ 2 ^ 400 := by decide +kernel
theorem big8 : Sm (10 ^ 8) := by unfold Sm; decide +kernel
theorem pos8 : (0 : Int) < 10 ^ 8 := by decide +kernel
theorem bigc : Sm 39916801 := by unfold Sm; decide +kernel
theorem t3 : (3 : Int).toNat = 3 := rfl
theorem t33 : (33 : Int).toNat = 33 := rfl
theorem t8 : (8 : Int).toNat = 8 := rfl
/-- 10 ** n, written out -/
def tenP (n : Nat) : Int := (10 : Int) ^ n
theorem ten_ok {n : Nat} (h : cPow 10 (n : Int) = true) (ρ : List Sl) : mBin (fI cPow fun i j => i ^ j.toNat) (mC (.int 10)) (mC (.int (n : Int))) ρ = some (.val (.int (tenP n)), ρ) := by
  have e : fI cPow (fun i j => i ^ j.toNat) (.val (.int 10)) (.val (.int (n : Int))) = some (.val (.int (tenP n))) := if_pos h
  show (match fI cPow (fun i j => i ^ j.toNat) (.val (.int 10)) (.val (.int (n : Int))) with | none => none | some z => some (z, ρ)) = _
  rw [e]
theorem ten33 (ρ : List Sl) : mBin (fI cPow fun i j => i ^ j.toNat) (mC (.int 10)) (mC (.int 33)) ρ = some (.val (.int (tenP 33)), ρ) := ten_ok (n := 33) pw33 ρ
theorem ten8 (ρ : List Sl) : mBin (fI cPow fun i j => i ^ j.toNat) (mC (.int 10)) (mC (.int 8)) ρ = some (.val (.int (tenP 8)), ρ) := ten_ok (n := 8) pw8 ρ
theorem ten38 (ρ : List Sl) : mBin (fI cPow fun i j => i ^ j.toNat) (mC (.int 10)) (mC (.int 38)) ρ = some (.val (.int (tenP 38)), ρ) := ten_ok (n := 38) pw38 ρ
theorem ten18 (ρ : List Sl) : mBin (fI cPow fun i j => i ^ j.toNat) (mC (.int 10)) (mC (.int 18)) ρ = some (.val (.int (tenP 18)), ρ) := ten_ok (n := 18) pw18 ρ
theorem pull_a {n a b c : Int} (hn : 0 < n) (hn2 : Sm n) (ha : 0 < a) :
    mf__law_pull [.own [.int a, .int b, .int c], .val (.int n)] = some (.val (.int (a % n)), [.own [.int (a / n), .int b, .int c], .un]) := by
    simp [mf__law_pull, mb__law_pull, atI_0, ha, cMod_ok hn, cDiv_ok hn hn2, ix0, -cMod, -cDiv]
theorem pull_b {n a b c : Int} (hn : 0 < n) (hn2 : Sm n) (ha : ¬ 0 < a) (N : Int) (hc1 : cMul N (c + 1) = true) (hN : 39916801 = N) (hq : cPow b 3 = true) (X Y : Int) (hd : ∀ i, cDiv i Y = true) (hmo : ∀ i, cMod i (X + 61) = true) (hX : tenP 33 = X) (hY : tenP 8 = Y) :
    mf__law_pull [.own [.int a, .int b, .int c], .val (.int n)] = some (.val (.int (((b ^ 3 + N * (c + 1) + 5) % (X + 61)) / Y % n)), [.own [.int a, .int ((b ^ 3 + N * (c + 1) + 5) % (X + 61)), .int (c + 1)], .un]) := by
    have e33 := fun ρ => ten33 ρ
    have e8 := fun ρ => ten8 ρ
    rw [hX] at e33
    rw [hY] at e8
    unfold mf__law_pull mb__law_pull
    rw [hN]
    generalize mBin (fI cPow fun i j => i ^ j.toNat) (mC (.int 10)) (mC (.int 33)) = M33 at e33 ⊢
    generalize mBin (fI cPow fun i j => i ^ j.toNat) (mC (.int 10)) (mC (.int 8)) = M8 at e8 ⊢
    simp [atI_0, atI_1', atI_2, ha, cMod_ok hn, hc1, hq, hd, hmo, ix0, ix1, ix2, e33, e8, -cMod, -cDiv, -cPow, -cMul, t3]
theorem pull_ok {m n : Int} {j : List D} (hm : m < 10 ^ 15) (hn : 0 < n) (hn2 : Sm n) (h : JOK m j) :
    ∃ v j', mf__law_pull [.own j, .val (.int n)] = some (.val (.int v), [.own j', .un]) ∧ 0 ≤ v ∧ v < n ∧ JOK (m + 1) j' := by
  obtain ⟨a, b, c, rfl, h1, h2, h3, h4, h5⟩ := h
  by_cases ha : 0 < a
  · exact ⟨a % n, [.int (a / n), .int b, .int c], pull_a hn hn2 ha, Int.emod_nonneg _ (by omega), Int.emod_lt_of_pos _ hn, ⟨a / n, b, c, rfl, Int.ediv_nonneg h1 (by omega), h2, h3, h4, by omega⟩⟩
  · have hc1 : cMul 39916801 (c + 1) = true := cMul_ok' (by omega) bigc (by omega) (Int.lt_of_lt_of_le (show c + 1 < 10 ^ 16 by omega) big16)
    have p := pull_b (a := a) hn hn2 ha 39916801 hc1 rfl (cPow_ok h2 h3) (tenP 33) (tenP 8) (fun i => cDiv_ok pos8 big8) (fun i => cMod_ok big33) rfl rfl
    exact ⟨_, _, p, Int.emod_nonneg _ (by omega), Int.emod_lt_of_pos _ hn, ⟨a, _, c + 1, rfl, h1, Int.emod_nonneg _ (Int.ne_of_gt big33), Int.lt_of_lt_of_le (Int.emod_lt_of_pos _ big33) big400, by omega, by omega⟩⟩
end LB

namespace LB
open PySem L2 Dn PR
theorem fits62 {n : Int} (h : 0 ≤ n) (h2 : n ≤ 1000) : n < 2 ^ 62 ∧ -(2 ^ 62) ≤ n := by constructor <;> omega
theorem row_ok {m most wide : Int} {j : List D} (hj : JOK m j) (hm : m < 10 ^ 12) (h0 : 0 ≤ most) (h1 : most ≤ 500) (hw : 0 < wide) (hw2 : Sm wide) :
    ∃ r j', mf__law_row [.own j, .val (.int most), .val (.int wide)] = some (.own (r.map pairD), [.own j', .un, .un]) ∧ okF 1 r = true ∧ (r.length : Int) ≤ most ∧ JOK (m + 2000) j' ∧ ∀ q ∈ r, q.2 ≤ 2 * wide * most := by
  have hsm : Sm (most + 1) := Int.lt_of_le_of_lt (show most + 1 ≤ 10 ^ 8 by omega) big8
  obtain ⟨n, j1, e1, n0, n1, J1⟩ := pull_ok (n := most + 1) (by omega) (by omega) hsm hj
  obtain ⟨N, rfl⟩ : ∃ N : Nat, n = N := ⟨n.toNat, by omega⟩
  have key := loop_count (g := mgN (fun j => j == 0) 5)
    (b := (mSeq (mAsg (fun j => j == 0) 6 (mBin fAdd (mBin fAdd (mBin fAdd (mVar 4) (mC (.int 1))) (mFn fInt (mCons (mBin (fB fun i j => decide (j < i)) (mVar 5) (mC (.int 0))) (mNil)))) (mCallM LB.mf__law_pull 0 [] (mCons (mVar 2) (mNil))))) (mSeq (mAsg (fun j => j == 0) 4 (mBin fAdd (mVar 6) (mCallM LB.mf__law_pull 0 [] (mCons (mVar 2) (mNil))))) (mExpr (mMeth 3 fApp (mCons (mTup (mCons (mVar 6) (mCons (mVar 4) (mNil)))) (mNil)))))))
    (fun k : Nat => PyData.int (0 + (k : Int)))
    (fun i ρ => ∃ j' r at_ s5 s6, ρ = [.own j', .val (.int most), .val (.int wide), .own (r.map pairD), .val (.int at_), s5, s6] ∧ JOK (m + 1 + 2 * i) j' ∧ okF 1 r = true ∧ r.length = i ∧ 0 ≤ at_ ∧ nextF 1 r ≤ at_ + 1 + (if 0 < i then 1 else 0) ∧ at_ ≤ 2 * wide * (i : Int) ∧ ∀ q ∈ r, q.2 ≤ at_)
    (List.range N) 0 [.own j1, .val (.int most), .val (.int wide), .own [], .val (.int 0), .un, .un] (fun i a ρ ha hW => by
      obtain ⟨j', r, at_, s5, s6, rfl, hJ, ok, hl, ha0, hn, hat, hq⟩ := hW
      have hi : i < N := by
        have := (List.getElem?_eq_some_iff.mp ha).1
        simpa using this
      have hai : a = i := by
        rw [List.getElem?_range hi] at ha
        exact (Option.some.inj ha).symm
      subst hai
      simp only [Nat.zero_add] at hJ hl hn hat ⊢
      have hmul : 2 * wide * ((a + 1 : Nat) : Int) = 2 * wide * (a : Int) + 2 * wide := by rw [Int.natCast_add, Int.mul_add, Int.natCast_one, Int.mul_one]
      obtain ⟨v, j2, e2, v0, v1, J2⟩ := pull_ok (n := wide) (by omega) hw hw2 hJ
      obtain ⟨u, j3, e3, u0, u1, J3⟩ := pull_ok (n := wide) (by omega) hw hw2 J2
      have hz : r.length < sizeLine := sizeL (by omega)
      refine ⟨[.own j', .val (.int most), .val (.int wide), .own (r.map pairD), .val (.int at_), .val (.int a), s6], ?_⟩
      by_cases hk : 0 < a
      · refine ⟨[.own j3, .val (.int most), .val (.int wide), .own ((r ++ [(at_ + 1 + 1 + v, at_ + 1 + 1 + v + u)]).map pairD), .val (.int (at_ + 1 + 1 + v + u)), .val (.int a), .val (.int (at_ + 1 + 1 + v))], by simp, .inl ?_, j3, r ++ [(at_ + 1 + 1 + v, at_ + 1 + 1 + v + u)], _, _, _, rfl, J3.mono (by omega), ?_, by simp [hl], by omega, ?_, by omega, fun q h => by
          rcases List.mem_append.mp h with h | h
          · have := hq q h; omega
          · have e := List.mem_singleton.mp h
            rw [e]; exact Int.le_refl _⟩
        · simp [hk, e2, e3, sizeN, hz, pairD]
        · rw [okF_app, okF_cons]
          rw [if_pos hk] at hn
          exact ⟨ok, by show nextF 1 r ≤ at_ + 1 + 1 + v; omega, by show at_ + 1 + 1 + v ≤ at_ + 1 + 1 + v + u; omega, rfl⟩
        · rw [nextF_app, if_pos (by omega)]
          show at_ + 1 + 1 + v + u + 2 ≤ _
          omega
      · refine ⟨[.own j3, .val (.int most), .val (.int wide), .own ((r ++ [(at_ + 1 + 0 + v, at_ + 1 + 0 + v + u)]).map pairD), .val (.int (at_ + 1 + 0 + v + u)), .val (.int a), .val (.int (at_ + 1 + 0 + v))], by simp, .inl ?_, j3, r ++ [(at_ + 1 + 0 + v, at_ + 1 + 0 + v + u)], _, _, _, rfl, J3.mono (by omega), ?_, by simp [hl], by omega, ?_, by omega, fun q h => by
          rcases List.mem_append.mp h with h | h
          · have := hq q h; omega
          · have e := List.mem_singleton.mp h
            rw [e]; exact Int.le_refl _⟩
        · simp [hk, e2, e3, sizeN, hz, pairD]
        · rw [okF_app, okF_cons]
          rw [if_neg hk] at hn
          exact ⟨ok, by show nextF 1 r ≤ at_ + 1 + 0 + v; omega, by show at_ + 1 + 0 + v ≤ at_ + 1 + 0 + v + u; omega, rfl⟩
        · rw [nextF_app, if_pos (by omega)]
          show at_ + 1 + 0 + v + u + 2 ≤ _
          omega) ⟨j1, [], 0, .un, .un, rfl, J1.mono (by omega), rfl, rfl, Int.le_refl 0, by decide, by simp, fun q h => by cases h⟩
  obtain ⟨ρ', e2, j', r, at_, s5, s6, rfl, hJ, ok, hl, _, _, hat, hq⟩ := key
  simp only [List.length_range, Nat.zero_add] at hl hJ hat
  have hle : 2 * wide * (N : Int) ≤ 2 * wide * most := Int.mul_le_mul_of_nonneg_left (by omega) (by omega)
  refine ⟨r, j', ?_, ok, by omega, hJ.mono (by omega), fun q h => by have := hq q h; omega⟩
  have hf := fits62 n0 (by omega)
  have h62 : (N : Int) < 4611686018427387904 ∧ -4611686018427387904 ≤ (N : Int) := by omega
  simp [mf__law_row, mb__law_row, sizeN, e1, hf, h62, rangeD_map, -mLoop]
  simp at e2
  simp [e2, -mLoop]
end LB

namespace Dn
open PySem L2
/-! ### shapes -/
theorem lay_all : ∀ {ds : List D}, (∀ d ∈ ds, PyData.canLay0 d = true) → PyData.canLayAll0 ds = true
  | [], _ => rfl
  | d :: ds, h => by
    show (PyData.canLay0 d && PyData.canLayAll0 ds) = true
    rw [h d List.mem_cons_self, lay_all fun x hx => h x (List.mem_cons_of_mem _ hx)]
    rfl
theorem depth_all {n : Nat} : ∀ {ds : List D}, (∀ d ∈ ds, PyData.depth d ≤ n) → PyData.depthAll ds ≤ n
  | [], _ => by simp [PyData.depthAll]
  | d :: ds, h => by
    have h1 := h d List.mem_cons_self
    have h2 := depth_all fun x hx => h x (List.mem_cons_of_mem _ hx)
    simp only [PyData.depthAll]
    omega
/-- laid, and no deeper than n -/
def Shp (n : Nat) (d : D) : Prop := PyData.canLay0 d = true ∧ PyData.depth d ≤ n
theorem Shp.shaped {n : Nat} {d : D} (h : Shp n d) (hn : n ≤ 64) : SeqAt.shaped d = true := by
  unfold SeqAt.shaped
  rw [h.1, Bool.true_and]
  exact decide_eq_true (by have := h.2; omega)
theorem Shp.int (i : Int) (n : Nat) : Shp n (.int i) := ⟨rfl, by simp [PyData.depth]⟩
theorem Shp.list {n : Nat} {ds : List D} (h : ∀ d ∈ ds, Shp n d) : Shp (n + 1) (.list ds) := ⟨lay_all fun d hd => (h d hd).1, by have := depth_all fun d hd => (h d hd).2; simp only [PyData.depth]; omega⟩
theorem Shp.tuple {n : Nat} {ds : List D} (h : ∀ d ∈ ds, Shp n d) : Shp (n + 1) (.tuple ds) := ⟨lay_all fun d hd => (h d hd).1, by have := depth_all fun d hd => (h d hd).2; simp only [PyData.depth]; omega⟩
theorem Shp.pair (p : Int × Int) : Shp 1 (pairD p) := Shp.tuple fun d hd => by
  rcases List.mem_cons.mp hd with rfl | hd
  · exact Shp.int _ _
  · rcases List.mem_cons.mp hd with rfl | hd
    · exact Shp.int _ _
    · cases hd
theorem Shp.row (r : RowT) : Shp 2 (dRow r) := Shp.list fun d hd => by
  obtain ⟨p, _, rfl⟩ := List.mem_map.mp hd
  exact Shp.pair p
theorem shaped_row (r : RowT) : SeqAt.shaped (.list (r.map pairD)) = true := (Shp.row r).shaped (by decide)
theorem shaped_nil : SeqAt.shaped (.list []) = true := rfl
theorem shaped_ints (ns : List Int) : SeqAt.shaped (.list (ns.map PyData.int)) = true := (Shp.list (n := 0) fun d hd => by
  obtain ⟨p, _, rfl⟩ := List.mem_map.mp hd
  exact Shp.int p 0).shaped (by decide)
theorem eqv_nil (ds : List D) : PyData.eqv (.list ds) (.list []) = ds.isEmpty := by
  cases ds <;> simp [PyData.eqv, PyData.eqvAll]
mutual
theorem eqv_refl : ∀ d : D, PyData.canLay0 d = true → PyData.eqv d d = true
  | .none, _ => by simp [PyData.eqv]
  | .bool b, _ => by simp [PyData.eqv]
  | .int i, _ => by simp [PyData.eqv]
  | .str x, _ => by simp [PyData.eqv]
  | .list xs, h => by
    simp only [PyData.eqv]
    exact eqvAll_refl xs h
  | .tuple xs, h => by
    simp only [PyData.eqv]
    exact eqvAll_refl xs h
  | .dict _, h => by cases h
theorem eqvAll_refl : ∀ ds : List D, PyData.canLayAll0 ds = true → PyData.eqvAll ds ds = true
  | [], _ => by simp [PyData.eqvAll]
  | d :: ds, h => by
    have h2 := Bool.and_eq_true_iff.mp h
    simp only [PyData.eqvAll, eqv_refl d h2.1, eqvAll_refl ds h2.2, Bool.and_self]
end
end Dn
namespace LB
open PySem L2 Dn PR
def hasB (r : RowT) (x : Int) : Bool := r.any fun q => decide (q.1 ≤ x) && decide (x ≤ q.2)
theorem hasB_mem {r : RowT} {x : Int} : hasB r x = true ↔ memR r x := by
  unfold hasB memR
  simp
theorem has_ok (r : RowT) (x : Int) (hl : r.length ≤ 1000) : mf__law_has [.val (dRow r), .val (.int x)] = some (.val (.bool (hasB r x)), [.un, .un]) := by
  have key : mComp (miS (mVar 0)) (mgL (fun _ => false) [2, 3]) (mTAnd (mB (mBin (fB fun i j => decide (i ≤ j)) (mVar 2) (mVar 1))) (mB (mBin (fB fun i j => decide (i ≤ j)) (mVar 1) (mVar 3)))) (mC (.int 1)) [2, 3] [.val (dRow r), .val (.int x), .un, .un]
      = some (.own (((r.filter fun q => decide (q.1 ≤ x) && decide (x ≤ q.2)).map fun _ => (1 : Int)).map PyData.int), [.val (dRow r), .val (.int x), .un, .un]) := by
    have e : ((r.filter fun q => decide (q.1 ≤ x) && decide (x ≤ q.2)).map fun _ => (1 : Int)).map PyData.int = r.filterMap (fun q => if q.1 ≤ x ∧ x ≤ q.2 then some (PyData.int 1) else none) := by
      clear hl
      induction r with
      | nil => rfl
      | cons p r ih => by_cases h : p.1 ≤ x <;> by_cases h2 : x ≤ p.2 <;> simp [h, h2] at ih ⊢ <;> exact ih
    rw [e]
    refine comp_map pairD _ r (ρ1 := [.val (dRow r), .val (.int x), .un, .un]) (by simp [dRow]) rfl rfl (fun q hq => ?_) (sizeN (by omega))
    refine ⟨[.val (dRow r), .val (.int x), .val (.int q.1), .val (.int q.2)], decide (q.1 ≤ x) && decide (x ≤ q.2), [.val (dRow r), .val (.int x), .val (.int q.1), .val (.int q.2)], by simp [pairD], by by_cases h : q.1 ≤ x <;> simp [h], ?_⟩
    by_cases h : q.1 ≤ x ∧ x ≤ q.2
    · exact .inr ⟨by simp [h], .val (.int 1), _, _, rfl, rfl, by simp [h], rfl⟩
    · exact .inl ⟨by simp; omega, by simp [h], rfl⟩
  have hs := shaped_ints ((r.filter fun q => decide (q.1 ≤ x) && decide (x ≤ q.2)).map fun _ => (1 : Int))
  have hb : (!((r.filter fun q => decide (q.1 ≤ x) && decide (x ≤ q.2)).map fun _ => (1 : Int)).isEmpty) = hasB r x := by
    unfold hasB
    clear hl key hs
    induction r with
    | nil => rfl
    | cons p r ih => by_cases h : p.1 ≤ x <;> by_cases h2 : x ≤ p.2 <;> simp [h, h2] at ih ⊢ <;> exact ih
  generalize ((r.filter fun q => decide (q.1 ≤ x) && decide (x ≤ q.2)).map fun _ => (1 : Int)) = ns at key hs hb
  have he : (ns.map PyData.int).isEmpty = ns.isEmpty := by cases ns <;> rfl
  simp [mf__law_has, mb__law_has, key, -mComp_ap, hs, shaped_nil, eqv_nil, sizeN, -List.isEmpty_map, he, ← hb]
end LB

namespace LB
open PySem L2 Dn PR
def pieces (q : Int × Int) (x : Int) : RowT := [(q.1, if x - 1 < q.2 then x - 1 else q.2), (if x + 1 > q.1 then x + 1 else q.1, q.2)].filter fun p => decide (p.1 ≤ p.2)
def partsL (r : RowT) (x : Int) : RowT := r.flatMap fun q => pieces q x
def mgStep (acc : RowT) (p : Int × Int) : RowT := match acc.getLast? with
  | some l => if l.2 + 1 = p.1 then acc.dropLast ++ [(l.1, p.2)] else acc ++ [p]
  | none => acc ++ [p]
def flipL (r : RowT) (x : Int) : RowT := (sortP (partsL r x ++ (if 0 < x ∧ hasB r x = false then [(x, x)] else []))).foldl mgStep []
theorem pieces_len (q : Int × Int) (x : Int) : (pieces q x).length ≤ 2 := by
  unfold pieces
  exact Nat.le_trans (List.length_filter_le _ _) (by simp)
theorem partsL_len : ∀ (r : RowT) (x : Int), (partsL r x).length ≤ 2 * r.length
  | [], x => by simp [partsL]
  | q :: r, x => by
    have h1 := pieces_len q x
    have h2 := partsL_len r x
    have e : partsL (q :: r) x = pieces q x ++ partsL r x := by simp [partsL]
    rw [e, List.length_append, List.length_cons]
    omega
theorem partsL_snoc (r : RowT) (q : Int × Int) (x : Int) : partsL (r ++ [q]) x = partsL r x ++ pieces q x := by simp [partsL]
theorem comp7 (q : Int × Int) (x : Int) (s0 s1 s2 s3 s4 s6 : Sl) :
    mComp (miS (mVar 5)) (mgN (fun _ => false) 7) (mB (mBin (fB fun i j => decide (i ≤ j)) (mBin fIx (mVar 7) (mC (.int 0))) (mBin fIx (mVar 7) (mC (.int 1))))) (mVar 7) [7]
      [s0, s1, s2, s3, s4, .own [pairD (q.1, if x - 1 < q.2 then x - 1 else q.2), pairD (if x + 1 > q.1 then x + 1 else q.1, q.2)], s6, .un]
      = some (.own ((pieces q x).map pairD), [s0, s1, s2, s3, s4, .val (.list [pairD (q.1, if x - 1 < q.2 then x - 1 else q.2), pairD (if x + 1 > q.1 then x + 1 else q.1, q.2)]), s6, .un]) := by
  unfold pieces
  generalize (q.1, if x - 1 < q.2 then x - 1 else q.2) = a
  generalize (if x + 1 > q.1 then x + 1 else q.1, q.2) = b
  have e : ([a, b].filter fun p => decide (p.1 ≤ p.2)).map pairD = [a, b].filterMap (fun p => if p.1 ≤ p.2 then some (pairD p) else none) := by
    by_cases h1 : a.1 ≤ a.2 <;> by_cases h2 : b.1 ≤ b.2 <;> simp [List.filter, h1, h2]
  rw [e]
  refine comp_map pairD _ [a, b] (ρ1 := [s0, s1, s2, s3, s4, .val (.list [pairD a, pairD b]), s6, .un]) (by simp) rfl rfl (fun p hp => ?_) (sizeN (by simp))
  refine ⟨[s0, s1, s2, s3, s4, .val (.list [pairD a, pairD b]), s6, .val (pairD p)], decide (p.1 ≤ p.2), [s0, s1, s2, s3, s4, .val (.list [pairD a, pairD b]), s6, .val (pairD p)], by simp, by simp [pairD, atI_0, atI_1], ?_⟩
  by_cases h : p.1 ≤ p.2
  · exact .inr ⟨by simp [h], .val (pairD p), _, _, rfl, rfl, by simp [h], rfl⟩
  · exact .inl ⟨by simp [h], by simp [h], rfl⟩
abbrev turn1 : MS := mSeq (mAsg (fun _ => false) 5 (mLst (mCons (mTup (mCons (mVar 3) (mCons (mFn fMin2 (mCons (mVar 4) (mCons (mBin (fI (fun _ _ => true) fun i j => i - j) (mVar 1) (mC (.int 1))) (mNil)))) (mNil)))) (mCons (mTup (mCons (mFn fMax2 (mCons (mVar 3) (mCons (mBin fAdd (mVar 1) (mC (.int 1))) (mNil)))) (mCons (mVar 4) (mNil)))) (mNil))))) (mExpr (mExtN 2 (mComp (miS (mVar 5)) (mgN (fun _ => false) 7) (mB (mBin (fB fun i j => decide (i ≤ j)) (mBin fIx (mVar 7) (mC (.int 0))) (mBin fIx (mVar 7) (mC (.int 1))))) (mVar 7) [7])))
theorem loop1 (r : RowT) (x : Int) (hl : r.length ≤ 1000) : ∃ s3 s4 s5, mLoop (mgL (fun _ => false) [3, 4]) turn1 (r.map pairD) [.val (dRow r), .val (.int x), .own [], .un, .un, .un, .un, .un]
    = some (.nx [.val (dRow r), .val (.int x), .own ((partsL r x).map pairD), s3, s4, s5, .un, .un]) := by
  have key := loop_count (g := mgL (fun _ => false) [3, 4]) (b := turn1) pairD
    (fun i ρ => ∃ s3 s4 s5, ρ = [.val (dRow r), .val (.int x), .own ((partsL (r.take i) x).map pairD), s3, s4, s5, .un, .un]) r 0
    [.val (dRow r), .val (.int x), .own [], .un, .un, .un, .un, .un] (fun i q ρ hq hW => by
      obtain ⟨s3, s4, s5, rfl⟩ := hW
      simp only [Nat.zero_add]
      have hi := (List.getElem?_eq_some_iff.mp hq).1
      have hlen := partsL_len (r.take i) x
      have hp := pieces_len q x
      rw [List.length_take] at hlen
      have hz : (partsL (r.take i) x).length + (pieces q x).length ≤ sizeLine := sizeN (by omega)
      have et : r.take (i + 1) = r.take i ++ [q] := by rw [List.take_add_one, hq]; rfl
      refine ⟨[.val (dRow r), .val (.int x), .own ((partsL (r.take i) x).map pairD), .val (.int q.1), .val (.int q.2), s5, .un, .un],
        [.val (dRow r), .val (.int x), .own ((partsL (r.take (i + 1)) x).map pairD), .val (.int q.1), .val (.int q.2), .val (.list [pairD (q.1, if x - 1 < q.2 then x - 1 else q.2), pairD (if x + 1 > q.1 then x + 1 else q.1, q.2)]), .un, .un], by simp [pairD], .inl ?_, _, _, _, rfl⟩
      rw [et, partsL_snoc]
      have h7 := comp7 q x (.val (dRow r)) (.val (.int x)) (.own ((partsL (r.take i) x).map pairD)) (.val (.int q.1)) (.val (.int q.2)) .un
      simp only [pairD] at h7
      simp [sizeN, pairD, -mComp_ap]
      simp [h7, hz, pairD, -mComp_ap]) ⟨.un, .un, .un, rfl⟩
  obtain ⟨ρ', e, s3, s4, s5, rfl⟩ := key
  refine ⟨s3, s4, s5, ?_⟩
  rw [Nat.zero_add, List.take_length] at e
  exact e
end LB

namespace LB
open PySem L2 Dn PR
abbrev turn2 : MS := mIfS (mTAnd (mB (mEqO true 6 (mLst (mNil)))) (mB (mBin (fEq false) (mBin fAdd (mBin fIx (mIxO 6 (mUn fNeg (mC (.int 1)))) (mC (.int 1))) (mC (.int 1))) (mVar 3)))) (mSetO 6 (mUn fNeg (mC (.int 1))) (mTup (mCons (mBin fIx (mIxO 6 (mUn fNeg (mC (.int 1)))) (mC (.int 0))) (mCons (mVar 4) (mNil))))) (mExpr (mMeth 6 fApp (mCons (mTup (mCons (mVar 3) (mCons (mVar 4) (mNil)))) (mNil))))
theorem mgStep_len (acc : RowT) (p : Int × Int) : (mgStep acc p).length ≤ acc.length + 1 := by
  unfold mgStep
  cases h : acc.getLast? with
  | none => simp
  | some l =>
    simp only
    split
    · simp only [List.length_append, List.length_dropLast, List.length_cons, List.length_nil]
      omega
    · simp
theorem mgFold_len : ∀ (l acc : RowT), (l.foldl mgStep acc).length ≤ acc.length + l.length
  | [], acc => by simp
  | p :: l, acc => by
    have h1 := mgFold_len l (mgStep acc p)
    have h2 := mgStep_len acc p
    simp only [List.foldl_cons, List.length_cons]
    omega
theorem set_last {acc : RowT} {l : Int × Int} (h : acc.getLast? = some l) (d : D) : (acc.map pairD).set (acc.length - 1) d = acc.dropLast.map pairD ++ [d] := by
  rcases List.eq_nil_or_concat acc with rfl | ⟨a, q, rfl⟩
  · cases h
  · rw [List.concat_eq_append] at *
    simp
theorem ixN_last {n : Nat} (h : 0 < n) : ixN n (-1) = some (n - 1) := by
  unfold ixN
  rw [if_neg (by omega), if_pos (by omega)]
  congr 1
  omega
theorem loop2 (L : RowT) (s0 s1 s2 s5 s3 s4 : Sl) (hl : L.length ≤ 10000) : ∃ t3 t4, mLoop (mgL (fun _ => false) [3, 4]) turn2 (L.map pairD) [s0, s1, s2, s3, s4, s5, .own [], .un]
    = some (.nx [s0, s1, s2, t3, t4, s5, .own ((L.foldl mgStep []).map pairD), .un]) := by
  have key := loop_count (g := mgL (fun _ => false) [3, 4]) (b := turn2) pairD
    (fun i ρ => ∃ t3 t4, ρ = [s0, s1, s2, t3, t4, s5, .own (((L.take i).foldl mgStep []).map pairD), .un]) L 0
    [s0, s1, s2, s3, s4, s5, .own [], .un] (fun i q ρ hq hW => by
      obtain ⟨t3, t4, rfl⟩ := hW
      simp only [Nat.zero_add]
      have hi := (List.getElem?_eq_some_iff.mp hq).1
      have hlen := mgFold_len (L.take i) []
      rw [List.length_take, List.length_nil] at hlen
      have et : L.take (i + 1) = L.take i ++ [q] := by rw [List.take_add_one, hq]; rfl
      refine ⟨[s0, s1, s2, .val (.int q.1), .val (.int q.2), s5, .own (((L.take i).foldl mgStep []).map pairD), .un],
        [s0, s1, s2, .val (.int q.1), .val (.int q.2), s5, .own (((L.take (i + 1)).foldl mgStep []).map pairD), .un], by simp [pairD], .inl ?_, _, _, rfl⟩
      rw [et, List.foldl_append]
      simp only [List.foldl_cons, List.foldl_nil]
      generalize (L.take i).foldl mgStep [] = acc at hlen ⊢
      have hz : acc.length < sizeLine := sizeL (by omega)
      have hsr := shaped_row acc
      cases hg : acc.getLast? with
      | none =>
        have hnil : acc = [] := by simpa using hg
        subst hnil
        simp [mgStep, shaped_nil, eqv_nil, sizeN, pairD, sizeL]
      | some l =>
        have hne : (acc.map pairD).isEmpty = false := by
          cases acc with
          | nil => cases hg
          | cons a r => rfl
        have hat : atI (acc.map pairD) (-1) = some (pairD l) := atI_end (by rw [map_getLast, hg]; rfl)
        have hpos : 0 < acc.length := by
          cases acc with
          | nil => cases hg
          | cons a r => simp
        have hix := ixN_last hpos
        have hset := set_last hg
        by_cases hc : l.2 + 1 = q.1
        · simp [mgStep, hg, hc, shaped_nil, hsr, eqv_nil, hne, hat, sizeN, pairD, atI_0, atI_1, shaped_int, eqv_int, hix, -List.isEmpty_map, -List.map_dropLast]
          have h3 := hset (.tuple [.int l.1, .int q.2])
          simpa [pairD] using h3
        · simp [mgStep, hg, hc, shaped_nil, hsr, eqv_nil, hne, hat, sizeN, pairD, atI_0, atI_1, shaped_int, eqv_int, hix, hz, -List.isEmpty_map]) ⟨s3, s4, rfl⟩
  obtain ⟨ρ', e, t3, t4, rfl⟩ := key
  refine ⟨t3, t4, ?_⟩
  rw [Nat.zero_add, List.take_length] at e
  exact e
theorem intsOf_pairs (p : Int × Int) (r : RowT) : intsOf ((p :: r).map pairD) = none := rfl
theorem sort_pairs (ps : RowT) : fSortA [.val (.list (ps.map pairD))] = some (.own ((sortP ps).map pairD)) := by
  cases ps with
  | nil => simp [sortI, sortP]
  | cons p r =>
    unfold fSortA
    simp only [lstOf]
    rw [intsOf_pairs, pairsOf_map]
theorem sortP_len (ps : RowT) : (sortP ps).length = ps.length := (sortP_perm ps).length_eq
theorem flip_ok (r : RowT) (x : Int) (hl : r.length ≤ 1000) : mf__law_flip [.val (dRow r), .val (.int x)] = some (.own ((flipL r x).map pairD), [.un, .un]) := by
  obtain ⟨s3, s4, s5, e1⟩ := loop1 r x hl
  have hlen := partsL_len r x
  have hz : (partsL r x).length < sizeLine := sizeL (by omega)
  have hh := has_ok r x hl
  simp only [dRow] at e1 hh ⊢
  unfold flipL
  by_cases hc : 0 < x ∧ hasB r x = false
  · obtain ⟨t3, t4, e2⟩ := loop2 (sortP (partsL r x ++ [(x, x)])) (.val (.list (r.map pairD))) (.val (.int x)) (.val (.list ((partsL r x ++ [(x, x)]).map pairD))) s5 s3 s4 (by rw [sortP_len]; simp; omega)
    have hs := sort_pairs (partsL r x ++ [(x, x)])
    rw [if_pos hc]
    simp only [List.map_append, List.map_cons, List.map_nil, pairD] at hs e2
    simp [mf__law_flip, mb__law_flip, sizeN, e1, hh, hc.1, hc.2, hz, hs, e2, -mLoop, -fSortA, pairD]
  · obtain ⟨t3, t4, e2⟩ := loop2 (sortP (partsL r x)) (.val (.list (r.map pairD))) (.val (.int x)) (.val (.list ((partsL r x).map pairD))) s5 s3 s4 (by rw [sortP_len]; omega)
    have hs := sort_pairs (partsL r x)
    rw [if_neg hc, List.append_nil]
    by_cases h0 : 0 < x
    · have hb : hasB r x = true := by
        cases hb : hasB r x with
        | true => rfl
        | false => exact absurd ⟨h0, hb⟩ hc
      simp [mf__law_flip, mb__law_flip, sizeN, e1, hh, h0, hb, hz, hs, e2, -mLoop, -fSortA]
    · simp [mf__law_flip, mb__law_flip, sizeN, e1, hh, h0, hz, hs, e2, -mLoop, -fSortA]
end LB

namespace LB
open PySem L2 Dn PR
/-- rising, apart, but perhaps touching -/
def sepF : Int → RowT → Prop
  | _, [] => True
  | f, p :: r => f ≤ p.1 ∧ p.1 ≤ p.2 ∧ sepF (p.2 + 1) r
theorem sepF_mono : ∀ {r : RowT} {f g : Int}, g ≤ f → sepF f r → sepF g r
  | [], _, _, _, _ => trivial
  | p :: r, f, g, h, s => ⟨by have := s.1; omega, s.2⟩
theorem sepF_ok : ∀ {r : RowT} {f : Int}, okF f r = true → sepF f r
  | [], _, _ => trivial
  | p :: r, f, h => by
    rw [okF_cons] at h
    exact ⟨h.1, h.2.1, sepF_mono (by omega) (sepF_ok h.2.2)⟩
theorem sepF_ge : ∀ {r : RowT} {f : Int} {q : Int × Int}, sepF f r → q ∈ r → f ≤ q.1 ∧ q.1 ≤ q.2
  | p :: r, f, q, s, h => by
    rcases List.mem_cons.mp h with rfl | h
    · exact ⟨s.1, s.2.1⟩
    · have := sepF_ge s.2.2 h
      have := s.1
      have := s.2.1
      constructor <;> omega
theorem sepF_sorted : ∀ {r : RowT} {f : Int}, sepF f r → r.Pairwise (fun a b => leP a b = true)
  | [], _, _ => List.Pairwise.nil
  | p :: r, f, s => List.Pairwise.cons (fun q hq => by
      have h1 := sepF_ge s.2.2 hq
      have h2 := s.2.1
      simp only [leP, Bool.or_eq_true, Bool.and_eq_true, decide_eq_true_eq]
      omega) (sepF_sorted s.2.2)
theorem merge_spec : ∀ {L acc : RowT} {g : Int}, okF 1 acc = true → sepF g L → 1 ≤ g → nextF 1 acc ≤ g + 1 → okF 1 (L.foldl mgStep acc) = true ∧ ∀ p, memR (L.foldl mgStep acc) p ↔ memR acc p ∨ memR L p
  | [], acc, g, ok, _, _, _ => ⟨ok, fun p => ⟨.inl, fun h => h.elim id fun z => absurd z mem_nil⟩⟩
  | p :: L, acc, g, ok, s, hg, hn => by
    have s1 := s.1
    have s2 := s.2.1
    rcases List.eq_nil_or_concat acc with rfl | ⟨a, l, rfl⟩
    · have e : mgStep [] p = [p] := rfl
      rw [List.foldl_cons, e]
      obtain ⟨h1, h2⟩ := merge_spec (L := L) (acc := [p]) (g := p.2 + 1) (by rw [okF_cons]; exact ⟨by omega, s2, rfl⟩) s.2.2 (by omega) (by show p.2 + 2 ≤ p.2 + 1 + 1; omega)
      refine ⟨h1, fun x => ?_⟩
      rw [h2 x, mem_cons, mem_cons]
      have hn : ¬ memR [] x := mem_nil
      constructor
      · rintro ((z | z) | z)
        · exact .inr (.inl z)
        · exact absurd z hn
        · exact .inr (.inr z)
      · rintro (z | z | z)
        · exact absurd z hn
        · exact .inl (.inl z)
        · exact .inr z
    · rw [List.concat_eq_append] at *
      rw [nextF_app] at hn
      have hn' : l.2 + 2 ≤ g + 1 := hn
      have ok' := ok
      rw [okF_app, okF_cons] at ok
      by_cases c : l.2 + 1 = p.1
      · have e : mgStep (a ++ [l]) p = a ++ [(l.1, p.2)] := by simp [mgStep, c]
        rw [List.foldl_cons, e]
        obtain ⟨h1, h2⟩ := merge_spec (L := L) (acc := a ++ [(l.1, p.2)]) (g := p.2 + 1) (by rw [okF_app, okF_cons]; exact ⟨ok.1, ok.2.1, by show l.1 ≤ p.2; have := ok.2.2.1; omega, rfl⟩) s.2.2 (by omega) (by rw [nextF_app]; show p.2 + 2 ≤ p.2 + 1 + 1; omega)
        refine ⟨h1, fun x => ?_⟩
        rw [h2 x, mem_app, mem_app, mem_cons, mem_cons, mem_cons]
        have hn : ¬ memR [] x := mem_nil
        have h3 := ok.2.2.1
        constructor
        · rintro ((z | z | z) | z)
          · exact .inl (.inl z)
          · simp only at z
            by_cases d : x ≤ l.2
            · exact .inl (.inr (.inl ⟨z.1, d⟩))
            · exact .inr (.inl ⟨by omega, z.2⟩)
          · exact absurd z hn
          · exact .inr (.inr z)
        · rintro ((z | z | z) | z | z)
          · exact .inl (.inl z)
          · exact .inl (.inr (.inl ⟨z.1, by show x ≤ p.2; omega⟩))
          · exact absurd z hn
          · exact .inl (.inr (.inl ⟨by show l.1 ≤ x; omega, z.2⟩))
          · exact .inr z
      · have e : mgStep (a ++ [l]) p = a ++ [l] ++ [p] := by simp [mgStep, c]
        rw [List.foldl_cons, e]
        obtain ⟨h1, h2⟩ := merge_spec (L := L) (acc := a ++ [l] ++ [p]) (g := p.2 + 1) (by rw [okF_app, okF_cons, nextF_app]; exact ⟨ok', by show l.2 + 2 ≤ p.1; omega, s2, rfl⟩) s.2.2 (by omega) (by rw [nextF_app]; show p.2 + 2 ≤ p.2 + 1 + 1; omega)
        refine ⟨h1, fun x => ?_⟩
        rw [h2 x, mem_app (a := a ++ [l]), mem_cons, mem_cons (r := L)]
        have hn : ¬ memR [] x := mem_nil
        constructor
        · rintro ((z | z | z) | z)
          · exact .inl z
          · exact .inr (.inl z)
          · exact absurd z hn
          · exact .inr (.inr z)
        · rintro (z | z | z)
          · exact .inl (.inl z)
          · exact .inl (.inr (.inl z))
          · exact .inr z
theorem pieces_low {q : Int × Int} {x : Int} (h : q.2 < x) (hq : q.1 ≤ q.2) : pieces q x = [q] := by
  unfold pieces
  rw [if_neg (by omega), if_pos (by omega)]
  simp [List.filter, hq, show ¬ x + 1 ≤ q.2 by omega]
theorem pieces_high {q : Int × Int} {x : Int} (h : x < q.1) (hq : q.1 ≤ q.2) : pieces q x = [q] := by
  unfold pieces
  rw [if_pos (by omega), if_neg (by omega)]
  simp [List.filter, hq, show ¬ q.1 ≤ x - 1 by omega]
theorem pieces_in {q : Int × Int} {x : Int} (h1 : q.1 ≤ x) (h2 : x ≤ q.2) : pieces q x = partsR q x := by
  unfold pieces partsR
  rw [if_pos (by omega), if_pos (by omega)]
theorem partsL_same {r : RowT} {x : Int} (h : ∀ q ∈ r, pieces q x = [q]) : partsL r x = r := by
  induction r with
  | nil => rfl
  | cons q r ih =>
    have e : partsL (q :: r) x = pieces q x ++ partsL r x := by simp [partsL]
    rw [e, h q List.mem_cons_self, ih fun y hy => h y (List.mem_cons_of_mem _ hy)]
    rfl
theorem partsL_app (a b : RowT) (x : Int) : partsL (a ++ b) x = partsL a x ++ partsL b x := by simp [partsL]
theorem partsL_cons (q : Int × Int) (b : RowT) (x : Int) : partsL (q :: b) x = pieces q x ++ partsL b x := by simp [partsL]
/-- the law's turning over is the program's -/
theorem flip_eq {r : RowT} {x : Int} (ok : okF 1 r = true) (hx : 0 ≤ x) : flipL r x = flipR r x := by
  have hge : ∀ y ∈ r, 1 ≤ y.1 ∧ y.1 ≤ y.2 := fun y hy => okF_ge ok hy
  -- a list that is apart and shows the right places
  have fin : ∀ L : RowT, sepF 1 L → sortP (partsL r x ++ (if 0 < x ∧ hasB r x = false then [(x, x)] else [])) = L → (∀ p, memR L p ↔ memR (flipR r x) p) → okF 1 (flipR r x) = true → flipL r x = flipR r x := by
    intro L s e hm hok
    unfold flipL
    rw [e]
    obtain ⟨h1, h2⟩ := merge_spec (L := L) (acc := []) (g := 1) rfl s (Int.le_refl 1) (by decide)
    exact row_ext h1 hok fun p => by
      rw [h2 p, hm p]
      exact ⟨fun z => z.elim (fun y => absurd y mem_nil) id, .inr⟩
  by_cases h0 : x = 0
  · subst h0
    have e : flipR r 0 = r := by simp [flipR]
    have ep : partsL r 0 = r := partsL_same fun q hq => pieces_high (by have := hge q hq; omega) (hge q hq).2
    rw [e] at fin ⊢
    refine fin r (sepF_ok ok) ?_ (fun _ => Iff.rfl) ok
    rw [ep, if_neg (by simp), List.append_nil]
    exact (sortP_uniq (List.Perm.refl _) (sepF_sorted (sepF_ok ok))).symm
  · obtain ⟨f1, f2, _⟩ := flip_spec (r := r) (x := x) ok (by omega)
    rcases split_at x ok with ⟨a, q, b, rfl, h1, h2, h3, h4⟩ | ⟨a, b, rfl, h1, h4⟩
    · have hb : hasB (a ++ q :: b) x = true := hasB_mem.mpr ⟨q, by simp, h2, h3⟩
      have ep : partsL (a ++ q :: b) x = a ++ (partsR q x ++ b) := by
        rw [partsL_app, partsL_cons, pieces_in h2 h3, partsL_same fun y hy => pieces_low (h1 y hy) (hge y (by simp [hy])).2, partsL_same fun y hy => pieces_high (h4 y hy) (hge y (by simp [hy])).2]
      have ok' := ok
      rw [okF_app, okF_cons] at ok
      have hs : sepF 1 (a ++ (partsR q x ++ b)) := by
        have sb : sepF (q.2 + 1) b := sepF_mono (by omega) (sepF_ok ok.2.2.2)
        have sb2 : sepF (x + 1) b := sepF_mono (by omega) sb
        have sm : ∀ g, g ≤ q.1 → sepF g (partsR q x ++ b) := by
          intro g hg
          unfold partsR
          by_cases c1 : q.1 ≤ x - 1 <;> by_cases c2 : x + 1 ≤ q.2
          · simp only [List.filter, c1, c2, decide_true]
            exact ⟨hg, c1, by show x - 1 + 1 ≤ x + 1; omega, c2, sb⟩
          · simp only [List.filter, c1, c2, decide_true, decide_false]
            exact ⟨hg, c1, sepF_mono (by show x - 1 + 1 ≤ x + 1; omega) sb2⟩
          · simp only [List.filter, c1, c2, decide_true, decide_false]
            exact ⟨by show g ≤ x + 1; omega, c2, sb⟩
          · simp only [List.filter, c1, c2, decide_false]
            exact sepF_mono (by omega) sb2
        have key : ∀ (a : RowT) (f : Int), okF f a = true → nextF f a ≤ q.1 → sepF f (a ++ (partsR q x ++ b)) := by
          intro a
          induction a with
          | nil => intro f _ hf; exact sm f hf
          | cons y a ih =>
            intro f hf hn
            rw [okF_cons] at hf
            exact ⟨hf.1, hf.2.1, sepF_mono (by omega) (ih (y.2 + 2) hf.2.2 hn)⟩
        exact key a 1 ok.1 ok.2.1
      refine fin _ hs ?_ (fun p => ?_) f1
      · rw [ep, if_neg (by rw [hb]; simp), List.append_nil]
        exact (sortP_uniq (List.Perm.refl _) (sepF_sorted hs)).symm
      · rw [f2 p]
        rw [mem_app, mem_app, mem_app, mem_cons]
        have hap : memR a p → p < x := fun ⟨y, hy, z1, z2⟩ => by have := h1 y hy; omega
        have hbp : memR b p → x < p := fun ⟨y, hy, z1, z2⟩ => by have := h4 y hy; omega
        have hpp : memR (partsR q x) p ↔ (q.1 ≤ p ∧ p ≤ q.2 ∧ p ≠ x) := by
          unfold partsR memR
          constructor
          · rintro ⟨y, hy, z1, z2⟩
            have hy' := List.mem_filter.mp hy
            have hc : y = (q.1, x - 1) ∨ y = (x + 1, q.2) := by simpa using hy'.1
            rcases hc with rfl | rfl
            · simp only at z1 z2; omega
            · simp only at z1 z2; omega
          · rintro ⟨z1, z2, z3⟩
            by_cases c : p < x
            · exact ⟨(q.1, x - 1), List.mem_filter.mpr ⟨by simp, by simp; omega⟩, z1, by simp only; omega⟩
            · exact ⟨(x + 1, q.2), List.mem_filter.mpr ⟨by simp, by simp; omega⟩, by simp only; omega, z2⟩
        rw [hpp]
        constructor
        · rintro (h | h | h)
          · have := hap h
            exact ⟨fun _ => by omega, fun _ => .inl h⟩
          · exact ⟨fun _ => h.2.2, fun _ => .inr (.inl ⟨h.1, h.2.1⟩)⟩
          · have := hbp h
            exact ⟨fun _ => by omega, fun _ => .inr (.inr h)⟩
        · intro h
          by_cases c : p = x
          · subst c
            exact absurd rfl (h.mp (.inr (.inl ⟨h2, h3⟩)))
          · rcases h.mpr c with h | h | h
            · exact .inl h
            · exact .inr (.inl ⟨h.1, h.2, c⟩)
            · exact .inr (.inr h)
    · have hb : hasB (a ++ b) x = false := by
        cases hh : hasB (a ++ b) x with
        | false => rfl
        | true =>
          obtain ⟨y, hy, z1, z2⟩ := hasB_mem.mp hh
          rcases List.mem_append.mp hy with hy | hy
          · have := h1 y hy; omega
          · have := h4 y hy; omega
      have ep : partsL (a ++ b) x = a ++ b := by
        rw [partsL_app, partsL_same fun y hy => pieces_low (h1 y hy) (hge y (by simp [hy])).2, partsL_same fun y hy => pieces_high (h4 y hy) (hge y (by simp [hy])).2]
      rw [okF_app] at ok
      have hs : sepF 1 (a ++ ((x, x) :: b)) := by
        have sb : sepF (x + 1) b := by
          have s0 := sepF_ok ok.2
          cases b with
          | nil => trivial
          | cons y b => exact ⟨by have := h4 y List.mem_cons_self; omega, s0.2⟩
        have key : ∀ (a : RowT) (f : Int), okF f a = true → f ≤ x → (∀ y ∈ a, y.2 < x) → sepF f (a ++ ((x, x) :: b)) := by
          intro a
          induction a with
          | nil => intro f _ hf _; exact ⟨hf, Int.le_refl x, sb⟩
          | cons y a ih =>
            intro f hf hn hy
            rw [okF_cons] at hf
            have h5 := hy y List.mem_cons_self
            refine ⟨hf.1, hf.2.1, ?_⟩
            exact ih (y.2 + 1) (okF_mono (by omega) hf.2.2) (by omega) fun z hz => hy z (List.mem_cons_of_mem _ hz)
        exact key a 1 ok.1 (by omega) h1
      refine fin _ hs ?_ (fun p => ?_) f1
      · rw [ep, if_pos ⟨by omega, hb⟩]
        refine (sortP_uniq ?_ (sepF_sorted hs)).symm
        rw [List.append_assoc]
        exact List.Perm.append_left a (List.perm_append_comm (l₁ := [(x, x)]))
      · rw [f2 p, mem_app, mem_app, mem_cons]
        have hap : memR a p → p < x := fun ⟨y, hy, z1, z2⟩ => by have := h1 y hy; omega
        have hbp : memR b p → x < p := fun ⟨y, hy, z1, z2⟩ => by have := h4 y hy; omega
        by_cases c : p = x
        · subst c
          constructor
          · intro _
            refine ⟨fun z => ?_, fun z => absurd rfl z⟩
            rcases z with z | z
            · have := hap z; omega
            · have := hbp z; omega
          · intro _
            exact .inr (.inl ⟨Int.le_refl _, Int.le_refl _⟩)
        · constructor
          · rintro (z | z | z)
            · exact ⟨fun _ => c, fun _ => .inl z⟩
            · simp only at z; omega
            · exact ⟨fun _ => c, fun _ => .inr z⟩
          · intro z
            rcases z.mpr c with z | z
            · exact .inl z
            · exact .inr (.inr z)
end LB

namespace LB
open PySem L2 Dn PR
/-- data of ints, texts, lists and tuples, n deep at the most -/
inductive Ex0 : Nat → D → Prop
  | int {n : Nat} (i : Int) : Ex0 (n + 1) (.int i)
  | str {n : Nat} {x : Str} : PyData.canLay0 (.str x) = true → Ex0 (n + 1) (.str x)
  | lst {n : Nat} {ds : List D} : (∀ d ∈ ds, Ex0 n d) → ds.length ≤ 100000 → Ex0 (n + 1) (.list ds)
  | tup {n : Nat} {ds : List D} : (∀ d ∈ ds, Ex0 n d) → ds.length ≤ 100000 → Ex0 (n + 1) (.tuple ds)
theorem zip_self (ds : List D) : zipD ds ds = ds.map fun d => .tuple [d, d] := by
  unfold zipD
  induction ds with
  | nil => rfl
  | cons d ds ih => simp at ih ⊢; exact ih
theorem all_true (n : Nat) : boolsOf (List.replicate n (PyData.bool true)) = some (List.replicate n true) := by
  induction n with
  | zero => rfl
  | succ n ih => simp [List.replicate_succ, ih]
theorem exact_items {n : Nat} {ds : List D} (ih : ∀ d ∈ ds, mf__law_exact n [.val d, .val d] = some (.val (.bool true), [.un, .un])) (hl : ds.length ≤ 100000) (s : D) (hs : s = .list ds ∨ s = .tuple ds) :
    mComp (miZ (mCons (mVar 0) (mCons (mVar 1) (mNil)))) (mgL (fun _ => false) [2, 3]) (mTYes) (mCall (mf__law_exact n) [] (mCons (mVar 2) (mCons (mVar 3) (mNil)))) [2, 3] [.val s, .val s, .un, .un]
      = some (.own (List.replicate ds.length (PyData.bool true)), [.val s, .val s, .un, .un]) := by
  have e : List.replicate ds.length (PyData.bool true) = ds.filterMap (fun _ => some (PyData.bool true)) := by
    clear hs hl ih
    induction ds with
    | nil => rfl
    | cons d ds ih => simp [List.replicate_succ] at ih ⊢; exact ih
  rw [e]
  refine comp_map (fun d => PyData.tuple [d, d]) _ ds (ρ1 := [.val s, .val s, .un, .un]) (by rcases hs with rfl | rfl <;> simp [zip_self]) rfl rfl (fun d hd => ?_) (sizeN hl)
  exact ⟨[.val s, .val s, .val d, .val d], true, _, by simp, rfl, .inr ⟨rfl, .val (.bool true), _, _, by simp [ih d hd]; rfl, rfl, rfl, rfl⟩⟩
theorem exact_ok : ∀ {n : Nat} {d : D}, Ex0 n d → mf__law_exact n [.val d, .val d] = some (.val (.bool true), [.un, .un]) := by
  intro n
  induction n with
  | zero => intro d h; cases h
  | succ n ih =>
    intro d h
    cases h with
    | int i => simp [mf__law_exact, mb__law_exact, shaped_bool, shaped_int, eqv_bool, eqv_int, PyData.eqv]
    | str hx =>
      have hs : ∀ x : Str, PyData.canLay0 (.str x) = true → SeqAt.shaped (.str x) = true := fun x h => Shp.shaped (n := 0) ⟨h, by simp [PyData.depth]⟩ (by decide)
      simp [mf__law_exact, mb__law_exact, shaped_bool, shaped_int, eqv_bool, eqv_int, hs _ hx, PyData.eqv]
    | @lst _ ds hd hl =>
      have key := exact_items (fun d hd' => ih (hd d hd')) hl (.list ds) (.inl rfl)
      simp [mf__law_exact, mb__law_exact, shaped_bool, shaped_int, eqv_bool, eqv_int, key, all_true, -mComp_ap]
    | @tup _ ds hd hl =>
      have key := exact_items (fun d hd' => ih (hd d hd')) hl (.tuple ds) (.inr rfl)
      simp [mf__law_exact, mb__law_exact, shaped_bool, shaped_int, eqv_bool, eqv_int, key, all_true, -mComp_ap]
theorem ex_pair (p : Int × Int) (n : Nat) : Ex0 (n + 2) (pairD p) := .tup (fun d hd => by
  rcases List.mem_cons.mp hd with rfl | hd
  · exact .int _
  · rcases List.mem_cons.mp hd with rfl | hd
    · exact .int _
    · cases hd) (by simp)
theorem ex_row (r : RowT) (n : Nat) (hl : r.length ≤ 100000) : Ex0 (n + 3) (dRow r) := .lst (fun d hd => by
  obtain ⟨p, _, rfl⟩ := List.mem_map.mp hd
  exact ex_pair p n) (by simpa using hl)
theorem ex_two (r s : RowT) (n : Nat) (hl : r.length ≤ 100000) (hm : s.length ≤ 100000) : Ex0 (n + 4) (dPair r s) := .tup (fun d hd => by
  rcases List.mem_cons.mp hd with rfl | hd
  · exact ex_row r n hl
  · rcases List.mem_cons.mp hd with rfl | hd
    · exact ex_row s n hm
    · cases hd) (by simp)
theorem exact_pair (r s : RowT) (hl : r.length ≤ 100000) (hm : s.length ≤ 100000) : mf__law_exact 6 [.val (dPair r s), .val (dPair r s)] = some (.val (.bool true), [.un, .un]) := exact_ok (n := 6) (ex_two r s 2 hl hm)
theorem sm_two : Sm 2 := by unfold Sm; decide +kernel
theorem sm_four : Sm 4 := by unfold Sm; decide +kernel
/-! ### a cell's jar, the cells -/
theorem cells_ok (ns : List Int) (k : Nat) (hk : 0 < k) (hl : ns.length ≤ 63) : ∃ cs : List Int, mf__law_cells [.val (.list (ns.map PyData.int)), .val (.int (k : Int))] = some (.own (cs.map PyData.int), [.un, .un]) ∧ cs.length ≤ 63 := by
  have hs := shaped_ints ns
  have hcut : cutL (ns.map PyData.int) none (some (k : Int)) = (ns.take (min k ns.length)).map PyData.int := by
    unfold cutL
    rw [show HT.sIx (ns.map PyData.int).length (ns.map PyData.int).length (some (k : Int)) = min k (ns.map PyData.int).length from HT.sIx_nat _ _ k, HT.sIx_none]
    simp
  cases ns with
  | nil =>
    refine ⟨[0], ?_, by simp⟩
    simp at hcut
    simp [mf__law_cells, mb__law_cells, sizeN, shaped_nil, eqv_nil, hcut]
  | cons n r =>
    have he : ((n :: r).map PyData.int).isEmpty = false := rfl
    refine ⟨(n :: r).take (min k (n :: r).length), ?_, by rw [List.length_take]; omega⟩
    have hz : (List.take (min k (n :: r).length) (n :: r)).length ≤ sizeLine := sizeN (by rw [List.length_take]; simp at hl; simp; omega)
    generalize hA : (n :: r).take (min k (n :: r).length) = A at hcut hz ⊢
    generalize hB : (n :: r).map PyData.int = B at hs hcut he ⊢
    simp [mf__law_cells, mb__law_cells, sizeN, shaped_nil, eqv_nil, hs, hcut, he, hz]
theorem tenS18 : (0 : Int) < tenP 18 := by unfold tenP; decide +kernel
theorem p38 : (0 : Int) < tenP 38 + 133 := by unfold tenP; decide +kernel
theorem s38 : Sm (tenP 38 + 133) := by unfold Sm tenP; decide +kernel
theorem s115 : (tenP 38 + 133) ^ 3 + 1299721 * 100 + 271828182845904523 < 2 ^ 400 := by unfold tenP; decide +kernel
theorem sm_c : Sm 1299721 := by unfold Sm; decide +kernel
theorem sm_100 : Sm 100 := by unfold Sm; decide +kernel
theorem cube_le {a b : Int} (h0 : 0 ≤ a) (h : a ≤ b) : a ^ 3 ≤ b ^ 3 := by
  have e : ∀ x : Int, x ^ 3 = x * x * x := fun x => by rw [Int.pow_succ, Int.pow_succ, Int.pow_succ, Int.pow_zero, Int.one_mul]
  rw [e, e]
  exact Int.mul_le_mul (Int.mul_le_mul h h h0 (by omega)) h h0 (Int.mul_nonneg (by omega) (by omega))
theorem jar_ok (c : Int) (k : Nat) (hk : k ≤ 100) : ∃ j, mf__law_jar [.val (.int c), .val (.int (k : Int))] = some (.own j, [.un, .un]) ∧ JOK 0 j := by
  have hm : cMod c (tenP 38 + 133) = true := cMod_ok p38
  have h0 : 0 ≤ c % (tenP 38 + 133) := Int.emod_nonneg _ (Int.ne_of_gt p38)
  have h1 : c % (tenP 38 + 133) < tenP 38 + 133 := Int.emod_lt_of_pos _ p38
  have hs : Sm (c % (tenP 38 + 133)) := Int.lt_trans h1 s38
  have hp := cPow_ok h0 hs
  have hmu : cMul 1299721 (k : Int) = true := cMul_ok' (by omega) sm_c (by omega) (Int.lt_of_le_of_lt (show (k : Int) ≤ 100 by omega) sm_100)
  have e38 := fun ρ => ten38 ρ
  have e18 := fun ρ => ten18 ρ
  have h3 := cube_le h0 (Int.le_of_lt h1)
  have h4 : (0 : Int) ≤ (c % (tenP 38 + 133)) ^ 3 := by
    have := cube_le (a := 0) (b := c % (tenP 38 + 133)) (Int.le_refl 0) h0
    simpa using this
  have hbig := s115
  generalize hX : tenP 38 + 133 = X at hm h0 h1 hs hp h3 h4 hbig
  generalize hY : tenP 18 = Y at e18
  have hX' : tenP 38 = X - 133 := by omega
  rw [hX'] at e38
  have hX2 : X - 133 + 133 = X := by omega
  refine ⟨[.int (if c - Y > 0 then c - Y else 0), .int ((c % X) ^ 3 + 1299721 * (k : Int) + 271828182845904523), .int 0], ?_, ⟨_, _, 0, rfl, by split <;> omega, by omega, ?_, Int.le_refl 0, Int.le_refl 0⟩⟩
  · unfold mf__law_jar mb__law_jar
    generalize mBin (fI cPow fun i j => i ^ j.toNat) (mC (.int 10)) (mC (.int 38)) = M38 at e38 ⊢
    generalize mBin (fI cPow fun i j => i ^ j.toNat) (mC (.int 10)) (mC (.int 18)) = M18 at e18 ⊢
    simp [e38, e18, hm, hp, hmu, hX2, -cMod, -cPow, -cMul, t3, sizeN]
  · show (c % X) ^ 3 + 1299721 * (k : Int) + 271828182845904523 < 2 ^ 400
    refine Int.lt_of_le_of_lt ?_ hbig
    omega
end LB

namespace LA
open PySem L2 Dn PR LB
/-! ### the bank -/
def BOK (m : Int) (j : List D) : Prop := ∃ a b c : Int, j = [.int a, .int b, .int c] ∧ 0 ≤ a ∧ 0 ≤ b ∧ b ≤ tenP 44 ∧ 0 ≤ c ∧ c ≤ m
theorem BOK.mono {m n : Int} {j : List D} (h : BOK m j) (hm : m ≤ n) : BOK n j := by
  obtain ⟨a, b, c, e, h1, h2, h3, h4, h5⟩ := h
  exact ⟨a, b, c, e, h1, h2, h3, h4, by omega⟩
theorem pw40 : cPow 10 40 = true := by decide +kernel
theorem pw37 : cPow 10 37 = true := by decide +kernel
theorem pw43 : cPow 10 43 = true := by decide +kernel
theorem pw39 : cPow 10 39 = true := by decide +kernel
theorem ten40 (ρ : List Sl) : mBin (fI cPow fun i j => i ^ j.toNat) (mC (.int 10)) (mC (.int 40)) ρ = some (.val (.int (tenP 40)), ρ) := ten_ok (n := 40) pw40 ρ
theorem ten37 (ρ : List Sl) : mBin (fI cPow fun i j => i ^ j.toNat) (mC (.int 10)) (mC (.int 37)) ρ = some (.val (.int (tenP 37)), ρ) := ten_ok (n := 37) pw37 ρ
theorem ten43 (ρ : List Sl) : mBin (fI cPow fun i j => i ^ j.toNat) (mC (.int 10)) (mC (.int 43)) ρ = some (.val (.int (tenP 43)), ρ) := ten_ok (n := 43) pw43 ρ
theorem ten39 (ρ : List Sl) : mBin (fI cPow fun i j => i ^ j.toNat) (mC (.int 10)) (mC (.int 39)) ρ = some (.val (.int (tenP 39)), ρ) := ten_ok (n := 39) pw39 ρ
theorem flip_a {n a b c : Int} (hn : 0 < n) (hn2 : Sm n) (ha : 0 < a) :
    mf__law_flip [.own [.int a, .int b, .int c], .val (.int n)] = some (.val (.int (a % n)), [.own [.int (a / n), .int b, .int c], .un]) := by
    simp [mf__law_flip, mb__law_flip, atI_0, ha, cMod_ok hn, cDiv_ok hn hn2, ix0, -cMod, -cDiv]
theorem flip_b {n a b c : Int} (hn : 0 < n) (ha : ¬ 0 < a) (N1 N2 X Y F : Int) (h1 : 779971 = N1) (h2 : 15485867 = N2) (hX : tenP 40 = X) (hY : tenP 37 = Y) (hF : 4096 = F) (hc1 : cMul N1 (c + 1) = true) (hc2 : cMul N2 (c + 1) = true)
    (hp1 : cPow (b + N1 * (c + 1)) 3 = true) (hmo : ∀ i, cMod i (X + 121) = true) (hmo2 : ∀ i, cMod i (Y + 43) = true) (hdi : ∀ i, cDiv i F = true)
    (u : Int) (hu : (b + N1 * (c + 1)) ^ 3 % (X + 121) = u) (hsq : cMul u u = true) (hp2 : cPow (u * u + N2 * (c + 1)) 3 = true) :
    mf__law_flip [.own [.int a, .int b, .int c], .val (.int n)] = some (.val (.int ((u * u + N2 * (c + 1)) ^ 3 % (Y + 43) / F % n)), [.own [.int a, .int b, .int (c + 1)], .un]) := by
  have e40 := fun ρ => ten40 ρ
  have e37 := fun ρ => ten37 ρ
  rw [hX] at e40
  rw [hY] at e37
  unfold mf__law_flip mb__law_flip
  rw [h1, h2, hF]
  generalize mBin (fI cPow fun i j => i ^ j.toNat) (mC (.int 10)) (mC (.int 40)) = M40 at e40 ⊢
  generalize mBin (fI cPow fun i j => i ^ j.toNat) (mC (.int 10)) (mC (.int 37)) = M37 at e37 ⊢
  simp [atI_0, atI_1', atI_2, ha, cMod_ok hn, hc1, hc2, hp1, hmo, hmo2, hdi, hu, hsq, hp2, ix0, ix1, ix2, e40, e37, -cMod, -cDiv, -cPow, -cMul, t3]
theorem s_b {b c : Int} (hb : b ≤ tenP 44) (hc : c ≤ 10 ^ 16) : Sm (b + 779971 * c) := by
  have h : tenP 44 + 779971 * 10 ^ 16 < 2 ^ 400 := by unfold tenP; decide +kernel
  unfold Sm
  generalize tenP 44 = X at *
  generalize (2 : Int) ^ 400 = Y at *
  omega
theorem p40 : (0 : Int) < tenP 40 + 121 := by unfold tenP; decide +kernel
theorem p37 : (0 : Int) < tenP 37 + 43 := by unfold tenP; decide +kernel
theorem s40 : Sm (tenP 40 + 121) := by unfold Sm tenP; decide +kernel
theorem s4096 : Sm 4096 := by unfold Sm; decide +kernel
theorem sm_n1 : Sm 779971 := by unfold Sm; decide +kernel
theorem sm_n2 : Sm 15485867 := by unfold Sm; decide +kernel
theorem s_u {u c : Int} (h0 : 0 ≤ u) (h : u ≤ tenP 40 + 121) (hc : c ≤ 10 ^ 16) : Sm (u * u + 15485867 * c) := by
  have h1 : u * u ≤ (tenP 40 + 121) * (tenP 40 + 121) := Int.mul_le_mul h h h0 (Int.le_of_lt p40)
  have h2 : (tenP 40 + 121) * (tenP 40 + 121) + 15485867 * 10 ^ 16 < 2 ^ 400 := by unfold tenP; decide +kernel
  unfold Sm
  generalize (tenP 40 + 121) * (tenP 40 + 121) = X at *
  generalize u * u = V at *
  generalize (2 : Int) ^ 400 = Y at *
  omega
theorem flip_ok {m n : Int} {j : List D} (hm : m < 10 ^ 15) (hn : 0 < n) (hn2 : Sm n) (h : BOK m j) :
    ∃ v j', mf__law_flip [.own j, .val (.int n)] = some (.val (.int v), [.own j', .un]) ∧ 0 ≤ v ∧ v < n ∧ BOK (m + 1) j' := by
  obtain ⟨a, b, c, rfl, h1, h2, h3, h4, h5⟩ := h
  by_cases ha : 0 < a
  · exact ⟨a % n, [.int (a / n), .int b, .int c], flip_a hn hn2 ha, Int.emod_nonneg _ (by omega), Int.emod_lt_of_pos _ hn, ⟨a / n, b, c, rfl, Int.ediv_nonneg h1 (by omega), h2, h3, h4, by omega⟩⟩
  · have hcs : Sm (c + 1) := Int.lt_of_lt_of_le (show c + 1 < 10 ^ 16 by omega) big16
    have hc1 : cMul 779971 (c + 1) = true := cMul_ok' (by omega) sm_n1 (by omega) hcs
    have hc2 : cMul 15485867 (c + 1) = true := cMul_ok' (by omega) sm_n2 (by omega) hcs
    have hu0 : 0 ≤ (b + 779971 * (c + 1)) ^ 3 % (tenP 40 + 121) := Int.emod_nonneg _ (Int.ne_of_gt p40)
    have hu1 : (b + 779971 * (c + 1)) ^ 3 % (tenP 40 + 121) < tenP 40 + 121 := Int.emod_lt_of_pos _ p40
    have hus : Sm ((b + 779971 * (c + 1)) ^ 3 % (tenP 40 + 121)) := Int.lt_trans hu1 s40
    have hsu := s_u hu0 (Int.le_of_lt hu1) (show c + 1 ≤ 10 ^ 16 by omega)
    have p := flip_b (a := a) (b := b) (c := c) hn ha 779971 15485867 (tenP 40) (tenP 37) 4096 rfl rfl rfl rfl rfl hc1 hc2 (cPow_ok (by omega) (s_b h3 (by omega))) (fun i => cMod_ok p40) (fun i => cMod_ok p37) (fun i => cDiv_ok (by decide) s4096)
      _ rfl (cMul_ok' hu0 hus hu0 hus) (cPow_ok (Int.add_nonneg (Int.mul_nonneg hu0 hu0) (by omega)) hsu)
    exact ⟨_, _, p, Int.emod_nonneg _ (by omega), Int.emod_lt_of_pos _ hn, ⟨a, b, c + 1, rfl, h1, h2, h3, by omega, by omega⟩⟩
theorem p43 : (0 : Int) < tenP 43 + 57 := by unfold tenP; decide +kernel
theorem s43 : tenP 43 + 57 + 6151 * 100 ≤ tenP 44 := by unfold tenP; decide +kernel
theorem sm_6151 : Sm 6151 := by unfold Sm; decide +kernel
theorem bank_ok (c : Int) (k : Nat) (hk : k ≤ 100) : ∃ j, mf__law_bank [.val (.int c), .val (.int (k : Int))] = some (.own j, [.un, .un]) ∧ BOK 0 j := by
  have hm : cMod c (tenP 43 + 57) = true := cMod_ok p43
  have h0 : 0 ≤ c % (tenP 43 + 57) := Int.emod_nonneg _ (Int.ne_of_gt p43)
  have h1 : c % (tenP 43 + 57) < tenP 43 + 57 := Int.emod_lt_of_pos _ p43
  have hmu : cMul 6151 (k : Int) = true := cMul_ok' (by omega) sm_6151 (by omega) (Int.lt_of_le_of_lt (show (k : Int) ≤ 100 by omega) sm_100)
  have e43 := fun ρ => ten43 ρ
  have e18 := fun ρ => ten18 ρ
  have hbig := s43
  generalize tenP 43 = X at e43 hm h0 h1 hbig
  generalize tenP 18 = Y at e18
  generalize hZ : tenP 44 = Z at hbig
  refine ⟨[.int (if c - Y > 0 then c - Y else 0), .int (c % (X + 57) + 6151 * (k : Int)), .int 0], ?_, ⟨_, _, 0, rfl, by split <;> omega, by omega, by rw [hZ]; omega, Int.le_refl 0, Int.le_refl 0⟩⟩
  unfold mf__law_bank mb__law_bank
  generalize mBin (fI cPow fun i j => i ^ j.toNat) (mC (.int 10)) (mC (.int 43)) = M43 at e43 ⊢
  generalize mBin (fI cPow fun i j => i ^ j.toNat) (mC (.int 10)) (mC (.int 18)) = M18 at e18 ⊢
  simp [e43, e18, hm, hmu, -cMod, -cPow, -cMul, sizeN]
end LA

namespace LA
open PySem L2 Dn PR LB
theorem pick {xs : List Int} {v : Int} (h0 : 0 ≤ v) (h1 : v < xs.length) : ∃ w ∈ xs, atI (xs.map PyData.int) v = some (.int w) := by
  obtain ⟨V, rfl⟩ : ∃ N : Nat, v = N := ⟨v.toNat, by omega⟩
  have hV : V < xs.length := by omega
  exact ⟨xs[V], List.getElem_mem hV, atI_nat' (by rw [List.getElem?_map, List.getElem?_eq_getElem hV]; rfl)⟩
theorem pick3 {x y z v : Int} (h0 : 0 ≤ v) (h1 : v < 3) : ∃ w, (w = x ∨ w = y ∨ w = z) ∧ atI [.int x, .int y, .int z] v = some (PyData.int w) := by
  obtain ⟨w, hw, e⟩ := pick (xs := [x, y, z]) h0 h1
  exact ⟨w, by simpa using hw, e⟩
theorem pick4 {x y z u v : Int} (h0 : 0 ≤ v) (h1 : v < 4) : ∃ w, (w = x ∨ w = y ∨ w = z ∨ w = u) ∧ atI [.int x, .int y, .int z, .int u] v = some (PyData.int w) := by
  obtain ⟨w, hw, e⟩ := pick (xs := [x, y, z, u]) h0 h1
  exact ⟨w, by simpa using hw, e⟩
theorem pick5 {x y z u t v : Int} (h0 : 0 ≤ v) (h1 : v < 5) : ∃ w, (w = x ∨ w = y ∨ w = z ∨ w = u ∨ w = t) ∧ atI [.int x, .int y, .int z, .int u, .int t] v = some (PyData.int w) := by
  obtain ⟨w, hw, e⟩ := pick (xs := [x, y, z, u, t]) h0 h1
  exact ⟨w, by simpa using hw, e⟩
theorem pick6 {x y z u t s v : Int} (h0 : 0 ≤ v) (h1 : v < 6) : ∃ w, (w = x ∨ w = y ∨ w = z ∨ w = u ∨ w = t ∨ w = s) ∧ atI [.int x, .int y, .int z, .int u, .int t, .int s] v = some (PyData.int w) := by
  obtain ⟨w, hw, e⟩ := pick (xs := [x, y, z, u, t, s]) h0 h1
  exact ⟨w, by simpa using hw, e⟩
theorem sm_lit {n : Int} (h : n ≤ 10 ^ 8) : Sm n := Int.lt_of_le_of_lt h big8
theorem s38' : Sm (tenP 38) := by unfold Sm tenP; decide +kernel
theorem p38' : 0 < tenP 38 := by unfold tenP; decide +kernel
def turnS : MS := (mSeq (mAsg (fun j => j == 0) 6 (mLst (mCons (mC (.int 1)) (mCons (mBin fAdd (mC (.int 1)) (mCallM LA.mf__law_flip 0 [] (mCons (mC (.int 5)) (mNil)))) (mCons (mBin fAdd (mC (.int 1)) (mCallM LA.mf__law_flip 0 [] (mCons (mBin (fI cPow fun i j => i ^ j.toNat) (mC (.int 10)) (mC (.int 38))) (mNil)))) (mNil)))))) (mSeq (mAsg (fun j => j == 0) 7 (mBin (fI (fun _ _ => true) fun i j => i - j) (mBin fAdd (mBin fAdd (mVar 4) (mC (.int 1))) (mBin fIx (mVar 6) (mBin fIx (mLst (mCons (mC (.int 0)) (mCons (mC (.int 1)) (mCons (mCallM LA.mf__law_flip 0 [] (mCons (mC (.int 3)) (mNil))) (mNil))))) (mVar 2)))) (mFn fInt (mCons (mAndV (mBin (fEq false) (mVar 5) (mC (.int 0))) (mBin (fEq false) (mCallM LA.mf__law_flip 0 [] (mCons (mC (.int 2)) (mNil))) (mC (.int 0)))) (mNil))))) (mSeq (mAsg (fun j => j == 0) 4 (mBin (fI (fun _ _ => true) fun i j => i - j) (mBin fAdd (mVar 7) (mBin fIx (mVar 6) (mBin fIx (mLst (mCons (mCallM LA.mf__law_flip 0 [] (mCons (mC (.int 2)) (mNil))) (mCons (mC (.int 1)) (mCons (mCallM LA.mf__law_flip 0 [] (mCons (mC (.int 3)) (mNil))) (mNil))))) (mVar 2)))) (mC (.int 1)))) (mExpr (mMeth 3 fApp (mCons (mTup (mCons (mVar 7) (mCons (mVar 4) (mNil)))) (mNil)))))))
theorem turnS_ok {m at_ sort : Int} {j : List D} {r : RowT} {k : Nat} (hj : BOK m j) (hm : m < 10 ^ 12) (hs0 : 0 ≤ sort) (hs1 : sort < 3) (hl : r.length ≤ 1000) (s1 s6 s7 : Sl) :
    ∃ (j' : List D) (a b : Int) (s6' : Sl), turnS [.own j, s1, .val (.int sort), .own (r.map pairD), .val (.int at_), .val (.int (k : Int)), s6, s7] = some (.nx [.own j', s1, .val (.int sort), .own ((r ++ [(a, b)]).map pairD), .val (.int b), .val (.int (k : Int)), s6', .val (.int a)]) ∧
      BOK (m + 6) j' ∧ at_ + 1 + (if k = 0 then 0 else 1) ≤ a ∧ a ≤ b ∧ b ≤ at_ + 2 * tenP 38 := by
  obtain ⟨v1, j1, e1, a1, b1, J1⟩ := flip_ok (n := 5) (by omega) (by omega) (sm_lit (by omega)) hj
  obtain ⟨v2, j2, e2, a2, b2, J2⟩ := flip_ok (n := tenP 38) (by omega) p38' s38' J1
  obtain ⟨v3, j3, e3, a3, b3, J3⟩ := flip_ok (n := 3) (by omega) (by omega) (sm_lit (by omega)) J2
  obtain ⟨i1, hi1, p1⟩ := pick3 (x := 0) (y := 1) (z := v3) hs0 hs1
  obtain ⟨w1, hw1, q1⟩ := pick3 (x := 1) (y := 1 + v1) (z := 1 + v2) (v := i1) (by omega) (by omega)
  have e38 := fun ρ => ten38 ρ
  have hz : r.length < sizeLine := sizeL (by omega)
  have h5 : 5 ≤ tenP 38 := by unfold tenP; decide +kernel
  generalize hX : tenP 38 = X at e2 b2 e38 h5 ⊢
  generalize hM : mBin (fI cPow fun i j => i ^ j.toNat) (mC (.int 10)) (mC (.int 38)) = M38 at e38
  by_cases hk : k = 0
  · obtain ⟨v4, j4, e4, a4, b4, J4⟩ := flip_ok (n := 2) (by omega) (by omega) sm_two J3
    obtain ⟨v5, j5, e5, a5, b5, J5⟩ := flip_ok (n := 2) (by omega) (by omega) sm_two J4
    obtain ⟨v6, j6, e6, a6, b6, J6⟩ := flip_ok (n := 3) (by omega) (by omega) (sm_lit (by omega)) J5
    obtain ⟨i2, hi2, p2⟩ := pick3 (x := v5) (y := 1) (z := v6) hs0 hs1
    obtain ⟨w2, hw2, q2⟩ := pick3 (x := 1) (y := 1 + v1) (z := 1 + v2) (v := i2) (by omega) (by omega)
    subst hk
    by_cases h4 : v4 = 0
    · refine ⟨j6, at_ + 1 + w1 - 1, at_ + 1 + w1 - 1 + w2 - 1, .val (.list [.int 1, .int (1 + v1), .int (1 + v2)]), ?_, J6.mono (by omega), by simp only [if_true]; omega, by omega, by omega⟩
      unfold turnS
      rw [hM]
      subst h4
      simp [e1, e2, e3, e4, e5, e6, e38, p1, q1, p2, q2, sizeN, hz, pairD, shaped_int, eqv_int]
    · refine ⟨j6, at_ + 1 + w1 - 0, at_ + 1 + w1 - 0 + w2 - 1, .val (.list [.int 1, .int (1 + v1), .int (1 + v2)]), ?_, J6.mono (by omega), by simp only [if_true]; omega, by omega, by omega⟩
      unfold turnS
      rw [hM]
      simp [e1, e2, e3, e4, e5, e6, e38, p1, q1, p2, q2, sizeN, hz, pairD, shaped_int, eqv_int, h4]
  · obtain ⟨v5, j5, e5, a5, b5, J5⟩ := flip_ok (n := 2) (by omega) (by omega) sm_two J3
    obtain ⟨v6, j6, e6, a6, b6, J6⟩ := flip_ok (n := 3) (by omega) (by omega) (sm_lit (by omega)) J5
    obtain ⟨i2, hi2, p2⟩ := pick3 (x := v5) (y := 1) (z := v6) hs0 hs1
    obtain ⟨w2, hw2, q2⟩ := pick3 (x := 1) (y := 1 + v1) (z := 1 + v2) (v := i2) (by omega) (by omega)
    refine ⟨j6, at_ + 1 + w1 - 0, at_ + 1 + w1 - 0 + w2 - 1, .val (.list [.int 1, .int (1 + v1), .int (1 + v2)]), ?_, J6.mono (by omega), by rw [if_neg hk]; omega, by omega, by omega⟩
    unfold turnS
    rw [hM]
    have hk' : ((k : Int) == 0) = false := by simp; exact hk
    simp [e1, e2, e3, e5, e6, e38, p1, q1, p2, q2, sizeN, hz, pairD, shaped_int, eqv_int, hk]
end LA

namespace LA
open PySem L2 Dn PR LB
theorem strip_eq : mb__law_strip = mSeq (mAsg (fun j => j == 0) 1 (mBin fIx (mLst (mCons (mCallM LA.mf__law_flip 0 [] (mCons (mC (.int 4)) (mNil))) (mCons (mCallM LA.mf__law_flip 0 [] (mCons (mC (.int 9)) (mNil))) (mCons (mCallM LA.mf__law_flip 0 [] (mCons (mC (.int 31)) (mNil))) (mCons (mC (.int 30)) (mNil)))))) (mCallM LA.mf__law_flip 0 [] (mCons (mC (.int 4)) (mNil))))) (mSeq (mAsg (fun j => j == 0) 2 (mCallM LA.mf__law_flip 0 [] (mCons (mC (.int 3)) (mNil)))) (mSeq (mAsg (fun j => j == 0) 3 (mLst (mNil))) (mSeq (mAsg (fun j => j == 0) 4 (mC (.int 0))) (mSeq (mFor (miR1 (mCons (mVar 1) (mNil))) (mgN (fun j => j == 0) 5) turnS) (mRetO 3))))) := rfl
/-- a drawn row -/
structure Strip (r : RowT) : Prop where
  ok : okF 1 r = true
  len : r.length ≤ 30
  top : ∀ q ∈ r, q.2 ≤ tenP 40 - 1
theorem t4038 : 60 * tenP 38 + 2 ≤ tenP 40 - 1 := by unfold tenP; decide +kernel
theorem t40' : 10 ≤ tenP 40 := by unfold tenP; decide +kernel
theorem strip_ok {m : Int} {j : List D} (hj : BOK m j) (hm : m < 10 ^ 11) : ∃ (r : RowT) (j' : List D), mf__law_strip [.own j] = some (.own (r.map pairD), [.own j']) ∧ Strip r ∧ BOK (m + 500) j' := by
  obtain ⟨v1, j1, e1, a1, b1, J1⟩ := flip_ok (n := 4) (by omega) (by omega) (sm_lit (by omega)) hj
  obtain ⟨v2, j2, e2, a2, b2, J2⟩ := flip_ok (n := 9) (by omega) (by omega) (sm_lit (by omega)) J1
  obtain ⟨v3, j3, e3, a3, b3, J3⟩ := flip_ok (n := 31) (by omega) (by omega) (sm_lit (by omega)) J2
  obtain ⟨v4, j4, e4, a4, b4, J4⟩ := flip_ok (n := 4) (by omega) (by omega) (sm_lit (by omega)) J3
  obtain ⟨v5, j5, e5, a5, b5, J5⟩ := flip_ok (n := 3) (by omega) (by omega) (sm_lit (by omega)) J4
  obtain ⟨w, hw, p1⟩ := pick4 (x := v1) (y := v2) (z := v3) (u := 30) a4 b4
  obtain ⟨N, rfl⟩ : ∃ N : Nat, w = N := ⟨w.toNat, by omega⟩
  have hN : N ≤ 30 := by omega
  have key := loop_count (g := mgN (fun j => j == 0) 5) (b := turnS) (fun k : Nat => PyData.int (0 + (k : Int)))
    (fun i ρ => ∃ (j' : List D) (r : RowT) (at_ : Int) (s6 s7 t5 : Sl), ρ = [.own j', .val (.int (N : Int)), .val (.int v5), .own (r.map pairD), .val (.int at_), t5, s6, s7] ∧ BOK (m + 5 + 6 * i) j' ∧ okF 1 r = true ∧ r.length = i ∧ 0 ≤ at_ ∧
      nextF 1 r ≤ at_ + 1 + (if i = 0 then 0 else 1) ∧ at_ ≤ 2 * tenP 38 * (i : Int) ∧ ∀ q ∈ r, q.2 ≤ at_)
    (List.range N) 0 [.own j5, .val (.int (N : Int)), .val (.int v5), .own [], .val (.int 0), .un, .un, .un] (fun i x ρ hx hW => by
      obtain ⟨j', r, at_, s6, s7, t5, rfl, hJ, ok, hl, h0, hn, hat, hq⟩ := hW
      have hi := (List.getElem?_eq_some_iff.mp hx).1
      rw [List.length_range] at hi
      rw [List.getElem?_range hi] at hx
      have hix := Option.some.inj hx
      subst hix
      simp only [Nat.zero_add] at hJ hl hn hat ⊢
      obtain ⟨k2, a, b, s6', e, hJ2, h1, h2, h3⟩ := turnS_ok (at_ := at_) (r := r) (k := i) hJ (by omega) a5 b5 (by omega) (.val (.int (N : Int))) s6 s7
      have hmul : 2 * tenP 38 * ((i + 1 : Nat) : Int) = 2 * tenP 38 * (i : Int) + 2 * tenP 38 := by rw [Int.natCast_add, Int.mul_add, Int.natCast_one, Int.mul_one]
      refine ⟨[.own j', .val (.int (N : Int)), .val (.int v5), .own (r.map pairD), .val (.int at_), .val (.int (i : Int)), s6, s7], _, by simp, .inl e, k2, r ++ [(a, b)], b, s6', _, _, rfl, hJ2.mono (by omega), ?_, by simp [hl], ?_, ?_, by omega, fun q h => ?_⟩
      · rw [okF_app, okF_cons]
        exact ⟨ok, by show nextF 1 r ≤ a; split at hn <;> split at h1 <;> omega, h2, rfl⟩
      · split at h1 <;> omega
      · rw [nextF_app, if_neg (by omega)]
        show b + 2 ≤ b + 1 + 1
        omega
      · rcases List.mem_append.mp h with h | h
        · have := hq q h; split at h1 <;> omega
        · have e := List.mem_singleton.mp h
          rw [e]; exact Int.le_refl _) ⟨j5, [], 0, .un, .un, .un, rfl, J5.mono (by omega), rfl, rfl, Int.le_refl 0, by simp [nextF], by simp, fun q h => by cases h⟩
  obtain ⟨ρ', e, j', r, at_, s6, s7, t5, rfl, hJ, ok, hl, h0, hn, hat, hq⟩ := key
  simp only [List.length_range, Nat.zero_add] at hl hJ hat
  have hle : 2 * tenP 38 * (N : Int) ≤ 2 * tenP 38 * 30 := Int.mul_le_mul_of_nonneg_left (by omega) (by have := p38'; omega)
  refine ⟨r, j', ?_, ⟨ok, by omega, fun q h => by have := hq q h; have := t4038; omega⟩, hJ.mono (by omega)⟩
  have er : rangeD 0 N = (List.range N).map fun (k : Nat) => PyData.int (0 + (k : Int)) := rfl
  rw [← er] at e
  have h62 : (N : Int) < 4611686018427387904 ∧ -4611686018427387904 ≤ (N : Int) := by omega
  have hr : miR1 (mCons (mVar 1) (mNil)) [.own j5, .val (.int (N : Int)), .val (.int v5), .own [], .val (.int 0), .un, .un, .un] = some (rangeD 0 N, [.own j5, .val (.int (N : Int)), .val (.int v5), .own [], .val (.int 0), .un, .un, .un]) := by simp [h62]
  have h1 : mAsg (fun j => j == 0) 1 (mBin fIx (mLst (mCons (mCallM LA.mf__law_flip 0 [] (mCons (mC (.int 4)) (mNil))) (mCons (mCallM LA.mf__law_flip 0 [] (mCons (mC (.int 9)) (mNil))) (mCons (mCallM LA.mf__law_flip 0 [] (mCons (mC (.int 31)) (mNil))) (mCons (mC (.int 30)) (mNil)))))) (mCallM LA.mf__law_flip 0 [] (mCons (mC (.int 4)) (mNil)))) [.own j, .un, .un, .un, .un, .un, .un, .un] = some (.nx [.own j4, .val (.int (N : Int)), .un, .un, .un, .un, .un, .un]) := by
    simp [e1, e2, e3, e4, p1, sizeN]
  have h2 : mAsg (fun j => j == 0) 2 (mCallM LA.mf__law_flip 0 [] (mCons (mC (.int 3)) (mNil))) [.own j4, .val (.int (N : Int)), .un, .un, .un, .un, .un, .un] = some (.nx [.own j5, .val (.int (N : Int)), .val (.int v5), .un, .un, .un, .un, .un]) := by
    simp [e5]
  have h3 : mAsg (fun j => j == 0) 3 (mLst (mNil)) [.own j5, .val (.int (N : Int)), .val (.int v5), .un, .un, .un, .un, .un] = some (.nx [.own j5, .val (.int (N : Int)), .val (.int v5), .own [], .un, .un, .un, .un]) := by
    simp [sizeN]
  have h4 : mAsg (fun j => j == 0) 4 (mC (.int 0)) [.own j5, .val (.int (N : Int)), .val (.int v5), .own [], .un, .un, .un, .un] = some (.nx [.own j5, .val (.int (N : Int)), .val (.int v5), .own [], .val (.int 0), .un, .un, .un]) := by
    simp
  have h5 : mFor (miR1 (mCons (mVar 1) (mNil))) (mgN (fun j => j == 0) 5) turnS [.own j5, .val (.int (N : Int)), .val (.int v5), .own [], .val (.int 0), .un, .un, .un] = some (.nx [.own j', .val (.int (N : Int)), .val (.int v5), .own (r.map pairD), .val (.int at_), t5, s6, s7]) := by rw [mFor_ap, hr]; exact e
  have h6 : mb__law_strip [.own j, .un, .un, .un, .un, .un, .un, .un] = some (.rt (.own (r.map pairD)) [.own j', .val (.int (N : Int)), .val (.int v5), .un, .val (.int at_), t5, s6, s7]) := by
    rw [strip_eq, mSeq_nx h1, mSeq_nx h2, mSeq_nx h3, mSeq_nx h4, mSeq_nx h5]
    simp
  have := mDef_rt (np := 1) (nl := 8) (kp := fun j => j == 0) (mb := mb__law_strip) (args := [.own j]) rfl h6
  simpa [mf__law_strip] using this
end LA

namespace LA
open PySem L2 Dn PR LB
theorem spot_ok {m : Int} {j : List D} {r : RowT} (hj : BOK m j) (hm : m < 10 ^ 12) (hr : Strip r) :
    ∃ (w : Int) (j' : List D), mf__law_spot [.own j, .val (dRow r)] = some (.val (.int w), [.own j', .un]) ∧ 0 ≤ w ∧ w ≤ tenP 40 + 1 ∧ BOK (m + 5) j' := by
  obtain ⟨v1, j1, e1, a1, b1, J1⟩ := flip_ok (n := 3) (by omega) (by omega) (sm_lit (by omega)) hj
  have h40 := t40'
  have e40 := fun ρ => ten40 ρ
  have hs := shaped_row r
  have hd : ∀ i, cDiv i 2 = true := fun i => cDiv_ok (by decide) sm_two
  cases hc : r with
  | nil =>
    obtain ⟨v4, j4, e4, a4, b4, J4⟩ := flip_ok (n := 6) (by omega) (by omega) (sm_lit (by omega)) J1
    obtain ⟨v5, j5, e5, a5, b5, J5⟩ := flip_ok (n := 5) (by omega) (by omega) (sm_lit (by omega)) J4
    obtain ⟨w, hw, p⟩ := pick5 (x := 1 + v1) (y := 1 + v1) (z := 1 + v1) (u := 1 + v4) (t := tenP 40 - 1) a5 b5
    generalize tenP 40 = X at *
    refine ⟨w, j5, ?_, by omega, by omega, J5.mono (by omega)⟩
    unfold mf__law_spot mb__law_spot
    generalize mBin (fI cPow fun i j => i ^ j.toNat) (mC (.int 10)) (mC (.int 40)) = M40 at e40 ⊢
    simp [e1, e4, e5, e40, p, sizeN, dRow, shaped_nil, eqv_nil]
  | cons q0 r0 =>
    rw [← hc]
    have hpos : 0 < r.length := by rw [hc]; simp
    have hl := hr.len
    obtain ⟨v2, j2, e2, a2, b2, J2⟩ := flip_ok (n := (r.length : Int)) (by omega) (by omega) (sm_lit (by omega)) J1
    obtain ⟨V, rfl⟩ : ∃ N : Nat, v2 = N := ⟨v2.toNat, by omega⟩
    have hV : V < r.length := by omega
    have hat : atI (r.map pairD) (V : Int) = some (pairD r[V]) := atI_nat' (by rw [List.getElem?_map, List.getElem?_eq_getElem hV]; rfl)
    have hq := hr.top r[V] (List.getElem_mem hV)
    have hg := okF_ge hr.ok (List.getElem_mem hV)
    generalize r[V] = q at hat hq hg
    obtain ⟨v3, j3, e3, a3, b3, J3⟩ := flip_ok (n := 6) (by omega) (by omega) (sm_lit (by omega)) J2
    obtain ⟨v4, j4, e4, a4, b4, J4⟩ := flip_ok (n := 6) (by omega) (by omega) (sm_lit (by omega)) J3
    obtain ⟨v5, j5, e5, a5, b5, J5⟩ := flip_ok (n := 5) (by omega) (by omega) (sm_lit (by omega)) J4
    obtain ⟨u, hu, p1⟩ := pick6 (x := q.1) (y := q.2) (z := q.1 - 1) (u := q.2 + 1) (t := q.1 + (q.2 - q.1) / 2) (s := q.2 + 2) a3 b3
    obtain ⟨w, hw, p2⟩ := pick5 (x := u) (y := u) (z := u) (u := 1 + v4) (t := tenP 40 - 1) a5 b5
    generalize tenP 40 = X at *
    refine ⟨w, j5, ?_, by omega, by omega, J5.mono (by omega)⟩
    unfold mf__law_spot mb__law_spot
    generalize mBin (fI cPow fun i j => i ^ j.toNat) (mC (.int 10)) (mC (.int 40)) = M40 at e40 ⊢
    have hne : (r.map pairD).isEmpty = false := by rw [hc]; rfl
    simp only [pairD] at hat
    simp [e1, e2, e3, e4, e5, e40, p1, p2, hd, hat, hs, sizeN, dRow, shaped_nil, eqv_nil, hne, -List.isEmpty_map, -cDiv]
/-! ### a row as it is handed in -/
theorem handed_loop {m : Int} {j : List D} {r : RowT} (hj : BOK m j) (hm : m < 10 ^ 12) (hl : r.length ≤ 1000) :
    ∃ (j' : List D) (ds : List D) (s3 s4 : Sl), mLoop (mgL (fun j => j == 0) [3, 4]) (mExpr (mMeth 2 fApp (mCons (mIf (mB (mBin (fEq false) (mCallM LA.mf__law_flip 0 [] (mCons (mC (.int 4)) (mNil))) (mC (.int 0)))) (mLst (mCons (mVar 3) (mCons (mVar 4) (mNil)))) (mTup (mCons (mVar 3) (mCons (mVar 4) (mNil))))) (mNil)))) (r.map pairD)
      [.own j, .val (dRow r), .own [], .un, .un] = some (.nx [.own j', .val (dRow r), .own ds, s3, s4]) ∧ HA ds r ∧ BOK (m + 1000) j' := by
  have key := loop_count (g := mgL (fun j => j == 0) [3, 4]) (b := (mExpr (mMeth 2 fApp (mCons (mIf (mB (mBin (fEq false) (mCallM LA.mf__law_flip 0 [] (mCons (mC (.int 4)) (mNil))) (mC (.int 0)))) (mLst (mCons (mVar 3) (mCons (mVar 4) (mNil)))) (mTup (mCons (mVar 3) (mCons (mVar 4) (mNil))))) (mNil))))) pairD
    (fun i ρ => ∃ (j' ds : List D) (s3 s4 : Sl), ρ = [.own j', .val (dRow r), .own ds, s3, s4] ∧ HA ds (r.take i) ∧ BOK (m + i) j') r 0 [.own j, .val (dRow r), .own [], .un, .un] (fun i q ρ hq hW => by
      obtain ⟨j', ds, s3, s4, rfl, ha, hJ⟩ := hW
      simp only [Nat.zero_add] at ha hJ ⊢
      have hi := (List.getElem?_eq_some_iff.mp hq).1
      obtain ⟨v, j2, e, v0, v1, J2⟩ := flip_ok (n := 4) (by omega) (by omega) (sm_lit (by omega)) hJ
      have et : r.take (i + 1) = r.take i ++ [q] := by rw [List.take_add_one, hq]; rfl
      have hdl := ha.len
      rw [List.length_take] at hdl
      have hz : ds.length < sizeLine := sizeL (by omega)
      have happ : ∀ d, HP d q → HA (ds ++ [d]) (r.take (i + 1)) := fun d hd => by
        rw [et]
        exact HA.app ha (.cons hd .nil)
      by_cases h0 : v = 0
      · subst h0
        refine ⟨[.own j', .val (dRow r), .own ds, .val (.int q.1), .val (.int q.2)], [.own j2, .val (dRow r), .own (ds ++ [.list [.int q.1, .int q.2]]), .val (.int q.1), .val (.int q.2)], by simp [pairD], .inl ?_, j2, _, _, _, rfl, happ _ (.l q.1 q.2), J2.mono (by omega)⟩
        simp [e, sizeN, shaped_int, eqv_int, hz]
      · refine ⟨[.own j', .val (dRow r), .own ds, .val (.int q.1), .val (.int q.2)], [.own j2, .val (dRow r), .own (ds ++ [.tuple [.int q.1, .int q.2]]), .val (.int q.1), .val (.int q.2)], by simp [pairD], .inl ?_, j2, _, _, _, rfl, happ _ (.t q.1 q.2), J2.mono (by omega)⟩
        simp [e, sizeN, shaped_int, eqv_int, hz, h0]) ⟨j, [], .un, .un, rfl, .nil, hj.mono (by omega)⟩
  obtain ⟨ρ', e, j', ds, s3, s4, rfl, ha, hJ⟩ := key
  refine ⟨j', ds, s3, s4, e, ?_, hJ.mono (by omega)⟩
  rw [Nat.zero_add, List.take_length] at ha
  exact ha
theorem handed_ok {m : Int} {j : List D} {r : RowT} (hj : BOK m j) (hm : m < 10 ^ 11) (hl : r.length ≤ 1000) :
    ∃ (d : D) (j' : List D), mf__law_handed [.own j, .val (dRow r)] = some (.val d, [.own j', .un]) ∧ HR d r ∧ BOK (m + 1001) j' := by
  obtain ⟨j1, ds, s3, s4, e, ha, hJ⟩ := handed_loop hj (by omega) hl
  obtain ⟨v, j2, e2, v0, v1, J2⟩ := flip_ok (n := 3) (by omega) (by omega) (sm_lit (by omega)) hJ
  simp only [dRow] at e ⊢
  have hz : ds.length ≤ sizeLine := sizeN (by have := ha.len; omega)
  by_cases h0 : v = 0
  · subst h0
    refine ⟨.tuple ds, j2, ?_, .t ha, J2.mono (by omega)⟩
    unfold mf__law_handed mb__law_handed
    simp [e, e2, sizeN, shaped_int, eqv_int, hz, -mLoop]
  · refine ⟨.list ds, j2, ?_, .l ha, J2.mono (by omega)⟩
    unfold mf__law_handed mb__law_handed
    simp [e, e2, sizeN, shaped_int, eqv_int, hz, h0, -mLoop]
end LA

namespace LA
open PySem L2 Dn PR LB
/-- numbers, truths, texts, lists and tuples of these, n deep at the most -/
inductive Ex1 : Nat → D → Prop
  | int {n : Nat} (i : Int) : Ex1 (n + 1) (.int i)
  | bl {n : Nat} (b : Bool) : Ex1 (n + 1) (.bool b)
  | str {n : Nat} {x : Str} : PyData.canLay0 (.str x) = true → Ex1 (n + 1) (.str x)
  | lst {n : Nat} {ds : List D} : (∀ d ∈ ds, Ex1 n d) → ds.length ≤ 100000 → Ex1 (n + 1) (.list ds)
  | tup {n : Nat} {ds : List D} : (∀ d ∈ ds, Ex1 n d) → ds.length ≤ 100000 → Ex1 (n + 1) (.tuple ds)
theorem same_items {n : Nat} {ds : List D} (ih : ∀ d ∈ ds, mf__law_same n [.val d, .val d] = some (.val (.bool true), [.un, .un])) (hl : ds.length ≤ 100000) (s : D) (hs : s = .list ds ∨ s = .tuple ds) :
    mComp (miZ (mCons (mVar 0) (mCons (mVar 1) (mNil)))) (mgL (fun _ => false) [2, 3]) (mTYes) (mCall (mf__law_same n) [] (mCons (mVar 2) (mCons (mVar 3) (mNil)))) [2, 3] [.val s, .val s, .un, .un]
      = some (.own (List.replicate ds.length (PyData.bool true)), [.val s, .val s, .un, .un]) := by
  have e : List.replicate ds.length (PyData.bool true) = ds.filterMap (fun _ => some (PyData.bool true)) := by
    clear hs hl ih
    induction ds with
    | nil => rfl
    | cons d ds ih => simp [List.replicate_succ] at ih ⊢; exact ih
  rw [e]
  refine comp_map (fun d => PyData.tuple [d, d]) _ ds (ρ1 := [.val s, .val s, .un, .un]) (by rcases hs with rfl | rfl <;> simp [zip_self]) rfl rfl (fun d hd => ?_) (sizeN hl)
  exact ⟨[.val s, .val s, .val d, .val d], true, _, by simp, rfl, .inr ⟨rfl, .val (.bool true), _, _, by simp [ih d hd]; rfl, rfl, rfl, rfl⟩⟩
theorem same_ok : ∀ {n : Nat} {d : D}, Ex1 n d → mf__law_same n [.val d, .val d] = some (.val (.bool true), [.un, .un]) := by
  intro n
  induction n with
  | zero => intro d h; cases h
  | succ n ih =>
    intro d h
    cases h with
    | int i => simp [mf__law_same, mb__law_same, shaped_bool, shaped_int, eqv_bool, eqv_int, PyData.eqv]
    | bl b => simp [mf__law_same, mb__law_same, shaped_bool, shaped_int, eqv_bool, eqv_int, PyData.eqv]
    | str hx =>
      have hs : ∀ x : Str, PyData.canLay0 (.str x) = true → SeqAt.shaped (.str x) = true := fun x h => Shp.shaped (n := 0) ⟨h, by simp [PyData.depth]⟩ (by decide)
      simp [mf__law_same, mb__law_same, shaped_bool, shaped_int, eqv_bool, eqv_int, hs _ hx, PyData.eqv]
    | @lst _ ds hd hl =>
      have key := same_items (fun d hd' => ih (hd d hd')) hl (.list ds) (.inl rfl)
      have hz : ds.length ≤ sizeLine := sizeN hl
      simp [mf__law_same, mb__law_same, shaped_bool, shaped_int, eqv_bool, eqv_int, key, all_true, -mComp_ap]
    | @tup _ ds hd hl =>
      have key := same_items (fun d hd' => ih (hd d hd')) hl (.tuple ds) (.inr rfl)
      simp [mf__law_same, mb__law_same, shaped_bool, shaped_int, eqv_bool, eqv_int, key, all_true, -mComp_ap]
theorem ex1_pair (p : Int × Int) (n : Nat) : Ex1 (n + 2) (pairD p) := .tup (fun d hd => by
  rcases List.mem_cons.mp hd with rfl | hd
  · exact .int _
  · rcases List.mem_cons.mp hd with rfl | hd
    · exact .int _
    · cases hd) (by simp)
theorem ex1_row (r : RowT) (n : Nat) (hl : r.length ≤ 100000) : Ex1 (n + 3) (dRow r) := .lst (fun d hd => by
  obtain ⟨p, _, rfl⟩ := List.mem_map.mp hd
  exact ex1_pair p n) (by simpa using hl)
theorem same_row (r : RowT) (hl : r.length ≤ 100000) : mf__law_same 6 [.val (dRow r), .val (dRow r)] = some (.val (.bool true), [.un, .un]) := same_ok (ex1_row r 3 hl)
theorem same_own {n : Nat} {ds : List D} (hd : ∀ d ∈ ds, Ex1 n d) (hl : ds.length ≤ 100000) : mf__law_same (n + 1) [.own ds, .val (.list ds)] = some (.val (.bool true), [.un, .un]) := by
  have key := same_items (fun d hd' => same_ok (hd d hd')) hl (.list ds) (.inl rfl)
  simp [mf__law_same, mb__law_same, shaped_bool, shaped_int, eqv_bool, eqv_int, key, all_true, -mComp_ap]
theorem same_rowO (r : RowT) (hl : r.length ≤ 100000) : mf__law_same 6 [.own (r.map pairD), .val (dRow r)] = some (.val (.bool true), [.un, .un]) := same_own (n := 5) (fun d hd => by
  obtain ⟨p, _, rfl⟩ := List.mem_map.mp hd
  exact ex1_pair p 3) (by simpa using hl)
/-! ### the law's loop over its cells -/
def cellT (right : MF) : MS := mIfS (mTNot (mTru (mCall right [] (mCons (mCall LA.mf__law_bank [] (mCons (mVar 2) (mCons (mVar 1) (mNil)))) (mNil))))) (mRet (mC (.bool false))) (mNext)
def lawM (right : MF) (most : Int) : MS := mSeq (mFor (miE (mSl (mBin fAdd (mVar 0) (mLst (mCons (mC (.int 0)) (mNil)))) (mON) (mOS (mFn fMax2 (mCons (mC (.int 1)) (mCons (mFn fMin2 (mCons (mFn fLen (mCons (mVar 0) (mNil))) (mCons (mC (.int most)) (mNil)))) (mNil))))))) (mgL (fun _ => false) [1, 2]) (cellT right)) (mRet (mC (.bool true)))
theorem cut_nat (ns : List Int) (M : Nat) : cutL (ns.map PyData.int) none (some (M : Int)) = (ns.take M).map PyData.int := by
  unfold cutL
  rw [show HT.sIx (ns.map PyData.int).length (ns.map PyData.int).length (some (M : Int)) = min M (ns.map PyData.int).length from HT.sIx_nat _ _ M, HT.sIx_none]
  simp [List.take_take]
theorem take_min' (ns : List Int) (M : Nat) : (ns.take M).map PyData.int = ((ns.take M).map PyData.int) := rfl
theorem most_ok {a b : Nat} (hb : 1 ≤ b) : (if 1 < (if b < a then (b : Int) else (a : Int)) then (if b < a then (b : Int) else (a : Int)) else 1) = ((max 1 (min a b) : Nat) : Int) := by
  by_cases h : b < a
  · rw [if_pos h]
    by_cases h2 : (1 : Int) < b
    · rw [if_pos h2]; omega
    · rw [if_neg h2]; omega
  · rw [if_neg h]
    by_cases h2 : (1 : Int) < a
    · rw [if_pos h2]; omega
    · rw [if_neg h2]; omega
theorem cells_of {ns : List Int} {most : Nat} (hm : most ≤ 63) (hm1 : 1 ≤ most) (hl : ns.length ≤ 63) : ∃ cs : List Int, cs.length ≤ 63 ∧
    miE (mSl (mBin fAdd (mVar 0) (mLst (mCons (mC (.int 0)) (mNil)))) (mON) (mOS (mFn fMax2 (mCons (mC (.int 1)) (mCons (mFn fMin2 (mCons (mFn fLen (mCons (mVar 0) (mNil))) (mCons (mC (.int (most : Int))) (mNil)))) (mNil)))))) [.val (.list (ns.map PyData.int)), .un, .un]
      = some (enumD (cs.map PyData.int), [.val (.list (ns.map PyData.int)), .un, .un]) := by
  refine ⟨(ns ++ [0]).take (max 1 (min ns.length most)), by rw [List.length_take]; omega, ?_⟩
  have hcut := cut_nat (ns ++ [0]) (max 1 (min ns.length most))
  have hmo := most_ok (a := ns.length) hm1
  have hz : ns.length + 1 ≤ sizeLine := sizeN (by omega)
  generalize ((max 1 (min ns.length most) : Nat) : Int) = M at hcut hmo
  generalize (ns ++ [0]).take (max 1 (min ns.length most)) = cs at hcut ⊢
  simp only [List.map_append, List.map_cons, List.map_nil] at hcut
  simp [hz, sizeN]
  rw [hmo, hcut]
theorem cells_loop {right : MF} {ns : List Int} {most : Nat} (hm : most ≤ 63) (hm1 : 1 ≤ most) (hl : ns.length ≤ 63) (hr : ∀ j, BOK 0 j → ∃ a', right [.own j] = some (.val (.bool true), a')) :
    ∃ a', mDef 1 3 (fun _ => false) (lawM right (most : Int)) [.val (.list (ns.map PyData.int))] = some (.val (.bool true), a') := by
  obtain ⟨cs, hc, hi⟩ := cells_of hm hm1 hl
  have key := loop_count (g := mgL (fun _ => false) [1, 2]) (b := cellT right) (fun p : Int × Nat => PyData.tuple [.int (p.2 : Int), .int p.1])
    (fun i ρ => ∃ t1 t2 : Sl, ρ = [.val (.list (ns.map PyData.int)), t1, t2]) cs.zipIdx 0
    [.val (.list (ns.map PyData.int)), .un, .un] (fun i p ρ hx hW => by
      obtain ⟨t1, t2, rfl⟩ := hW
      have hi2 := (List.getElem?_eq_some_iff.mp hx).1
      rw [List.length_zipIdx] at hi2
      rw [List.getElem?_zipIdx, List.getElem?_eq_getElem hi2] at hx
      have hp := Option.some.inj hx
      subst hp
      obtain ⟨j, e2, hJ⟩ := bank_ok cs[i] (0 + i) (by omega)
      obtain ⟨a', e3⟩ := hr j hJ
      refine ⟨[.val (.list (ns.map PyData.int)), .val (.int ((0 + i : Nat) : Int)), .val (.int cs[i])], [.val (.list (ns.map PyData.int)), .val (.int ((0 + i : Nat) : Int)), .val (.int cs[i])], by simp, .inl ?_, _, _, rfl⟩
      generalize cs[i] = c at e2 ⊢
      generalize ((0 + i : Nat) : Int) = I at e2 ⊢
      simp [cellT, e2, e3]) ⟨.un, .un, rfl⟩
  obtain ⟨ρ', e, t1, t2, rfl⟩ := key
  have er : enumD (cs.map PyData.int) = cs.zipIdx.map (fun p : Int × Nat => PyData.tuple [.int (p.2 : Int), .int p.1]) := by
    unfold enumD
    rw [List.zipIdx_map, List.map_map]
    rfl
  have h2 : mFor (miE (mSl (mBin fAdd (mVar 0) (mLst (mCons (mC (.int 0)) (mNil)))) (mON) (mOS (mFn fMax2 (mCons (mC (.int 1)) (mCons (mFn fMin2 (mCons (mFn fLen (mCons (mVar 0) (mNil))) (mCons (mC (.int (most : Int))) (mNil)))) (mNil))))))) (mgL (fun _ => false) [1, 2]) (cellT right) [.val (.list (ns.map PyData.int)), .un, .un]
      = some (.nx [.val (.list (ns.map PyData.int)), t1, t2]) := by
    rw [mFor_ap, hi, er]
    exact e
  have h3 : lawM right (most : Int) [.val (.list (ns.map PyData.int)), .un, .un] = some (.rt (.val (.bool true)) [.val (.list (ns.map PyData.int)), t1, t2]) := by
    unfold lawM
    rw [mSeq_nx h2]
    rfl
  exact ⟨_, mDef_rt (np := 1) (nl := 3) rfl h3⟩
end LA

namespace PR
open PySem L2 Dn
/-- where a coin is turned: in a stretch, or in a gap -/
theorem flip_cases {r : RowT} {x : Int} (ok : okF 1 r = true) (hx : 1 ≤ x) :
    (∃ a q b, r = a ++ q :: b ∧ (∀ y ∈ a, y.2 < x) ∧ q.1 ≤ x ∧ x ≤ q.2 ∧ (∀ y ∈ b, x < y.1) ∧ flipR r x = a ++ (partsR q x ++ b)) ∨
    (∃ a b, r = a ++ b ∧ (∀ y ∈ a, y.2 < x) ∧ (∀ y ∈ b, x < y.1) ∧ flipR r x = (preF a x).2 ++ ((preF a x).1, (postF b x).1) :: (postF b x).2) := by
  have hx0 : x ≠ 0 := by omega
  have hge : ∀ y ∈ r, 1 ≤ y.1 ∧ y.1 ≤ y.2 := fun y hy => okF_ge ok hy
  rcases split_at x ok with ⟨a, q, b, rfl, h1, h2, h3, h4⟩ | ⟨a, b, rfl, h1, h4⟩
  · refine .inl ⟨a, q, b, rfl, h1, h2, h3, h4, ?_⟩
    have hA : (a ++ q :: b).filter (fun q => decide (q.2 < x)) = a := filt_ahead (m := [q]) h1 (fun y hy => by have e := List.mem_singleton.mp hy; rw [e]; omega) fun y hy => by have := h4 y hy; have := hge y (by simp [hy]); omega
    have hB : (a ++ q :: b).filter (fun q => decide (x < q.1)) = b := filt_behind (m := [q]) (fun y hy => by have := h1 y hy; have := hge y (by simp [hy]); omega) (fun y hy => by have e := List.mem_singleton.mp hy; rw [e]; omega) h4
    have hg : (a ++ q :: b).getD a.length (0, 0) = q := by simp
    unfold flipR
    rw [if_neg hx0]
    dsimp only
    rw [hA, hB, hg, if_pos (by simp), List.append_assoc]
  · refine .inr ⟨a, b, rfl, h1, h4, ?_⟩
    have hA : (a ++ b).filter (fun q => decide (q.2 < x)) = a := filt_ahead (m := []) h1 (fun y hy => nomatch hy) fun y hy => by have := h4 y hy; have := hge y (by simp [hy]); omega
    have hB : (a ++ b).filter (fun q => decide (x < q.1)) = b := filt_behind (m := []) (fun y hy => by have := h1 y hy; have := hge y (by simp [hy]); omega) (fun y hy => nomatch hy) h4
    unfold flipR
    rw [if_neg hx0]
    dsimp only
    rw [hA, hB, if_neg (by simp), List.append_assoc]
    rfl
/-- a row's last place does not grow beyond the coin -/
theorem flip_top {r : RowT} {x T : Int} (ok : okF 1 r = true) (hx : 0 ≤ x) (hT : ∀ q ∈ r, q.2 ≤ T) (hxT : x ≤ T) : ∀ q ∈ flipR r x, q.2 ≤ T := by
  by_cases h0 : x = 0
  · subst h0
    simpa [flipR] using hT
  · obtain ⟨o, hm, _⟩ := flip_spec ok (show 1 ≤ x by omega)
    intro q hq
    have hg := okF_ge o hq
    have h1 : memR (flipR r x) q.2 := ⟨q, hq, hg.2, Int.le_refl _⟩
    rw [hm] at h1
    by_cases e : q.2 = x
    · omega
    · obtain ⟨y, hy, _, z⟩ := h1.mpr e
      have := hT y hy
      omega
theorem flip_ok1 {r : RowT} {x : Int} (ok : okF 1 r = true) (hx : 0 ≤ x) : okF 1 (flipR r x) = true ∧ (flipR r x).length ≤ r.length + 1 := by
  by_cases h0 : x = 0
  · subst h0
    simpa [flipR] using ok
  · have := flip_spec ok (show 1 ≤ x by omega)
    exact ⟨this.1, this.2.2⟩
theorem turned_over_ok {d : D} {r : RowT} {x : Int} (h : HR d r) (ok : okF 1 r = true) (hl : r.length ≤ 1000) (hx : 0 ≤ x) : mf_turned_over [.val d, .val (.int x)] = some (.own ((flipR r x).map pairD), [.un, .un]) := by
  have e1 := given_row_ok h ok (by omega)
  have e2 := flipped_ok r x hl
  have e3 : mf_check_place [.val (.int x), .val (.int 0)] = some (.val .none, [.un, .un]) := by
    simp [mf_check_place, mb_check_place, is_whole_int, hx]
  simp only [dRow] at e2
  simp [mf_turned_over, mb_turned_over, e1, e2, e3]
end PR
namespace LA
open PySem L2 Dn PR LB
structure OS where
  fd : RowT
  lo : Int
  hi : Int
  ins : Bool
def stepO (x : Int) (s : OS) (q : Int × Int) : OS :=
  if q.1 ≤ x ∧ x ≤ q.2 then ⟨s.fd ++ partsR q x, s.lo, s.hi, true⟩
  else if q.2 = x - 1 then ⟨s.fd, q.1, s.hi, s.ins⟩
  else if q.1 = x + 1 then ⟨s.fd, s.lo, q.2, s.ins⟩
  else ⟨s.fd ++ [q], s.lo, s.hi, s.ins⟩
def overL (r : RowT) (x : Int) : RowT := if x = 0 then r else
  let s := r.foldl (stepO x) ⟨[], x, x, false⟩
  if s.ins = true then sortP s.fd else sortP (s.fd ++ [(s.lo, s.hi)])
theorem fold_same {x : Int} {l : RowT} (h : ∀ q ∈ l, ¬ (q.1 ≤ x ∧ x ≤ q.2) ∧ q.2 ≠ x - 1 ∧ q.1 ≠ x + 1) : ∀ s : OS, l.foldl (stepO x) s = ⟨s.fd ++ l, s.lo, s.hi, s.ins⟩ := by
  induction l with
  | nil => intro s; simp
  | cons q l ih =>
    intro s
    have hq := h q List.mem_cons_self
    rw [List.foldl_cons, ih fun y hy => h y (List.mem_cons_of_mem _ hy)]
    simp [stepO, hq.1, hq.2.1, hq.2.2]
theorem over_eq {r : RowT} {x : Int} (ok : okF 1 r = true) (hx : 0 ≤ x) : overL r x = flipR r x := by
  by_cases h0 : x = 0
  · subst h0
    simp [overL, flipR]
  · have hx1 : 1 ≤ x := by omega
    obtain ⟨fo, _, _⟩ := flip_spec ok hx1
    have hge : ∀ y ∈ r, 1 ≤ y.1 ∧ y.1 ≤ y.2 := fun y hy => okF_ge ok hy
    unfold overL
    rw [if_neg h0]
    have fin : ∀ L : RowT, L.Perm (flipR r x) → sortP L = flipR r x := fun L p => (sortP_uniq p.symm (sepF_sorted (sepF_ok fo))).symm
    rcases flip_cases ok hx1 with ⟨a, q, b, rfl, h1, h2, h3, h4, e⟩ | ⟨a, b, rfl, h1, h4, e⟩
    · rw [okF_app, okF_cons] at ok
      have ha : ∀ y ∈ a, ¬ (y.1 ≤ x ∧ x ≤ y.2) ∧ y.2 ≠ x - 1 ∧ y.1 ≠ x + 1 := fun y hy => by
        have z1 := h1 y hy
        have z2 := hge y (by simp [hy])
        have z3 : y.2 + 2 ≤ q.1 := by
          obtain ⟨l1, l2, rfl⟩ := List.append_of_mem hy
          have o1 := ok.1
          have n1 := ok.2.1
          rw [okF_app, okF_cons] at o1
          rw [nextF_app] at n1
          have := nextF_ge o1.2.2.2
          have n2 : nextF (y.2 + 2) l2 ≤ q.1 := n1
          omega
        omega
      have hb : ∀ y ∈ b, ¬ (y.1 ≤ x ∧ x ≤ y.2) ∧ y.2 ≠ x - 1 ∧ y.1 ≠ x + 1 := fun y hy => by
        have z1 := h4 y hy
        have z2 := hge y (by simp [hy])
        have z3 := okF_ge ok.2.2.2 hy
        omega
      have ef : (a ++ q :: b).foldl (stepO x) ⟨[], x, x, false⟩ = ⟨a ++ partsR q x ++ b, x, x, true⟩ := by
        rw [List.foldl_append, fold_same ha, List.foldl_cons]
        have es : stepO x ⟨[] ++ a, x, x, false⟩ q = ⟨a ++ partsR q x, x, x, true⟩ := by simp [stepO, h2, h3]
        rw [es, fold_same hb]
      dsimp only
      rw [ef]
      dsimp only
      rw [if_pos rfl]
      refine fin _ ?_
      rw [e, List.append_assoc]
    · rw [okF_app] at ok
      -- ahead
      have hA : ∃ pre f, preF a x = (f, pre) ∧ ∀ s : OS, s.lo = x → a.foldl (stepO x) s = ⟨s.fd ++ pre, f, s.hi, s.ins⟩ := by
        rcases List.eq_nil_or_concat a with rfl | ⟨a', q, rfl⟩
        · exact ⟨[], x, rfl, fun s hs => by simp [← hs]⟩
        · rw [List.concat_eq_append] at *
          have o1 := ok.1
          rw [okF_app, okF_cons] at o1
          have hq := h1 q (by simp)
          have ha : ∀ y ∈ a', ¬ (y.1 ≤ x ∧ x ≤ y.2) ∧ y.2 ≠ x - 1 ∧ y.1 ≠ x + 1 := fun y hy => by
            have z1 := h1 y (by simp [hy])
            have z2 := hge y (by simp [hy])
            have z3 : y.2 + 2 ≤ q.1 := by
              obtain ⟨l1, l2, rfl⟩ := List.append_of_mem hy
              have p1 := o1.1
              have n1 := o1.2.1
              rw [okF_app, okF_cons] at p1
              rw [nextF_app] at n1
              have := nextF_ge p1.2.2.2
              have n2 : nextF (y.2 + 2) l2 ≤ q.1 := n1
              omega
            have z4 := hge q (by simp)
            omega
          by_cases c : q.2 = x - 1
          · refine ⟨a', q.1, by simp [preF, c], fun s hs => ?_⟩
            rw [List.foldl_append, fold_same ha]
            have z : ¬ (q.1 ≤ x ∧ x ≤ q.2) := by omega
            simp [stepO, z, c]
            omega
          · refine ⟨a' ++ [q], x, by simp [preF, c], fun s hs => ?_⟩
            rw [List.foldl_append, fold_same ha]
            have z : ¬ (q.1 ≤ x ∧ x ≤ q.2) := by omega
            have z4 := hge q (by simp)
            have z5 : q.1 ≠ x + 1 := by omega
            simp [stepO, z, c, z5, hs]
      have hB : ∃ post l, postF b x = (l, post) ∧ ∀ s : OS, s.hi = x → b.foldl (stepO x) s = ⟨s.fd ++ post, s.lo, l, s.ins⟩ := by
        cases b with
        | nil => exact ⟨[], x, rfl, fun s hs => by simp [← hs]⟩
        | cons q b' =>
          have o1 := ok.2
          rw [okF_cons] at o1
          have hq := h4 q (by simp)
          have hb : ∀ y ∈ b', ¬ (y.1 ≤ x ∧ x ≤ y.2) ∧ y.2 ≠ x - 1 ∧ y.1 ≠ x + 1 := fun y hy => by
            have z2 := hge y (by simp [hy])
            have z3 := okF_ge o1.2.2 hy
            have z4 := o1.2.1
            omega
          have z4 := hge q (by simp)
          have z : ¬ (q.1 ≤ x ∧ x ≤ q.2) := by omega
          have z6 : q.2 ≠ x - 1 := by omega
          by_cases c : q.1 = x + 1
          · refine ⟨b', q.2, by simp [postF, c], fun s hs => ?_⟩
            have es : stepO x s q = ⟨s.fd, s.lo, q.2, s.ins⟩ := by
              unfold stepO
              rw [if_neg z, if_neg z6, if_pos c]
            rw [List.foldl_cons, es, fold_same hb]
          · refine ⟨q :: b', x, by simp [postF, c], fun s hs => ?_⟩
            have es : stepO x s q = ⟨s.fd ++ [q], s.lo, s.hi, s.ins⟩ := by
              unfold stepO
              rw [if_neg z, if_neg z6, if_neg c]
            rw [List.foldl_cons, es, fold_same hb]
            simp [hs]
      obtain ⟨pre, f, e1, f1⟩ := hA
      obtain ⟨post, l, e2, f2⟩ := hB
      have ef : (a ++ b).foldl (stepO x) ⟨[], x, x, false⟩ = ⟨pre ++ post, f, l, false⟩ := by
        rw [List.foldl_append, f1 _ rfl, f2 _ rfl]
        simp
      dsimp only
      rw [ef]
      dsimp only
      rw [if_neg (by decide)]
      refine fin _ ?_
      rw [e, e1, e2, List.append_assoc]
      exact List.Perm.append_left pre (List.perm_append_comm (l₁ := post) (l₂ := [(f, l)]))
end LA

namespace LA
open PySem L2 Dn PR LB
def turnO : MS := (mIfS (mB (mChain (fun i j => decide (i ≤ j)) (fun i j => decide (i ≤ j)) (mVar 6) (mVar 1) (mVar 7))) (mSeq (mAsg (fun _ => false) 5 (mC (.bool true))) (mAsg (fun _ => false) 2 (mBin fAdd (mBin fAdd (mVar 2) (mBin fMul (mLst (mCons (mTup (mCons (mVar 6) (mCons (mBin (fI (fun _ _ => true) fun i j => i - j) (mVar 1) (mC (.int 1))) (mNil)))) (mNil))) (mFn fInt (mCons (mBin (fB fun i j => decide (i < j)) (mVar 6) (mVar 1)) (mNil))))) (mBin fMul (mLst (mCons (mTup (mCons (mBin fAdd (mVar 1) (mC (.int 1))) (mCons (mVar 7) (mNil)))) (mNil))) (mFn fInt (mCons (mBin (fB fun i j => decide (i < j)) (mVar 1) (mVar 7)) (mNil))))))) (mIfS (mB (mBin (fEq false) (mVar 7) (mBin (fI (fun _ _ => true) fun i j => i - j) (mVar 1) (mC (.int 1))))) (mAsg (fun _ => false) 3 (mVar 6)) (mIfS (mB (mBin (fEq false) (mVar 6) (mBin fAdd (mVar 1) (mC (.int 1))))) (mAsg (fun _ => false) 4 (mVar 7)) (mExpr (mMeth 2 fApp (mCons (mTup (mCons (mVar 6) (mCons (mVar 7) (mNil)))) (mNil)))))))
def frO (r : RowT) (x : Int) (s : OS) (s6 s7 : Sl) : List Sl := [.val (dRow r), .val (.int x), .own (s.fd.map pairD), .val (.int s.lo), .val (.int s.hi), .val (.bool s.ins), s6, s7]
theorem turnO_ok (r : RowT) (x : Int) (s : OS) (q : Int × Int) (hz : s.fd.length ≤ 10000) (s6 s7 : Sl) :
    ∃ ρ1, mgL (fun _ => false) [6, 7] (pairD q) (frO r x s s6 s7) = some ρ1 ∧ turnO ρ1 = some (.nx (frO r x (stepO x s q) (.val (.int q.1)) (.val (.int q.2)))) := by
  have z0 : s.fd.length < sizeLine := sizeL (by omega)
  have z1 : s.fd.length + 1 ≤ sizeLine := sizeN (by omega)
  have z2 : s.fd.length + 1 + 1 ≤ sizeLine := sizeN (by omega)
  have z3 : s.fd.length ≤ sizeLine := sizeN (by omega)
  refine ⟨[.val (dRow r), .val (.int x), .own (s.fd.map pairD), .val (.int s.lo), .val (.int s.hi), .val (.bool s.ins), .val (.int q.1), .val (.int q.2)], by simp [frO, pairD], ?_⟩
  unfold turnO frO stepO
  by_cases h1 : q.1 ≤ x
  · by_cases h2 : x ≤ q.2
    · by_cases h3 : q.1 < x <;> by_cases h4 : x < q.2
      · have h5 : q.1 ≤ x - 1 := by omega
        have h6 : x + 1 ≤ q.2 := by omega
        simp [h1, h2, h3, h4, h5, h6, partsR, List.filter, z1, z2, z3, sizeN, pairD]
      · have h5 : q.1 ≤ x - 1 := by omega
        have h6 : ¬ x + 1 ≤ q.2 := by omega
        simp [h1, h2, h3, h4, h5, h6, partsR, List.filter, z1, z2, z3, sizeN, pairD]
      · have h5 : ¬ q.1 ≤ x - 1 := by omega
        have h6 : x + 1 ≤ q.2 := by omega
        simp [h1, h2, h3, h4, h5, h6, partsR, List.filter, z1, z2, z3, sizeN, pairD]
      · have h5 : ¬ q.1 ≤ x - 1 := by omega
        have h6 : ¬ x + 1 ≤ q.2 := by omega
        simp [h1, h2, h3, h4, h5, h6, partsR, List.filter, z1, z2, z3, sizeN, pairD]
    · by_cases h3 : q.2 = x - 1
      · have h2' : ¬ x ≤ x - 1 := by omega
        simp [h1, h2', h3, shaped_int, eqv_int]
      · by_cases h4 : q.1 = x + 1
        · omega
        · simp [h1, h2, h3, h4, shaped_int, eqv_int, z0, sizeN, pairD]
  · by_cases h3 : q.2 = x - 1
    · simp [h1, h3, shaped_int, eqv_int]
    · by_cases h4 : q.1 = x + 1
      · have h1' : ¬ (x + 1 ≤ x) := by omega
        simp [h1', h3, h4, shaped_int, eqv_int]
      · simp [h1, h3, h4, shaped_int, eqv_int, z0, sizeN, pairD]
theorem stepO_len (x : Int) (s : OS) (q : Int × Int) : (stepO x s q).fd.length ≤ s.fd.length + 2 := by
  unfold stepO
  split
  · have := partsR_len q x
    simp only [List.length_append]
    omega
  · split
    · exact Nat.le_add_right _ _
    · split
      · exact Nat.le_add_right _ _
      · simp
theorem foldO_len (x : Int) : ∀ (l : RowT) (s : OS), (l.foldl (stepO x) s).fd.length ≤ s.fd.length + 2 * l.length
  | [], s => by simp
  | q :: l, s => by
    have h1 := stepO_len x s q
    have h2 := foldO_len x l (stepO x s q)
    simp only [List.foldl_cons, List.length_cons]
    omega
theorem loopO (r : RowT) (x : Int) (hl : r.length ≤ 1000) : ∃ s6 s7, mLoop (mgL (fun _ => false) [6, 7]) turnO (r.map pairD) (frO r x ⟨[], x, x, false⟩ .un .un) = some (.nx (frO r x (r.foldl (stepO x) ⟨[], x, x, false⟩) s6 s7)) := by
  have key := loop_count (g := mgL (fun _ => false) [6, 7]) (b := turnO) pairD
    (fun i ρ => ∃ s6 s7, ρ = frO r x ((r.take i).foldl (stepO x) ⟨[], x, x, false⟩) s6 s7) r 0 (frO r x ⟨[], x, x, false⟩ .un .un) (fun i q ρ hq hW => by
      obtain ⟨s6, s7, rfl⟩ := hW
      simp only [Nat.zero_add]
      have hi := (List.getElem?_eq_some_iff.mp hq).1
      have et : r.take (i + 1) = r.take i ++ [q] := by rw [List.take_add_one, hq]; rfl
      have hlen := foldO_len x (r.take i) ⟨[], x, x, false⟩
      rw [List.length_take] at hlen
      obtain ⟨ρ1, e1, e2⟩ := turnO_ok r x ((r.take i).foldl (stepO x) ⟨[], x, x, false⟩) q (by simp at hlen; omega) s6 s7
      refine ⟨ρ1, _, e1, .inl e2, .val (.int q.1), .val (.int q.2), ?_⟩
      rw [et, List.foldl_append]
      rfl) ⟨.un, .un, rfl⟩
  obtain ⟨ρ', e, s6, s7, rfl⟩ := key
  refine ⟨s6, s7, ?_⟩
  rw [Nat.zero_add, List.take_length] at e
  exact e
theorem over_mirror (r : RowT) (x : Int) (hl : r.length ≤ 1000) : mf__law_over [.val (dRow r), .val (.int x)] = some (.own ((overL r x).map pairD), [.un, .un]) := by
  by_cases h0 : x = 0
  · subst h0
    simp [mf__law_over, mb__law_over, shaped_int, eqv_int, overL, dRow]
  · obtain ⟨s6, s7, e⟩ := loopO r x hl
    have hlen := foldO_len x r ⟨[], x, x, false⟩
    unfold overL
    rw [if_neg h0]
    dsimp only
    generalize r.foldl (stepO x) ⟨[], x, x, false⟩ = s at e hlen ⊢
    have z1 : s.fd.length + 1 ≤ sizeLine := sizeN (by simp at hlen; omega)
    have p1 := sort_pairs s.fd
    have p2 := sort_pairs (s.fd ++ [(s.lo, s.hi)])
    unfold turnO at e
    simp only [frO, List.map_nil, dRow] at e
    simp only [List.map_append, List.map_cons, List.map_nil, pairD] at p2
    have p3 : fSortA [.own (s.fd.map pairD ++ [PyData.tuple [.int s.lo, .int s.hi]])] = some (.own ((sortP (s.fd ++ [(s.lo, s.hi)])).map pairD)) := p2
    cases hs : s.ins <;> rw [hs] at e <;> simp [mf__law_over, mb__law_over, shaped_int, eqv_int, h0, dRow, sizeN, e, -mLoop, p1, p3, -fSortA, z1, hs, pairD]
theorem over_ok {r : RowT} {x : Int} (ok : okF 1 r = true) (hl : r.length ≤ 1000) (hx : 0 ≤ x) : mf__law_over [.val (dRow r), .val (.int x)] = some (.own ((flipR r x).map pairD), [.un, .un]) := by
  rw [over_mirror r x hl, over_eq ok hx]
end LA

namespace Dn
open PySem L2
/-! ### the text of a row -/
def okS (x : Str) : Prop := PyData.canLay0 (.str x) = true
theorem okS_iff {x : Str} : okS x ↔ ∀ c ∈ x.cps.toList, c < 1114112 := by
  show x.cps.all (· < 0x110000) = true ↔ _
  rw [← Array.all_toList, List.all_eq_true]
  exact ⟨fun h c hc => of_decide_eq_true (h c hc), fun h c hc => decide_eq_true (h c hc)⟩
theorem okS_app {x y : Str} (h : okS x) (h2 : okS y) : okS (x ++ y) := by
  rw [okS_iff] at *
  intro c hc
  have e : (x ++ y).cps.toList = x.cps.toList ++ y.cps.toList := Array.toList_append
  rw [e] at hc
  exact (List.mem_append.mp hc).elim (h c) (h2 c)
theorem okS_of (s : String) : okS (Str.ofString s) := by
  rw [okS_iff, Str.ofString_eq_toList]
  intro c hc
  have e : ((⟨(s.toList.map Char.toNat).toArray⟩ : Str).cps.toList) = s.toList.map Char.toNat := rfl
  rw [e] at hc
  obtain ⟨ch, _, rfl⟩ := List.mem_map.mp hc
  have := ch.valid
  have h2 : ch.toNat < 1114112 := by
    rcases this with h | h
    · exact Nat.lt_trans h (by decide)
    · exact h.2
  exact h2
theorem okS_from : ∀ (ts : List Str) (k : Nat) (acc : Str), okS acc → (∀ t ∈ ts, okS t) → okS (textFrom k acc ts)
  | [], _, _, h, _ => h
  | t :: ts, k, acc, h, ht => okS_from ts (k + 1) _ (okS_app (okS_app h (okS_of _)) (ht t List.mem_cons_self)) fun x hx => ht x (List.mem_cons_of_mem _ hx)
theorem okS_join (sep : Str) (hs : okS sep) : ∀ (ts : List Str), (∀ t ∈ ts, okS t) → okS (Str.join sep ts)
  | [], _ => okS_of ""
  | [t], h => h t List.mem_cons_self
  | t :: u :: ts, h => okS_app (okS_app (h t List.mem_cons_self) hs) (okS_join sep hs (u :: ts) fun x hx => h x (List.mem_cons_of_mem _ hx))
theorem okS_list {ts : List Str} (h : ∀ t ∈ ts, okS t) : okS (listText ts) := okS_app (okS_from ts 0 _ (okS_of _) h) (okS_of _)
theorem okS_tuple {ts : List Str} (h : ∀ t ∈ ts, okS t) : okS (tupleText ts) := by
  unfold tupleText
  exact okS_app (okS_app (okS_of _) (okS_join _ (okS_of _) ts h)) (by split <;> exact okS_of _)
theorem shown_all {ds : List D} (h : ∀ d ∈ ds, okS d.shown) : ∀ t ∈ PyData.shownAll ds, okS t := by
  induction ds with
  | nil => intro t ht; cases ht
  | cons d ds ih =>
    intro t ht
    have e : PyData.shownAll (d :: ds) = d.shown :: PyData.shownAll ds := rfl
    rw [e] at ht
    rcases List.mem_cons.mp ht with rfl | ht
    · exact h d List.mem_cons_self
    · exact ih (fun x hx => h x (List.mem_cons_of_mem _ hx)) t ht
/-- what repr tells well, at most w heavy -/
structure Shw (n w : Nat) (d : D) : Prop where
  lay : PyData.canLay0 d = true
  show_ : PyData.showable d = true
  dep : PyData.depth d ≤ n
  leaf : PyData.leavesShort 64 d = true
  wt : PyData.weight d ≤ w
  txt : okS d.shown
structure ShwA (n w : Nat) (ds : List D) : Prop where
  lay : PyData.canLayAll0 ds = true
  show_ : PyData.showableAll ds = true
  dep : PyData.depthAll ds ≤ n
  leaf : PyData.leavesShortAll 64 ds = true
  wt : PyData.weightAll ds ≤ (w + 1) * ds.length
  txt : ∀ d ∈ ds, okS d.shown
theorem ShwA.mk' {n w : Nat} : ∀ {ds : List D}, (∀ d ∈ ds, Shw n w d) → ShwA n w ds
  | [], _ => ⟨rfl, rfl, by simp [PyData.depthAll], rfl, by simp [PyData.weightAll], fun d h => nomatch h⟩
  | d :: ds, h => by
    have h1 := h d List.mem_cons_self
    have h2 := ShwA.mk' fun x hx => h x (List.mem_cons_of_mem _ hx)
    refine ⟨?_, ?_, ?_, ?_, ?_, ?_⟩
    · show (PyData.canLay0 d && PyData.canLayAll0 ds) = true
      rw [h1.lay, h2.lay]; rfl
    · show (PyData.showable d && PyData.showableAll ds) = true
      rw [h1.show_, h2.show_]; rfl
    · have := h1.dep; have := h2.dep
      simp only [PyData.depthAll]; omega
    · simp only [PyData.leavesShortAll, h1.leaf, h2.leaf, Bool.and_self]
    · have := h1.wt; have := h2.wt
      simp only [PyData.weightAll, List.length_cons]
      rw [Nat.mul_succ]
      omega
    · intro x hx
      rcases List.mem_cons.mp hx with rfl | hx
      · exact h1.txt
      · exact h2.txt x hx
theorem Shw.list {n w : Nat} {ds : List D} (h : ∀ d ∈ ds, Shw n w d) : Shw (n + 1) ((w + 1) * ds.length) (.list ds) := by
  have a := ShwA.mk' h
  exact ⟨a.lay, a.show_, by have := a.dep; simp only [PyData.depth]; omega, by simp only [PyData.leavesShort]; exact a.leaf, by simp only [PyData.weight]; exact a.wt, by simp only [PyData.shown]; exact okS_list (shown_all a.txt)⟩
theorem Shw.tuple {n w : Nat} {ds : List D} (h : ∀ d ∈ ds, Shw n w d) : Shw (n + 1) ((w + 1) * ds.length) (.tuple ds) := by
  have a := ShwA.mk' h
  exact ⟨a.lay, a.show_, by have := a.dep; simp only [PyData.depth]; omega, by simp only [PyData.leavesShort]; exact a.leaf, by simp only [PyData.weight]; exact a.wt, by simp only [PyData.shown]; exact okS_tuple (shown_all a.txt)⟩
theorem Shw.up {n m w u : Nat} {d : D} (h : Shw n w d) (hn : n ≤ m) (hw : w ≤ u) : Shw m u d := ⟨h.lay, h.show_, Nat.le_trans h.dep hn, h.leaf, Nat.le_trans h.wt hw, h.txt⟩
theorem Shw.ok {n w : Nat} {d : D} (h : Shw n w d) (hn : n ≤ 40) (hw : w ≤ 200000) : reprOk d = true ∧ SeqAt.shaped (.str d.shown) = true := by
  have hl := PyData.shown_le 64 (by decide) d h.leaf
  have hs : d.shown.length ≤ sizeLine := by
    have e : sizeLine = 16777216 := by decide
    have := h.wt
    rw [e]
    omega
  constructor
  · unfold reprOk
    rw [h.lay, h.show_, decide_eq_true (Nat.le_trans h.dep hn), decide_eq_true hs]
    rfl
  · exact Shp.shaped (n := 0) ⟨h.txt, by simp [PyData.depth]⟩ (by decide)
open LB in
theorem Shw.int {i : Int} (h0 : 0 ≤ i) (h : i ≤ tenP 41) : Shw 0 400 (.int i) := by
  have h2 : i < 2 ^ 400 := Int.lt_of_le_of_lt h (by unfold tenP; decide +kernel)
  have hlog := log2_small h0 h2 (by decide)
  have h10 : i.natAbs < 10 ^ 60 := by
    have e : (i.natAbs : Int) = i := Int.natAbs_of_nonneg h0
    have h4 : tenP 41 < ((10 ^ 60 : Nat) : Int) := by unfold tenP; decide +kernel
    have h5 : (i.natAbs : Int) < ((10 ^ 60 : Nat) : Int) := by rw [e]; exact Int.lt_of_le_of_lt h h4
    exact Int.ofNat_lt.mp h5
  refine ⟨rfl, ?_, by simp [PyData.depth], ?_, ?_, okS_of _⟩
  · simp only [PyData.showable, decide_eq_true_eq]
    omega
  · have hlen := int_text_length_le10 (k := 60) (by decide) h10
    have e2 : (PyData.shown (.int i)).length ≤ 64 := by
      show (Str.ofString (toString i)).length ≤ 64
      rw [ofString_length]
      omega
    simp only [PyData.leavesShort, decide_eq_true_eq]
    exact e2
  · simp only [PyData.weight]
    split <;> omega
end Dn
namespace LA
open PySem L2 Dn PR LB
theorem two_all {P : D → Prop} {a b : D} (ha : P a) (hb : P b) : ∀ d ∈ [a, b], P d := fun d hd => by
  rcases List.mem_cons.mp hd with rfl | hd
  · exact ha
  · rw [List.mem_singleton.mp hd]
    exact hb
theorem shw_item {d : D} {q : Int × Int} (h : HP d q) (h1 : 0 ≤ q.1) (h2 : q.1 ≤ q.2) (h3 : q.2 ≤ tenP 41) : Shw 1 802 d := by
  have s1 : Shw 0 400 (.int q.1) := Shw.int h1 (by omega)
  have s2 : Shw 0 400 (.int q.2) := Shw.int (by omega) h3
  rcases h.shape with rfl | rfl
  · exact Shw.tuple (two_all s1 s2)
  · exact Shw.list (two_all s1 s2)
theorem shw_items : ∀ {ds : List D} {r : RowT}, HA ds r → (∀ q ∈ r, 0 ≤ q.1 ∧ q.1 ≤ q.2 ∧ q.2 ≤ tenP 41) → ∀ d ∈ ds, Shw 1 802 d
  | _, _, .nil, _, d, hd => nomatch hd
  | _, _, .cons h t, hq, d, hd => by
    rcases List.mem_cons.mp hd with rfl | hd
    · have := hq _ List.mem_cons_self
      exact shw_item h this.1 this.2.1 this.2.2
    · exact shw_items t (fun q hq' => hq q (List.mem_cons_of_mem _ hq')) d hd
theorem shw_row {d : D} {r : RowT} (h : HR d r) (hl : r.length ≤ 100) (hq : ∀ q ∈ r, 0 ≤ q.1 ∧ q.1 ≤ q.2 ∧ q.2 ≤ tenP 41) : Shw 2 80300 d := by
  cases h with
  | t ha =>
    have := ha.len
    exact (Shw.tuple (shw_items ha hq)).up (by omega) (by omega)
  | l ha =>
    have := ha.len
    exact (Shw.list (shw_items ha hq)).up (by omega) (by omega)
/-- repr of a row as it is handed in: some text -/
theorem repr_row {d : D} {r : RowT} (h : HR d r) (hl : r.length ≤ 100) (hq : ∀ q ∈ r, 0 ≤ q.1 ∧ q.1 ≤ q.2 ∧ q.2 ≤ tenP 41) : ∃ t : Str, fRepr [.val d] = some (.val (.str t)) ∧ SeqAt.shaped (.str t) = true := by
  obtain ⟨h1, h2⟩ := (shw_row h hl hq).ok (by omega) (by omega)
  refine ⟨d.shown, ?_, h2⟩
  cases h with
  | t ha => exact if_pos h1
  | l ha => exact if_pos h1
theorem Strip.places {r : RowT} (h : Strip r) : ∀ q ∈ r, 0 ≤ q.1 ∧ q.1 ≤ q.2 ∧ q.2 ≤ tenP 41 := fun q hq => by
  have h1 := okF_ge h.ok hq
  have h2 := h.top q hq
  have h3 : tenP 40 ≤ tenP 41 := by unfold tenP; decide +kernel
  omega
end LA

namespace PR
open PySem L2 Dn
/-! ### a row turned about -/
def lastE (r : RowT) : Int := match r.getLast? with
  | some q => q.2
  | none => 0
theorem last_of_ok (r : RowT) : mf_last_of [.val (dRow r)] = some (.val (.int (lastE r)), [.un]) := by
  unfold lastE dRow
  cases hg : r.getLast? with
  | none =>
    have hnil : r = [] := by simpa using hg
    subst hnil
    simp [mf_last_of, mb_last_of]
  | some q =>
    have hne : (r.map pairD).isEmpty = false := by
      cases r with
      | nil => cases hg
      | cons a r => rfl
    have hat : atI (r.map pairD) (-1) = some (pairD q) := atI_end (by rw [map_getLast, hg]; rfl)
    simp [mf_last_of, mb_last_of, hne, hat, pairD, atI_1, -List.isEmpty_map]
theorem last_of_own (r : RowT) : mf_last_of [.own (r.map pairD)] = some (.val (.int (lastE r)), [.un]) := by
  unfold lastE
  cases hg : r.getLast? with
  | none =>
    have hnil : r = [] := by simpa using hg
    subst hnil
    simp [mf_last_of, mb_last_of]
  | some q =>
    have hne : (r.map pairD).isEmpty = false := by
      cases r with
      | nil => cases hg
      | cons a r => rfl
    have hat : atI (r.map pairD) (-1) = some (pairD q) := atI_end (by rw [map_getLast, hg]; rfl)
    simp [mf_last_of, mb_last_of, hne, hat, pairD, atI_1, -List.isEmpty_map]
theorem check_places_ok {r : RowT} {n : Int} (hn : lastE r ≤ n) : mf_check_places [.val (.int n), .val (dRow r)] = some (.val .none, [.un, .un]) := by
  have e2 := last_of_ok r
  simp [mf_check_places, mb_check_places, e2, is_whole_int, hn]
/-- the gaps of a row from a place on -/
def gaps : Int → RowT → RowT
  | _, [] => []
  | f, q :: r => (if f < q.1 then [(f, q.1 - 1)] else []) ++ gaps (q.2 + 1) r
def lowR : Int → RowT → Int
  | f, [] => f
  | _, q :: r => lowR (q.2 + 1) r
def allGaps (r : RowT) (n : Int) : RowT := gaps 1 r ++ (if lowR 1 r ≤ n then [(lowR 1 r, n)] else [])
def mateS (n : Int) (g : Int × Int) : Int × Int := (n + 1 - g.2, n + 1 - g.1)
def aboutR (r : RowT) (n : Int) : RowT := ((allGaps r n).reverse).map (mateS n)
def stepA (n : Int) (s : RowT × Int) (q : Int × Int) : RowT × Int := (if s.2 < q.1 then s.1 ++ [(n + 2 - q.1, n + 1 - s.2)] else s.1, q.2 + 1)
theorem foldA (n : Int) : ∀ (r : RowT) (a : RowT) (f : Int), r.foldl (stepA n) (a, f) = (a ++ (gaps f r).map (mateS n), lowR f r)
  | [], a, f => by simp [gaps, lowR]
  | q :: r, a, f => by
    rw [List.foldl_cons]
    have ih := foldA n r (if f < q.1 then a ++ [(n + 2 - q.1, n + 1 - f)] else a) (q.2 + 1)
    show r.foldl (stepA n) (if f < q.1 then a ++ [(n + 2 - q.1, n + 1 - f)] else a, q.2 + 1) = _
    rw [ih]
    by_cases h : f < q.1
    · have e : n + 2 - q.1 = n + 1 - (q.1 - 1) := by omega
      simp [gaps, lowR, h, mateS, e]
    · simp [gaps, lowR, h]
theorem aboutA (r : RowT) (n : Int) : ((r ++ [(n + 1, n + 1)]).foldl (stepA n) ([], 1)).1.reverse = aboutR r n := by
  rw [List.foldl_append, foldA n r [] 1]
  unfold aboutR allGaps
  by_cases h : lowR 1 r ≤ n
  · have h2 : lowR 1 r < n + 1 := by omega
    have e : n + 2 - (n + 1) = n + 1 - n := by omega
    simp [stepA, h, h2, mateS, e]
  · have h2 : ¬ lowR 1 r < n + 1 := by omega
    simp [stepA, h, h2]
def turnA : MS := (mSeq (mIfS (mB (mBin (fB fun i j => decide (i < j)) (mVar 4) (mVar 5))) (mExpr (mMeth 3 fApp (mCons (mTup (mCons (mBin (fI (fun _ _ => true) fun i j => i - j) (mBin fAdd (mVar 1) (mC (.int 2))) (mVar 5)) (mCons (mBin (fI (fun _ _ => true) fun i j => i - j) (mBin fAdd (mVar 1) (mC (.int 1))) (mVar 4)) (mNil)))) (mNil)))) (mNext)) (mAsg (fun _ => false) 4 (mBin fAdd (mVar 6) (mC (.int 1)))))
theorem stepA_len (n : Int) (s : RowT × Int) (q : Int × Int) : (stepA n s q).1.length ≤ s.1.length + 1 := by
  unfold stepA
  by_cases h : s.2 < q.1 <;> simp [h]
theorem foldA_len (n : Int) : ∀ (l : RowT) (s : RowT × Int), (l.foldl (stepA n) s).1.length ≤ s.1.length + l.length
  | [], s => by simp
  | q :: l, s => by
    have h1 := stepA_len n s q
    have h2 := foldA_len n l (stepA n s q)
    simp only [List.foldl_cons, List.length_cons]
    omega
theorem loopA (s0 s2 s5 s6 : Sl) (n : Int) (l : RowT) (hl : l.length ≤ 10000) : ∃ t5 t6, mLoop (mgL (fun _ => false) [5, 6]) turnA (l.map pairD) [s0, .val (.int n), s2, .own [], .val (.int 1), s5, s6]
    = some (.nx [s0, .val (.int n), s2, .own ((l.foldl (stepA n) ([], 1)).1.map pairD), .val (.int (l.foldl (stepA n) ([], 1)).2), t5, t6]) := by
  have key := loop_count (g := mgL (fun _ => false) [5, 6]) (b := turnA) pairD
    (fun i ρ => ∃ t5 t6, ρ = [s0, .val (.int n), s2, .own (((l.take i).foldl (stepA n) ([], 1)).1.map pairD), .val (.int ((l.take i).foldl (stepA n) ([], 1)).2), t5, t6]) l 0
    [s0, .val (.int n), s2, .own [], .val (.int 1), s5, s6] (fun i q ρ hq hW => by
      obtain ⟨t5, t6, rfl⟩ := hW
      simp only [Nat.zero_add]
      have hi := (List.getElem?_eq_some_iff.mp hq).1
      have et : l.take (i + 1) = l.take i ++ [q] := by rw [List.take_add_one, hq]; rfl
      have hlen := foldA_len n (l.take i) ([], 1)
      rw [List.length_take] at hlen
      rw [et, List.foldl_append]
      simp only [List.foldl_cons, List.foldl_nil]
      generalize (l.take i).foldl (stepA n) ([], 1) = s at hlen ⊢
      have hz : s.1.length < sizeLine := sizeL (by simp at hlen; omega)
      refine ⟨[s0, .val (.int n), s2, .own (s.1.map pairD), .val (.int s.2), .val (.int q.1), .val (.int q.2)], [s0, .val (.int n), s2, .own ((stepA n s q).1.map pairD), .val (.int (stepA n s q).2), .val (.int q.1), .val (.int q.2)], by simp [pairD], .inl ?_, _, _, rfl⟩
      by_cases h : s.2 < q.1
      · simp [turnA, stepA, h, hz, sizeN, pairD]
      · simp [turnA, stepA, h]) ⟨s5, s6, rfl⟩
  obtain ⟨ρ', e, t5, t6, rfl⟩ := key
  refine ⟨t5, t6, ?_⟩
  rw [Nat.zero_add, List.take_length] at e
  exact e
theorem about_ok {d : D} {r : RowT} {n : Int} (h : HR d r) (ok : okF 1 r = true) (hl : r.length ≤ 1000) (hn : lastE r ≤ n) : mf_about [.val d, .val (.int n)] = some (.own ((aboutR r n).map pairD), [.un, .un]) := by
  have e1 := given_row_ok h ok (by omega)
  have e2 := check_places_ok hn
  have hz : r.length + 1 ≤ sizeLine := sizeN (by omega)
  obtain ⟨t5, t6, e3⟩ := loopA (.val d) (.val (dRow r)) .un .un n (r ++ [(n + 1, n + 1)]) (by simp; omega)
  have e4 := aboutA r n
  generalize (r ++ [(n + 1, n + 1)]).foldl (stepA n) ([], 1) = s at e3 e4
  rw [← e4]
  unfold turnA at e3
  simp only [dRow, List.map_append, List.map_cons, List.map_nil] at e2 e3
  simp only [pairD] at e3
  simp [mf_about, mb_about, e1, e2, is_whole_int, hn, sizeN, hz, e3, -mLoop]
end PR
namespace LA
open PySem L2 Dn PR LB
def stepB (s : RowT × Int) (q : Int × Int) : RowT × Int := (if q.1 > s.2 then s.1 ++ [(s.2, q.1 - 1)] else s.1, q.2 + 1)
theorem foldB : ∀ (r : RowT) (a : RowT) (f : Int), r.foldl stepB (a, f) = (a ++ gaps f r, lowR f r)
  | [], a, f => by simp [gaps, lowR]
  | q :: r, a, f => by
    rw [List.foldl_cons]
    have ih := foldB r (if f < q.1 then a ++ [(f, q.1 - 1)] else a) (q.2 + 1)
    show r.foldl stepB (if f < q.1 then a ++ [(f, q.1 - 1)] else a, q.2 + 1) = _
    rw [ih]
    by_cases h : f < q.1 <;> simp [gaps, lowR, h]
def turnB : MS := (mSeq (mIfS (mB (mBin (fB fun i j => decide (j < i)) (mVar 4) (mVar 3))) (mExpr (mMeth 2 fApp (mCons (mTup (mCons (mVar 3) (mCons (mBin (fI (fun _ _ => true) fun i j => i - j) (mVar 4) (mC (.int 1))) (mNil)))) (mNil)))) (mNext)) (mAsg (fun _ => false) 3 (mBin fAdd (mVar 5) (mC (.int 1)))))
theorem stepB_len (s : RowT × Int) (q : Int × Int) : (stepB s q).1.length ≤ s.1.length + 1 := by
  unfold stepB
  by_cases h : q.1 > s.2 <;> simp [h]
theorem foldB_len : ∀ (l : RowT) (s : RowT × Int), (l.foldl stepB s).1.length ≤ s.1.length + l.length
  | [], s => by simp
  | q :: l, s => by
    have h1 := stepB_len s q
    have h2 := foldB_len l (stepB s q)
    simp only [List.foldl_cons, List.length_cons]
    omega
theorem loopB (s0 s1 s4 s5 : Sl) (l : RowT) (hl : l.length ≤ 10000) : ∃ t4 t5, mLoop (mgL (fun _ => false) [4, 5]) turnB (l.map pairD) [s0, s1, .own [], .val (.int 1), s4, s5]
    = some (.nx [s0, s1, .own ((l.foldl stepB ([], 1)).1.map pairD), .val (.int (l.foldl stepB ([], 1)).2), t4, t5]) := by
  have key := loop_count (g := mgL (fun _ => false) [4, 5]) (b := turnB) pairD
    (fun i ρ => ∃ t4 t5, ρ = [s0, s1, .own (((l.take i).foldl stepB ([], 1)).1.map pairD), .val (.int ((l.take i).foldl stepB ([], 1)).2), t4, t5]) l 0
    [s0, s1, .own [], .val (.int 1), s4, s5] (fun i q ρ hq hW => by
      obtain ⟨t4, t5, rfl⟩ := hW
      simp only [Nat.zero_add]
      have hi := (List.getElem?_eq_some_iff.mp hq).1
      have et : l.take (i + 1) = l.take i ++ [q] := by rw [List.take_add_one, hq]; rfl
      have hlen := foldB_len (l.take i) ([], 1)
      rw [List.length_take] at hlen
      rw [et, List.foldl_append]
      simp only [List.foldl_cons, List.foldl_nil]
      generalize (l.take i).foldl stepB ([], 1) = s at hlen ⊢
      have hz : s.1.length < sizeLine := sizeL (by simp at hlen; omega)
      refine ⟨[s0, s1, .own (s.1.map pairD), .val (.int s.2), .val (.int q.1), .val (.int q.2)], [s0, s1, .own ((stepB s q).1.map pairD), .val (.int (stepB s q).2), .val (.int q.1), .val (.int q.2)], by simp [pairD], .inl ?_, _, _, rfl⟩
      by_cases h : s.2 < q.1
      · simp [turnB, stepB, h, hz, sizeN, pairD]
      · simp [turnB, stepB, h]) ⟨s4, s5, rfl⟩
  obtain ⟨ρ', e, t4, t5, rfl⟩ := key
  refine ⟨t4, t5, ?_⟩
  rw [Nat.zero_add, List.take_length] at e
  exact e
theorem mates_ok (l : RowT) (n : Int) (s0 s2 s3 s4 s5 : Sl) (hl : l.length ≤ 100000) :
    mComp (miN (mUn fRevSl (mVar 2))) (mgL (fun _ => false) [4, 5]) (mTYes) (mTup (mCons (mBin (fI (fun _ _ => true) fun i j => i - j) (mBin fAdd (mVar 1) (mC (.int 1))) (mVar 5)) (mCons (mBin (fI (fun _ _ => true) fun i j => i - j) (mBin fAdd (mVar 1) (mC (.int 1))) (mVar 4)) (mNil)))) [4, 5]
      [s0, .val (.int n), .own (l.map pairD), s3, s4, s5] = some (.own ((l.reverse.map (mateS n)).map pairD), [s0, .val (.int n), .val (.list (l.map pairD)), s3, .un, .un]) := by
  have e : (l.reverse.map (mateS n)).map pairD = l.reverse.filterMap (fun q => some (pairD (mateS n q))) := by
    rw [List.filterMap_eq_map', List.map_map]
    rfl
  rw [e]
  refine comp_map pairD _ l.reverse (ρ1 := [s0, .val (.int n), .val (.list (l.map pairD)), s3, s4, s5]) (by simp) rfl rfl (fun q hq => ?_) (sizeN (by simpa using hl))
  exact ⟨[s0, .val (.int n), .val (.list (l.map pairD)), s3, .val (.int q.1), .val (.int q.2)], true, _, by simp [pairD], rfl, .inr ⟨rfl, .val (pairD (mateS n q)), _, _, by simp [pairD, mateS, sizeN]; rfl, rfl, rfl, rfl⟩⟩
theorem gaps_len : ∀ (r : RowT) (f : Int), (gaps f r).length ≤ r.length
  | [], f => by simp [gaps]
  | q :: r, f => by
    have := gaps_len r (q.2 + 1)
    unfold gaps
    split <;> simp <;> omega
theorem aboutR_len (r : RowT) (n : Int) : (aboutR r n).length ≤ r.length + 1 := by
  have h := gaps_len r 1
  unfold aboutR allGaps
  split <;> simp <;> omega
theorem law_about_ok (r : RowT) (n : Int) (hl : r.length ≤ 1000) : mf__law_about [.val (dRow r), .val (.int n)] = some (.own ((aboutR r n).map pairD), [.un, .un]) := by
  obtain ⟨t4, t5, e⟩ := loopB (.val (dRow r)) (.val (.int n)) .un .un r (by omega)
  have hg := gaps_len r 1
  rw [foldB] at e
  unfold turnB at e
  simp only [List.nil_append] at e
  have hz : (gaps 1 r).length < sizeLine := sizeL (by omega)
  have m1 := mates_ok (gaps 1 r) n (.val (dRow r)) .un (.val (.int (lowR 1 r))) t4 t5 (by omega)
  have m2 := mates_ok (gaps 1 r ++ [(lowR 1 r, n)]) n (.val (dRow r)) .un (.val (.int (lowR 1 r))) t4 t5 (by simp; omega)
  unfold aboutR allGaps
  simp only [dRow, List.map_append, List.map_cons, List.map_nil] at e m1 m2 ⊢
  simp only [pairD] at m2
  by_cases h : lowR 1 r ≤ n
  · rw [if_pos h]
    simp [mf__law_about, mb__law_about, sizeN, e, -mLoop, h, hz, -mComp_ap, pairD]
    rw [m2]
    simp [pairD]
  · rw [if_neg h, List.append_nil]
    simp [mf__law_about, mb__law_about, sizeN, e, -mLoop, h, hz, -mComp_ap]
    rw [m1]
    simp
end LA

namespace PR
open PySem L2 Dn LB
theorem count_own (r : RowT) (hl : r.length ≤ 100000) : mf_count_heads [.own (r.map pairD)] = some (.val (.int (cnt r)), [.un]) := by
  have key : mComp (miS (mVar 0)) (mgL (fun _ => false) [1, 2]) mTYes (mBin fAdd (mBin (fI (fun _ _ => true) fun i j => i - j) (mVar 2) (mVar 1)) (mC (.int 1))) [1, 2] [.own (r.map pairD), .un, .un] = some (.own ((r.map fun p => p.2 - p.1 + 1).map PyData.int), [.val (dRow r), .un, .un]) := by
    have e : (r.map fun p => p.2 - p.1 + 1).map PyData.int = r.filterMap (fun p => some (PyData.int (p.2 - p.1 + 1))) := by
      rw [List.filterMap_eq_map', List.map_map]
      rfl
    rw [e]
    refine comp_map pairD _ r (ρ1 := [.val (dRow r), .un, .un]) (by simp [dRow]) rfl rfl (fun p hp => ?_) (sizeN hl)
    exact ⟨[.val (dRow r), .val (.int p.1), .val (.int p.2)], true, _, by simp [pairD], rfl, .inr ⟨rfl, .val (.int (p.2 - p.1 + 1)), _, _, by simp; rfl, rfl, rfl, rfl⟩⟩
  simp [mf_count_heads, mb_count_heads, key, -mComp_ap, intsOf_map, cnt, lstI, -List.map_map]
theorem heads_ok {d : D} {r : RowT} (h : HR d r) (ok : okF 1 r = true) (hl : r.length ≤ 1000) : mf_heads [.val d] = some (.val (.int (cnt r)), [.un]) := by
  simp [mf_heads, mb_heads, given_row_ok h ok (by omega), count_own r (by omega)]
theorem last_place_ok {d : D} {r : RowT} (h : HR d r) (ok : okF 1 r = true) (hl : r.length ≤ 1000) : mf_last_place [.val d] = some (.val (.int (lastE r)), [.un]) := by
  simp [mf_last_place, mb_last_place, given_row_ok h ok (by omega), last_of_own r]
theorem check_place_ok {x l : Int} (h : l ≤ x) : mf_check_place [.val (.int x), .val (.int l)] = some (.val .none, [.un, .un]) := by
  simp [mf_check_place, mb_check_place, is_whole_int, h]
theorem shows_ok {d : D} {r : RowT} {x : Int} (h : HR d r) (ok : okF 1 r = true) (hl : r.length ≤ 1000) (hx : 1 ≤ x) : mf_shows [.val d, .val (.int x)] = some (.val (.bool (hasB r x)), [.un, .un]) := by
  have key : mComp (miS (mVar 2)) (mgL (fun _ => false) [3, 4]) (mTYes) (mChain (fun i j => decide (i ≤ j)) (fun i j => decide (i ≤ j)) (mVar 3) (mVar 1) (mVar 4)) [3, 4] [.val d, .val (.int x), .own (r.map pairD), .un, .un]
      = some (.own ((r.map fun q => decide (q.1 ≤ x) && decide (x ≤ q.2)).map PyData.bool), [.val d, .val (.int x), .val (dRow r), .un, .un]) := by
    have e : (r.map fun q => decide (q.1 ≤ x) && decide (x ≤ q.2)).map PyData.bool = r.filterMap (fun q => some (PyData.bool (decide (q.1 ≤ x) && decide (x ≤ q.2)))) := by
      rw [List.filterMap_eq_map', List.map_map]
      rfl
    rw [e]
    refine comp_map pairD _ r (ρ1 := [.val d, .val (.int x), .val (dRow r), .un, .un]) (by simp [dRow]) rfl rfl (fun q hq => ?_) (sizeN (by omega))
    refine ⟨[.val d, .val (.int x), .val (dRow r), .val (.int q.1), .val (.int q.2)], true, _, by simp [pairD], rfl, .inr ⟨rfl, .val (.bool (decide (q.1 ≤ x) && decide (x ≤ q.2))), _, [.val d, .val (.int x), .val (dRow r), .val (.int q.1), .val (.int q.2)], ?_, rfl, rfl, rfl⟩⟩
    by_cases h1 : q.1 ≤ x <;> simp [h1]
  have hany : (r.map fun q => decide (q.1 ≤ x) && decide (x ≤ q.2)).any id = hasB r x := by
    unfold hasB
    rw [List.any_map]
    rfl
  simp only [dRow] at key
  simp [mf_shows, mb_shows, given_row_ok h ok (by omega), check_place_ok hx, -mComp_ap]
  rw [key]
  generalize (r.map fun q => decide (q.1 ≤ x) && decide (x ≤ q.2)) = bs at hany
  have hb : ∀ bs : List Bool, boolsOf (bs.map PyData.bool) = some bs := fun bs => by
    induction bs with
    | nil => rfl
    | cons b bs ih => simp [boolsOf, ih]
  simp [hb, ← hany]
/-- a row's stretches up to a place -/
def toR (r : RowT) (x : Int) : RowT := (r.filter fun q => decide (q.1 ≤ x)).map fun q => (q.1, if x < q.2 then x else q.2)
def cntTo (r : RowT) (x : Int) : Int := cnt (toR r x)
theorem toR_len (r : RowT) (x : Int) : (toR r x).length ≤ r.length := by
  unfold toR
  rw [List.length_map]
  exact List.length_filter_le _ _
theorem heads_to_ok {d : D} {r : RowT} {x : Int} (h : HR d r) (ok : okF 1 r = true) (hl : r.length ≤ 1000) (hx : 0 ≤ x) : mf_heads_to [.val d, .val (.int x)] = some (.val (.int (cntTo r x)), [.un, .un]) := by
  have key : mComp (miS (mVar 2)) (mgL (fun _ => false) [3, 4]) (mB (mBin (fB fun i j => decide (i ≤ j)) (mVar 3) (mVar 1))) (mTup (mCons (mVar 3) (mCons (mFn fMin2 (mCons (mVar 4) (mCons (mVar 1) (mNil)))) (mNil)))) [3, 4] [.val d, .val (.int x), .own (r.map pairD), .un, .un]
      = some (.own ((toR r x).map pairD), [.val d, .val (.int x), .val (dRow r), .un, .un]) := by
    have e : (toR r x).map pairD = r.filterMap (fun q => if q.1 ≤ x then some (pairD (q.1, if x < q.2 then x else q.2)) else none) := by
      clear hl ok h
      unfold toR
      induction r with
      | nil => rfl
      | cons q r ih => by_cases c : q.1 ≤ x <;> simp [c] at ih ⊢ <;> exact ih
    rw [e]
    refine comp_map pairD _ r (ρ1 := [.val d, .val (.int x), .val (dRow r), .un, .un]) (by simp [dRow]) rfl rfl (fun q hq => ?_) (sizeN (by omega))
    refine ⟨[.val d, .val (.int x), .val (dRow r), .val (.int q.1), .val (.int q.2)], decide (q.1 ≤ x), [.val d, .val (.int x), .val (dRow r), .val (.int q.1), .val (.int q.2)], by simp [pairD], by simp, ?_⟩
    by_cases c : q.1 ≤ x
    · exact .inr ⟨by simp [c], .val (pairD (q.1, if x < q.2 then x else q.2)), _, [.val d, .val (.int x), .val (dRow r), .val (.int q.1), .val (.int q.2)], by simp [pairD, sizeN], rfl, by simp [c], rfl⟩
    · exact .inl ⟨by simp [c], by simp [c], rfl⟩
  have hc := count_own (toR r x) (by have := toR_len r x; omega)
  simp only [dRow] at key
  simp [mf_heads_to, mb_heads_to, given_row_ok h ok (by omega), check_place_ok hx, -mComp_ap]
  rw [key]
  simp [hc, cntTo]
/-- the so-manieth head -/
def nthR : RowT → Int → Option Int
  | [], _ => none
  | q :: r, k => if k ≤ q.2 - q.1 + 1 then some (q.1 + k - 1) else nthR r (k - (q.2 - q.1 + 1))
def turnN : MS := (mSeq (mAsg (fun _ => false) 6 (mBin fAdd (mBin (fI (fun _ _ => true) fun i j => i - j) (mVar 5) (mVar 4)) (mC (.int 1)))) (mSeq (mIfS (mB (mBin (fB fun i j => decide (i ≤ j)) (mVar 3) (mVar 6))) (mRet (mBin (fI (fun _ _ => true) fun i j => i - j) (mBin fAdd (mVar 4) (mVar 3)) (mC (.int 1)))) (mNext)) (mAug (fun _ => false) 3 (fun i j => i - j) (mVar 6))))
theorem loopN (s0 s1 s2 : Sl) : ∀ (r : RowT) (k w : Int) (s4 s5 s6 : Sl), nthR r k = some w → ∃ ρ', mLoop (mgL (fun _ => false) [4, 5]) turnN (r.map pairD) [s0, s1, s2, .val (.int k), s4, s5, s6] = some (.rt (.val (.int w)) ρ')
  | [], k, w, s4, s5, s6, h => by cases h
  | q :: r, k, w, s4, s5, s6, h => by
    unfold nthR at h
    have hg : mgL (fun _ => false) [4, 5] (pairD q) [s0, s1, s2, .val (.int k), s4, s5, s6] = some [s0, s1, s2, .val (.int k), .val (.int q.1), .val (.int q.2), s6] := by simp [pairD]
    by_cases c : k ≤ q.2 - q.1 + 1
    · rw [if_pos c] at h
      cases h
      refine ⟨[s0, s1, s2, .val (.int k), .val (.int q.1), .val (.int q.2), .val (.int (q.2 - q.1 + 1))], ?_⟩
      show mLoop _ _ (pairD q :: r.map pairD) _ = _
      unfold mLoop
      rw [hg]
      simp [turnN, c, -mLoop]
    · rw [if_neg c] at h
      obtain ⟨ρ', e⟩ := loopN s0 s1 s2 r (k - (q.2 - q.1 + 1)) w (.val (.int q.1)) (.val (.int q.2)) (.val (.int (q.2 - q.1 + 1))) h
      refine ⟨ρ', ?_⟩
      show mLoop _ _ (pairD q :: r.map pairD) _ = _
      unfold mLoop
      rw [hg]
      have hb : turnN [s0, s1, s2, .val (.int k), .val (.int q.1), .val (.int q.2), s6] = some (.nx [s0, s1, s2, .val (.int (k - (q.2 - q.1 + 1))), .val (.int q.1), .val (.int q.2), .val (.int (q.2 - q.1 + 1))]) := by simp [turnN, c]
      simp only [hb]
      exact e
theorem nth_ok {d : D} {r : RowT} {k w : Int} (h : HR d r) (ok : okF 1 r = true) (hl : r.length ≤ 1000) (hk : 1 ≤ k) (hw : nthR r k = some w) : mf_nth [.val d, .val (.int k)] = some (.val (.int w), [.un, .un]) := by
  obtain ⟨ρ', e⟩ := loopN (.val d) (.val (.int k)) (.val (dRow r)) r k w .un .un .un hw
  unfold turnN at e
  simp only [dRow] at e
  simp [mf_nth, mb_nth, given_row_ok h ok (by omega), is_whole_int, hk, e, -mLoop]
def termR (q : Int × Int) : Int := (q.1 + q.2) * (q.2 - q.1 + 1)
def addR (r : RowT) : Int := (r.map fun q => termR q / 2).sum
def Pls (r : RowT) : Prop := ∀ q ∈ r, 0 ≤ q.1 ∧ q.1 ≤ q.2 ∧ q.2 ≤ tenP 41
theorem sm41 {x : Int} (h : x ≤ 3 * tenP 41) : Sm x := Int.lt_of_le_of_lt h (by unfold tenP; decide +kernel)
theorem t41' : 10 ≤ tenP 41 := by unfold tenP; decide +kernel
theorem mul_term {q : Int × Int} (h : 0 ≤ q.1 ∧ q.1 ≤ q.2 ∧ q.2 ≤ tenP 41) : cMul (q.1 + q.2) (q.2 - q.1 + 1) = true := by
  have := t41'
  exact cMul_ok' (by omega) (sm41 (by omega)) (by omega) (sm41 (by omega))
theorem added_ok {d : D} {r : RowT} (h : HR d r) (ok : okF 1 r = true) (hl : r.length ≤ 1000) (hp : Pls r) : mf_added [.val d] = some (.val (.int (addR r)), [.un]) := by
  have e0 := given_row_ok h ok (by omega)
  have hd : ∀ i, cDiv i 2 = true := fun i => cDiv_ok (by decide) sm_two
  have key : mComp (miN (mCall PR.mf_given_row [] (mCons (mVar 0) (mNil)))) (mgL (fun _ => false) [1, 2]) (mTYes) (mBin (fI cDiv fun i j => i / j) (mBin fMul (mBin fAdd (mVar 1) (mVar 2)) (mBin fAdd (mBin (fI (fun _ _ => true) fun i j => i - j) (mVar 2) (mVar 1)) (mC (.int 1)))) (mC (.int 2))) [1, 2] [.val d, .un, .un]
      = some (.own ((r.map fun q => termR q / 2).map PyData.int), [.val d, .un, .un]) := by
    have e : (r.map fun q => termR q / 2).map PyData.int = r.filterMap (fun q => some (PyData.int (termR q / 2))) := by
      rw [List.filterMap_eq_map', List.map_map]
      rfl
    rw [e]
    refine comp_map pairD _ r (ρ1 := [.val d, .un, .un]) (by simp [e0]) rfl rfl (fun q hq => ?_) (sizeN (by omega))
    have hm := mul_term (hp q hq)
    exact ⟨[.val d, .val (.int q.1), .val (.int q.2)], true, _, by simp [pairD], rfl, .inr ⟨rfl, .val (.int (termR q / 2)), _, [.val d, .val (.int q.1), .val (.int q.2)], by simp [hm, hd, termR, -cMul, -cDiv], rfl, rfl, rfl⟩⟩
  simp [mf_added, mb_added, key, -mComp_ap, intsOf_map, addR, lstI, -List.map_map]
theorem even_term (q : Int × Int) : 2 * (termR q / 2) = termR q := by
  unfold termR
  have h : ((q.1 + q.2) * (q.2 - q.1 + 1)) % 2 = 0 := by
    have h1 : (q.1 + q.2) % 2 = 0 ∨ (q.2 - q.1 + 1) % 2 = 0 := by omega
    rcases h1 with h1 | h1
    · rw [Int.mul_emod, h1]; simp
    · rw [Int.mul_emod, h1]; simp
  omega
end PR

namespace PR
open PySem L2 Dn LB
theorem cnt_app (a b : RowT) : cnt (a ++ b) = cnt a + cnt b := by simp [cnt]
theorem cnt_cons (q : Int × Int) (b : RowT) : cnt (q :: b) = (q.2 - q.1 + 1) + cnt b := by simp [cnt]
theorem toR_app (a b : RowT) (x : Int) : toR (a ++ b) x = toR a x ++ toR b x := by simp [toR]
theorem cntTo_snoc (a : RowT) (q : Int × Int) (x : Int) (h : q.1 ≤ q.2) : cntTo (a ++ [q]) x = cntTo a x + (if (if x < q.2 then x else q.2) - q.1 + 1 > 0 then (if x < q.2 then x else q.2) - q.1 + 1 else 0) := by
  unfold cntTo
  rw [toR_app, cnt_app]
  by_cases c : q.1 ≤ x
  · have hp : (if x < q.2 then x else q.2) - q.1 + 1 > 0 := by split <;> omega
    rw [if_pos hp]
    simp [toR, c, cnt, List.filter]
  · have hp : ¬ (if x < q.2 then x else q.2) - q.1 + 1 > 0 := by split <;> omega
    rw [if_neg hp]
    simp [toR, c, cnt, List.filter]
theorem hasB_snoc (a : RowT) (q : Int × Int) (x : Int) : hasB (a ++ [q]) x = (hasB a x || (decide (q.1 ≤ x) && decide (x ≤ q.2))) := by simp [hasB]
theorem cntTo_zero {r : RowT} (ok : okF 1 r = true) : cntTo r 0 = 0 := by
  have h : r.filter (fun q => decide (q.1 ≤ 0)) = [] := filter_no fun y hy => decide_eq_false (by have := okF_ge ok hy; omega)
  unfold cntTo toR
  rw [h]
  rfl
theorem nthR_some : ∀ {r : RowT} {f : Int}, okF f r = true → ∀ k : Int, 1 ≤ k → k ≤ cnt r → ∃ w, nthR r k = some w
  | [], f, _, k, h1, h2 => by simp [cnt] at h2; omega
  | q :: r, f, ok, k, h1, h2 => by
    rw [okF_cons] at ok
    rw [cnt_cons] at h2
    unfold nthR
    by_cases c : k ≤ q.2 - q.1 + 1
    · exact ⟨_, if_pos c⟩
    · rw [if_neg c]
      exact nthR_some ok.2.2 _ (by omega) (by omega)
theorem sum_le (l : List Int) (B : Int) (h : ∀ x ∈ l, x ≤ B) (hB : 0 ≤ B) : ∀ n : Nat, l.length ≤ n → l.sum ≤ (n : Int) * B := by
  induction l with
  | nil => intro n _; simp; exact Int.mul_nonneg (by omega) hB
  | cons x l ih =>
    intro n hn
    cases n with
    | zero => simp at hn
    | succ n =>
      have h1 := h x List.mem_cons_self
      have h2 := ih (fun y hy => h y (List.mem_cons_of_mem _ hy)) n (by simpa using hn)
      rw [List.sum_cons, Int.natCast_succ, Int.add_mul, Int.one_mul]
      omega
theorem sum_ge (l : List Int) (h : ∀ x ∈ l, 0 ≤ x) : 0 ≤ l.sum := by
  induction l with
  | nil => simp
  | cons x l ih =>
    have h1 := h x List.mem_cons_self
    have h2 := ih (fun y hy => h y (List.mem_cons_of_mem _ hy))
    rw [List.sum_cons]
    omega
theorem cnt_bound {r : RowT} (h : Pls r) (hl : r.length ≤ 100) : 0 ≤ cnt r ∧ cnt r ≤ 100 * (tenP 41 + 1) := by
  have h41 := t41'
  constructor
  · exact sum_ge _ fun x hx => by
      obtain ⟨q, hq, rfl⟩ := List.mem_map.mp hx
      have := h q hq
      omega
  · exact sum_le _ _ (fun x hx => by
      obtain ⟨q, hq, rfl⟩ := List.mem_map.mp hx
      have := h q hq
      omega) (by omega) 100 (by simpa using hl)
theorem sm_cnt {r : RowT} (h : Pls r) (hl : r.length ≤ 100) : Sm (cnt r) := Int.lt_of_le_of_lt (cnt_bound h hl).2 (by unfold tenP; decide +kernel)
theorem term_le {q : Int × Int} (h : 0 ≤ q.1 ∧ q.1 ≤ q.2 ∧ q.2 ≤ tenP 41) : 0 ≤ termR q ∧ termR q ≤ (2 * tenP 41) * (tenP 41 + 1) := by
  have h41 := t41'
  unfold termR
  exact ⟨Int.mul_nonneg (by omega) (by omega), Int.mul_le_mul (by omega) (by omega) (by omega) (by omega)⟩
theorem addR_bound {r : RowT} (h : Pls r) (hl : r.length ≤ 100) : 0 ≤ addR r ∧ Sm (addR r) := by
  have h41 := t41'
  have hpos : 0 ≤ (2 * tenP 41) * (tenP 41 + 1) := Int.mul_nonneg (by omega) (by omega)
  constructor
  · exact sum_ge _ fun x hx => by
      obtain ⟨q, hq, rfl⟩ := List.mem_map.mp hx
      have := (term_le (h q hq)).1
      omega
  · have := sum_le (r.map fun q => termR q / 2) ((2 * tenP 41) * (tenP 41 + 1)) (fun x hx => by
      obtain ⟨q, hq, rfl⟩ := List.mem_map.mp hx
      have := term_le (h q hq)
      omega) hpos 100 (by simpa using hl)
    exact Int.lt_of_le_of_lt this (by unfold tenP; decide +kernel)
theorem two_add (r : RowT) : 2 * addR r = (r.map termR).sum := by
  unfold addR
  induction r with
  | nil => rfl
  | cons q r ih =>
    simp only [List.map_cons, List.sum_cons]
    rw [Int.mul_add, even_term, ih]
theorem lastE_ge : ∀ {r : RowT} {f : Int}, okF f r = true → ∀ q ∈ r, q.2 ≤ lastE r
  | [], f, _, q, h => nomatch h
  | p :: r, f, ok, q, h => by
    rw [okF_cons] at ok
    unfold lastE
    cases r with
    | nil =>
      rw [List.mem_singleton.mp h]
      exact Int.le_refl _
    | cons p2 r =>
      have e : (p :: p2 :: r).getLast? = (p2 :: r).getLast? := by simp
      rw [e]
      have ih := lastE_ge ok.2.2
      unfold lastE at ih
      rcases List.mem_cons.mp h with rfl | h
      · have i1 := ih p2 List.mem_cons_self
        have o2 := ok.2.2
        rw [okF_cons] at o2
        omega
      · exact ih q h
theorem lastE_nonneg {r : RowT} (ok : okF 1 r = true) : 0 ≤ lastE r := by
  unfold lastE
  cases hg : r.getLast? with
  | none => exact Int.le_refl 0
  | some q =>
    have := okF_ge ok (List.mem_of_getLast? hg)
    show 0 ≤ q.2
    omega
theorem max_last {r : RowT} (ok : okF 1 r = true) : maxI 0 (r.map fun p => p.2) = lastE r := by
  have h1 := Dn.maxI_mem (r.map fun p => p.2) 0
  have h2 := Dn.maxI_ge (r.map fun p => p.2) 0
  have h3 : maxI 0 (r.map fun p => p.2) ≤ lastE r := by
    rcases List.mem_cons.mp h1 with e | h
    · rw [e]; exact lastE_nonneg ok
    · obtain ⟨q, hq, e⟩ := List.mem_map.mp h
      rw [← e]
      exact lastE_ge ok q hq
  have h4 : lastE r ≤ maxI 0 (r.map fun p => p.2) := by
    unfold lastE
    cases hg : r.getLast? with
    | none => exact h2.1
    | some q => exact h2.2 q.2 (List.mem_map.mpr ⟨q, List.mem_of_getLast? hg, rfl⟩)
  omega
end PR
namespace LA
open PySem L2 Dn PR LB
theorem Strip.pls {r : RowT} (h : Strip r) : Pls r := h.places
def turnU : MS := (mSeq (mAsg (fun _ => false) 2 (mBin fAdd (mVar 2) (mFn fMax2 (mCons (mC (.int 0)) (mCons (mBin fAdd (mBin (fI (fun _ _ => true) fun i j => i - j) (mFn fMin2 (mCons (mVar 5) (mCons (mVar 1) (mNil)))) (mVar 4)) (mC (.int 1))) (mNil)))))) (mAsg (fun _ => false) 3 (mOrV (mVar 3) (mChain (fun i j => decide (i ≤ j)) (fun i j => decide (i ≤ j)) (mVar 4) (mVar 1) (mVar 5)))))
theorem up_ok {r : RowT} {x : Int} (ok : okF 1 r = true) (hl : r.length ≤ 1000) : mf__law_up_to [.val (dRow r), .val (.int x)] = some (.own [.int (cntTo r x), .bool (hasB r x)], [.un, .un]) := by
  have key := loop_count (g := mgL (fun _ => false) [4, 5]) (b := turnU) pairD
    (fun i ρ => ∃ t4 t5, ρ = [.val (dRow r), .val (.int x), .val (.int (cntTo (r.take i) x)), .val (.bool (hasB (r.take i) x)), t4, t5]) r 0
    [.val (dRow r), .val (.int x), .val (.int 0), .val (.bool false), .un, .un] (fun i q ρ hq hW => by
      obtain ⟨t4, t5, rfl⟩ := hW
      simp only [Nat.zero_add]
      have hg := okF_ge ok (List.mem_of_getElem? hq)
      have et : r.take (i + 1) = r.take i ++ [q] := by rw [List.take_add_one, hq]; rfl
      rw [et, cntTo_snoc _ _ _ hg.2, hasB_snoc]
      generalize cntTo (r.take i) x = C
      generalize hasB (r.take i) x = B
      refine ⟨[.val (dRow r), .val (.int x), .val (.int C), .val (.bool B), .val (.int q.1), .val (.int q.2)], _, by simp [pairD], .inl ?_, .val (.int q.1), .val (.int q.2), rfl⟩
      cases B <;> by_cases h1 : q.1 ≤ x <;> by_cases h2 : x < q.2 <;> simp [turnU, h1, h2]) ⟨.un, .un, rfl⟩
  obtain ⟨ρ', e, t4, t5, rfl⟩ := key
  rw [Nat.zero_add, List.take_length] at e
  unfold turnU at e
  simp only [dRow] at e ⊢
  simp [mf__law_up_to, mb__law_up_to, e, -mLoop, sizeN]
def turnM : MS := (mSeq (mIfS (mB (mBin (fB fun i j => decide (i ≤ j)) (mVar 1) (mBin fAdd (mBin (fI (fun _ _ => true) fun i j => i - j) (mVar 3) (mVar 2)) (mC (.int 1))))) (mRet (mBin (fI (fun _ _ => true) fun i j => i - j) (mBin fAdd (mVar 2) (mVar 1)) (mC (.int 1)))) (mNext)) (mAsg (fun _ => false) 1 (mBin (fI (fun _ _ => true) fun i j => i - j) (mVar 1) (mBin fAdd (mBin (fI (fun _ _ => true) fun i j => i - j) (mVar 3) (mVar 2)) (mC (.int 1))))))
theorem loopM (s0 : Sl) : ∀ (r : RowT) (k w : Int) (s2 s3 : Sl), nthR r k = some w → ∃ ρ', mLoop (mgL (fun _ => false) [2, 3]) turnM (r.map pairD) [s0, .val (.int k), s2, s3] = some (.rt (.val (.int w)) ρ')
  | [], k, w, s2, s3, h => by cases h
  | q :: r, k, w, s2, s3, h => by
    unfold nthR at h
    have hg : mgL (fun _ => false) [2, 3] (pairD q) [s0, .val (.int k), s2, s3] = some [s0, .val (.int k), .val (.int q.1), .val (.int q.2)] := by simp [pairD]
    by_cases c : k ≤ q.2 - q.1 + 1
    · rw [if_pos c] at h
      cases h
      refine ⟨[s0, .val (.int k), .val (.int q.1), .val (.int q.2)], ?_⟩
      show mLoop _ _ (pairD q :: r.map pairD) _ = _
      unfold mLoop
      rw [hg]
      simp [turnM, c, -mLoop]
    · rw [if_neg c] at h
      obtain ⟨ρ', e⟩ := loopM s0 r (k - (q.2 - q.1 + 1)) w (.val (.int q.1)) (.val (.int q.2)) h
      refine ⟨ρ', ?_⟩
      show mLoop _ _ (pairD q :: r.map pairD) _ = _
      unfold mLoop
      rw [hg]
      have hb : turnM [s0, .val (.int k), .val (.int q.1), .val (.int q.2)] = some (.nx [s0, .val (.int (k - (q.2 - q.1 + 1))), .val (.int q.1), .val (.int q.2)]) := by simp [turnM, c]
      simp only [hb]
      exact e
theorem manieth_ok {r : RowT} {k w : Int} (hw : nthR r k = some w) : mf__law_manieth [.val (dRow r), .val (.int k)] = some (.val (.int w), [.un, .un]) := by
  obtain ⟨ρ', e⟩ := loopM (.val (dRow r)) r k w .un .un hw
  unfold turnM at e
  simp only [dRow] at e ⊢
  simp [mf__law_manieth, mb__law_manieth, e, -mLoop]
theorem same_own2 {n : Nat} {ds : List D} (hd : ∀ d ∈ ds, Ex1 n d) (hl : ds.length ≤ 100000) : mf__law_same (n + 1) [.own ds, .own ds] = some (.val (.bool true), [.un, .un]) := by
  have key := same_items (fun d hd' => same_ok (hd d hd')) hl (.list ds) (.inl rfl)
  simp [mf__law_same, mb__law_same, shaped_bool, shaped_int, eqv_bool, eqv_int, key, all_true, -mComp_ap]
end LA

namespace PR
open PySem L2 Dn LB
/-! ### a row made of places -/
def rowF (l : List Int) : RowT := l.foldl flipR []
theorem rowF_snoc (l : List Int) (x : Int) : rowF (l ++ [x]) = flipR (rowF l) x := by simp [rowF]
/-- rising places, from 1 on -/
theorem rowF_spec : ∀ (n : Nat) (l : List Int), l.length = n → l.Pairwise (· < ·) → (∀ x ∈ l, 1 ≤ x) → okF 1 (rowF l) = true ∧ (∀ p, memR (rowF l) p ↔ p ∈ l) ∧ (rowF l).length ≤ l.length
  | 0, l, hn, hp, h1 => by
    have e : l = [] := List.length_eq_zero_iff.mp hn
    subst e
    exact ⟨rfl, fun p => ⟨fun h => absurd h mem_nil, fun h => nomatch h⟩, Nat.le_refl _⟩
  | n + 1, l, hn, hp, h1 => by
    rcases List.eq_nil_or_concat l with rfl | ⟨l', x, rfl⟩
    · cases hn
    · rw [List.concat_eq_append] at *
      have hp' := List.pairwise_append.mp hp
      have hlt : ∀ y ∈ l', y < x := fun y hy => hp'.2.2 y hy x (List.mem_singleton.mpr rfl)
      obtain ⟨o, m, ln⟩ := rowF_spec n l' (by simpa using hn) hp'.1 fun y hy => h1 y (List.mem_append_left _ hy)
      have hx := h1 x (by simp)
      obtain ⟨o2, m2, l2⟩ := flip_spec o hx
      rw [rowF_snoc]
      refine ⟨o2, fun p => ?_, by simp; omega⟩
      rw [m2, m, List.mem_append, List.mem_singleton]
      by_cases c : p = x
      · subst c
        constructor
        · intro _; exact .inr rfl
        · intro _
          refine ⟨fun h => absurd (hlt p h) (Int.lt_irrefl p), fun h => absurd rfl h⟩
      · constructor
        · intro h; exact .inl (h.mpr c)
        · intro h
          rcases h with h | h
          · exact ⟨fun _ => c, fun _ => h⟩
          · exact absurd h c
theorem lastE_mem {r : RowT} (h : r ≠ []) (ok : okF 1 r = true) : memR r (lastE r) := by
  unfold lastE
  cases hg : r.getLast? with
  | none => exact absurd (by simpa using hg) h
  | some q =>
    have := okF_ge ok (List.mem_of_getLast? hg)
    exact ⟨q, List.mem_of_getLast? hg, this.2, Int.le_refl _⟩
def turnW : MS := (mSeq (mIfS (mB (mBin (fEq false) (mVar 1) (mCall PR.mf_last_of [] (mCons (mVar 2) (mNil))))) (mNone) (mNext)) (mAsg (fun _ => false) 2 (mCall PR.mf_flipped [] (mCons (mVar 2) (mCons (mVar 1) (mNil))))))
theorem loopW (s0 s1 : Sl) (S : List Int) (hp : S.Pairwise (· < ·)) (h1 : ∀ x ∈ S, 1 ≤ x) (hl : S.length ≤ 900) : ∃ t1, mLoop (mgN (fun _ => false) 1) turnW (S.map PyData.int) [s0, s1, .own []] = some (.nx [s0, t1, .own ((rowF S).map pairD)]) := by
  have key := loop_count (g := mgN (fun _ => false) 1) (b := turnW) PyData.int
    (fun i ρ => ∃ t1, ρ = [s0, t1, .own ((rowF (S.take i)).map pairD)]) S 0 [s0, s1, .own []] (fun i x ρ hx hW => by
      obtain ⟨t1, rfl⟩ := hW
      simp only [Nat.zero_add]
      have hi := (List.getElem?_eq_some_iff.mp hx).1
      have et : S.take (i + 1) = S.take i ++ [x] := by rw [List.take_add_one, hx]; rfl
      have hsub : (S.take (i + 1)).Pairwise (· < ·) := hp.sublist (List.take_sublist _ _)
      rw [et] at hsub
      have hp' := List.pairwise_append.mp hsub
      have hlt : ∀ y ∈ S.take i, y < x := fun y hy => hp'.2.2 y hy x (List.mem_singleton.mpr rfl)
      obtain ⟨o, m, ln⟩ := rowF_spec _ (S.take i) rfl hp'.1 fun y hy => h1 y (List.mem_of_mem_take hy)
      rw [List.length_take] at ln
      have hx1 := h1 x (List.mem_of_getElem? hx)
      have hne : ¬ x = lastE (rowF (S.take i)) := by
        by_cases c : rowF (S.take i) = []
        · rw [c]
          show ¬ x = 0
          omega
        · have := hlt _ ((m _).mp (lastE_mem c o))
          omega
      have e1 := last_of_ok (rowF (S.take i))
      have e2 := flipped_ok (rowF (S.take i)) x (by omega)
      rw [et, rowF_snoc]
      generalize rowF (S.take i) = r at hne e1 e2 ⊢
      refine ⟨[s0, .val (.int x), .own (r.map pairD)], [s0, .val (.int x), .own ((flipR r x).map pairD)], by simp, .inl ?_, _, rfl⟩
      simp only [dRow] at e1 e2
      simp [turnW, e1, e2, shaped_int, eqv_int, hne]) ⟨s1, rfl⟩
  obtain ⟨ρ', e, t1, rfl⟩ := key
  refine ⟨t1, ?_⟩
  rw [Nat.zero_add, List.take_length] at e
  exact e
/-- numbers as they may be handed in -/
def HI (d : D) (ns : List Int) : Prop := d = .list (ns.map PyData.int) ∨ d = .tuple (ns.map PyData.int)
theorem sort_lt {ns : List Int} (hd : ns.Nodup) : (sortI ns).Pairwise (· < ·) := by
  have h1 := sortI_sorted ns
  have h2 : (sortI ns).Pairwise (· ≠ ·) := (sortI_perm ns).nodup_iff.mpr hd
  exact (h1.and h2).imp fun ⟨a, b⟩ => by omega
theorem row_of_ok {d : D} {ns : List Int} (h : HI d ns) (hd : ns.Nodup) (h1 : ∀ x ∈ ns, 1 ≤ x) (hl : ns.length ≤ 900) : mf_row_of [.val d] = some (.own ((rowF (sortI ns)).map pairD), [.un]) := by
  have key := loop_count (g := mgN (fun _ => false) 1) (b := mExpr (mCall PR.mf_check_place [] (mCons (mVar 1) (mCons (mC (.int 1)) (mNil))))) PyData.int
    (fun i ρ => ∃ t1, ρ = [.val d, t1, .un]) ns 0 [.val d, .un, .un] (fun i x ρ hx hW => by
      obtain ⟨t1, rfl⟩ := hW
      have e := check_place_ok (h1 x (List.mem_of_getElem? hx))
      exact ⟨[.val d, .val (.int x), .un], [.val d, .val (.int x), .un], by simp, .inl (by simp [e]), _, rfl⟩) ⟨.un, rfl⟩
  obtain ⟨ρ', e1, t1, rfl⟩ := key
  have hpm := sortI_perm ns
  obtain ⟨t2, e2⟩ := loopW (.val d) t1 (sortI ns) (sort_lt hd) (fun x hx => h1 x (hpm.mem_iff.mp hx)) (by rw [hpm.length_eq]; exact hl)
  unfold turnW at e2
  rcases h with rfl | rfl
  · simp [mf_row_of, mb_row_of, e1, -mLoop, sizeN, lstI, intsOf_map]
    rw [e2]
    simp
  · simp [mf_row_of, mb_row_of, e1, -mLoop, sizeN, lstI, intsOf_map]
    rw [e2]
    simp
theorem rowF_mem {ns : List Int} (hd : ns.Nodup) (h1 : ∀ x ∈ ns, 1 ≤ x) : okF 1 (rowF (sortI ns)) = true ∧ (∀ p, memR (rowF (sortI ns)) p ↔ p ∈ ns) ∧ (rowF (sortI ns)).length ≤ ns.length := by
  have hpm := sortI_perm ns
  obtain ⟨o, m, l⟩ := rowF_spec _ (sortI ns) rfl (sort_lt hd) fun x hx => h1 x (hpm.mem_iff.mp hx)
  exact ⟨o, fun p => by rw [m, hpm.mem_iff], by rw [← hpm.length_eq]; exact l⟩
end PR

namespace PR
open PySem L2 Dn LB
/-! ### sums over a row -/
def sumS (S : Int → Int) (r : RowT) : Int := (r.map fun q => S q.2 - S (q.1 - 1)).sum
theorem sumS_nil (S : Int → Int) : sumS S [] = 0 := rfl
theorem sumS_cons (S : Int → Int) (q : Int × Int) (r : RowT) : sumS S (q :: r) = (S q.2 - S (q.1 - 1)) + sumS S r := by simp [sumS]
theorem sumS_app (S : Int → Int) (a b : RowT) : sumS S (a ++ b) = sumS S a + sumS S b := by simp [sumS]
theorem sumS_rev (S : Int → Int) (a : RowT) : sumS S a.reverse = sumS S a := by
  induction a with
  | nil => rfl
  | cons q a ih =>
    rw [List.reverse_cons, sumS_app, ih, sumS_cons, sumS_cons, sumS_nil]
    omega
theorem cnt_S (r : RowT) : cnt r = sumS (fun p => p) r := by
  induction r with
  | nil => rfl
  | cons q r ih =>
    rw [cnt_cons, sumS_cons, ih]
    omega
def tri (p : Int) : Int := p * (p + 1) / 2
theorem two_tri (p : Int) : 2 * tri p = p * (p + 1) := by
  unfold tri
  have h : (p * (p + 1)) % 2 = 0 := by
    have h1 : p % 2 = 0 ∨ (p + 1) % 2 = 0 := by omega
    rcases h1 with h1 | h1
    · rw [Int.mul_emod, h1]; simp
    · rw [Int.mul_emod, h1]; simp
  omega
theorem term_tri (q : Int × Int) : termR q / 2 = tri q.2 - tri (q.1 - 1) := by
  have h1 := even_term q
  have h2 := two_tri q.2
  have h3 := two_tri (q.1 - 1)
  have h4 : termR q = q.2 * (q.2 + 1) - (q.1 - 1) * (q.1 - 1 + 1) := by unfold termR; grind
  omega
theorem add_S (r : RowT) : addR r = sumS tri r := by
  unfold addR sumS
  congr 1
  exact List.map_congr_left fun q _ => term_tri q
def low (y p : Int) : Int := if p ≤ y then p else y
theorem cntTo_cons (q : Int × Int) (r : RowT) (y : Int) (h : q.1 ≤ q.2) : cntTo (q :: r) y = (low y q.2 - low y (q.1 - 1)) + cntTo r y := by
  unfold cntTo toR
  by_cases c : q.1 ≤ y
  · have e1 : low y (q.1 - 1) = q.1 - 1 := by unfold low; rw [if_pos (by omega)]
    have e2 : low y q.2 = if y < q.2 then y else q.2 := by unfold low; split <;> split <;> omega
    simp [c, List.filter, cnt_cons, e1, e2]
    omega
  · have e1 : low y (q.1 - 1) = y := by unfold low; split <;> omega
    have e2 : low y q.2 = y := by unfold low; split <;> omega
    simp [c, List.filter, e1, e2]
theorem cntTo_S {r : RowT} {f : Int} (ok : okF f r = true) (y : Int) : cntTo r y = sumS (low y) r := by
  induction r generalizing f with
  | nil => rfl
  | cons q r ih =>
    rw [okF_cons] at ok
    rw [cntTo_cons q r y ok.2.1, sumS_cons, ih ok.2.2]
theorem hasB_app (a b : RowT) (x : Int) : hasB (a ++ b) x = (hasB a x || hasB b x) := by simp [hasB]
theorem hasB_cons (q : Int × Int) (b : RowT) (x : Int) : hasB (q :: b) x = ((decide (q.1 ≤ x) && decide (x ≤ q.2)) || hasB b x) := by simp [hasB]
theorem hasB_iff {r : RowT} {x : Int} : hasB r x = true ↔ memR r x := by
  unfold hasB memR
  simp
theorem hasB_not {r : RowT} {x : Int} (h : ¬ memR r x) : hasB r x = false := by
  cases e : hasB r x with
  | false => rfl
  | true => exact absurd (hasB_iff.mp e) h
theorem sum_parts (S : Int → Int) {q : Int × Int} {x : Int} (h2 : q.1 ≤ x) (h3 : x ≤ q.2) : sumS S (partsR q x) = (S q.2 - S (q.1 - 1)) - (S x - S (x - 1)) := by
  unfold partsR
  by_cases c1 : q.1 ≤ x - 1 <;> by_cases c2 : x + 1 ≤ q.2
  · have e : x + 1 - 1 = x := by omega
    simp only [List.filter, c1, c2, decide_true, sumS_cons, sumS_nil, e]
    omega
  · have e : x = q.2 := by omega
    simp only [List.filter, c1, c2, decide_true, decide_false, sumS_cons, sumS_nil]
    rw [e]
    omega
  · have e : q.1 = x := by omega
    have e2 : x + 1 - 1 = x := by omega
    simp only [List.filter, c1, c2, decide_true, decide_false, sumS_cons, sumS_nil, e2]
    rw [e]
    omega
  · have e : q.1 = x := by omega
    have e2 : q.2 = x := by omega
    simp only [List.filter, c1, c2, decide_false, sumS_nil]
    rw [e, e2]
    omega
theorem flip_sum (S : Int → Int) {r : RowT} {x : Int} (ok : okF 1 r = true) (hx : 1 ≤ x) : sumS S (flipR r x) = sumS S r + (if hasB r x = true then -1 else 1) * (S x - S (x - 1)) := by
  rcases flip_cases ok hx with ⟨a, q, b, rfl, h1, h2, h3, h4, e⟩ | ⟨a, b, rfl, h1, h4, e⟩
  · rw [e, if_pos (hasB_iff.mpr ⟨q, by simp, h2, h3⟩)]
    simp only [sumS_app, sumS_cons, sum_parts S h2 h3]
    omega
  · have hno : hasB (a ++ b) x = false := hasB_not fun ⟨y, hy, z1, z2⟩ => by
      rcases List.mem_append.mp hy with hy | hy
      · have := h1 y hy; omega
      · have := h4 y hy; omega
    have ha : sumS S (preF a x).2 + (S (x - 1) - S ((preF a x).1 - 1)) = sumS S a := by
      rcases List.eq_nil_or_concat a with rfl | ⟨a', q, rfl⟩
      · simp [preF]
      · rw [List.concat_eq_append]
        by_cases c : q.2 = x - 1
        · simp [preF, c, sumS_app, sumS_cons, sumS_nil]
        · simp [preF, c]
    have hb : sumS S (postF b x).2 + (S (postF b x).1 - S x) = sumS S b := by
      cases b with
      | nil => simp [postF]
      | cons q b' =>
        by_cases c : q.1 = x + 1
        · have e2 : x + 1 - 1 = x := by omega
          simp [postF, c, sumS_cons, e2]
          omega
        · simp [postF, c]
    rw [e, hno, if_neg (by decide)]
    simp only [sumS_app, sumS_cons]
    omega
theorem flip_back {r : RowT} {x : Int} (ok : okF 1 r = true) (hx : 1 ≤ x) : flipR (flipR r x) x = r ∧ hasB (flipR r x) x = !hasB r x := by
  obtain ⟨o1, m1, _⟩ := flip_spec ok hx
  obtain ⟨o2, m2, _⟩ := flip_spec o1 hx
  constructor
  · refine row_ext o2 ok fun p => ?_
    rw [m2, m1]
    by_cases c : p = x
    · subst c
      by_cases h : memR r p <;> simp [h]
    · simp [c]
  · have h := m1 x
    by_cases c : memR r x
    · rw [hasB_iff.mpr c]
      exact hasB_not fun z => absurd rfl ((h.mp z).mp c)
    · rw [hasB_not c]
      exact hasB_iff.mpr (h.mpr ⟨fun z => absurd z c, fun z => absurd rfl z⟩)
/-! ### the so-manieth head -/
theorem low_ge {y p : Int} (h : p ≤ y) : low y p = p := if_pos h
theorem low_lt {y p : Int} (h : y ≤ p) : low y p = y := by unfold low; split <;> omega
theorem cntTo_low {r : RowT} {f : Int} (ok : okF f r = true) {y : Int} (h : y < f) : cntTo r y = 0 := by
  induction r generalizing f with
  | nil => rfl
  | cons q r ih =>
    rw [okF_cons] at ok
    rw [cntTo_cons q r y ok.2.1, ih ok.2.2 (by omega), low_lt (by omega), low_lt (by omega)]
    omega
theorem nth_fact : ∀ {r : RowT} {f : Int}, okF f r = true → ∀ {k w : Int}, 1 ≤ k → nthR r k = some w → memR r w ∧ cntTo r w = k ∧ cntTo r (w - 1) = k - 1
  | [], _, _, _, _, _, h => nomatch h
  | q :: r, f, ok, k, w, hk, h => by
    rw [okF_cons] at ok
    unfold nthR at h
    by_cases c : k ≤ q.2 - q.1 + 1
    · rw [if_pos c] at h
      cases h
      refine ⟨⟨q, List.mem_cons_self, by omega, by omega⟩, ?_, ?_⟩
      · rw [cntTo_cons _ _ _ ok.2.1, cntTo_low ok.2.2 (by omega), low_lt (by omega), low_ge (by omega)]
        omega
      · rw [cntTo_cons _ _ _ ok.2.1, cntTo_low ok.2.2 (by omega), low_lt (by omega), low_ge (by omega)]
        omega
    · rw [if_neg c] at h
      obtain ⟨h1, h2, h3⟩ := nth_fact ok.2.2 (by omega) h
      have hw := mem_ge ok.2.2 h1
      refine ⟨h1.imp fun y z => ⟨List.mem_cons_of_mem _ z.1, z.2⟩, ?_, ?_⟩
      · rw [cntTo_cons _ _ _ ok.2.1, h2, low_ge (by omega), low_ge (by omega)]
        omega
      · rw [cntTo_cons _ _ _ ok.2.1, h3, low_ge (by omega), low_ge (by omega)]
        omega
theorem cntTo_all : ∀ {r : RowT} {f : Int}, okF f r = true → ∀ y, 0 ≤ cntTo r y ∧ cntTo r y ≤ cnt r
  | [], _, _, y => by simp [cntTo, toR, cnt]
  | q :: r, f, ok, y => by
    rw [okF_cons] at ok
    have := cntTo_all ok.2.2 y
    rw [cntTo_cons _ _ _ ok.2.1, cnt_cons]
    unfold low
    split <;> split <;> omega
theorem nth_inv : ∀ {r : RowT} {f : Int}, okF f r = true → ∀ {p : Int}, memR r p → nthR r (cntTo r p) = some p ∧ 1 ≤ cntTo r p ∧ cntTo r p ≤ cnt r
  | [], _, _, _, h => absurd h mem_nil
  | q :: r, f, ok, p, h => by
    rw [okF_cons] at ok
    rcases mem_cons.mp h with h | h
    · have e : cntTo (q :: r) p = p - q.1 + 1 := by
        rw [cntTo_cons _ _ _ ok.2.1, cntTo_low ok.2.2 (by omega), low_lt (by omega), low_ge (by omega)]
        omega
      have hc := cntTo_all ok.2.2 p
      have h0 : 0 ≤ cnt r := by omega
      rw [e, cnt_cons]
      unfold nthR
      rw [if_pos (by omega)]
      exact ⟨by congr 1; omega, by omega, by omega⟩
    · obtain ⟨i1, i2, i3⟩ := nth_inv ok.2.2 h
      have hw := mem_ge ok.2.2 h
      have e : cntTo (q :: r) p = (q.2 - q.1 + 1) + cntTo r p := by
        rw [cntTo_cons _ _ _ ok.2.1, low_ge (by omega), low_ge (by omega)]
        omega
      rw [e, cnt_cons]
      unfold nthR
      rw [if_neg (by omega)]
      refine ⟨?_, by omega, by omega⟩
      rw [← i1]
      congr 1
      omega
theorem step_has : ∀ {r : RowT} {f : Int}, okF f r = true → ∀ p, cntTo r p - cntTo r (p - 1) = if hasB r p = true then 1 else 0
  | [], _, _, p => by simp [cntTo, toR, cnt, hasB]
  | q :: r, f, ok, p => by
    rw [okF_cons] at ok
    have ih := step_has ok.2.2 p
    rw [cntTo_cons _ _ _ ok.2.1, cntTo_cons _ _ _ ok.2.1, hasB_cons]
    by_cases c : q.1 ≤ p ∧ p ≤ q.2
    · have hno : hasB r p = false := hasB_not fun z => by have := mem_ge ok.2.2 z; omega
      rw [hno] at ih
      simp only [c.1, c.2, decide_true, Bool.and_self, Bool.true_or, if_true]
      rw [if_neg (by decide)] at ih
      rw [low_lt (show p ≤ q.2 by omega), low_lt (show p - 1 ≤ q.2 by omega), low_ge (show q.1 - 1 ≤ p by omega), low_ge (show q.1 - 1 ≤ p - 1 by omega)]
      omega
    · have hd : (decide (q.1 ≤ p) && decide (p ≤ q.2)) = false := by
        by_cases c1 : q.1 ≤ p
        · have c2 : ¬ p ≤ q.2 := fun z => c ⟨c1, z⟩
          simp [c2]
        · simp [c1]
      rw [hd, Bool.false_or]
      have e : low p q.2 - low p (q.1 - 1) = low (p - 1) q.2 - low (p - 1) (q.1 - 1) := by unfold low; split <;> split <;> split <;> split <;> omega
      omega
end PR

namespace PR
open PySem L2 Dn LB
/-! ### rows turned about -/
theorem low_last : ∀ {r : RowT} {f : Int}, okF f r = true → lowR f r = if r = [] then f else lastE r + 1
  | [], f, _ => by simp [lowR]
  | [q], f, _ => by simp [lowR, lastE]
  | q :: p :: r, f, ok => by
    rw [okF_cons] at ok
    have ih := low_last ok.2.2
    have e : lowR (q.2 + 2) (p :: r) = lowR (q.2 + 1) (p :: r) := rfl
    have e2 : lastE (q :: p :: r) = lastE (p :: r) := by simp [lastE]
    show lowR (q.2 + 1) (p :: r) = _
    rw [← e, ih, e2]
    simp
theorem low_le {r : RowT} {n : Int} (ok : okF 1 r = true) (hn : lastE r ≤ n) (h0 : 0 ≤ n) : lowR 1 r ≤ n + 1 := by
  rw [low_last ok]
  split <;> omega
theorem gaps_sum (S : Int → Int) : ∀ {r : RowT} {f : Int}, okF f r = true → sumS S (gaps f r) + sumS S r = S (lowR f r - 1) - S (f - 1)
  | [], f, _ => by simp [gaps, lowR, sumS_nil]
  | q :: r, f, ok => by
    rw [okF_cons] at ok
    have ih := gaps_sum S (okF_mono (by omega) ok.2.2 : okF (q.2 + 1) r = true)
    have e2 : q.2 + 1 - 1 = q.2 := by omega
    rw [e2] at ih
    show sumS S ((if f < q.1 then [(f, q.1 - 1)] else []) ++ gaps (q.2 + 1) r) + sumS S (q :: r) = S (lowR (q.2 + 1) r - 1) - S (f - 1)
    rw [sumS_app, sumS_cons]
    by_cases c : f < q.1
    · rw [if_pos c]
      simp only [sumS_cons, sumS_nil]
      omega
    · have e : q.1 = f := by omega
      rw [if_neg c, sumS_nil, e]
      omega
theorem all_sum (S : Int → Int) {r : RowT} {n : Int} (ok : okF 1 r = true) (hn : lastE r ≤ n) (h0 : 0 ≤ n) : sumS S (allGaps r n) + sumS S r = S n - S 0 := by
  have h := gaps_sum S ok
  have hl := low_le ok hn h0
  unfold allGaps
  rw [sumS_app]
  have e1 : (1 : Int) - 1 = 0 := rfl
  rw [e1] at h
  by_cases c : lowR 1 r ≤ n
  · rw [if_pos c]
    simp only [sumS_cons, sumS_nil]
    omega
  · have e : lowR 1 r - 1 = n := by omega
    rw [if_neg c, sumS_nil]
    rw [e] at h
    omega
theorem mate_sum (S : Int → Int) (n : Int) (g : RowT) : sumS S ((g.reverse).map (mateS n)) = sumS (fun p => - S (n - p)) g := by
  rw [← sumS_rev (fun p => - S (n - p)) g]
  generalize g.reverse = g
  induction g with
  | nil => rfl
  | cons q g ih =>
    rw [List.map_cons, sumS_cons, sumS_cons, ih]
    have e1 : (mateS n q).2 = n - (q.1 - 1) := by simp [mateS]; omega
    have e2 : (mateS n q).1 - 1 = n - q.2 := by simp [mateS]; omega
    rw [e1, e2]
    omega
theorem about_sum (S : Int → Int) (r : RowT) (n : Int) : sumS S (aboutR r n) = sumS (fun p => - S (n - p)) (allGaps r n) := mate_sum S n _
theorem sumS_congr {S T : Int → Int} (c : Int) {r : RowT} (h : ∀ p, S p = T p + c) : sumS S r = sumS T r := by
  unfold sumS
  congr 1
  exact List.map_congr_left fun q _ => by rw [h, h]; omega
theorem gaps_ok : ∀ {r : RowT} {f : Int}, okF f r = true → okF f (gaps f r) = true ∧ nextF f (gaps f r) ≤ lowR f r + 1 ∧ f ≤ lowR f r ∧ (r ≠ [] → nextF f (gaps f r) ≤ lowR f r)
  | [], f, _ => ⟨rfl, by show f ≤ f + 1; omega, Int.le_refl f, fun h => absurd rfl h⟩
  | q :: r, f, ok => by
    rw [okF_cons] at ok
    obtain ⟨h1, h2, h3, h4⟩ := gaps_ok (okF_mono (by omega) ok.2.2 : okF (q.2 + 1) r = true)
    have hlow : lowR f (q :: r) = lowR (q.2 + 1) r := rfl
    have hnx : nextF (q.2 + 1) (gaps (q.2 + 1) r) ≤ lowR (q.2 + 1) r := by
      by_cases c : r = []
      · subst c
        exact Int.le_refl _
      · exact h4 c
    have hg : gaps f (q :: r) = (if f < q.1 then [(f, q.1 - 1)] else []) ++ gaps (q.2 + 1) r := rfl
    rw [hlow, hg]
    by_cases c : f < q.1
    · rw [if_pos c, okF_app, okF_cons, nextF_app]
      have hf : nextF f [(f, q.1 - 1)] = q.1 - 1 + 2 := rfl
      rw [hf]
      have hm : nextF (q.1 - 1 + 2) (gaps (q.2 + 1) r) ≤ lowR (q.2 + 1) r := by
        cases hgr : gaps (q.2 + 1) r with
        | nil =>
          show q.1 - 1 + 2 ≤ _
          omega
        | cons y l =>
          rw [hgr] at hnx
          exact hnx
      refine ⟨⟨⟨Int.le_refl _, by show f ≤ q.1 - 1; omega, rfl⟩, okF_mono (by omega) h1⟩, by omega, by omega, fun _ => hm⟩
    · rw [if_neg c, List.nil_append]
      have hm : nextF f (gaps (q.2 + 1) r) ≤ lowR (q.2 + 1) r := by
        cases hgr : gaps (q.2 + 1) r with
        | nil =>
          show f ≤ _
          omega
        | cons y l =>
          rw [hgr] at hnx
          exact hnx
      exact ⟨okF_mono (by omega) h1, by omega, by omega, fun _ => hm⟩
theorem next_end : ∀ {r : RowT} {f : Int}, okF f r = true → ∀ q ∈ r, q.2 + 2 ≤ nextF f r
  | p :: r, f, ok, q, h => by
    rw [okF_cons] at ok
    show q.2 + 2 ≤ nextF (p.2 + 2) r
    rcases List.mem_cons.mp h with rfl | h
    · exact nextF_ge ok.2.2
    · exact next_end ok.2.2 q h
theorem all_ok {r : RowT} {n : Int} (ok : okF 1 r = true) (hn : lastE r ≤ n) (h0 : 0 ≤ n) : okF 1 (allGaps r n) = true ∧ ∀ q ∈ allGaps r n, q.2 ≤ n := by
  obtain ⟨h1, h2, h3, h4⟩ := gaps_ok ok
  have hl := low_le ok hn h0
  have hend : ∀ q ∈ gaps 1 r, q.2 ≤ n := fun q hq => by
    have := next_end h1 q hq
    omega
  unfold allGaps
  by_cases c : lowR 1 r ≤ n
  · rw [if_pos c]
    have hnx : nextF 1 (gaps 1 r) ≤ lowR 1 r := by
      by_cases e : r = []
      · subst e
        exact Int.le_refl _
      · exact h4 e
    refine ⟨?_, fun q hq => ?_⟩
    · rw [okF_app, okF_cons]
      exact ⟨h1, hnx, c, rfl⟩
    · rcases List.mem_append.mp hq with hq | hq
      · exact hend q hq
      · rw [List.mem_singleton.mp hq]
        exact Int.le_refl _
  · rw [if_neg c, List.append_nil]
    exact ⟨h1, hend⟩
theorem mate_ok (n : Int) : ∀ {g : RowT} {f : Int}, okF f g = true → (∀ q ∈ g, q.2 ≤ n) → okF 1 (g.reverse.map (mateS n)) = true ∧ ∀ q ∈ g.reverse.map (mateS n), q.2 ≤ n + 1 - f
  | [], f, _, _ => ⟨rfl, fun q h => nomatch h⟩
  | q :: g, f, ok, hn => by
    rw [okF_cons] at ok
    obtain ⟨h1, h2⟩ := mate_ok n ok.2.2 fun y hy => hn y (List.mem_cons_of_mem _ hy)
    have hq := hn q List.mem_cons_self
    rw [List.reverse_cons, List.map_append]
    have hnx : nextF 1 (g.reverse.map (mateS n)) ≤ n + 1 - q.2 := by
      have := nextF_lt (a := g.reverse.map (mateS n)) (f := 1) (x := n - q.2) (by omega) (fun y hy => by have := h2 y hy; omega)
      omega
    refine ⟨?_, fun y hy => ?_⟩
    · rw [okF_app]
      refine ⟨h1, ?_⟩
      show okF _ [mateS n q] = true
      rw [okF_cons]
      exact ⟨hnx, by simp [mateS]; omega, rfl⟩
    · rcases List.mem_append.mp hy with hy | hy
      · have := h2 y hy; omega
      · have e : y = mateS n q := by simpa using hy
        rw [e]
        simp [mateS]
        omega
theorem about_ok2 {r : RowT} {n : Int} (ok : okF 1 r = true) (hn : lastE r ≤ n) (h0 : 0 ≤ n) : okF 1 (aboutR r n) = true ∧ (∀ q ∈ aboutR r n, q.2 ≤ n) ∧ lastE (aboutR r n) ≤ n := by
  obtain ⟨h1, h2⟩ := all_ok ok hn h0
  obtain ⟨h3, h4⟩ := mate_ok n h1 h2
  have h5 : ∀ q ∈ aboutR r n, q.2 ≤ n := fun q hq => by have := h4 q hq; omega
  refine ⟨h3, h5, ?_⟩
  show lastE (aboutR r n) ≤ n
  unfold lastE
  cases hg : (aboutR r n).getLast? with
  | none => exact h0
  | some q => exact h5 q (List.mem_of_getLast? hg)
theorem about_cnt {r : RowT} {n : Int} (ok : okF 1 r = true) (hn : lastE r ≤ n) (h0 : 0 ≤ n) : cnt (aboutR r n) = n - cnt r := by
  have h := all_sum (fun p => p) ok hn h0
  rw [cnt_S, cnt_S, about_sum, sumS_congr (T := fun p => p) (-n) (fun p => by omega)]
  omega
theorem sumS_lin (a b : Int) (S T : Int → Int) (r : RowT) : sumS (fun p => a * S p - b * T p) r = a * sumS S r - b * sumS T r := by
  induction r with
  | nil => simp [sumS]
  | cons q r ih =>
    rw [sumS_cons, sumS_cons, sumS_cons, ih, Int.mul_add, Int.mul_add, Int.mul_sub, Int.mul_sub]
    omega
theorem tri_mate (n p : Int) : tri (n - p) = tri n - (n + 1) * p + tri p := by
  have h1 := two_tri (n - p)
  have h2 := two_tri n
  have h3 := two_tri p
  have h4 : (n - p) * (n - p + 1) = n * (n + 1) - 2 * ((n + 1) * p) + p * (p + 1) := by grind
  omega
theorem about_add {r : RowT} {n : Int} (ok : okF 1 r = true) (hn : lastE r ≤ n) (h0 : 0 ≤ n) : addR (aboutR r n) + (n + 1) * cnt r - addR r = tri n := by
  have h1 := all_sum (fun p => p) ok hn h0
  have h2 := all_sum tri ok hn h0
  have e : sumS (fun p => - tri (n - p)) (allGaps r n) = (n + 1) * sumS (fun p => p) (allGaps r n) - 1 * sumS tri (allGaps r n) := by
    rw [← sumS_lin]
    exact sumS_congr (- tri n) fun p => by rw [tri_mate]; omega
  rw [add_S, add_S, about_sum, e, cnt_S]
  have ht := two_tri n
  have t0 : tri 0 = 0 := by decide
  have e1 : sumS (fun p => p) (allGaps r n) = n - 0 - sumS (fun p => p) r := by omega
  rw [e1]
  have e2 : (n + 1) * (n - 0 - sumS (fun p => p) r) = n * (n + 1) - (n + 1) * sumS (fun p => p) r := by grind
  rw [e2]
  omega
theorem about_to {r : RowT} {n y : Int} (ok : okF 1 r = true) (hn : lastE r ≤ n) (h0 : 0 ≤ y) (hy : y ≤ n) : cntTo (aboutR r n) y = y - (cnt r - cntTo r (n - y)) := by
  have h1 := all_sum (fun p => p) ok hn (by omega)
  have h2 := all_sum (low (n - y)) ok hn (by omega)
  have o := (about_ok2 ok hn (by omega)).1
  have e : sumS (fun p => - low y (n - p)) (allGaps r n) = 1 * sumS (fun p => p) (allGaps r n) - 1 * sumS (low (n - y)) (allGaps r n) := by
    rw [← sumS_lin]
    exact sumS_congr (- y) fun p => by unfold low; split <;> split <;> omega
  rw [cntTo_S o, cntTo_S ok, about_sum, e, cnt_S]
  have e3 : low (n - y) n = n - y := low_lt (by omega)
  have e4 : low (n - y) 0 = 0 := low_ge (by omega)
  omega
theorem about_has {r : RowT} {n y : Int} (ok : okF 1 r = true) (hn : lastE r ≤ n) (h0 : 1 ≤ y) (hy : y ≤ n) : hasB (aboutR r n) y = !hasB r (n + 1 - y) := by
  have h1 := about_to ok hn (show 0 ≤ y by omega) hy
  have h2 := about_to ok hn (show 0 ≤ y - 1 by omega) (by omega)
  have o := (about_ok2 ok hn (by omega)).1
  have s1 := step_has o y
  have s2 := step_has ok (n + 1 - y)
  have e1 : n + 1 - y - 1 = n - y := by omega
  have e2 : n - (y - 1) = n + 1 - y := by omega
  rw [e1] at s2
  rw [e2] at h2
  cases c1 : hasB (aboutR r n) y <;> cases c2 : hasB r (n + 1 - y) <;> rw [c1] at s1 <;> rw [c2] at s2 <;> simp at s1 s2 ⊢ <;> omega
theorem mem_last {r : RowT} (ok : okF 1 r = true) {p : Int} (h : memR r p) : 1 ≤ p ∧ p ≤ lastE r := by
  obtain ⟨q, hq, z1, z2⟩ := h
  have := okF_ge ok hq
  have := lastE_ge ok q hq
  omega
theorem about_twice {r : RowT} {n : Int} (ok : okF 1 r = true) (hn : lastE r ≤ n) (h0 : 0 ≤ n) : aboutR (aboutR r n) n = r := by
  obtain ⟨o1, _, l1⟩ := about_ok2 ok hn h0
  obtain ⟨o2, _, l2⟩ := about_ok2 o1 l1 h0
  refine row_ext o2 ok fun p => ?_
  by_cases c : 1 ≤ p ∧ p ≤ n
  · have h1 := about_has o1 l1 c.1 c.2
    have h2 := about_has ok hn (show 1 ≤ n + 1 - p by omega) (by omega)
    have e : n + 1 - (n + 1 - p) = p := by omega
    rw [e] at h2
    rw [h2, Bool.not_not] at h1
    rw [← hasB_iff, ← hasB_iff, h1]
  · constructor
    · intro z
      have := mem_last o2 z
      omega
    · intro z
      have := mem_last ok z
      omega
end PR

namespace K07
open PySem L2 Dn PR LB LA
theorem t401 : tenP 40 + 1 ≤ tenP 41 := by unfold tenP; decide +kernel
theorem eqv_row (r : RowT) : PyData.eqv (.list (r.map pairD)) (.list (r.map pairD)) = true := eqv_refl _ (SeqAt.canLay_of_shaped (shaped_row r))
theorem cMul_neg {x : Int} (h0 : 0 ≤ x) (h : Sm x) : cMul (-1) x = true := by
  have h1 := cMul_ok' (a := 1) (by omega) (sm_lit (by omega)) h0 h
  simpa [cMul] using h1
theorem over_right_ok {r : RowT} {x : Int} (hr : Strip r) (h1 : 1 ≤ x) (hx : x ≤ tenP 40 + 1) : mf__law_over_right [.val (dRow r), .val (.int x)] = some (.val (.bool true), [.un, .un]) := by
  have hl := hr.len
  have h41 := t401
  obtain ⟨of, lf⟩ := flip_ok1 hr.ok (show 0 ≤ x by omega)
  have tf : Pls (flipR r x) := fun q hq => by
    have g := okF_ge of hq
    have := flip_top (T := tenP 40 + 1) hr.ok (by omega) (fun q hq => by have := hr.top q hq; omega) hx q hq
    omega
  have e1 := turned_over_ok (HR.of_row r) hr.ok (by omega) (show 0 ≤ x by omega)
  have e2 := turned_over_ok (HR.of_row (flipR r x)) of (by omega) (show 0 ≤ x by omega)
  obtain ⟨b1, b2⟩ := flip_back hr.ok h1
  rw [b1] at e2
  have s1 := shows_ok (HR.of_row r) hr.ok (by omega) h1
  have s2 := shows_ok (HR.of_row (flipR r x)) of (by omega) h1
  rw [b2] at s2
  have c1 := heads_ok (HR.of_row r) hr.ok (by omega)
  have c2 := heads_ok (HR.of_row (flipR r x)) of (by omega)
  have a1 := added_ok (HR.of_row r) hr.ok (by omega) hr.pls
  have a2 := added_ok (HR.of_row (flipR r x)) of (by omega) tf
  have p1 := heads_to_ok (x := x - 1) (HR.of_row r) hr.ok (by omega) (by omega)
  have p2 := heads_to_ok (x := x - 1) (HR.of_row (flipR r x)) of (by omega) (by omega)
  have p3 := heads_to_ok (x := x) (HR.of_row r) hr.ok (by omega) (by omega)
  have p4 := heads_to_ok (x := x) (HR.of_row (flipR r x)) of (by omega) (by omega)
  have f1 := flip_sum (fun p => p) hr.ok h1
  have f2 := flip_sum tri hr.ok h1
  have f3 := flip_sum (low (x - 1)) hr.ok h1
  have f4 := flip_sum (low x) hr.ok h1
  rw [← cnt_S, ← cnt_S] at f1
  rw [← add_S, ← add_S] at f2
  rw [← cntTo_S of, ← cntTo_S hr.ok] at f3 f4
  have g1 : x - (x - 1) = 1 := by omega
  have g2 : tri x - tri (x - 1) = x := by
    have t1 := two_tri x
    have t2 := two_tri (x - 1)
    have t3 : x * (x + 1) - (x - 1) * (x - 1 + 1) = 2 * x := by grind
    omega
  have g3 : low (x - 1) x - low (x - 1) (x - 1) = 0 := by rw [low_lt (by omega), low_ge (by omega)]; omega
  have g4 : low x x - low x (x - 1) = 1 := by rw [low_ge (by omega), low_ge (by omega)]; omega
  rw [g1] at f1
  rw [g2] at f2
  rw [g3, Int.mul_zero, Int.add_zero] at f3
  rw [g4] at f4
  rw [f1] at c2
  rw [f2] at a2
  rw [f3] at p2
  rw [f4] at p4
  have sr := shaped_row r
  have er := eqv_row r
  have m0 : cMul 2 0 = true := cMul_ok' (by omega) sm_two (by omega) (sm_lit (by omega))
  have m1 : cMul 2 1 = true := cMul_ok' (by omega) sm_two (by omega) (sm_lit (by omega))
  have hs : Sm x := Int.lt_of_le_of_lt (show x ≤ tenP 41 by omega) (by unfold tenP; decide +kernel)
  have m2 : cMul 1 x = true := cMul_ok' (by omega) (sm_lit (by omega)) (by omega) hs
  have m3 : cMul (-1) x = true := cMul_neg (by omega) hs
  simp only [dRow] at *
  cases hb : hasB r x <;> rw [hb] at s1 s2 c2 a2 p4 <;> simp at s2 c2 a2 p4 <;>
    simp [mf__law_over_right, mb__law_over_right, e1, e2, s1, s2, c1, c2, a1, a2, p1, p2, p3, p4, sr, er, m0, m1, m2, m3, shaped_int, shaped_bool, eqv_int, eqv_bool, -cMul]
def turnA2 : MS := (mSeq (mAsg (fun j => j == 0) 5 (mBin fAdd (mC (.int 1)) (mCallM LA.mf__law_flip 0 [] (mCons (mVar 2) (mNil))))) (mSeq (mIfS (mB (mBin (fEq false) (mCall PR.mf_shows [] (mCons (mVar 3) (mCons (mVar 5) (mNil)))) (mCall PR.mf_shows [] (mCons (mVar 1) (mCons (mBin (fI (fun _ _ => true) fun i j => i - j) (mBin fAdd (mVar 2) (mC (.int 1))) (mVar 5)) (mNil)))))) (mRet (mC (.bool false))) (mNext)) (mIfS (mB (mBin (fEq true) (mCall PR.mf_heads_to [] (mCons (mVar 3) (mCons (mVar 5) (mNil)))) (mBin (fI (fun _ _ => true) fun i j => i - j) (mVar 5) (mBin (fI (fun _ _ => true) fun i j => i - j) (mCall PR.mf_heads [] (mCons (mVar 1) (mNil))) (mCall PR.mf_heads_to [] (mCons (mVar 1) (mCons (mBin (fI (fun _ _ => true) fun i j => i - j) (mVar 2) (mVar 5)) (mNil)))))))) (mRet (mC (.bool false))) (mNext))))
def ifA : MS := (mIfS (mTOr (mB (mBin (fEq true) (mCall PR.mf_about [] (mCons (mVar 3) (mCons (mVar 2) (mNil)))) (mVar 1))) (mTOr (mB (mBin (fEq true) (mBin fAdd (mCall PR.mf_heads [] (mCons (mVar 3) (mNil))) (mCall PR.mf_heads [] (mCons (mVar 1) (mNil)))) (mVar 2))) (mB (mBin (fB fun i j => decide (j < i)) (mCall PR.mf_last_place [] (mCons (mVar 3) (mNil))) (mVar 2))))) (mRet (mC (.bool false))) (mNext))
def ifB : MS := (mIfS (mB (mBin (fEq true) (mBin (fI (fun _ _ => true) fun i j => i - j) (mBin fAdd (mCall PR.mf_added [] (mCons (mVar 3) (mNil))) (mBin fMul (mBin fAdd (mVar 2) (mC (.int 1))) (mCall PR.mf_heads [] (mCons (mVar 1) (mNil))))) (mCall PR.mf_added [] (mCons (mVar 1) (mNil)))) (mBin (fI cDiv fun i j => i / j) (mBin fMul (mVar 2) (mBin fAdd (mVar 2) (mC (.int 1)))) (mC (.int 2))))) (mRet (mC (.bool false))) (mNext))
theorem about_eq : mb__law_about_right = mSeq (mAsg (fun j => j == 0) 3 (mCall PR.mf_about [] (mCons (mVar 1) (mCons (mVar 2) (mNil))))) (mSeq ifA (mSeq ifB (mSeq (mFor (miR1 (mCons (mFn fMin2 (mCons (mVar 2) (mCons (mC (.int 4)) (mNil)))) (mNil))) (mgN (fun j => j == 0) 4) turnA2) (mRet (mC (.bool true)))))) := rfl
theorem about_right_ok {m n : Int} {j : List D} {r : RowT} (hj : BOK m j) (hm : m < 10 ^ 12) (hr : Strip r) (hn : lastE r ≤ n) (hn2 : n ≤ tenP 41) : ∃ j', mf__law_about_right [.own j, .val (dRow r), .val (.int n)] = some (.val (.bool true), [.own j', .un, .un]) ∧ BOK (m + 10) j' := by
  have h0 : 0 ≤ n := Int.le_trans (lastE_nonneg hr.ok) hn
  have hl := hr.len
  have h41 := t41'
  obtain ⟨o, tp, le⟩ := about_ok2 hr.ok hn h0
  have ln := aboutR_len r n
  have tf : Pls (aboutR r n) := fun q hq => by
    have := okF_ge o hq
    have := tp q hq
    omega
  have e1 := about_ok (HR.of_row r) hr.ok (by omega) hn
  have e2 := about_ok (HR.of_row (aboutR r n)) o (by omega) le
  rw [about_twice hr.ok hn h0] at e2
  have c1 := heads_ok (HR.of_row r) hr.ok (by omega)
  have c2 := heads_ok (HR.of_row (aboutR r n)) o (by omega)
  rw [about_cnt hr.ok hn h0] at c2
  have l2 := last_place_ok (HR.of_row (aboutR r n)) o (by omega)
  have a1 := added_ok (HR.of_row r) hr.ok (by omega) hr.pls
  have a2 := added_ok (HR.of_row (aboutR r n)) o (by omega) tf
  have ha := about_add hr.ok hn h0
  have sn : Sm n := Int.lt_of_le_of_lt hn2 (by unfold tenP; decide +kernel)
  have sn1 : Sm (n + 1) := Int.lt_of_le_of_lt (show n + 1 ≤ tenP 41 + 1 by omega) (by unfold tenP; decide +kernel)
  have m1 : cMul (n + 1) (cnt r) = true := cMul_ok' (by omega) sn1 (cnt_bound hr.pls (by omega)).1 (sm_cnt hr.pls (by omega))
  have m2 : cMul n (n + 1) = true := cMul_ok' h0 sn (by omega) sn1
  have hd : ∀ i, cDiv i 2 = true := fun i => cDiv_ok (by decide) sm_two
  have sr := shaped_row r
  have er := eqv_row r
  have hA : addR (aboutR r n) + (n + 1) * cnt r - addR r = n * (n + 1) / 2 := ha
  have hsum : n - cnt r + cnt r = n := by omega
  have step : ∀ (i : Nat) (j' : List D) (s4 s5 : Sl), 1 ≤ n → BOK (m + i) j' → (i : Int) ≤ 10 → ∃ (j2 : List D) (p : Int), turnA2 [.own j', .val (dRow r), .val (.int n), .val (dRow (aboutR r n)), s4, s5] = some (.nx [.own j2, .val (dRow r), .val (.int n), .val (dRow (aboutR r n)), s4, .val (.int p)]) ∧ BOK (m + i + 1) j2 := by
    intro i j' s4 s5 hn1 hJ hi
    obtain ⟨v, j2, f1, v0, v1, J2⟩ := flip_ok (n := n) (by omega) (by omega) sn hJ
    have s1 := shows_ok (x := 1 + v) (HR.of_row (aboutR r n)) o (by omega) (by omega)
    have s2 := shows_ok (x := n + 1 - (1 + v)) (HR.of_row r) hr.ok (by omega) (by omega)
    rw [about_has hr.ok hn (by omega) (by omega)] at s1
    have t1 := heads_to_ok (x := 1 + v) (HR.of_row (aboutR r n)) o (by omega) (by omega)
    have t2 := heads_to_ok (x := n - (1 + v)) (HR.of_row r) hr.ok (by omega) (by omega)
    rw [about_to hr.ok hn (by omega) (by omega)] at t1
    refine ⟨j2, 1 + v, ?_, J2⟩
    simp only [dRow] at *
    cases hb : hasB r (n + 1 - (1 + v)) <;> rw [hb] at s1 s2 <;> simp at s1 <;>
      simp [turnA2, f1, s1, s2, t1, t2, c1, shaped_bool, shaped_int, eqv_bool, eqv_int]
  have h1 : mAsg (fun j => j == 0) 3 (mCall PR.mf_about [] (mCons (mVar 1) (mCons (mVar 2) (mNil)))) [.own j, .val (dRow r), .val (.int n), .un, .un, .un] = some (.nx [.own j, .val (dRow r), .val (.int n), .own ((aboutR r n).map pairD), .un, .un]) := by simp [e1]
  have h2 : ifA [.own j, .val (dRow r), .val (.int n), .own ((aboutR r n).map pairD), .un, .un] = some (.nx [.own j, .val (dRow r), .val (.int n), .val (dRow (aboutR r n)), .un, .un]) := by
    simp only [dRow] at e2 c1 c2 l2 ⊢
    have hlt : ¬ n < lastE (aboutR r n) := by omega
    simp [ifA, e2, c1, c2, l2, sr, er, hsum, shaped_int, eqv_int, hlt]
  have h3 : ifB [.own j, .val (dRow r), .val (.int n), .val (dRow (aboutR r n)), .un, .un] = some (.nx [.own j, .val (dRow r), .val (.int n), .val (dRow (aboutR r n)), .un, .un]) := by
    simp only [dRow] at a1 a2 c1 ⊢
    simp [ifB, a1, a2, c1, m1, m2, hd, hA, shaped_int, eqv_int, -cMul, -cDiv]
  obtain ⟨M, hM, hM4, hM0⟩ : ∃ M : Nat, (if (4 : Int) < n then (4 : Int) else n) = (M : Int) ∧ M ≤ 4 ∧ (0 < M → 1 ≤ n) := by
    refine ⟨(if (4 : Int) < n then (4 : Int) else n).toNat, ?_, ?_, ?_⟩ <;> split <;> omega
  have key := loop_count (g := mgN (fun j => j == 0) 4) (b := turnA2) (fun k : Nat => PyData.int (0 + (k : Int)))
    (fun i ρ => ∃ (j' : List D) (t4 t5 : Sl), ρ = [.own j', .val (dRow r), .val (.int n), .val (dRow (aboutR r n)), t4, t5] ∧ BOK (m + i) j') (List.range M) 0
    [.own j, .val (dRow r), .val (.int n), .val (dRow (aboutR r n)), .un, .un] (fun i x ρ hx hW => by
      obtain ⟨j', t4, t5, rfl, hJ⟩ := hW
      have hi := (List.getElem?_eq_some_iff.mp hx).1
      rw [List.length_range] at hi
      obtain ⟨j2, p, e, hJ'⟩ := step (0 + i) j' (.val (.int (0 + (x : Int)))) t5 (hM0 (by omega)) hJ (by omega)
      exact ⟨[.own j', .val (dRow r), .val (.int n), .val (dRow (aboutR r n)), .val (.int (0 + (x : Int))), t5], _, by simp, .inl e, j2, _, _, rfl, hJ'.mono (by omega)⟩) ⟨j, .un, .un, rfl, hj.mono (by omega)⟩
  obtain ⟨ρ', e, j', t4, t5, rfl, hJ⟩ := key
  rw [List.length_range] at hJ
  have h62 : (M : Int) < 4611686018427387904 ∧ -4611686018427387904 ≤ (M : Int) := by omega
  have hri : miR1 (mCons (mFn fMin2 (mCons (mVar 2) (mCons (mC (.int 4)) (mNil)))) (mNil)) [.own j, .val (dRow r), .val (.int n), .val (dRow (aboutR r n)), .un, .un] = some ((List.range M).map fun (k : Nat) => PyData.int (0 + (k : Int)), [.own j, .val (dRow r), .val (.int n), .val (dRow (aboutR r n)), .un, .un]) := by
    simp [hM, h62, rangeD_map]
  have h4 : mFor (miR1 (mCons (mFn fMin2 (mCons (mVar 2) (mCons (mC (.int 4)) (mNil)))) (mNil))) (mgN (fun j => j == 0) 4) turnA2 [.own j, .val (dRow r), .val (.int n), .val (dRow (aboutR r n)), .un, .un] = some (.nx [.own j', .val (dRow r), .val (.int n), .val (dRow (aboutR r n)), t4, t5]) := by
    rw [mFor_ap, hri]
    exact e
  have hb : mb__law_about_right [.own j, .val (dRow r), .val (.int n), .un, .un, .un] = some (.rt (.val (.bool true)) [.own j', .val (dRow r), .val (.int n), .val (dRow (aboutR r n)), t4, t5]) := by
    rw [about_eq, mSeq_nx h1, mSeq_nx h2, mSeq_nx h3, mSeq_nx h4]
    rfl
  refine ⟨j', ?_, hJ.mono (by omega)⟩
  have := mDef_rt (np := 3) (nl := 6) (kp := fun j => j == 0) (mb := mb__law_about_right) (args := [.own j, .val (dRow r), .val (.int n)]) rfl hb
  simpa [mf__law_about_right] using this
def turnK : MS := (mSeq (mIfS (mTNot (mTru (mCall mf__law_over_right [] (mCons (mVar 1) (mCons (mFn fMax2 (mCons (mC (.int 1)) (mCons (mCallM LA.mf__law_spot 0 [] (mCons (mVar 1) (mNil))) (mNil)))) (mNil)))))) (mRet (mC (.bool false))) (mNext)) (mIfS (mB (mBin (fB fun i j => decide (j < i)) (mVar 2) (mC (.int 0)))) (mSeq (mAsg (fun j => j == 0) 4 (mBin fAdd (mC (.int 1)) (mCallM LA.mf__law_flip 0 [] (mCons (mVar 2) (mNil))))) (mSeq (mAsg (fun j => j == 0) 5 (mCall PR.mf_nth [] (mCons (mVar 1) (mCons (mVar 4) (mNil))))) (mSeq (mIfS (mTOr (mTNot (mTru (mCall PR.mf_shows [] (mCons (mVar 1) (mCons (mVar 5) (mNil)))))) (mB (mBin (fEq true) (mCall PR.mf_heads_to [] (mCons (mVar 1) (mCons (mVar 5) (mNil)))) (mVar 4)))) (mRet (mC (.bool false))) (mNext)) (mIfS (mB (mBin (fEq true) (mCall PR.mf_heads_to [] (mCons (mVar 1) (mCons (mBin (fI (fun _ _ => true) fun i j => i - j) (mVar 5) (mC (.int 1))) (mNil)))) (mBin (fI (fun _ _ => true) fun i j => i - j) (mVar 4) (mC (.int 1))))) (mRet (mC (.bool false))) (mNext))))) (mNext)))
theorem turnK_ok {m : Int} {j : List D} {r : RowT} (hj : BOK m j) (hm : m < 10 ^ 10) (hr : Strip r) (s3 s4 s5 s6 : Sl) :
    ∃ (j' : List D) (t4 t5 : Sl), turnK [.own j, .val (dRow r), .val (.int (cnt r)), s3, s4, s5, s6, .un] = some (.nx [.own j', .val (dRow r), .val (.int (cnt r)), s3, t4, t5, s6, .un]) ∧ BOK (m + 20) j' := by
  have hl := hr.len
  have hp := hr.pls
  obtain ⟨w, j1, e1, w0, w1, J1⟩ := spot_ok hj (by omega) hr
  have h40 := t40'
  have e2 := over_right_ok (x := if w > 1 then w else 1) hr (by split <;> omega) (by split <;> omega)
  by_cases hc : 0 < cnt r
  · have hsm := sm_cnt hp (by omega)
    obtain ⟨v1, j2, f1, a1, b1, J2⟩ := flip_ok (n := cnt r) (by omega) hc hsm J1
    obtain ⟨y, hy⟩ := nthR_some hr.ok (1 + v1) (by omega) (by omega)
    obtain ⟨q1, q2, q3⟩ := nth_fact hr.ok (show 1 ≤ 1 + v1 by omega) hy
    have hy1 := (mem_last hr.ok q1).1
    have e6 := nth_ok (HR.of_row r) hr.ok (by omega) (show 1 ≤ 1 + v1 by omega) hy
    have s1 := shows_ok (HR.of_row r) hr.ok (by omega) hy1
    rw [hasB_iff.mpr q1] at s1
    have t1 := heads_to_ok (x := y) (HR.of_row r) hr.ok (by omega) (by omega)
    have t2 := heads_to_ok (x := y - 1) (HR.of_row r) hr.ok (by omega) (by omega)
    rw [q2] at t1
    rw [q3] at t2
    refine ⟨j2, .val (.int (1 + v1)), .val (.int y), ?_, J2.mono (by omega)⟩
    simp only [dRow] at *
    simp [turnK, e1, e2, f1, e6, s1, t1, t2, hc, shaped_int, eqv_int]
  · refine ⟨j1, s4, s5, ?_, J1.mono (by omega)⟩
    simp only [dRow] at *
    simp [turnK, e1, e2, hc]
def rowM : MS := (mIfS (mTAnd (mB (mBin (fB fun i j => decide (i < j)) (mVar 2) (mC (.int 200)))) (mB (mBin (fEq true) (mCall PR.mf_row_of [] (mCons (mComp (miR1 (mCons (mVar 2) (mNil))) (mgN (fun _ => false) 7) (mTYes) (mCall PR.mf_nth [] (mCons (mVar 1) (mCons (mBin (fI (fun _ _ => true) fun i j => i - j) (mVar 2) (mVar 7)) (mNil)))) [7]) (mNil))) (mVar 1)))) (mRet (mC (.bool false))) (mNext))
def nM : MS := (mAsg (fun j => j == 0) 6 (mBin fAdd (mCall PR.mf_last_place [] (mCons (mVar 1) (mNil))) (mBin fIx (mLst (mCons (mC (.int 0)) (mCons (mC (.int 1)) (mCons (mCallM LA.mf__law_flip 0 [] (mCons (mC (.int 9)) (mNil))) (mCons (mCallM LA.mf__law_flip 0 [] (mCons (mBin (fI cPow fun i j => i ^ j.toNat) (mC (.int 10)) (mC (.int 39))) (mNil))) (mNil)))))) (mCallM LA.mf__law_flip 0 [] (mCons (mC (.int 4)) (mNil))))))
theorem row_of_own (ds : List D) : mf_row_of [.own ds] = mf_row_of [.val (.list ds)] := by simp [mf_row_of, mb_row_of, -mLoop]
theorem row_back {r : RowT} (hr : Strip r) {N : Nat} (hN : cnt r = (N : Int)) (h2 : N < 200) (j : List D) (s3 s4 s5 : Sl) :
    rowM [.own j, .val (dRow r), .val (.int (cnt r)), s3, s4, s5, .un, .un] = some (.nx [.own j, .val (dRow r), .val (.int (cnt r)), s3, s4, s5, .un, .un]) := by
  have hl := hr.len
  have hw : ∀ k, k < N → nthR r ((N : Int) - (k : Int)) = some ((nthR r ((N : Int) - (k : Int))).getD 0) := fun k hk => by
    obtain ⟨w, e⟩ := nthR_some hr.ok ((N : Int) - (k : Int)) (by omega) (by omega)
    rw [e]
    rfl
  have hmem : ∀ p, p ∈ (List.range N).map (fun k : Nat => (nthR r ((N : Int) - (k : Int))).getD 0) ↔ memR r p := fun p => by
    constructor
    · intro h
      obtain ⟨k, hk, rfl⟩ := List.mem_map.mp h
      have hk' := List.mem_range.mp hk
      exact (nth_fact hr.ok (show 1 ≤ (N : Int) - (k : Int) by omega) (hw k hk')).1
    · intro h
      obtain ⟨i1, i2, i3⟩ := nth_inv hr.ok h
      refine List.mem_map.mpr ⟨(N - (cntTo r p).toNat), List.mem_range.mpr (by omega), ?_⟩
      have e : (N : Int) - ((N - (cntTo r p).toNat : Nat) : Int) = cntTo r p := by omega
      rw [e, i1]
      rfl
  have hnd : ((List.range N).map (fun k : Nat => (nthR r ((N : Int) - (k : Int))).getD 0)).Nodup := by
    show List.Pairwise _ _
    rw [List.pairwise_map]
    refine List.Pairwise.imp_of_mem ?_ List.pairwise_lt_range
    intro a b ha hb hab e
    have ha' := List.mem_range.mp ha
    have hb' := List.mem_range.mp hb
    have f1 := (nth_fact hr.ok (show 1 ≤ (N : Int) - (a : Int) by omega) (hw a ha')).2.1
    have f2 := (nth_fact hr.ok (show 1 ≤ (N : Int) - (b : Int) by omega) (hw b hb')).2.1
    rw [e, f2] at f1
    omega
  have h1 : ∀ x ∈ (List.range N).map (fun k : Nat => (nthR r ((N : Int) - (k : Int))).getD 0), 1 ≤ x := fun x hx => (mem_last hr.ok ((hmem x).mp hx)).1
  have hrow : rowF (sortI ((List.range N).map (fun k : Nat => (nthR r ((N : Int) - (k : Int))).getD 0))) = r := by
    obtain ⟨o, m, _⟩ := rowF_mem hnd h1
    exact row_ext o hr.ok fun p => by rw [m, hmem]
  have e1 := row_of_ok (d := .list (((List.range N).map (fun k : Nat => (nthR r ((N : Int) - (k : Int))).getD 0)).map PyData.int)) (.inl rfl) hnd h1 (by simp; omega)
  rw [hrow, ← row_of_own] at e1
  have h62 : (N : Int) < 4611686018427387904 ∧ -4611686018427387904 ≤ (N : Int) := by omega
  have key : mComp (miR1 (mCons (mVar 2) (mNil))) (mgN (fun _ => false) 7) (mTYes) (mCall PR.mf_nth [] (mCons (mVar 1) (mCons (mBin (fI (fun _ _ => true) fun i j => i - j) (mVar 2) (mVar 7)) (mNil)))) [7] [.own j, .val (dRow r), .val (.int (N : Int)), s3, s4, s5, .un, .un]
      = some (.own (((List.range N).map (fun k : Nat => (nthR r ((N : Int) - (k : Int))).getD 0)).map PyData.int), [.own j, .val (dRow r), .val (.int (N : Int)), s3, s4, s5, .un, .un]) := by
    have e : ((List.range N).map (fun k : Nat => (nthR r ((N : Int) - (k : Int))).getD 0)).map PyData.int = (List.range N).filterMap (fun k : Nat => some (PyData.int ((nthR r ((N : Int) - (k : Int))).getD 0))) := by
      rw [List.filterMap_eq_map', List.map_map]
      rfl
    rw [e]
    refine comp_map (fun k : Nat => PyData.int (0 + (k : Int))) _ (List.range N) (ρ1 := [.own j, .val (dRow r), .val (.int (N : Int)), s3, s4, s5, .un, .un]) (by simp [h62, rangeD_map]) rfl rfl (fun k hk => ?_) (sizeN (by simp; omega))
    have hk' := List.mem_range.mp hk
    have en := nth_ok (HR.of_row r) hr.ok (by omega) (show 1 ≤ (N : Int) - (k : Int) by omega) (hw k hk')
    refine ⟨[.own j, .val (dRow r), .val (.int (N : Int)), s3, s4, s5, .un, .val (.int (0 + (k : Int)))], true, _, by simp, rfl, .inr ⟨rfl, .val (.int ((nthR r ((N : Int) - (k : Int))).getD 0)), _, [.own j, .val (dRow r), .val (.int (N : Int)), s3, s4, s5, .un, .val (.int (0 + (k : Int)))], ?_, rfl, rfl, rfl⟩⟩
    simp [en]
  have sr := shaped_row r
  have er := eqv_row r
  have h2' : (N : Int) < 200 := by omega
  rw [hN]
  generalize (List.range N).map (fun k : Nat => (nthR r ((N : Int) - (k : Int))).getD 0) = L at key e1
  generalize (N : Int) = M at key h2' ⊢
  clear hw hmem hnd h1 hrow h62 h2 hN
  simp only [dRow] at key ⊢
  have c1 : (mB (mBin (fB fun i j => decide (i < j)) (mVar 2) (mC (.int 200)))) [.own j, .val (.list (r.map pairD)), .val (.int M), s3, s4, s5, .un, .un] = some (true, [.own j, .val (.list (r.map pairD)), .val (.int M), s3, s4, s5, .un, .un]) := by
    simp [h2']
  have c2 : mCall PR.mf_row_of [] (mCons (mComp (miR1 (mCons (mVar 2) (mNil))) (mgN (fun _ => false) 7) (mTYes) (mCall PR.mf_nth [] (mCons (mVar 1) (mCons (mBin (fI (fun _ _ => true) fun i j => i - j) (mVar 2) (mVar 7)) (mNil)))) [7]) (mNil)) [.own j, .val (.list (r.map pairD)), .val (.int M), s3, s4, s5, .un, .un] = some (.own (r.map pairD), [.own j, .val (.list (r.map pairD)), .val (.int M), s3, s4, s5, .un, .un]) := by
    rw [mCall_ap, mCons_ap, key]
    simp only [mNil_ap, List.map_nil, List.append_nil, e1]
  have hq : fEq true (.own (r.map pairD)) (.val (.list (r.map pairD))) = some (.val (.bool false)) := by
    simp [sr, er]
  have c3 : (mB (mBin (fEq true) (mCall PR.mf_row_of [] (mCons (mComp (miR1 (mCons (mVar 2) (mNil))) (mgN (fun _ => false) 7) (mTYes) (mCall PR.mf_nth [] (mCons (mVar 1) (mCons (mBin (fI (fun _ _ => true) fun i j => i - j) (mVar 2) (mVar 7)) (mNil)))) [7]) (mNil))) (mVar 1))) [.own j, .val (.list (r.map pairD)), .val (.int M), s3, s4, s5, .un, .un] = some (false, [.own j, .val (.list (r.map pairD)), .val (.int M), s3, s4, s5, .un, .un]) := by
    rw [mB_ap, mBin_ap, c2]
    have v1 : mVar 1 [.own j, .val (.list (r.map pairD)), .val (.int M), s3, s4, s5, .un, .un] = some (.val (.list (r.map pairD)), [.own j, .val (.list (r.map pairD)), .val (.int M), s3, s4, s5, .un, .un]) := rfl
    simp only [v1, hq]
  exact (mIfS_f ((mTAnd_t c1).trans c3)).trans rfl
theorem rowM_ok {r : RowT} (hr : Strip r) (j : List D) (s3 s4 s5 : Sl) : rowM [.own j, .val (dRow r), .val (.int (cnt r)), s3, s4, s5, .un, .un] = some (.nx [.own j, .val (dRow r), .val (.int (cnt r)), s3, s4, s5, .un, .un]) := by
  have hb := (cnt_bound hr.pls (by have := hr.len; omega)).1
  by_cases c : cnt r < 200
  · exact row_back hr (N := (cnt r).toNat) (by omega) (by omega) j s3 s4 s5
  · unfold rowM
    simp [c]
theorem n_ok {m : Int} {j : List D} {r : RowT} (hj : BOK m j) (hm : m < 10 ^ 11) (hr : Strip r) (s2 s3 s4 s5 : Sl) : ∃ (n : Int) (j' : List D), nM [.own j, .val (dRow r), s2, s3, s4, s5, .un, .un] = some (.nx [.own j', .val (dRow r), s2, s3, s4, s5, .val (.int n), .un]) ∧ lastE r ≤ n ∧ n ≤ tenP 41 ∧ BOK (m + 3) j' := by
  have hl := hr.len
  have e0 := last_place_ok (HR.of_row r) hr.ok (by omega)
  have htop : lastE r ≤ tenP 40 := by
    unfold lastE
    cases hg : r.getLast? with
    | none => have := t40'; show (0 : Int) ≤ _; omega
    | some q => have := hr.top q (List.mem_of_getLast? hg); show q.2 ≤ _; omega
  obtain ⟨v1, j1, e1, a1, b1, J1⟩ := flip_ok (n := 9) (by omega) (by omega) (sm_lit (by omega)) hj
  have p39 : 0 < tenP 39 := by unfold tenP; decide +kernel
  have s39 : Sm (tenP 39) := by unfold Sm tenP; decide +kernel
  obtain ⟨v2, j2, e2, a2, b2, J2⟩ := flip_ok (n := tenP 39) (by omega) p39 s39 J1
  obtain ⟨v3, j3, e3, a3, b3, J3⟩ := flip_ok (n := 4) (by omega) (by omega) sm_four J2
  obtain ⟨w, hw, p⟩ := pick4 (x := 0) (y := 1) (z := v1) (u := v2) a3 b3
  have e39 := fun ρ => ten39 ρ
  have h3 : tenP 40 + tenP 39 + 10 ≤ tenP 41 := by unfold tenP; decide +kernel
  generalize tenP 39 = X at *
  refine ⟨lastE r + w, j3, ?_, by omega, by omega, J3.mono (by omega)⟩
  simp only [dRow] at *
  unfold nM
  generalize mBin (fI cPow fun i j => i ^ j.toNat) (mC (.int 10)) (mC (.int 39)) = M39 at e39 ⊢
  simp [e0, e1, e2, e3, e39, p, sizeN]
theorem right_eq : mb__law_right = mSeq (mAsg (fun j => j == 0) 1 (mCallM LA.mf__law_strip 0 [] (mNil))) (mSeq (mAsg (fun j => j == 0) 2 (mCall PR.mf_heads [] (mCons (mVar 1) (mNil)))) (mSeq (mFor (miR1 (mCons (mC (.int 4)) (mNil))) (mgN (fun j => j == 0) 3) turnK) (mSeq rowM (mSeq nM (mRet (mCallM mf__law_about_right 0 [] (mCons (mVar 1) (mCons (mVar 6) (mNil))))))))) := rfl
theorem right_ok {j : List D} (hj : BOK 0 j) : ∃ a', mf__law_right [.own j] = some (.val (.bool true), a') := by
  obtain ⟨r, j1, e1, hr, J1⟩ := strip_ok hj (by omega)
  have hl := hr.len
  have c1 := heads_ok (HR.of_row r) hr.ok (by omega)
  have key := loop_count (g := mgN (fun j => j == 0) 3) (b := turnK) (fun k : Nat => PyData.int (0 + (k : Int)))
    (fun i ρ => ∃ (j' : List D) (t3 t4 t5 : Sl), ρ = [.own j', .val (dRow r), .val (.int (cnt r)), t3, t4, t5, .un, .un] ∧ BOK (500 + 20 * i) j') (List.range 4) 0
    [.own j1, .val (dRow r), .val (.int (cnt r)), .un, .un, .un, .un, .un] (fun i x ρ hx hW => by
      obtain ⟨j', t3, t4, t5, rfl, hJ⟩ := hW
      have hi := (List.getElem?_eq_some_iff.mp hx).1
      rw [List.length_range] at hi
      obtain ⟨j3, u4, u5, e, hJ'⟩ := turnK_ok hJ (by omega) hr (.val (.int (0 + (x : Int)))) t4 t5 .un
      exact ⟨[.own j', .val (dRow r), .val (.int (cnt r)), .val (.int (0 + (x : Int))), t4, t5, .un, .un], _, by simp, .inl e, j3, _, u4, u5, rfl, hJ'.mono (by omega)⟩) ⟨j1, .un, .un, .un, rfl, J1.mono (by omega)⟩
  obtain ⟨ρ', e, j', t3, t4, t5, rfl, hJ'⟩ := key
  rw [List.length_range] at hJ'
  obtain ⟨n, j2, e5, n1, n2, J2⟩ := n_ok hJ' (by omega) hr (.val (.int (cnt r))) t3 t4 t5
  obtain ⟨j3, e6, J3⟩ := about_right_ok J2 (by omega) hr n1 n2
  have h1 : mAsg (fun j => j == 0) 1 (mCallM LA.mf__law_strip 0 [] (mNil)) [.own j, .un, .un, .un, .un, .un, .un, .un] = some (.nx [.own j1, .own (r.map pairD), .un, .un, .un, .un, .un, .un]) := by simp [e1]
  have h2 : mAsg (fun j => j == 0) 2 (mCall PR.mf_heads [] (mCons (mVar 1) (mNil))) [.own j1, .own (r.map pairD), .un, .un, .un, .un, .un, .un] = some (.nx [.own j1, .val (dRow r), .val (.int (cnt r)), .un, .un, .un, .un, .un]) := by
    simp only [dRow] at c1 ⊢
    simp [c1]
  have h3 : mFor (miR1 (mCons (mC (.int 4)) (mNil))) (mgN (fun j => j == 0) 3) turnK [.own j1, .val (dRow r), .val (.int (cnt r)), .un, .un, .un, .un, .un] = some (.nx [.own j', .val (dRow r), .val (.int (cnt r)), t3, t4, t5, .un, .un]) := by
    have hri : miR1 (mCons (mC (.int 4)) (mNil)) [.own j1, .val (dRow r), .val (.int (cnt r)), .un, .un, .un, .un, .un] = some ((List.range 4).map fun (k : Nat) => PyData.int (0 + (k : Int)), [.own j1, .val (dRow r), .val (.int (cnt r)), .un, .un, .un, .un, .un]) := by
      simp [rangeD_map]
    rw [mFor_ap, hri]
    exact e
  have h4 := rowM_ok hr j' t3 t4 t5
  have h6 : mRet (mCallM mf__law_about_right 0 [] (mCons (mVar 1) (mCons (mVar 6) (mNil)))) [.own j2, .val (dRow r), .val (.int (cnt r)), t3, t4, t5, .val (.int n), .un] = some (.rt (.val (.bool true)) [.own j3, .val (dRow r), .val (.int (cnt r)), t3, t4, t5, .val (.int n), .un]) := by
    simp [e6]
  have hb : mb__law_right [.own j, .un, .un, .un, .un, .un, .un, .un] = some (.rt (.val (.bool true)) [.own j3, .val (dRow r), .val (.int (cnt r)), t3, t4, t5, .val (.int n), .un]) := by
    rw [right_eq, mSeq_nx h1, mSeq_nx h2, mSeq_nx h3, mSeq_nx h4, mSeq_nx e5]
    exact h6
  exact ⟨_, mDef_rt (np := 1) (nl := 8) rfl hb⟩
theorem law_eq : mb_law = lawM mf__law_right ((10 : Nat) : Int) := rfl
theorem math : ∀ ns : List Int, ns.length ≤ 63 → ∃ a', mf_law [.val (.list (ns.map PyData.int))] = some (.val (.bool true), a') := by
  intro ns hl
  unfold mf_law
  rw [law_eq]
  exact cells_loop (by decide) (by decide) hl fun j hj => right_ok hj
end K07

open PySem PySem.W PyProof.Rows
set_option maxHeartbeats 0 in
theorem PySem.Challenge.cw_turntell_k07_whole_rows_agree_holds : PySem.Challenge.rw_turntell_k07_whole_rows_agree.Holds := by
  w_on; o_law; k_head; (case hw => w_witness2)
  k_fill
  refine L2.walk_of (l := PySem.Challenge.rw_turntell_k07_whole_rows_agree) (n := 63) (k := 8) (x := "script") (CX := fun _ => L2.CX0) (sp := fun w => Dn.spD _ K07.mf_law) rfl (by decide) rfl ⟨rfl, by decide, by decide⟩ (fun w h Y => PySem.W.kIn_of Y) ?F (fun _ H a ns hl _ hS => Dn.law_ends (n := 63) K07.math H a ns hl hS) (fun _ _ _ _ _ h => h)
  case F =>
    intro w mg fa h KX G hmg
    refine' K07.all_mk KX G hmg ?a0 ?l0 ?c0 ?k0 ?a1 ?l1 ?c1 ?k1 ?a2 ?l2 ?c2 ?k2 ?a3 ?l3 ?c3 ?k3 ?a4 ?l4 ?c4 ?k4 ?a5 ?l5 ?c5 ?k5 ?a6 ?l6 ?c6 ?k6 ?a7 ?l7 ?c7 ?k7 ?a8 ?l8 ?c8 ?k8 ?a9 ?l9 ?c9 ?k9 ?a10 ?l10 ?c10 ?k10 ?a11 ?l11 ?c11 ?k11 ?a12 ?l12 ?c12 ?k12 ?a13 ?l13 ?c13 ?k13 ?a14 ?l14 ?c14 ?k14 ?a15 ?l15 ?c15 ?k15 ?a16 ?l16 ?c16 ?k16 ?a17 ?l17 ?c17 ?k17 ?a18 ?l18 ?c18 ?k18 ?a19 ?l19 ?c19 ?k19 ?a20 ?l20 ?c20 ?k20 ?a21 ?l21 ?c21 ?k21 ?a22 ?l22 ?c22 ?k22 ?a23 ?l23 ?c23 ?k23 ?a24 ?l24 ?c24 ?k24 ?a25 ?l25 ?c25 ?k25 ?a26 ?l26 ?c26 ?k26 ?z_any ?z_bool ?z_enumerate ?z_int ?z_isinstance ?z_len ?z_list ?z_max ?z_min ?z_range ?z_sorted ?z_sum ?z_tuple
    (case a0 => k_is); (case l0 => k_is); (case c0 => k_is); (case k0 => k_is); (case a1 => k_is); (case l1 => k_is); (case c1 => k_is); (case k1 => k_is); (case a2 => k_is); (case l2 => k_is); (case c2 => k_is); (case k2 => k_is); (case a3 => k_is); (case l3 => k_is); (case c3 => k_is); (case k3 => k_is); (case a4 => k_is); (case l4 => k_is); (case c4 => k_is); (case k4 => k_is); (case a5 => k_is); (case l5 => k_is); (case c5 => k_is); (case k5 => k_is); (case a6 => k_is); (case l6 => k_is); (case c6 => k_is); (case k6 => k_is); (case a7 => k_is); (case l7 => k_is); (case c7 => k_is); (case k7 => k_is); (case a8 => k_is); (case l8 => k_is); (case c8 => k_is); (case k8 => k_is); (case a9 => k_is); (case l9 => k_is); (case c9 => k_is); (case k9 => k_is); (case a10 => k_is); (case l10 => k_is); (case c10 => k_is); (case k10 => k_is); (case a11 => k_is); (case l11 => k_is); (case c11 => k_is); (case k11 => k_is); (case a12 => k_is); (case l12 => k_is); (case c12 => k_is); (case k12 => k_is); (case a13 => k_is); (case l13 => k_is); (case c13 => k_is); (case k13 => k_is); (case a14 => k_is); (case l14 => k_is); (case c14 => k_is); (case k14 => k_is); (case a15 => k_is); (case l15 => k_is); (case c15 => k_is); (case k15 => k_is); (case a16 => k_is); (case l16 => k_is); (case c16 => k_is); (case k16 => k_is); (case a17 => k_is); (case l17 => k_is); (case c17 => k_is); (case k17 => k_is); (case a18 => k_is); (case l18 => k_is); (case c18 => k_is); (case k18 => k_is); (case a19 => k_is); (case l19 => k_is); (case c19 => k_is); (case k19 => k_is); (case a20 => k_is); (case l20 => k_is); (case c20 => k_is); (case k20 => k_is); (case a21 => k_is); (case l21 => k_is); (case c21 => k_is); (case k21 => k_is); (case a22 => k_is); (case l22 => k_is); (case c22 => k_is); (case k22 => k_is); (case a23 => k_is); (case l23 => k_is); (case c23 => k_is); (case k23 => k_is); (case a24 => k_is); (case l24 => k_is); (case c24 => k_is); (case k24 => k_is); (case a25 => k_is); (case l25 => k_is); (case c25 => k_is); (case k25 => k_is); (case a26 => k_is); (case l26 => k_is); (case c26 => k_is); (case k26 => k_is); (case z_any => k_is); (case z_bool => k_is); (case z_enumerate => k_is); (case z_int => k_is); (case z_isinstance => k_is); (case z_len => k_is); (case z_list => k_is); (case z_max => k_is); (case z_min => k_is); (case z_range => k_is); (case z_sorted => k_is); (case z_sum => k_is); (case z_tuple => k_is)

