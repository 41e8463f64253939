import PyProof.Rows.All
import Wide.All
import OpenK.AllK
import Wide.FinOn
import PyProof.StrOps2
import PyProof.Rows.StrRev
import PyProof.MaxThree
import KE.KTupSum
import PyProof.AutoSeq1
import PyProof.Rows.StrOr
import PyProof.SumAny
import PyProof.FactsAll.subtypes_4
import KE.SortData
import Flt.RightSqrt
import PyProof.Rows.Digits
import HandS.Base
import HandS.Call
import HandS.List
import HandS.Comp
import HandS.Evl
import HandS.ForMost
import HandS.Wide
import HandS.IsInst
import HandS.Strs
import HandS.Conv
import HandS.SortInts
import HandS.SortRule
import HandS.More
import HandS.NoneIn
import HandS.Flow
import HandS.AnyAll
import HandS.Sort
import HandS.Style
import HandS.Zip
import HandS.Ends
import HandS.Dict
import HandS.WideBits
import HandS.Rev
import HandS.RevRange
import HandS.DictTup
import HandS.Deep
import HandS.SetFor
import HandS.Text
import HandS.Iter
import HandS.StrMore
import HandS.Defaults
import HandS.MakeKwOnly
import HandS.Gcd
import PySem.Challenge.RW_turntell_k61_rows_by_runs
set_option Elab.async false
set_option linter.all false
set_option maxRecDepth 100000
set_option maxHeartbeats 4000000
namespace Dn
open PySem PySem.Spec PyProof.Rows L2
open Evl (Ex)
abbrev D := PyData
def TupK (K : PySem.W.Frag) (a : Addr) (i j : Int) : Prop := i * j = 0 ∧
  ∃ (o : Obj) (its : Array Value) (n : Nat), K.lookup a = some o ∧ o.cls = .type "tuple" ∧ o.data = .seq its n ∧ its.size ≤ sizeLine ∧ Vals [V.int i, V.int j] its.toList
theorem TupK.sqt {K : PySem.W.Frag} {a : Addr} {i j : Int} (h : TupK K a i j) (H : Hp) : SqT K H a [.int i, .int j] := .inr h.2
mutual
inductive Rp (K : PySem.W.Frag) (H : Hp) : V → D → Prop
  | non : Rp K H .non .none
  | bl (b : Bool) : Rp K H (.bl b) (.bool b)
  | int (i : Int) : Rp K H (.int i) (.int i)
  | str (x : Str) : Rp K H (.str x) (.str x)
  | lst {a : Addr} {xs : List V} {ds : List D} : SqL K H a xs → RpA K H xs ds → Rp K H (.ref a) (.list ds)
  | tup {a : Addr} {xs : List V} {ds : List D} : H a = some (.tup xs) → RpA K H xs ds → Rp K H (.ref a) (.tuple ds)
  | tupK {a : Addr} {i j : Int} : TupK K a i j → Rp K H (.ref a) (.tuple [.int i, .int j])
  | dic {a : Addr} (kvs : List (Str × Str)) : H a = some (.dK (kvs.map fun q => (Sum.inr q.1, V.str q.2))) → Rp K H (.ref a) (.dict (kvs.map fun q => (.str q.1, .str q.2)))
inductive RpA (K : PySem.W.Frag) (H : Hp) : List V → List D → Prop
  | nil : RpA K H [] []
  | cons {v : V} {vs : List V} {d : D} {ds : List D} : Rp K H v d → RpA K H vs ds → RpA K H (v :: vs) (d :: ds)
end
mutual
theorem Rp.mono {K : PySem.W.Frag} {H H' : Hp} (e : Ex H H') : ∀ (d : D) (v : V), Rp K H v d → Rp K H' v d
  | .none, _, h => by cases h; exact .non
  | .bool b, _, h => by cases h; exact .bl b
  | .int i, _, h => by cases h; exact .int i
  | .str x, _, h => by cases h; exact .str x
  | .list ds, _, h => by
    cases h with
    | lst hs ha => exact .lst (Evl.ex_l e hs) (RpA.mono e ds _ ha)
  | .tuple ds, _, h => by
    cases h with
    | tup hs ha => exact .tup (e _ _ hs) (RpA.mono e ds _ ha)
    | tupK hk => exact .tupK hk
  | .dict _, _, h => by
    cases h with
    | dic kvs h => exact .dic kvs (e _ _ h)
theorem RpA.mono {K : PySem.W.Frag} {H H' : Hp} (e : Ex H H') : ∀ (ds : List D) (vs : List V), RpA K H vs ds → RpA K H' vs ds
  | [], _, h => by cases h; exact .nil
  | d :: ds, _, h => by
    cases h with
    | cons h1 h2 => exact .cons (Rp.mono e d _ h1) (RpA.mono e ds _ h2)
end
theorem Rp.up {K : PySem.W.Frag} {H H' : Hp} {v : V} {d : D} (h : Rp K H v d) (e : Ex H H') : Rp K H' v d := Rp.mono e _ _ h
theorem RpA.up {K : PySem.W.Frag} {H H' : Hp} {v : List V} {d : List D} (h : RpA K H v d) (e : Ex H H') : RpA K H' v d := RpA.mono e _ _ h
theorem RpA.len {K : PySem.W.Frag} {H : Hp} : ∀ {vs : List V} {ds : List D}, RpA K H vs ds → vs.length = ds.length
  | _, _, .nil => rfl
  | _, _, .cons _ t => congrArg (· + 1) (RpA.len t)
theorem RpA.get {K : PySem.W.Frag} {H : Hp} : ∀ {vs : List V} {ds : List D} {i : Nat} {v : V}, RpA K H vs ds → vs[i]? = some v → ∃ d, ds[i]? = some d ∧ Rp K H v d
  | _, _, _, _, .nil, e => by simp at e
  | _, _, 0, _, .cons r _, e => by simp at e; subst e; exact ⟨_, rfl, r⟩
  | _, _, i + 1, _, .cons _ t, e => by
    obtain ⟨d, h1, h2⟩ := RpA.get (i := i) t (by simpa using e)
    exact ⟨d, by simpa using h1, h2⟩
theorem RpA.getD {K : PySem.W.Frag} {H : Hp} : ∀ {vs : List V} {ds : List D} {i : Nat} {d : D}, RpA K H vs ds → ds[i]? = some d → ∃ v, vs[i]? = some v ∧ Rp K H v d
  | _, _, _, _, .nil, e => by simp at e
  | _, _, 0, _, .cons r _, e => by simp at e; subst e; exact ⟨_, rfl, r⟩
  | _, _, i + 1, _, .cons _ t, e => by
    obtain ⟨d, h1, h2⟩ := RpA.getD (i := i) t (by simpa using e)
    exact ⟨d, by simpa using h1, h2⟩
theorem RpA.app {K : PySem.W.Frag} {H : Hp} : ∀ {vs ws : List V} {ds es : List D}, RpA K H vs ds → RpA K H ws es → RpA K H (vs ++ ws) (ds ++ es)
  | _, _, _, _, .nil, s => s
  | _, _, _, _, .cons r t, s => .cons r (RpA.app t s)
theorem RpA.set {K : PySem.W.Frag} {H : Hp} {v : V} {d : D} (r : Rp K H v d) : ∀ {vs : List V} {ds : List D} (i : Nat), RpA K H vs ds → RpA K H (vs.set i v) (ds.set i d)
  | _, _, _, .nil => .nil
  | _, _, 0, .cons _ t => .cons r t
  | _, _, i + 1, .cons q t => .cons q (RpA.set r i t)
theorem RpA.take {K : PySem.W.Frag} {H : Hp} : ∀ {vs : List V} {ds : List D} (n : Nat), RpA K H vs ds → RpA K H (vs.take n) (ds.take n)
  | _, _, 0, _ => .nil
  | _, _, _ + 1, .nil => .nil
  | _, _, n + 1, .cons r t => .cons r (RpA.take n t)
theorem RpA.drop {K : PySem.W.Frag} {H : Hp} : ∀ {vs : List V} {ds : List D} (n : Nat), RpA K H vs ds → RpA K H (vs.drop n) (ds.drop n)
  | _, _, 0, r => r
  | _, _, _ + 1, .nil => .nil
  | _, _, n + 1, .cons _ t => RpA.drop n t
theorem RpA.rev {K : PySem.W.Frag} {H : Hp} : ∀ {vs : List V} {ds : List D}, RpA K H vs ds → RpA K H vs.reverse ds.reverse
  | _, _, .nil => .nil
  | _, _, .cons r t => by
    rw [List.reverse_cons, List.reverse_cons]
    exact RpA.app (RpA.rev t) (.cons r .nil)
theorem RpA.ints {K : PySem.W.Frag} {H : Hp} : ∀ {vs : List V} {ns : List Int}, RpA K H vs (ns.map PyData.int) → vs = ns.map V.int
  | _, [], h => by cases h; rfl
  | _, n :: ns, h => by
    cases h with
    | cons h1 h2 =>
      cases h1
      rw [RpA.ints h2]
      rfl
theorem RpA.ofInts {K : PySem.W.Frag} {H : Hp} : ∀ {ns : List Int}, RpA K H (ns.map V.int) (ns.map PyData.int)
  | [] => .nil
  | n :: ns => .cons (.int n) RpA.ofInts
theorem RpA.bools {K : PySem.W.Frag} {H : Hp} : ∀ {vs : List V} {ns : List Bool}, RpA K H vs (ns.map PyData.bool) → vs = ns.map V.bl
  | _, [], h => by cases h; rfl
  | _, n :: ns, h => by
    cases h with
    | cons h1 h2 =>
      cases h1
      rw [RpA.bools h2]
      rfl
inductive Sl where
  | un
  | val (d : D)
  | own (ds : List D)
  | ex (cls : Str)
abbrev Ent := Sl × Option V
def cn (K : PySem.W.Frag) (x : Str) : Value := match PySem.W.nsIn K mainGlobals x with
  | some (some v) => v
  | _ => .none
def IsExc (a : Addr) (cls : Value) (d : Option Addr) (h : Heap) : Prop := ∃ o vs, h.get? a = some o ∧ o.cls = cls ∧ o.dict = d ∧ o.data = .fields vs
abbrev excO (a : Addr) (cls : Value) (d : Option Addr) : HO := .ext (IsExc a cls d)
def SlOk (K : PySem.W.Frag) (G F H : Hp) : Ent → Prop
  | (.un, _) => True
  | (.val d, ov) => ∃ v, ov = some v ∧ Rp K G v d
  | (.own ds, ov) => ∃ p vs, ov = some (.ref p) ∧ H p = some (.lst vs) ∧ G p = none ∧ F p = none ∧ RpA K G vs ds
  | (.ex c, ov) => ∃ a, ov = some (.ref a) ∧ G a = some (excO a (cn K c) none)
def Own (e : Ent) (p : Addr) : Prop := (∃ ds, e.1 = .own ds) ∧ e.2 = some (.ref p)
def apart (e e' : Ent) : Prop := ∀ p, Own e p → ¬ Own e' p
theorem apart.symm {e e' : Ent} (h : apart e e') : apart e' e := fun p a b => h p b a
theorem apart_un {ov : Option V} {e : Ent} : apart (.un, ov) e := fun p h => by
  obtain ⟨⟨ds, e⟩, _⟩ := h
  cases e
theorem apart_val {d : D} {ov : Option V} {e : Ent} : apart (.val d, ov) e := fun p h => by
  obtain ⟨⟨ds, e⟩, _⟩ := h
  cases e
theorem Own.eq {ds : List D} {p q : Addr} (h : Own (.own ds, some (.ref p)) q) : q = p := by
  obtain ⟨_, e⟩ := h
  exact (V.ref.inj (Option.some.inj e)).symm
theorem own_own {ds : List D} {p : Addr} : Own (.own ds, some (.ref p)) p := ⟨⟨ds, rfl⟩, rfl⟩
structure RelL (K : PySem.W.Frag) (G F : Hp) (L : List Ent) (H : Hp) : Prop where
  eg : Ex G H
  ef : Ex F H
  gf : ∀ a o, F a = some o → G a = none
  ok : ∀ e ∈ L, SlOk K G F H e
  ap : L.Pairwise apart
section
variable {K : PySem.W.Frag} {G F H : Hp} {L L' : List Ent} {p : Addr} {d : D} {v : V} {ds : List D} {vs : List V} {ov : Option V} {e : Ent}
theorem RelL.owned (R : RelL K G F L H) (he : e ∈ L) (ho : Own e p) : ∃ vs, H p = some (.lst vs) ∧ G p = none ∧ F p = none := by
  have h := R.ok e he
  obtain ⟨⟨ds, e1⟩, e2⟩ := ho
  obtain ⟨s, ov⟩ := e
  cases e1
  cases e2
  obtain ⟨q, vs, h1, h2, h3, h4, _⟩ := h
  cases h1
  exact ⟨vs, h2, h3, h4⟩
theorem RelL.sub (R : RelL K G F L H) (h : L'.Sublist L) : RelL K G F L' H := ⟨R.eg, R.ef, R.gf, fun e he => R.ok e (h.subset he), R.ap.sublist h⟩
theorem RelL.perm (R : RelL K G F L H) (h : L.Perm L') : RelL K G F L' H :=
  ⟨R.eg, R.ef, R.gf, fun e he => R.ok e (h.symm.subset he), (h.pairwise_iff (fun {x y} (a : apart x y) => a.symm)).mp R.ap⟩
theorem RelL.push (R : RelL K G F L H) (h : SlOk K G F H e) (a : ∀ e' ∈ L, apart e e') : RelL K G F (e :: L) H :=
  ⟨R.eg, R.ef, R.gf, fun x hx => (List.mem_cons.mp hx).elim (fun z => z ▸ h) (R.ok x), List.Pairwise.cons a R.ap⟩
theorem RelL.pushVal (R : RelL K G F L H) (h : Rp K G v d) : RelL K G F ((.val d, some v) :: L) H := R.push ⟨v, rfl, h⟩ fun _ _ => apart_val
theorem RelL.pushUn (R : RelL K G F L H) : RelL K G F ((.un, ov) :: L) H := R.push True.intro fun _ _ => apart_un
theorem ex_new2 {A B : Hp} {o : HO} (e : Ex A B) (hn : B p = none) : Ex A (upd B p o) := e.trans (Ex.new hn)
theorem free_of {A B : Hp} (e : Ex A B) (hn : B p = none) : A p = none := Evl.fresh_back e hn
theorem ex_both {A B : Hp} {o : HO} (e : Ex A B) : Ex (upd A p o) (upd B p o) := fun a u h => by
  by_cases q : a = p
  · subst q
    rw [upd_same] at h ⊢
    exact h
  · rw [upd_ne q] at h ⊢
    exact e a u h
theorem RelL.grow {o : HO} (R : RelL K G F L H) (hn : H p = none) : RelL K (upd G p o) F L (upd H p o) := by
  have hg := free_of R.eg hn
  have hf := free_of R.ef hn
  refine ⟨ex_both R.eg, ex_new2 R.ef hn, fun a u h => ?_, fun e he => ?_, R.ap⟩
  · rw [upd_ne (ne_of_none h hf)]
    exact R.gf a u h
  · have h := R.ok e he
    obtain ⟨s, ov⟩ := e
    cases s with
    | un => exact True.intro
    | ex c =>
      obtain ⟨v, h1, h2⟩ := h
      exact ⟨v, h1, (Ex.new hg) _ _ h2⟩
    | val d =>
      obtain ⟨v, h1, h2⟩ := h
      exact ⟨v, h1, h2.up (Ex.new hg)⟩
    | own ds =>
      obtain ⟨q, vs, h1, h2, h3, h4, h5⟩ := h
      have nq : q ≠ p := ne_of_none h2 hn
      exact ⟨q, vs, h1, by rw [upd_ne nq]; exact h2, by rw [upd_ne nq]; exact h3, h4, h5.up (Ex.new hg)⟩
theorem RelL.pushOwn (R : RelL K G F L H) (hn : H p = none) (h : RpA K G vs ds) : RelL K G F ((.own ds, some (.ref p)) :: L) (upd H p (.lst vs)) := by
  have hg := free_of R.eg hn
  have hf := free_of R.ef hn
  have R1 : RelL K G F L (upd H p (.lst vs)) := by
    refine ⟨ex_new2 R.eg hn, ex_new2 R.ef hn, R.gf, fun e he => ?_, R.ap⟩
    have h := R.ok e he
    obtain ⟨s, ov⟩ := e
    cases s with
    | un => exact True.intro
    | ex c => exact h
    | val d => exact h
    | own ds =>
      obtain ⟨q, vs, h1, h2, h3, h4, h5⟩ := h
      exact ⟨q, vs, h1, by rw [upd_ne (ne_of_none h2 hn)]; exact h2, h3, h4, h5⟩
  refine R1.push ⟨p, vs, rfl, upd_same, hg, hf, h⟩ fun e he q ho ho' => ?_
  have hq := Own.eq ho
  subst hq
  obtain ⟨vs', h1, _⟩ := R.owned he ho'
  rw [hn] at h1
  cases h1
theorem RelL.mut (R : RelL K G F ((.own ds, some (.ref p)) :: L) H) {vs' : List V} {ds' : List D} (h : RpA K G vs' ds') : RelL K G F ((.own ds', some (.ref p)) :: L) (upd H p (.lst vs')) := by
  obtain ⟨vs, h1, h2, h3⟩ := R.owned List.mem_cons_self own_own
  have hp := List.pairwise_cons.mp R.ap
  have exm : ∀ {A : Hp}, Ex A H → A p = none → Ex A (upd H p (.lst vs')) := fun e n => Ex.mut e n
  have R1 : RelL K G F L (upd H p (.lst vs')) := by
    refine ⟨exm R.eg h2, exm R.ef h3, R.gf, fun e he => ?_, hp.2⟩
    have h := R.ok e (List.mem_cons_of_mem _ he)
    have ha := hp.1 e he
    obtain ⟨s, ov⟩ := e
    cases s with
    | un => exact True.intro
    | ex c => exact h
    | val d => exact h
    | own es =>
      obtain ⟨q, ws, g1, g2, g3, g4, g5⟩ := h
      have nq : q ≠ p := fun z => ha p own_own ⟨⟨es, rfl⟩, by rw [g1, z]⟩
      exact ⟨q, ws, g1, by rw [upd_ne nq]; exact g2, g3, g4, g5⟩
  exact R1.push ⟨p, vs', rfl, upd_same, h2, h3, h⟩ fun e he q ho => hp.1 e he q ⟨⟨ds, rfl⟩, ho.2⟩
theorem RelL.give (R : RelL K G F ((.own ds, ov) :: L) H) : ∃ G', Ex G G' ∧ RelL K G' F ((.val (.list ds), ov) :: L) H := by
  obtain ⟨p, vs, h1, h2, h3, h4, h5⟩ := R.ok _ List.mem_cons_self
  subst h1
  have hp := List.pairwise_cons.mp R.ap
  have eg' : Ex G (upd G p (.lst vs)) := Ex.new h3
  refine ⟨upd G p (.lst vs), eg', ⟨fun a o h => ?_, R.ef, fun a o h => ?_, fun e he => ?_, List.Pairwise.cons (fun _ _ => apart_val) hp.2⟩⟩
  · by_cases q : a = p
    · subst q
      rw [upd_same] at h
      rw [h2, ← h]
    · rw [upd_ne q] at h
      exact R.eg a o h
  · have nq : a ≠ p := ne_of_none h h4
    rw [upd_ne nq]
    exact R.gf a o h
  · rcases List.mem_cons.mp he with rfl | he
    · exact ⟨_, rfl, .lst (.inl (.inl upd_same)) (h5.up eg')⟩
    · have h := R.ok e (List.mem_cons_of_mem _ he)
      have ha := hp.1 e he
      obtain ⟨s, ov⟩ := e
      cases s with
      | un => exact True.intro
      | ex c =>
        obtain ⟨v, g1, g2⟩ := h
        exact ⟨v, g1, (eg') _ _ g2⟩
      | val d =>
        obtain ⟨v, g1, g2⟩ := h
        exact ⟨v, g1, g2.up eg'⟩
      | own es =>
        obtain ⟨q, ws, g1, g2, g3, g4, g5⟩ := h
        have nq : q ≠ p := fun z => ha p own_own ⟨⟨es, rfl⟩, by rw [g1, z]⟩
        exact ⟨q, ws, g1, g2, by rw [upd_ne nq]; exact g3, g4, g5.up eg'⟩
end
structure Rel (K : PySem.W.Frag) (G F : Hp) (T : List Ent) (ρ : List Sl) (σ : L2.St) (H : Hp) : Prop where
  len : ρ.length = σ.length
  l : RelL K G F (T ++ ρ.zip σ) H
theorem zip_set {α β : Type} : ∀ (xs : List α) (ys : List β) (i : Nat) (x : α) (y : β), (xs.set i x).zip (ys.set i y) = (xs.zip ys).set i (x, y)
  | [], ys, i, x, y => by simp
  | a :: xs, [], i, x, y => by cases i <;> simp
  | a :: xs, b :: ys, 0, x, y => by simp
  | a :: xs, b :: ys, i + 1, x, y => by simp [zip_set xs ys i x y]
theorem zip_set1 {α β : Type} : ∀ (xs : List α) (ys : List β) (i : Nat) (x : α) (y : β), ys[i]? = some y → (xs.set i x).zip ys = (xs.zip ys).set i (x, y)
  | [], ys, i, x, y, h => by simp
  | a :: xs, [], i, x, y, h => by simp at h
  | a :: xs, b :: ys, 0, x, y, h => by simp at h; simp [h]
  | a :: xs, b :: ys, i + 1, x, y, h => by simp [zip_set1 xs ys i x y (by simpa using h)]
theorem erase_perm {α : Type} : ∀ {Z : List α} {i : Nat} {x : α}, Z[i]? = some x → (x :: Z.eraseIdx i).Perm Z
  | [], i, x, h => by simp at h
  | z :: Z, 0, x, h => by
    have e : z = x := Option.some.inj h
    subst e
    exact List.Perm.refl _
  | z :: Z, i + 1, x, h => by
    have p := erase_perm (Z := Z) (i := i) (x := x) h
    exact (List.Perm.swap z x _).trans (List.Perm.cons z p)
theorem set_erase {α : Type} : ∀ (Z : List α) (i : Nat) (x : α), (Z.set i x).eraseIdx i = Z.eraseIdx i
  | [], i, x => rfl
  | z :: Z, 0, x => rfl
  | z :: Z, i + 1, x => by
    show z :: (Z.set i x).eraseIdx i = z :: Z.eraseIdx i
    rw [set_erase Z i x]
theorem set_perm {α : Type} {Z : List α} {i : Nat} (x : α) (hi : i < Z.length) : (Z.set i x).Perm (x :: Z.eraseIdx i) := by
  have h : (Z.set i x)[i]? = some x := by rw [List.getElem?_set_self hi]
  have p := erase_perm h
  rw [set_erase] at p
  exact p.symm
theorem perm_at {α : Type} {T Z : List α} {i : Nat} {x : α} (h : Z[i]? = some x) : (T ++ Z).Perm (x :: (T ++ Z.eraseIdx i)) := by
  have hi : i < Z.length := (List.getElem?_eq_some_iff.mp h).1
  have e : Z[i] = x := (List.getElem?_eq_some_iff.mp h).2
  have p1 : Z.Perm (x :: Z.eraseIdx i) := (erase_perm h).symm
  exact (List.Perm.append_left T p1).trans List.perm_middle
theorem perm_set {α : Type} {T Z : List α} {i : Nat} {x : α} (hi : i < Z.length) : (T ++ Z.set i x).Perm (x :: (T ++ Z.eraseIdx i)) :=
  (List.Perm.append_left T (set_perm x hi)).trans List.perm_middle
end Dn
namespace Dn
open PySem PySem.Spec PyProof.Rows L2
open Evl (Ex)
section
variable {K : PySem.W.Frag} {G F H : Hp} {T : List Ent} {ρ : List Sl} {σ : L2.St} {i : Nat} {r : Sl} {v : V} {d : D} {ds : List D} {e e' : Ent} {ov : Option V}
theorem zip_at {s : Sl} (len : ρ.length = σ.length) (h : ρ[i]? = some s) : ∃ ov, σ[i]? = some ov ∧ (ρ.zip σ)[i]? = some (s, ov) := by
  have hi : i < ρ.length := (List.getElem?_eq_some_iff.mp h).1
  have hs : σ[i]? = some σ[i] := List.getElem?_eq_getElem (by omega)
  refine ⟨σ[i], hs, ?_⟩
  rw [List.getElem?_zip_eq_some]
  exact ⟨h, hs⟩
theorem Rel.drop (R : Rel K G F (e :: T) ρ σ H) : Rel K G F T ρ σ H := ⟨R.len, R.l.sub (List.sublist_cons_self _ _)⟩
theorem Rel.swap (R : Rel K G F (e :: e' :: T) ρ σ H) : Rel K G F (e' :: e :: T) ρ σ H := ⟨R.len, R.l.perm (List.Perm.swap _ _ _)⟩
theorem Rel.permT {T' : List Ent} (R : Rel K G F T ρ σ H) (p : T.Perm T') : Rel K G F T' ρ σ H := ⟨R.len, R.l.perm (List.Perm.append_right _ p)⟩
theorem Rel.var (R : Rel K G F T ρ σ H) (h : ρ[i]? = some (.val d)) : ∃ v, σ[i]? = some (some v) ∧ Rp K G v d ∧ Rel K G F ((.val d, some v) :: T) ρ σ H := by
  obtain ⟨ov, h1, h2⟩ := zip_at R.len h
  obtain ⟨v, e, hv⟩ := R.l.ok (.val d, ov) (List.mem_append_right _ (List.mem_of_getElem? h2))
  subst e
  exact ⟨v, h1, hv, R.len, R.l.pushVal hv⟩
theorem Rel.exVar {c : Str} (R : Rel K G F T ρ σ H) (h : ρ[i]? = some (.ex c)) : ∃ v, σ[i]? = some (some v) ∧ Rel K G F ((.ex c, some v) :: T) ρ σ H := by
  obtain ⟨ov, h1, h2⟩ := zip_at R.len h
  obtain ⟨a, e, ha⟩ := R.l.ok (.ex c, ov) (List.mem_append_right _ (List.mem_of_getElem? h2))
  subst e
  refine ⟨.ref a, h1, R.len, R.l.push ⟨a, rfl, ha⟩ fun e _ q ho => ?_⟩
  obtain ⟨⟨ds, z⟩, _⟩ := ho
  cases z
theorem Rel.ownVar (R : Rel K G F T ρ σ H) (h : ρ[i]? = some (.own ds)) : ∃ p vs, σ[i]? = some (some (.ref p)) ∧ H p = some (.lst vs) ∧ RpA K G vs ds := by
  obtain ⟨ov, h1, h2⟩ := zip_at R.len h
  obtain ⟨p, vs, e, q1, q2, q3, q4⟩ := R.l.ok (.own ds, ov) (List.mem_append_right _ (List.mem_of_getElem? h2))
  subst e
  exact ⟨p, vs, h1, q1, q4⟩
theorem Rel.giveVar (R : Rel K G F T ρ σ H) (h : ρ[i]? = some (.own ds)) : ∃ v G', σ[i]? = some (some v) ∧ Ex G G' ∧ Rel K G' F ((.val (.list ds), some v) :: T) (ρ.set i (.val (.list ds))) σ H := by
  obtain ⟨ov, h1, h2⟩ := zip_at R.len h
  have hi : i < ρ.length := (List.getElem?_eq_some_iff.mp h).1
  have hiz : i < (ρ.zip σ).length := (List.getElem?_eq_some_iff.mp h2).1
  have R1 := R.l.perm (perm_at (T := T) h2)
  obtain ⟨G', eg, R2⟩ := R1.give
  obtain ⟨v, e, hv⟩ := R2.ok _ List.mem_cons_self
  subst e
  refine ⟨v, G', h1, eg, by rw [List.length_set]; exact R.len, ?_⟩
  rw [zip_set1 _ _ _ _ _ h1]
  exact (R2.perm (perm_set (T := T) hiz).symm).pushVal hv
theorem Rel.assign (R : Rel K G F ((r, ov) :: T) ρ σ H) (hi : i < ρ.length) : Rel K G F T (ρ.set i r) (σ.set i ov) H := by
  refine ⟨by rw [List.length_set, List.length_set]; exact R.len, ?_⟩
  have hiz : i < (ρ.zip σ).length := by rw [List.length_zip, ← R.len]; omega
  rw [zip_set]
  refine (R.l.sub ?_).perm (perm_set (T := T) hiz).symm
  exact List.Sublist.cons_cons _ (List.Sublist.append (List.Sublist.refl T) (List.eraseIdx_sublist _ _))
theorem Rel.forget (R : Rel K G F T ρ σ H) (i : Nat) (ov : Option V) : Rel K G F T (ρ.set i .un) (σ.set i ov) H := by
  by_cases hi : i < ρ.length
  · exact Rel.assign ⟨R.len, R.l.pushUn⟩ hi
  · have e1 : ρ.set i .un = ρ := List.set_eq_of_length_le (by omega)
    have e2 : σ.set i ov = σ := List.set_eq_of_length_le (by rw [← R.len]; omega)
    rw [e1, e2]
    exact R
theorem Rel.mutVar {p : Addr} {vs' : List V} {ds' : List D} (R : Rel K G F T ρ σ H) (h : ρ[i]? = some (.own ds)) (hp : σ[i]? = some (some (.ref p))) (ha : RpA K G vs' ds') :
    Rel K G F T (ρ.set i (.own ds')) σ (upd H p (.lst vs')) := by
  obtain ⟨ov, h1, h2⟩ := zip_at R.len h
  rw [hp] at h1
  cases h1
  have hiz : i < (ρ.zip σ).length := (List.getElem?_eq_some_iff.mp h2).1
  have R1 := (R.l.perm (perm_at (T := T) h2)).mut ha
  refine ⟨by rw [List.length_set]; exact R.len, ?_⟩
  rw [zip_set1 _ _ _ _ _ hp]
  exact R1.perm (perm_set (T := T) hiz).symm
theorem Rel.out {p : Addr} (R : Rel K G F T ρ σ H) (h : ρ[i]? = some (.own ds)) (hp : σ[i]? = some (some (.ref p))) : Rel K G F ((.own ds, some (.ref p)) :: T) (ρ.set i .un) σ H := by
  obtain ⟨ov, h1, h2⟩ := zip_at R.len h
  rw [hp] at h1
  cases h1
  have hiz : i < (ρ.zip σ).length := (List.getElem?_eq_some_iff.mp h2).1
  refine ⟨by rw [List.length_set]; exact R.len, ?_⟩
  have R1 := R.l.perm (perm_at (T := T) h2)
  rw [zip_set1 _ _ _ _ _ hp]
  have hc := List.pairwise_cons.mp R1.ap
  have R0 := (R1.sub (List.sublist_cons_self _ _)).pushUn (ov := some (.ref p))
  have R2 := R0.perm (perm_set (T := T) hiz).symm
  refine R2.push (R1.ok _ List.mem_cons_self) fun e he => ?_
  rcases List.mem_cons.mp ((perm_set (T := T) hiz).subset he) with rfl | he'
  · exact apart_un.symm
  · exact hc.1 e he'
theorem Rel.back {s : Sl} (R : Rel K G F ((s, ov) :: T) ρ σ H) (hp : σ[i]? = some ov) : Rel K G F T (ρ.set i s) σ H := by
  have hi : i < σ.length := (List.getElem?_eq_some_iff.mp hp).1
  have R1 := R.assign (i := i) (by rw [R.len]; exact hi)
  have e : σ.set i ov = σ := by
    have e1 : σ[i] = ov := (List.getElem?_eq_some_iff.mp hp).2
    rw [← e1]
    exact List.set_getElem_self hi
  rw [e] at R1
  exact R1
end
abbrev MX := List Sl → Option (Sl × List Sl)
abbrev MT := List Sl → Option (Bool × List Sl)
abbrev MA := List Sl → Option (List Sl × List Sl)
def Den (K : PySem.W.Frag) (t : TE) (m : MX) : Prop := ∀ (G F : Hp) (T : List Ent) (ρ : List Sl) (σ : L2.St) (H : Hp) (r : Sl) (ρ' : List Sl) (Q : VK), Rel K G F T ρ σ H → m ρ = some (r, ρ') →
  (∀ v G' H', Ex G G' → Rel K G' F ((r, some v) :: T) ρ' σ H' → Q v H') → t σ H Q
def DenT (K : PySem.W.Frag) (t : TT) (m : MT) : Prop := ∀ (G F : Hp) (T : List Ent) (ρ : List Sl) (σ : L2.St) (H : Hp) (b : Bool) (ρ' : List Sl) (Q : Bool → Hp → Prop), Rel K G F T ρ σ H → m ρ = some (b, ρ') →
  (∀ G' H', Ex G G' → Rel K G' F T ρ' σ H' → Q b H') → t σ H Q
def ents (rs : List Sl) (vs : List V) : List Ent := rs.zip (vs.map some)
def DenA (K : PySem.W.Frag) (t : TA) (m : MA) : Prop := ∀ (G F : Hp) (T : List Ent) (ρ : List Sl) (σ : L2.St) (H : Hp) (rs : List Sl) (ρ' : List Sl) (Q : List V → Hp → Prop), Rel K G F T ρ σ H → m ρ = some (rs, ρ') →
  (∀ vs G' H', Ex G G' → rs.length = vs.length → Rel K G' F (ents rs vs ++ T) ρ' σ H' → Q vs H') → t σ H Q
structure ME (X : Cx) (K : PySem.W.Frag) (e : Expr) (t : TE) (m : MX) : Prop where
  hK : X.K = K
  pe : PE X e t
  dn : Den K t m
structure MET (X : Cx) (K : PySem.W.Frag) (e : Expr) (t : TT) (m : MT) : Prop where
  hK : X.K = K
  pe : PT X e t
  dn : DenT K t m
structure MEW (X : Cx) (K : PySem.W.Frag) (e : Expr) (t : TT) (m : MT) : Prop where
  hK : X.K = K
  pe : PW X e t
  dn : DenT K t m
structure MEA (X : Cx) (K : PySem.W.Frag) (es : List Expr) (t : TA) (m : MA) : Prop where
  hK : X.K = K
  pe : PA X es t
  dn : DenA K t m
def mVar (i : Nat) : MX := fun ρ => match ρ[i]? with
  | some (.val d) => some (.val d, ρ)
  | some (.ex c) => some (.ex c, ρ)
  | some (.own ds) => some (.val (.list ds), ρ.set i (.val (.list ds)))
  | _ => none
def mC (d : D) : MX := fun ρ => some (.val d, ρ)
def mBin (f : Sl → Sl → Option Sl) (a b : MX) : MX := fun ρ => match a ρ with
  | none => none
  | some (x, ρ1) => match b ρ1 with
    | none => none
    | some (y, ρ2) => match f x y with
      | none => none
      | some z => some (z, ρ2)
def mUn (f : Sl → Option Sl) (a : MX) : MX := fun ρ => match a ρ with
  | none => none
  | some (x, ρ1) => match f x with
    | none => none
    | some z => some (z, ρ1)
def mNil : MA := fun ρ => some ([], ρ)
def mCons (a : MX) (b : MA) : MA := fun ρ => match a ρ with
  | none => none
  | some (x, ρ1) => match b ρ1 with
    | none => none
    | some (xs, ρ2) => some (x :: xs, ρ2)
def mFn (f : List Sl → Option Sl) (a : MA) : MX := fun ρ => match a ρ with
  | none => none
  | some (xs, ρ1) => match f xs with
    | none => none
    | some z => some (z, ρ1)
def mB (a : MX) : MT := fun ρ => match a ρ with
  | some (.val (.bool b), ρ1) => some (b, ρ1)
  | _ => none
@[simp] def tru : Sl → Option Bool
  | .val .none => some false
  | .val (.bool b) => some b
  | .val (.int i) => some (i != 0)
  | .val (.str x) => if x.length ≤ sizeLine then some ((x.length : Int) != 0) else none
  | .val (.list ds) => some (!ds.isEmpty)
  | .val (.tuple ds) => some (!ds.isEmpty)
  | .own ds => some (!ds.isEmpty)
  | _ => none
def mTru (a : MX) : MT := fun ρ => match a ρ with
  | none => none
  | some (x, ρ1) => match tru x with
    | none => none
    | some b => some (b, ρ1)
def mTAnd (a b : MT) : MT := fun ρ => match a ρ with
  | none => none
  | some (c, ρ1) => if c = true then b ρ1 else some (false, ρ1)
def mTOr (a b : MT) : MT := fun ρ => match a ρ with
  | none => none
  | some (c, ρ1) => if c = true then some (true, ρ1) else b ρ1
def mTNot (a : MT) : MT := fun ρ => match a ρ with
  | none => none
  | some (c, ρ1) => some (!c, ρ1)
def mAndV (a b : MX) : MX := fun ρ => match a ρ with
  | some (.val (.bool c), ρ1) => if c = true then b ρ1 else some (.val (.bool false), ρ1)
  | _ => none
def mOrV (a b : MX) : MX := fun ρ => match a ρ with
  | some (.val (.bool c), ρ1) => if c = true then some (.val (.bool true), ρ1) else b ρ1
  | _ => none
def mNotV (a : MX) : MX := fun ρ => match a ρ with
  | some (.val (.bool c), ρ1) => some (.val (.bool (!c)), ρ1)
  | _ => none
def mIf (c : MT) (a b : MX) : MX := fun ρ => match c ρ with
  | none => none
  | some (k, ρ1) => if k = true then a ρ1 else b ρ1
section
variable {K : PySem.W.Frag} {X : Cx} {a b c : Expr} {ta tb tc : TE} {ma mb mc : MX} {pos : Pos} {t u : TT} {mt mu : MT} {tA tB' : TT}
theorem den_var {i : Nat} : Den K (tVar i) (mVar i) := by
  intro G F T ρ σ H r ρ' Q R h q
  unfold mVar at h
  cases hs : ρ[i]? with
  | none => rw [hs] at h; cases h
  | some s =>
    rw [hs] at h
    cases s with
    | un => cases h
    | ex c =>
      cases h
      obtain ⟨v, h1, h3⟩ := R.exVar hs
      exact ⟨v, h1, q v G H (Ex.refl G) h3⟩
    | val d =>
      cases h
      obtain ⟨v, h1, _, h3⟩ := R.var hs
      exact ⟨v, h1, q v G H (Ex.refl G) h3⟩
    | own ds =>
      cases h
      obtain ⟨v, G', h1, h2, h3⟩ := R.giveVar hs
      exact ⟨v, h1, q v G' H h2 h3⟩
theorem me_var (i : Nat) {x : Str} (hN : X.N[i]? = some x := by rfl) (hv : Vis X.env.scope x := by first | exact Or.inl rfl | exact Or.inr (Or.inl rfl) | exact Or.inr (Or.inr rfl)) (hd : (x == ("__debug__" : Str)) = false := by decide)
    (hcd : (x == ("__classdict__" : Str)) = false := by decide) (hK : X.K = K := by rfl) : ME X K (.Name x pos) (tVar i) (mVar i) := by
  obtain rfl := hK
  exact ⟨rfl, pe_var hN hv hd hcd, den_var⟩
theorem den_c {v : V} {d : D} (h : ∀ G, Rp K G v d) : Den K (tC v) (mC d) := by
  intro G F T ρ σ H r ρ' Q R e q
  cases e
  exact q v G H (Ex.refl G) ⟨R.len, R.l.pushVal (h G)⟩
theorem me_int {i : Int} {j : Nat} (hK : X.K = K := by rfl) : ME X K (.Constant (.int i) j pos) (tC (.int i)) (mC (.int i)) := by
  obtain rfl := hK
  exact ⟨rfl, pe_int, den_c fun _ => .int i⟩
theorem me_bl {i : Bool} {j : Nat} (hK : X.K = K := by rfl) : ME X K (.Constant (.bool i) j pos) (tC (.bl i)) (mC (.bool i)) := by
  obtain rfl := hK
  exact ⟨rfl, pe_bl, den_c fun _ => .bl i⟩
def OpS (K : PySem.W.Frag) (r : R2) (f : Sl → Sl → Option Sl) : Prop := ∀ (G F : Hp) (T : List Ent) (ρ : List Sl) (σ : L2.St) (H : Hp) (x y z : Sl) (v w : V) (Q : VK), Rel K G F ((y, some w) :: (x, some v) :: T) ρ σ H → f x y = some z →
  (∀ v' G' H', Ex G G' → Rel K G' F ((z, some v') :: T) ρ σ H' → Q v' H') → r v w H Q
def UnS (K : PySem.W.Frag) (r : V → Hp → VK → Prop) (f : Sl → Option Sl) : Prop := ∀ (G F : Hp) (T : List Ent) (ρ : List Sl) (σ : L2.St) (H : Hp) (x z : Sl) (v : V) (Q : VK), Rel K G F ((x, some v) :: T) ρ σ H → f x = some z →
  (∀ v' G' H', Ex G G' → Rel K G' F ((z, some v') :: T) ρ σ H' → Q v' H') → r v H Q
def FnS (K : PySem.W.Frag) (r : List V → Hp → VK → Prop) (f : List Sl → Option Sl) : Prop := ∀ (G F : Hp) (T : List Ent) (ρ : List Sl) (σ : L2.St) (H : Hp) (xs : List Sl) (z : Sl) (vs : List V) (Q : VK), xs.length = vs.length → Rel K G F (ents xs vs ++ T) ρ σ H → f xs = some z →
  (∀ v' G' H', Ex G G' → Rel K G' F ((z, some v') :: T) ρ σ H' → Q v' H') → r vs H Q
theorem den_bin {r : R2} {f : Sl → Sl → Option Sl} (ho : OpS K r f) (ha : Den K ta ma) (hb : Den K tb mb) : Den K (tOp r ta tb) (mBin f ma mb) := by
  intro G F T ρ σ H z ρ' Q R h q
  unfold mBin at h
  cases h1 : ma ρ with
  | none => rw [h1] at h; cases h
  | some p1 =>
    obtain ⟨x, ρ1⟩ := p1
    rw [h1] at h
    cases h2 : mb ρ1 with
    | none => simp only [h2] at h; cases h
    | some p2 =>
      obtain ⟨y, ρ2⟩ := p2
      cases h3 : f x y with
      | none => simp only [h2, h3] at h; cases h
      | some z' =>
        simp only [h2, h3] at h
        cases h
        refine ha G F T ρ σ H x ρ1 _ R h1 fun v G1 H1 e1 R1 => ?_
        refine hb G1 F _ ρ1 σ H1 y ρ' _ R1 h2 fun w G2 H2 e2 R2 => ?_
        exact ho G2 F T ρ' σ H2 x y z v w Q R2 h3 fun v' G' H' e3 R3 => q v' G' H' ((e1.trans e2).trans e3) R3
theorem me_bin {op : Operator} {r : R2} {f : Sl → Sl → Option Sl} (ho : OpS K r f) (hr : OpR X (binaryOp op) r) (ha : ME X K a ta ma) (hb : ME X K b tb mb) : ME X K (.BinOp a op b pos) (tOp r ta tb) (mBin f ma mb) := by
  obtain rfl := ha.hK
  exact ⟨rfl, pe_op hr ha.pe hb.pe, den_bin ho ha.dn hb.dn⟩
theorem me_cmp {op : CmpOp} {r : R2} {f : Sl → Sl → Option Sl} (ho : OpS K r f) (hr : OpR X (compareOp op) r) (hm : behindInMarks op b = false) (ha : ME X K a ta ma) (hb : ME X K b tb mb) : ME X K (.Compare a [op] [b] pos) (tOp r ta tb) (mBin f ma mb) := by
  obtain rfl := ha.hK
  exact ⟨rfl, pe_cmpR hr ha.pe hb.pe hm, den_bin ho ha.dn hb.dn⟩
theorem den_un {r : V → Hp → VK → Prop} {f : Sl → Option Sl} (ho : UnS K r f) (ha : Den K ta ma) : Den K (tUn r ta) (mUn f ma) := by
  intro G F T ρ σ H z ρ' Q R h q
  unfold mUn at h
  cases h1 : ma ρ with
  | none => rw [h1] at h; cases h
  | some p1 =>
    obtain ⟨x, ρ1⟩ := p1
    cases h3 : f x with
    | none => simp only [h1, h3] at h; cases h
    | some z' =>
      simp only [h1, h3] at h
      cases h
      refine ha G F T ρ σ H x ρ' _ R h1 fun v G1 H1 e1 R1 => ?_
      exact ho G1 F T ρ' σ H1 x z v Q R1 h3 fun v' G' H' e3 R3 => q v' G' H' (e1.trans e3) R3
theorem me_un {op : UnaryOp} {r : V → Hp → VK → Prop} {f : Sl → Option Sl} (ho : UnS K r f) (hr : UnR X (unaryOp op) r) (ha : ME X K a ta ma) : ME X K (.UnaryOp op a pos) (tUn r ta) (mUn f ma) := by
  obtain rfl := ha.hK
  exact ⟨rfl, pe_un hr ha.pe, den_un ho ha.dn⟩
theorem denT_B (ha : Den K ta ma) : DenT K (tB ta) (mB ma) := by
  intro G F T ρ σ H b ρ' Q R h q
  unfold mB at h
  split at h
  · rename_i b1 ρ1 h1
    cases h
    refine ha G F T ρ σ H _ ρ' _ R h1 fun v G1 H1 e1 R1 => ?_
    obtain ⟨v', e, hv⟩ := R1.l.ok _ List.mem_cons_self
    cases e
    cases hv
    exact ⟨b, rfl, q G1 H1 e1 R1.drop⟩
  · cases h
theorem met_cmp {op : CmpOp} {r : R2} {f : Sl → Sl → Option Sl} (ho : OpS K r f) (hr : OpR X (compareOp op) r) (hm : behindInMarks op b = false) (ha : ME X K a ta ma) (hb : ME X K b tb mb) : MET X K (.Compare a [op] [b] pos) (tTest (tOp r ta tb)) (mB (mBin f ma mb)) := by
  obtain rfl := ha.hK
  exact ⟨rfl, pt_cmpR hr ha.pe hb.pe hm, denT_B (den_bin ho ha.dn hb.dn)⟩
theorem tru_ok {G F H : Hp} {s : Sl} {v : V} {k : Bool} (eg : Ex G H) (h : SlOk K G F H (s, some v)) (e : tru s = some k) : TruV K v H k := by
  unfold tru at e
  split at e
  · obtain ⟨v', e1, hv⟩ := h; cases e1; cases hv; cases e; rfl
  · obtain ⟨v', e1, hv⟩ := h; cases e1; cases hv; cases e; rfl
  · obtain ⟨v', e1, hv⟩ := h; cases e1; cases hv; cases e; rfl
  · obtain ⟨v', e1, hv⟩ := h
    cases e1
    cases hv
    split at e
    · rename_i hl
      cases e
      exact ⟨hl, rfl⟩
    · cases e
  · obtain ⟨v', e1, hv⟩ := h
    cases e1
    cases hv with
    | lst hs ha =>
      cases e
      refine .inl ⟨_, Evl.ex_l eg hs, ?_⟩
      cases ha <;> rfl
  · obtain ⟨v', e1, hv⟩ := h
    cases e1
    cases hv with
    | tup hs ha =>
      cases e
      refine .inr (.inl ⟨_, .inl (.inl (eg _ _ hs)), ?_⟩)
      cases ha <;> rfl
    | tupK hk =>
      cases e
      exact .inr (.inl ⟨_, hk.sqt _, rfl⟩)
  · obtain ⟨p, vs, e1, h1, h2, h3, ha⟩ := h
    cases e1
    cases e
    refine .inl ⟨_, .inl (.inl h1), ?_⟩
    cases ha <;> rfl
  · cases e
theorem denT_tru (ha : Den K ta ma) : DenT K (fun σ H Q => ta σ H fun x H' => ∃ k, TruV K x H' k ∧ Q k H') (mTru ma) := by
  intro G F T ρ σ H b ρ' Q R h q
  unfold mTru at h
  cases h1 : ma ρ with
  | none => rw [h1] at h; cases h
  | some p1 =>
    obtain ⟨x, ρ1⟩ := p1
    cases h3 : tru x with
    | none => simp only [h1, h3] at h; cases h
    | some z' =>
      simp only [h1, h3] at h
      cases h
      refine ha G F T ρ σ H x ρ' _ R h1 fun v G1 H1 e1 R1 => ?_
      exact ⟨b, tru_ok R1.l.eg (R1.l.ok _ List.mem_cons_self) h3, q G1 H1 e1 R1.drop⟩
theorem met_tru (ha : ME X K a ta ma) (hw : ∀ (whole : Sem Value), PySem.isTrue a X.env whole = (do
          let v ← whole
          standAt (Expr.pos a)
          holding [v] (truthy v)) := by intro _; rfl) : MET X K a (fun σ H Q => ta σ H fun x H' => ∃ k, TruV K x H' k ∧ Q k H') (mTru ma) := by
  obtain rfl := ha.hK
  exact ⟨rfl, pt_truth ha.pe hw, denT_tru ha.dn⟩
theorem denT_and (h1 : DenT K t mt) (h2 : DenT K u mu) : DenT K (tAnd t u) (mTAnd mt mu) := by
  intro G F T ρ σ H b ρ' Q R h q
  unfold mTAnd at h
  cases e : mt ρ with
  | none => rw [e] at h; cases h
  | some p1 =>
    obtain ⟨k, ρ1⟩ := p1
    simp only [e] at h
    refine h1 G F T ρ σ H k ρ1 _ R e fun G1 H1 e1 R1 => ?_
    cases k with
    | true =>
      rw [if_pos rfl] at h ⊢
      exact h2 G1 F T ρ1 σ H1 b ρ' Q R1 h fun G2 H2 e2 R2 => q G2 H2 (e1.trans e2) R2
    | false =>
      rw [if_neg Bool.false_ne_true] at h ⊢
      cases h
      exact q G1 H1 e1 R1
theorem denT_or (h1 : DenT K t mt) (h2 : DenT K u mu) : DenT K (tOr t u) (mTOr mt mu) := by
  intro G F T ρ σ H b ρ' Q R h q
  unfold mTOr at h
  cases e : mt ρ with
  | none => rw [e] at h; cases h
  | some p1 =>
    obtain ⟨k, ρ1⟩ := p1
    simp only [e] at h
    refine h1 G F T ρ σ H k ρ1 _ R e fun G1 H1 e1 R1 => ?_
    cases k with
    | true =>
      rw [if_pos rfl] at h ⊢
      cases h
      exact q G1 H1 e1 R1
    | false =>
      rw [if_neg Bool.false_ne_true] at h ⊢
      exact h2 G1 F T ρ1 σ H1 b ρ' Q R1 h fun G2 H2 e2 R2 => q G2 H2 (e1.trans e2) R2
theorem denT_not (h1 : DenT K t mt) : DenT K (tNot t) (mTNot mt) := by
  intro G F T ρ σ H b ρ' Q R h q
  unfold mTNot at h
  cases e : mt ρ with
  | none => rw [e] at h; cases h
  | some p1 =>
    obtain ⟨k, ρ1⟩ := p1
    simp only [e] at h
    cases h
    exact h1 G F T ρ σ H k ρ' _ R e fun G1 H1 e1 R1 => q G1 H1 e1 R1
theorem met_not (h : MET X K a t mt) : MET X K (.UnaryOp .Not a pos) (tNot t) (mTNot mt) := by
  obtain rfl := h.hK
  exact ⟨rfl, pt_not h.pe, denT_not h.dn⟩
theorem mew_and {rest : List Expr} (h1 : MET X K a t mt) (h2 : MEW X K (.BoolOp .And (b :: rest) pos) u mu) : MEW X K (.BoolOp .And (a :: b :: rest) pos) (tAnd t u) (mTAnd mt mu) := by
  obtain rfl := h1.hK
  exact ⟨rfl, pw_and h1.pe h2.pe, denT_and h1.dn h2.dn⟩
theorem mew_or {rest : List Expr} (h1 : MET X K a t mt) (h2 : MEW X K (.BoolOp .Or (b :: rest) pos) u mu) : MEW X K (.BoolOp .Or (a :: b :: rest) pos) (tOr t u) (mTOr mt mu) := by
  obtain rfl := h1.hK
  exact ⟨rfl, pw_or h1.pe h2.pe, denT_or h1.dn h2.dn⟩
theorem mew_and1 (h1 : MET X K a t mt) : MEW X K (.BoolOp .And [a] pos) t mt := by
  obtain rfl := h1.hK
  exact ⟨rfl, pw_and1 h1.pe, h1.dn⟩
theorem mew_or1 (h1 : MET X K a t mt) : MEW X K (.BoolOp .Or [a] pos) t mt := by
  obtain rfl := h1.hK
  exact ⟨rfl, pw_or1 h1.pe, h1.dn⟩
theorem MEW.met (h : MEW X K a t mt) : MET X K a t mt := by
  obtain rfl := h.hK
  exact ⟨rfl, PW.pt h.pe, h.dn⟩
theorem bool_of {G F H : Hp} {v : V} {b : Bool} (h : SlOk K G F H (.val (.bool b), some v)) : v = .bl b := by
  obtain ⟨v', e, hv⟩ := h
  cases e
  cases hv
  rfl
theorem den_andV (ha : Den K ta ma) (hb : Den K tb mb) : Den K (tAndV ta tb) (mAndV ma mb) := by
  intro G F T ρ σ H z ρ' Q R h q
  unfold mAndV at h
  split at h
  · rename_i k ρ1 h1
    refine ha G F T ρ σ H _ ρ1 _ R h1 fun v G1 H1 e1 R1 => ⟨k, bool_of (R1.l.ok _ List.mem_cons_self), ?_⟩
    cases k with
    | true =>
      rw [if_pos rfl] at h ⊢
      exact hb G1 F T ρ1 σ H1 z ρ' Q R1.drop h fun v G2 H2 e2 R2 => q v G2 H2 (e1.trans e2) R2
    | false =>
      rw [if_neg Bool.false_ne_true] at h ⊢
      cases h
      exact q _ G1 H1 e1 ⟨R1.len, R1.drop.l.pushVal (.bl false)⟩
  · cases h
theorem den_notV (ha : Den K ta ma) : Den K (tNotV ta) (mNotV ma) := by
  intro G F T ρ σ H z ρ' Q R h q
  unfold mNotV at h
  split at h
  · rename_i k ρ1 h1
    cases h
    refine ha G F T ρ σ H _ ρ' _ R h1 fun v G1 H1 e1 R1 => ⟨k, bool_of (R1.l.ok _ List.mem_cons_self), ?_⟩
    exact q _ G1 H1 e1 ⟨R1.len, R1.drop.l.pushVal (.bl _)⟩
  · cases h
theorem me_and {rest : List Expr} (h1 : ME X K a ta ma) (h2 : ME X K (.BoolOp .And (b :: rest) pos) tb mb) : ME X K (.BoolOp .And (a :: b :: rest) pos) (tAndV ta tb) (mAndV ma mb) := by
  obtain rfl := h1.hK
  exact ⟨rfl, pe_and h1.pe h2.pe, den_andV h1.dn h2.dn⟩
theorem me_one {op : BoolOp} (h : ME X K a ta ma) : ME X K (.BoolOp op [a] pos) ta ma := by
  obtain rfl := h.hK
  exact ⟨rfl, pe_one h.pe, h.dn⟩
theorem me_not (h : ME X K a ta ma) : ME X K (.UnaryOp .Not a pos) (tNotV ta) (mNotV ma) := by
  obtain rfl := h.hK
  exact ⟨rfl, pe_not h.pe, den_notV h.dn⟩
theorem den_if (hc : DenT K t mt) (ha : Den K ta ma) (hb : Den K tb mb) : Den K (tIf t ta tb) (mIf mt ma mb) := by
  intro G F T ρ σ H z ρ' Q R h q
  unfold mIf at h
  cases e : mt ρ with
  | none => rw [e] at h; cases h
  | some p1 =>
    obtain ⟨k, ρ1⟩ := p1
    simp only [e] at h
    refine hc G F T ρ σ H k ρ1 _ R e fun G1 H1 e1 R1 => ?_
    cases k with
    | true =>
      rw [if_pos rfl] at h ⊢
      exact ha G1 F T ρ1 σ H1 z ρ' Q R1 h fun v G2 H2 e2 R2 => q v G2 H2 (e1.trans e2) R2
    | false =>
      rw [if_neg Bool.false_ne_true] at h ⊢
      exact hb G1 F T ρ1 σ H1 z ρ' Q R1 h fun v G2 H2 e2 R2 => q v G2 H2 (e1.trans e2) R2
theorem me_if (hc : MET X K c t mt) (ha : ME X K a ta ma) (hb : ME X K b tb mb) : ME X K (.IfExp c a b pos) (tIf t ta tb) (mIf mt ma mb) := by
  obtain rfl := hc.hK
  exact ⟨rfl, pe_ifExp hc.pe ha.pe hb.pe, den_if hc.dn ha.dn hb.dn⟩
theorem mea_nil (hK : X.K = K := by rfl) : MEA X K [] tNil mNil := by
  obtain rfl := hK
  exact ⟨rfl, pa_nil, by
    intro G F T ρ σ H rs ρ' Q R h q
    cases h
    exact q [] G H (Ex.refl G) rfl R⟩
theorem mea_cons {es : List Expr} {tr : TA} {mr : MA} (ha : ME X K a ta ma) (hr : MEA X K es tr mr) (hs : starEach (a :: es) X.env = (false, eval a X.env) :: starEach es X.env := by rfl) : MEA X K (a :: es) (tCons ta tr) (mCons ma mr) := by
  obtain rfl := ha.hK
  exact ⟨rfl, pa_cons ha.pe hr.pe hs, by
    intro G F T ρ σ H rs ρ' Q R h q
    unfold mCons at h
    cases e : ma ρ with
    | none => rw [e] at h; cases h
    | some p1 =>
      obtain ⟨x, ρ1⟩ := p1
      cases e2 : mr ρ1 with
      | none => simp only [e, e2] at h; cases h
      | some p2 =>
        obtain ⟨xs, ρ2⟩ := p2
        simp only [e, e2] at h
        cases h
        refine ha.dn G F T ρ σ H x ρ1 _ R e fun v G1 H1 e1 R1 => ?_
        refine hr.dn G1 F _ ρ1 σ H1 xs ρ' _ R1 e2 fun vs G2 H2 e3 hl R2 => ?_
        refine q (v :: vs) G2 H2 (e1.trans e3) (congrArg (· + 1) hl) (R2.permT ?_)
        exact List.perm_middle⟩
theorem den_fn {r : List V → Hp → VK → Prop} {f : List Sl → Option Sl} {t : TA} {m : MA} (ho : FnS K r f) (ha : DenA K t m) : Den K (tCB r t) (mFn f m) := by
  intro G F T ρ σ H z ρ' Q R h q
  unfold mFn at h
  cases h1 : m ρ with
  | none => rw [h1] at h; cases h
  | some p1 =>
    obtain ⟨xs, ρ1⟩ := p1
    cases h3 : f xs with
    | none => simp only [h1, h3] at h; cases h
    | some z' =>
      simp only [h1, h3] at h
      cases h
      refine ha G F T ρ σ H xs ρ' _ R h1 fun vs G1 H1 e1 hl R1 => ?_
      exact ho G1 F T ρ' σ H1 xs z vs Q hl R1 h3 fun v' G' H' e3 R3 => q v' G' H' (e1.trans e3) R3
end
end Dn
namespace Dn
open PySem PySem.Spec PyProof.Rows L2
open Evl (Ex)
@[simp] def lstOf : Sl → Option (List D)
  | .val (.list ds) => some ds
  | .own ds => some ds
  | _ => none
@[simp] def seqOf : Sl → Option (List D)
  | .val (.list ds) => some ds
  | .val (.tuple ds) => some ds
  | .own ds => some ds
  | _ => none
@[simp] def datOf : Sl → Option D
  | .val d => some d
  | .own ds => some (.list ds)
  | .un => none
  | .ex _ => none
section
variable {K : PySem.W.Frag} {G F H : Hp} {s : Sl} {v : V} {ds : List D} {i : Int} {d : D}
theorem int_of (h : SlOk K G F H (.val (.int i), some v)) : v = .int i := by
  obtain ⟨v', e, hv⟩ := h
  cases e
  cases hv
  rfl
theorem str_of {x : Str} (h : SlOk K G F H (.val (.str x), some v)) : v = .str x := by
  obtain ⟨v', e, hv⟩ := h
  cases e
  cases hv
  rfl
theorem lst_of (eg : Ex G H) (e : lstOf s = some ds) (h : SlOk K G F H (s, some v)) : ∃ a xs, v = .ref a ∧ SqL K H a xs ∧ RpA K G xs ds := by
  cases s with
  | un => cases e
  | ex c => cases e
  | val d =>
    obtain ⟨v', e1, hv⟩ := h
    cases e1
    cases hv <;> first | cases e | skip
    rename_i hs ha
    exact ⟨_, _, rfl, Evl.ex_l eg hs, ha⟩
  | own es =>
    cases e
    obtain ⟨p, vs, e1, h1, h2, h3, ha⟩ := h
    cases e1
    exact ⟨p, vs, rfl, .inl (.inl h1), ha⟩
theorem tup_of (eg : Ex G H) (h : SlOk K G F H (.val (.tuple ds), some v)) : ∃ a xs, v = .ref a ∧ SqT K H a xs ∧ RpA K G xs ds := by
  obtain ⟨v', e1, hv⟩ := h
  cases e1
  cases hv with
  | tup hs ha => exact ⟨_, _, rfl, .inl (.inl (eg _ _ hs)), ha⟩
  | tupK hk => exact ⟨_, _, rfl, hk.sqt _, .cons (.int _) (.cons (.int _) .nil)⟩
theorem seq_of (eg : Ex G H) (e : seqOf s = some ds) (h : SlOk K G F H (s, some v)) : ∃ a xs, v = .ref a ∧ (SqL K H a xs ∨ SqT K H a xs) ∧ RpA K G xs ds := by
  unfold seqOf at e
  split at e
  · cases e
    obtain ⟨a, xs, h1, h2, h3⟩ := lst_of (s := .val (.list ds)) eg rfl h
    exact ⟨a, xs, h1, .inl h2, h3⟩
  · cases e
    obtain ⟨a, xs, h1, h2, h3⟩ := tup_of eg h
    exact ⟨a, xs, h1, .inr h2, h3⟩
  · cases e
    obtain ⟨a, xs, h1, h2, h3⟩ := lst_of (s := .own ds) eg rfl h
    exact ⟨a, xs, h1, .inl h2, h3⟩
  · cases e
mutual
theorem dp_of {K : PySem.W.Frag} {H : Hp} : ∀ (d : D) (v : V), PyData.canLay0 d = true → Rp K H v d → Dp K H v d
  | .none, _, _, h => by cases h; exact .non
  | .bool b, _, _, h => by cases h; exact .bl b
  | .int i, _, _, h => by cases h; exact .int i
  | .str x, _, _, h => by cases h; exact .str x
  | .list ds, _, c, h => by
    cases h with
    | lst hs ha => exact .lst hs (dpA_of ds _ c ha)
  | .tuple ds, _, c, h => by
    cases h with
    | tup hs ha => exact .tup (.inl (.inl hs)) (dpA_of ds _ c ha)
    | tupK hk => exact .tup (hk.sqt _) (.cons (.int _) (.cons (.int _) .nil))
  | .dict _, _, c, h => by cases c
theorem dpA_of {K : PySem.W.Frag} {H : Hp} : ∀ (ds : List D) (vs : List V), PyData.canLayAll0 ds = true → RpA K H vs ds → DpAll K H vs ds
  | [], _, _, h => by cases h; exact .nil
  | d :: ds, _, c, h => by
    cases h with
    | cons h1 h2 =>
      have c2 := Bool.and_eq_true_iff.mp c
      exact .cons (dp_of d _ c2.1 h1) (dpA_of ds _ c2.2 h2)
end
theorem dat_of (eg : Ex G H) (e : datOf s = some d) (h : SlOk K G F H (s, some v)) : Rp K H v d := by
  cases s with
  | un => cases e
  | ex c => cases e
  | val d' =>
    cases e
    obtain ⟨v', e1, hv⟩ := h
    cases e1
    exact hv.up eg
  | own ds =>
    cases e
    obtain ⟨p, vs, e1, h1, h2, h3, ha⟩ := h
    cases e1
    exact .lst (.inl (.inl h1)) (ha.up eg)
end
def rCatR (K : PySem.W.Frag) : R2 := fun x y H Q => ∃ l b xs zs, x = .ref l ∧ y = .ref b ∧ SqL K H l xs ∧ SqL K H b zs ∧ xs.length + zs.length ≤ sizeLine ∧ ∀ p, H p = none → Q (.ref p) (upd H p (.lst (xs ++ zs)))
theorem op_catR {X : Cx} : OpR X (binaryOp .Add) (rCatR X.K) := by
  intro pins s σ H x y v u Q I rx ry h
  obtain ⟨l, b, xs, zs, rfl, rfl, hH, hB, hz, q⟩ := h
  cases rx
  cases ry
  obtain ⟨its, r, p1, _⟩ := I.list hH
  obtain ⟨its2, r2, p2, _⟩ := I.list hB
  obtain ⟨⟨cls, dd, data, sl⟩, n, ho, hc, hd0, hd⟩ := p1
  obtain ⟨⟨cls2, dd2, data2, sl2⟩, n2, ho2, hc2, hd02, hd2⟩ := p2
  simp only at hc hd hc2 hd2 hd0 hd02
  subst hc hd hc2 hd2 hd0 hd02
  have e : its.toArray ++ its2.toArray = (its ++ its2).toArray := by simp
  have e1 := r.length
  have e2 := r2.length
  refine concat_meets ⟨_, ho, rfl⟩ ⟨_, ho2, rfl⟩ noFill_list_add seq_list_add PySem.F.slot_list_add PySem.F.entry_list_add (PySem.F.args_list_add_2 _ _)
    (list_addW l b its.toArray its2.toArray n n2 none none sl sl2 (by simp; omega)) ⟨ho, ho2, ?_⟩
  rw [e]
  exact ⟨.ref _, _, I.lnew (t' := s.toks) (r.append r2) (by rw [List.length_append]; omega), rfl, q _ I.fresh⟩
@[simp] def fI (C : Int → Int → Bool) (g : Int → Int → Int) : Sl → Sl → Option Sl
  | .val (.int i), .val (.int j) => if C i j = true then some (.val (.int (g i j))) else none
  | _, _ => none
@[simp] def fB (g : Int → Int → Bool) : Sl → Sl → Option Sl
  | .val (.int i), .val (.int j) => some (.val (.bool (g i j)))
  | _, _ => none
section
variable {K : PySem.W.Frag} {T : List Ent} {ρ : List Sl} {σ : L2.St} {G F H : Hp} {x y : Sl} {v w : V}
theorem Rel.fst (R : Rel K G F ((x, some v) :: T) ρ σ H) : SlOk K G F H (x, some v) := R.l.ok _ List.mem_cons_self
theorem Rel.snd {e : Ent} (R : Rel K G F (e :: (x, some v) :: T) ρ σ H) : SlOk K G F H (x, some v) := R.l.ok _ (List.mem_cons_of_mem _ List.mem_cons_self)
theorem Rel.pushV {d : D} (R : Rel K G F T ρ σ H) (h : Rp K G v d) : Rel K G F ((.val d, some v) :: T) ρ σ H := ⟨R.len, R.l.pushVal h⟩
theorem Rel.pushO {p : Addr} {vs : List V} {ds : List D} (R : Rel K G F T ρ σ H) (hn : H p = none) (h : RpA K G vs ds) : Rel K G F ((.own ds, some (.ref p)) :: T) ρ σ (upd H p (.lst vs)) := ⟨R.len, R.l.pushOwn hn h⟩
theorem Rel.pushT {p : Addr} {vs : List V} {ds : List D} (R : Rel K G F T ρ σ H) (hn : H p = none) (h : RpA K G vs ds) :
    Rel K (upd G p (.tup vs)) F ((.val (.tuple ds), some (.ref p)) :: T) ρ σ (upd H p (.tup vs)) :=
  ⟨R.len, (R.l.grow hn).pushVal (.tup upd_same (h.up (Ex.new (free_of R.l.eg hn))))⟩
theorem exg {p : Addr} {o : HO} (R : Rel K G F T ρ σ H) (hn : H p = none) : Ex G (upd G p o) := Ex.new (free_of R.l.eg hn)
theorem opS_I {C : Int → Int → Prop} {Cb : Int → Int → Bool} {g : Int → Int → Int} (hC : ∀ i j, Cb i j = true → C i j) : OpS K (rI C fun i j => .int (g i j)) (fI Cb g) := by
  intro G F T ρ σ H x y z v w Q R h q
  unfold fI at h
  split at h
  · rename_i i j
    split at h
    · rename_i hc
      cases h
      exact ⟨i, j, int_of R.snd, int_of R.fst, hC i j hc, q _ G H (Ex.refl G) (R.drop.drop.pushV (.int _))⟩
    · cases h
  · cases h
theorem opS_B {g : Int → Int → Bool} : OpS K (rI0 fun i j => .bl (g i j)) (fB g) := by
  intro G F T ρ σ H x y z v w Q R h q
  unfold fB at h
  split at h
  · cases h
    exact ⟨_, _, int_of R.snd, int_of R.fst, q _ G H (Ex.refl G) (R.drop.drop.pushV (.bl _))⟩
  · cases h
@[simp] def fAdd (x y : Sl) : Option Sl := match x, y with
  | .val (.int i), .val (.int j) => some (.val (.int (i + j)))
  | .val (.str a), .val (.str b) => if a.length + b.length ≤ sizeLine then some (.val (.str (a ++ b))) else none
  | x, y => match lstOf x, lstOf y with
    | some xs, some ys => if xs.length + ys.length ≤ sizeLine then some (.own (xs ++ ys)) else none
    | _, _ => none
def rAddA (K : PySem.W.Frag) : R2 := fun x y H Q => (rI0 fun i j => .int (i + j)) x y H Q ∨ ((∃ i j, x = .str i ∧ y = .str j ∧ i.length + j.length ≤ sizeLine ∧ Q (.str (i ++ j)) H) ∨ rCatR K x y H Q)
theorem op_addA {X : Cx} : OpR X (binaryOp .Add) (rAddA X.K) := OpR.or op_add (OpR.or op_add_str op_catR)
theorem opS_add : OpS K (rAddA K) fAdd := by
  intro G F T ρ σ H x y z v w Q R h q
  unfold fAdd at h
  split at h
  · cases h
    exact .inl ⟨_, _, int_of R.snd, int_of R.fst, q _ G H (Ex.refl G) (R.drop.drop.pushV (.int _))⟩
  · split at h
    · rename_i hl
      cases h
      exact .inr (.inl ⟨_, _, str_of R.snd, str_of R.fst, hl, q _ G H (Ex.refl G) (R.drop.drop.pushV (.str _))⟩)
    · cases h
  · split at h
    · rename_i xs ys h1 h2
      split at h
      · rename_i hl
        cases h
        obtain ⟨a, us, e1, s1, r1⟩ := lst_of R.l.eg h1 R.snd
        obtain ⟨b, ws, e2, s2, r2⟩ := lst_of R.l.eg h2 R.fst
        refine .inr (.inr ⟨a, b, us, ws, e1, e2, s1, s2, by rw [r1.len, r2.len]; exact hl, fun p hp => ?_⟩)
        exact q _ G _ (Ex.refl G) (R.drop.drop.pushO hp (r1.app r2))
      · cases h
    · cases h
@[simp] def cMul (i j : Int) : Bool := decide (i.natAbs.log2 + j.natAbs.log2 < 1000000) || (decide (i.natAbs.log2 < 60) || decide (j.natAbs.log2 < 60))
theorem cMul_ok {i j : Int} (h : cMul i j = true) : IntMulOk i j := by
  have b : ∀ x : Int, Builtin.Int.intBits x ≤ x.natAbs.log2 + 1 := fun x => by
    unfold Builtin.Int.intBits
    split <;> omega
  unfold cMul at h
  rcases Bool.or_eq_true_iff.mp h with h | h
  · exact CMulW.ok (i := i) (j := j) (show i.natAbs.log2 + j.natAbs.log2 < 1000000 from of_decide_eq_true h)
  · rcases Bool.or_eq_true_iff.mp h with h | h
    · exact IntMulOk.of_left (by have := of_decide_eq_true h; have := b i; omega)
    · exact IntMulOk.of_right (by have := of_decide_eq_true h; have := b j; omega)
@[simp] def fMul (x y : Sl) : Option Sl := match x, y with
  | .val (.int i), .val (.int j) => if cMul i j = true then some (.val (.int (i * j))) else none
  | .own xs, .val (.int k) => if -(2 ^ 63) ≤ k ∧ k < 2 ^ 63 ∧ xs.length * k.toNat ≤ sizeLine then some (.own (List.replicate k.toNat xs).flatten) else none
  | _, _ => none
theorem op_mulX {X : Cx} : OpR X (binaryOp .Mult) (rI IntMulOk fun i j => .int (i * j)) := opI fun _ _ _ _ _ _ _ hc q => mul_int q hc
def rMulA : R2 := fun x y H Q => (rI IntMulOk fun i j => .int (i * j)) x y H Q ∨ rRep x y H Q
theorem op_mulA {X : Cx} : OpR X (binaryOp .Mult) rMulA := OpR.or op_mulX op_rep
theorem RpA.rep {vs : List V} {ds : List D} (h : RpA K G vs ds) : ∀ n : Nat, RpA K G (List.replicate n vs).flatten (List.replicate n ds).flatten
  | 0 => .nil
  | n + 1 => by
    rw [List.replicate_succ, List.replicate_succ, List.flatten_cons, List.flatten_cons]
    exact h.app (RpA.rep h n)
theorem opS_mul : OpS K rMulA fMul := by
  intro G F T ρ σ H x y z v w Q R h q
  unfold fMul at h
  split at h
  · split at h
    · rename_i hc
      cases h
      exact .inl ⟨_, _, int_of R.snd, int_of R.fst, cMul_ok hc, q _ G H (Ex.refl G) (R.drop.drop.pushV (.int _))⟩
    · cases h
  · split at h
    · rename_i xs k hc
      cases h
      obtain ⟨p, vs, e1, h1, h2, h3, ha⟩ := R.snd
      cases e1
      refine .inr ⟨p, k, vs, rfl, int_of R.fst, h1, hc.1, hc.2.1, by rw [ha.len]; exact hc.2.2, fun p' hp => ?_⟩
      exact q _ G _ (Ex.refl G) (R.drop.drop.pushO hp (ha.rep _))
    · cases h
  · cases h
@[simp] def cDiv (_ j : Int) : Bool := decide (0 < j) && decide (j.natAbs.log2 < 9000)
@[simp] def cMod (_ j : Int) : Bool := decide (0 < j)
def CPowW (i j : Int) : Prop := 0 ≤ j ∧ ((i.natAbs.log2 + 1 : Nat) : Int) * j ≤ 2 ^ 27
@[simp] def cPow (i j : Int) : Bool := decide (0 ≤ j) && (decide (j.toNat ≤ 1000) && decide (i.natAbs.log2 < 100000))
theorem op_powW {X : Cx} : OpR X (binaryOp .Pow) (rI CPowW fun i j => .int (i ^ j.toNat)) := opI fun i j _ _ _ _ _ hc q => by
  refine pow_int hc.1 ?_ q
  have hb : (Builtin.Int.intBits i : Int) ≤ ((i.natAbs.log2 + 1 : Nat) : Int) := by
    unfold Builtin.Int.intBits
    split <;> omega
  exact Int.le_trans (Int.mul_le_mul_of_nonneg_right hb hc.1) hc.2
theorem opS_div : OpS K (rI CDivW fun i j => .int (i / j)) (fI cDiv fun i j => i / j) := opS_I fun i j h => by
  have h2 := Bool.and_eq_true_iff.mp h
  exact ⟨of_decide_eq_true h2.1, of_decide_eq_true h2.2⟩
theorem opS_mod : OpS K (rI (fun _ j => 0 < j) fun i j => .int (i % j)) (fI cMod fun i j => i % j) := opS_I fun i j h => of_decide_eq_true h
theorem cPow_fits {i j : Int} (h : cPow i j = true) : CPowW i j := by
  unfold cPow at h
  simp only [Bool.and_eq_true, decide_eq_true_eq] at h
  obtain ⟨h1, h2, h3⟩ := h
  refine ⟨h1, ?_⟩
  have hj : j ≤ 1000 := by omega
  have hi : ((i.natAbs.log2 + 1 : Nat) : Int) ≤ 100000 := by omega
  have h4 := Int.mul_le_mul hi hj h1 (by decide)
  exact Int.le_trans h4 (by decide)
theorem opS_pow : OpS K (rI CPowW fun i j => .int (i ^ j.toNat)) (fI cPow fun i j => i ^ j.toNat) := opS_I fun i j h => cPow_fits h
theorem opS_sub : OpS K (rI0 fun i j => .int (i - j)) (fI (fun _ _ => true) fun i j => i - j) := by
  intro G F T ρ σ H x y z v w Q R h q
  unfold fI at h
  split at h
  · cases h
    exact ⟨_, _, int_of R.snd, int_of R.fst, q _ G H (Ex.refl G) (R.drop.drop.pushV (.int _))⟩
  · cases h
@[simp] def fNeg : Sl → Option Sl
  | .val (.int i) => some (.val (.int (-i)))
  | _ => none
theorem unS_neg : UnS K (rU fun i => .int (-i)) fNeg := by
  intro G F T ρ σ H x z v Q R h q
  unfold fNeg at h
  split at h
  · cases h
    exact ⟨_, int_of R.fst, q _ G H (Ex.refl G) (R.drop.pushV (.int _))⟩
  · cases h
@[simp] def fEq (neg : Bool) (x y : Sl) : Option Sl := match datOf x, datOf y with
  | some d, some e => if (SeqAt.shaped d && SeqAt.shaped e) = true then some (.val (.bool (if neg then !PyData.eqv d e else PyData.eqv d e))) else none
  | _, _ => none
theorem opS_eq : OpS K (rEqD K) (fEq false) := by
  intro G F T ρ σ H x y z v w Q R h q
  unfold fEq at h
  split at h
  · rename_i d e h1 h2
    split at h
    · rename_i hc
      cases h
      have hc2 := Bool.and_eq_true_iff.mp hc
      exact ⟨d, e, dp_of _ _ (SeqAt.canLay_of_shaped hc2.1) (dat_of R.l.eg h1 R.snd), dp_of _ _ (SeqAt.canLay_of_shaped hc2.2) (dat_of R.l.eg h2 R.fst), hc2.1, hc2.2, q _ G H (Ex.refl G) (R.drop.drop.pushV (.bl _))⟩
    · cases h
  · cases h
theorem opS_ne : OpS K (rNeD K) (fEq true) := by
  intro G F T ρ σ H x y z v w Q R h q
  unfold fEq at h
  split at h
  · rename_i d e h1 h2
    split at h
    · rename_i hc
      cases h
      have hc2 := Bool.and_eq_true_iff.mp hc
      exact ⟨d, e, dp_of _ _ (SeqAt.canLay_of_shaped hc2.1) (dat_of R.l.eg h1 R.snd), dp_of _ _ (SeqAt.canLay_of_shaped hc2.2) (dat_of R.l.eg h2 R.fst), hc2.1, hc2.2, q _ G H (Ex.refl G) (R.drop.drop.pushV (.bl _))⟩
    · cases h
  · cases h
@[simp] def isNone : Sl → Bool
  | .val .none => true
  | _ => false
@[simp] def fIsN (neg : Bool) (x y : Sl) : Option Sl := match x, y with
  | .un, _ => none
  | x, .val .none => some (.val (.bool (if neg then !isNone x else isNone x)))
  | _, _ => none
@[simp] def fIx (x y : Sl) : Option Sl := match y with
  | .val (.int k) => match x with
    | .val (.str z) => if z.length ≤ sizeLine then (atI z.cps.toList k).map fun c => .val (.str ⟨#[c]⟩) else none
    | x => match seqOf x with
      | some ds => (atI ds k).map .val
      | none => none
  | _ => none
theorem atI_rp {xs : List V} {ds : List D} {k : Int} {d : D} (h : RpA K G xs ds) (e : atI ds k = some d) : ∃ v, atI xs k = some v ∧ Rp K G v d := by
  unfold atI at e ⊢
  rw [h.len]
  cases hx : ixN ds.length k with
  | none => rw [hx] at e; cases e
  | some j =>
    rw [hx] at e
    exact h.getD e
theorem opS_ix : OpS K (rIx K) fIx := by
  intro G F T ρ σ H x y z v w Q R h q
  unfold fIx at h
  split at h
  · rename_i k
    have hw := int_of R.fst
    split at h
    · rename_i s
      split at h
      · rename_i hl
        cases hc : atI s.cps.toList k with
        | none => rw [hc] at h; cases h
        | some c =>
          rw [hc] at h
          cases h
          exact .inr (.inr ⟨s, k, c, str_of R.snd, hw, hl, hc, q _ G H (Ex.refl G) (R.drop.drop.pushV (.str _))⟩)
      · cases h
    · split at h
      · rename_i ds hs
        obtain ⟨a, xs, e1, s1, r1⟩ := seq_of R.l.eg hs R.snd
        cases hc : atI ds k with
        | none => rw [hc] at h; cases h
        | some d =>
          rw [hc] at h
          cases h
          obtain ⟨u, hu, hr⟩ := atI_rp r1 hc
          rcases s1 with s1 | s1
          · exact .inl ⟨a, xs, k, u, e1, hw, s1, hu, q _ G H (Ex.refl G) (R.drop.drop.pushV hr)⟩
          · exact .inr (.inl ⟨a, xs, k, u, e1, hw, s1, hu, q _ G H (Ex.refl G) (R.drop.drop.pushV hr)⟩)
      · cases h
  · cases h
end
section
variable {K : PySem.W.Frag} {X : Cx} {a b c : Expr} {ta tb tc : TE} {ma mb mc : MX} {pos : Pos}
theorem me_add (ha : ME X K a ta ma) (hb : ME X K b tb mb) : ME X K (.BinOp a .Add b pos) (tOp (rAddA K) ta tb) (mBin fAdd ma mb) := by
  obtain rfl := ha.hK
  exact me_bin opS_add op_addA ha hb
theorem me_sub (ha : ME X K a ta ma) (hb : ME X K b tb mb) : ME X K (.BinOp a .Sub b pos) (tOp (rI0 fun i j => .int (i - j)) ta tb) (mBin (fI (fun _ _ => true) fun i j => i - j) ma mb) := by
  obtain rfl := ha.hK
  exact me_bin opS_sub op_sub ha hb
theorem me_mul (ha : ME X K a ta ma) (hb : ME X K b tb mb) : ME X K (.BinOp a .Mult b pos) (tOp rMulA ta tb) (mBin fMul ma mb) := by
  obtain rfl := ha.hK
  exact me_bin opS_mul op_mulA ha hb
theorem me_div (ha : ME X K a ta ma) (hb : ME X K b tb mb) : ME X K (.BinOp a .FloorDiv b pos) (tOp (rI CDivW fun i j => .int (i / j)) ta tb) (mBin (fI cDiv fun i j => i / j) ma mb) := by
  obtain rfl := ha.hK
  exact me_bin opS_div op_fdivW ha hb
theorem me_mod (ha : ME X K a ta ma) (hb : ME X K b tb mb) : ME X K (.BinOp a .Mod b pos) (tOp (rI (fun _ j => 0 < j) fun i j => .int (i % j)) ta tb) (mBin (fI cMod fun i j => i % j) ma mb) := by
  obtain rfl := ha.hK
  exact me_bin opS_mod op_mod ha hb
theorem me_pow (ha : ME X K a ta ma) (hb : ME X K b tb mb) : ME X K (.BinOp a .Pow b pos) (tOp (rI CPowW fun i j => .int (i ^ j.toNat)) ta tb) (mBin (fI cPow fun i j => i ^ j.toNat) ma mb) := by
  obtain rfl := ha.hK
  exact me_bin opS_pow op_powW ha hb
theorem me_neg (ha : ME X K a ta ma) : ME X K (.UnaryOp .USub a pos) (tUn (rU fun i => .int (-i)) ta) (mUn fNeg ma) := by
  obtain rfl := ha.hK
  exact me_un unS_neg un_neg ha
theorem me_ge (ha : ME X K a ta ma) (hb : ME X K b tb mb) : ME X K (.Compare a [.GtE] [b] pos) (tOp (rI0 fun i j => .bl (decide (j ≤ i))) ta tb) (mBin (fB fun i j => decide (j ≤ i)) ma mb) := by
  obtain rfl := ha.hK
  exact me_cmp opS_B op_ge (nomark _) ha hb
theorem me_eq (hu : X.A.units + 64 < cLine) (ha : ME X K a ta ma) (hb : ME X K b tb mb) : ME X K (.Compare a [.Eq] [b] pos) (tOp (rEqD K) ta tb) (mBin (fEq false) ma mb) := by
  obtain rfl := ha.hK
  exact me_cmp opS_eq (op_eqD hu) (nomark _) ha hb
theorem me_ne (hu : X.A.units + 64 < cLine) (ha : ME X K a ta ma) (hb : ME X K b tb mb) : ME X K (.Compare a [.NotEq] [b] pos) (tOp (rNeD K) ta tb) (mBin (fEq true) ma mb) := by
  obtain rfl := ha.hK
  exact me_cmp opS_ne (op_neD hu) (nomark _) ha hb
theorem met_lt (ha : ME X K a ta ma) (hb : ME X K b tb mb) : MET X K (.Compare a [.Lt] [b] pos) (tTest (tOp (rI0 fun i j => .bl (decide (i < j))) ta tb)) (mB (mBin (fB fun i j => decide (i < j)) ma mb)) := by
  obtain rfl := ha.hK
  exact met_cmp opS_B op_lt (nomark _) ha hb
theorem met_gt (ha : ME X K a ta ma) (hb : ME X K b tb mb) : MET X K (.Compare a [.Gt] [b] pos) (tTest (tOp (rI0 fun i j => .bl (decide (j < i))) ta tb)) (mB (mBin (fB fun i j => decide (j < i)) ma mb)) := by
  obtain rfl := ha.hK
  exact met_cmp opS_B op_gt (nomark _) ha hb
theorem met_eq (hu : X.A.units + 64 < cLine) (ha : ME X K a ta ma) (hb : ME X K b tb mb) : MET X K (.Compare a [.Eq] [b] pos) (tTest (tOp (rEqD K) ta tb)) (mB (mBin (fEq false) ma mb)) := by
  obtain rfl := ha.hK
  exact met_cmp opS_eq (op_eqD hu) (nomark _) ha hb
theorem met_ne (hu : X.A.units + 64 < cLine) (ha : ME X K a ta ma) (hb : ME X K b tb mb) : MET X K (.Compare a [.NotEq] [b] pos) (tTest (tOp (rNeD K) ta tb)) (mB (mBin (fEq true) ma mb)) := by
  obtain rfl := ha.hK
  exact met_cmp opS_ne (op_neD hu) (nomark _) ha hb
theorem me_ix (ha : ME X K a ta ma) (hb : ME X K b tb mb) (hp : PlainIx b) : ME X K (.Subscript a b pos) (tOp (rIx K) ta tb) (mBin fIx ma mb) := by
  obtain rfl := ha.hK
  exact ⟨rfl, pe_ix ix_seq ha.pe hb.pe hp, den_bin opS_ix ha.dn hb.dn⟩
end
def mChain (p p' : Int → Int → Bool) (a b c : MX) : MX := fun ρ => match a ρ with
  | some (.val (.int i), ρ1) => match b ρ1 with
    | some (.val (.int j), ρ2) => if p i j = true then match c ρ2 with
        | some (.val (.int k), ρ3) => some (.val (.bool (p' j k)), ρ3)
        | _ => none
      else some (.val (.bool false), ρ2)
    | _ => none
  | _ => none
end Dn
namespace Dn
open PySem PySem.Spec PyProof.Rows L2
open Evl (Ex)
@[simp] def datAll : List Sl → Option (List D)
  | [] => some []
  | s :: r => match datOf s, datAll r with
    | some d, some ds => some (d :: ds)
    | _, _ => none
section
variable {K : PySem.W.Frag} {F : Hp} {ρ : List Sl} {σ : L2.St}
theorem Rel.giveAll : ∀ {rs : List Sl} {vs : List V} {ds : List D} {G H : Hp} {T : List Ent}, rs.length = vs.length → Rel K G F (ents rs vs ++ T) ρ σ H → datAll rs = some ds → ∃ G', Ex G G' ∧ RpA K G' vs ds ∧ Rel K G' F T ρ σ H
  | [], [], ds, G, H, T, _, R, e => by
    cases e
    exact ⟨G, Ex.refl G, .nil, R⟩
  | [], _ :: _, _, _, _, _, l, _, _ => by cases l
  | _ :: _, [], _, _, _, _, l, _, _ => by cases l
  | s :: rs, v :: vs, ds, G, H, T, l, R, e => by
    unfold datAll at e
    cases h1 : datOf s with
    | none => rw [h1] at e; cases e
    | some d =>
      cases h2 : datAll rs with
      | none => rw [h1, h2] at e; cases e
      | some es =>
        rw [h1, h2] at e
        cases e
        have hl : rs.length = vs.length := Nat.succ.inj l
        have R' : Rel K G F ((s, some v) :: (ents rs vs ++ T)) ρ σ H := R
        have key : ∃ G1, Ex G G1 ∧ Rel K G1 F ((.val d, some v) :: (ents rs vs ++ T)) ρ σ H := by
          cases s with
          | un => cases h1
          | ex c => cases h1
          | val d' => cases h1; exact ⟨G, Ex.refl G, R'⟩
          | own es' =>
            cases h1
            obtain ⟨G1, e1, R1⟩ := R'.l.give
            exact ⟨G1, e1, R.len, R1⟩
        obtain ⟨G1, e1, R1⟩ := key
        obtain ⟨v', ev, hv⟩ := R1.fst
        cases ev
        obtain ⟨G2, e2, ha, R2⟩ := Rel.giveAll hl R1.drop h2
        exact ⟨G2, e1.trans e2, .cons (hv.up e2) ha, R2⟩
end
def mTup (a : MA) : MX := fun ρ => match a ρ with
  | none => none
  | some (xs, ρ1) => match datAll xs with
    | none => none
    | some ds => if ds.length ≤ sizeLine then some (.val (.tuple ds), ρ1) else none
def mLst (a : MA) : MX := fun ρ => match a ρ with
  | none => none
  | some (xs, ρ1) => match datAll xs with
    | none => none
    | some ds => if ds.length ≤ sizeLine then some (.own ds, ρ1) else none
section
variable {K : PySem.W.Frag} {X : Cx} {a b c : Expr} {ta tb tc : TE} {ma mb mc : MX} {pos : Pos} {es : List Expr} {t : TA} {m : MA}
theorem den_tup (ha : DenA K t m) : Den K (tTup t) (mTup m) := by
  intro G F T ρ σ H z ρ' Q R h q
  unfold mTup at h
  cases h1 : m ρ with
  | none => rw [h1] at h; cases h
  | some p1 =>
    obtain ⟨xs, ρ1⟩ := p1
    cases h3 : datAll xs with
    | none => simp only [h1, h3] at h; cases h
    | some ds =>
      simp only [h1, h3] at h
      split at h
      · rename_i hl
        cases h
        refine ha G F T ρ σ H xs ρ' _ R h1 fun vs G1 H1 e1 l1 R1 => ?_
        obtain ⟨G2, e2, hr, R2⟩ := R1.giveAll l1 h3
        refine ⟨by rw [hr.len]; exact hl, fun p hp => ?_⟩
        exact q _ _ _ ((e1.trans e2).trans (exg R2 hp)) (R2.pushT hp hr)
      · cases h
theorem den_lst (ha : DenA K t m) : Den K (tLst t) (mLst m) := by
  intro G F T ρ σ H z ρ' Q R h q
  unfold mLst at h
  cases h1 : m ρ with
  | none => rw [h1] at h; cases h
  | some p1 =>
    obtain ⟨xs, ρ1⟩ := p1
    cases h3 : datAll xs with
    | none => simp only [h1, h3] at h; cases h
    | some ds =>
      simp only [h1, h3] at h
      split at h
      · rename_i hl
        cases h
        refine ha G F T ρ σ H xs ρ' _ R h1 fun vs G1 H1 e1 l1 R1 => ?_
        obtain ⟨G2, e2, hr, R2⟩ := R1.giveAll l1 h3
        refine ⟨by rw [hr.len]; exact hl, fun p hp => ?_⟩
        exact q _ _ _ (e1.trans e2) (R2.pushO hp hr)
      · cases h
theorem me_tup {k : Nat} (h : MEA X K es t m) : ME X K (.Tuple es k pos) (tTup t) (mTup m) := by
  obtain rfl := h.hK
  exact ⟨rfl, pe_tup h.pe, den_tup h.dn⟩
theorem me_lst (h : MEA X K es t m) : ME X K (.List es pos) (tLst t) (mLst m) := by
  obtain rfl := h.hK
  exact ⟨rfl, pe_lst h.pe, den_lst h.dn⟩
end
def cutL {α : Type} (xs : List α) (lo hi : Option Int) : List α := (xs.drop (HT.sIx xs.length 0 lo)).take (HT.sIx xs.length xs.length hi - HT.sIx xs.length 0 lo)
abbrev MO := List Sl → Option (Option Int × List Sl)
def DenO (K : PySem.W.Frag) (t : TO) (m : MO) : Prop := ∀ (G F : Hp) (T : List Ent) (ρ : List Sl) (σ : L2.St) (H : Hp) (o : Option Int) (ρ' : List Sl) (Q : Option Int → Hp → Prop), Rel K G F T ρ σ H → m ρ = some (o, ρ') →
  (∀ G' H', Ex G G' → Rel K G' F T ρ' σ H' → Q o H') → t σ H Q
structure MEO (X : Cx) (K : PySem.W.Frag) (e : Option Expr) (t : TO) (m : MO) : Prop where
  hK : X.K = K
  pe : PO X e t
  dn : DenO K t m
def mON : MO := fun ρ => some (none, ρ)
def mOS (a : MX) : MO := fun ρ => match a ρ with
  | some (.val (.int i), ρ1) => some (some i, ρ1)
  | _ => none
@[simp] def fSl (x : Sl) (lo hi : Option Int) : Option Sl := match x with
  | .val (.str z) => if z.length ≤ sizeLine then some (.val (.str (cutS z lo hi))) else none
  | x => match lstOf x with
    | some ds => some (.own (cutL ds lo hi))
    | none => none
def mSl (a : MX) (l h : MO) : MX := fun ρ => match a ρ with
  | none => none
  | some (x, ρ1) => match l ρ1 with
    | none => none
    | some (lo, ρ2) => match h ρ2 with
      | none => none
      | some (hi, ρ3) => match fSl x lo hi with
        | none => none
        | some z => some (z, ρ3)
def rSlA (K : PySem.W.Frag) : V → Option Int → Option Int → Hp → VK → Prop := fun x lo hi H Q => rSlS x lo hi H Q ∨ rSlL K x lo hi H Q
section
variable {K : PySem.W.Frag} {X : Cx} {a b c : Expr} {ta tb tc : TE} {ma mb mc : MX} {pos : Pos} {tl th : TO} {ml mh : MO} {lo hi : Option Expr}
theorem sl_A : SlR X (rSlA X.K) := SlR.or sl_str sl_list
theorem meo_none (hK : X.K = K := by rfl) : MEO X K none tNoPart mON := by
  obtain rfl := hK
  exact ⟨rfl, po_none, by
    intro G F T ρ σ H o ρ' Q R h q
    cases h
    exact q G H (Ex.refl G) R⟩
theorem meo_some (ha : ME X K a ta ma) : MEO X K (some a) (tPart ta) (mOS ma) := by
  obtain rfl := ha.hK
  exact ⟨rfl, po_some ha.pe, by
    intro G F T ρ σ H o ρ' Q R h q
    unfold mOS at h
    split at h
    · rename_i i ρ1 h1
      cases h
      refine ha.dn G F T ρ σ H _ ρ' _ R h1 fun v G1 H1 e1 R1 => ?_
      exact ⟨i, int_of R1.fst, q G1 H1 e1 R1.drop⟩
    · cases h⟩
theorem den_sl (ha : Den K ta ma) (hl : DenO K tl ml) (hh : DenO K th mh) : Den K (tSl (rSlA K) ta tl th) (mSl ma ml mh) := by
  intro G F T ρ σ H z ρ' Q R h q
  unfold mSl at h
  cases h1 : ma ρ with
  | none => rw [h1] at h; cases h
  | some p1 =>
    obtain ⟨x, ρ1⟩ := p1
    cases h2 : ml ρ1 with
    | none => simp only [h1, h2] at h; cases h
    | some p2 =>
      obtain ⟨lo, ρ2⟩ := p2
      cases h3 : mh ρ2 with
      | none => simp only [h1, h2, h3] at h; cases h
      | some p3 =>
        obtain ⟨hi, ρ3⟩ := p3
        cases h4 : fSl x lo hi with
        | none => simp only [h1, h2, h3, h4] at h; cases h
        | some z' =>
          simp only [h1, h2, h3, h4] at h
          cases h
          refine ha G F T ρ σ H x ρ1 _ R h1 fun v G1 H1 e1 R1 => ?_
          refine hl G1 F _ ρ1 σ H1 lo ρ2 _ R1 h2 fun G2 H2 e2 R2 => ?_
          refine hh G2 F _ ρ2 σ H2 hi ρ' _ R2 h3 fun G3 H3 e3 R3 => ?_
          have e123 := (e1.trans e2).trans e3
          unfold fSl at h4
          split at h4
          · split at h4
            · rename_i s hl
              cases h4
              exact .inl ⟨s, str_of R3.fst, hl, q _ G3 H3 e123 (R3.drop.pushV (.str _))⟩
            · cases h4
          · split at h4
            · rename_i ds hd
              cases h4
              obtain ⟨p, xs, ev, s1, r1⟩ := lst_of R3.l.eg hd R3.fst
              refine .inr ⟨p, xs, ev, s1, fun p' hp => ?_⟩
              refine q _ G3 _ e123 (R3.drop.pushO hp ?_)
              unfold cutV cutL
              rw [r1.len]
              exact (r1.drop _).take _
            · cases h4
theorem me_sl {p2 : Pos} (ha : ME X K a ta ma) (hl : MEO X K lo tl ml) (hh : MEO X K hi th mh) : ME X K (.Subscript a (.Slice lo hi none p2) pos) (tSl (rSlA K) ta tl th) (mSl ma ml mh) := by
  obtain rfl := ha.hK
  exact ⟨rfl, pe_slice sl_A ha.pe hl.pe hh.pe, den_sl ha.dn hl.dn hh.dn⟩
end
def mIxO (i : Nat) (b : MX) : MX := fun ρ => match ρ[i]? with
  | none => none
  | some s0 => match lstOf s0 with
    | none => none
    | some _ => match b ρ with
      | some (.val (.int k), ρ1) => match ρ1[i]? with
        | some s => match lstOf s with
          | some ds => (atI ds k).map fun d => (.val d, ρ1)
          | none => none
        | none => none
      | _ => none
def mLenO (i : Nat) : MX := fun ρ => match ρ[i]? with
  | some s => match lstOf s with
    | some ds => some (.val (.int ds.length), ρ)
    | none => none
  | none => none
def mTruO (i : Nat) : MT := fun ρ => match ρ[i]? with
  | some s => match lstOf s with
    | some ds => some (!ds.isEmpty, ρ)
    | none => none
  | none => none
def mEqO (neg : Bool) (i : Nat) (b : MX) : MX := fun ρ => match ρ[i]? with
  | none => none
  | some s0 => match lstOf s0 with
    | none => none
    | some _ => match b ρ with
      | some (y, ρ1) => match ρ1[i]? with
        | some s => match fEq neg s y with
          | some z => some (z, ρ1)
          | none => none
        | none => none
      | none => none
section
variable {K : PySem.W.Frag} {X : Cx} {G F H : Hp} {T : List Ent} {ρ : List Sl} {σ : L2.St} {i : Nat} {s : Sl} {ds : List D} {b : Expr} {tb : TE} {mb : MX} {pos : Pos}
theorem Rel.slot (R : Rel K G F T ρ σ H) (h : ρ[i]? = some s) : ∃ ov, σ[i]? = some ov ∧ SlOk K G F H (s, ov) := by
  obtain ⟨ov, h1, h2⟩ := zip_at R.len h
  exact ⟨ov, h1, R.l.ok (s, ov) (List.mem_append_right _ (List.mem_of_getElem? h2))⟩
theorem Rel.slotL (R : Rel K G F T ρ σ H) (h : ρ[i]? = some s) (e : lstOf s = some ds) : ∃ a xs, σ[i]? = some (some (.ref a)) ∧ SqL K H a xs ∧ RpA K G xs ds := by
  obtain ⟨ov, h1, h2⟩ := R.slot h
  cases ov with
  | none =>
    cases s with
    | un => cases e
    | ex c => cases e
    | val d => obtain ⟨_, z, _⟩ := h2; cases z
    | own ds => obtain ⟨_, _, z, _⟩ := h2; cases z
  | some v =>
    obtain ⟨a, xs, e1, s1, r1⟩ := lst_of R.l.eg e h2
    subst e1
    exact ⟨a, xs, h1, s1, r1⟩
theorem den_ixO (hb : Den K tb mb) : Den K (tOp (rIx K) (tVar i) tb) (mIxO i mb) := by
  intro G F T ρ σ H z ρ' Q R h q
  unfold mIxO at h
  split at h
  · cases h
  · rename_i s0 hs0
    split at h
    · cases h
    · rename_i ds0 hd0
      obtain ⟨a, xs0, ha, _, _⟩ := R.slotL hs0 hd0
      split at h
      · rename_i k ρ1 h1
        split at h
        · rename_i s hs
          split at h
          · rename_i ds hd
            cases hc : atI ds k with
            | none => rw [hc] at h; cases h
            | some d =>
              rw [hc] at h
              cases h
              refine ⟨_, ha, ?_⟩
              refine hb G F T ρ σ H _ ρ' _ R h1 fun v G1 H1 e1 R1 => ?_
              obtain ⟨a', xs, ha', s1, r1⟩ := R1.slotL hs hd
              rw [ha] at ha'
              cases ha'
              obtain ⟨u, hu, hr⟩ := atI_rp r1 hc
              exact .inl ⟨a, xs, k, u, rfl, int_of R1.fst, s1, hu, q _ G1 H1 e1 (R1.drop.pushV hr)⟩
          · cases h
        · cases h
      · cases h
theorem den_neO (hu : True) (hb : Den K tb mb) : Den K (tOp (rNeD K) (tVar i) tb) (mEqO true i mb) := by
  intro G F T ρ σ H z ρ' Q R h q
  unfold mEqO at h
  split at h
  · cases h
  · rename_i s0 hs0
    split at h
    · cases h
    · rename_i ds0 hd0
      obtain ⟨a, xs0, ha, _, _⟩ := R.slotL hs0 hd0
      split at h
      · rename_i y ρ1 h1
        split at h
        · rename_i s hs
          split at h
          · rename_i z' hz
            cases h
            refine ⟨_, ha, ?_⟩
            refine hb G F T ρ σ H _ ρ' _ R h1 fun v G1 H1 e1 R1 => ?_
            obtain ⟨ov, ho, hok⟩ := R1.slot hs
            rw [ha] at ho
            cases ho
            unfold fEq at hz
            split at hz
            · rename_i d e h2 h3
              split at hz
              · rename_i hc
                cases hz
                have hc2 := Bool.and_eq_true_iff.mp hc
                exact ⟨d, e, dp_of _ _ (SeqAt.canLay_of_shaped hc2.1) (dat_of R1.l.eg h2 hok), dp_of _ _ (SeqAt.canLay_of_shaped hc2.2) (dat_of R1.l.eg h3 R1.fst), hc2.1, hc2.2, q _ G1 H1 e1 (R1.drop.pushV (.bl _))⟩
              · cases hz
            · cases hz
          · cases h
        · cases h
      · cases h
theorem den_lenO : Den K (tCB (rLen K) (tCons (tVar i) tNil)) (mLenO i) := by
  intro G F T ρ σ H z ρ' Q R h q
  unfold mLenO at h
  split at h
  · rename_i s hs
    split at h
    · rename_i ds hd
      cases h
      obtain ⟨a, xs, ha, s1, r1⟩ := R.slotL hs hd
      refine ⟨_, ha, _, ds.length, rfl, .inl ⟨xs, s1, r1.len.symm⟩, q _ G H (Ex.refl G) (R.pushV (.int _))⟩
    · cases h
  · cases h
theorem denT_truO : DenT K (fun σ H Q => tVar i σ H fun x H' => ∃ k, TruV K x H' k ∧ Q k H') (mTruO i) := by
  intro G F T ρ σ H z ρ' Q R h q
  unfold mTruO at h
  split at h
  · rename_i s hs
    split at h
    · rename_i ds hd
      cases h
      obtain ⟨a, xs, ha, s1, r1⟩ := R.slotL hs hd
      refine ⟨_, ha, _, .inl ⟨xs, s1, rfl⟩, ?_⟩
      have e : (!xs.isEmpty) = !ds.isEmpty := by cases r1 <;> rfl
      rw [e]
      exact q G H (Ex.refl G) R
    · cases h
  · cases h
section
variable {x : Str} {p1 : Pos}
theorem me_ixO (i : Nat) (hb : ME X K b tb mb) (hp : PlainIx b) (hN : X.N[i]? = some x := by rfl) (hv : Vis X.env.scope x := by first | exact Or.inl rfl | exact Or.inr (Or.inl rfl) | exact Or.inr (Or.inr rfl)) (hd : (x == ("__debug__" : Str)) = false := by decide)
    (hcd : (x == ("__classdict__" : Str)) = false := by decide) : ME X K (.Subscript (.Name x p1) b pos) (tOp (rIx K) (tVar i) tb) (mIxO i mb) := by
  obtain rfl := hb.hK
  exact ⟨rfl, pe_ix ix_seq (pe_var hN hv hd hcd) hb.pe hp, den_ixO hb.dn⟩
theorem met_neO (i : Nat) (hu : X.A.units + 64 < cLine) (hb : ME X K b tb mb) (hN : X.N[i]? = some x := by rfl) (hv : Vis X.env.scope x := by first | exact Or.inl rfl | exact Or.inr (Or.inl rfl) | exact Or.inr (Or.inr rfl)) (hd : (x == ("__debug__" : Str)) = false := by decide)
    (hcd : (x == ("__classdict__" : Str)) = false := by decide) : MET X K (.Compare (.Name x p1) [.NotEq] [b] pos) (tTest (tOp (rNeD K) (tVar i) tb)) (mB (mEqO true i mb)) := by
  obtain rfl := hb.hK
  exact ⟨rfl, pt_cmpR (op_neD hu) (pe_var hN hv hd hcd) hb.pe (nomark _), denT_B (den_neO trivial hb.dn)⟩
theorem me_lenO (i : Nat) {p2 : Pos} (hg : Gl X "len") (hm : X.mg "len" = none) (hN : X.N[i]? = some x := by rfl) (hv : Vis X.env.scope x := by first | exact Or.inl rfl | exact Or.inr (Or.inl rfl) | exact Or.inr (Or.inr rfl)) (hd : (x == ("__debug__" : Str)) = false := by decide)
    (hcd : (x == ("__classdict__" : Str)) = false := by decide) (hs : starEach [Expr.Name x p1] X.env = [(false, eval (.Name x p1) X.env)] := by rfl) (hK : X.K = K := by rfl) : ME X K (.Call (.Name "len" p2) [.Name x p1] [] pos) (tCB (rLen K) (tCons (tVar i) tNil)) (mLenO i) := by
  obtain rfl := hK
  exact ⟨rfl, pe_callB call_len hg hm boot_len (pa_cons (pe_var hN hv hd hcd) pa_nil hs) (by decide) (by decide) hs rfl, den_lenO⟩
theorem met_truO (i : Nat) (hN : X.N[i]? = some x := by rfl) (hv : Vis X.env.scope x := by first | exact Or.inl rfl | exact Or.inr (Or.inl rfl) | exact Or.inr (Or.inr rfl)) (hd : (x == ("__debug__" : Str)) = false := by decide)
    (hcd : (x == ("__classdict__" : Str)) = false := by decide) (hw : ∀ (whole : Sem Value), PySem.isTrue (.Name x p1) X.env whole = (do
          let v ← whole
          standAt (Expr.pos (.Name x p1))
          holding [v] (truthy v)) := by intro _; rfl) (hK : X.K = K := by rfl) : MET X K (.Name x p1) (fun σ H Q => tVar i σ H fun x H' => ∃ k, TruV K x H' k ∧ Q k H') (mTruO i) := by
  obtain rfl := hK
  exact ⟨rfl, pt_truth (pe_var hN hv hd hcd) hw, denT_truO⟩
end
end
end Dn
namespace Dn
open PySem PySem.Spec PyProof.Rows L2
open Evl (Ex)
@[simp] def intsOf : List D → Option (List Int)
  | [] => some []
  | .int i :: r => (intsOf r).map (i :: ·)
  | _ :: _ => none
@[simp] def boolsOf : List D → Option (List Bool)
  | [] => some []
  | .bool i :: r => (boolsOf r).map (i :: ·)
  | _ :: _ => none
@[simp] def strsOf : List D → Option (List Str)
  | [] => some []
  | .str i :: r => (strsOf r).map (i :: ·)
  | _ :: _ => none
theorem intsOf_eq : ∀ {ds : List D} {ns : List Int}, intsOf ds = some ns → ds = ns.map PyData.int
  | [], ns, h => by cases h; rfl
  | d :: r, ns, h => by
    cases d with
    | int i =>
      unfold intsOf at h
      cases e : intsOf r with
      | none => rw [e] at h; cases h
      | some ms => rw [e] at h; cases h; rw [intsOf_eq e]; rfl
    | _ => cases h
theorem boolsOf_eq : ∀ {ds : List D} {ns : List Bool}, boolsOf ds = some ns → ds = ns.map PyData.bool
  | [], ns, h => by cases h; rfl
  | d :: r, ns, h => by
    cases d with
    | bool i =>
      unfold boolsOf at h
      cases e : boolsOf r with
      | none => rw [e] at h; cases h
      | some ms => rw [e] at h; cases h; rw [boolsOf_eq e]; rfl
    | _ => cases h
theorem intsOf_map (ns : List Int) : intsOf (ns.map PyData.int) = some ns := by
  induction ns with
  | nil => rfl
  | cons n r ih => simp [intsOf, ih]
@[simp] def lstI (s : Sl) : Option (List Int) := (lstOf s).bind intsOf
theorem lstI_of {K : PySem.W.Frag} {G F H : Hp} {s : Sl} {v : V} {ns : List Int} (eg : Ex G H) (e : lstI s = some ns) (h : SlOk K G F H (s, some v)) : ∃ a, v = .ref a ∧ SqL K H a (ns.map V.int) := by
  unfold lstI at e
  cases h1 : lstOf s with
  | none => rw [h1] at e; cases e
  | some ds =>
    rw [h1] at e
    have e2 := intsOf_eq e
    subst e2
    obtain ⟨a, xs, ev, s1, r1⟩ := lst_of eg h1 h
    rw [r1.ints] at s1
    exact ⟨a, ev, s1⟩
@[simp] def lstB (s : Sl) : Option (List Bool) := (lstOf s).bind boolsOf
theorem lstB_of {K : PySem.W.Frag} {G F H : Hp} {s : Sl} {v : V} {ns : List Bool} (eg : Ex G H) (e : lstB s = some ns) (h : SlOk K G F H (s, some v)) : ∃ a, v = .ref a ∧ SqL K H a (ns.map V.bl) := by
  unfold lstB at e
  cases h1 : lstOf s with
  | none => rw [h1] at e; cases e
  | some ds =>
    rw [h1] at e
    have e2 := boolsOf_eq e
    subst e2
    obtain ⟨a, xs, ev, s1, r1⟩ := lst_of eg h1 h
    rw [r1.bools] at s1
    exact ⟨a, ev, s1⟩
@[simp] def fLen : List Sl → Option Sl
  | [.val (.str x)] => if x.length ≤ sizeLine then some (.val (.int x.length)) else none
  | [s] => (seqOf s).map fun ds => .val (.int ds.length)
  | _ => none
@[simp] def fSum : List Sl → Option Sl
  | [s] => (lstI s).map fun ns => .val (.int ns.sum)
  | _ => none
def maxI : Int → List Int → Int
  | m, [] => m
  | m, n :: r => maxI (if n > m then n else m) r
@[simp] def fMax1 : List Sl → Option Sl
  | [s] => match lstI s with
    | some (n :: r) => some (.val (.int (maxI n r)))
    | _ => none
  | _ => none
@[simp] def fMax2 : List Sl → Option Sl
  | [.val (.int i), .val (.int j)] => some (.val (.int (if j > i then j else i)))
  | _ => none
@[simp] def fMin2 : List Sl → Option Sl
  | [.val (.int i), .val (.int j)] => some (.val (.int (if j < i then j else i)))
  | _ => none
@[simp] def fAll : List Sl → Option Sl
  | [s] => (lstB s).map fun ns => .val (.bool (ns.all id))
  | _ => none
@[simp] def fAny : List Sl → Option Sl
  | [s] => (lstB s).map fun ns => .val (.bool (ns.any id))
  | _ => none
@[simp] def fInt : List Sl → Option Sl
  | [.val (.int i)] => some (.val (.int i))
  | [.val (.bool b)] => some (.val (.int (if b = true then 1 else 0)))
  | _ => none
@[simp] def fList : List Sl → Option Sl
  | [s] => (seqOf s).map fun ds => .own ds
  | _ => none
@[simp] def fTuple : List Sl → Option Sl
  | [s] => (seqOf s).map fun ds => .val (.tuple ds)
  | _ => none
def sortI (ns : List Int) : List Int := ns.mergeSort (fun a b => decide (a ≤ b))
theorem sortI_perm (ns : List Int) : (sortI ns).Perm ns := List.mergeSort_perm ns _
theorem sortI_sorted (ns : List Int) : (sortI ns).Pairwise (· ≤ ·) := by
  have h := List.pairwise_mergeSort (le := fun a b : Int => decide (a ≤ b)) (fun a b c h1 h2 => by simp at *; omega) (fun a b => by simp; omega) ns
  exact h.imp fun h => by simpa using h
theorem sortI_uniq {ns ms : List Int} (p : ms.Perm ns) (s : ms.Pairwise (· ≤ ·)) : ms = sortI ns :=
  List.Perm.eq_of_pairwise (fun a b _ _ h1 h2 => by omega) s (sortI_sorted ns) (p.trans (sortI_perm ns).symm)
@[simp] def fSortI : List Sl → Option Sl
  | [s] => (lstI s).map fun ns => .own ((sortI ns).map PyData.int)
  | _ => none
section
variable {K : PySem.W.Frag} {G F H : Hp} {T : List Ent} {ρ : List Sl} {σ : L2.St} {x y : Sl} {v w : V} {xs : List Sl} {vs : List V}
theorem one_of (hl : xs.length = vs.length) (e : xs = [x]) : ∃ v, vs = [v] := by
  subst e
  match vs, hl with
  | [v], _ => exact ⟨v, rfl⟩
theorem fnS_len : FnS K (rLen K) fLen := by
  intro G F T ρ σ H xs z vs Q hl R h q
  unfold fLen at h
  split at h
  · obtain ⟨v, rfl⟩ := one_of hl rfl
    split at h
    · rename_i hz
      cases h
      have hv := str_of R.fst
      subst hv
      exact ⟨_, _, rfl, ⟨hz, rfl⟩, q _ G H (Ex.refl G) (R.drop.pushV (.int _))⟩
    · cases h
  · obtain ⟨v, rfl⟩ := one_of hl rfl
    rename_i s _
    cases hd : seqOf s with
    | none => rw [hd] at h; cases h
    | some ds =>
      rw [hd] at h
      cases h
      obtain ⟨a, us, ev, s1, r1⟩ := seq_of R.l.eg hd R.fst
      subst ev
      refine ⟨_, ds.length, rfl, ?_, q _ G H (Ex.refl G) (R.drop.pushV (.int _))⟩
      rcases s1 with s1 | s1
      · exact .inl ⟨us, s1, r1.len.symm⟩
      · exact .inr ⟨us, s1, r1.len.symm⟩
  · cases h
theorem two_of {x y : Sl} (hl : xs.length = vs.length) (e : xs = [x, y]) : ∃ v w, vs = [v, w] := by
  subst e
  match vs, hl with
  | [v, w], _ => exact ⟨v, w, rfl⟩
theorem fnS_max2 : FnS K (fun xs H Q => ∃ i j, xs = [V.int i, V.int j] ∧ Q (V.int (if j > i then j else i)) H) fMax2 := by
  intro G F T ρ σ H xs z vs Q hl R h q
  unfold fMax2 at h
  split at h
  · obtain ⟨v, w, rfl⟩ := two_of hl rfl
    cases h
    have h1 := int_of R.fst
    have h2 := int_of R.drop.fst
    subst h1 h2
    exact ⟨_, _, rfl, q _ G H (Ex.refl G) (R.drop.drop.pushV (.int _))⟩
  · cases h
theorem fnS_all : FnS K (rAll K) fAll := by
  intro G F T ρ σ H xs z vs Q hl R h q
  unfold fAll at h
  split at h
  · obtain ⟨v, rfl⟩ := one_of hl rfl
    rename_i s
    cases hd : lstB s with
    | none => rw [hd] at h; cases h
    | some ns =>
      rw [hd] at h
      cases h
      obtain ⟨a, ev, s1⟩ := lstB_of R.l.eg hd R.fst
      subst ev
      exact ⟨a, ns, rfl, s1, q _ G H (Ex.refl G) (R.drop.pushV (.bl _))⟩
  · cases h
theorem fnS_int : FnS K (fun xs H Q => (∃ i, xs = [V.int i] ∧ Q (V.int i) H) ∨ ∃ k, xs = [V.bl k] ∧ Q (V.int (if k = true then 1 else 0)) H) fInt := by
  intro G F T ρ σ H xs z vs Q hl R h q
  unfold fInt at h
  split at h
  · obtain ⟨v, rfl⟩ := one_of hl rfl
    cases h
    have h1 := int_of R.fst
    subst h1
    exact .inl ⟨_, rfl, q _ G H (Ex.refl G) (R.drop.pushV (.int _))⟩
  · obtain ⟨v, rfl⟩ := one_of hl rfl
    cases h
    have h1 := bool_of R.fst
    subst h1
    exact .inr ⟨_, rfl, q _ G H (Ex.refl G) (R.drop.pushV (.int _))⟩
  · cases h
theorem fnS_list : FnS K (fun xs H Q => ∃ p ys, xs = [V.ref p] ∧ (SqL K H p ys ∨ SqT K H p ys) ∧ ∀ (l : Addr), H l = none → Q (V.ref l) (upd H l (HO.lst ys))) fList := by
  intro G F T ρ σ H xs z vs Q hl R h q
  unfold fList at h
  split at h
  · obtain ⟨v, rfl⟩ := one_of hl rfl
    rename_i s
    cases hd : seqOf s with
    | none => rw [hd] at h; cases h
    | some ds =>
      rw [hd] at h
      cases h
      obtain ⟨a, us, ev, s1, r1⟩ := seq_of R.l.eg hd R.fst
      subst ev
      exact ⟨a, us, rfl, s1, fun l hn => q _ G _ (Ex.refl G) (R.drop.pushO hn r1)⟩
  · cases h
theorem fnS_tuple : FnS K (fun xs H Q => ∃ p ys, xs = [V.ref p] ∧ ((SqL K H p ys ∧ ∀ (l : Addr), H l = none → Q (V.ref l) (upd H l (HO.tup ys))) ∨ SqT K H p ys ∧ Q (V.ref p) H)) fTuple := by
  intro G F T ρ σ H xs z vs Q hl R h q
  unfold fTuple at h
  split at h
  · obtain ⟨v, rfl⟩ := one_of hl rfl
    rename_i s
    unfold seqOf at h
    split at h
    · cases h
      obtain ⟨a, us, ev, s1, r1⟩ := lst_of (s := .val (.list _)) R.l.eg rfl R.fst
      subst ev
      exact ⟨a, us, rfl, .inl ⟨s1, fun l hn => q _ _ _ (exg R hn) (R.drop.pushT hn r1)⟩⟩
    · cases h
      obtain ⟨a, us, ev, s1, r1⟩ := tup_of R.l.eg R.fst
      subst ev
      exact ⟨a, us, rfl, .inr ⟨s1, q _ G H (Ex.refl G) R⟩⟩
    · cases h
      obtain ⟨a, us, ev, s1, r1⟩ := lst_of (s := .own _) R.l.eg rfl R.fst
      subst ev
      exact ⟨a, us, rfl, .inl ⟨s1, fun l hn => q _ _ _ (exg R hn) (R.drop.pushT hn r1)⟩⟩
    · cases h
  · cases h
end
section
variable {K : PySem.W.Frag} {X : Cx} {e : Expr} {es : List Expr} {t : TA} {m : MA} {pos p : Pos} {x : Str} {r : List V → Hp → VK → Prop} {f : List Sl → Option Sl}
theorem me_fn {id : String} (hf : FnS K r f) (hr : CallR X (.builtin id) r) (hg : Gl X x) (hm : X.mg x = none) (hb : bootBuiltins x = some (.builtin id)) (ha : MEA X K (e :: es) t m) (h1 : x ≠ "__name__" := by decide) (h2 : (x == ("__debug__" : Str)) = false := by decide)
    (h3 : starEach (e :: es) X.env = (false, eval e X.env) :: starEach es X.env := by rfl) (h4 : (backTo pos (starEach es X.env)).any (·.1) = false := by rfl) : ME X K (.Call (.Name x p) (e :: es) [] pos) (tCB r t) (mFn f m) := by
  obtain rfl := ha.hK
  exact ⟨rfl, pe_callB hr hg hm hb ha.pe h1 h2 h3 h4, den_fn hf ha.dn⟩
theorem me_fnT {T : String} (hf : FnS K r f) (hr : CallR X (.type T) r) (hg : Gl X x) (hm : X.mg x = none) (hb : bootBuiltins x = some (.type T)) (ha : MEA X K (e :: es) t m) (h1 : x ≠ "__name__" := by decide) (h2 : (x == ("__debug__" : Str)) = false := by decide)
    (h3 : starEach (e :: es) X.env = (false, eval e X.env) :: starEach es X.env := by rfl) (h4 : (backTo pos (starEach es X.env)).any (·.1) = false := by rfl) : ME X K (.Call (.Name x p) (e :: es) [] pos) (tCB r t) (mFn f m) := by
  obtain rfl := ha.hK
  exact ⟨rfl, pe_callTy hr hg hm hb ha.pe h1 h2 h3 h4, den_fn hf ha.dn⟩
end
@[simp] def tyName : D → String
  | .none => "NoneType"
  | .bool _ => "bool"
  | .int _ => "int"
  | .str _ => "str"
  | .list _ => "list"
  | .tuple _ => "tuple"
  | .dict _ => "dict"
@[simp] def tySl : Sl → Option String
  | .val d => some (tyName d)
  | .own _ => some "list"
  | .un => none
  | .ex _ => none
@[simp] def isTy (a b : String) : Bool := a == b || (a == "bool" && b == "int")
@[simp] def fIsi (ts : List String) (s : Sl) : Option Sl := (tySl s).map fun a => .val (.bool (ts.any (isTy a)))
def knownT : List String := ["int", "bool", "list", "tuple", "str"]
theorem kit_known : ∀ a ∈ ["NoneType", "bool", "int", "str", "list", "tuple", "dict"], ∀ b ∈ knownT, kitB a b = some (isTy a b) := by decide +kernel
theorem tyName_mem (d : D) : tyName d ∈ ["NoneType", "bool", "int", "str", "list", "tuple", "dict"] := by cases d <;> simp [tyName]
section
variable {K : PySem.W.Frag} {G F H : Hp} {s : Sl} {v : V} {a : String}
theorem lst_tyX {p : Addr} {xs : List V} (h : SqL K H p xs) : TyX K H (.ref p) (.type "list") := by
  rcases h with (h | ⟨o, h⟩) | ⟨o, its, n, hk, hc, _⟩
  · exact .base (.lst h)
  · exact .base (.frz h)
  · exact .kList hk hc
theorem tupK_tyX {p : Addr} {i j : Int} (h : TupK K p i j) : TyX K H (.ref p) (.type "tuple") := let ⟨_, _, _, _, hk, hc, _⟩ := h; .kTuple hk hc
theorem tyX_of (eg : Ex G H) (e : tySl s = some a) (h : SlOk K G F H (s, some v)) : TyX K H v (.type a) ∧ a ∈ ["NoneType", "bool", "int", "str", "list", "tuple", "dict"] := by
  cases s with
  | un => cases e
  | ex c => cases e
  | val d =>
    cases e
    refine ⟨?_, tyName_mem d⟩
    obtain ⟨v', ev, hv⟩ := h
    cases ev
    cases hv with
    | non => exact .base .non
    | bl b => exact .base (.bl b)
    | int i => exact .base (.int i)
    | str x => exact .base (.str x)
    | lst hs _ => exact lst_tyX (Evl.ex_l eg hs)
    | tup hs _ => exact .base (.tup (eg _ _ hs))
    | tupK hk => exact tupK_tyX hk
    | dic kvs hs => exact .base (.dK (eg _ _ hs))
  | own ds =>
    cases e
    refine ⟨?_, by decide⟩
    obtain ⟨p, vs, ev, h1, _⟩ := h
    cases ev
    exact .base (.lst h1)
theorem kitAny_of : ∀ {ts : List String}, a ∈ ["NoneType", "bool", "int", "str", "list", "tuple", "dict"] → (∀ b ∈ ts, b ∈ knownT) → PySem.W.kitAny K (.type a) (ts.map .type) = some (ts.any (isTy a))
  | [], _, _ => rfl
  | b :: ts, ha, h => by
    have h1 := kit_known a ha b (h b List.mem_cons_self)
    have ih := kitAny_of (ts := ts) ha fun c hc => h c (List.mem_cons_of_mem _ hc)
    refine kitAny_cons (kit_ty h1) (fun hb => ?_) (fun hb => ?_)
    · show PySem.W.kitAny K (.type a) (ts.map .type) = some (isTy a b || ts.any (isTy a))
      rw [hb, Bool.false_or]
      exact ih
    · show (isTy a b || ts.any (isTy a)) = true
      rw [hb, Bool.true_or]
def tIsi (K : PySem.W.Frag) (ta : TE) (b : String) : TE := tCB (rIsi K) (tCons ta (tCons (tC (.ty b)) tNil))
theorem den_isi {ta : TE} {ma : MX} {b : String} (hb : b ∈ knownT) (ha : Den K ta ma) : Den K (tIsi K ta b) (mUn (fIsi [b]) ma) := by
  intro G F T ρ σ H z ρ' Q R h q
  unfold mUn at h
  cases h1 : ma ρ with
  | none => rw [h1] at h; cases h
  | some p1 =>
    obtain ⟨x, ρ1⟩ := p1
    simp only [h1] at h
    unfold fIsi at h
    cases h3 : tySl x with
    | none => rw [h3] at h; cases h
    | some a =>
      rw [h3] at h
      cases h
      refine ha G F T ρ σ H x ρ' _ R h1 fun v G1 H1 e1 R1 => ?_
      obtain ⟨ty, hm⟩ := tyX_of R1.l.eg h3 R1.fst
      refine ⟨v, .ty b, .type a, .type b, isTy a b, rfl, .ty b, ty, kit_ty (kit_known a hm b hb), ?_⟩
      have e : isTy a b = [b].any (isTy a) := by simp
      rw [e]
      exact q _ G1 H1 e1 (R1.drop.pushV (.bl _))
def tTys : List String → TA
  | [] => tNil
  | b :: r => tCons (tC (.ty b)) (tTys r)
theorem tTys_eq : ∀ (bs : List String) (σ : L2.St) (H : Hp) (Q : List V → Hp → Prop), Q (bs.map V.ty) H → tTys bs σ H Q
  | [], _, _, _, h => h
  | b :: r, σ, H, Q, h => tTys_eq r σ H _ h
def tIsiT (K : PySem.W.Frag) (ta : TE) (bs : List String) : TE := tCB (rIsiT K) (tCons ta (tCons (tTup (tTys bs)) tNil))
theorem den_isiT {ta : TE} {ma : MX} {bs : List String} (hb : ∀ b ∈ bs, b ∈ knownT) (hl : bs.length ≤ 100) (ha : Den K ta ma) : Den K (tIsiT K ta bs) (mUn (fIsi bs) ma) := by
  intro G F T ρ σ H z ρ' Q R h q
  unfold mUn at h
  cases h1 : ma ρ with
  | none => rw [h1] at h; cases h
  | some p1 =>
    obtain ⟨x, ρ1⟩ := p1
    simp only [h1] at h
    unfold fIsi at h
    cases h3 : tySl x with
    | none => rw [h3] at h; cases h
    | some a =>
      rw [h3] at h
      cases h
      refine ha G F T ρ σ H x ρ' _ R h1 fun v G1 H1 e1 R1 => ?_
      refine tTys_eq bs σ H1 _ ⟨by rw [List.length_map]; exact Nat.le_trans hl (by decide), fun p hp => ?_⟩
      have R2 : Rel K (upd G1 p (.tup (bs.map V.ty))) F ((x, some v) :: T) ρ' σ (upd H1 p (.tup (bs.map V.ty))) := ⟨R1.len, R1.l.grow hp⟩
      obtain ⟨ty, hm⟩ := tyX_of R2.l.eg h3 R2.fst
      have hcs : ∀ cs : List String, Paired ClsV (cs.map V.ty) (cs.map Value.type) := fun cs => by
        induction cs with
        | nil => exact .nil
        | cons c r ih => exact .cons (.ty c) ih
      exact ⟨v, p, bs.map V.ty, .type a, bs.map Value.type, bs.any (isTy a), rfl, upd_same, hcs bs, ty, kitAny_of hm hb, q _ _ _ (e1.trans (exg R1 hp)) (R2.drop.pushV (.bl _))⟩
end
section
variable {K : PySem.W.Frag} {X : Cx} {e : Expr} {ta : TE} {ma : MX} {pos p p1 p2 p3 p4 : Pos} {x y z : Str} {b c : String} {k : Nat}
theorem me_isi (hg : Gl X "isinstance") (hm : X.mg "isinstance" = none) (ha : ME X K e ta ma) (hgy : Gl X y) (hmy : X.mg y = none) (hby : bootBuiltins y = some (.type b)) (hk : b ∈ knownT) (hn : y ≠ "__name__" := by decide) (hd : (y == ("__debug__" : Str)) = false := by decide)
    (h3 : starEach [e, .Name y p1] X.env = (false, eval e X.env) :: starEach [.Name y p1] X.env := by rfl) (h5 : starEach [Expr.Name y p1] X.env = [(false, eval (.Name y p1) X.env)] := by rfl) (h4 : (backTo pos (starEach [Expr.Name y p1] X.env)).any (·.1) = false := by rfl) :
    ME X K (.Call (.Name "isinstance" p) [e, .Name y p1] [] pos) (tIsi K ta b) (mUn (fIsi [b]) ma) := by
  obtain rfl := ha.hK
  exact ⟨rfl, pe_callB call_isi hg hm (by decide +kernel) (pa_cons ha.pe (pa_cons (pe_bltn (v := .ty b) hgy hmy hby rfl hn hd) pa_nil h5) h3) (by decide) (by decide) h3 h4, den_isi hk ha.dn⟩
theorem me_isiT2 (hg : Gl X "isinstance") (hm : X.mg "isinstance" = none) (ha : ME X K e ta ma) (hgy : Gl X y) (hmy : X.mg y = none) (hby : bootBuiltins y = some (.type b)) (hgz : Gl X z) (hmz : X.mg z = none) (hbz : bootBuiltins z = some (.type c)) (hk : b ∈ knownT) (hk2 : c ∈ knownT)
    (hn : y ≠ "__name__" := by decide) (hd : (y == ("__debug__" : Str)) = false := by decide) (hn2 : z ≠ "__name__" := by decide) (hd2 : (z == ("__debug__" : Str)) = false := by decide)
    (h3 : starEach [e, .Tuple [.Name y p1, .Name z p2] k p3] X.env = (false, eval e X.env) :: starEach [.Tuple [.Name y p1, .Name z p2] k p3] X.env := by rfl)
    (h5 : starEach [Expr.Tuple [.Name y p1, .Name z p2] k p3] X.env = [(false, eval (.Tuple [.Name y p1, .Name z p2] k p3) X.env)] := by rfl)
    (h6 : starEach [Expr.Name y p1, .Name z p2] X.env = (false, eval (.Name y p1) X.env) :: starEach [Expr.Name z p2] X.env := by rfl)
    (h7 : starEach [Expr.Name z p2] X.env = [(false, eval (.Name z p2) X.env)] := by rfl)
    (h4 : (backTo pos (starEach [Expr.Tuple [.Name y p1, .Name z p2] k p3] X.env)).any (·.1) = false := by rfl) :
    ME X K (.Call (.Name "isinstance" p) [e, .Tuple [.Name y p1, .Name z p2] k p3] [] pos) (tIsiT K ta [b, c]) (mUn (fIsi [b, c]) ma) := by
  obtain rfl := ha.hK
  exact ⟨rfl, pe_callB call_isiT hg hm (by decide +kernel) (pa_cons ha.pe (pa_cons (pe_tup (pa_cons (pe_bltn (v := .ty b) hgy hmy hby rfl hn hd) (pa_cons (pe_bltn (v := .ty c) hgz hmz hbz rfl hn2 hd2) pa_nil h7) h6)) pa_nil h5) h3) (by decide) (by decide) h3 h4,
      den_isiT (fun d hd => by rcases List.mem_cons.mp hd with rfl | hd; exact hk; rcases List.mem_cons.mp hd with rfl | hd; exact hk2; cases hd) (show 2 ≤ 100 by decide) ha.dn⟩
end
end Dn
namespace Dn
open PySem PySem.Spec PyProof.Rows L2
open Evl (Ex)
inductive Out where
  | nx (ρ : List Sl)
  | rt (r : Sl) (ρ : List Sl)
  | bk (ρ : List Sl)
  | ct (ρ : List Sl)
abbrev MS := List Sl → Option Out
def Kept (kp : Nat → Bool) (σ σ' : L2.St) : Prop := σ'.length = σ.length ∧ ∀ i, kp i = true → σ'[i]? = σ[i]?
theorem Kept.refl (kp : Nat → Bool) (σ : L2.St) : Kept kp σ σ := ⟨rfl, fun _ _ => rfl⟩
theorem Kept.trans {kp : Nat → Bool} {σ σ1 σ2 : L2.St} (a : Kept kp σ σ1) (b : Kept kp σ1 σ2) : Kept kp σ σ2 := ⟨b.1.trans a.1, fun i h => (b.2 i h).trans (a.2 i h)⟩
theorem Kept.set {kp : Nat → Bool} {σ : L2.St} {i : Nat} {o : Option V} (h : kp i = false) : Kept kp σ (σ.set i o) := ⟨List.length_set, fun j hj => by
  have ne : i ≠ j := fun e => by
    subst e
    rw [h] at hj
    cases hj
  rw [List.getElem?_set_ne ne]⟩
def Post (K : PySem.W.Frag) (kp : Nat → Bool) (G F : Hp) (σ : L2.St) (D : Ends) : Out → Prop
  | .nx ρ' => ∀ G' σ' H', Ex G G' → Kept kp σ σ' → Rel K G' F [] ρ' σ' H' → D.nx σ' H'
  | .rt r ρ' => ∀ v G' σ' H', Ex G G' → Kept kp σ σ' → Rel K G' F [(r, some v)] ρ' σ' H' → D.rt v H'
  | .bk ρ' => ∀ G' σ' H', Ex G G' → Kept kp σ σ' → Rel K G' F [] ρ' σ' H' → D.bk σ' H'
  | .ct ρ' => ∀ G' σ' H', Ex G G' → Kept kp σ σ' → Rel K G' F [] ρ' σ' H' → D.ct σ' H'
def DenS (K : PySem.W.Frag) (kp : Nat → Bool) (t : TS) (m : MS) : Prop := ∀ (G F : Hp) (ρ : List Sl) (σ : L2.St) (H : Hp) (D : Ends) (o : Out), Rel K G F [] ρ σ H → m ρ = some o → Post K kp G F σ D o → t D σ H
theorem Post.up {K : PySem.W.Frag} {kp : Nat → Bool} {G G1 F : Hp} {σ σ1 : L2.St} {D : Ends} {o : Out} (h : Post K kp G F σ D o) (e : Ex G G1) (k : Kept kp σ σ1) : Post K kp G1 F σ1 D o := by
  cases o with
  | nx ρ => exact fun G' σ' H' e' k' R => h G' σ' H' (e.trans e') (k.trans k') R
  | rt r ρ => exact fun v G' σ' H' e' k' R => h v G' σ' H' (e.trans e') (k.trans k') R
  | bk ρ => exact fun G' σ' H' e' k' R => h G' σ' H' (e.trans e') (k.trans k') R
  | ct ρ => exact fun G' σ' H' e' k' R => h G' σ' H' (e.trans e') (k.trans k') R
structure MSt (X : Cx) (kp : Nat → Bool) (st : Stmt) (t : TS) (m : MS) : Prop where
  pe : PS X st t
  dn : DenS X.K kp t m
structure MSs (X : Cx) (kp : Nat → Bool) (st : List Stmt) (t : TS) (m : MS) : Prop where
  pe : PSs X st t
  dn : DenS X.K kp t m
abbrev MG := D → List Sl → Option (List Sl)
def DenG (K : PySem.W.Frag) (kp : Nat → Bool) (vs : List Nat) (g : TG) (m : MG) : Prop := ∀ (G F : Hp) (T : List Ent) (ρ : List Sl) (σ : L2.St) (H : Hp) (d : D) (v : V) (ρ' : List Sl) (Q : L2.St → Hp → Prop), Rel K G F ((.val d, some v) :: T) ρ σ H → m d ρ = some ρ' →
  (∀ σ', Kept kp σ σ' → (∀ ws, (∀ i ∈ vs, i ∈ ws) → wipe σ' ws = wipe σ ws) → Rel K G F T ρ' σ' H → Q σ' H) → g v σ H Q
structure MGt (X : Cx) (K : PySem.W.Frag) (kp : Nat → Bool) (vs : List Nat) (e : Expr) (g : TG) (m : MG) : Prop where
  hK : X.K = K
  pe : PG X e g
  dn : DenG K kp vs g m
theorem wipe_set {i : Nat} {o : Option V} : ∀ {ws : List Nat} {σ : L2.St}, i ∈ ws → wipe (σ.set i o) ws = wipe σ ws
  | [], _, h => by cases h
  | w :: ws, σ, h => by
    unfold wipe
    by_cases e : i = w
    · subst e
      by_cases hm : i ∈ ws
      · rw [wipe_set hm]
      · have key : ∀ (ws : List Nat), i ∉ ws → ∀ τ : L2.St, wipe (τ.set i o) ws = (wipe τ ws).set i o := by
          intro ws
          induction ws with
          | nil => intro _ τ; rfl
          | cons y ys ih =>
            intro hn τ
            unfold wipe
            rw [ih (fun z => hn (List.mem_cons_of_mem _ z)) τ]
            rw [List.set_comm _ _ (fun z => hn (by rw [z]; exact List.mem_cons_self))]
        rw [key ws hm σ, List.set_set]
    · have hm : i ∈ ws := (List.mem_cons.mp h).resolve_left e
      rw [wipe_set hm]
theorem wipe_wipe (σ : L2.St) : ∀ ws : List Nat, wipe (wipe σ ws) ws = wipe σ ws := by
  have key : ∀ (us ws : List Nat), (∀ i ∈ us, i ∈ ws) → wipe (wipe σ us) ws = wipe σ ws := by
    intro us
    induction us with
    | nil => intro ws _; rfl
    | cons u us ih =>
      intro ws h
      show wipe ((wipe σ us).set u none) ws = wipe σ ws
      rw [wipe_set (h u List.mem_cons_self)]
      exact ih ws fun i hi => h i (List.mem_cons_of_mem _ hi)
  exact fun ws => key ws ws fun _ h => h
def mgN (kp : Nat → Bool) (i : Nat) : MG := fun d ρ => if kp i = false ∧ i < ρ.length then some (ρ.set i (.val d)) else none
@[simp] def mgNs (kp : Nat → Bool) : List Nat → List D → List Sl → Option (List Sl)
  | [], [], ρ => some ρ
  | i :: r, d :: ds, ρ => if kp i = false ∧ i < ρ.length then mgNs kp r ds (ρ.set i (.val d)) else none
  | _, _, _ => none
def mgT (kp : Nat → Bool) (is : List Nat) : MG := fun d ρ => match d with
  | .tuple ds => mgNs kp is ds ρ
  | _ => none
def mgL (kp : Nat → Bool) (is : List Nat) : MG := fun d ρ => match d with
  | .tuple ds => mgNs kp is ds ρ
  | .list ds => mgNs kp is ds ρ
  | _ => none
def gNames : List Nat → TGs
  | [] => gNil
  | i :: r => gCons (gName i) (gNames r)
section
variable {K : PySem.W.Frag} {X : Cx} {kp : Nat → Bool} {pos : Pos}
theorem denG_name {i : Nat} : DenG K kp [i] (gName i) (mgN kp i) := by
  intro G F T ρ σ H d v ρ' Q R h q
  unfold mgN at h
  split at h
  · rename_i hc
    cases h
    exact q _ (Kept.set hc.1) (fun ws hw => wipe_set (hw i List.mem_cons_self)) (R.assign hc.2)
  · cases h
theorem mg_name (i : Nat) {x : Str} (hN : X.N.Nodup) (hi : X.N[i]? = some x := by rfl) (hx : Loc X.env.scope x := by first | exact Or.inl rfl | exact Or.inr rfl) (hf : X.fn x = true ∨ X.env.scope.names.lookup x = some .local := by first | exact .inl rfl | exact .inr rfl) (hK : X.K = K := by rfl) : MGt X K kp [i] (.Name x pos) (gName i) (mgN kp i) := by
  obtain rfl := hK
  exact ⟨rfl, pg_name hN hi hx hf, denG_name⟩
theorem den_gNs : ∀ (is : List Nat) (ds : List D) (G F : Hp) (T : List Ent) (ρ : List Sl) (σ : L2.St) (H : Hp) (xs : List V) (ρ' : List Sl) (Q : L2.St → Hp → Prop), Rel K G F T ρ σ H → RpA K G xs ds → mgNs kp is ds ρ = some ρ' →
    (∀ σ', Kept kp σ σ' → (∀ ws, (∀ i ∈ is, i ∈ ws) → wipe σ' ws = wipe σ ws) → Rel K G F T ρ' σ' H → Q σ' H) → gNames is xs σ H Q
  | [], ds, G, F, T, ρ, σ, H, xs, ρ', Q, R, ha, h, q => by
    cases ds with
    | nil =>
      cases ha
      cases h
      exact ⟨rfl, q σ (Kept.refl kp σ) (fun _ _ => rfl) R⟩
    | cons _ _ => cases h
  | i :: is, ds, G, F, T, ρ, σ, H, xs, ρ', Q, R, ha, h, q => by
    cases ds with
    | nil => cases h
    | cons d ds =>
      cases ha with
      | cons hd ht =>
        rename_i v vs
        unfold mgNs at h
        split at h
        · rename_i hc
          refine ⟨v, vs, rfl, ?_⟩
          refine den_gNs is ds G F T (ρ.set i (.val d)) (σ.set i (some v)) H vs ρ' _ ((R.pushV hd).assign hc.2) ht h fun σ' k hw R' => ?_
          refine q σ' ((Kept.set hc.1).trans k) (fun ws hi => ?_) R'
          rw [hw ws fun j hj => hi j (List.mem_cons_of_mem _ hj)]
          exact wipe_set (hi i List.mem_cons_self)
        · cases h
theorem mgNs_len : ∀ {is : List Nat} {ds : List D} {ρ ρ' : List Sl}, mgNs kp is ds ρ = some ρ' → ds.length = is.length
  | [], [], _, _, _ => rfl
  | [], _ :: _, _, _, h => by cases h
  | _ :: _, [], _, _, h => by cases h
  | i :: is, d :: ds, ρ, ρ', h => by
    unfold mgNs at h
    split at h
    · exact congrArg (· + 1) (mgNs_len h)
    · cases h
def gTL (K : PySem.W.Frag) (n : Nat) (t : TGs) : TG := fun v σ H Q => gTup K n t v σ H Q ∨ gUnl K n t v σ H Q
theorem PG.or {e : Expr} {g g' : TG} (h : PG X e g) (h' : PG X e g') : PG X e (fun v σ H Q => g v σ H Q ∨ g' v σ H Q) := ⟨fun pins s σ H v u Q I r q => by
  rcases q with q | q
  · exact h.run pins s σ H v u Q I r q
  · exact h'.run pins s σ H v u Q I r q⟩
theorem denG_tl {is : List Nat} : DenG K kp is (gTL K is.length (gNames is)) (mgL kp is) := by
  intro G F T ρ σ H d v ρ' Q R h q
  unfold mgL at h
  split at h
  · obtain ⟨a, xs, ev, s1, r1⟩ := tup_of R.l.eg R.fst
    exact .inl ⟨a, xs, ev, s1, by rw [r1.len]; exact mgNs_len h, den_gNs is _ G F T ρ σ H xs ρ' Q R.drop r1 h q⟩
  · obtain ⟨a, xs, ev, s1, r1⟩ := lst_of (s := .val (.list _)) R.l.eg rfl R.fst
    exact .inr ⟨a, xs, ev, s1, by rw [r1.len]; exact mgNs_len h, den_gNs is _ G F T ρ σ H xs ρ' Q R.drop r1 h q⟩
  · cases h
theorem mg_tl {es : List Expr} {k : Nat} {is : List Nat} (hc : X.calm = true) (h : PGs X es (gNames is)) (h1 : (assignEach es X.env).length = is.length := by rfl) (h2 : (assignEach es X.env).findIdx? (·.1) = none := by rfl) (hK : X.K = K := by rfl) : MGt X K kp is (.Tuple es k pos) (gTL K is.length (gNames is)) (mgL kp is) := by
  obtain rfl := hK
  exact ⟨rfl, PG.or (pg_tup hc h h1 h2) (pg_unl hc h h1 h2), denG_tl⟩
theorem pgn_nil : PGs X [] (gNames []) := pgs_nil
theorem pgn_cons (i : Nat) {x : Str} {es : List Expr} {is : List Nat} (h2 : PGs X es (gNames is)) (hN : X.N.Nodup) (hi : X.N[i]? = some x := by rfl) (hx : Loc X.env.scope x := by first | exact Or.inl rfl | exact Or.inr rfl) (hf : X.fn x = true ∨ X.env.scope.names.lookup x = some .local := by first | exact .inl rfl | exact .inr rfl)
    (hs : (assignEach (.Name x pos :: es) X.env).map (·.2) = assign (.Name x pos) X.env :: (assignEach es X.env).map (·.2) := by rfl) : PGs X (.Name x pos :: es) (gNames (i :: is)) := pgs_cons (pg_name hN hi hx hf) h2 hs
end
def mNext : MS := fun ρ => some (.nx ρ)
def mBrk : MS := fun ρ => some (.bk ρ)
def mCont : MS := fun ρ => some (.ct ρ)
def mSeq (a b : MS) : MS := fun ρ => match a ρ with
  | some (.nx ρ1) => b ρ1
  | o => o
def mIfS (c : MT) (a b : MS) : MS := fun ρ => match c ρ with
  | none => none
  | some (k, ρ1) => if k = true then a ρ1 else b ρ1
def mRet (a : MX) : MS := fun ρ => match a ρ with
  | none => none
  | some (r, ρ1) => some (.rt r ρ1)
def mExpr (a : MX) : MS := fun ρ => match a ρ with
  | none => none
  | some (_, ρ1) => some (.nx ρ1)
def mAsg (kp : Nat → Bool) (i : Nat) (a : MX) : MS := fun ρ => match a ρ with
  | none => none
  | some (r, ρ1) => if kp i = false ∧ i < ρ1.length then some (.nx (ρ1.set i r)) else none
def mAsg2 (kp : Nat → Bool) (i j : Nat) (a : MX) : MS := fun ρ => match a ρ with
  | some (.val d, ρ1) => if kp i = false ∧ kp j = false ∧ i < ρ1.length ∧ j < ρ1.length then some (.nx ((ρ1.set i (.val d)).set j (.val d))) else none
  | _ => none
def mAsgT (a : MX) (g : MG) : MS := fun ρ => match a ρ with
  | some (.val d, ρ1) => match g d ρ1 with
    | some ρ2 => some (.nx ρ2)
    | none => none
  | _ => none
def mAug (kp : Nat → Bool) (i : Nat) (f : Int → Int → Int) (a : MX) : MS := fun ρ => match ρ[i]? with
  | some (.val (.int k)) => match a ρ with
    | some (.val (.int j), ρ1) => if kp i = false ∧ i < ρ1.length then some (.nx (ρ1.set i (.val (.int (f k j))))) else none
    | _ => none
  | _ => none
def mSetO (i : Nat) (b a : MX) : MS := fun ρ => match a ρ with
  | none => none
  | some (r, ρ1) => match datOf r with
    | none => none
    | some d => match ρ1[i]? with
      | some (.own _) => match b ρ1 with
        | some (.val (.int k), ρ2) => match ρ2[i]? with
          | some (.own ds) => match ixN ds.length k with
            | some j => some (.nx (ρ2.set i (.own (ds.set j d))))
            | none => none
          | _ => none
        | _ => none
      | _ => none
def mAugO (i : Nat) (f : Int → Int → Int) (b a : MX) : MS := fun ρ => match ρ[i]? with
  | some (.own _) => match b ρ with
    | some (.val (.int k), ρ1) => match ρ1[i]? with
      | some (.own ds) => match atI ds k with
        | some (.int x) => match a ρ1 with
          | some (.val (.int y), ρ2) => match ρ2[i]? with
            | some (.own es) => match ixN es.length k with
              | some j => some (.nx (ρ2.set i (.own (es.set j (.int (f x y))))))
              | none => none
            | _ => none
          | _ => none
        | _ => none
      | _ => none
    | _ => none
  | _ => none
section
variable {K : PySem.W.Frag} {X : Cx} {kp : Nat → Bool} {pos : Pos} {st : Stmt} {rest' body els : List Stmt} {t u : TS} {mt mu : MS} {e c : Expr} {te : TE} {me : MX} {tc : TT} {mc : MT}
theorem denS_next : DenS K kp tNext mNext := by
  intro G F ρ σ H D o R h q
  cases h
  exact q G σ H (Ex.refl G) (Kept.refl kp σ) R
theorem mss_nil : MSs X kp [] tNext mNext := ⟨pss_nil, denS_next⟩
theorem denS_seq (h1 : DenS K kp t mt) (h2 : DenS K kp u mu) : DenS K kp (tSeq t u) (mSeq mt mu) := by
  intro G F ρ σ H D o R h q
  unfold mSeq at h
  cases e1 : mt ρ with
  | none => rw [e1] at h; cases h
  | some o1 =>
    rw [e1] at h
    refine h1 G F ρ σ H { D with nx := u D } o1 R e1 ?_
    cases o1 with
    | nx ρ1 => exact fun G' σ' H' e' k' R' => h2 G' F ρ1 σ' H' D o R' h (q.up e' k')
    | rt r ρ1 => cases h; exact q
    | bk ρ1 => cases h; exact q
    | ct ρ1 => cases h; exact q
theorem mss_cons (h1 : MSt X kp st t mt) (h2 : MSs X kp rest' u mu) : MSs X kp (st :: rest') (tSeq t u) (mSeq mt mu) := ⟨pss_cons h1.pe h2.pe, denS_seq h1.dn h2.dn⟩
theorem mss_one (h1 : MSt X kp st t mt) : MSs X kp [st] t mt := ⟨pss_one h1.pe, h1.dn⟩
theorem denS_if (hc : DenT K tc mc) (h1 : DenS K kp t mt) (h2 : DenS K kp u mu) : DenS K kp (tIfS tc t u) (mIfS mc mt mu) := by
  intro G F ρ σ H D o R h q
  unfold mIfS at h
  cases e1 : mc ρ with
  | none => rw [e1] at h; cases h
  | some p =>
    obtain ⟨k, ρ1⟩ := p
    simp only [e1] at h
    refine hc G F [] ρ σ H k ρ1 _ R e1 fun G1 H1 ex1 R1 => ?_
    cases k with
    | true =>
      rw [if_pos rfl] at h ⊢
      exact h1 G1 F ρ1 σ H1 D o R1 h (q.up ex1 (Kept.refl kp σ))
    | false =>
      rw [if_neg Bool.false_ne_true] at h ⊢
      exact h2 G1 F ρ1 σ H1 D o R1 h (q.up ex1 (Kept.refl kp σ))
theorem ms_if (hc : MET X X.K c tc mc) (h1 : MSs X kp body t mt) (h2 : MSs X kp els u mu) : MSt X kp (.If c body els pos) (tIfS tc t u) (mIfS mc mt mu) := ⟨ps_if hc.pe h1.pe h2.pe, denS_if hc.dn h1.dn h2.dn⟩
theorem ms_ret (h1 : ME X X.K e te me) : MSt X kp (.Return (some e) pos) (tRet te) (mRet me) := ⟨ps_ret h1.pe, by
  intro G F ρ σ H D o R h q
  unfold mRet at h
  cases e1 : me ρ with
  | none => rw [e1] at h; cases h
  | some p =>
    obtain ⟨r, ρ1⟩ := p
    simp only [e1] at h
    cases h
    exact h1.dn G F [] ρ σ H r ρ1 _ R e1 fun v G1 H1 e1 R1 => q v G1 σ H1 e1 (Kept.refl kp σ) R1⟩
theorem ms_expr (h1 : ME X X.K e te me) (hs : swapsWith e none pos.line X.env = pure false := by rfl) : MSt X kp (.Expr e pos) (tDrop te) (mExpr me) := ⟨ps_expr h1.pe hs, by
  intro G F ρ σ H D o R h q
  unfold mExpr at h
  cases e1 : me ρ with
  | none => rw [e1] at h; cases h
  | some p =>
    obtain ⟨r, ρ1⟩ := p
    simp only [e1] at h
    cases h
    exact h1.dn G F [] ρ σ H r ρ1 _ R e1 fun v G1 H1 e1 R1 => q G1 σ H1 e1 (Kept.refl kp σ) R1.drop⟩
theorem denS_asg {i : Nat} (h1 : Den K te me) : DenS K kp (tAsg te (gName i)) (mAsg kp i me) := by
  intro G F ρ σ H D o R h q
  unfold mAsg at h
  cases e1 : me ρ with
  | none => rw [e1] at h; cases h
  | some p =>
    obtain ⟨r, ρ1⟩ := p
    simp only [e1] at h
    split at h
    · rename_i hc
      cases h
      exact h1 G F [] ρ σ H r ρ1 _ R e1 fun v G1 H1 e1 R1 => q G1 _ H1 e1 (Kept.set hc.1) (R1.assign hc.2)
    · cases h
theorem ms_asg (i : Nat) {x : Str} {p : Pos} (h1 : ME X X.K e te me) (hN : X.N.Nodup) (hi : X.N[i]? = some x := by rfl) (hx : Loc X.env.scope x := by first | exact Or.inl rfl | exact Or.inr rfl) (hf : X.fn x = true ∨ X.env.scope.names.lookup x = some .local := by first | exact .inl rfl | exact .inr rfl)
    (hs1 : swapsWithSole [.Name x p] e pos.line X.env = pure false := by rfl) (hs2 : swappedStores [.Name x p] e X.env = pure none := by rfl) (hs3 : (assignEach [.Name x p] X.env).map (·.2) = [assign (.Name x p) X.env] := by rfl) : MSt X kp (.Assign [.Name x p] e pos) (tAsg te (gName i)) (mAsg kp i me) :=
  ⟨ps_asg h1.pe (pg_name hN hi hx hf) hs1 hs2 hs3, denS_asg h1.dn⟩
theorem ms_asgT {tg : Expr} {g : TG} {mg : MG} {vs : List Nat} (h1 : ME X X.K e te me) (h2 : MGt X X.K kp vs tg g mg)
    (hs1 : swapsWithSole [tg] e pos.line X.env = pure false := by rfl) (hs2 : swappedStores [tg] e X.env = pure none := by rfl) (hs3 : (assignEach [tg] X.env).map (·.2) = [assign tg X.env] := by rfl) : MSt X kp (.Assign [tg] e pos) (tAsg te g) (mAsgT me mg) :=
  ⟨ps_asg h1.pe h2.pe hs1 hs2 hs3, by
    intro G F ρ σ H D o R h q
    unfold mAsgT at h
    split at h
    · rename_i d ρ1 e1
      split at h
      · rename_i ρ2 e2
        cases h
        refine h1.dn G F [] ρ σ H _ ρ1 _ R e1 fun v G1 H1 e1 R1 => ?_
        exact h2.dn G1 F [] ρ1 σ H1 d v ρ2 _ R1 e2 fun σ' k _ R2 => q G1 σ' H1 e1 k R2
      · cases h
    · cases h⟩
theorem denS_aug {i : Nat} {f : Int → Int → Int} (h1 : Den K te me) : DenS K kp (tAug i te (ipI f)) (mAug kp i f me) := by
  intro G F ρ σ H D o R h q
  unfold mAug at h
  split at h
  · rename_i k hk
    split at h
    · rename_i j ρ1 e1
      split at h
      · rename_i hc
        cases h
        obtain ⟨v, hv1, hv2, _⟩ := R.var hk
        cases hv2
        refine ⟨_, hv1, ?_⟩
        refine h1 G F [] ρ σ H _ ρ1 _ R e1 fun v G1 H1 e1 R1 => ?_
        exact ⟨k, j, rfl, int_of R1.fst, q G1 _ H1 e1 (Kept.set hc.1) ((R1.drop.pushV (.int _)).assign hc.2)⟩
      · cases h
    · cases h
  · cases h
theorem denS_setO {i : Nat} {tb : TE} {mb : MX} (hb : Den K tb mb) (h1 : Den K te me) : DenS K kp (tAsg te (gSub (tVar i) tb rSetL)) (mSetO i mb me) := by
  intro G F ρ σ H D o R h q
  unfold mSetO at h
  split at h
  · cases h
  · rename_i r ρ1 e1
    split at h
    · cases h
    · rename_i d hd
      split at h
      · rename_i ds0 hs0
        split at h
        · rename_i k ρ2 e2
          split at h
          · rename_i ds hs
            split at h
            · rename_i j hj
              cases h
              refine h1 G F [] ρ σ H _ ρ1 _ R e1 fun v G1 H1 e1 R1 => ?_
              obtain ⟨a, _, ha, _, _⟩ := R1.ownVar hs0
              refine ⟨_, ha, ?_⟩
              refine hb G1 F _ ρ1 σ H1 _ ρ2 _ R1 e2 fun w G2 H2 e2 R2 => ?_
              obtain ⟨a', xs, ha', hx, hr⟩ := R2.ownVar hs
              rw [ha] at ha'
              cases ha'
              have hl : [r].length = [v].length := rfl
              obtain ⟨G3, e3, hrs, R3⟩ := Rel.giveAll (rs := [r]) (vs := [v]) (ds := [d]) (T := []) hl R2.drop (by unfold datAll; rw [hd]; rfl)
              cases hrs with
              | cons hv _ =>
                obtain ⟨a', xs', ha', hx', hr'⟩ := R3.ownVar hs
                rw [ha] at ha'
                cases ha'
                rw [hx] at hx'
                cases hx'
                refine ⟨a, xs, k, j, rfl, int_of R2.fst, hx, by rw [hr.len]; exact hj, ?_⟩
                exact q G3 σ _ ((e1.trans e2).trans e3) (Kept.refl kp σ) (R3.mutVar hs ha (hr'.set hv j))
            · cases h
          · cases h
        · cases h
      · cases h
section
variable {x : Str} {p p2 : Pos} {b : Expr} {tb : TE} {mb : MX}
theorem ms_aug (i : Nat) {op : Operator} {f : Int → Int → Int} (hp : PIp X op (ipI f)) (h1 : ME X X.K e te me) (hN : X.N.Nodup) (hi : X.N[i]? = some x := by rfl) (hx : Loc X.env.scope x := by first | exact Or.inl rfl | exact Or.inr rfl) (hv : X.fn x = true ∨ X.env.scope.names.lookup x = some .local := by first | exact .inl rfl | exact .inr rfl) : MSt X kp (.AugAssign (.Name x p) op e pos) (tAug i te (ipI f)) (mAug kp i f me) :=
  ⟨ps_aug hN hi hx h1.pe hp, denS_aug h1.dn⟩
theorem ms_setO (i : Nat) (h1 : ME X X.K e te me) (hb : ME X X.K b tb mb) (hN : X.N[i]? = some x := by rfl) (hv : Vis X.env.scope x := by first | exact Or.inl rfl | exact Or.inr (Or.inl rfl) | exact Or.inr (Or.inr rfl)) (hd : (x == ("__debug__" : Str)) = false := by decide)
    (hcd : (x == ("__classdict__" : Str)) = false := by decide) (hs1 : swapsWithSole [.Subscript (.Name x p) b p2] e pos.line X.env = pure false := by rfl) (hs2 : swappedStores [.Subscript (.Name x p) b p2] e X.env = pure none := by rfl)
    (hs3 : (assignEach [.Subscript (.Name x p) b p2] X.env).map (·.2) = [assign (.Subscript (.Name x p) b p2) X.env] := by rfl)
    (ha : ∀ v, assign (.Subscript (.Name x p) b p2) X.env v = (do let ov ← holding [v] (eval (.Name x p) X.env); let iv ← holding [v, ov] (eval b X.env); standAt p2; holding [v, ov, iv] (setItem ov iv v); release [v, ov, iv] []) := by intro _; rfl) : MSt X kp (.Assign [.Subscript (.Name x p) b p2] e pos) (tAsg te (gSub (tVar i) tb rSetL)) (mSetO i mb me) :=
  ⟨ps_asg h1.pe (pg_sub (pe_var hN hv hd hcd) hb.pe set_list ha) hs1 hs2 hs3, denS_setO hb.dn h1.dn⟩
end
end
end Dn
namespace Dn
open PySem PySem.Spec PyProof.Rows L2
open Evl (Ex)
def mMeth (i : Nat) (f : List D → List D → Option (D × List D)) (a : MA) : MX := fun ρ => match ρ[i]? with
  | some (.own _) => match a ρ with
    | none => none
    | some (xs, ρ1) => match datAll xs with
      | none => none
      | some es => match ρ1[i]? with
        | some (.own ds) => match f ds es with
          | none => none
          | some (d, ds') => some (.val d, ρ1.set i (.own ds'))
        | _ => none
  | _ => none
def MethS (K : PySem.W.Frag) (r : V → List V → Hp → VK → Prop) (f : List D → List D → Option (D × List D)) : Prop := ∀ (G H : Hp) (p : Addr) (xs vs : List V) (ds es : List D) (d : D) (ds' : List D) (Q : VK), H p = some (.lst xs) → Ex G H → RpA K G xs ds → RpA K G vs es → f ds es = some (d, ds') →
  (∀ v xs', RpA K G xs' ds' → Rp K G v d → Q v (upd H p (.lst xs'))) → r (.ref p) vs H Q
section
variable {K : PySem.W.Frag} {X : Cx} {i : Nat} {f : List D → List D → Option (D × List D)} {r : V → List V → Hp → VK → Prop} {t : TA} {m : MA}
theorem den_meth (hf : MethS K r f) (ha : DenA K t m) : Den K (tBM K "list" r (tVar i) t) (mMeth i f m) := by
  intro G F T ρ σ H z ρ' Q R h q
  unfold mMeth at h
  split at h
  · rename_i ds0 hs0
    split at h
    · cases h
    · rename_i xs ρ1 e1
      split at h
      · cases h
      · rename_i es hd
        split at h
        · rename_i ds hs
          split at h
          · cases h
          · rename_i d ds' hfd
            cases h
            obtain ⟨a, us, haσ, hH0, _⟩ := R.ownVar hs0
            refine ⟨_, haσ, .inl ⟨rfl, us, .inl (.inl hH0)⟩, ?_⟩
            refine ha G F T ρ σ H xs ρ1 _ R e1 fun vs G1 H1 ex1 l1 R1 => ?_
            obtain ⟨G2, e2, hr, R2⟩ := R1.giveAll l1 hd
            obtain ⟨a', us', ha', hH, hrs⟩ := R2.ownVar hs
            rw [haσ] at ha'
            cases ha'
            refine hf G2 H1 a us' vs ds es d ds' Q hH R2.l.eg hrs hr hfd fun v xs' hx hv => ?_
            exact q v G2 _ (ex1.trans e2) ((R2.mutVar hs haσ hx).pushV hv)
        · cases h
  · cases h
theorem den_meth0 (hf : MethS K r f) : Den K (tBM0 K "list" r (tVar i)) (mMeth i f mNil) := by
  intro G F T ρ σ H z ρ' Q R h q
  unfold mMeth at h
  split at h
  · rename_i ds0 hs0
    simp only [mNil, datAll, hs0] at h
    split at h
    · cases h
    · rename_i d ds' hfd
      cases h
      obtain ⟨a, us, haσ, hH, hrs⟩ := R.ownVar hs0
      refine ⟨_, haσ, .inl ⟨rfl, us, .inl (.inl hH)⟩, ?_⟩
      exact hf G H a us [] ds0 [] d ds' Q hH R.l.eg hrs .nil hfd fun v xs' hx hv => q v G _ (Ex.refl G) ((R.mutVar hs0 haσ hx).pushV hv)
  · cases h
@[simp] def fApp (ds es : List D) : Option (D × List D) := match es with
  | [e] => if ds.length < sizeLine then some (.none, ds ++ [e]) else none
  | _ => none
theorem methS_app : MethS K rAppend fApp := by
  intro G H p xs vs ds es d ds' Q hH eg hx hv hf q
  unfold fApp at hf
  split at hf
  · rename_i e
    split at hf
    · rename_i hl
      cases hf
      cases hv with
      | cons h1 h2 =>
        cases h2
        exact ⟨p, xs, _, rfl, rfl, hH, by rw [hx.len]; exact hl, q _ _ (hx.app (.cons h1 .nil)) .non⟩
    · cases hf
  · cases hf
@[simp] def fIns (ds es : List D) : Option (D × List D) := match es with
  | [.int i, e] => if ds.length < sizeLine ∧ 0 ≤ i ∧ i < 2 ^ 63 then some (.none, ds.take i.toNat ++ [e] ++ ds.drop i.toNat) else none
  | _ => none
@[simp] def fPop (ds es : List D) : Option (D × List D) := match es with
  | [] => match ds[ds.length - 1]? with
    | some d => some (d, ds.dropLast)
    | none => none
  | _ => none
theorem RpA.dropLast {H : Hp} {xs : List V} {ds : List D} (h : RpA K H xs ds) : RpA K H xs.dropLast ds.dropLast := by
  rw [List.dropLast_eq_take, List.dropLast_eq_take, h.len]
  exact h.take _
theorem methS_pop : MethS K rPop fPop := by
  intro G H p xs vs ds es d ds' Q hH eg hx hv hf q
  unfold fPop at hf
  split at hf
  · split at hf
    · rename_i d0 hd
      cases hf
      cases hv
      obtain ⟨v, h1, h2⟩ := hx.getD hd
      exact ⟨p, xs, v, rfl, rfl, hH, by rw [hx.len]; exact h1, q _ _ hx.dropLast h2⟩
    · cases hf
  · cases hf
@[simp] def fPop0 (ds es : List D) : Option (D × List D) := match es with
  | [.int i] => if i = 0 then match ds with
      | d :: r => some (d, r)
      | [] => none
    else none
  | _ => none
@[simp] def fRev (ds es : List D) : Option (D × List D) := match es with
  | [] => some (.none, ds.reverse)
  | _ => none
@[simp] def fClr (ds es : List D) : Option (D × List D) := match es with
  | [] => some (.none, [])
  | _ => none
section
variable {x : Str} {p apos cpos : Pos} {e : Expr} {es : List Expr} {name : Str} {id : String}
theorem me_meth (i : Nat) (hsl : Slot "list" name id) (hty : typeOf (.builtin id) = pure (.type "method_descriptor")) (hf : MethS K r f) (hr : MtR X id r) (ha : MEA X K (e :: es) t m) (hN : X.N[i]? = some x := by rfl) (hv : Vis X.env.scope x := by first | exact Or.inl rfl | exact Or.inr (Or.inl rfl) | exact Or.inr (Or.inr rfl)) (hd : (x == ("__debug__" : Str)) = false := by decide)
    (hcd : (x == ("__classdict__" : Str)) = false := by decide)
    (h1 : attributeBase (.Name x p) name X.env (eval (.Name x p) X.env) = eval (.Name x p) X.env := by rfl)
    (h2 : (((backTo cpos (starEach (e :: es) X.env)).all (fun x => !x.1)) && ((backToKw cpos (keywordEach [] X.env)).all fun x => x.1.isSome) && decide (((e :: es).length + ([] : List Keyword).length + if ([] : List Keyword).isEmpty then 0 else 1) < 30)) = true := by rfl)
    (h3 : (apos.endLine == cpos.line) = true := by rfl)
    (h4 : starEach (e :: es) X.env = (false, eval e X.env) :: starEach es X.env := by rfl) (h5 : (backTo cpos (starEach es X.env)).any (·.1) = false := by rfl) : ME X K (.Call (.Attribute (.Name x p) name apos) (e :: es) [] cpos) (tBM K "list" r (tVar i) t) (mMeth i f m) := by
  obtain rfl := ha.hK
  exact ⟨rfl, pe_bm PySem.F.plainAttrs_list hsl hty hr (pe_var hN hv hd hcd) ha.pe h1 h2 h3 h4 h5, den_meth hf ha.dn⟩
theorem me_meth0 (i : Nat) (hsl : Slot "list" name id) (hty : typeOf (.builtin id) = pure (.type "method_descriptor")) (hf : MethS K r f) (hr : MtR X id r) (hN : X.N[i]? = some x := by rfl) (hv : Vis X.env.scope x := by first | exact Or.inl rfl | exact Or.inr (Or.inl rfl) | exact Or.inr (Or.inr rfl)) (hd : (x == ("__debug__" : Str)) = false := by decide)
    (hcd : (x == ("__classdict__" : Str)) = false := by decide)
    (h1 : attributeBase (.Name x p) name X.env (eval (.Name x p) X.env) = eval (.Name x p) X.env := by rfl)
    (h3 : (apos.endLine == cpos.line) = true := by rfl) (hK : X.K = K := by rfl) : ME X K (.Call (.Attribute (.Name x p) name apos) [] [] cpos) (tBM0 K "list" r (tVar i)) (mMeth i f mNil) := by
  obtain rfl := hK
  exact ⟨rfl, pe_bm0 PySem.F.plainAttrs_list hsl hty hr (pe_var hN hv hd hcd) h1 h3, den_meth0 hf⟩
end
end
def Walks (K : PySem.W.Frag) (J : It) (G : Hp) (ds : List D) : Prop := ∀ (G1 F : Hp) (T : List Ent) (ρ : List Sl) (σ : L2.St) (H : Hp), Ex G G1 → Rel K G1 F T ρ σ H →
  J.stop ds.length H ∧ ∀ i d, ds[i]? = some d → J.go i H ∧ ∀ x H', J.yld i H x H' → ∃ G2, Ex G1 G2 ∧ Rel K G2 F ((.val d, some x) :: T) ρ σ H'
abbrev MI := List Sl → Option (List D × List Sl)
def DenI (K : PySem.W.Frag) (wi : TI) (m : MI) : Prop := ∀ (G F : Hp) (T : List Ent) (ρ : List Sl) (σ : L2.St) (H : Hp) (ds : List D) (ρ' : List Sl) (R : It → Hp → Prop), Rel K G F T ρ σ H → m ρ = some (ds, ρ') →
  (∀ J G' H', Ex G G' → Rel K G' F T ρ' σ H' → Walks K J G' ds → R J H') → wi σ H R
structure MIt (X : Cx) (K : PySem.W.Frag) (tg iter : Expr) (wi : TI) (m : MI) : Prop where
  hK : X.K = K
  pe : PI X tg iter wi
  dn : DenI K wi m
def miL (a : MX) : MI := fun ρ => match a ρ with
  | some (.val (.list ds), ρ1) => some (ds, ρ1)
  | _ => none
def miS (a : MX) : MI := fun ρ => match a ρ with
  | some (.val (.list ds), ρ1) => some (ds, ρ1)
  | some (.val (.tuple ds), ρ1) => some (ds, ρ1)
  | _ => none
def miN (a : MX) : MI := fun ρ => match a ρ with
  | some (.val (.list ds), ρ1) => some (ds, ρ1)
  | some (.own ds, ρ1) => some (ds, ρ1)
  | _ => none
def rangeD (lo : Int) (n : Nat) : List D := (List.range n).map fun (k : Nat) => PyData.int (lo + (k : Int))
def miR1 (a : MA) : MI := fun ρ => match a ρ with
  | some ([.val (.int n)], ρ1) => if n < 2 ^ 62 ∧ -(2 ^ 62) ≤ n then some (rangeD 0 n.toNat, ρ1) else none
  | _ => none
def miR2 (a : MA) : MI := fun ρ => match a ρ with
  | some ([.val (.int m), .val (.int n)], ρ1) => if -(2 ^ 62) ≤ m ∧ m < 2 ^ 62 ∧ -(2 ^ 62) ≤ n ∧ n < 2 ^ 62 then some (rangeD m (n - m).toNat, ρ1) else none
  | _ => none
def enumD (ds : List D) : List D := ds.zipIdx.map fun p => .tuple [.int (p.2 : Int), p.1]
def zipD (ds es : List D) : List D := (ds.zip es).map fun p => .tuple [p.1, p.2]
def miE (a : MX) : MI := fun ρ => match a ρ with
  | some (.val (.list ds), ρ1) => some (enumD ds, ρ1)
  | some (.own ds, ρ1) => some (enumD ds, ρ1)
  | _ => none
def strD (x : Str) : List D := x.cps.toList.map fun c => .str ⟨#[c]⟩
def miStr (a : MX) : MI := fun ρ => match a ρ with
  | some (.val (.str x), ρ1) => some (strD x, ρ1)
  | _ => none
section
variable {K : PySem.W.Frag} {X : Cx} {G F H : Hp} {T : List Ent} {ρ : List Sl} {σ : L2.St} {tg e : Expr} {te : TE} {me : MX} {ds : List D}
theorem walks_list {a : Addr} {xs : List V} (hs : SqL K G a xs) (hr : RpA K G xs ds) : Walks K (Itl K a) G ds := by
  intro G1 F T ρ σ H e1 R
  have hH : SqL K H a xs := Evl.ex_l (e1.trans R.l.eg) hs
  refine ⟨⟨xs, hH, Nat.le_of_eq hr.len⟩, fun i d hd => ?_⟩
  obtain ⟨v, hv, hrv⟩ := hr.getD hd
  refine ⟨⟨xs, v, hH, hv⟩, fun x H' hy => ?_⟩
  obtain ⟨rfl, hy⟩ := hy
  have ex := hy xs hH
  rw [hv] at ex
  cases ex
  exact ⟨G1, Ex.refl G1, R.pushV (hrv.up e1)⟩
theorem walks_tup {a : Addr} {xs : List V} (hs : SqT K G a xs) (hr : RpA K G xs ds) : Walks K (Itt K a) G ds := by
  intro G1 F T ρ σ H e1 R
  have hH : SqT K H a xs := Evl.ex_t (e1.trans R.l.eg) hs
  refine ⟨⟨xs, hH, Nat.le_of_eq hr.len⟩, fun i d hd => ?_⟩
  obtain ⟨v, hv, hrv⟩ := hr.getD hd
  refine ⟨⟨xs, v, hH, hv⟩, fun x H' hy => ?_⟩
  obtain ⟨rfl, hy⟩ := hy
  have ex := hy xs hH
  rw [hv] at ex
  cases ex
  exact ⟨G1, Ex.refl G1, R.pushV (hrv.up e1)⟩
theorem walks_range {lo : Int} {n : Nat} : Walks K (Itr lo n) G (rangeD lo n) := by
  intro G1 F T ρ σ H e1 R
  refine ⟨by show n ≤ (rangeD lo n).length; simp [rangeD], fun i d hd => ?_⟩
  have hi : i < n := by
    have := (List.getElem?_eq_some_iff.mp hd).1
    simpa [rangeD] using this
  have ed : d = .int (lo + (i : Int)) := by
    unfold rangeD at hd
    rw [List.getElem?_map, List.getElem?_range hi] at hd
    exact (Option.some.inj hd).symm
  refine ⟨hi, fun x H' hy => ?_⟩
  obtain ⟨rfl, rfl⟩ := hy
  subst ed
  exact ⟨G1, Ex.refl G1, R.pushV (.int _)⟩
theorem mi_new (h1 : ME X K e te me) : MIt X K tg e (iList K te) (miN me) := by
  obtain rfl := h1.hK
  exact ⟨rfl, pi_list h1.pe, by
    intro G F T ρ σ H ds ρ' P R h q
    unfold miN at h
    split at h
    · rename_i e1
      cases h
      refine h1.dn G F T ρ σ H _ ρ' _ R e1 fun v G1 H1 ex R1 => ?_
      obtain ⟨v', ev, hv⟩ := R1.fst
      cases ev
      cases hv with
      | lst hs ha => exact ⟨_, rfl, ⟨_, Evl.ex_l R1.l.eg hs⟩, q _ G1 H1 ex R1.drop (walks_list hs ha)⟩
    · rename_i e1
      cases h
      refine h1.dn G F T ρ σ H _ ρ' _ R e1 fun v G1 H1 ex R1 => ?_
      obtain ⟨G2, ex2, R2'⟩ := R1.l.give
      have R2 : Rel X.K G2 F ((.val (.list ds), some v) :: T) ρ' σ H1 := ⟨R1.len, R2'⟩
      obtain ⟨v', ev, hv⟩ := R2.fst
      cases ev
      cases hv with
      | lst hs ha => exact ⟨_, rfl, ⟨_, Evl.ex_l R2.l.eg hs⟩, q _ G2 H1 (ex.trans ex2) R2.drop (walks_list hs ha)⟩
    · cases h⟩
theorem mi_range1 {p pos : Pos} {ta : TA} {ma : MA} (hg : Gl X "range") (hm : X.mg "range" = none) (h1 : MEA X K [e] ta ma) (hs : starEach [e] X.env = [(false, eval e X.env)] := by rfl) : MIt X K tg (.Call (.Name "range" p) [e] [] pos) (iRng1 ta) (miR1 ma) := by
  obtain rfl := h1.hK
  exact ⟨rfl, pi_range1 hg hm h1.pe hs, by
    intro G F T ρ σ H ds ρ' P R h q
    unfold miR1 at h
    split at h
    · rename_i n ρ1 e1
      split at h
      · rename_i hc
        cases h
        refine h1.dn G F T ρ σ H _ ρ' _ R e1 fun vs G1 H1 ex hl R1 => ?_
        obtain ⟨v, rfl⟩ := one_of hl rfl
        have hv := int_of R1.fst
        subst hv
        exact ⟨n, rfl, hc.2, hc.1, q _ G1 H1 ex R1.drop walks_range⟩
      · cases h
    · cases h⟩
theorem mi_range2 {e2 : Expr} {p pos : Pos} {ta : TA} {ma : MA} (hg : Gl X "range") (hm : X.mg "range" = none) (h1 : MEA X K [e, e2] ta ma) (hs : starEach [e, e2] X.env = [(false, eval e X.env), (false, eval e2 X.env)] := by rfl) (hs2 : starEach [e2] X.env = [(false, eval e2 X.env)] := by rfl) : MIt X K tg (.Call (.Name "range" p) [e, e2] [] pos) (iRng2 ta) (miR2 ma) := by
  obtain rfl := h1.hK
  exact ⟨rfl, pi_range2 hg hm h1.pe hs hs2, by
    intro G F T ρ σ H ds ρ' P R h q
    unfold miR2 at h
    split at h
    · rename_i m n ρ1 e1
      split at h
      · rename_i hc
        cases h
        refine h1.dn G F T ρ σ H _ ρ' _ R e1 fun vs G1 H1 ex hl R1 => ?_
        obtain ⟨v, w, rfl⟩ := two_of hl rfl
        have hv := int_of R1.fst
        have hw := int_of R1.drop.fst
        subst hv hw
        exact ⟨m, n, rfl, hc, q _ G1 H1 ex R1.drop.drop walks_range⟩
      · cases h
    · cases h⟩
end
def iSeq (K : PySem.W.Frag) (tl : TE) : TI := fun σ H R => tl σ H fun x H1 => ∃ a, x = .ref a ∧ (((∃ xs, SqL K H1 a xs) ∧ R (Itl K a) H1) ∨ ((∃ xs, SqT K H1 a xs) ∧ R (Itt K a) H1))
section
variable {K : PySem.W.Frag} {X : Cx} {tg e : Expr} {te : TE} {me : MX}
theorem pi_seq (hl : PE X e te) : PI X tg e (iSeq X.K te) := by
  refine ⟨fun pins s σ H R I h => ?_⟩
  refine thn (hl.run pins s σ H _ I h) fun v s1 ⟨x, H1, I1, r1, a, ex, q⟩ => ?_
  subst ex
  rcases q with ⟨⟨xs, hq⟩, q⟩ | ⟨⟨xs, hq⟩, q⟩
  · cases r1
    obtain ⟨its, rv, p, hz⟩ := I1.list hq
    refine wpAny_pyIter_list p.isList ?_
    refine ⟨s1.heap.objs.size, [s1.heap.objs.size], _, _, H1, rfl, I1.kept (t' := s1.toks) fun b o e => Heap.get?_push_of_some _ e, turn_list a _, ⟨_, Heap.get?_push_size _ rfl, rfl, rfl⟩, fun b hb => ?_, q⟩
    have e : b = s1.heap.objs.size := by simpa using hb
    subst e
    exact I1.fpOk (Nat.le_refl _) (I1.hok.fresh (Nat.le_refl _))
  · cases r1
    obtain ⟨its, rv, p, hz⟩ := I1.tuple hq
    refine wpAny_pyIter_tuple (show s1.heap.IsTuple a its.toArray from p) ?_
    refine ⟨s1.heap.objs.size, [s1.heap.objs.size], _, _, H1, rfl, I1.kept (t' := s1.toks) fun b o e => Heap.get?_push_of_some _ e, turn_tuple a _, ⟨_, Heap.get?_push_size _ rfl, rfl, rfl⟩, fun b hb => ?_, q⟩
    have e : b = s1.heap.objs.size := by simpa using hb
    subst e
    exact I1.fpOk (Nat.le_refl _) (I1.hok.fresh (Nat.le_refl _))
theorem mi_seq (h1 : ME X K e te me) : MIt X K tg e (iSeq K te) (miS me) := by
  obtain rfl := h1.hK
  exact ⟨rfl, pi_seq h1.pe, by
    intro G F T ρ σ H ds ρ' P R h q
    unfold miS at h
    split at h
    · rename_i e1
      cases h
      refine h1.dn G F T ρ σ H _ ρ' _ R e1 fun v G1 H1 ex R1 => ?_
      obtain ⟨v', ev, hv⟩ := R1.fst
      cases ev
      cases hv with
      | lst hs ha => exact ⟨_, rfl, .inl ⟨⟨_, Evl.ex_l R1.l.eg hs⟩, q _ G1 H1 ex R1.drop (walks_list hs ha)⟩⟩
    · rename_i e1
      cases h
      refine h1.dn G F T ρ σ H _ ρ' _ R e1 fun v G1 H1 ex R1 => ?_
      obtain ⟨v', ev, hv⟩ := R1.fst
      cases ev
      cases hv with
      | tup hs ha => exact ⟨_, rfl, .inr ⟨⟨_, .inl (.inl (R1.l.eg _ _ hs))⟩, q _ G1 H1 ex R1.drop (walks_tup (.inl (.inl hs)) ha)⟩⟩
      | tupK hk => exact ⟨_, rfl, .inr ⟨⟨_, hk.sqt _⟩, q _ G1 H1 ex R1.drop (walks_tup (hk.sqt _) (.cons (.int _) (.cons (.int _) .nil)))⟩⟩
    · cases h⟩
end
end Dn
namespace Dn
open PySem PySem.Spec PyProof.Rows L2
open Evl (Ex)
@[simp] def mLoop (g : MG) (b : MS) : List D → List Sl → Option Out
  | [], ρ => some (.nx ρ)
  | d :: ds, ρ => match g d ρ with
    | none => none
    | some ρ1 => match b ρ1 with
      | some (.nx ρ2) => mLoop g b ds ρ2
      | some (.ct ρ2) => mLoop g b ds ρ2
      | some (.bk ρ2) => some (.nx ρ2)
      | some (.rt r ρ2) => some (.rt r ρ2)
      | none => none
def mFor (i : MI) (g : MG) (b : MS) : MS := fun ρ => match i ρ with
  | none => none
  | some (ds, ρ1) => mLoop g b ds ρ1
section
variable {K : PySem.W.Frag} {X : Cx} {kp : Nat → Bool} {pos : Pos} {wi : TI} {mi : MI} {g : TG} {mg : MG} {tb : TS} {mb : MS} {vs : List Nat}
theorem denS_for (hi : DenI K wi mi) (hg : DenG K kp vs g mg) (hb : DenS K kp tb mb) : DenS K kp (tFor wi g tb) (mFor mi mg mb) := by
  intro G F ρ σ H D o R h q
  unfold mFor at h
  cases e1 : mi ρ with
  | none => rw [e1] at h; cases h
  | some p =>
    obtain ⟨ds, ρ1⟩ := p
    simp only [e1] at h
    refine hi G F [] ρ σ H ds ρ1 _ R e1 fun J G1 H1 ex1 R1 W => ?_
    refine ⟨fun i m σ' H' => i + m = ds.length ∧ ∃ ρ' G', Ex G1 G' ∧ Kept kp σ σ' ∧ Rel K G' F [] ρ' σ' H' ∧ mLoop mg mb (ds.drop i) ρ' = some o, ⟨ds.length, Nat.zero_add _, ρ1, G1, Ex.refl G1, Kept.refl kp σ, R1, h⟩, ?_⟩
    rintro i m σ2 H2 ⟨him, ρ2, G2, ex2, k2, R2, h2⟩
    obtain ⟨hstop, hgo⟩ := W G2 F [] ρ2 σ2 H2 ex2 R2
    by_cases hlt : i < ds.length
    · have hd : ds[i]? = some ds[i] := List.getElem?_eq_getElem hlt
      have hdrop : ds.drop i = ds[i] :: ds.drop (i + 1) := (List.drop_eq_getElem_cons hlt)
      rw [hdrop] at h2
      unfold mLoop at h2
      obtain ⟨go, yld⟩ := hgo i _ hd
      refine .inr ⟨go, fun σ' H' => ∃ ρ' G', Ex G1 G' ∧ Kept kp σ σ' ∧ Rel K G' F [] ρ' σ' H' ∧ mLoop mg mb (ds.drop (i + 1)) ρ' = some o, fun σ' H' hN => ⟨m - 1, by omega, by omega, hN⟩, fun x H' hy => ?_⟩
      obtain ⟨G3, ex3, R3⟩ := yld x H' hy
      cases e3 : mg ds[i] ρ2 with
      | none => rw [e3] at h2; cases h2
      | some ρ3 =>
        simp only [e3] at h2
        refine hg G3 F [] ρ2 σ2 H' _ x ρ3 _ R3 e3 fun σ4 k4 _ R4 => ?_
        cases e4 : mb ρ3 with
        | none => rw [e4] at h2; cases h2
        | some o4 =>
          rw [e4] at h2
          refine hb G3 F ρ3 σ4 H' _ o4 R4 e4 ?_
          cases o4 with
          | nx ρ5 => exact fun G5 σ5 H5 ex5 k5 R5 => ⟨ρ5, G5, (ex2.trans ex3).trans ex5, (k2.trans k4).trans k5, R5, h2⟩
          | ct ρ5 => exact fun G5 σ5 H5 ex5 k5 R5 => ⟨ρ5, G5, (ex2.trans ex3).trans ex5, (k2.trans k4).trans k5, R5, h2⟩
          | bk ρ5 =>
            cases h2
            exact fun G5 σ5 H5 ex5 k5 R5 => q G5 σ5 H5 (((ex1.trans ex2).trans ex3).trans ex5) ((k2.trans k4).trans k5) R5
          | rt r ρ5 =>
            cases h2
            exact fun v G5 σ5 H5 ex5 k5 R5 => q v G5 σ5 H5 (((ex1.trans ex2).trans ex3).trans ex5) ((k2.trans k4).trans k5) R5
    · have e : i = ds.length := by omega
      subst e
      rw [List.drop_length] at h2
      cases h2
      exact .inl ⟨hstop, q G2 σ2 H2 (ex1.trans ex2) k2 R2⟩
theorem ms_for {tg iter : Expr} {body : List Stmt} (hp : PassesOwn (model X.prog X.w) X.A X.env X.xe) (hc : X.calm = true) (hi : MIt X X.K tg iter wi mi) (hg : MGt X X.K kp vs tg g mg) (hb : MSs X kp body tb mb)
    (hs : ∀ x, foldedSetIterable iter X.env x = pure x := by intro _; rfl) : MSt X kp (.For tg iter body [] pos) (tFor wi g tb) (mFor mi mg mb) := ⟨ps_for hp hc hi.pe hg.pe hb.pe hs, denS_for hi.dn hg.dn hb.dn⟩
end
@[simp] def wipeD (ρ : List Sl) : List Nat → List Sl
  | [] => ρ
  | v :: vs => (wipeD ρ vs).set v .un
def mTYes : MT := fun ρ => some (true, ρ)
@[simp] def mCompL (g : MG) (t : MT) (e : MX) (vs : List Nat) : List D → List D → List Sl → Option (List D × List Sl)
  | [], acc, ρ => some (acc, ρ)
  | d :: ds, acc, ρ => match g d (wipeD ρ vs) with
    | none => none
    | some ρ1 => match t ρ1 with
      | none => none
      | some (false, ρ2) => mCompL g t e vs ds acc ρ2
      | some (true, ρ2) => match e ρ2 with
        | none => none
        | some (r, ρ3) => match datOf r with
          | none => none
          | some y => if acc.length < sizeLine then mCompL g t e vs ds (acc ++ [y]) ρ3 else none
def mComp (i : MI) (g : MG) (t : MT) (e : MX) (vs : List Nat) : MX := fun ρ => match i ρ with
  | none => none
  | some (ds, ρ1) => match mCompL g t e vs ds [] (wipeD ρ1 vs) with
    | none => none
    | some (acc, ρ2) => some (.own acc, wipeD ρ2 vs)
section
variable {K : PySem.W.Frag} {X : Cx} {kp : Nat → Bool} {pos : Pos} {wi : TI} {mi : MI} {g : TG} {mg : MG} {tt : TT} {mt : MT} {te : TE} {me : MX} {vs : List Nat} {G F H : Hp} {T : List Ent} {ρ : List Sl} {σ : L2.St}
theorem Rel.wiped (R : Rel K G F T ρ σ H) : ∀ ws : List Nat, Rel K G F T (wipeD ρ ws) (wipe σ ws) H
  | [] => R
  | w :: ws => (Rel.wiped R ws).forget w none
theorem Rel.unwipe {τ : L2.St} (R : Rel K G F T ρ τ H) : ∀ (ws : List Nat) (σ : L2.St), wipe σ ws = wipe τ ws → Rel K G F T (wipeD ρ ws) σ H := by
  intro ws σ e
  have key : ∀ (us : List Nat) (τ' : L2.St), wipe σ us = wipe τ' us → ∀ ρ', Rel K G F T ρ' τ' H → Rel K G F T (wipeD ρ' us) σ H := by
    intro us
    induction us with
    | nil => intro τ' e ρ' R'; rw [show σ = τ' from e]; exact R'
    | cons u us ih =>
      intro τ' e ρ' R'
      -- at u: take τ' with σ's own value at u
      have e2 : (wipe σ us).set u none = (wipe τ' us).set u none := e
      have hl : τ'.length = σ.length := by
        have := congrArg List.length e2
        rw [List.length_set, List.length_set, wipe_length, wipe_length] at this
        exact this.symm
      by_cases hu : u < σ.length
      · have R2 : Rel K G F T (ρ'.set u .un) (τ'.set u σ[u]) H := R'.forget u _
        have e3 : wipe σ us = wipe (τ'.set u σ[u]) us := by
          refine List.ext_getElem? fun j => ?_
          by_cases hj : u = j
          · subst hj
            by_cases hm : u ∈ us
            · rw [wipe_set hm]
              have h1 : ∀ τ : L2.St, u < τ.length → (wipe τ us)[u]? = some none := by
                intro τ hτ
                cases q : (wipe τ us)[u]? with
                | none =>
                  rw [List.getElem?_eq_none_iff, wipe_length] at q
                  omega
                | some o =>
                  cases o with
                  | none => rfl
                  | some v => exact absurd hm (wipe_some q).2
              rw [h1 σ hu, h1 τ' (by omega)]
            · rw [wipe_out hm, wipe_out hm, List.getElem?_set_self (by omega), List.getElem?_eq_getElem hu]
          · have h1 := congrArg (fun l : L2.St => l[j]?) e2
            simp only [List.getElem?_set_ne hj] at h1
            rw [h1]
            by_cases hm : j ∈ us
            · have h1 : ∀ τ : L2.St, (wipe τ us)[j]? = if j < τ.length then some none else none := by
                intro τ
                split
                · rename_i hτ
                  cases q : (wipe τ us)[j]? with
                  | none =>
                    rw [List.getElem?_eq_none_iff, wipe_length] at q
                    omega
                  | some o =>
                    cases o with
                    | none => rfl
                    | some v => exact absurd hm (wipe_some q).2
                · rename_i hτ
                  rw [List.getElem?_eq_none_iff, wipe_length]
                  omega
              rw [h1, h1, List.length_set]
            · rw [wipe_out hm, wipe_out hm, List.getElem?_set_ne hj]
        have R3 := ih (τ'.set u σ[u]) e3 (ρ'.set u .un) R2
        have e4 : wipeD (ρ'.set u .un) us = wipeD ρ' (u :: us) := by
          have key2 : ∀ (ws : List Nat) (ρ : List Sl), wipeD (ρ.set u .un) ws = (wipeD ρ ws).set u .un := by
            intro ws
            induction ws with
            | nil => intro ρ; rfl
            | cons w ws ih =>
              intro ρ
              show (wipeD (ρ.set u .un) ws).set w .un = ((wipeD ρ ws).set w .un).set u .un
              rw [ih]
              by_cases hw : u = w
              · subst hw; rfl
              · rw [List.set_comm _ _ hw]
          exact key2 us ρ'
        rw [e4] at R3
        exact R3
      · have e5 : (wipe σ us).set u none = wipe σ us := List.set_eq_of_length_le (by rw [wipe_length]; omega)
        have e6 : (wipe τ' us).set u none = wipe τ' us := List.set_eq_of_length_le (by rw [wipe_length]; omega)
        have R3 := ih τ' (by rw [e5, e6] at e2; exact e2) ρ' R'
        have e7 : wipeD ρ' (u :: us) = wipeD ρ' us := List.set_eq_of_length_le (by
          have key2 : ∀ (ws : List Nat), (wipeD ρ' ws).length = ρ'.length := by
            intro ws
            induction ws with
            | nil => rfl
            | cons w ws ih => show ((wipeD ρ' ws).set w .un).length = _; rw [List.length_set, ih]
          rw [key2 us, R'.len]; omega)
        rw [e7]
        exact R3
  exact key ws τ e ρ R
theorem Rel.newOwn {p : Addr} (R : Rel K G F T ρ σ H) (hn : H p = none) : Rel K G F ((.own [], some (.ref p)) :: T) ρ σ (upd H p (.lst [])) := R.pushO hn .nil
theorem Rel.mutTop {p : Addr} {ds ds' : List D} {vs' : List V} (R : Rel K G F ((.own ds, some (.ref p)) :: T) ρ σ H) (h : RpA K G vs' ds') : Rel K G F ((.own ds', some (.ref p)) :: T) ρ σ (upd H p (.lst vs')) := ⟨R.len, R.l.mut h⟩
theorem den_comp (hi : DenI K wi mi) (hg : DenG K kp vs g mg) (ht : DenT K tt mt) (he : Den K te me) : Den K (tLc wi g tt te vs) (mComp mi mg mt me vs) := by
  intro G F T ρ σ H z ρ' Q R h q
  unfold mComp at h
  cases e1 : mi ρ with
  | none => rw [e1] at h; cases h
  | some p =>
    obtain ⟨ds, ρ1⟩ := p
    simp only [e1] at h
    cases e2 : mCompL mg mt me vs ds [] (wipeD ρ1 vs) with
    | none => simp only [e2] at h; cases h
    | some p2 =>
      obtain ⟨acc, ρ2⟩ := p2
      simp only [e2] at h
      cases h
      refine hi G F T ρ σ H ds ρ1 _ R e1 fun J G1 H1 ex1 R1 W => fun D hD => ?_
      have Rs : Rel K G1 F ((.own [], some (.ref D)) :: T) (wipeD ρ1 vs) (wipe σ vs) (upd H1 D (.lst [])) := (R1.newOwn hD).wiped vs
      refine ⟨fun i m H' => i + m = ds.length ∧ ∃ ac ρx τ G', Ex G1 G' ∧ wipe τ vs = wipe σ vs ∧ Rel K G' F ((.own ac, some (.ref D)) :: T) ρx τ H' ∧ mCompL mg mt me vs (ds.drop i) ac ρx = some (acc, ρ2), ⟨ds.length, Nat.zero_add _, [], _, _, G1, Ex.refl G1, wipe_wipe σ vs, Rs, e2⟩, ?_⟩
      rintro i m H2 ⟨him, ac, ρx, τ, G2, ex2, hτ, R2, h2⟩
      obtain ⟨hstop, hgo⟩ := W G2 F _ ρx τ H2 ex2 R2
      by_cases hlt : i < ds.length
      · have hd : ds[i]? = some ds[i] := List.getElem?_eq_getElem hlt
        rw [List.drop_eq_getElem_cons hlt] at h2
        unfold mCompL at h2
        obtain ⟨go, yld⟩ := hgo i _ hd
        refine .inr ⟨go, fun H' => ∃ ac ρx τ G', Ex G1 G' ∧ wipe τ vs = wipe σ vs ∧ Rel K G' F ((.own ac, some (.ref D)) :: T) ρx τ H' ∧ mCompL mg mt me vs (ds.drop (i + 1)) ac ρx = some (acc, ρ2), fun H' hN => ⟨m - 1, by omega, by omega, hN⟩, fun x H' hy => ?_⟩
        obtain ⟨G3, ex3, R3⟩ := yld x H' hy
        have R3' : Rel K G3 F ((.val ds[i], some x) :: (.own ac, some (.ref D)) :: T) (wipeD ρx vs) (wipe σ vs) H' := by
          rw [← hτ]
          exact R3.wiped vs
        cases e3 : mg ds[i] (wipeD ρx vs) with
        | none => rw [e3] at h2; cases h2
        | some ρ3 =>
          simp only [e3] at h2
          refine hg G3 F _ _ _ H' _ x ρ3 _ R3' e3 fun σ4 _ hw R4 => ?_
          have hw4 : wipe σ4 vs = wipe σ vs := by
            rw [hw vs fun _ h => h]
            exact wipe_wipe σ vs
          refine ⟨hw4, ?_⟩
          cases e4 : mt ρ3 with
          | none => rw [e4] at h2; cases h2
          | some p4 =>
            obtain ⟨b, ρ4⟩ := p4
            simp only [e4] at h2
            refine ht G3 F _ ρ3 σ4 H' b ρ4 _ R4 e4 fun G5 H5 ex5 R5 => ?_
            cases b with
            | false =>
              rw [if_neg Bool.false_ne_true]
              exact ⟨ac, ρ4, σ4, G5, (ex2.trans ex3).trans ex5, hw4, R5, h2⟩
            | true =>
              rw [if_pos rfl]
              cases e6 : me ρ4 with
              | none => simp only [e6] at h2; cases h2
              | some p6 =>
                obtain ⟨r, ρ6⟩ := p6
                simp only [e6] at h2
                cases e7 : datOf r with
                | none => simp only [e7] at h2; cases h2
                | some y =>
                  simp only [e7] at h2
                  split at h2
                  · rename_i hz
                    refine he G5 F _ ρ4 σ4 H5 r ρ6 _ R5 e6 fun v G6 H6 ex6 R6 => ?_
                    have hl : [r].length = [v].length := rfl
                    obtain ⟨G7, ex7, hrs, R7⟩ := Rel.giveAll (rs := [r]) (vs := [v]) (ds := [y]) hl R6 (by unfold datAll; rw [e7]; rfl)
                    obtain ⟨p0, us, ep, hp0, _, _, hra⟩ := R7.fst
                    cases ep
                    cases hrs with
                    | cons hv _ =>
                      refine ⟨us, hp0, by rw [hra.len]; exact hz, ?_⟩
                      exact ⟨ac ++ [y], ρ6, σ4, G7, (((ex2.trans ex3).trans ex5).trans ex6).trans ex7, hw4, R7.mutTop (hra.app (.cons hv .nil)), h2⟩
                  · cases h2
      · have e : i = ds.length := by omega
        subst e
        rw [List.drop_length] at h2
        cases h2
        exact .inl ⟨hstop, q _ G2 H2 (ex1.trans ex2) (R2.unwipe vs σ hτ.symm)⟩
structure MTs (X : Cx) (K : PySem.W.Frag) (ifs : List Expr) (t : TT) (m : MT) : Prop where
  hK : X.K = K
  pe : PTs X ifs t
  dn : DenT K t m
theorem mts_nil (hK : X.K = K := by rfl) : MTs X K [] tYes mTYes := by
  obtain rfl := hK
  exact ⟨rfl, pts_nil, by
    intro G F T ρ σ H b ρ' Q R h q
    cases h
    exact q G H (Ex.refl G) R⟩
theorem mts_one {c : Expr} {t : TT} {m : MT} (h : MET X K c t m) : MTs X K [c] t m := by
  obtain rfl := h.hK
  exact ⟨rfl, pts_one h.pe, h.dn⟩
theorem me_comp {elt tg iter : Expr} {ifs : List Expr} {scope : Scope} {own : List (Str × Nat)} (hc : X.calm = true) (hN : X.N.Nodup) (hi : MIt X K tg iter wi mi) (ok : BlkOk X.N X.env.scope scope own)
    (hg : ∀ (s : Shared) (H : Hp) (C : Addr) (cl : List (Str × Addr)) (fp : List Addr), MGt (X.blk s H scope (compEnvC scope cl C X.env) fp) K (fun _ => false) (own.map (·.2)) tg g mg)
    (ht : ∀ (s : Shared) (H : Hp) (C : Addr) (cl : List (Str × Addr)) (fp : List Addr), MTs (X.blk s H scope (compEnvC scope cl C X.env) fp) K ifs tt mt)
    (he : ∀ (s : Shared) (H : Hp) (C : Addr) (cl : List (Str × Addr)) (fp : List Addr), ME (X.blk s H scope (compEnvC scope cl C X.env) fp) K elt te me) (hs : ∀ x, foldedSetIterable iter X.env x = pure x := by intro _; rfl) :
    ME X K (.ListComp elt [⟨tg, iter, ifs, 0⟩] scope pos) (tLc wi g tt te (own.map (·.2))) (mComp mi mg mt me (own.map (·.2))) := by
  obtain rfl := hi.hK
  have s0 : Shared := X.s_0
  exact ⟨rfl, pe_lc hc hN hi.pe ok (fun s H C cl fp => (hg s H C cl fp).pe) (fun s H C cl fp => (ht s H C cl fp).pe) (fun s H C cl fp => (he s H C cl fp).pe) hs,
    den_comp hi.dn (hg X.s_0 X.H_0 0 [] []).dn (ht X.s_0 X.H_0 0 [] []).dn (he X.s_0 X.H_0 0 [] []).dn⟩
theorem ms_asgComp (i : Nat) {y : Str} {py : Pos} {elt tg iter : Expr} {ifs : List Expr} {scope : Scope} {own : List (Str × Nat)} {spos : Pos} (hc : X.calm = true) (hN : X.N.Nodup) (hi : MIt X X.K tg iter wi mi) (ok : BlkOk X.N X.env.scope scope own)
    (hg : ∀ (s : Shared) (H : Hp) (C : Addr) (cl : List (Str × Addr)) (fp : List Addr), MGt (X.blk s H scope (compEnvC scope cl C X.env) fp) X.K (fun _ => false) (own.map (·.2)) tg g mg)
    (ht : ∀ (s : Shared) (H : Hp) (C : Addr) (cl : List (Str × Addr)) (fp : List Addr), MTs (X.blk s H scope (compEnvC scope cl C X.env) fp) X.K ifs tt mt)
    (he : ∀ (s : Shared) (H : Hp) (C : Addr) (cl : List (Str × Addr)) (fp : List Addr), ME (X.blk s H scope (compEnvC scope cl C X.env) fp) X.K elt te me)
    (hsw : swapsWith (.ListComp elt [⟨tg, iter, ifs, 0⟩] scope pos) (some (.Name y py)) spos.line X.env = pure true)
    (hy : X.N[i]? = some y := by rfl) (hyl : X.env.scope.names.lookup y = some .local := by rfl) (hs : ∀ x, foldedSetIterable iter X.env x = pure x := by intro _; rfl) :
    MSt X kp (.Assign [.Name y py] (.ListComp elt [⟨tg, iter, ifs, 0⟩] scope pos) spos) (tAsg (tLc wi g tt te (own.map (·.2))) (gName i)) (mAsg kp i (mComp mi mg mt me (own.map (·.2)))) :=
  ⟨ps_setLc hc hN hy hyl hsw hi.pe ok (fun s H C cl fp => (hg s H C cl fp).pe) (fun s H C cl fp => (ht s H C cl fp).pe) (fun s H C cl fp => (he s H C cl fp).pe) hs,
    denS_asg (den_comp hi.dn (hg X.s_0 X.H_0 0 [] []).dn (ht X.s_0 X.H_0 0 [] []).dn (he X.s_0 X.H_0 0 [] []).dn)⟩
end
end Dn
namespace Dn
open PySem PySem.Spec PyProof.Rows L2
open Evl (Ex)
abbrev MF := List Sl → Option (Sl × List Sl)
def spD (K : PySem.W.Frag) (mf : MF) : Sp := fun vs H Q _ => ∃ G F args r args', Rel K G F [] args (vs.map some) H ∧ mf args = some (r, args') ∧ ∀ v G' H', Ex G G' → Rel K G' F [(r, some v)] args' (vs.map some) H' → Q v H'
open Classical in
noncomputable def hold (F : Hp) (L : List Ent) (H : Hp) : Hp := fun a => if ∃ e ∈ L, Own e a then H a else F a
section
variable {K : PySem.W.Frag} {G G' F H H' : Hp} {L : List Ent} {A : List Ent} {T : List Ent} {ρ : List Sl} {σ : L2.St}
theorem hold_in {a : Addr} {e : Ent} (h : e ∈ L) (o : Own e a) : hold F L H a = H a := by
  unfold hold
  rw [if_pos ⟨e, h, o⟩]
theorem hold_out {a : Addr} (h : ¬ ∃ e ∈ L, Own e a) : hold F L H a = F a := by
  unfold hold
  rw [if_neg h]
theorem call_in (R : RelL K G F (A ++ L) H) : RelL K G (hold F L H) A H := by
  have hp := List.pairwise_append.mp R.ap
  refine ⟨R.eg, fun a o h => ?_, fun a o h => ?_, fun e he => ?_, hp.1⟩
  · by_cases c : ∃ e ∈ L, Own e a
    · obtain ⟨e, h1, h2⟩ := c
      rw [hold_in h1 h2] at h
      exact h
    · rw [hold_out c] at h
      exact R.ef a o h
  · by_cases c : ∃ e ∈ L, Own e a
    · obtain ⟨e, h1, h2⟩ := c
      obtain ⟨_, _, g, _⟩ := R.owned (List.mem_append_right _ h1) h2
      exact g
    · rw [hold_out c] at h
      exact R.gf a o h
  · have h := R.ok e (List.mem_append_left _ he)
    obtain ⟨s, ov⟩ := e
    cases s with
    | un => exact True.intro
    | ex c => exact h
    | val d => exact h
    | own ds =>
      obtain ⟨p, vs, h1, h2, h3, h4, h5⟩ := h
      refine ⟨p, vs, h1, h2, h3, ?_, h5⟩
      subst h1
      rw [hold_out (fun ⟨e', g1, g2⟩ => hp.2.2 _ he e' g1 p own_own g2)]
      exact h4
theorem call_out (R : RelL K G F L H) (eg : Ex G G') (R' : RelL K G' (hold F L H) A H') : RelL K G' F (A ++ L) H' := by
  have own_hold : ∀ e ∈ L, ∀ p, Own e p → ∃ vs, hold F L H p = some (.lst vs) := fun e he p ho => by
    obtain ⟨vs, h1, _⟩ := R.owned he ho
    exact ⟨vs, by rw [hold_in he ho]; exact h1⟩
  have fh : ∀ a o, F a = some o → hold F L H a = some o := fun a o h => by
    by_cases c : ∃ e ∈ L, Own e a
    · obtain ⟨e, h1, h2⟩ := c
      obtain ⟨_, _, _, g⟩ := R.owned h1 h2
      rw [h] at g
      cases g
    · rw [hold_out c]
      exact h
  refine ⟨R'.eg, fun a o h => R'.ef a o (fh a o h), fun a o h => R'.gf a o (fh a o h), fun e he => ?_, List.pairwise_append.mpr ⟨R'.ap, R.ap, fun e he e' he' p ho ho' => ?_⟩⟩
  · rcases List.mem_append.mp he with he | he
    · have h := R'.ok e he
      obtain ⟨s, ov⟩ := e
      cases s with
      | un => exact True.intro
      | ex c => exact h
      | val d => exact h
      | own ds =>
        obtain ⟨p, vs, h1, h2, h3, h4, h5⟩ := h
        refine ⟨p, vs, h1, h2, h3, ?_, h5⟩
        by_cases c : ∃ e ∈ L, Own e p
        · obtain ⟨e, g1, g2⟩ := c
          obtain ⟨ws, g3⟩ := own_hold e g1 p g2
          rw [h4] at g3
          cases g3
        · rw [hold_out c] at h4
          exact h4
    · have h := R.ok e he
      obtain ⟨s, ov⟩ := e
      cases s with
      | un => exact True.intro
      | ex c =>
        obtain ⟨v, h1, h2⟩ := h
        exact ⟨v, h1, (eg) _ _ h2⟩
      | val d =>
        obtain ⟨v, h1, h2⟩ := h
        exact ⟨v, h1, h2.up eg⟩
      | own ds =>
        obtain ⟨p, vs, h1, h2, h3, h4, h5⟩ := h
        subst h1
        have hh : hold F L H p = some (.lst vs) := by rw [hold_in he own_own]; exact h2
        exact ⟨p, vs, rfl, R'.ef p _ hh, R'.gf p _ hh, h4, h5.up eg⟩
  · obtain ⟨ws, g3⟩ := own_hold e' he' p ho'
    obtain ⟨_, _, _, g⟩ := R'.owned he ho
    rw [g3] at g
    cases g
end
def mCall (mf : MF) (ws : List D) (a : MA) : MX := fun ρ => match a ρ with
  | none => none
  | some (xs, ρ1) => match mf (xs ++ ws.map Sl.val) with
    | none => none
    | some (r, _) => some (r, ρ1)
def mCallM (mf : MF) (i : Nat) (ws : List D) (a : MA) : MX := fun ρ => match ρ[i]? with
  | some (.own _) => match a ρ with
    | none => none
    | some (xs, ρ1) => match ρ1[i]? with
      | some (.own ds) => match mf (.own ds :: (xs ++ ws.map Sl.val)) with
        | some (r, s :: _) => some (r, ρ1.set i s)
        | _ => none
      | _ => none
  | _ => none
section
variable {K : PySem.W.Frag} {X : Cx} {mf : MF} {ta : TA} {ma : MA} {E : XK}
theorem zip_append' {α β : Type} : ∀ (a b : List α) (c d : List β), a.length = c.length → (a ++ b).zip (c ++ d) = a.zip c ++ b.zip d
  | [], b, [], d, _ => rfl
  | [], _, _ :: _, _, h => by cases h
  | _ :: _, _, [], _, h => by cases h
  | x :: a, b, y :: c, d, h => by
    show (x, y) :: (a ++ b).zip (c ++ d) = (x, y) :: (a.zip c ++ b.zip d)
    rw [zip_append' a b c d (Nat.succ.inj h)]
theorem consts_push {dvs : List V} {ws : List D} (hw : RpA K (fun _ => none) dvs ws) {G F H : Hp} : ∀ {L : List Ent}, RelL K G F L H → RelL K G F (ents (ws.map Sl.val) dvs ++ L) H := by
  intro L R
  have key : ∀ (dvs : List V) (ws : List D), RpA K (fun _ => none) dvs ws → RelL K G F (ents (ws.map Sl.val) dvs ++ L) H := by
    intro dvs
    induction dvs with
    | nil => intro ws h; cases h; exact R
    | cons v r ih =>
      intro ws h
      cases h with
      | cons h1 h2 => exact (ih _ h2).pushVal (h1.up fun _ _ z => by cases z)
  exact key dvs ws hw
theorem den_call {dvs : List V} {ws : List D} (hw : RpA K (fun _ => none) dvs ws) (ha : DenA K ta ma) : Den K (tCall (spD K mf) dvs E ta) (mCall mf ws ma) := by
  intro G F T ρ σ H z ρ' Q R h q
  unfold mCall at h
  cases e1 : ma ρ with
  | none => rw [e1] at h; cases h
  | some p =>
    obtain ⟨xs, ρ1⟩ := p
    simp only [e1] at h
    cases e2 : mf (xs ++ ws.map Sl.val) with
    | none => simp only [e2] at h; cases h
    | some p2 =>
      obtain ⟨r, args'⟩ := p2
      simp only [e2] at h
      cases h
      refine ha G F T ρ σ H xs ρ' _ R e1 fun vs G1 H1 ex1 l1 R1 => ?_
      have hwl : (ws.map Sl.val).length = dvs.length := by rw [List.length_map]; exact hw.len.symm
      -- arguments, defaults behind them
      have RA : RelL K G1 F ((xs ++ ws.map Sl.val).zip ((vs ++ dvs).map some) ++ (T ++ ρ'.zip σ)) H1 := by
        have e : (xs ++ ws.map Sl.val).zip ((vs ++ dvs).map some) = ents xs vs ++ ents (ws.map Sl.val) dvs := by
          rw [List.map_append]
          exact zip_append' _ _ _ _ (by rw [List.length_map]; exact l1)
        rw [e]
        have R2 := consts_push hw R1.l
        refine R2.perm ?_
        simp only [List.append_assoc]
        exact List.perm_append_comm_assoc _ _ _
      have RL : RelL K G1 F (T ++ ρ'.zip σ) H1 := RA.sub (List.sublist_append_right _ _)
      refine ⟨G1, hold F (T ++ ρ'.zip σ) H1, xs ++ ws.map Sl.val, z, args', ⟨by have := hw.len; simp; omega, call_in RA⟩, e2, fun v G2 H2 ex2 R2 => ?_⟩
      have R3 := call_out RL ex2 R2.l
      refine q v G2 H2 (ex1.trans ex2) ⟨R1.len, ?_⟩
      refine R3.sub ?_
      show ((z, some v) :: (T ++ ρ'.zip σ)).Sublist ((z, some v) :: (args'.zip _ ++ (T ++ ρ'.zip σ)))
      exact List.Sublist.cons_cons _ (List.sublist_append_right _ _)
theorem den_callM {i : Nat} {dvs : List V} {ws : List D} (hw : RpA K (fun _ => none) dvs ws) (ha : DenA K ta ma) : Den K (tCall (spD K mf) dvs E (tCons (tVar i) ta)) (mCallM mf i ws ma) := by
  intro G F T ρ σ H z ρ' Q R h q
  unfold mCallM at h
  split at h
  · rename_i ds0 hs0
    split at h
    · cases h
    · rename_i xs ρ1 e1
      split at h
      · rename_i ds hs
        split at h
        · rename_i r s args' e2
          cases h
          obtain ⟨a, _, haσ, _, _⟩ := R.ownVar hs0
          refine ⟨_, haσ, ?_⟩
          refine ha G F T ρ σ H xs ρ1 _ R e1 fun vs G1 H1 ex1 l1 R1 => ?_
          have hwl : (ws.map Sl.val).length = dvs.length := by rw [List.length_map]; exact hw.len.symm
          have Ro := R1.out hs haσ
          have RA : RelL K G1 F ((Sl.own ds :: (xs ++ ws.map Sl.val)).zip ((V.ref a :: (vs ++ dvs)).map some) ++ (T ++ (ρ1.set i .un).zip σ)) H1 := by
            have e : (Sl.own ds :: (xs ++ ws.map Sl.val)).zip ((V.ref a :: (vs ++ dvs)).map some) = (Sl.own ds, some (V.ref a)) :: (ents xs vs ++ ents (ws.map Sl.val) dvs) := by
              exact congrArg (fun l => (Sl.own ds, some (V.ref a)) :: l) (by
                rw [List.map_append]
                exact zip_append' _ _ _ _ (by rw [List.length_map]; exact l1))
            rw [e]
            have R2 := consts_push hw Ro.l
            refine R2.perm ?_
            -- consts ++ (own :: (ents ++ T)) ++ Z  ~  own :: (ents ++ consts) ++ (T ++ Z)
            have p1 : (ents (ws.map Sl.val) dvs ++ (((Sl.own ds, some (V.ref a)) :: (ents xs vs ++ T)) ++ (ρ1.set i .un).zip σ)).Perm ((Sl.own ds, some (V.ref a)) :: (ents (ws.map Sl.val) dvs ++ ((ents xs vs ++ T) ++ (ρ1.set i .un).zip σ))) := List.perm_middle
            refine p1.trans (List.Perm.cons _ ?_)
            show (ents (ws.map Sl.val) dvs ++ ((ents xs vs ++ T) ++ (ρ1.set i .un).zip σ)).Perm ((ents xs vs ++ ents (ws.map Sl.val) dvs) ++ (T ++ (ρ1.set i .un).zip σ))
            simp only [List.append_assoc]
            exact List.perm_append_comm_assoc _ _ _
          have RL : RelL K G1 F (T ++ (ρ1.set i .un).zip σ) H1 := RA.sub (List.sublist_append_right _ _)
          refine ⟨G1, hold F (T ++ (ρ1.set i .un).zip σ) H1, .own ds :: (xs ++ ws.map Sl.val), z, s :: args', ⟨by have := hw.len; simp; omega, call_in RA⟩, e2, fun v G2 H2 ex2 R2 => ?_⟩
          have R3 := call_out RL ex2 R2.l
          have R4 : Rel K G2 F ((s, some (V.ref a)) :: (z, some v) :: T) (ρ1.set i .un) σ H2 := by
            refine ⟨Ro.len, ?_⟩
            have R5 : RelL K G2 F ((z, some v) :: (s, some (V.ref a)) :: (args'.zip ((vs ++ dvs).map some) ++ (T ++ (ρ1.set i .un).zip σ))) H2 := R3
            refine (R5.sub (List.Sublist.cons_cons _ (List.Sublist.cons_cons _ (List.sublist_append_right _ _)))).perm (List.Perm.swap _ _ _)
          have R6 := R4.back haσ
          rw [List.set_set] at R6
          exact q v G2 H2 (ex1.trans ex2) R6
        · cases h
      · cases h
  · cases h
end
section
variable {K : PySem.W.Frag} {X : Cx} {mf : MF} {f : Addr} {fd : FuncData} {ps : List Str} {k : Nat} {e : Expr} {es : List Expr} {x : Str} {p pos : Pos} {t : TA} {m : MA} {ds : List Value} {dvs : List V} {ws : List D}
theorem me_call (Fk : FnOk X.prog X.w K X.mg X.base CX0 k f fd ps (spD K mf)) (hr : Room k X.A) (hg : Gl X x) (hm : X.mg x = some (.ref f)) (hk : PySem.W.keepIn K (.ref f) = true) (hb : Binds K fd ps ds) (hd : Vals dvs ds) (hw : RpA K (fun _ => none) dvs ws)
    (ha : MEA X K (e :: es) t m) (hdb : (x == ("__debug__" : Str)) = false := by decide) (he : starEach (e :: es) X.env = (false, eval e X.env) :: starEach es X.env := by rfl) (hpl : (backTo pos (starEach es X.env)).any (·.1) = false := by rfl) :
    ME X K (.Call (.Name x p) (e :: es) [] pos) (tCall (spD K mf) dvs E0 t) (mCall mf ws m) := by
  obtain rfl := ha.hK
  exact ⟨rfl, pe_call Fk hr hg hm hk hb hd pass0 ha.pe hdb he hpl, den_call hw ha.dn⟩
theorem me_callM (i : Nat) {y : Str} {p1 : Pos} (Fk : FnOk X.prog X.w K X.mg X.base CX0 k f fd ps (spD K mf)) (hr : Room k X.A) (hg : Gl X x) (hm : X.mg x = some (.ref f)) (hk : PySem.W.keepIn K (.ref f) = true) (hb : Binds K fd ps ds) (hd : Vals dvs ds) (hw : RpA K (fun _ => none) dvs ws)
    (ha : MEA X K es t m) (hN : X.N[i]? = some y := by rfl) (hv : Vis X.env.scope y := by first | exact Or.inl rfl | exact Or.inr (Or.inl rfl) | exact Or.inr (Or.inr rfl)) (hyd : (y == ("__debug__" : Str)) = false := by decide)
    (hcd : (y == ("__classdict__" : Str)) = false := by decide) (hdb : (x == ("__debug__" : Str)) = false := by decide) (he : starEach (.Name y p1 :: es) X.env = (false, eval (.Name y p1) X.env) :: starEach es X.env := by rfl) (hpl : (backTo pos (starEach es X.env)).any (·.1) = false := by rfl) :
    ME X K (.Call (.Name x p) (.Name y p1 :: es) [] pos) (tCall (spD K mf) dvs E0 (tCons (tVar i) t)) (mCallM mf i ws m) := by
  obtain rfl := ha.hK
  exact ⟨rfl, pe_call Fk hr hg hm hk hb hd pass0 (pa_cons (pe_var hN hv hyd hcd) ha.pe he) hdb he hpl, den_callM hw ha.dn⟩
end
@[simp] def outA : (Nat → Bool) → Nat → List Sl → List Sl
  | _, 0, _ => []
  | kp, n + 1, [] => .un :: outA (fun j => kp (j + 1)) n []
  | kp, n + 1, s :: ρ => (if kp 0 = true then s else .un) :: outA (fun j => kp (j + 1)) n ρ
def mDef (np nl : Nat) (kp : Nat → Bool) (mb : MS) : MF := fun args => if args.length = np then match mb (args ++ List.replicate (nl - np) .un) with
    | some (.rt r ρ') => some (r, outA kp np ρ')
    | some (.nx ρ') => some (.val .none, outA kp np ρ')
    | _ => none
  else none
theorem outA_len : ∀ (kp : Nat → Bool) (n : Nat) (ρ : List Sl), (outA kp n ρ).length = n
  | _, 0, _ => rfl
  | kp, n + 1, [] => congrArg (· + 1) (outA_len _ n [])
  | kp, n + 1, s :: ρ => congrArg (· + 1) (outA_len _ n ρ)
section
variable {K : PySem.W.Frag} {G F H : Hp}
theorem out_rel : ∀ (vs : List V) (kp : Nat → Bool) (ρ : List Sl) (σ : L2.St) (A : List Ent), (∀ j v, vs[j]? = some v → kp j = true → σ[j]? = some (some v)) → vs.length ≤ ρ.length → ρ.length = σ.length →
    RelL K G F (A ++ ρ.zip σ) H → RelL K G F (A ++ (outA kp vs.length ρ).zip (vs.map some)) H
  | [], kp, ρ, σ, A, _, _, _, R => by
    show RelL K G F (A ++ []) H
    rw [List.append_nil]
    exact R.sub (List.sublist_append_left _ _)
  | v :: vs, kp, [], σ, A, _, l, _, R => by cases l
  | v :: vs, kp, s :: ρ, [], A, _, _, l, R => by cases l
  | v :: vs, kp, s :: ρ, o :: σ, A, hk, l, l2, R => by
    have R' : RelL K G F (A ++ (s, o) :: ρ.zip σ) H := R
    show RelL K G F (A ++ ((if kp 0 = true then s else .un), some v) :: (outA (fun j => kp (j + 1)) vs.length ρ).zip (vs.map some)) H
    have step : RelL K G F ((A ++ [((if kp 0 = true then s else Sl.un), some v)]) ++ ρ.zip σ) H := by
      rw [List.append_assoc]
      by_cases c : kp 0 = true
      · rw [if_pos c]
        have e := hk 0 v rfl c
        simp at e
        subst e
        exact R'
      · rw [if_neg c]
        have R2 : RelL K G F (A ++ ρ.zip σ) H := R'.sub (List.Sublist.append (List.Sublist.refl A) (List.sublist_cons_self _ _))
        exact (R2.pushUn (ov := some v)).perm List.perm_middle.symm
    have R3 := out_rel vs (fun j => kp (j + 1)) ρ σ _ (fun j w hj hkj => by simpa using hk (j + 1) w (by simpa using hj) hkj) (by simpa using l) (by simpa using l2) step
    rw [List.append_assoc] at R3
    exact R3
end
section
variable {P : Program} {w : World} {K : PySem.W.Frag} {mg : Str → Option Value} {base : Heap}
theorem start_rel {G F H : Hp} {args : List Sl} {vs : List V} {N : List Str} (R : Rel K G F [] args (vs.map some) H) : Rel K G F [] (args ++ List.replicate (N.length - vs.length) Sl.un) (L2.start N vs) H := by
  have l := R.len
  rw [List.length_map] at l
  refine ⟨by unfold L2.start; simp [l], ?_⟩
  show RelL K G F ([] ++ (args ++ List.replicate (N.length - vs.length) Sl.un).zip (vs.map some ++ List.replicate (N.length - vs.length) none)) H
  rw [List.nil_append, zip_append' _ _ _ _ (by rw [List.length_map]; exact l)]
  have key : ∀ n : Nat, RelL K G F (args.zip (vs.map some) ++ (List.replicate n Sl.un).zip (List.replicate n (none : Option V))) H := by
    intro n
    induction n with
    | zero =>
      show RelL K G F (args.zip (vs.map some) ++ []) H
      rw [List.append_nil]
      exact R.l
    | succ n ih =>
      rw [List.replicate_succ, List.replicate_succ]
      show RelL K G F (args.zip (vs.map some) ++ (Sl.un, none) :: _) H
      exact (ih.pushUn (ov := none)).perm List.perm_middle.symm
  exact key _
theorem fn_ok {x qual : Str} {st : Stmt} {f : Addr} {fd : FuncData} {N ps : List Str} {k : Nat} {kp : Nat → Bool} {mb : MS} (Fn : Fun K x qual st f fd) (S : FnScope N ps (defScope st)) (hnp : ps.length ≤ N.length)
    (hb : ∀ (cdv : Value) (A : Around) (outer : List Env) (s : Shared) (H : Hp) (E : XK), Room k (A.deeper (envOfC qual (defScope st) s.heap.objs.size f cdv)) →
      ∃ t, MSs (cxOf CX0 P w K mg base N qual (defScope st) f cdv A outer s H E).nox kp (defBody st) t mb) : FnOk P w K mg base CX0 (k + 1) f fd ps (spD K (mDef ps.length N.length kp mb)) := by
  refine Fn.ok S (fun vs H Q E h => ?_) (fun cdv A outer s H vs Q E hr h => ?_)
  · obtain ⟨G, F, args, r, args', R, e, _⟩ := h
    have l := R.len
    rw [List.length_map] at l
    unfold mDef at e
    split at e
    · rename_i hl
      rw [← l]
      exact hl
    · cases e
  · obtain ⟨G, F, args, r, args', R, e, q⟩ := h
    obtain ⟨t, M⟩ := hb cdv A outer s H E hr
    refine ⟨t, M.pe, ?_⟩
    have l := R.len
    rw [List.length_map] at l
    unfold mDef at e
    split at e
    · rename_i hl
      have hvl : vs.length = ps.length := by rw [← l]; exact hl
      have R0 : Rel K G F [] (args ++ List.replicate (N.length - ps.length) Sl.un) (L2.start N vs) H := by
        rw [← hvl]
        exact start_rel R
      -- what the frame leaves of the arguments
      have fin : ∀ (r : Sl) (ρ' : List Sl) (v : V) (G' : Hp) (σ' : L2.St) (H' : Hp), Ex G G' → Kept kp (L2.start N vs) σ' → Rel K G' F [(r, some v)] ρ' σ' H' → Rel K G' F [(r, some v)] (outA kp ps.length ρ') (vs.map some) H' := by
        intro r ρ' v G' σ' H' ex kk R'
        refine ⟨by rw [outA_len, List.length_map, hvl], ?_⟩
        rw [← hvl]
        have hl0 : σ'.length ≥ vs.length := by
          rw [kk.1]
          unfold L2.start
          simp
        refine out_rel vs kp ρ' σ' [(r, some v)] (fun j u hj hkj => ?_) (by rw [R'.len]; exact hl0) R'.len R'.l
        rw [kk.2 j hkj]
        unfold L2.start
        have hjl : j < vs.length := (List.getElem?_eq_some_iff.mp hj).1
        rw [List.getElem?_append_left (by rw [List.length_map]; exact hjl), List.getElem?_map, hj]
        rfl
      split at e
      · rename_i r0 ρ' eb
        cases e
        exact M.dn G F _ _ H _ _ R0 eb fun v G' σ' H' ex kk R' => q v G' H' ex (fin _ ρ' v G' σ' H' ex kk R')
      · rename_i ρ' eb
        cases e
        exact M.dn G F _ _ H _ _ R0 eb fun G' σ' H' ex kk R' => q .non G' H' ex (fin _ ρ' .non G' σ' H' ex kk (R'.pushV .non))
      · cases e
    · cases e
theorem fn_none {f : Addr} {fd : FuncData} {ps : List Str} {k : Nat} : FnOk P w K mg base CX0 k f fd ps (spD K fun _ => none) :=
  ⟨fun vs H Q E h => (by
    obtain ⟨_, _, _, _, _, _, e, _⟩ := h
    cases e), fun A outer s H args us vs Q E _ _ _ _ h => (by
    obtain ⟨_, _, _, _, _, _, e, _⟩ := h
    cases e)⟩
theorem law_ends {mf : MF} {n : Nat} (h : ∀ ns : List Int, ns.length ≤ n → ∃ a', mf [.val (.list (ns.map PyData.int))] = some (.val (.bool true), a')) (H : Hp) (a : Addr) (ns : List Int) (hl : ns.length ≤ n) (hS : SqL K H a (ns.map V.int)) :
    spD K mf [.ref a] H (fun v _ => v = .bl true) fun _ _ _ => False := by
  obtain ⟨a', e⟩ := h ns hl
  refine ⟨H, fun _ => none, [.val (.list (ns.map PyData.int))], .val (.bool true), a', ⟨rfl, ⟨Ex.refl H, fun _ _ z => (by cases z), fun _ _ z => (by cases z), fun e he => ?_, List.pairwise_singleton _ _⟩⟩, e, fun v G' H' _ R => bool_of R.fst⟩
  have e2 : e = (.val (.list (ns.map PyData.int)), some (.ref a)) := by simpa using he
  subst e2
  exact ⟨_, rfl, .lst hS RpA.ofInts⟩
end
end Dn
namespace Dn
open PySem PySem.Spec PyProof.Rows L2
open Evl (Ex)
open RZ (ItzT iZipA pi_zipA)
def mNone : MS := fun _ => none
def mRetO (i : Nat) : MS := fun ρ => match ρ[i]? with
  | some (.own ds) => some (.rt (.own ds) (ρ.set i .un))
  | some (.val d) => some (.rt (.val d) ρ)
  | _ => none
def mPar (kp : Nat → Bool) (i j : Nat) (a b : MX) : MS := fun ρ => match a ρ with
  | none => none
  | some (x, ρ1) => match b ρ1 with
    | none => none
    | some (y, ρ2) => if kp i = false ∧ kp j = false ∧ i < ρ2.length ∧ j < ρ2.length then some (.nx ((ρ2.set i x).set j y)) else none
section
variable {K : PySem.W.Frag} {X : Cx} {kp : Nat → Bool} {pos : Pos} {st : Stmt} {a b : Expr} {ta tb : TE} {ma mb : MX}
theorem ms_never : MSt X kp st tNever mNone := ⟨ps_never, fun _ _ _ _ _ _ _ _ h _ => by cases h⟩
theorem ms_retO (i : Nat) {x : Str} {p : Pos} (hN : X.N[i]? = some x := by rfl) (hv : Vis X.env.scope x := by first | exact Or.inl rfl | exact Or.inr (Or.inl rfl) | exact Or.inr (Or.inr rfl)) (hd : (x == ("__debug__" : Str)) = false := by decide)
    (hcd : (x == ("__classdict__" : Str)) = false := by decide) : MSt X kp (.Return (some (.Name x p)) pos) (tRet (tVar i)) (mRetO i) := ⟨ps_ret (pe_var hN hv hd hcd), by
  intro G F ρ σ H D o R h q
  unfold mRetO at h
  split at h
  · rename_i ds hs
    cases h
    obtain ⟨p, vs, hσ, _, _⟩ := R.ownVar hs
    exact ⟨_, hσ, q _ G σ H (Ex.refl G) (Kept.refl kp σ) (R.out hs hσ)⟩
  · rename_i d hs
    cases h
    obtain ⟨v, hσ, _, R1⟩ := R.var hs
    exact ⟨_, hσ, q _ G σ H (Ex.refl G) (Kept.refl kp σ) R1⟩
  · cases h⟩
theorem ms_par (i j : Nat) {x y : Str} {px py pt : Pos} {kt k2 : Nat} {pt2 : Pos} (ha : ME X X.K a ta ma) (hb : ME X X.K b tb mb) (hN : X.N.Nodup) (hc : X.calm = true := by rfl) (hi : X.N[i]? = some x := by rfl) (hj : X.N[j]? = some y := by rfl) (hij : i ≠ j := by decide) (hx : X.env.scope.names.lookup x = some .local := by rfl) (hy : X.env.scope.names.lookup y = some .local := by rfl)
    (he : starEach [a, b] X.env = (false, eval a X.env) :: starEach [b] X.env := by rfl) (he2 : starEach [b] X.env = [(false, eval b X.env)] := by rfl)
    (hs : swappedStores [.Tuple [.Name x px, .Name y py] kt pt] (.Tuple [a, b] k2 pt2) X.env = pure (some [x, y]) := by rfl) (hs2 : swapsWithSole [.Tuple [.Name x px, .Name y py] kt pt] (.Tuple [a, b] k2 pt2) pos.line X.env = pure false := by rfl) :
    MSt X kp (.Assign [.Tuple [.Name x px, .Name y py] kt pt] (.Tuple [a, b] k2 pt2) pos) (tPar i j (tCons ta (tCons tb tNil))) (mPar kp i j ma mb) :=
  ⟨ps_par hc hN hi hj hij hx hy (pa_cons ha.pe (pa_cons hb.pe pa_nil he2) he) hs hs2, by
    intro G F ρ σ H D o R h q
    unfold mPar at h
    split at h
    · cases h
    · rename_i r ρ1 e1
      split at h
      · cases h
      · rename_i s ρ2 e2
        split at h
        · rename_i hcn
          cases h
          refine ha.dn G F [] ρ σ H _ ρ1 _ R e1 fun v G1 H1 ex1 R1 => ?_
          refine hb.dn G1 F _ ρ1 σ H1 _ ρ2 _ R1 e2 fun u G2 H2 ex2 R2 => ?_
          refine ⟨v, u, rfl, q G2 _ H2 (ex1.trans ex2) ((Kept.set hcn.1).trans (Kept.set hcn.2.1)) ?_⟩
          exact (R2.swap.assign hcn.2.2.1).assign (by rw [List.length_set]; exact hcn.2.2.2)
        · cases h⟩
end
@[simp] def fRevSl (x : Sl) : Option Sl := (lstOf x).map fun ds => .own ds.reverse
section
variable {K : PySem.W.Frag} {X : Cx} {e : Expr} {te : TE} {me : MX}
theorem den_revsl (ha : Den K te me) : Den K (tRevL K te) (mUn fRevSl me) := by
  intro G F T ρ σ H z ρ' Q R h q
  unfold mUn at h
  cases h1 : me ρ with
  | none => rw [h1] at h; cases h
  | some p1 =>
    obtain ⟨x, ρ1⟩ := p1
    simp only [h1] at h
    unfold fRevSl at h
    cases h3 : lstOf x with
    | none => rw [h3] at h; cases h
    | some ds =>
      rw [h3] at h
      cases h
      refine ha G F T ρ σ H x ρ' _ R h1 fun v G1 H1 ex1 R1 => ?_
      obtain ⟨a, us, ev, s1, r1⟩ := lst_of R1.l.eg h3 R1.fst
      exact ⟨a, us, ev, s1, fun p hp => q _ G1 _ ex1 (R1.drop.pushO hp r1.rev)⟩
theorem me_revsl {k : Nat} {p1 p2 p3 pos : Pos} (he : ME X K e te me) : ME X K (.Subscript e (.Slice none none (some (.UnaryOp .USub (.Constant (.int 1) k p1) p2)) p3) pos) (tRevL K te) (mUn fRevSl me) := by
  obtain rfl := he.hK
  exact ⟨rfl, pe_revL he.pe, den_revsl he.dn⟩
end
def miZ (a : MA) : MI := fun ρ => match a ρ with
  | some ([.val (.list ds), .val (.list es)], ρ1) => some (zipD ds es, ρ1)
  | some ([.val (.tuple ds), .val (.tuple es)], ρ1) => some (zipD ds es, ρ1)
  | _ => none
@[simp] def flatD : D → Option V
  | .none => some .non
  | .bool b => some (.bl b)
  | .int i => some (.int i)
  | .str x => some (.str x)
  | _ => none
@[simp] def flatDs : List D → Option (List V)
  | [] => some []
  | d :: r => match flatD d, flatDs r with
    | some v, some vs => some (v :: vs)
    | _, _ => none
theorem flatD_ok {K : PySem.W.Frag} {H : Hp} {d : D} {v u : V} (h : flatD d = some v) (r : Rp K H u d) : u = v ∧ flatV v = true := by
  cases d <;> first | cases h | skip
  all_goals (cases r; exact ⟨rfl, rfl⟩)
theorem flatDs_ok {K : PySem.W.Frag} {H : Hp} : ∀ {ds : List D} {vs us : List V}, flatDs ds = some vs → RpA K H us ds → us = vs ∧ vs.all flatV = true
  | [], vs, us, h, r => by
    cases h
    cases r
    exact ⟨rfl, rfl⟩
  | d :: ds, vs, us, h, r => by
    unfold flatDs at h
    cases r with
    | cons r1 r2 =>
      split at h
      · rename_i v ws h1 h2
        cases h
        obtain ⟨rfl, f1⟩ := flatD_ok h1 r1
        obtain ⟨rfl, f2⟩ := flatDs_ok h2 r2
        exact ⟨rfl, by rw [List.all_cons, f1, f2]; rfl⟩
      · cases h
@[simp] def fIn (neg : Bool) (x y : Sl) : Option Sl := match x with
  | .val d => match flatD d, (seqOf y).bind flatDs with
    | some v, some vs => some (.val (.bool (if neg = true then !inV v vs else inV v vs)))
    | _, _ => none
  | _ => none
section
variable {K : PySem.W.Frag} {X : Cx} {a b : Expr} {ta tb : TE} {ma mb : MX} {pos : Pos}
theorem opS_in {neg : Bool} : OpS K (rIn K neg) (fIn neg) := by
  intro G F T ρ σ H x y z v w Q R h q
  unfold fIn at h
  split at h
  · rename_i d
    split at h
    · rename_i u us h1 h2
      cases h
      cases h3 : seqOf y with
      | none => rw [h3] at h2; cases h2
      | some ds =>
        rw [h3] at h2
        have h2' : flatDs ds = some us := h2
        obtain ⟨p, xs, ew, s1, r1⟩ := seq_of R.l.eg h3 R.fst
        obtain ⟨v', ev, hv⟩ := R.snd
        cases ev
        obtain ⟨rfl, f1⟩ := flatD_ok h1 hv
        obtain ⟨rfl, f2⟩ := flatDs_ok h2' r1
        exact ⟨p, xs, ew, s1, f1, f2, q _ G H (Ex.refl G) (R.drop.drop.pushV (.bl _))⟩
    · cases h
  · cases h
theorem me_in (ha : ME X K a ta ma) (hb : ME X K b tb mb) (hm : behindInMarks .In b = false := by rfl) : ME X K (.Compare a [.In] [b] pos) (tOp (rIn K false) ta tb) (mBin (fIn false) ma mb) := by
  obtain rfl := ha.hK
  exact me_cmp opS_in op_in_seq hm ha hb
theorem met_in (ha : ME X K a ta ma) (hb : ME X K b tb mb) (hm : behindInMarks .In b = false := by rfl) : MET X K (.Compare a [.In] [b] pos) (tTest (tOp (rIn K false) ta tb)) (mB (mBin (fIn false) ma mb)) := by
  obtain rfl := ha.hK
  exact met_cmp opS_in op_in_seq hm ha hb
end
def pairD (p : Int × Int) : D := .tuple [.int p.1, .int p.2]
def pairsOf : List D → Option (List (Int × Int))
  | [] => some []
  | .tuple [.int i, .int j] :: r => (pairsOf r).map ((i, j) :: ·)
  | _ :: _ => none
theorem pairsOf_eq : ∀ {ds : List D} {ps : List (Int × Int)}, pairsOf ds = some ps → ds = ps.map pairD
  | [], ps, h => by cases h; rfl
  | d :: r, ps, h => by
    unfold pairsOf at h
    split at h
    · rename_i heq
      cases heq
    · rename_i i j r' heq
      cases heq
      cases e : pairsOf r with
      | none => rw [e] at h; cases h
      | some qs => rw [e] at h; cases h; rw [pairsOf_eq e]; rfl
    · cases h
def leP (a b : Int × Int) : Bool := decide (a.1 < b.1) || (decide (a.1 = b.1) && decide (a.2 ≤ b.2))
def sortP (ps : List (Int × Int)) : List (Int × Int) := ps.mergeSort leP
theorem leP_trans (a b c : Int × Int) (h1 : leP a b = true) (h2 : leP b c = true) : leP a c = true := by
  simp only [leP, Bool.or_eq_true, Bool.and_eq_true, decide_eq_true_eq] at *
  omega
theorem leP_total (a b : Int × Int) : (leP a b || leP b a) = true := by
  simp only [leP, Bool.or_eq_true, Bool.and_eq_true, decide_eq_true_eq]
  omega
theorem leP_anti (a b : Int × Int) (h1 : leP a b = true) (h2 : leP b a = true) : a = b := by
  simp only [leP, Bool.or_eq_true, Bool.and_eq_true, decide_eq_true_eq] at *
  obtain ⟨a1, a2⟩ := a
  obtain ⟨b1, b2⟩ := b
  simp only [Prod.mk.injEq]
  simp only at h1 h2
  omega
theorem sortP_perm (ps : List (Int × Int)) : (sortP ps).Perm ps := List.mergeSort_perm ps _
theorem sortP_sorted (ps : List (Int × Int)) : (sortP ps).Pairwise (fun a b => leP a b = true) := List.pairwise_mergeSort leP_trans leP_total ps
theorem sortP_uniq {ps qs : List (Int × Int)} (p : qs.Perm ps) (s : qs.Pairwise (fun a b => leP a b = true)) : qs = sortP ps :=
  List.Perm.eq_of_pairwise (fun a b _ _ h1 h2 => leP_anti a b h1 h2) s (sortP_sorted ps) (p.trans (sortP_perm ps).symm)
@[simp] def fSortA : List Sl → Option Sl
  | [s] => match lstOf s with
    | none => none
    | some ds => match intsOf ds with
      | some ns => some (.own ((sortI ns).map PyData.int))
      | none => match pairsOf ds with
        | some ps => if (ps.all fun p => p.1 * p.2 != 0) = true then some (.own ((sortP ps).map pairD)) else none
        | none => none
  | _ => none
def rSortA (K : PySem.W.Frag) : List V → Hp → VK → Prop := fun vs H Q => rSortedI K vs H Q ∨ rSortedPO K vs H Q
theorem cr_sortA {X : Cx} : CallR X (.builtin "sorted") (rSortA X.K) := by
  intro pins s σ H vs us Q I r h
  rcases h with h | h
  · exact cr_sortedI pins s σ H vs us Q I r h
  · exact cr_sortedPO pins s σ H vs us Q I r h
def keyP (H : Hp) (v : V) : Int × Int := match v with
  | .ref t => match H t with
    | some (.tup [.int i, .int j]) => (i, j)
    | _ => (0, 0)
  | _ => (0, 0)
section
variable {K : PySem.W.Frag} {G H : Hp}
theorem keyP_of {v : V} {p : Int × Int} (eg : Ex G H) (hp : p.1 * p.2 ≠ 0) (h : Rp K G v (pairD p)) : ∃ t, v = .ref t ∧ H t = some (.tup [.int p.1, .int p.2]) ∧ keyP H v = p := by
  unfold pairD at h
  cases h with
  | tup hs ha =>
    cases ha with
    | cons h1 h2 =>
      cases h2 with
      | cons h2 h3 =>
        cases h3
        cases h1
        cases h2
        have e := eg _ _ hs
        refine ⟨_, rfl, e, ?_⟩
        unfold keyP
        simp only [e]
  | tupK hk => exact absurd hk.1 hp
theorem keyP_map (eg : Ex G H) : ∀ {vs : List V} {ps : List (Int × Int)}, (∀ p ∈ ps, p.1 * p.2 ≠ 0) → RpA K G vs (ps.map pairD) → vs.map (keyP H) = ps
  | _, [], _, h => by cases h; rfl
  | _, p :: ps, hz, h => by
    cases h with
    | cons h1 h2 =>
      obtain ⟨_, _, _, e⟩ := keyP_of eg (hz p List.mem_cons_self) h1
      rw [List.map_cons, e, keyP_map eg (fun q hq => hz q (List.mem_cons_of_mem _ hq)) h2]
theorem RpA.mem {vs : List V} {ds : List D} (h : RpA K G vs ds) {v : V} (hv : v ∈ vs) : ∃ d ∈ ds, Rp K G v d := by
  obtain ⟨i, hi⟩ := List.getElem?_of_mem hv
  obtain ⟨d, h1, h2⟩ := h.get hi
  exact ⟨d, List.mem_of_getElem? h1, h2⟩
theorem rpA_keys (eg : Ex G H) : ∀ (ys : List V), (∀ y ∈ ys, ∃ p : Int × Int, p.1 * p.2 ≠ 0 ∧ Rp K G y (pairD p)) → RpA K G ys ((ys.map (keyP H)).map pairD)
  | [], _ => .nil
  | y :: ys, h => by
    obtain ⟨p, hz, hp⟩ := h y List.mem_cons_self
    obtain ⟨_, _, _, e⟩ := keyP_of eg hz hp
    refine .cons ?_ (rpA_keys eg ys fun z hz => h z (List.mem_cons_of_mem _ hz))
    rw [e]
    exact hp
theorem fnS_sortA : FnS K (rSortA K) fSortA := by
  intro G F T ρ σ H xs z vs Q hl R h q
  unfold fSortA at h
  split at h
  · obtain ⟨v, rfl⟩ := one_of hl rfl
    rename_i s
    split at h
    · cases h
    · rename_i ds hd
      split at h
      · rename_i ns hn
        cases h
        obtain ⟨a, ev, s1⟩ := lstI_of (ns := ns) R.l.eg (by unfold lstI; rw [hd]; exact hn) R.fst
        subst ev
        refine .inl ⟨a, ns, rfl, s1, fun ns' p hp hs hn => ?_⟩
        rw [sortI_uniq hp hs]
        exact q _ G _ (Ex.refl G) (R.drop.pushO hn RpA.ofInts)
      · split at h
        · rename_i ps hps
          split at h
          case isFalse => cases h
          rename_i hall
          have hz : ∀ p ∈ ps, p.1 * p.2 ≠ 0 := fun p hp => by
            have h1 := List.all_eq_true.mp hall p hp
            simpa only [bne_iff_ne] using h1
          cases h
          have e2 := pairsOf_eq hps
          subst e2
          obtain ⟨a, us, ev, s1, r1⟩ := lst_of R.l.eg hd R.fst
          subst ev
          refine .inr ⟨a, us, keyP H, rfl, s1, fun x hx => ?_, fun ys p hs hst hn => ?_⟩
          · obtain ⟨d, hd, hr⟩ := r1.mem hx
            obtain ⟨p, hp, rfl⟩ := List.mem_map.mp hd
            obtain ⟨t, e1, e2, e3⟩ := keyP_of R.l.eg (hz p hp) hr
            exact ⟨t, e1, by rw [e3]; exact e2⟩
          · have hys : ∀ y ∈ ys, ∃ p : Int × Int, p.1 * p.2 ≠ 0 ∧ Rp K G y (pairD p) := fun y hy => by
              obtain ⟨d, hd, hr⟩ := r1.mem (hst.perm.subset hy)
              obtain ⟨p, hp, rfl⟩ := List.mem_map.mp hd
              exact ⟨p, hz p hp, hr⟩
            have e3 : ys.map (keyP H) = sortP ps := by
              refine sortP_uniq ?_ ?_
              · rw [← keyP_map R.l.eg hz r1]
                exact hst.perm.map _
              · rw [List.pairwise_map]
                refine hs.imp fun {x y} hxy => ?_
                have hxy' : SrtO.lexB (keyP H y) (keyP H x) = false := hxy
                revert hxy'
                generalize keyP H x = k1
                generalize keyP H y = k2
                intro hxy'
                have hn : ¬ (k2.1 < k1.1 ∨ (k2.1 = k1.1 ∧ k2.2 < k1.2)) := fun z => by
                  rw [SrtO.lexB_iff.mpr z] at hxy'
                  cases hxy'
                simp only [leP, Bool.or_eq_true, Bool.and_eq_true, decide_eq_true_eq]
                omega
            refine q _ G _ (Ex.refl G) ?_
            rw [← e3]
            exact R.drop.pushO hn (rpA_keys R.l.eg ys hys)
        · cases h
  · cases h
end
def mExtN (i : Nat) (a : MX) : MX := fun ρ => match ρ[i]? with
  | some (.own _) => match a ρ with
    | some (.own es, ρ1) => match ρ1[i]? with
      | some (.own ds) => if ds.length + es.length ≤ sizeLine then some (.val .none, ρ1.set i (.own (ds ++ es))) else none
      | _ => none
    | _ => none
  | _ => none
section
variable {K : PySem.W.Frag} {X : Cx} {e : Expr} {te : TE} {me : MX} {i : Nat}
theorem den_extN (ha : Den K te me) : Den K (tBM K "list" rExtend (tVar i) (tCons te tNil)) (mExtN i me) := by
  intro G F T ρ σ H z ρ' Q R h q
  unfold mExtN at h
  split at h
  · rename_i ds0 hs0
    split at h
    · rename_i es ρ1 e1
      split at h
      · rename_i ds hs
        split at h
        · rename_i hl
          cases h
          obtain ⟨a, us, haσ, hH0, _⟩ := R.ownVar hs0
          refine ⟨_, haσ, .inl ⟨rfl, us, .inl (.inl hH0)⟩, ?_⟩
          refine ha G F T ρ σ H _ ρ1 _ R e1 fun v G1 H1 ex1 R1 => ?_
          obtain ⟨b, ws, ev, hb, hg, _, hr⟩ := R1.fst
          cases ev
          obtain ⟨a', us', ha', hH, hrs⟩ := R1.ownVar hs
          rw [haσ] at ha'
          cases ha'
          refine ⟨a, b, us', ws, rfl, rfl, hH, hb, by rw [hrs.len, hr.len]; exact hl, ?_⟩
          exact q _ G1 _ ex1 ((R1.drop.mutVar hs haσ (hrs.app hr)).pushV .non)
        · cases h
      · cases h
    · cases h
  · cases h
theorem me_extN {x : Str} {p apos cpos : Pos} (i : Nat) (ha : ME X K e te me) (hN : X.N[i]? = some x := by rfl) (hv : Vis X.env.scope x := by first | exact Or.inl rfl | exact Or.inr (Or.inl rfl) | exact Or.inr (Or.inr rfl)) (hd : (x == ("__debug__" : Str)) = false := by decide)
    (hcd : (x == ("__classdict__" : Str)) = false := by decide)
    (h1 : attributeBase (.Name x p) "extend" X.env (eval (.Name x p) X.env) = eval (.Name x p) X.env := by rfl)
    (h2 : (((backTo cpos (starEach [e] X.env)).all (fun x => !x.1)) && ((backToKw cpos (keywordEach [] X.env)).all fun x => x.1.isSome) && decide (([e]).length + ([] : List Keyword).length + (if ([] : List Keyword).isEmpty then 0 else 1) < 30)) = true := by rfl)
    (h3 : (apos.endLine == cpos.line) = true := by rfl)
    (h4 : starEach [e] X.env = (false, eval e X.env) :: starEach [] X.env := by rfl) (h5 : (backTo cpos (starEach [] X.env)).any (·.1) = false := by rfl) : ME X K (.Call (.Attribute (.Name x p) "extend" apos) [e] [] cpos) (tBM K "list" rExtend (tVar i) (tCons te tNil)) (mExtN i me) := by
  obtain rfl := ha.hK
  exact ⟨rfl, pe_bm PySem.F.plainAttrs_list PySem.F.slot_list_extend PySem.F.type_list_extend mt_extend (pe_var hN hv hd hcd) (pa_cons ha.pe pa_nil h4) h1 h2 h3 h4 h5, den_extN ha.dn⟩
end
end Dn
namespace Dn
open PySem PySem.Spec PyProof.Rows L2
open Evl (Ex)
@[simp] def fJoin (x y : Sl) : Option Sl := match x with
  | .val (.str a) => match (seqOf y).bind strsOf with
    | some ys => if (ys.map (·.length)).sum + ys.length * a.length ≤ 16777216 then some (.val (.str (Txt.join a ys))) else none
    | none => none
  | _ => none
end Dn
namespace Dn
open PySem PySem.Spec PyProof.Rows L2
@[simp] theorem mVar_ap (i : Nat) (ρ : List Sl) : mVar i ρ = (match ρ[i]? with
  | some (.val d) => some (.val d, ρ)
  | some (.ex c) => some (.ex c, ρ)
  | some (.own ds) => some (.val (.list ds), ρ.set i (.val (.list ds)))
  | _ => none) := rfl
@[simp] theorem mC_ap (d : D) (ρ : List Sl) : mC d ρ = (some (.val d, ρ)) := rfl
@[simp] theorem mBin_ap (f : Sl → Sl → Option Sl) (a b : MX) (ρ : List Sl) : mBin f a b ρ = (match a ρ with
  | none => none
  | some (x, ρ1) => match b ρ1 with
    | none => none
    | some (y, ρ2) => match f x y with
      | none => none
      | some z => some (z, ρ2)) := rfl
@[simp] theorem mUn_ap (f : Sl → Option Sl) (a : MX) (ρ : List Sl) : mUn f a ρ = (match a ρ with
  | none => none
  | some (x, ρ1) => match f x with
    | none => none
    | some z => some (z, ρ1)) := rfl
@[simp] theorem mNil_ap  (ρ : List Sl) : mNil  ρ = (some ([], ρ)) := rfl
@[simp] theorem mCons_ap (a : MX) (b : MA) (ρ : List Sl) : mCons a b ρ = (match a ρ with
  | none => none
  | some (x, ρ1) => match b ρ1 with
    | none => none
    | some (xs, ρ2) => some (x :: xs, ρ2)) := rfl
@[simp] theorem mFn_ap (f : List Sl → Option Sl) (a : MA) (ρ : List Sl) : mFn f a ρ = (match a ρ with
  | none => none
  | some (xs, ρ1) => match f xs with
    | none => none
    | some z => some (z, ρ1)) := rfl
@[simp] theorem mB_ap (a : MX) (ρ : List Sl) : mB a ρ = (match a ρ with
  | some (.val (.bool b), ρ1) => some (b, ρ1)
  | _ => none) := rfl
@[simp] theorem mTru_ap (a : MX) (ρ : List Sl) : mTru a ρ = (match a ρ with
  | none => none
  | some (x, ρ1) => match tru x with
    | none => none
    | some b => some (b, ρ1)) := rfl
@[simp] theorem mTAnd_ap (a b : MT) (ρ : List Sl) : mTAnd a b ρ = (match a ρ with
  | none => none
  | some (c, ρ1) => if c = true then b ρ1 else some (false, ρ1)) := rfl
@[simp] theorem mTOr_ap (a b : MT) (ρ : List Sl) : mTOr a b ρ = (match a ρ with
  | none => none
  | some (c, ρ1) => if c = true then some (true, ρ1) else b ρ1) := rfl
@[simp] theorem mTNot_ap (a : MT) (ρ : List Sl) : mTNot a ρ = (match a ρ with
  | none => none
  | some (c, ρ1) => some (!c, ρ1)) := rfl
@[simp] theorem mAndV_ap (a b : MX) (ρ : List Sl) : mAndV a b ρ = (match a ρ with
  | some (.val (.bool c), ρ1) => if c = true then b ρ1 else some (.val (.bool false), ρ1)
  | _ => none) := rfl
@[simp] theorem mOrV_ap (a b : MX) (ρ : List Sl) : mOrV a b ρ = (match a ρ with
  | some (.val (.bool c), ρ1) => if c = true then some (.val (.bool true), ρ1) else b ρ1
  | _ => none) := rfl
@[simp] theorem mNotV_ap (a : MX) (ρ : List Sl) : mNotV a ρ = (match a ρ with
  | some (.val (.bool c), ρ1) => some (.val (.bool (!c)), ρ1)
  | _ => none) := rfl
@[simp] theorem mIf_ap (c : MT) (a b : MX) (ρ : List Sl) : mIf c a b ρ = (match c ρ with
  | none => none
  | some (k, ρ1) => if k = true then a ρ1 else b ρ1) := rfl
@[simp] theorem mChain_ap (p p' : Int → Int → Bool) (a b c : MX) (ρ : List Sl) : mChain p p' a b c ρ = (match a ρ with
  | some (.val (.int i), ρ1) => match b ρ1 with
    | some (.val (.int j), ρ2) => if p i j = true then match c ρ2 with
        | some (.val (.int k), ρ3) => some (.val (.bool (p' j k)), ρ3)
        | _ => none
      else some (.val (.bool false), ρ2)
    | _ => none
  | _ => none) := rfl
@[simp] theorem mTup_ap (a : MA) (ρ : List Sl) : mTup a ρ = (match a ρ with
  | none => none
  | some (xs, ρ1) => match datAll xs with
    | none => none
    | some ds => if ds.length ≤ sizeLine then some (.val (.tuple ds), ρ1) else none) := rfl
@[simp] theorem mLst_ap (a : MA) (ρ : List Sl) : mLst a ρ = (match a ρ with
  | none => none
  | some (xs, ρ1) => match datAll xs with
    | none => none
    | some ds => if ds.length ≤ sizeLine then some (.own ds, ρ1) else none) := rfl
@[simp] theorem mON_ap  (ρ : List Sl) : mON  ρ = (some (none, ρ)) := rfl
@[simp] theorem mOS_ap (a : MX) (ρ : List Sl) : mOS a ρ = (match a ρ with
  | some (.val (.int i), ρ1) => some (some i, ρ1)
  | _ => none) := rfl
@[simp] theorem mSl_ap (a : MX) (l h : MO) (ρ : List Sl) : mSl a l h ρ = (match a ρ with
  | none => none
  | some (x, ρ1) => match l ρ1 with
    | none => none
    | some (lo, ρ2) => match h ρ2 with
      | none => none
      | some (hi, ρ3) => match fSl x lo hi with
        | none => none
        | some z => some (z, ρ3)) := rfl
@[simp] theorem mIxO_ap (i : Nat) (b : MX) (ρ : List Sl) : mIxO i b ρ = (match ρ[i]? with
  | none => none
  | some s0 => match lstOf s0 with
    | none => none
    | some _ => match b ρ with
      | some (.val (.int k), ρ1) => match ρ1[i]? with
        | some s => match lstOf s with
          | some ds => (atI ds k).map fun d => (.val d, ρ1)
          | none => none
        | none => none
      | _ => none) := rfl
@[simp] theorem mLenO_ap (i : Nat) (ρ : List Sl) : mLenO i ρ = (match ρ[i]? with
  | some s => match lstOf s with
    | some ds => some (.val (.int ds.length), ρ)
    | none => none
  | none => none) := rfl
@[simp] theorem mTruO_ap (i : Nat) (ρ : List Sl) : mTruO i ρ = (match ρ[i]? with
  | some s => match lstOf s with
    | some ds => some (!ds.isEmpty, ρ)
    | none => none
  | none => none) := rfl
@[simp] theorem mEqO_ap (neg : Bool) (i : Nat) (b : MX) (ρ : List Sl) : mEqO neg i b ρ = (match ρ[i]? with
  | none => none
  | some s0 => match lstOf s0 with
    | none => none
    | some _ => match b ρ with
      | some (y, ρ1) => match ρ1[i]? with
        | some s => match fEq neg s y with
          | some z => some (z, ρ1)
          | none => none
        | none => none
      | none => none) := rfl
@[simp] theorem mgN_ap (kp : Nat → Bool) (i : Nat) (d : D) (ρ : List Sl) : mgN kp i d ρ = (if kp i = false ∧ i < ρ.length then some (ρ.set i (.val d)) else none) := rfl
@[simp] theorem mgT_ap (kp : Nat → Bool) (is : List Nat) (d : D) (ρ : List Sl) : mgT kp is d ρ = (match d with
  | .tuple ds => mgNs kp is ds ρ
  | _ => none) := rfl
@[simp] theorem mgL_ap (kp : Nat → Bool) (is : List Nat) (d : D) (ρ : List Sl) : mgL kp is d ρ = (match d with
  | .tuple ds => mgNs kp is ds ρ
  | .list ds => mgNs kp is ds ρ
  | _ => none) := rfl
@[simp] theorem mNext_ap  (ρ : List Sl) : mNext  ρ = (some (.nx ρ)) := rfl
@[simp] theorem mBrk_ap  (ρ : List Sl) : mBrk  ρ = (some (.bk ρ)) := rfl
@[simp] theorem mCont_ap  (ρ : List Sl) : mCont  ρ = (some (.ct ρ)) := rfl
@[simp] theorem mSeq_ap (a b : MS) (ρ : List Sl) : mSeq a b ρ = (match a ρ with
  | some (.nx ρ1) => b ρ1
  | o => o) := rfl
@[simp] theorem mIfS_ap (c : MT) (a b : MS) (ρ : List Sl) : mIfS c a b ρ = (match c ρ with
  | none => none
  | some (k, ρ1) => if k = true then a ρ1 else b ρ1) := rfl
@[simp] theorem mRet_ap (a : MX) (ρ : List Sl) : mRet a ρ = (match a ρ with
  | none => none
  | some (r, ρ1) => some (.rt r ρ1)) := rfl
@[simp] theorem mExpr_ap (a : MX) (ρ : List Sl) : mExpr a ρ = (match a ρ with
  | none => none
  | some (_, ρ1) => some (.nx ρ1)) := rfl
@[simp] theorem mAsg_ap (kp : Nat → Bool) (i : Nat) (a : MX) (ρ : List Sl) : mAsg kp i a ρ = (match a ρ with
  | none => none
  | some (r, ρ1) => if kp i = false ∧ i < ρ1.length then some (.nx (ρ1.set i r)) else none) := rfl
@[simp] theorem mAsg2_ap (kp : Nat → Bool) (i j : Nat) (a : MX) (ρ : List Sl) : mAsg2 kp i j a ρ = (match a ρ with
  | some (.val d, ρ1) => if kp i = false ∧ kp j = false ∧ i < ρ1.length ∧ j < ρ1.length then some (.nx ((ρ1.set i (.val d)).set j (.val d))) else none
  | _ => none) := rfl
@[simp] theorem mAsgT_ap (a : MX) (g : MG) (ρ : List Sl) : mAsgT a g ρ = (match a ρ with
  | some (.val d, ρ1) => match g d ρ1 with
    | some ρ2 => some (.nx ρ2)
    | none => none
  | _ => none) := rfl
@[simp] theorem mAug_ap (kp : Nat → Bool) (i : Nat) (f : Int → Int → Int) (a : MX) (ρ : List Sl) : mAug kp i f a ρ = (match ρ[i]? with
  | some (.val (.int k)) => match a ρ with
    | some (.val (.int j), ρ1) => if kp i = false ∧ i < ρ1.length then some (.nx (ρ1.set i (.val (.int (f k j))))) else none
    | _ => none
  | _ => none) := rfl
@[simp] theorem mSetO_ap (i : Nat) (b a : MX) (ρ : List Sl) : mSetO i b a ρ = (match a ρ with
  | none => none
  | some (r, ρ1) => match datOf r with
    | none => none
    | some d => match ρ1[i]? with
      | some (.own _) => match b ρ1 with
        | some (.val (.int k), ρ2) => match ρ2[i]? with
          | some (.own ds) => match ixN ds.length k with
            | some j => some (.nx (ρ2.set i (.own (ds.set j d))))
            | none => none
          | _ => none
        | _ => none
      | _ => none) := rfl
@[simp] theorem mAugO_ap (i : Nat) (f : Int → Int → Int) (b a : MX) (ρ : List Sl) : mAugO i f b a ρ = (match ρ[i]? with
  | some (.own _) => match b ρ with
    | some (.val (.int k), ρ1) => match ρ1[i]? with
      | some (.own ds) => match atI ds k with
        | some (.int x) => match a ρ1 with
          | some (.val (.int y), ρ2) => match ρ2[i]? with
            | some (.own es) => match ixN es.length k with
              | some j => some (.nx (ρ2.set i (.own (es.set j (.int (f x y))))))
              | none => none
            | _ => none
          | _ => none
        | _ => none
      | _ => none
    | _ => none
  | _ => none) := rfl
@[simp] theorem mMeth_ap (i : Nat) (f : List D → List D → Option (D × List D)) (a : MA) (ρ : List Sl) : mMeth i f a ρ = (match ρ[i]? with
  | some (.own _) => match a ρ with
    | none => none
    | some (xs, ρ1) => match datAll xs with
      | none => none
      | some es => match ρ1[i]? with
        | some (.own ds) => match f ds es with
          | none => none
          | some (d, ds') => some (.val d, ρ1.set i (.own ds'))
        | _ => none
  | _ => none) := rfl
@[simp] theorem miL_ap (a : MX) (ρ : List Sl) : miL a ρ = (match a ρ with
  | some (.val (.list ds), ρ1) => some (ds, ρ1)
  | _ => none) := rfl
@[simp] theorem miS_ap (a : MX) (ρ : List Sl) : miS a ρ = (match a ρ with
  | some (.val (.list ds), ρ1) => some (ds, ρ1)
  | some (.val (.tuple ds), ρ1) => some (ds, ρ1)
  | _ => none) := rfl
@[simp] theorem miN_ap (a : MX) (ρ : List Sl) : miN a ρ = (match a ρ with
  | some (.val (.list ds), ρ1) => some (ds, ρ1)
  | some (.own ds, ρ1) => some (ds, ρ1)
  | _ => none) := rfl
@[simp] theorem miR1_ap (a : MA) (ρ : List Sl) : miR1 a ρ = (match a ρ with
  | some ([.val (.int n)], ρ1) => if n < 2 ^ 62 ∧ -(2 ^ 62) ≤ n then some (rangeD 0 n.toNat, ρ1) else none
  | _ => none) := rfl
@[simp] theorem miR2_ap (a : MA) (ρ : List Sl) : miR2 a ρ = (match a ρ with
  | some ([.val (.int m), .val (.int n)], ρ1) => if -(2 ^ 62) ≤ m ∧ m < 2 ^ 62 ∧ -(2 ^ 62) ≤ n ∧ n < 2 ^ 62 then some (rangeD m (n - m).toNat, ρ1) else none
  | _ => none) := rfl
@[simp] theorem miE_ap (a : MX) (ρ : List Sl) : miE a ρ = (match a ρ with
  | some (.val (.list ds), ρ1) => some (enumD ds, ρ1)
  | some (.own ds, ρ1) => some (enumD ds, ρ1)
  | _ => none) := rfl
@[simp] theorem miStr_ap (a : MX) (ρ : List Sl) : miStr a ρ = (match a ρ with
  | some (.val (.str x), ρ1) => some (strD x, ρ1)
  | _ => none) := rfl
@[simp] theorem mFor_ap (i : MI) (g : MG) (b : MS) (ρ : List Sl) : mFor i g b ρ = (match i ρ with
  | none => none
  | some (ds, ρ1) => mLoop g b ds ρ1) := rfl
@[simp] theorem mTYes_ap  (ρ : List Sl) : mTYes  ρ = (some (true, ρ)) := rfl
@[simp] theorem mComp_ap (i : MI) (g : MG) (t : MT) (e : MX) (vs : List Nat) (ρ : List Sl) : mComp i g t e vs ρ = (match i ρ with
  | none => none
  | some (ds, ρ1) => match mCompL g t e vs ds [] (wipeD ρ1 vs) with
    | none => none
    | some (acc, ρ2) => some (.own acc, wipeD ρ2 vs)) := rfl
@[simp] theorem mCall_ap (mf : MF) (ws : List D) (a : MA) (ρ : List Sl) : mCall mf ws a ρ = (match a ρ with
  | none => none
  | some (xs, ρ1) => match mf (xs ++ ws.map Sl.val) with
    | none => none
    | some (r, _) => some (r, ρ1)) := rfl
@[simp] theorem mCallM_ap (mf : MF) (i : Nat) (ws : List D) (a : MA) (ρ : List Sl) : mCallM mf i ws a ρ = (match ρ[i]? with
  | some (.own _) => match a ρ with
    | none => none
    | some (xs, ρ1) => match ρ1[i]? with
      | some (.own ds) => match mf (.own ds :: (xs ++ ws.map Sl.val)) with
        | some (r, s :: _) => some (r, ρ1.set i s)
        | _ => none
      | _ => none
  | _ => none) := rfl
@[simp] theorem mDef_ap (np nl : Nat) (kp : Nat → Bool) (mb : MS) (args : List Sl) : mDef np nl kp mb args = (if args.length = np then match mb (args ++ List.replicate (nl - np) .un) with
    | some (.rt r ρ') => some (r, outA kp np ρ')
    | some (.nx ρ') => some (.val .none, outA kp np ρ')
    | _ => none
  else none) := rfl
@[simp] theorem mNone_ap (ρ : List Sl) : mNone ρ = (none) := rfl
@[simp] theorem mPar_ap (kp : Nat → Bool) (i j : Nat) (a b : MX) (ρ : List Sl) : mPar kp i j a b ρ = (match a ρ with
  | none => none
  | some (x, ρ1) => match b ρ1 with
    | none => none
    | some (y, ρ2) => if kp i = false ∧ kp j = false ∧ i < ρ2.length ∧ j < ρ2.length then some (.nx ((ρ2.set i x).set j y)) else none) := rfl
@[simp] theorem miZ_ap (a : MA) (ρ : List Sl) : miZ a ρ = (match a ρ with
  | some ([.val (.list ds), .val (.list es)], ρ1) => some (zipD ds es, ρ1)
  | some ([.val (.tuple ds), .val (.tuple es)], ρ1) => some (zipD ds es, ρ1)
  | _ => none) := rfl
@[simp] theorem mExtN_ap (i : Nat) (a : MX) (ρ : List Sl) : mExtN i a ρ = (match ρ[i]? with
  | some (.own _) => match a ρ with
    | some (.own es, ρ1) => match ρ1[i]? with
      | some (.own ds) => if ds.length + es.length ≤ sizeLine then some (.val .none, ρ1.set i (.own (ds ++ es))) else none
      | _ => none
    | _ => none
  | _ => none) := rfl
@[simp] theorem mRetO_ap (i : Nat) (ρ : List Sl) : mRetO i ρ = (match ρ[i]? with
  | some (.own ds) => some (.rt (.own ds) (ρ.set i .un))
  | some (.val d) => some (.rt (.val d) ρ)
  | _ => none) := rfl
end Dn
namespace Dn
open PySem PySem.Spec PyProof.Rows L2
open Evl (Ex)
def reprOk (d : D) : Bool := PyData.canLay0 d && PyData.showable d && decide (PyData.depth d ≤ 40) && decide (d.shown.length ≤ sizeLine)
@[simp] def fRepr : List Sl → Option Sl
  | [.val (.list ds)] => if reprOk (.list ds) = true then some (.val (.str (PyData.shown (.list ds)))) else none
  | [.val (.tuple ds)] => if reprOk (.tuple ds) = true then some (.val (.str (PyData.shown (.tuple ds)))) else none
  | _ => none
end Dn
namespace Dn
open PySem PySem.Spec PyProof.Rows L2
open Evl (Ex)
structure FnG (P : Program) (w : World) (K : PySem.W.Frag) (mg : Str → Option Value) (base : Heap) (k : Nat) (f : Addr) (fd : FuncData) (ps : List Str) (sp : Sp) : Prop where
  lenG : ∀ vs H Q E, sp vs H Q E → vs.length = ps.length
  runG : ∀ (B : Around) (fr : List Env) (s : Shared) (H : Hp) (ag : Args) (us : List Value) (vs : List V) (Q : VK) (E : XK), B.guards = some [] → Room k B → Env0 P w K mg base B fr s H →
    BindsTo s fd ag (ps.zip us) → Vals vs us → sp vs H Q E → codeAny (model P w) B (.call (.ref f) ag) (CR CX0 fr P w H s Q E) s
section
variable {P : Program} {w : World} {K : PySem.W.Frag} {mg : Str → Option Value} {base : Heap}
theorem FnG.of {k : Nat} {f : Addr} {fd : FuncData} {ps : List Str} {sp : Sp} (F : FnOk P w K mg base CX0 k f fd ps sp) : FnG P w K mg base k f fd ps sp :=
  ⟨F.len, fun B fr s H ag us vs Q E _ hr e0 hb rv q => F.run B fr s H ag us vs Q E hr e0 hb rv q⟩
end
end Dn
namespace Dn
open PySem PySem.Spec PyProof.Rows L2
open Evl (Ex)
@[simp] def scal : D → Bool
  | .none => true
  | .bool _ => true
  | .int _ => true
  | .str _ => true
  | _ => false
def mCallL (mf : MF) (i : Nat) (ws : List D) (a : MA) : MX := fun ρ => match ρ[i]? with
  | some (.own _) => match a ρ with
    | none => none
    | some (xs, ρ1) => match ρ1[i]? with
      | some (.own ds) => match mf (.val (.list ds) :: (xs ++ ws.map Sl.val)) with
        | some (.val z, _) => if scal z = true then some (.val z, ρ1) else none
        | _ => none
      | _ => none
  | _ => none
section
variable {K : PySem.W.Frag} {G F H : Hp} {L : List Ent} {ds : List D} {p : Addr}
theorem hold_sub (R : RelL K G F L H) : ∀ a o, F a = some o → hold F L H a = some o := fun a o h => by
  by_cases c : ∃ e ∈ L, Own e a
  · obtain ⟨e, h1, h2⟩ := c
    have := (R.owned h1 h2).choose_spec.2.2
    rw [h] at this
    cases this
  · rw [hold_out c, h]
end
section
variable {K : PySem.W.Frag} {X : Cx} {mf : MF} {ta : TA} {ma : MA} {E : XK}
@[simp] theorem mCallL_ap (mf : MF) (i : Nat) (ws : List D) (a : MA) (ρ : List Sl) : mCallL mf i ws a ρ = (match ρ[i]? with
  | some (.own _) => match a ρ with
    | none => none
    | some (xs, ρ1) => match ρ1[i]? with
      | some (.own ds) => match mf (.val (.list ds) :: (xs ++ ws.map Sl.val)) with
        | some (.val z, _) => if scal z = true then some (.val z, ρ1) else none
        | _ => none
      | _ => none
  | _ => none) := rfl
end
end Dn
namespace Dn
open PySem PySem.Spec PyProof.Rows L2
open Evl (Ex)
section
variable {prog : Program} {w : World} {A : Around} {E : Value → Shared → Prop} {s : Shared}
open SrtO in
end
@[simp] def fSortB : List Sl → Option Sl
  | [.val (.tuple ds)] => match intsOf ds with
    | some ns => some (.own ((sortI ns).map PyData.int))
    | none => none
  | xs => fSortA xs
end Dn
namespace Dn
open PySem PySem.Spec PyProof.Rows L2
def KTab (K : PySem.W.Frag) (w : World) (d : Addr) (kvs : List (Str × Str)) : Prop :=
  ∃ es n, KDict K w d es n ∧ ∀ q ∈ kvs, ∃ t, PySem.W.nsIn K d q.1 = some (some (.str q.2 t))
@[simp] def fKIn (kvs : List (Str × Str)) : Sl → Option Sl
  | .val (.str z) => if (kvs.find? fun q => q.1 == z).isSome = true then some (.val (.bool true)) else none
  | _ => none
@[simp] def fKIx (kvs : List (Str × Str)) : Sl → Option Sl
  | .val (.str z) => match kvs.find? fun q => q.1 == z with
    | some q => some (.val (.str q.2))
    | none => none
  | _ => none
section
variable {X : Cx} {K : PySem.W.Frag} {e : Expr} {te : TE} {me : MX} {d : Addr} {kvs : List (Str × Str)} {x : Str} {pos p : Pos} {G F H : Hp}
theorem KTab.get {w : World} {z : Str} {q : Str × Str} (D : KTab K w d kvs) (h : (kvs.find? fun q => q.1 == z) = some q) : ∃ t, PySem.W.nsIn K d z = some (some (.str q.2 t)) := by
  obtain ⟨es, n, _, h2⟩ := D
  have e := List.find?_some h
  have e2 : q.1 = z := eq_of_beq e
  rw [← e2]
  exact h2 q (List.mem_of_find?_eq_some h)
end
end Dn
namespace Dn
open PySem PySem.Spec PyProof.Rows L2
def repS (z : Str) (k : Int) : Str := ⟨(List.replicate k.toNat z.cps.toList).flatten.toArray⟩
@[simp] def fMulS (x y : Sl) : Option Sl := match x, y with
  | .val (.str z), .val (.int k) => if -(2 ^ 63) ≤ k ∧ k < 2 ^ 63 ∧ z.length * k.toNat ≤ sizeLine then some (.val (.str (repS z k))) else none
  | _, _ => none
def revS (z : Str) : Str := ⟨z.cps.toList.reverse.toArray⟩
section
variable {X : Cx} {K : PySem.W.Frag} {e : Expr} {te : TE} {me : MX}
@[simp] def fRevStr (x : Sl) : Option Sl := match x with
  | .val (.str z) => if z.length ≤ sizeLine then some (.val (.str (revS z))) else none
  | _ => none
end
end Dn
namespace Dn
open PySem PySem.Spec PyProof.Rows L2
open Evl (Ex)
section
variable {K : PySem.W.Frag} {X : Cx} {e e1 e2 : Expr} {pos : Pos} {te t1 t2 : TE} {me m1 m2 : MX} {G F H : Hp}
def keyIs (z : Str) (q : D × D) : Bool := match q.1 with
  | .str k => k == z
  | _ => false
@[simp] def fDix (x y : Sl) : Option Sl := match x, y with
  | .val (.dict ds), .val (.str z) => match ds.find? (keyIs z) with
    | some (_, .str v) => some (.val (.str v))
    | _ => none
  | _, _ => none
theorem units1 {n c : Nat} (h : n + 64 < c) : n + 1 < c := by omega
@[simp] def fSortS : List Sl → Option Sl
  | [s] => match (lstOf s).bind strsOf with
    | some [] => some (.own [])
    | some [a] => some (.own [.str a])
    | some [a, b] => if (sortedS [a, b] && !sortedS [b, a]) = true then some (.own [.str a, .str b]) else if (sortedS [b, a] && !sortedS [a, b]) = true then some (.own [.str b, .str a]) else none
    | _ => none
  | _ => none
end
end Dn
namespace Dn
open PySem PySem.Spec PyProof.Rows L2
open Evl (Ex)
def Fresh (K : PySem.W.Frag) (G G' : Hp) (r : Sl) (v : V) : Prop := ∃ (t p1 p2 : Addr) (vs1 vs2 : List V) (a b : List D), r = .val (.tuple [.list a, .list b]) ∧ v = .ref t ∧ G' t = some (.tup [.ref p1, .ref p2]) ∧ G' p1 = some (.lst vs1) ∧ RpA K G' vs1 a ∧ G' p2 = some (.lst vs2) ∧ RpA K G' vs2 b ∧ G p1 = none ∧ G p2 = none ∧ p1 ≠ p2
theorem Fresh.down {K : PySem.W.Frag} {G G1 G' : Hp} {r : Sl} {v : V} (h : Fresh K G1 G' r v) (e : Ex G G1) : Fresh K G G' r v := by
  obtain ⟨t, p1, p2, vs1, vs2, a, b, h1, h2, h3, h4, h5, h6, h7, h8, h9, h10⟩ := h
  exact ⟨t, p1, p2, vs1, vs2, a, b, h1, h2, h3, h4, h5, h6, h7, free_of e h8, free_of e h9, h10⟩
def PostF (K : PySem.W.Frag) (kp : Nat → Bool) (G F : Hp) (σ : L2.St) (D : Ends) : Out → Prop
  | .nx ρ' => ∀ G' σ' H', Ex G G' → Kept kp σ σ' → Rel K G' F [] ρ' σ' H' → D.nx σ' H'
  | .rt r ρ' => ∀ v G' σ' H', Ex G G' → Kept kp σ σ' → Rel K G' F [(r, some v)] ρ' σ' H' → Fresh K G G' r v → D.rt v H'
  | .bk ρ' => ∀ G' σ' H', Ex G G' → Kept kp σ σ' → Rel K G' F [] ρ' σ' H' → D.bk σ' H'
  | .ct ρ' => ∀ G' σ' H', Ex G G' → Kept kp σ σ' → Rel K G' F [] ρ' σ' H' → D.ct σ' H'
theorem PostF.up {K : PySem.W.Frag} {kp : Nat → Bool} {G G1 F : Hp} {σ σ1 : L2.St} {D : Ends} {o : Out} (h : PostF K kp G F σ D o) (e : Ex G G1) (k : Kept kp σ σ1) : PostF K kp G1 F σ1 D o := by
  cases o with
  | nx ρ => exact fun G' σ' H' e' k' R => h G' σ' H' (e.trans e') (k.trans k') R
  | rt r ρ => exact fun v G' σ' H' e' k' R f => h v G' σ' H' (e.trans e') (k.trans k') R (f.down e)
  | bk ρ => exact fun G' σ' H' e' k' R => h G' σ' H' (e.trans e') (k.trans k') R
  | ct ρ => exact fun G' σ' H' e' k' R => h G' σ' H' (e.trans e') (k.trans k') R
def spF (K : PySem.W.Frag) (mf : MF) : Sp := fun vs H Q _ => ∃ G F args r args', Rel K G F [] args (vs.map some) H ∧ mf args = some (r, args') ∧ ∀ v G' H', Ex G G' → Rel K G' F [(r, some v)] args' (vs.map some) H' → Fresh K G G' r v → Q v H'
end Dn
namespace Dn
open PySem PySem.Spec PyProof.Rows L2
open Evl (Ex)
theorem Fresh.upF {K : PySem.W.Frag} {G G1 G' : Hp} {r : Sl} {v : V} (h : Fresh K G G1 r v) (e : Ex G1 G') : Fresh K G G' r v := by
  obtain ⟨t, p1, p2, vs1, vs2, a, b, h1, h2, h3, h4, h5, h6, h7, h8, h9, h10⟩ := h
  exact ⟨t, p1, p2, vs1, vs2, a, b, h1, h2, e _ _ h3, e _ _ h4, h5.up e, e _ _ h6, h7.up e, h8, h9, h10⟩
def FrAt (K : PySem.W.Frag) (i : Nat) (G0 G : Hp) (ρ : List Sl) (σ : L2.St) : Prop := ∃ d v, ρ[i]? = some (.val d) ∧ σ[i]? = some (some v) ∧ Fresh K G0 G (.val d) v
theorem FrAt.up {K : PySem.W.Frag} {i : Nat} {G0 G G' : Hp} {ρ : List Sl} {σ : L2.St} (h : FrAt K i G0 G ρ σ) (e : Ex G G') : FrAt K i G0 G' ρ σ := by
  obtain ⟨d, v, h1, h2, h3⟩ := h
  exact ⟨d, v, h1, h2, h3.upF e⟩
def KeepV (i : Nat) (ρ ρ' : List Sl) : Prop := ∀ d, ρ[i]? = some (.val d) → ρ'[i]? = some (.val d)
theorem FrAt.keep {K : PySem.W.Frag} {i : Nat} {G0 G : Hp} {ρ ρ' : List Sl} {σ : L2.St} (h : FrAt K i G0 G ρ σ) (k : KeepV i ρ ρ') : FrAt K i G0 G ρ' σ := by
  obtain ⟨d, v, h1, h2, h3⟩ := h
  exact ⟨d, v, k d h1, h2, h3⟩
def PostK (K : PySem.W.Frag) (kp : Nat → Bool) (i : Nat) (G0 F : Hp) (σ : L2.St) (D : Ends) : Out → Prop
  | .nx ρ' => ∀ G' σ' H', Ex G0 G' → Kept kp σ σ' → Rel K G' F [] ρ' σ' H' → FrAt K i G0 G' ρ' σ' → D.nx σ' H'
  | .rt r ρ' => ∀ v G' σ' H', Ex G0 G' → Kept kp σ σ' → Rel K G' F [(r, some v)] ρ' σ' H' → Fresh K G0 G' r v → D.rt v H'
  | .bk ρ' => ∀ G' σ' H', Ex G0 G' → Kept kp σ σ' → Rel K G' F [] ρ' σ' H' → D.bk σ' H'
  | .ct ρ' => ∀ G' σ' H', Ex G0 G' → Kept kp σ σ' → Rel K G' F [] ρ' σ' H' → D.ct σ' H'
theorem PostK.of {K : PySem.W.Frag} {kp : Nat → Bool} {i : Nat} {G F : Hp} {σ : L2.St} {D : Ends} {o : Out} (q : PostF K kp G F σ D o) : PostK K kp i G F σ D o := by
  cases o with
  | nx ρ => exact fun G' σ' H' ex k R _ => q G' σ' H' ex k R
  | rt r ρ => exact q
  | bk ρ => exact q
  | ct ρ => exact q
theorem PostK.up {K : PySem.W.Frag} {kp : Nat → Bool} {i : Nat} {G F : Hp} {σ σ1 : L2.St} {D : Ends} {o : Out} (q : PostK K kp i G F σ D o) (k1 : Kept kp σ σ1) : PostK K kp i G F σ1 D o := by
  cases o with
  | nx ρ => exact fun G' σ' H' ex k R f => q G' σ' H' ex (k1.trans k) R f
  | rt r ρ => exact fun v G' σ' H' ex k R f => q v G' σ' H' ex (k1.trans k) R f
  | bk ρ => exact fun G' σ' H' ex k R => q G' σ' H' ex (k1.trans k) R
  | ct ρ => exact fun G' σ' H' ex k R => q G' σ' H' ex (k1.trans k) R
end Dn
namespace Dn
open PySem PySem.Spec PyProof.Rows L2
open Evl (Ex)
def mAugL (i : Nat) (a : MX) : MS := fun ρ => match ρ[i]? with
  | some (.own _) => match a ρ with
    | some (.own es, ρ1) => match ρ1[i]? with
      | some (.own ds) => if ds.length + es.length ≤ sizeLine then some (.nx (ρ1.set i (.own (ds ++ es)))) else none
      | _ => none
    | _ => none
  | _ => none
@[simp] theorem mAugL_ap (i : Nat) (a : MX) (ρ : List Sl) : mAugL i a ρ = (match ρ[i]? with
  | some (.own _) => match a ρ with
    | some (.own es, ρ1) => match ρ1[i]? with
      | some (.own ds) => if ds.length + es.length ≤ sizeLine then some (.nx (ρ1.set i (.own (ds ++ es)))) else none
      | _ => none
    | _ => none
  | _ => none) := rfl
section
variable {K : PySem.W.Frag} {X : Cx} {e : Expr} {te : TE} {me : MX} {i : Nat} {kp : Nat → Bool} {x : Str} {p pos : Pos}
theorem set_same {σ : L2.St} {o : Option V} (h : σ[i]? = some o) : σ.set i o = σ := by
  have hi := (List.getElem?_eq_some_iff.mp h)
  obtain ⟨h1, h2⟩ := hi
  rw [← h2]
  exact List.set_getElem_self h1
theorem denS_augL (h1 : Den K te me) : DenS K kp (tAug i te rExt2) (mAugL i me) := by
  intro G F ρ σ H D o R h q
  unfold mAugL at h
  split at h
  · rename_i ds0 hs0
    split at h
    · rename_i es ρ1 e1
      split at h
      · rename_i ds hs
        split at h
        · rename_i hl
          cases h
          obtain ⟨a, us, haσ, hH0, _⟩ := R.ownVar hs0
          refine ⟨_, haσ, ?_⟩
          refine h1 G F [] ρ σ H _ ρ1 _ R e1 fun v G1 H1 ex1 R1 => ?_
          obtain ⟨b, ws, ev, hb, hg, _, hr⟩ := R1.fst
          cases ev
          obtain ⟨a', us', ha', hH, hrs⟩ := R1.ownVar hs
          rw [haσ] at ha'
          cases ha'
          refine ⟨a, b, us', ws, rfl, rfl, hH, hb, by rw [hrs.len, hr.len]; exact hl, ?_⟩
          show D.nx (List.set σ i (some (V.ref a))) _
          rw [set_same haσ]
          exact q G1 σ _ ex1 (Kept.refl kp σ) (R1.drop.mutVar hs haσ (hrs.app hr))
        · cases h
      · cases h
    · cases h
  · cases h
theorem ms_augL (i : Nat) (h1 : ME X X.K e te me) (hN : X.N.Nodup) (hi : X.N[i]? = some x := by rfl) (hx : Loc X.env.scope x := by first | exact Or.inl rfl | exact Or.inr rfl) (hv : X.fn x = true ∨ X.env.scope.names.lookup x = some .local := by first | exact .inl rfl | exact .inr rfl) : MSt X kp (.AugAssign (.Name x p) .Add e pos) (tAug i te rExt2) (mAugL i me) :=
  ⟨ps_aug hN hi hx h1.pe iop_ext, denS_augL h1.dn⟩
end
end Dn
namespace Dn
open PySem PySem.Spec PyProof.Rows L2
open Evl (Ex)
def mIter (c : MT) (b : MS) : Nat → List Sl → Option Out
  | 0, _ => none
  | n + 1, ρ => match c ρ with
    | none => none
    | some (false, ρ1) => some (.nx ρ1)
    | some (true, ρ1) => match b ρ1 with
      | some (.nx ρ2) => mIter c b n ρ2
      | some (.ct ρ2) => mIter c b n ρ2
      | some (.bk ρ2) => some (.nx ρ2)
      | some (.rt r ρ2) => some (.rt r ρ2)
      | none => none
theorem mIter_step {c : MT} {b : MS} {n : Nat} {ρ ρ1 ρ2 : List Sl} {o : Out} (h1 : c ρ = some (true, ρ1)) (h2 : b ρ1 = some (.nx ρ2)) (h3 : mIter c b n ρ2 = some o) : mIter c b (n + 1) ρ = some o := by
  unfold mIter; rw [h1]; simp only; rw [h2]; exact h3
theorem mIter_end {c : MT} {b : MS} {n : Nat} {ρ ρ1 : List Sl} (h1 : c ρ = some (false, ρ1)) : mIter c b (n + 1) ρ = some (.nx ρ1) := by
  unfold mIter; rw [h1]
theorem mIter_up {c : MT} {b : MS} : ∀ {n : Nat} {ρ : List Sl} {o : Out} (k : Nat), mIter c b n ρ = some o → mIter c b (n + k) ρ = some o
  | 0, _, _, _, h => by cases h
  | n + 1, ρ, o, k, h => by
    rw [show n + 1 + k = (n + k) + 1 by omega]
    unfold mIter at h ⊢
    split at h
    · cases h
    · exact h
    · split at h
      · exact mIter_up k h
      · exact mIter_up k h
      · exact h
      · exact h
      · cases h
open Classical in
noncomputable def mWhile (c : MT) (b : MS) : MS := fun ρ => if h : ∃ n o, mIter c b n ρ = some o then mIter c b h.choose ρ else none
theorem mWhile_of {c : MT} {b : MS} {n : Nat} {ρ : List Sl} {o : Out} (h : mIter c b n ρ = some o) : mWhile c b ρ = some o := by
  have hex : ∃ n o, mIter c b n ρ = some o := ⟨n, o, h⟩
  unfold mWhile
  rw [dif_pos hex]
  obtain ⟨o', h'⟩ := hex.choose_spec
  have h1 := mIter_up n h'
  have h2 := mIter_up hex.choose h
  rw [Nat.add_comm] at h2
  rw [h1] at h2
  rw [h', h2]
theorem mWhile_ex {c : MT} {b : MS} {ρ : List Sl} {o : Out} (h : mWhile c b ρ = some o) : ∃ n, mIter c b n ρ = some o := by
  unfold mWhile at h
  split at h
  · exact ⟨_, h⟩
  · cases h
section
variable {K : PySem.W.Frag} {X : Cx} {kp : Nat → Bool} {pos : Pos} {tc : TT} {mc : MT} {tb : TS} {mb : MS}
theorem denS_while (hc : DenT K tc mc) (hb : DenS K kp tb mb) : DenS K kp (tWhile tc tb) (mWhile mc mb) := by
  intro G F ρ σ H D o R h q
  obtain ⟨n, h⟩ := mWhile_ex h
  refine ⟨fun m σ' H' => ∃ ρ' G', Ex G G' ∧ Kept kp σ σ' ∧ Rel K G' F [] ρ' σ' H' ∧ mIter mc mb m ρ' = some o, ⟨n, ρ, G, Ex.refl G, Kept.refl kp σ, R, h⟩, ?_⟩
  rintro m σ2 H2 ⟨ρ2, G2, ex2, k2, R2, h2⟩
  cases m with
  | zero => cases h2
  | succ m =>
    unfold mIter at h2
    split at h2
    · cases h2
    · rename_i ρ3 e3
      cases h2
      exact hc G2 F [] ρ2 σ2 H2 false ρ3 _ R2 e3 fun G3 H3 ex3 R3 => q G3 σ2 H3 (ex2.trans ex3) k2 R3
    · rename_i ρ3 e3
      refine hc G2 F [] ρ2 σ2 H2 true ρ3 _ R2 e3 fun G3 H3 ex3 R3 => ?_
      rw [if_pos rfl]
      refine ⟨fun σ' H' => ∃ ρ' G', Ex G G' ∧ Kept kp σ σ' ∧ Rel K G' F [] ρ' σ' H' ∧ mIter mc mb m ρ' = some o, fun σ' H' hN => ⟨m, Nat.lt_succ_self m, hN⟩, ?_⟩
      cases e4 : mb ρ3 with
      | none => rw [e4] at h2; cases h2
      | some o4 =>
        rw [e4] at h2
        refine hb G3 F ρ3 σ2 H3 _ o4 R3 e4 ?_
        cases o4 with
        | nx ρ5 => exact fun G5 σ5 H5 ex5 k5 R5 => ⟨ρ5, G5, (ex2.trans ex3).trans ex5, k2.trans k5, R5, h2⟩
        | ct ρ5 => exact fun G5 σ5 H5 ex5 k5 R5 => ⟨ρ5, G5, (ex2.trans ex3).trans ex5, k2.trans k5, R5, h2⟩
        | bk ρ5 =>
          cases h2
          exact fun G5 σ5 H5 ex5 k5 R5 => q G5 σ5 H5 ((ex2.trans ex3).trans ex5) (k2.trans k5) R5
        | rt r ρ5 =>
          cases h2
          exact fun v G5 σ5 H5 ex5 k5 R5 => q v G5 σ5 H5 ((ex2.trans ex3).trans ex5) (k2.trans k5) R5
theorem ms_while {c : Expr} {body : List Stmt} (hp : PassesOwn (model X.prog X.w) X.A X.env X.xe) (hc : MET X X.K c tc mc) (hb : MSs X kp body tb mb) : MSt X kp (.While c body [] pos) (tWhile tc tb) (mWhile mc mb) := ⟨ps_while hp hc.pe hb.pe, denS_while hc.dn hb.dn⟩
def fAnd1 : Sl → Sl → Option Sl
  | .val (.int i), .val (.int j) => if 0 ≤ i ∧ j = 1 then some (.val (.int (i % 2))) else none
  | _, _ => none
def rOdd : R2 := fun x y H Q => ∃ n : Nat, x = .int (n : Int) ∧ y = .int 1 ∧ Q (.int ((n % 2 : Nat) : Int)) H
theorem opS_odd : OpS K rOdd fAnd1 := by
  intro G F T ρ σ H x y z v w Q R h q
  unfold fAnd1 at h
  split at h
  · rename_i i j
    split at h
    · rename_i hc
      cases h
      obtain ⟨n, rfl⟩ := Int.eq_ofNat_of_zero_le hc.1
      obtain ⟨_, rfl⟩ := hc
      refine ⟨n, int_of R.snd, int_of R.fst, q _ G H (Ex.refl G) ?_⟩
      have e : ((n % 2 : Nat) : Int) = (n : Int) % 2 := by omega
      rw [e]
      exact R.drop.drop.pushV (.int _)
    · cases h
  · cases h
variable {a b : Expr} {ta tb' : TE} {ma mb' : MX}
theorem me_and1 (ha : ME X K a ta ma) (hb : ME X K b tb' mb') : ME X K (.BinOp a .BitAnd b pos) (tOp rOdd ta tb') (mBin fAnd1 ma mb') := by
  obtain rfl := ha.hK
  exact me_bin opS_odd op_odd ha hb
end
inductive Pt where
  | n (i : Nat)
  | t (is : List Nat)
def vsPt : Pt → List Nat
  | .n i => [i]
  | .t is => is
def gPt (K : PySem.W.Frag) : Pt → TG
  | .n i => gName i
  | .t is => gTL K is.length (gNames is)
def mgPt (kp : Nat → Bool) : Pt → MG
  | .n i => mgN kp i
  | .t is => mgL kp is
def gPts (K : PySem.W.Frag) : List Pt → TGs
  | [] => gNil
  | p :: r => gCons (gPt K p) (gPts K r)
def mgPts (kp : Nat → Bool) : List Pt → List D → List Sl → Option (List Sl)
  | [], [], ρ => some ρ
  | p :: r, d :: ds, ρ => match mgPt kp p d ρ with
    | none => none
    | some ρ1 => mgPts kp r ds ρ1
  | _, _, _ => none
def mgPL (kp : Nat → Bool) (ps : List Pt) : MG := fun d ρ => match d with
  | .tuple ds => mgPts kp ps ds ρ
  | .list ds => mgPts kp ps ds ρ
  | _ => none
section
variable {K : PySem.W.Frag} {X : Cx} {kp : Nat → Bool} {pos : Pos}
theorem denG_pt : ∀ p : Pt, DenG K kp (vsPt p) (gPt K p) (mgPt kp p)
  | .n i => denG_name
  | .t is => denG_tl
theorem den_gPts : ∀ (ps : List Pt) (ds : List D) (G F : Hp) (T : List Ent) (ρ : List Sl) (σ : L2.St) (H : Hp) (xs : List V) (ρ' : List Sl) (Q : L2.St → Hp → Prop), Rel K G F T ρ σ H → RpA K G xs ds → mgPts kp ps ds ρ = some ρ' →
    (∀ σ', Kept kp σ σ' → (∀ ws, (∀ i ∈ ps.flatMap vsPt, i ∈ ws) → wipe σ' ws = wipe σ ws) → Rel K G F T ρ' σ' H → Q σ' H) → gPts K ps xs σ H Q
  | [], ds, G, F, T, ρ, σ, H, xs, ρ', Q, R, ha, h, q => by
    cases ds with
    | nil =>
      cases ha
      cases h
      exact ⟨rfl, q σ (Kept.refl kp σ) (fun _ _ => rfl) R⟩
    | cons _ _ => cases h
  | p :: ps, ds, G, F, T, ρ, σ, H, xs, ρ', Q, R, ha, h, q => by
    cases ds with
    | nil => cases h
    | cons d ds =>
      cases ha with
      | cons hd ht =>
        rename_i v vs
        unfold mgPts at h
        split at h
        · cases h
        · rename_i ρ1 e1
          refine ⟨v, vs, rfl, ?_⟩
          refine denG_pt p G F T ρ σ H d v ρ1 _ (R.pushV hd) e1 fun σ1 k1 hw1 R1 => ?_
          refine den_gPts ps ds G F T ρ1 σ1 H vs ρ' _ R1 ht h fun σ' k hw R' => ?_
          refine q σ' (k1.trans k) (fun ws hi => ?_) R'
          rw [hw ws fun j hj => hi j (by rw [List.flatMap_cons]; exact List.mem_append_right _ hj)]
          exact hw1 ws fun j hj => hi j (by rw [List.flatMap_cons]; exact List.mem_append_left _ hj)
theorem mgPts_len : ∀ {ps : List Pt} {ds : List D} {ρ ρ' : List Sl}, mgPts kp ps ds ρ = some ρ' → ds.length = ps.length
  | [], [], _, _, _ => rfl
  | [], _ :: _, _, _, h => by cases h
  | _ :: _, [], _, _, h => by cases h
  | p :: ps, d :: ds, ρ, ρ', h => by
    unfold mgPts at h
    split at h
    · cases h
    · exact congrArg (· + 1) (mgPts_len h)
theorem denG_pl {ps : List Pt} : DenG K kp (ps.flatMap vsPt) (gTL K ps.length (gPts K ps)) (mgPL kp ps) := by
  intro G F T ρ σ H d v ρ' Q R h q
  unfold mgPL at h
  split at h
  · obtain ⟨a, xs, ev, s1, r1⟩ := tup_of R.l.eg R.fst
    exact .inl ⟨a, xs, ev, s1, by rw [r1.len]; exact mgPts_len h, den_gPts ps _ G F T ρ σ H xs ρ' Q R.drop r1 h q⟩
  · obtain ⟨a, xs, ev, s1, r1⟩ := lst_of (s := .val (.list _)) R.l.eg rfl R.fst
    exact .inr ⟨a, xs, ev, s1, by rw [r1.len]; exact mgPts_len h, den_gPts ps _ G F T ρ σ H xs ρ' Q R.drop r1 h q⟩
  · cases h
theorem mg_pl {es : List Expr} {k : Nat} {ps : List Pt} (hc : X.calm = true) (h : PGs X es (gPts X.K ps)) (h1 : (assignEach es X.env).length = ps.length := by rfl) (h2 : (assignEach es X.env).findIdx? (·.1) = none := by rfl) (hK : X.K = K := by rfl) : MGt X K kp (ps.flatMap vsPt) (.Tuple es k pos) (gTL K ps.length (gPts K ps)) (mgPL kp ps) := by
  obtain rfl := hK
  exact ⟨rfl, PG.or (pg_tup hc h h1 h2) (pg_unl hc h h1 h2), denG_pl⟩
theorem pgp_nil : PGs X [] (gPts X.K []) := pgs_nil
theorem pgp_n (i : Nat) {x : Str} {es : List Expr} {ps : List Pt} (h2 : PGs X es (gPts X.K ps)) (hN : X.N.Nodup) (hi : X.N[i]? = some x := by rfl) (hx : Loc X.env.scope x := by first | exact Or.inl rfl | exact Or.inr rfl) (hf : X.fn x = true ∨ X.env.scope.names.lookup x = some .local := by first | exact .inl rfl | exact .inr rfl)
    (hs : (assignEach (.Name x pos :: es) X.env).map (·.2) = assign (.Name x pos) X.env :: (assignEach es X.env).map (·.2) := by rfl) : PGs X (.Name x pos :: es) (gPts X.K (.n i :: ps)) := pgs_cons (pg_name hN hi hx hf) h2 hs
theorem pgp_t (is : List Nat) {k : Nat} {es fs : List Expr} {ps : List Pt} (hc : X.calm = true) (h1 : PGs X fs (gNames is)) (h2 : PGs X es (gPts X.K ps)) (h3 : (assignEach fs X.env).length = is.length := by rfl) (h4 : (assignEach fs X.env).findIdx? (·.1) = none := by rfl)
    (hs : (assignEach (.Tuple fs k pos :: es) X.env).map (·.2) = assign (.Tuple fs k pos) X.env :: (assignEach es X.env).map (·.2) := by rfl) : PGs X (.Tuple fs k pos :: es) (gPts X.K (.t is :: ps)) := pgs_cons (PG.or (pg_tup hc h1 h3 h4) (pg_unl hc h1 h3 h4)) h2 hs
end
def miRevR1 (a : MX) : MI := fun ρ => match a ρ with
  | some (.val (.int n), ρ1) => if n < 2 ^ 62 ∧ -(2 ^ 62) ≤ n then some ((rangeD 0 n.toNat).reverse, ρ1) else none
  | _ => none
section
variable {K : PySem.W.Frag} {X : Cx} {G F H : Hp} {T : List Ent} {ρ : List Sl} {σ : L2.St} {tg e : Expr} {te : TE} {me : MX} {ds : List D}
theorem rev_at {α : Type} {xs : List α} {i : Nat} {x : α} (h : xs.reverse[i]? = some x) : i < xs.length ∧ xs[xs.length - 1 - i]? = some x := by
  have hi : i < xs.length := by
    have := (List.getElem?_eq_some_iff.mp h).1
    simpa using this
  refine ⟨hi, ?_⟩
  rw [List.getElem?_reverse hi] at h
  exact h
theorem walks_revR {n : Nat} {lo : Int} (hlo : lo = (n : Int) - 1) : Walks K (Itc lo (-1) n) G (rangeD 0 n).reverse := by
  intro G1 F T ρ σ H e1 R
  refine ⟨by show n ≤ (rangeD 0 n).reverse.length; simp [rangeD], fun i d hd => ?_⟩
  obtain ⟨hi, hd⟩ := rev_at hd
  have hl : (rangeD 0 n).length = n := by simp [rangeD]
  rw [hl] at hi hd
  have ed : d = .int (lo + (i : Int) * (-1)) := by
    have hlt : n - 1 - i < n := by omega
    unfold rangeD at hd
    rw [List.getElem?_map, List.getElem?_range hlt] at hd
    have hd := (Option.some.inj hd).symm
    rw [hd]
    show PyData.int (0 + ((n - 1 - i : Nat) : Int)) = PyData.int (lo + (i : Int) * (-1))
    congr 1
    omega
  refine ⟨hi, fun x H' hy => ?_⟩
  obtain ⟨rfl, rfl⟩ := hy
  subst ed
  exact ⟨G1, Ex.refl G1, R.pushV (.int _)⟩
theorem mi_revR1 {p pos p2 pos2 : Pos} (hg : Gl X "reversed") (hm : X.mg "reversed" = none) (hg2 : Gl X "range") (hm2 : X.mg "range" = none) (h1 : ME X K e te me) (hs : starEach [e] X.env = (false, eval e X.env) :: starEach [] X.env := by rfl)
    (hs1 : starEach [.Call (.Name "range" p2) [e] [] pos2] X.env = (false, eval (.Call (.Name "range" p2) [e] [] pos2) X.env) :: starEach [] X.env := by rfl) : MIt X K tg (.Call (.Name "reversed" p) [.Call (.Name "range" p2) [e] [] pos2] [] pos) (iRevR (tRg1 te)) (miRevR1 me) := by
  obtain rfl := h1.hK
  exact ⟨rfl, pi_revR hg hm (prg_1 hg2 hm2 h1.pe hs) hs1, by
    intro G F T ρ σ H ds ρ' P R h q
    unfold miRevR1 at h
    split at h
    · rename_i n ρ1 e1
      split at h
      · rename_i hc
        cases h
        refine h1.dn G F T ρ σ H _ ρ' _ R e1 fun v G1 H1 ex R1 => ?_
        have hv := int_of R1.fst
        subst hv
        refine ⟨n, rfl, by decide, by decide, hc.2, hc.1, q _ G1 H1 ex R1.drop ?_⟩
        rw [Int.sub_zero]
        by_cases hn : 0 ≤ n
        · exact walks_revR (by omega)
        · have e0 : n.toNat = 0 := by omega
          rw [e0]
          intro G2 F2 T2 ρ2 σ2 H2 e2 R2
          exact ⟨Nat.le_refl _, fun i d hd => by simp [rangeD] at hd⟩
      · cases h
    · cases h⟩
end
end Dn
namespace Dn
open PySem PySem.Spec PyProof.Rows L2
open Evl (Ex)
mutual
def flt : D → Bool
  | .none => true
  | .bool _ => true
  | .int _ => true
  | .str _ => true
  | .tuple ds => fltA ds
  | .list _ => false
  | .dict _ => false
def fltA : List D → Bool
  | [] => true
  | d :: ds => flt d && fltA ds
end
open Classical in
noncomputable def less (P : Addr → Prop) (G : Hp) : Hp := fun a => if P a then none else G a
theorem less_in {P : Addr → Prop} {G : Hp} {a : Addr} (h : P a) : less P G a = none := by unfold less; rw [if_pos h]
theorem less_out {P : Addr → Prop} {G : Hp} {a : Addr} (h : ¬ P a) : less P G a = G a := by unfold less; rw [if_neg h]
section
variable {K : PySem.W.Frag} {P : Addr → Prop} {G F H : Hp}
mutual
theorem flt_rp (hP : ∀ a, P a → ∃ vs, G a = some (.lst vs)) : ∀ (d : D) (v : V), flt d = true → Rp K G v d → Rp K (less P G) v d
  | .none, _, _, h => by cases h; exact .non
  | .bool b, _, _, h => by cases h; exact .bl b
  | .int i, _, _, h => by cases h; exact .int i
  | .str x, _, _, h => by cases h; exact .str x
  | .list ds, _, c, _ => by cases c
  | .tuple ds, _, c, h => by
    cases h with
    | @tup a xs _ hs ha =>
      have na : ¬ P a := fun hp => by
        obtain ⟨vs, e⟩ := hP a hp
        rw [e] at hs
        cases hs
      exact .tup (by rw [less_out na]; exact hs) (fltA_rp hP ds _ c ha)
    | tupK hk => exact .tupK hk
  | .dict _, _, c, _ => by cases c
theorem fltA_rp (hP : ∀ a, P a → ∃ vs, G a = some (.lst vs)) : ∀ (ds : List D) (vs : List V), fltA ds = true → RpA K G vs ds → RpA K (less P G) vs ds
  | [], _, _, h => by cases h; exact .nil
  | d :: ds, _, c, h => by
    cases h with
    | cons h1 h2 =>
      have c' : (flt d && fltA ds) = true := c
      have c2 := Bool.and_eq_true_iff.mp c'
      exact .cons (flt_rp hP d _ c2.1 h1) (fltA_rp hP ds _ c2.2 h2)
end
open Classical in
noncomputable def more (P : Addr → Prop) (G H : Hp) : Hp := fun a => if P a then H a else G a
theorem RelL.lend {E L Es : List Ent} (R : RelL K G F (E ++ L) H) (hP : ∀ p, P p → ∃ ds, ((.own ds, some (.ref p)) : Ent) ∈ L)
    (hEs : ∀ e ∈ Es, e ∈ E ∨ ∃ ds p, P p ∧ ((.own ds, some (.ref p)) : Ent) ∈ L ∧ e = (.val (.list ds), some (.ref p))) (hap : Es.Pairwise apart) :
    ∃ G', Ex G G' ∧ RelL K G' (less P (hold F L H)) Es H ∧ ∀ (G2 H2 : Hp) (z : D) (v : V) (A : List Ent), Ex G' G2 → RelL K G2 (less P (hold F L H)) ((.val z, some v) :: A) H2 → flt z = true →
      ∃ G4, Ex G G4 ∧ RelL K G4 F ((.val z, some v) :: L) H2 := by
  have RL : RelL K G F L H := R.sub (List.sublist_append_right _ _)
  have hown : ∀ p, P p → ∃ vs, H p = some (.lst vs) ∧ G p = none ∧ F p = none := fun p hp => by
    obtain ⟨ds, h⟩ := hP p hp
    exact RL.owned h own_own
  have ex1 : Ex G (more P G H) := fun a o h => by
    have na : ¬ P a := fun hp => by
      obtain ⟨_, _, g, _⟩ := hown a hp
      rw [g] at h
      cases h
    unfold more
    rw [if_neg na]
    exact h
  have hm : ∀ p, P p → more P G H p = H p := fun p hp => by unfold more; rw [if_pos hp]
  have hmo : ∀ p, ¬ P p → more P G H p = G p := fun p hp => by unfold more; rw [if_neg hp]
  have hF' : ∀ a o, F a = some o → less P (hold F L H) a = some o := fun a o h => by
    have na : ¬ P a := fun hp => by
      obtain ⟨_, _, _, g⟩ := hown a hp
      rw [g] at h
      cases h
    rw [less_out na]
    exact hold_sub RL a o h
  refine ⟨more P G H, ex1, ⟨fun a o h => ?_, fun a o h => ?_, fun a o h => ?_, fun e he => ?_, hap⟩, ?_⟩
  · by_cases c : P a
    · rw [hm a c] at h; exact h
    · rw [hmo a c] at h; exact R.eg a o h
  · by_cases c : P a
    · rw [less_in c] at h; cases h
    · rw [less_out c] at h
      by_cases c2 : ∃ e ∈ L, Own e a
      · obtain ⟨e, h1, h2⟩ := c2
        rw [hold_in h1 h2] at h
        exact h
      · rw [hold_out c2] at h
        exact R.ef a o h
  · by_cases c : P a
    · rw [less_in c] at h; cases h
    · rw [less_out c] at h
      rw [hmo a c]
      by_cases c2 : ∃ e ∈ L, Own e a
      · obtain ⟨e, h1, h2⟩ := c2
        obtain ⟨_, _, g, _⟩ := RL.owned h1 h2
        exact g
      · rw [hold_out c2] at h
        exact R.gf a o h
  · rcases hEs e he with h | ⟨ds, p, h1, h2, rfl⟩
    · have g := R.ok e (List.mem_append_left _ h)
      obtain ⟨s, ov⟩ := e
      cases s with
      | un => exact True.intro
      | ex c => exact g.imp fun v w => ⟨w.1, ex1 _ _ w.2⟩
      | val d => exact g.imp fun v w => ⟨w.1, w.2.up ex1⟩
      | own es =>
        obtain ⟨q, ws, g1, g2, g3, g4, g5⟩ := g
        subst g1
        have hno : ¬ ∃ e' ∈ L, Own e' q := fun ⟨e', m1, m2⟩ => (List.pairwise_append.mp R.ap).2.2 _ h e' m1 q own_own m2
        have nq : ¬ P q := fun hp => by
          obtain ⟨ds, hd⟩ := hP q hp
          exact hno ⟨_, hd, own_own⟩
        exact ⟨q, ws, rfl, g2, by rw [hmo q nq]; exact g3, by rw [less_out nq, hold_out hno]; exact g4, g5.up ex1⟩
    · obtain ⟨p', vs, c1, c2, c3, c4, c5⟩ := RL.ok _ h2
      obtain rfl := V.ref.inj (Option.some.inj c1)
      exact ⟨_, rfl, .lst (SqL.of (by rw [hm p h1]; exact c2)) (c5.up ex1)⟩
  · intro G2 H2 z v A ex2 R2 hz
    have g2 : ∀ p, P p → ∃ vs, H p = some (.lst vs) ∧ G2 p = some (.lst vs) := fun p hp => by
      obtain ⟨vs, h1, _⟩ := hown p hp
      exact ⟨vs, h1, ex2 p _ (by rw [hm p hp]; exact h1)⟩
    have ex4 : Ex G (less P G2) := fun a o h => by
      have na : ¬ P a := fun hp => by
        obtain ⟨_, _, g, _⟩ := hown a hp
        rw [g] at h
        cases h
      rw [less_out na]
      exact ex2 a o (ex1 a o h)
    refine ⟨less P G2, ex4, ⟨fun a o h => ?_, fun a o h => R2.ef a o (hF' a o h), fun a o h => ?_, fun e he => ?_, List.Pairwise.cons (fun _ _ => apart_val) RL.ap⟩⟩
    · by_cases c : P a
      · rw [less_in c] at h; cases h
      · rw [less_out c] at h; exact R2.eg a o h
    · by_cases c : P a
      · exact less_in c
      · rw [less_out c]; exact R2.gf a o (hF' a o h)
    · rcases List.mem_cons.mp he with rfl | he
      · obtain ⟨v', e1, e2⟩ := R2.ok _ List.mem_cons_self
        exact ⟨v', e1, flt_rp (fun a hp => let ⟨vs, _, h⟩ := g2 a hp; ⟨vs, h⟩) _ _ hz e2⟩
      · have g := RL.ok e he
        obtain ⟨s, ov⟩ := e
        cases s with
        | un => exact True.intro
        | ex c => exact g.imp fun v w => ⟨w.1, ex4 _ _ w.2⟩
        | val d => exact g.imp fun v w => ⟨w.1, w.2.up ex4⟩
        | own es =>
          obtain ⟨q, ws, h1, h2, h3, h4, h5⟩ := g
          subst h1
          by_cases c : P q
          · obtain ⟨vs, k1, k2⟩ := g2 q c
            rw [h2] at k1
            cases k1
            exact ⟨q, ws, rfl, R2.eg q _ k2, less_in c, h4, h5.up ex4⟩
          · have hh : less P (hold F L H) q = some (.lst ws) := by rw [less_out c, hold_in he own_own]; exact h2
            exact ⟨q, ws, rfl, R2.ef q _ hh, by rw [less_out c]; exact R2.gf q _ hh, h4, h5.up ex4⟩
end
abbrev MAN := List Sl → Option (List (Sl ⊕ Nat) × List Sl)
def mNilN : MAN := fun ρ => some ([], ρ)
def mConsO (i : Nat) (b : MAN) : MAN := fun ρ => match ρ[i]? with
  | some (.own _) => match b ρ with
    | none => none
    | some (xs, ρ2) => some (.inr i :: xs, ρ2)
  | _ => none
def argsN (ρ : List Sl) : List (Sl ⊕ Nat) → Option (List Sl)
  | [] => some []
  | .inl s :: r => (argsN ρ r).map (s :: ·)
  | .inr i :: r => match ρ[i]? with
    | some (.own ds) => (argsN ρ r).map (.val (.list ds) :: ·)
    | _ => none
def mCallN (mf : MF) (a : MAN) : MX := fun ρ => match a ρ with
  | none => none
  | some (xs, ρ1) => match argsN ρ1 xs with
    | none => none
    | some as => match mf as with
      | some (.val z, _) => if flt z = true then some (.val z, ρ1) else none
      | _ => none
def toSl : Sl ⊕ Nat → Sl
  | .inl s => s
  | .inr _ => .un
def entsN (xs : List (Sl ⊕ Nat)) (vs : List V) : List Ent := ents (xs.map toSl) vs
def TellsN (σ : L2.St) : List (Sl ⊕ Nat) → List V → Prop
  | [], [] => True
  | .inl _ :: r, _ :: vs => TellsN σ r vs
  | .inr i :: r, v :: vs => (∃ p, v = .ref p ∧ σ[i]? = some (some (.ref p))) ∧ TellsN σ r vs
  | _, _ => False
def DenN (K : PySem.W.Frag) (t : TA) (m : MAN) : Prop := ∀ (G F : Hp) (T : List Ent) (ρ : List Sl) (σ : L2.St) (H : Hp) (xs : List (Sl ⊕ Nat)) (ρ' : List Sl) (Q : List V → Hp → Prop), Rel K G F T ρ σ H → m ρ = some (xs, ρ') →
  (∀ vs G' H', Ex G G' → xs.length = vs.length → Rel K G' F (entsN xs vs ++ T) ρ' σ H' → TellsN σ xs vs → Q vs H') → t σ H Q
structure MEN (X : Cx) (K : PySem.W.Frag) (es : List Expr) (t : TA) (m : MAN) : Prop where
  hK : X.K = K
  pe : PA X es t
  dn : DenN K t m
section
variable {K : PySem.W.Frag} {X : Cx} {e : Expr} {es : List Expr} {te : TE} {me : MX} {ta : TA} {ma : MAN} {mf : MF} {G F H : Hp} {T : List Ent} {ρ : List Sl} {σ : L2.St}
theorem men_nil (hK : X.K = K := by rfl) : MEN X K [] tNil mNilN := by
  obtain rfl := hK
  exact ⟨rfl, pa_nil, by
    intro G F T ρ σ H rs ρ' Q R h q
    cases h
    exact q [] G H (Ex.refl G) rfl R True.intro⟩
theorem men_o (i : Nat) {x : Str} {p : Pos} (hr : MEN X K es ta ma) (hN : X.N[i]? = some x := by rfl) (hv : Vis X.env.scope x := by first | exact Or.inl rfl | exact Or.inr (Or.inl rfl) | exact Or.inr (Or.inr rfl)) (hd : (x == ("__debug__" : Str)) = false := by decide)
    (hcd : (x == ("__classdict__" : Str)) = false := by decide) (hs : starEach (.Name x p :: es) X.env = (false, eval (.Name x p) X.env) :: starEach es X.env := by rfl) : MEN X K (.Name x p :: es) (tCons (tVar i) ta) (mConsO i ma) := by
  obtain rfl := hr.hK
  exact ⟨rfl, pa_cons (pe_var hN hv hd hcd) hr.pe hs, by
    intro G F T ρ σ H rs ρ' Q R h q
    unfold mConsO at h
    split at h
    · rename_i ds hds
      split at h
      · cases h
      · rename_i xs ρ2 e2
        cases h
        obtain ⟨a, _, ha, _, _⟩ := R.ownVar hds
        refine ⟨_, ha, ?_⟩
        refine hr.dn G F T ρ σ H xs ρ' _ R e2 fun vs G2 H2 e3 hl R2 tl => ?_
        refine q (V.ref a :: vs) G2 H2 e3 (congrArg (· + 1) hl) ⟨R2.len, ?_⟩ ⟨⟨a, rfl, ha⟩, tl⟩
        exact R2.l.pushUn (ov := some (V.ref a))
    · cases h⟩
theorem argsN_len : ∀ {xs : List (Sl ⊕ Nat)} {as : List Sl}, argsN ρ xs = some as → as.length = xs.length
  | [], _, h => by cases h; rfl
  | .inl s :: r, as, h => by
    unfold argsN at h
    cases e : argsN ρ r with
    | none => rw [e] at h; cases h
    | some bs => rw [e] at h; cases h; exact congrArg (· + 1) (argsN_len e)
  | .inr i :: r, as, h => by
    unfold argsN at h
    split at h
    · cases e : argsN ρ r with
      | none => rw [e] at h; cases h
      | some bs => rw [e] at h; cases h; exact congrArg (· + 1) (argsN_len e)
    · cases h
def lentN (σ : L2.St) (xs : List (Sl ⊕ Nat)) (p : Addr) : Prop := ∃ i, Sum.inr i ∈ xs ∧ σ[i]? = some (some (.ref p))
theorem argsN_ok (len : ρ.length = σ.length) : ∀ {xs : List (Sl ⊕ Nat)} {as : List Sl} {vs : List V}, argsN ρ xs = some as → TellsN σ xs vs → ∀ e ∈ ents as vs, e ∈ entsN xs vs ∨ ∃ ds p, lentN σ xs p ∧ ((.own ds, some (.ref p)) : Ent) ∈ ρ.zip σ ∧ e = (.val (.list ds), some (.ref p))
  | [], _, _, h, _, e, he => by cases h; cases he
  | .inl s :: r, as, [], h, tl, e, he => by cases tl
  | .inr s :: r, as, [], h, tl, e, he => by cases tl
  | .inl s :: r, as, v :: vs, h, tl, e, he => by
    unfold argsN at h
    cases e1 : argsN ρ r with
    | none => rw [e1] at h; cases h
    | some bs =>
      rw [e1] at h
      cases h
      rcases List.mem_cons.mp he with rfl | he
      · exact .inl List.mem_cons_self
      · rcases argsN_ok len e1 tl e he with h | ⟨ds, p, ⟨i, h1, h2⟩, h3⟩
        · exact .inl (List.mem_cons_of_mem _ h)
        · exact .inr ⟨ds, p, ⟨i, List.mem_cons_of_mem _ h1, h2⟩, h3⟩
  | .inr i :: r, as, v :: vs, h, tl, e, he => by
    unfold argsN at h
    obtain ⟨⟨p, rfl, hp⟩, tl⟩ := tl
    split at h
    · rename_i ds hds
      cases e1 : argsN ρ r with
      | none => rw [e1] at h; cases h
      | some bs =>
        rw [e1] at h
        cases h
        rcases List.mem_cons.mp he with rfl | he
        · refine .inr ⟨ds, p, ⟨i, List.mem_cons_self, hp⟩, ?_, rfl⟩
          obtain ⟨ov, h1, h2⟩ := zip_at len hds
          rw [hp] at h1
          cases h1
          exact List.mem_of_getElem? h2
        · rcases argsN_ok len e1 tl e he with h | ⟨ds, p, ⟨i, h1, h2⟩, h3⟩
          · exact .inl (List.mem_cons_of_mem _ h)
          · exact .inr ⟨ds, p, ⟨i, List.mem_cons_of_mem _ h1, h2⟩, h3⟩
    · cases h
theorem argsN_own : ∀ {xs : List (Sl ⊕ Nat)} {as : List Sl} {vs : List V}, argsN ρ xs = some as → (entsN xs vs).Pairwise apart → (ents as vs).Pairwise apart ∧ ∀ e ∈ ents as vs, (∃ p, Own e p) → e ∈ entsN xs vs
  | [], _, _, h, _ => by cases h; exact ⟨List.Pairwise.nil, fun e he => by cases he⟩
  | x :: r, as, [], h, _ => by
    have : ents as [] = [] := by unfold ents; simp
    rw [this]
    exact ⟨List.Pairwise.nil, fun e he => by cases he⟩
  | .inl s :: r, as, v :: vs, h, hp => by
    unfold argsN at h
    cases e1 : argsN ρ r with
    | none => rw [e1] at h; cases h
    | some bs =>
      rw [e1] at h
      cases h
      have hp' : ((s, some v) :: entsN r vs).Pairwise apart := hp
      have hc := List.pairwise_cons.mp hp'
      obtain ⟨i1, i2⟩ := argsN_own (vs := vs) e1 hc.2
      refine ⟨List.Pairwise.cons (fun e he p ho ho' => ?_) i1, fun e he ho => ?_⟩
      · exact hc.1 e (i2 e he ⟨p, ho'⟩) p ho ho'
      · rcases List.mem_cons.mp he with rfl | he
        · exact List.mem_cons_self
        · exact List.mem_cons_of_mem _ (i2 e he ho)
  | .inr i :: r, as, v :: vs, h, hp => by
    unfold argsN at h
    split at h
    · cases e1 : argsN ρ r with
      | none => rw [e1] at h; cases h
      | some bs =>
        rw [e1] at h
        cases h
        have hp' : ((.un, some v) :: entsN r vs).Pairwise apart := hp
        have hc := List.pairwise_cons.mp hp'
        obtain ⟨i1, i2⟩ := argsN_own (vs := vs) e1 hc.2
        refine ⟨List.Pairwise.cons (fun e he => apart_val) i1, fun e he ho => ?_⟩
        rcases List.mem_cons.mp he with rfl | he
        · obtain ⟨p, ⟨ds, z⟩, _⟩ := ho
          cases z
        · exact List.mem_cons_of_mem _ (i2 e he ho)
    · cases h
theorem tells_at : ∀ {xs : List (Sl ⊕ Nat)} {as : List Sl} {vs : List V}, argsN ρ xs = some as → ρ.length = σ.length → ∀ p, lentN σ xs p → ∃ ds, ((.own ds, some (.ref p)) : Ent) ∈ ρ.zip σ
  | [], _, _, h, len, p, hl => by
    obtain ⟨i, h1, _⟩ := hl
    cases h1
  | .inl s :: r, as, vs, h, len, p, hl => by
    unfold argsN at h
    cases e1 : argsN ρ r with
    | none => rw [e1] at h; cases h
    | some bs =>
      obtain ⟨i, h1, h2⟩ := hl
      rcases List.mem_cons.mp h1 with h1 | h1
      · cases h1
      · exact tells_at (vs := vs) e1 len p ⟨i, h1, h2⟩
  | .inr j :: r, as, vs, h, len, p, hl => by
    unfold argsN at h
    split at h
    · rename_i ds hds
      cases e1 : argsN ρ r with
      | none => rw [e1] at h; cases h
      | some bs =>
        obtain ⟨i, h1, h2⟩ := hl
        rcases List.mem_cons.mp h1 with h1 | h1
        · cases h1
          obtain ⟨ov, k1, k2⟩ := zip_at len hds
          rw [h2] at k1
          cases k1
          exact ⟨ds, List.mem_of_getElem? k2⟩
        · exact tells_at (vs := vs) e1 len p ⟨i, h1, h2⟩
    · cases h
theorem den_callN {E : XK} (ha : DenN K ta ma) : Den K (tCall (spD K mf) [] E ta) (mCallN mf ma) := by
  intro G F T ρ σ H z ρ' Q R h q
  unfold mCallN at h
  split at h
  · cases h
  · rename_i xs ρ1 e1
    split at h
    · cases h
    · rename_i as e2
      split at h
      · rename_i z0 args' e3
        split at h
        · rename_i hz
          cases h
          refine ha G F T ρ σ H xs ρ' _ R e1 fun vs G1 H1 ex1 l1 R1 tl => ?_
          have RA : RelL K G1 F (entsN xs vs ++ (T ++ ρ'.zip σ)) H1 := by
            have := R1.l
            rw [List.append_assoc] at this
            exact this
          obtain ⟨o1, o2⟩ := argsN_own (vs := vs) e2 (List.pairwise_append.mp RA.ap).1
          obtain ⟨G2, ex2, R2, back⟩ := RA.lend (P := lentN σ xs) (Es := ents as vs) (fun p hp => by
            obtain ⟨ds, h⟩ := tells_at (vs := vs) e2 R1.len p hp
            exact ⟨ds, List.mem_append_right _ h⟩) (fun e he => by
            rcases argsN_ok R1.len e2 tl e he with h | ⟨ds, p, h1, h2, h3⟩
            · exact .inl h
            · exact .inr ⟨ds, p, h1, List.mem_append_right _ h2, h3⟩) o1
          show spD K mf (vs ++ []) H1 Q E
          rw [List.append_nil]
          refine ⟨G2, _, as, .val z0, args', ⟨by rw [argsN_len e2, l1, List.length_map], R2⟩, e3, fun v G3 H3 ex3 R3 => ?_⟩
          obtain ⟨G4, ex4, R4⟩ := back G3 H3 z0 v _ ex3 R3.l hz
          exact q v G4 H3 (ex1.trans ex4) ⟨R1.len, R4⟩
        · cases h
      · cases h
theorem me_callN {f : Addr} {fd : FuncData} {ps : List Str} {k : Nat} {x : Str} {p pos : Pos} (Fk : FnOk X.prog X.w K X.mg X.base CX0 k f fd ps (spD K mf)) (hr : Room k X.A) (hg : Gl X x) (hm : X.mg x = some (.ref f)) (hk : PySem.W.keepIn K (.ref f) = true) (hb : Binds K fd ps [])
    (ha : MEN X K (e :: es) ta ma) (hdb : (x == ("__debug__" : Str)) = false := by decide) (he : starEach (e :: es) X.env = (false, eval e X.env) :: starEach es X.env := by rfl) (hpl : (backTo pos (starEach es X.env)).any (·.1) = false := by rfl) :
    ME X K (.Call (.Name x p) (e :: es) [] pos) (tCall (spD K mf) [] E0 ta) (mCallN mf ma) := by
  obtain rfl := ha.hK
  exact ⟨rfl, pe_call Fk hr hg hm hk hb .nil pass0 ha.pe hdb he hpl, den_callN ha.dn⟩
end
end Dn
namespace Dn
open PySem PySem.Spec PyProof.Rows L2
open Evl (Ex)
section
variable {X : Cx} {K : PySem.W.Frag} {e : Expr} {te : TE} {me : MX} {d : Addr} {x : Str} {pos p : Pos} {G F H : Hp}
theorem me_tupK {a : Addr} {i j : Int} (hg : Gl X x) (hm : X.mg x = some (.ref a)) (hT : TupK K a i j) (hK : X.K = K := by rfl) (hd : (x == ("__debug__" : Str)) = false := by decide) : ME X K (.Name x p) (tC (.ref a)) (mC (.tuple [.int i, .int j])) := by
  obtain rfl := hK
  exact ⟨rfl, pe_glob hg hm rfl hd, den_c fun _ => .tupK hT⟩
abbrev PP := (Int × Int) × (Int × Int)
def tkh (i j : Int) : Int := reduceHash (Builtin.Tuple.tupleHashOf [hashInt i, hashInt j])
def KeyK (K : PySem.W.Frag) (a : Addr) (i j : Int) : Prop :=
  ∃ (o : Obj) (its : Array Value) (n : Nat), K.lookup a = some o ∧ o.cls = .type "tuple" ∧ o.data = .seq its n ∧ Vals [V.int i, V.int j] its.toList
def KRows (K : PySem.W.Frag) : List DictEntry → List PP → Prop
  | [], [] => True
  | e :: es, q :: qs => (∃ a b, e = ⟨tkh q.1.1 q.1.2, .ref a, .ref b⟩ ∧ KeyK K a q.1.1 q.1.2 ∧ TupK K b q.2.1 q.2.2) ∧ KRows K es qs
  | _, _ => False
def KTT (K : PySem.W.Frag) (d : Addr) (kvs : List PP) : Prop :=
  (d == sysModules) = false ∧ (kvs.map (·.1)).Nodup ∧ ∃ es n, K.lookup d = some ⟨.type "dict", none, .dict es n, #[]⟩ ∧ KRows K es.toList kvs
def fKTT (kvs : List PP) : Sl → Option Sl
  | .val (.tuple [.int i, .int j]) => match kvs.find? fun q => q.1 == (i, j) with
    | some q => some (.val (.tuple [.int q.2.1, .int q.2.2]))
    | none => none
  | _ => none
def rKTT (K : PySem.W.Frag) (d : Addr) (kvs : List PP) : R2 := fun x y H Q => ∃ b i j q, x = .ref d ∧ y = .ref b ∧ SqT K H b [.int i, .int j] ∧ (kvs.find? fun q => q.1 == (i, j)) = some q ∧ ∀ b', TupK K b' q.2.1 q.2.2 → Q (.ref b') H
theorem rows_xs {P : Program} {w : World} {h : Heap} (hK : K.In h) : ∀ {es : List DictEntry} {kvs : List PP}, KRows K es kvs → ∃ xs : List (List Int × Addr × Value), es = xs.map (entryOfKey (tupleKind (PySem.intKind P w))) ∧ (∀ x ∈ xs, (tupleKind (PySem.intKind P w)).is h x.1 x.2.1) ∧
    xs.map (·.1) = kvs.map (fun q => [q.1.1, q.1.2]) ∧ ∀ (i j : Int) (q : PP), (kvs.find? fun q => q.1 == (i, j)) = some q → ∃ y b, atKey xs [i, j] = some y ∧ y.2 = .ref b ∧ TupK K b q.2.1 q.2.2
  | [], [], _ => ⟨[], rfl, fun x hx => by simp at hx, rfl, fun i j q h => by simp at h⟩
  | [], _ :: _, h => by cases h
  | _ :: _, [], h => by cases h
  | e :: es, q :: qs, h => by
    obtain ⟨⟨a, b, rfl, ⟨o, its, n, h1, h2, h3, h4⟩, hT⟩, hr⟩ := h
    obtain ⟨xs, e1, e2, e3, e4⟩ := rows_xs (P := P) (w := w) hK hr
    refine ⟨([q.1.1, q.1.2], a, .ref b) :: xs, by rw [e1]; rfl, fun x hx => ?_, by rw [List.map_cons, e3]; rfl, fun i j q' hf => ?_⟩
    · rcases List.mem_cons.mp hx with rfl | hx
      · refine ⟨o, its, n, hK a o h1, h2, h3, ?_⟩
        cases h4' : its.toList with
        | nil => rw [h4'] at h4; cases h4
        | cons v vs =>
          rw [h4'] at h4
          cases h4 with
          | cons r1 r2 =>
            cases r2 with
            | cons r2 r3 =>
              cases r3
              obtain ⟨t1, rfl⟩ := r1
              obtain ⟨t2, rfl⟩ := r2
              exact .cons (by simp [PySem.intKind, Value.isInt]) (.cons (by simp [PySem.intKind, Value.isInt]) .nil)
      · exact e2 x hx
    · rw [List.find?_cons] at hf
      by_cases c : q.1 = (i, j)
      · have cb : (q.1 == (i, j)) = true := by rw [c]; simp
        rw [cb] at hf
        cases hf
        refine ⟨(a, .ref b), b, ?_, rfl, hT⟩
        rw [c]
        simp [atKey]
      · have cb : (q.1 == (i, j)) = false := by simpa using c
        rw [cb] at hf
        obtain ⟨y, b', f1, f2⟩ := e4 i j q' hf
        refine ⟨y, b', ?_, f2⟩
        have hne : ¬ ([q.1.1, q.1.2] : List Int) = [i, j] := fun z => by
          simp only [List.cons.injEq, and_true] at z
          exact c (Prod.ext z.1 z.2)
        simp only [atKey, List.find?_cons]
        simp [atKey, hne] at f1 ⊢
        exact f1
theorem ix_ktt {kvs : List PP} (D : KTT X.K d kvs) (hu : X.A.units + 1 < cLine) : IxR X (rKTT X.K d kvs) := by
  intro value slice pins s σ H x y v u Q I rx ry h hs
  obtain ⟨b, i, j, q, rfl, rfl, ht, hf, hq⟩ := h
  obtain rfl : v = Value.ref d := rx
  obtain rfl : u = Value.ref b := ry
  obtain ⟨lo, hn, es, n, hl, hr⟩ := D
  obtain ⟨xs, e1, e2, e3, e4⟩ := rows_xs (P := X.prog) (w := X.w) I.kIn hr
  obtain ⟨y, b', f1, f2, f3⟩ := e4 i j q hf
  obtain ⟨its, rv, ⟨o, ho, hc, n', hd⟩, _⟩ := I.tuple ht
  have hkey : (tupleKind (PySem.intKind X.prog X.w)).is s.heap [i, j] b := by
    refine ⟨o, its.toArray, n', ho, hc, hd, ?_⟩
    cases rv with
    | cons r1 r2 =>
      cases r2 with
      | cons r2 r3 =>
        cases r3
        obtain ⟨t1, rfl⟩ := r1
        obtain ⟨t2, rfl⟩ := r2
        exact .cons (by simp [PySem.intKind, Value.isInt]) (.cons (by simp [PySem.intKind, Value.isInt]) .nil)
  have hm : s.heap.DictOfH (tupleKind (PySem.intKind X.prog X.w)) d xs := by
    refine ⟨_, es, n, I.kIn d _ hl, ⟨rfl, rfl, rfl⟩, rfl, e1, e2, ?_⟩
    rw [e3]
    have : (kvs.map fun q => [q.1.1, q.1.2]) = (kvs.map (·.1)).map fun p => [p.1, p.2] := by rw [List.map_map]; rfl
    rw [this]
    refine List.Pairwise.map _ (fun a c hac => ?_) hn
    intro z
    simp only [List.cons.injEq, and_true] at z
    exact hac (Prod.ext z.1 z.2)
  refine tail_any hm.typeIs slot_dict_getitem.lookup (wpAny_getItem_heap (tupleKind_room_in1 hu) hkey hm f1 ?_) hs
  refine ⟨.ref b', H, I.tok _, ?_, hq b' f3⟩
  rw [f2]
  rfl
theorem unS_ktt {kvs : List PP} : UnS K (fun v H Q => rKTT K d kvs (.ref d) v H Q) (fKTT kvs) := by
  intro G F T ρ σ H x z v Q R h q
  unfold fKTT at h
  split at h
  · rename_i i j
    split at h
    · rename_i kv hf
      cases h
      obtain ⟨a, xs, rfl, hs, ha⟩ := tup_of R.l.eg R.fst
      cases ha with
      | cons h1 h2 =>
        cases h1
        cases h2 with
        | cons h2 h3 =>
          cases h2
          cases h3
          exact ⟨a, i, j, kv, rfl, rfl, hs, hf, fun b' hb' => q _ G H (Ex.refl G) (R.drop.pushV (.tupK hb'))⟩
    · cases h
  · cases h
theorem me_ktt {kvs : List PP} (D : KTT K d kvs) (hg : Gl X x) (hm : X.mg x = some (.ref d)) (hu : X.A.units + 1 < cLine) (ha : ME X K e te me) (hp : PlainIx e) (hd : (x == ("__debug__" : Str)) = false := by decide) : ME X K (.Subscript (.Name x p) e pos) (tOp (rKTT K d kvs) (tC (.ref d)) te) (mUn (fKTT kvs) me) := by
  obtain rfl := ha.hK
  exact ⟨rfl, pe_ix (ix_ktt D hu) (pe_glob hg hm rfl hd) ha.pe hp, den_un unS_ktt ha.dn⟩
def KTabI (K : PySem.W.Frag) (w : World) (d : Addr) (kvs : List (Str × Int)) : Prop :=
  ∃ es n, KDict K w d es n ∧ ∀ q ∈ kvs, ∃ t, PySem.W.nsIn K d q.1 = some (some (.int q.2 t))
theorem KTabI.get {kvs : List (Str × Int)} {w : World} {z : Str} {q : Str × Int} (D : KTabI K w d kvs) (h : (kvs.find? fun q => q.1 == z) = some q) : ∃ t, PySem.W.nsIn K d z = some (some (.int q.2 t)) := by
  obtain ⟨es, n, _, h2⟩ := D
  have e := List.find?_some h
  have e2 : q.1 = z := eq_of_beq e
  rw [← e2]
  exact h2 q (List.mem_of_find?_eq_some h)
end
end Dn
namespace Dn
open PySem PySem.Spec PyProof.Rows L2
open Evl (Ex)
section
variable {K : PySem.W.Frag} {X : Cx} {pos : Pos} {a b : Expr} {ta tb : TE} {ma mb : MX}
def fSumT : List Sl → Option Sl
  | [.val (.tuple ds)] => (intsOf ds).map fun ns => .val (.int ns.sum)
  | _ => none
def rSumT (K : PySem.W.Frag) : List V → Hp → VK → Prop := fun vs H Q => ∃ (a : Addr) (ns : List Int), vs = [V.ref a] ∧ SqT K H a (ns.map V.int) ∧ Q (.int ns.sum) H
theorem cr_sumT (hc : X.calm = true) : CallR X (.builtin "sum") (rSumT X.K) := by
  intro pins s σ H vs us Q I r h
  obtain ⟨a, ns, rfl, hs, q⟩ := h
  obtain ⟨its, rv, hl, _⟩ := I.tuple hs
  rw [Vals.ref1 r]
  obtain ⟨xs, e⟩ := rv.ints.allInts.items
  have hn : numsOf (intItems xs).toList = ns := by rw [← e]; exact rv.ints.numsOf
  rw [nums_intItems] at hn
  rw [e] at hl
  refine PySem.W.ktm_sumG (I.ok.hd hc) hl fun h' tk t' hk => ⟨.int _, H, I.kept hk, ⟨_, rfl⟩, ?_⟩
  rw [preSum_eq, List.take_of_length_le (by simp), hn]
  exact q
theorem fnS_sumT : FnS K (rSumT K) fSumT := by
  intro G F T ρ σ H xs z vs Q hl R h q
  unfold fSumT at h
  split at h
  · obtain ⟨v, rfl⟩ := one_of hl rfl
    rename_i ds
    cases hd : intsOf ds with
    | none => rw [hd] at h; cases h
    | some ns =>
      rw [hd] at h
      cases h
      obtain ⟨a, us, rfl, s1, r1⟩ := tup_of R.l.eg R.fst
      have e := intsOf_eq hd
      subst e
      rw [r1.ints] at s1
      exact ⟨a, ns, rfl, s1, q _ G H (Ex.refl G) (R.drop.pushV (.int _))⟩
  · cases h
def fBool1 : List Sl → Option Sl
  | [.val (.int i)] => some (.val (.bool (i != 0)))
  | [.val (.bool k)] => some (.val (.bool k))
  | _ => none
theorem fnS_bool1 : FnS K (fun xs H Q => (∃ i, xs = [V.int i] ∧ Q (.bl (i != 0)) H) ∨ ∃ k, xs = [V.bl k] ∧ Q (.bl k) H) fBool1 := by
  intro G F T ρ σ H xs z vs Q hl R h q
  unfold fBool1 at h
  split at h
  · obtain ⟨v, rfl⟩ := one_of hl rfl
    cases h
    have h1 := int_of R.fst
    subst h1
    exact .inl ⟨_, rfl, q _ G H (Ex.refl G) (R.drop.pushV (.bl _))⟩
  · obtain ⟨v, rfl⟩ := one_of hl rfl
    cases h
    have h1 := bool_of R.fst
    subst h1
    exact .inr ⟨_, rfl, q _ G H (Ex.refl G) (R.drop.pushV (.bl _))⟩
  · cases h
def fInD (neg : Bool) (x y : Sl) : Option Sl := match datOf x, y with
  | some d, .val (.tuple ds) => if (SeqAt.shaped d && SeqAt.shaped (.tuple ds)) = true then some (.val (.bool (if neg = true then !(ds.any fun z => PyData.eqv z d) else ds.any fun z => PyData.eqv z d))) else none
  | some d, .val (.list ds) => if (SeqAt.shaped d && SeqAt.shaped (.list ds)) = true then some (.val (.bool (if neg = true then !(ds.any fun z => PyData.eqv z d) else ds.any fun z => PyData.eqv z d))) else none
  | some d, .own ds => if (SeqAt.shaped d && SeqAt.shaped (.list ds)) = true then some (.val (.bool (if neg = true then !(ds.any fun z => PyData.eqv z d) else ds.any fun z => PyData.eqv z d))) else none
  | _, _ => none
def rInT (K : PySem.W.Frag) (neg : Bool) : R2 := fun x y H Q => ∃ d ds, Dp K H x d ∧ (Dp K H y (.tuple ds) ∧ SeqAt.shaped (.tuple ds) = true ∨ Dp K H y (.list ds) ∧ SeqAt.shaped (.list ds) = true) ∧ SeqAt.shaped d = true ∧ Q (.bl (if neg = true then !(ds.any fun z => PyData.eqv z d) else ds.any fun z => PyData.eqv z d)) H
theorem op_inT (hu : X.A.units + 65 < cLine) : OpR X (compareOp .In) (rInT X.K false) := by
  intro pins s σ H x y v u Q I rx ry h
  obtain ⟨d, ds, hd, he | he, sd, q⟩ := h
  · obtain ⟨as, r1⟩ := Dp.reads I d x v hd rx
    obtain ⟨bs, r2⟩ := Dp.reads I (.tuple ds) y u he.1 ry
    exact SeqAt.in_tuple_reads r2 r1 (SeqAt.canLay_of_shaped he.2) (SeqAt.canLay_of_shaped sd) (room_in_shaped sd hu) ⟨.bl _, H, I, rfl, q⟩
  · obtain ⟨as, r1⟩ := Dp.reads I d x v hd rx
    obtain ⟨bs, r2⟩ := Dp.reads I (.list ds) y u he.1 ry
    exact SeqAt.in_list_reads r2 r1 (SeqAt.canLay_of_shaped he.2) (SeqAt.canLay_of_shaped sd) (room_in_shaped sd hu) ⟨.bl _, H, I, rfl, q⟩
theorem opS_inT {neg : Bool} : OpS K (rInT K neg) (fInD neg) := by
  intro G F T ρ σ H x y z v w Q R h q
  unfold fInD at h
  have hx := R.snd
  split at h
  · rename_i d ds hd
    split at h
    · rename_i hc
      cases h
      have hc := Bool.and_eq_true_iff.mp hc
      have r1 := dat_of R.l.eg hd hx
      have r2 := dat_of R.l.eg (s := .val (.tuple ds)) rfl R.fst
      exact ⟨d, ds, dp_of _ _ (SeqAt.canLay_of_shaped hc.1) r1, .inl ⟨dp_of _ _ (SeqAt.canLay_of_shaped hc.2) r2, hc.2⟩, hc.1, q _ G H (Ex.refl G) (R.drop.drop.pushV (.bl _))⟩
    · cases h
  · rename_i d ds hd
    split at h
    · rename_i hc
      cases h
      have hc := Bool.and_eq_true_iff.mp hc
      have r1 := dat_of R.l.eg hd hx
      have r2 := dat_of R.l.eg (s := .val (.list ds)) rfl R.fst
      exact ⟨d, ds, dp_of _ _ (SeqAt.canLay_of_shaped hc.1) r1, .inr ⟨dp_of _ _ (SeqAt.canLay_of_shaped hc.2) r2, hc.2⟩, hc.1, q _ G H (Ex.refl G) (R.drop.drop.pushV (.bl _))⟩
    · cases h
  · rename_i d ds hd
    split at h
    · rename_i hc
      cases h
      have hc := Bool.and_eq_true_iff.mp hc
      have r1 := dat_of R.l.eg hd hx
      have r2 := dat_of R.l.eg (s := .own ds) rfl R.fst
      exact ⟨d, ds, dp_of _ _ (SeqAt.canLay_of_shaped hc.1) r1, .inr ⟨dp_of _ _ (SeqAt.canLay_of_shaped hc.2) r2, hc.2⟩, hc.1, q _ G H (Ex.refl G) (R.drop.drop.pushV (.bl _))⟩
    · cases h
  · cases h
theorem u65 {k : Nat} {A : Around} (r : Room k A) : A.units + 65 < cLine := by have := r.un; omega
theorem me_inD (hu : X.A.units + 65 < cLine) (ha : ME X K a ta ma) (hb : ME X K b tb mb) (hm : behindInMarks .In b = false := by rfl) : ME X K (.Compare a [.In] [b] pos) (tOp (rInT K false) ta tb) (mBin (fInD false) ma mb) := by
  obtain rfl := ha.hK
  exact me_cmp opS_inT (op_inT hu) hm ha hb
end
end Dn
namespace Dn
open PySem PySem.Spec PyProof.Rows L2
open Evl (Ex)
inductive GI where
  | l (ds : List D)
  | v (d : D)
def joinH (F S : Hp) : Hp := fun a => match S a with
  | some o => some o
  | none => F a
theorem join_in {F S : Hp} {a : Addr} {o : HO} (h : S a = some o) : joinH F S a = some o := by unfold joinH; rw [h]
theorem join_out {F S : Hp} {a : Addr} (h : S a = none) : joinH F S a = F a := by unfold joinH; rw [h]
inductive GIs (K : PySem.W.Frag) (G S : Hp) : List V → List GI → List Addr → Prop
  | nil : GIs K G S [] [] []
  | l {p : Addr} {vs : List V} {ds : List D} {its : List V} {gs : List GI} {ps : List Addr} : S p = some (.lst vs) → RpA K G vs ds → GIs K G S its gs ps → GIs K G S (.ref p :: its) (.l ds :: gs) (p :: ps)
  | v {v : V} {d : D} {its : List V} {gs : List GI} {ps : List Addr} : Rp K G v d → GIs K G S its gs ps → GIs K G S (v :: its) (.v d :: gs) ps
def Hold (S : Hp) (t : Addr) (b : Bool) (its : List V) : Prop := S t = some (if b = true then .tup its else .lst its)
inductive GHs (K : PySem.W.Frag) (G S : Hp) (σ : L2.St) : List Nat → List (Bool × List GI) → List Addr → Prop
  | nil : GHs K G S σ [] [] []
  | cons {i : Nat} {is : List Nat} {t : Addr} {b : Bool} {its : List V} {gs : List GI} {γ : List (Bool × List GI)} {ps qs : List Addr} : σ[i]? = some (some (.ref t)) → Hold S t b its → GIs K G S its gs ps → GHs K G S σ is γ qs → GHs K G S σ (i :: is) ((b, gs) :: γ) (t :: ps ++ qs)
section
variable {K : PySem.W.Frag} {G G' F S H : Hp} {σ σ' : L2.St} {its : List V} {gs : List GI} {ps qs : List Addr} {is : List Nat} {γ : List (Bool × List GI)} {p : Addr}
theorem GIs.up (e : Ex G G') (h : GIs K G S its gs ps) : GIs K G' S its gs ps := by
  induction h with
  | nil => exact .nil
  | l h1 h2 _ ih => exact .l h1 (h2.up e) ih
  | v h1 _ ih => exact .v (h1.up e) ih
theorem GHs.up (e : Ex G G') (hσ : ∀ i ∈ is, σ'[i]? = σ[i]?) (h : GHs K G S σ is γ qs) : GHs K G' S σ' is γ qs := by
  induction h with
  | nil => exact .nil
  | cons h1 h2 h3 _ ih => exact .cons (by rw [hσ _ List.mem_cons_self]; exact h1) h2 (h3.up e) (ih fun i hi => hσ i (List.mem_cons_of_mem _ hi))
theorem GIs.mem (h : GIs K G S its gs ps) : p ∈ ps → ∃ vs, S p = some (.lst vs) := by
  induction h with
  | nil => intro h; cases h
  | l h1 h2 _ ih =>
    intro h
    rcases List.mem_cons.mp h with rfl | h
    · exact ⟨_, h1⟩
    · exact ih h
  | v h1 _ ih => exact ih
theorem GIs.other {u : HO} (h : GIs K G S its gs ps) (hp : p ∉ ps) : GIs K G (upd S p u) its gs ps := by
  induction h with
  | nil => exact .nil
  | @l p0 vs0 ds0 its0 gs0 ps0 h1 h2 _ ih =>
    have hn : p0 ≠ p := fun e => hp (by rw [← e]; exact List.mem_cons_self)
    exact .l (by rw [upd_ne hn]; exact h1) h2 (ih fun z => hp (List.mem_cons_of_mem _ z))
  | v h1 _ ih => exact .v h1 (ih hp)
theorem GHs.other {u : HO} (h : GHs K G S σ is γ qs) (hp : p ∉ qs) : GHs K G (upd S p u) σ is γ qs := by
  induction h with
  | nil => exact .nil
  | @cons i is t b its gs γ ps qs h1 h2 h3 _ ih =>
    have hn : t ≠ p := fun e => hp (by rw [e]; exact List.mem_append_left _ List.mem_cons_self)
    exact .cons h1 (by unfold Hold at h2 ⊢; rw [upd_ne hn]; exact h2) (h3.other fun z => hp (List.mem_append_left _ (List.mem_cons_of_mem _ z))) (ih fun z => hp (List.mem_append_right _ z))
theorem GIs.at {k : Nat} {ds : List D} (h : GIs K G S its gs ps) (hk : gs[k]? = some (.l ds)) (nd : ps.Nodup) : ∃ p vs, its[k]? = some (.ref p) ∧ S p = some (.lst vs) ∧ RpA K G vs ds ∧ p ∈ ps ∧
    ∀ vs' ds', RpA K G vs' ds' → GIs K G (upd S p (.lst vs')) its (gs.set k (.l ds')) ps := by
  induction h generalizing k with
  | nil => simp at hk
  | @l p vs ds0 its gs ps h1 h2 h3 ih =>
    have nd' := List.nodup_cons.mp nd
    cases k with
    | zero =>
      cases hk
      exact ⟨p, vs, rfl, h1, h2, List.mem_cons_self, fun vs' ds' hr => .l upd_same hr (h3.other nd'.1)⟩
    | succ k =>
      obtain ⟨q, us, e1, e2, e3, e4, e5⟩ := ih (k := k) (by simpa using hk) nd'.2
      refine ⟨q, us, by simpa using e1, e2, e3, List.mem_cons_of_mem _ e4, fun vs' ds' hr => ?_⟩
      have hn : p ≠ q := fun e => nd'.1 (by rw [e]; exact e4)
      exact .l (by rw [upd_ne hn]; exact h1) h2 (e5 vs' ds' hr)
  | v h1 h2 ih =>
    cases k with
    | zero => cases hk
    | succ k =>
      obtain ⟨q, us, e1, e2, e3, e4, e5⟩ := ih (k := k) (by simpa using hk) nd
      exact ⟨q, us, by simpa using e1, e2, e3, e4, fun vs' ds' hr => .v h1 (e5 vs' ds' hr)⟩
theorem GHs.at {h0 k i : Nat} {b : Bool} {ds : List D} (h : GHs K G S σ is γ qs) (hi : is[h0]? = some i) (hg : γ[h0]? = some (b, gs)) (hk : gs[k]? = some (.l ds)) (nd : qs.Nodup) : ∃ t its p vs, σ[i]? = some (some (.ref t)) ∧ Hold S t b its ∧ its.length = gs.length ∧ its[k]? = some (.ref p) ∧ S p = some (.lst vs) ∧ RpA K G vs ds ∧
    ∀ vs' ds', RpA K G vs' ds' → GHs K G (upd S p (.lst vs')) σ is (γ.set h0 (b, gs.set k (.l ds'))) qs := by
  induction h generalizing h0 with
  | nil => simp at hi
  | @cons i0 is t b0 its gs0 γ ps qs h1 h2 h3 h4 ih =>
    have nd1 := List.nodup_append.mp nd
    cases h0 with
    | zero =>
      cases hi
      cases hg
      have ndp := List.nodup_cons.mp nd1.1
      obtain ⟨p, vs, e1, e2, e3, e4, e5⟩ := h3.at hk ndp.2
      have hl : its.length = gs.length := by
        clear e1 e2 e3 e4 e5 ih nd nd1 ndp hk h2
        induction h3 with
        | nil => rfl
        | l _ _ _ ih => exact congrArg (· + 1) ih
        | v _ _ ih => exact congrArg (· + 1) ih
      refine ⟨t, its, p, vs, h1, h2, hl, e1, e2, e3, fun vs' ds' hr => ?_⟩
      have hn : t ≠ p := fun e => ndp.1 (by rw [e]; exact e4)
      exact .cons h1 (by unfold Hold at h2 ⊢; rw [upd_ne hn]; exact h2) (e5 vs' ds' hr) (h4.other fun z => nd1.2.2 p (List.mem_cons_of_mem _ e4) p z rfl)
    | succ h0 =>
      obtain ⟨t', its', p, vs, f1, f2, f3, f4, f5, f6, f7⟩ := ih (h0 := h0) (by simpa using hi) (by simpa using hg) nd1.2.1
      refine ⟨t', its', p, vs, f1, f2, f3, f4, f5, f6, fun vs' ds' hr => ?_⟩
      have hq : p ∈ qs := by
        by_cases c : p ∈ qs
        · exact c
        · exfalso
          have g := f7 vs [] 
          have hmem : ∀ {is : List Nat} {γ : List (Bool × List GI)} {qs : List Addr} {h0 i k : Nat} {b : Bool} {gs : List GI} {ds : List D}, GHs K G S σ is γ qs → is[h0]? = some i → γ[h0]? = some (b, gs) → gs[k]? = some (.l ds) → ∃ t its p, σ[i]? = some (some (.ref t)) ∧ Hold S t b its ∧ its[k]? = some (.ref p) ∧ p ∈ qs := by
            intro is γ qs h0 i k b gs ds h hi hg hk
            induction h generalizing h0 with
            | nil => simp at hi
            | @cons i0 is t b0 its gs0 γ ps qs h1 h2 h3 h4 ih =>
              cases h0 with
              | zero =>
                cases hi
                cases hg
                have : ∃ p, its[k]? = some (.ref p) ∧ p ∈ ps := by
                  clear h2 ih h4
                  induction h3 generalizing k with
                  | nil => simp at hk
                  | l a1 a2 a3 ih =>
                    cases k with
                    | zero => exact ⟨_, rfl, List.mem_cons_self⟩
                    | succ k =>
                      obtain ⟨p, b1, b2⟩ := ih (k := k) (by simpa using hk)
                      exact ⟨p, by simpa using b1, List.mem_cons_of_mem _ b2⟩
                  | v a1 a2 ih =>
                    cases k with
                    | zero => cases hk
                    | succ k =>
                      obtain ⟨p, b1, b2⟩ := ih (k := k) (by simpa using hk)
                      exact ⟨p, by simpa using b1, b2⟩
                obtain ⟨p, b1, b2⟩ := this
                exact ⟨t, its, p, h1, h2, b1, List.mem_append_left _ (List.mem_cons_of_mem _ b2)⟩
              | succ h0 =>
                obtain ⟨t, its, p, c1, c2, c3, c4⟩ := ih (h0 := h0) (by simpa using hi) (by simpa using hg)
                exact ⟨t, its, p, c1, c2, c3, List.mem_append_right _ c4⟩
          obtain ⟨t2, its2, p2, c1, c2, c3, c4⟩ := hmem h4 (h0 := h0) (by simpa using hi) (by simpa using hg) hk
          rw [f1] at c1
          cases c1
          unfold Hold at f2 c2
          rw [f2] at c2
          have hits : its' = its2 := by
            cases b
            · simpa using c2
            · simpa using c2
          subst hits
          rw [f4] at c3
          cases c3
          exact c c4
      have hnt : t ≠ p := fun e => nd1.2.2 t List.mem_cons_self p hq e
      have hnp : p ∉ ps := fun z => nd1.2.2 p (List.mem_cons_of_mem _ z) p hq rfl
      exact .cons h1 (by unfold Hold at h2 ⊢; rw [upd_ne hnt]; exact h2) (h3.other hnp) (f7 vs' ds' hr)
theorem RelL.lessF {L : List Ent} (R : RelL K G (joinH F S) L H) (hd : ∀ a o, S a = some o → F a = none) : RelL K G F L H := by
  have hs : ∀ a o, F a = some o → joinH F S a = some o := fun a o h => by
    cases e : S a with
    | none => rw [join_out e]; exact h
    | some u0 => have := hd a u0 e; rw [h] at this; cases this
  refine ⟨R.eg, fun a o h => R.ef a o (hs a o h), fun a o h => R.gf a o (hs a o h), fun e he => ?_, R.ap⟩
  have g := R.ok e he
  obtain ⟨s, ov⟩ := e
  cases s with
  | un => exact g
  | ex c => exact g
  | val d => exact g
  | own es =>
    obtain ⟨q, ws, g1, g2, g3, g4, g5⟩ := g
    refine ⟨q, ws, g1, g2, g3, ?_, g5⟩
    cases e : F q with
    | none => rfl
    | some o => rw [hs q o e] at g4; cases g4
theorem RelL.gmut {L : List Ent} {vs vs' : List V} (R : RelL K G (joinH F S) L H) (hp : S p = some (.lst vs)) : RelL K G (joinH F (upd S p (.lst vs'))) L (upd H p (.lst vs')) := by
  have jp : joinH F S p = some (.lst vs) := join_in hp
  have gp := R.gf p _ jp
  refine ⟨fun a o h => ?_, fun a o h => ?_, fun a o h => ?_, fun e he => ?_, R.ap⟩
  · have hn : a ≠ p := fun e => by rw [e, gp] at h; cases h
    rw [upd_ne hn]
    exact R.eg a o h
  · by_cases c : a = p
    · subst c
      rw [join_in upd_same] at h
      rw [upd_same]
      exact h
    · rw [upd_ne c]
      refine R.ef a o ?_
      unfold joinH at h ⊢
      rw [upd_ne c] at h
      exact h
  · by_cases c : a = p
    · subst c; exact gp
    · refine R.gf a o ?_
      unfold joinH at h ⊢
      rw [upd_ne c] at h
      exact h
  · have g := R.ok e he
    obtain ⟨s, ov⟩ := e
    cases s with
    | un => exact g
    | ex c => exact g
    | val d => exact g
    | own es =>
      obtain ⟨q, ws, g1, g2, g3, g4, g5⟩ := g
      have hn : q ≠ p := fun e => by rw [e, jp] at g4; cases g4
      refine ⟨q, ws, g1, by rw [upd_ne hn]; exact g2, g3, ?_, g5⟩
      unfold joinH at g4 ⊢
      rw [upd_ne hn]
      exact g4
theorem RelL.gfreeze {L : List Ent} (R : RelL K G (joinH F S) L H) (hd : ∀ a o, S a = some o → F a = none) : Ex G (joinH G S) ∧ RelL K (joinH G S) F L H := by
  have eg : Ex G (joinH G S) := fun a o h => by
    cases e : S a with
    | none => rw [join_out e]; exact h
    | some u => have := R.gf a u (join_in e); rw [h] at this; cases this
  have R1 := R.lessF hd
  refine ⟨eg, fun a o h => ?_, R1.ef, fun a o h => ?_, fun e he => ?_, R.ap⟩
  · cases e : S a with
    | none => rw [join_out e] at h; exact R.eg a o h
    | some u => rw [join_in e] at h; cases h; exact R.ef a _ (join_in e)
  · cases e : S a with
    | none => rw [join_out e]; exact R1.gf a o h
    | some u => have := hd a u e; rw [h] at this; cases this
  · have g := R1.ok e he
    have g0 := R.ok e he
    obtain ⟨s, ov⟩ := e
    cases s with
    | un => exact g
    | ex c => exact g.imp fun v w => ⟨w.1, eg _ _ w.2⟩
    | val d => exact g.imp fun v w => ⟨w.1, w.2.up eg⟩
    | own es =>
      obtain ⟨q, ws, g1, g2, g3, g4, g5⟩ := g
      obtain ⟨q', ws', h1, h2, h3, h4, h5⟩ := g0
      rw [g1] at h1
      cases h1
      refine ⟨q, ws, g1, g2, ?_, g4, g5.up eg⟩
      cases e : S q with
      | none => rw [join_out e]; exact g3
      | some u => rw [join_in e] at h4; cases h4
end
def giD : GI → D
  | .l ds => .list ds
  | .v d => d
def ghD (g : Bool × List GI) : D := if g.1 = true then .tuple (g.2.map giD) else .list (g.2.map giD)
section
variable {K : PySem.W.Frag} {G F S H : Hp} {σ : L2.St} {its : List V} {gs : List GI} {ps qs : List Addr} {is : List Nat} {γ : List (Bool × List GI)}
theorem GIs.rp (eg : Ex G (joinH G S)) (h : GIs K G S its gs ps) : RpA K (joinH G S) its (gs.map giD) := by
  induction h with
  | nil => exact .nil
  | l h1 h2 _ ih => exact .cons (.lst (SqL.of (join_in h1)) (h2.up eg)) ih
  | v h1 _ ih => exact .cons (h1.up eg) ih
theorem GHs.rp (eg : Ex G (joinH G S)) (h : GHs K G S σ is γ qs) : ∀ (h0 i : Nat) (g : Bool × List GI), is[h0]? = some i → γ[h0]? = some g → ∃ v, σ[i]? = some (some v) ∧ Rp K (joinH G S) v (ghD g) := by
  induction h with
  | nil => intro h0 i g hi; simp at hi
  | @cons i0 is t b its gs γ ps qs h1 h2 h3 _ ih =>
    intro h0 i g hi hg
    cases h0 with
    | zero =>
      cases hi
      cases hg
      refine ⟨_, h1, ?_⟩
      have r := h3.rp eg
      unfold ghD Hold at *
      cases b
      · exact .lst (SqL.of (join_in h2)) r
      · exact .tup (join_in h2) r
    | succ h0 => exact ih h0 i g (by simpa using hi) (by simpa using hg)
def thaw (ρ : List Sl) : List Nat → List (Bool × List GI) → List Sl
  | i :: is, g :: γ => thaw (ρ.set i (.val (ghD g))) is γ
  | _, _ => ρ
theorem thaw_ok : ∀ (is : List Nat) (γ : List (Bool × List GI)) (ρ : List Sl), (∀ (h0 i : Nat) (g : Bool × List GI), is[h0]? = some i → γ[h0]? = some g → ∃ v, σ[i]? = some (some v) ∧ Rp K G v (ghD g)) → Rel K G F [] ρ σ H → Rel K G F [] (thaw ρ is γ) σ H
  | [], _, ρ, _, R => by cases ‹List (Bool × List GI)› <;> exact R
  | i :: is, [], ρ, _, R => R
  | i :: is, g :: γ, ρ, h, R => by
    obtain ⟨v, h1, h2⟩ := h 0 i g rfl rfl
    refine thaw_ok is γ _ (fun h0 j g' a b => h (h0 + 1) j g' (by simpa using a) (by simpa using b)) ?_
    exact (R.pushV h2).back h1
end
inductive OutG where
  | nx (ρ : List Sl) (γ : List (Bool × List GI))
  | rt (r : Sl) (ρ : List Sl)
  | bk (ρ : List Sl) (γ : List (Bool × List GI))
  | ct (ρ : List Sl) (γ : List (Bool × List GI))
abbrev MSG := List Sl → List (Bool × List GI) → Option OutG
structure GRel (K : PySem.W.Frag) (G F S : Hp) (σ : L2.St) (is : List Nat) (γ : List (Bool × List GI)) (qs : List Addr) (ρ : List Sl) (H : Hp) : Prop where
  ds : ∀ a o, S a = some o → F a = none
  gh : GHs K G S σ is γ qs
  nd : qs.Nodup
  rl : Rel K G (joinH F S) [] ρ σ H
def PostG (K : PySem.W.Frag) (kp : Nat → Bool) (is : List Nat) (qs : List Addr) (G F : Hp) (σ : L2.St) (D : Ends) : OutG → Prop
  | .nx ρ' γ' => ∀ G' S' σ' H', Ex G G' → Kept kp σ σ' → GRel K G' F S' σ' is γ' qs ρ' H' → D.nx σ' H'
  | .rt r ρ' => ∀ v G' σ' H', Ex G G' → Kept kp σ σ' → Rel K G' F [(r, some v)] ρ' σ' H' → D.rt v H'
  | .bk ρ' γ' => ∀ G' S' σ' H', Ex G G' → Kept kp σ σ' → GRel K G' F S' σ' is γ' qs ρ' H' → D.bk σ' H'
  | .ct ρ' γ' => ∀ G' S' σ' H', Ex G G' → Kept kp σ σ' → GRel K G' F S' σ' is γ' qs ρ' H' → D.ct σ' H'
def DenSG (K : PySem.W.Frag) (kp : Nat → Bool) (is : List Nat) (t : TS) (m : MSG) : Prop := ∀ (G F S : Hp) (qs : List Addr) (ρ : List Sl) (γ : List (Bool × List GI)) (σ : L2.St) (H : Hp) (D : Ends) (o : OutG), GRel K G F S σ is γ qs ρ H → m ρ γ = some o → PostG K kp is qs G F σ D o → t D σ H
theorem PostG.up {K : PySem.W.Frag} {kp : Nat → Bool} {is : List Nat} {qs : List Addr} {G G1 F : Hp} {σ σ1 : L2.St} {D : Ends} {o : OutG} (h : PostG K kp is qs G F σ D o) (e : Ex G G1) (k : Kept kp σ σ1) : PostG K kp is qs G1 F σ1 D o := by
  cases o with
  | nx ρ γ => exact fun G' S' σ' H' e' k' R => h G' S' σ' H' (e.trans e') (k.trans k') R
  | rt r ρ => exact fun v G' σ' H' e' k' R => h v G' σ' H' (e.trans e') (k.trans k') R
  | bk ρ γ => exact fun G' S' σ' H' e' k' R => h G' S' σ' H' (e.trans e') (k.trans k') R
  | ct ρ γ => exact fun G' S' σ' H' e' k' R => h G' S' σ' H' (e.trans e') (k.trans k') R
def mSeqG (a b : MSG) : MSG := fun ρ γ => match a ρ γ with
  | some (.nx ρ' γ') => b ρ' γ'
  | o => o
def mLoopG (g : MG) (b : MSG) : List D → List Sl → List (Bool × List GI) → Option OutG
  | [], ρ, γ => some (.nx ρ γ)
  | d :: ds, ρ, γ => match g d ρ with
    | none => none
    | some ρ1 => match b ρ1 γ with
      | some (.nx ρ2 γ2) => mLoopG g b ds ρ2 γ2
      | some (.ct ρ2 γ2) => mLoopG g b ds ρ2 γ2
      | some (.bk ρ2 γ2) => some (.nx ρ2 γ2)
      | some (.rt r ρ2) => some (.rt r ρ2)
      | none => none
def mForG (i : MI) (g : MG) (b : MSG) : MSG := fun ρ γ => match i ρ with
  | none => none
  | some (ds, ρ1) => mLoopG g b ds ρ1 γ
def mMethG (h0 : Nat) (k : MX) (f : List D → List D → Option (D × List D)) (a : MA) : MSG := fun ρ γ => match k ρ with
  | some (.val (.int j), ρ1) => match a ρ1 with
    | none => none
    | some (xs, ρ2) => match datAll xs with
      | none => none
      | some es => match γ[h0]? with
        | some (b, gs) => match ixN gs.length j with
          | some n => match gs[n]? with
            | some (.l ds) => match f ds es with
              | some (_, ds') => some (.nx ρ2 (γ.set h0 (b, gs.set n (.l ds'))))
              | none => none
            | _ => none
          | none => none
        | none => none
  | _ => none
section
variable {K : PySem.W.Frag} {X : Cx} {kp : Nat → Bool} {is : List Nat} {t u : TS} {m : MS} {mg1 mg2 : MSG} {pos : Pos}
theorem GRel.keep {G G' F S H H' : Hp} {σ σ' : L2.St} {γ : List (Bool × List GI)} {qs : List Addr} {ρ ρ' : List Sl} (hk : ∀ i ∈ is, kp i = true) (R : GRel K G F S σ is γ qs ρ H) (e : Ex G G') (k : Kept kp σ σ') (R' : Rel K G' (joinH F S) [] ρ' σ' H') : GRel K G' F S σ' is γ qs ρ' H' :=
  ⟨R.ds, R.gh.up e fun i hi => k.2 i (hk i hi), R.nd, R'⟩
theorem denSG_seq (h1 : DenSG K kp is t mg1) (h2 : DenSG K kp is u mg2) : DenSG K kp is (tSeq t u) (mSeqG mg1 mg2) := by
  intro G F S qs ρ γ σ H D o R h q
  unfold mSeqG at h
  cases e1 : mg1 ρ γ with
  | none => rw [e1] at h; cases h
  | some o1 =>
    rw [e1] at h
    refine h1 G F S qs ρ γ σ H { D with nx := u D } o1 R e1 ?_
    cases o1 with
    | nx ρ1 γ1 => exact fun G' S' σ' H' e' k' R' => h2 G' F S' qs ρ1 γ1 σ' H' D o R' h (q.up e' k')
    | rt r ρ1 => cases h; exact q
    | bk ρ1 γ1 => cases h; exact q
    | ct ρ1 γ1 => cases h; exact q
theorem denSG_for {wi : TI} {mi : MI} {g : TG} {mg : MG} {vs : List Nat} (hk : ∀ i ∈ is, kp i = true) (hi : DenI K wi mi) (hg : DenG K kp vs g mg) (hb : DenSG K kp is t mg1) : DenSG K kp is (tFor wi g t) (mForG mi mg mg1) := by
  intro G F S qs ρ γ σ H D o R h q
  unfold mForG at h
  cases e1 : mi ρ with
  | none => rw [e1] at h; cases h
  | some p =>
    obtain ⟨ds, ρ1⟩ := p
    simp only [e1] at h
    refine hi G (joinH F S) [] ρ σ H ds ρ1 _ R.rl e1 fun J G1 H1 ex1 R1 W => ?_
    refine ⟨fun i n σ' H' => i + n = ds.length ∧ ∃ ρ' γ' G' S', Ex G1 G' ∧ Kept kp σ σ' ∧ GRel K G' F S' σ' is γ' qs ρ' H' ∧ mLoopG mg mg1 (ds.drop i) ρ' γ' = some o, ⟨ds.length, Nat.zero_add _, ρ1, γ, G1, S, Ex.refl G1, Kept.refl kp σ, R.keep hk ex1 (Kept.refl kp σ) R1, h⟩, ?_⟩
    rintro i n σ2 H2 ⟨him, ρ2, γ2, G2, S2, ex2, k2, R2, h2⟩
    obtain ⟨hstop, hgo⟩ := W G2 (joinH F S2) [] ρ2 σ2 H2 ex2 R2.rl
    by_cases hlt : i < ds.length
    · have hd : ds[i]? = some ds[i] := List.getElem?_eq_getElem hlt
      have hdrop : ds.drop i = ds[i] :: ds.drop (i + 1) := (List.drop_eq_getElem_cons hlt)
      rw [hdrop] at h2
      unfold mLoopG at h2
      obtain ⟨go, yld⟩ := hgo i _ hd
      refine .inr ⟨go, fun σ' H' => ∃ ρ' γ' G' S', Ex G1 G' ∧ Kept kp σ σ' ∧ GRel K G' F S' σ' is γ' qs ρ' H' ∧ mLoopG mg mg1 (ds.drop (i + 1)) ρ' γ' = some o, fun σ' H' hN => ⟨n - 1, by omega, by omega, hN⟩, fun x H' hy => ?_⟩
      obtain ⟨G3, ex3, R3⟩ := yld x H' hy
      cases e3 : mg ds[i] ρ2 with
      | none => rw [e3] at h2; cases h2
      | some ρ3 =>
        simp only [e3] at h2
        refine hg G3 (joinH F S2) [] ρ2 σ2 H' _ x ρ3 _ R3 e3 fun σ4 k4 _ R4 => ?_
        have R5 := R2.keep hk ex3 k4 R4
        cases e4 : mg1 ρ3 γ2 with
        | none => rw [e4] at h2; cases h2
        | some o4 =>
          rw [e4] at h2
          refine hb G3 F S2 qs ρ3 γ2 σ4 H' _ o4 R5 e4 ?_
          cases o4 with
          | nx ρ5 γ5 => exact fun G5 S5 σ5 H5 ex5 k5 R5 => ⟨ρ5, γ5, G5, S5, (ex2.trans ex3).trans ex5, (k2.trans k4).trans k5, R5, h2⟩
          | ct ρ5 γ5 => exact fun G5 S5 σ5 H5 ex5 k5 R5 => ⟨ρ5, γ5, G5, S5, (ex2.trans ex3).trans ex5, (k2.trans k4).trans k5, R5, h2⟩
          | bk ρ5 γ5 =>
            cases h2
            exact fun G5 S5 σ5 H5 ex5 k5 R5 => q G5 S5 σ5 H5 (((ex1.trans ex2).trans ex3).trans ex5) ((k2.trans k4).trans k5) R5
          | rt r ρ5 =>
            cases h2
            exact fun v G5 σ5 H5 ex5 k5 R5 => q v G5 σ5 H5 (((ex1.trans ex2).trans ex3).trans ex5) ((k2.trans k4).trans k5) R5
    · have e : i = ds.length := by omega
      subst e
      rw [List.drop_length] at h2
      cases h2
      exact .inl ⟨hstop, q G2 S2 σ2 H2 (ex1.trans ex2) k2 R2⟩
theorem denSG_meth {h0 i : Nat} {r : V → List V → Hp → VK → Prop} {f : List D → List D → Option (D × List D)} {tk : TE} {mk : MX} {ta : TA} {ma : MA} (hk : ∀ i ∈ is, kp i = true) (hi : is[h0]? = some i) (hf : MethS K r f) (hkx : Den K tk mk) (ha : DenA K ta ma) :
    DenSG K kp is (tDrop (tBM K "list" r (tOp (rIx K) (tVar i) tk) ta)) (mMethG h0 mk f ma) := by
  intro G F S qs ρ γ σ H D o R h q
  unfold mMethG at h
  split at h
  · rename_i j ρ1 e1
    split at h
    · cases h
    · rename_i xs ρ2 e2
      split at h
      · cases h
      · rename_i es hd
        split at h
        · rename_i b gs hγ
          split at h
          · rename_i n hn
            split at h
            · rename_i ds hds
              split at h
              · rename_i dr ds' hfd
                cases h
                obtain ⟨t, its, p, vs, f1, f2, f3, f4, f5, f6, f7⟩ := R.gh.at hi hγ hds R.nd
                refine ⟨.ref t, f1, ?_⟩
                refine hkx G (joinH F S) [] ρ σ H _ ρ1 _ R.rl e1 fun v G1 H1 ex1 R1 => ?_
                have hv := int_of R1.fst
                subst hv
                have ht1 : H1 t = some (if b = true then .tup its else .lst its) := R1.l.ef _ _ (join_in f2)
                have hat : atI its j = some (.ref p) := by
                  unfold atI
                  rw [f3, hn]
                  exact f4
                have hlst : H1 p = some (.lst vs) := R1.l.ef _ _ (join_in f5)
                have hgo : tyV K "list" (V.ref p) H1 ∧ ta σ H1 fun xs H2 => r (V.ref p) xs H2 fun _ H3 => D.nx σ H3 := by
                  refine ⟨.inl ⟨rfl, vs, .inl (.inl hlst)⟩, ?_⟩
                  refine ha G1 (joinH F S) [] ρ1 σ H1 xs ρ2 _ R1.drop e2 fun us G2 H2 ex2 l2 R2 => ?_
                  obtain ⟨G3, e3, hr, R3⟩ := R2.giveAll l2 hd
                  have hl2 : H2 p = some (.lst vs) := R3.l.ef _ _ (join_in f5)
                  have exA := (ex1.trans ex2).trans e3
                  refine hf G3 H2 p vs us ds es dr ds' _ hl2 R3.l.eg (f6.up exA) hr hfd fun v xs' hx hv => ?_
                  have RL := R3.l.gmut (vs' := xs') f5
                  refine q G3 (upd S p (.lst xs')) σ _ exA (Kept.refl kp σ) ⟨fun a o h => ?_, ?_, R.nd, R3.len, RL⟩
                  · by_cases c : a = p
                    · subst c; exact R.ds a _ f5
                    · rw [upd_ne c] at h; exact R.ds a o h
                  · exact (GHs.at (R.gh.up exA fun _ _ => rfl) hi hγ hds R.nd).elim fun t2 hh => by
                      obtain ⟨its2, p2, vs2, g1, g2, g3, g4, g5, g6, g7⟩ := hh
                      rw [f1] at g1
                      cases g1
                      unfold Hold at f2 g2
                      rw [f2] at g2
                      have hits : its = its2 := by
                        cases b
                        · simpa using g2
                        · simpa using g2
                      subst hits
                      rw [f4] at g4
                      cases g4
                      exact g7 xs' ds' hx
                cases b with
                | false => exact .inl ⟨t, its, j, _, rfl, rfl, SqL.of ht1, hat, hgo⟩
                | true => exact .inr (.inl ⟨t, its, j, _, rfl, rfl, SqT.of ht1, hat, hgo⟩)
              · cases h
            · cases h
          · cases h
        · cases h
  · cases h
end
end Dn
namespace Dn
open PySem PySem.Spec PyProof.Rows L2
open Evl (Ex)
abbrev MNew := List Sl → Option (List Sl × List (Bool × List GI))
def DenNew (K : PySem.W.Frag) (kp : Nat → Bool) (is : List Nat) (t : TS) (m : MNew) : Prop := ∀ (G F : Hp) (ρ : List Sl) (σ : L2.St) (H : Hp) (D : Ends) (ρ' : List Sl) (γ : List (Bool × List GI)), Rel K G F [] ρ σ H → m ρ = some (ρ', γ) →
  (∀ G' S σ' H' qs, Ex G G' → Kept kp σ σ' → GRel K G' F S σ' is γ qs ρ' H' → D.nx σ' H') → t D σ H
def mGh (mn : MNew) (m1 : MSG) (is : List Nat) (mr : MS) : MS := fun ρ => match mn ρ with
  | none => none
  | some (ρ1, γ1) => match m1 ρ1 γ1 with
    | some (.nx ρ2 γ2) => mr (thaw ρ2 is γ2)
    | some (.rt r ρ2) => some (.rt r ρ2)
    | _ => none
section
variable {K : PySem.W.Frag} {X : Cx} {kp kp2 : Nat → Bool} {is : List Nat} {t0 t1 tr : TS} {mn : MNew} {m1 : MSG} {mr : MS}
theorem denS_gh (hkk : ∀ i, kp i = true → kp2 i = true) (hn : DenNew K kp is t0 mn) (h1 : DenSG K kp2 is t1 m1) (h2 : DenS K kp tr mr) : DenS K kp (tSeq t0 (tSeq t1 tr)) (mGh mn m1 is mr) := by
  intro G F ρ σ H D o R h q
  unfold mGh at h
  split at h
  · cases h
  · rename_i ρ1 γ1 e1
    have kk : ∀ {a b : L2.St}, Kept kp2 a b → Kept kp a b := fun k => ⟨k.1, fun i hi => k.2 i (hkk i hi)⟩
    refine hn G F ρ σ H _ ρ1 γ1 R e1 fun G1 S σ1 H1 qs ex1 k1 R1 => ?_
    split at h
    · rename_i ρ2 γ2 e2
      refine h1 G1 F S qs ρ1 γ1 σ1 H1 { D with nx := tr D } _ R1 e2 fun G2 S2 σ2 H2 ex2 k2 R2 => ?_
      obtain ⟨ex3, R3⟩ := R2.rl.l.gfreeze R2.ds
      have R4 : Rel K (joinH G2 S2) F [] (thaw ρ2 is γ2) σ2 H2 := thaw_ok is γ2 ρ2 (R2.gh.rp ex3) ⟨R2.rl.len, R3⟩
      exact h2 _ F _ σ2 H2 D o R4 h (q.up ((ex1.trans ex2).trans ex3) (k1.trans (kk k2)))
    · rename_i r ρ2 e2
      cases h
      refine h1 G1 F S qs ρ1 γ1 σ1 H1 { D with nx := tr D } _ R1 e2 fun v G2 σ2 H2 ex2 k2 R2 => ?_
      exact q v G2 σ2 H2 (ex1.trans ex2) (k1.trans (kk k2)) R2
    · cases h
theorem mss_gh {st0 st1 : Stmt} {rest' : List Stmt} (hkk : ∀ i, kp i = true → kp2 i = true) (p0 : PS X st0 t0) (p1 : PS X st1 t1) (pr : MSs X kp rest' tr mr) (hn : DenNew X.K kp is t0 mn) (h1 : DenSG X.K kp2 is t1 m1) : MSs X kp (st0 :: st1 :: rest') (tSeq t0 (tSeq t1 tr)) (mGh mn m1 is mr) :=
  ⟨pss_cons p0 (pss_cons p1 pr.pe), denS_gh hkk hn h1 pr.dn⟩
theorem RelL.growS {G F S H : Hp} {L : List Ent} {p : Addr} {o : HO} (R : RelL K G (joinH F S) L H) (hd : ∀ a o, S a = some o → F a = none) (hp : H p = none) :
    S p = none ∧ (∀ a u, upd S p o a = some u → F a = none) ∧ RelL K G (joinH F (upd S p o)) L (upd H p o) := by
  have jp : joinH F S p = none := free_of R.ef hp
  have sp : S p = none := by
    cases e : S p with
    | none => rfl
    | some u => rw [join_in e] at jp; cases jp
  have fp : F p = none := by rw [join_out sp] at jp; exact jp
  refine ⟨sp, fun a u h => ?_, fun a u h => ?_, fun a u h => ?_, fun a u h => ?_, fun e he => ?_, R.ap⟩
  · by_cases c : a = p
    · subst c; exact fp
    · rw [upd_ne c] at h; exact hd a u h
  · rw [upd_ne (ne_of_none (R.eg a u h) hp)]
    exact R.eg a u h
  · by_cases c : a = p
    · subst c; rw [join_in upd_same] at h; rw [upd_same]; exact h
    · rw [upd_ne c]
      refine R.ef a u ?_
      unfold joinH at h ⊢
      rw [upd_ne c] at h
      exact h
  · by_cases c : a = p
    · subst c; exact free_of R.eg hp
    · refine R.gf a u ?_
      unfold joinH at h ⊢
      rw [upd_ne c] at h
      exact h
  · have g := R.ok e he
    obtain ⟨s, ov⟩ := e
    cases s with
    | un => exact g
    | ex c => exact g
    | val d => exact g
    | own es =>
      obtain ⟨q, ws, g1, g2, g3, g4, g5⟩ := g
      have nq : q ≠ p := ne_of_none g2 hp
      refine ⟨q, ws, g1, by rw [upd_ne nq]; exact g2, g3, ?_, g5⟩
      unfold joinH at g4 ⊢
      rw [upd_ne nq]
      exact g4
theorem join_none (F : Hp) : joinH F (fun _ => none) = F := by
  funext a
  exact join_out rfl
def mNewP (kp : Nat → Bool) (i j : Nat) : MNew := fun ρ => if kp i = false ∧ kp j = false ∧ i < ρ.length ∧ j < ρ.length ∧ i ≠ j then some ((ρ.set i .un).set j .un, [(true, [.l [], .l []]), (true, [.l [], .l []])]) else none
abbrev tE2 : TE := tTup (tCons (tLst tNil) (tCons (tLst tNil) tNil))
theorem denNew_P {i j : Nat} : DenNew K kp [i, j] (tPar i j (tCons tE2 (tCons tE2 tNil))) (mNewP kp i j) := by
  intro G F ρ σ H D ρ' γ R h q
  unfold mNewP at h
  split at h
  · rename_i hc
    obtain ⟨ki, kj, li, lj, hij⟩ := hc
    cases h
    have hz : (2 : Nat) ≤ sizeLine := by decide
    have h0 : (0 : Nat) ≤ sizeLine := by decide
    refine ⟨h0, fun p1 hp1 => ⟨h0, fun p2 hp2 => ⟨hz, fun t1 ht1 => ⟨h0, fun p3 hp3 => ⟨h0, fun p4 hp4 => ⟨hz, fun t2 ht2 => ⟨_, _, rfl, ?_⟩⟩⟩⟩⟩⟩⟩
    have R0 : RelL K G (joinH F (fun _ => none)) (ρ.zip σ) H := by rw [join_none]; exact R.l
    obtain ⟨s1, d1, R1⟩ := R0.growS (o := .lst []) (fun a o h => by cases h) hp1
    obtain ⟨s2, d2, R2⟩ := R1.growS (o := .lst []) d1 hp2
    obtain ⟨s3, d3, R3⟩ := R2.growS (o := .tup [.ref p1, .ref p2]) d2 ht1
    obtain ⟨s4, d4, R4⟩ := R3.growS (o := .lst []) d3 hp3
    obtain ⟨s5, d5, R5⟩ := R4.growS (o := .lst []) d4 hp4
    obtain ⟨s6, d6, R6⟩ := R5.growS (o := .tup [.ref p3, .ref p4]) d5 ht2
    have n21 : p2 ≠ p1 := fun e => by subst e; rw [upd_same] at hp2; cases hp2
    have n31 : t1 ≠ p1 := fun e => by subst e; rw [upd_ne n21.symm, upd_same] at ht1; cases ht1
    have n32 : t1 ≠ p2 := fun e => by subst e; rw [upd_same] at ht1; cases ht1
    have n43 : p3 ≠ t1 := fun e => by subst e; rw [upd_same] at hp3; cases hp3
    have n42 : p3 ≠ p2 := fun e => by subst e; rw [upd_ne n43, upd_same] at hp3; cases hp3
    have n41 : p3 ≠ p1 := fun e => by subst e; rw [upd_ne n43, upd_ne n42, upd_same] at hp3; cases hp3
    have n54 : p4 ≠ p3 := fun e => by subst e; rw [upd_same] at hp4; cases hp4
    have n53 : p4 ≠ t1 := fun e => by subst e; rw [upd_ne n54, upd_same] at hp4; cases hp4
    have n52 : p4 ≠ p2 := fun e => by subst e; rw [upd_ne n54, upd_ne n53, upd_same] at hp4; cases hp4
    have n51 : p4 ≠ p1 := fun e => by subst e; rw [upd_ne n54, upd_ne n53, upd_ne n52, upd_same] at hp4; cases hp4
    have n65 : t2 ≠ p4 := fun e => by subst e; rw [upd_same] at ht2; cases ht2
    have n64 : t2 ≠ p3 := fun e => by subst e; rw [upd_ne n65, upd_same] at ht2; cases ht2
    have n63 : t2 ≠ t1 := fun e => by subst e; rw [upd_ne n65, upd_ne n64, upd_same] at ht2; cases ht2
    have n62 : t2 ≠ p2 := fun e => by subst e; rw [upd_ne n65, upd_ne n64, upd_ne n63, upd_same] at ht2; cases ht2
    have n61 : t2 ≠ p1 := fun e => by subst e; rw [upd_ne n65, upd_ne n64, upd_ne n63, upd_ne n62, upd_same] at ht2; cases ht2
    have l1 : j < σ.length := by rw [← R.len]; exact lj
    have l2 : i < σ.length := by rw [← R.len]; exact li
    refine q G (upd (upd (upd (upd (upd (upd (fun _ => none) p1 (.lst [])) p2 (.lst [])) t1 (.tup [.ref p1, .ref p2])) p3 (.lst [])) p4 (.lst [])) t2 (.tup [.ref p3, .ref p4])) _ _ [t1, p1, p2, t2, p3, p4] (Ex.refl G) ((Kept.set ki).trans (Kept.set kj)) ⟨d6, ?_, ?_, ?_⟩
    · have e1 : ((σ.set i (some (V.ref t1))).set j (some (V.ref t2)))[i]? = some (some (V.ref t1)) := by
        rw [List.getElem?_set_ne hij.symm, List.getElem?_set_self l2]
      have e2 : ((σ.set i (some (V.ref t1))).set j (some (V.ref t2)))[j]? = some (some (V.ref t2)) := by
        rw [List.getElem?_set_self (by rw [List.length_set]; exact l1)]
      refine .cons (ps := [p1, p2]) (qs := [t2, p3, p4]) e1 (its := [.ref p1, .ref p2]) ?_ ?_ (.cons (ps := [p3, p4]) (qs := []) e2 (its := [.ref p3, .ref p4]) ?_ ?_ .nil)
      · show _ = _
        rw [upd_ne n63.symm, upd_ne n53.symm, upd_ne n43.symm, upd_same]
        rfl
      · refine .l (vs := []) ?_ .nil (.l (vs := []) ?_ .nil .nil)
        · rw [upd_ne n61.symm, upd_ne n51.symm, upd_ne n41.symm, upd_ne n31.symm, upd_ne n21.symm, upd_same]
        · rw [upd_ne n62.symm, upd_ne n52.symm, upd_ne n42.symm, upd_ne n32.symm, upd_same]
      · exact upd_same
      · refine .l (vs := []) ?_ .nil (.l (vs := []) ?_ .nil .nil)
        · rw [upd_ne n64.symm, upd_ne n54.symm, upd_same]
        · rw [upd_ne n65.symm, upd_same]
    · simp only [List.nodup_cons, List.mem_cons, List.not_mem_nil, or_false, not_or, not_false_iff, List.nodup_nil, and_true]
      exact ⟨⟨n31, n32, n63.symm, n43.symm, n53.symm⟩, ⟨n21.symm, n61.symm, n41.symm, n51.symm⟩, ⟨n62.symm, n42.symm, n52.symm⟩, ⟨n64, n65⟩, n54.symm⟩
    · have Ra : Rel K G (joinH F _) [] ρ σ _ := ⟨R.len, R6⟩
      exact (Ra.forget i (some (V.ref t1))).forget j (some (V.ref t2))
  · cases h
end
end Dn
namespace Dn
open PySem PySem.Spec PyProof.Rows L2
open Evl (Ex)
structure MGSt (X : Cx) (kp : Nat → Bool) (is : List Nat) (st : Stmt) (t : TS) (m : MSG) : Prop where
  pe : PS X st t
  dn : DenSG X.K kp is t m
structure MGSs (X : Cx) (kp : Nat → Bool) (is : List Nat) (st : List Stmt) (t : TS) (m : MSG) : Prop where
  pe : PSs X st t
  dn : DenSG X.K kp is t m
section
variable {X : Cx} {kp kp2 : Nat → Bool} {is : List Nat} {st : Stmt} {rest : List Stmt} {t u : TS} {m1 m2 : MSG} {m : MS} {pos : Pos}
theorem msgs_one (h : MGSt X kp is st t m1) : MGSs X kp is [st] t m1 := ⟨pss_one h.pe, h.dn⟩
theorem msgs_cons (h1 : MGSt X kp is st t m1) (h2 : MGSs X kp is rest u m2) : MGSs X kp is (st :: rest) (tSeq t u) (mSeqG m1 m2) := ⟨pss_cons h1.pe h2.pe, denSG_seq h1.dn h2.dn⟩
theorem msg_for {wi : TI} {mi : MI} {g : TG} {mg : MG} {vs : List Nat} {tg iter : Expr} {body : List Stmt} (hk : ∀ i ∈ is, kp i = true) (hp : PassesOwn (model X.prog X.w) X.A X.env X.xe) (hc : X.calm = true) (hi : MIt X X.K tg iter wi mi) (hg : MGt X X.K kp vs tg g mg) (hb : MGSs X kp is body t m1)
    (hs : ∀ x, foldedSetIterable iter X.env x = pure x := by intro _; rfl) : MGSt X kp is (.For tg iter body [] pos) (tFor wi g t) (mForG mi mg m1) := ⟨ps_for hp hc hi.pe hg.pe hb.pe hs, denSG_for hk hi.dn hg.dn hb.dn⟩
theorem msg_meth (h0 i : Nat) {name : Str} {id : String} {r : V → List V → Hp → VK → Prop} {f : List D → List D → Option (D × List D)} {tk : TE} {mk : MX} {ta : TA} {ma : MA} {e b : Expr} {es : List Expr} {x : Str} {p p2 apos cpos spos : Pos} (hk : ∀ i ∈ is, kp i = true) (hi : is[h0]? = some i) (hsl : Slot "list" name id) (hty : typeOf (.builtin id) = pure (.type "method_descriptor")) (hf : MethS X.K r f) (hr : MtR X id r)
    (hb : ME X X.K b tk mk) (ha : MEA X X.K (e :: es) ta ma) (hpl : PlainIx b) (hN : X.N[i]? = some x := by rfl) (hv : Vis X.env.scope x := by first | exact Or.inl rfl | exact Or.inr (Or.inl rfl) | exact Or.inr (Or.inr rfl)) (hd : (x == ("__debug__" : Str)) = false := by decide)
    (hcd : (x == ("__classdict__" : Str)) = false := by decide)
    (h1 : attributeBase (.Subscript (.Name x p) b p2) name X.env (eval (.Subscript (.Name x p) b p2) X.env) = eval (.Subscript (.Name x p) b p2) X.env := by rfl)
    (h2 : (((backTo cpos (starEach (e :: es) X.env)).all (fun x => !x.1)) && ((backToKw cpos (keywordEach [] X.env)).all fun x => x.1.isSome) && decide (((e :: es).length + ([] : List Keyword).length + if ([] : List Keyword).isEmpty then 0 else 1) < 30)) = true := by rfl)
    (h3 : (apos.endLine == cpos.line) = true := by rfl)
    (h4 : starEach (e :: es) X.env = (false, eval e X.env) :: starEach es X.env := by rfl) (h5 : (backTo cpos (starEach es X.env)).any (·.1) = false := by rfl)
    (hs : swapsWith (.Call (.Attribute (.Subscript (.Name x p) b p2) name apos) (e :: es) [] cpos) none spos.line X.env = pure false := by rfl) :
    MGSt X kp is (.Expr (.Call (.Attribute (.Subscript (.Name x p) b p2) name apos) (e :: es) [] cpos) spos) (tDrop (tBM X.K "list" r (tOp (rIx X.K) (tVar i) tk) ta)) (mMethG h0 mk f ma) :=
  ⟨ps_expr (pe_bm PySem.F.plainAttrs_list hsl hty hr (pe_ix ix_seq (pe_var hN hv hd hcd) hb.pe hpl) ha.pe h1 h2 h3 h4 h5) hs, denSG_meth hk hi hf hb.dn ha.dn⟩
def mAugV (i : Nat) (a : MX) : MS := fun ρ => match ρ[i]? with
  | some (.own _) => match a ρ with
    | some (.val (.list es), ρ1) => match ρ1[i]? with
      | some (.own ds) => if ds.length + es.length ≤ sizeLine then some (.nx (ρ1.set i (.own (ds ++ es)))) else none
      | _ => none
    | _ => none
  | _ => none
end
end Dn
namespace PySem
namespace AutoSeq1
open PySem.Sem
theorem iadd_any (l : Addr) (items : Array Value) (n : Nat) (b : Addr) (items2 : Array Value) (n2 : Nat) (sl : Array (Option Value)) (hs0 : ¬(!items.isEmpty && Builtin.List.listTooLong (items.size + items2.size)) = true) (hs1 : items.size ≤ sizeLine) (hs2 : items.size + items2.size ≤ sizeLine + 1 := by seq_fits) :
    Meets (Builtin.«list.__iadd__» ⟨[.ref l, .ref b], []⟩) (fun _ R s => s.heap.get? l = some { cls := .type "list", dict := none, data := .seq items n, slots := #[] } ∧ s.heap.get? b = some { cls := .type "list", dict := none, data := .seq items2 n2, slots := sl } ∧ R (.ok (.ret (Value.ref l))) { s with heap := s.heap.update l (Obj.mapSeq fun x => x ++ items2), toks := s.toks }) :=
  .of_wp fun prog w A R s h => by
    obtain ⟨hp, g, d, tk, os⟩ := s; obtain ⟨hl, hb, h⟩ := h; have f1 := idx_int; have f2 := sub_tuple_tuple; have f3 := sub_list_list; have f4 := sub_tuple_list; have f5 := sub_list_tuple;
    have hz' : (items ++ items2).size ≤ sizeLine + 1 := by rw [Array.size_append]; exact hs2
    wp_walk using (wpAny_updateSeq hl rfl (hz := hs1) (_hz' := hz')), wpAny_loadPart' hl, wpAny_loadPart' hb; exact ⟨_, rfl, h⟩
end AutoSeq1
end PySem
namespace Dn
open PySem PySem.Spec PyProof.Rows L2
open Evl (Ex)
def rExt3 (K : PySem.W.Frag) : R2 := fun x y H Q => ∃ l b xs zs, x = .ref l ∧ y = .ref b ∧ H l = some (.lst xs) ∧ SqL K H b zs ∧ xs.length + zs.length ≤ sizeLine ∧ Q (.ref l) (upd H l (.lst (xs ++ zs)))
theorem iop_ext3 {X : Cx} : OpR X (inplaceOp .Add) (rExt3 X.K) := by
  intro pins s σ H x y v u Q I rx ry h
  obtain ⟨l, b, xs, zs, rfl, rfl, hH, hB, hz, q⟩ := h
  cases rx
  cases ry
  obtain ⟨z, its, n, r, hl, e⟩ := I.lstM hH
  obtain ⟨its2, r2, ⟨⟨c2, d2, dat2, sl2⟩, n2, e2, hc2, hd2, hdat2⟩, hl2⟩ := I.list hB
  simp only at hc2 hd2 hdat2
  subst hc2 hd2 hdat2
  have hsz2 := r2.length
  have hsz : its.toArray.size + its2.toArray.size ≤ sizeLine := by rw [List.size_toArray, List.size_toArray]; omega
  have hlong : ¬ (!its.toArray.isEmpty && Builtin.List.listTooLong (its.toArray.size + its2.toArray.size)) = true := by
    rw [notLongL hsz, Bool.and_false]
    exact Bool.false_ne_true
  refine iadd_road ⟨_, e, rfl⟩ ⟨_, e2, rfl⟩ (call_meets PySem.F.slot_list_iadd ⟨_, e, rfl⟩ PySem.F.entry_list_iadd (PySem.F.args_list_iadd_2 _ _)
    (PySem.AutoSeq1.iadd_any l its.toArray n b its2.toArray n2 sl2 hlong (by rw [List.size_toArray]; omega) (by omega)) ⟨e, e2, ?_⟩)
  refine ⟨.ref l, _, I.lset (its' := its ++ its2) (t' := s.toks) hH e (by simp) (r.append r2) ?_, rfl, q⟩
  rw [List.length_append]
  omega
section
variable {K : PySem.W.Frag} {X : Cx} {e : Expr} {te : TE} {me : MX} {i : Nat} {kp : Nat → Bool} {x : Str} {p pos : Pos}
theorem denS_augV (h1 : Den K te me) : DenS K kp (tAug i te (rExt3 K)) (mAugV i me) := by
  intro G F ρ σ H D o R h q
  unfold mAugV at h
  split at h
  · rename_i ds0 hs0
    split at h
    · rename_i es ρ1 e1
      split at h
      · rename_i ds hs
        split at h
        · rename_i hl
          cases h
          obtain ⟨a, us, haσ, hH0, _⟩ := R.ownVar hs0
          refine ⟨_, haσ, ?_⟩
          refine h1 G F [] ρ σ H _ ρ1 _ R e1 fun v G1 H1 ex1 R1 => ?_
          obtain ⟨b, ws, ev, hb, hr⟩ := lst_of (s := .val (.list es)) R1.l.eg rfl R1.fst
          subst ev
          obtain ⟨a', us', ha', hH, hrs⟩ := R1.ownVar hs
          rw [haσ] at ha'
          cases ha'
          refine ⟨a, b, us', ws, rfl, rfl, hH, hb, by rw [hrs.len, hr.len]; exact hl, ?_⟩
          show D.nx (List.set σ i (some (V.ref a))) _
          rw [set_same haσ]
          exact q G1 σ _ ex1 (Kept.refl kp σ) (R1.drop.mutVar hs haσ (hrs.app hr))
        · cases h
      · cases h
    · cases h
  · cases h
theorem ms_augV (i : Nat) (h1 : ME X X.K e te me) (hN : X.N.Nodup) (hi : X.N[i]? = some x := by rfl) (hx : Loc X.env.scope x := by first | exact Or.inl rfl | exact Or.inr rfl) (hv : X.fn x = true ∨ X.env.scope.names.lookup x = some .local := by first | exact .inl rfl | exact .inr rfl) : MSt X kp (.AugAssign (.Name x p) .Add e pos) (tAug i te (rExt3 X.K)) (mAugV i me) :=
  ⟨ps_aug hN hi hx h1.pe iop_ext3, denS_augV h1.dn⟩
end
end Dn
namespace Dn
open PySem PySem.Spec PyProof.Rows L2
def fMin3 : List Sl → Option Sl
  | [.val (.int a), .val (.int b), .val (.int c)] => some (.val (.int (min (min a b) c)))
  | _ => none
def rMin3 : List V → Hp → VK → Prop := fun xs H Q => ∃ a b c, xs = [V.int a, V.int b, V.int c] ∧ Q (.int (min (min a b) c)) H
theorem call_min3 {X : Cx} (hc : X.calm = true) : CallR X (.builtin "min") rMin3 := by
  intro pins s σ H xs us Q I r h
  obtain ⟨a, b, c, rfl, q⟩ := h
  cases r with
  | cons r1 r =>
    cases r with
    | cons r2 r =>
      cases r with
      | cons r3 r =>
        cases r
        obtain ⟨t1, rfl⟩ := r1
        obtain ⟨t2, rfl⟩ := r2
        obtain ⟨t3, rfl⟩ := r3
        refine PySem.min_three_ints (I.ok.hd hc) fun h' tk k => ⟨.int (min (min a b) c), H, I.kept k, ?_, q⟩
        by_cases h1 : b < a
        · rw [if_pos h1]
          by_cases h2 : c < b
          · rw [if_pos h2, show min (min a b) c = c by omega]; exact ⟨_, rfl⟩
          · rw [if_neg h2, show min (min a b) c = b by omega]; exact ⟨_, rfl⟩
        · rw [if_neg h1]
          by_cases h2 : c < a
          · rw [if_pos h2, show min (min a b) c = c by omega]; exact ⟨_, rfl⟩
          · rw [if_neg h2, show min (min a b) c = a by omega]; exact ⟨_, rfl⟩
theorem fnS_min3 {K : PySem.W.Frag} : FnS K rMin3 fMin3 := by
  intro G F T ρ σ H xs z vs Q hl R h q
  unfold fMin3 at h
  split at h
  · rename_i a b c
    match vs, hl with
    | [v1, v2, v3], _ =>
      cases h
      have h1 := int_of R.fst
      have h2 := int_of R.drop.fst
      have h3 := int_of R.drop.drop.fst
      subst h1 h2 h3
      exact ⟨_, _, _, rfl, q _ G H (Evl.Ex.refl G) (R.drop.drop.drop.pushV (.int _))⟩
  · cases h
theorem vals_two {i j : Int} {t u : Tok} : Vals [V.int i, V.int j] [Value.int i t, Value.int j u] := .cons ⟨t, rfl⟩ (.cons ⟨u, rfl⟩ .nil)
theorem TupK.mk' {K : PySem.W.Frag} {a : Addr} {i j : Int} {dd : Option Addr} {t u : Tok} {n : Nat} {sl : Array (Option Value)} (h : K.lookup a = some ⟨.type "tuple", dd, .seq #[.int i t, .int j u] n, sl⟩) (hz : i * j = 0) : TupK K a i j :=
  ⟨hz, _, _, _, h, rfl, rfl, by show 2 ≤ sizeLine; decide, vals_two⟩
theorem KeyK.mk' {K : PySem.W.Frag} {a : Addr} {i j : Int} {dd : Option Addr} {t u : Tok} {n : Nat} {sl : Array (Option Value)} (h : K.lookup a = some ⟨.type "tuple", dd, .seq #[.int i t, .int j u] n, sl⟩) : KeyK K a i j :=
  ⟨_, _, _, h, rfl, rfl, vals_two⟩
theorem KTT.four {K : PySem.W.Frag} {d a1 a2 a3 a4 b1 b2 b3 b4 : Addr} {q1 q2 q3 q4 : PP} {h1 h2 h3 h4 : Int} {n : Nat} (low : (d == sysModules) = false) (nd : [q1.1, q2.1, q3.1, q4.1].Nodup)
    (h : K.lookup d = some ⟨.type "dict", none, .dict #[⟨h1, .ref a1, .ref b1⟩, ⟨h2, .ref a2, .ref b2⟩, ⟨h3, .ref a3, .ref b3⟩, ⟨h4, .ref a4, .ref b4⟩] n, #[]⟩)
    (e1 : h1 = tkh q1.1.1 q1.1.2) (e2 : h2 = tkh q2.1.1 q2.1.2) (e3 : h3 = tkh q3.1.1 q3.1.2) (e4 : h4 = tkh q4.1.1 q4.1.2)
    (k1 : KeyK K a1 q1.1.1 q1.1.2) (k2 : KeyK K a2 q2.1.1 q2.1.2) (k3 : KeyK K a3 q3.1.1 q3.1.2) (k4 : KeyK K a4 q4.1.1 q4.1.2)
    (v1 : TupK K b1 q1.2.1 q1.2.2) (v2 : TupK K b2 q2.2.1 q2.2.2) (v3 : TupK K b3 q3.2.1 q3.2.2) (v4 : TupK K b4 q4.2.1 q4.2.2) : KTT K d [q1, q2, q3, q4] := by
  subst e1 e2 e3 e4
  exact ⟨low, nd, _, _, h, ⟨a1, b1, rfl, k1, v1⟩, ⟨a2, b2, rfl, k2, v2⟩, ⟨a3, b3, rfl, k3, v3⟩, ⟨a4, b4, rfl, k4, v4⟩, trivial⟩
end Dn
namespace Dn
open PySem PySem.Spec PyProof.Rows L2
section
variable {X : Cx} {kp kp2 : Nat → Bool} {t0 t1 tr : TS} {m0 mr : MS} {mn : MNew} {m1 : MSG}
theorem mss_gh2 {st0 st1 : Stmt} {rest' : List Stmt} (is : List Nat) (hkk : ∀ i, kp i = true → kp2 i = true) (p0 : MSt X kp st0 t0 m0) (p1 : MGSt X kp2 is st1 t1 m1) (pr : MSs X kp rest' tr mr) (hn : DenNew X.K kp is t0 mn) : MSs X kp (st0 :: st1 :: rest') (tSeq t0 (tSeq t1 tr)) (mGh mn m1 is mr) :=
  mss_gh hkk p0.pe p1.pe pr hn p1.dn
end
end Dn
namespace Dn
open PySem PySem.Spec PyProof.Rows L2
open Evl (Ex)
def listsOf : List D → Option (List (List D))
  | [] => some []
  | .list ds :: r => (listsOf r).map (ds :: ·)
  | _ => none
def fSum2 : List Sl → Option Sl
  | [x, .own ws] => match lstOf x with
    | some ds => match listsOf ds with
      | some L => if ws.length + L.flatten.length ≤ sizeLine then some (.own (ws ++ L.flatten)) else none
      | none => none
    | none => none
  | _ => none
end Dn
noncomputable section
namespace PR
open PySem PySem.Spec PyProof.Rows L2 Dn
def mb_is_whole : MS :=
  mRet (mAndV (mUn (fIsi ["int"]) (mVar 0)) (mAndV (mNotV (mUn (fIsi ["bool"]) (mVar 0))) (mBin (fB fun i j => decide (j ≤ i)) (mVar 0) (mVar 1))))
def mf_is_whole : MF := mDef 2 2 (fun _ => false) mb_is_whole
end PR
namespace PR
open PySem PySem.Spec PyProof.Rows L2 Dn
def mb_is_stretch : MS :=
  mSeq (mIfS (mTOr (mTNot (mTru (mUn (fIsi ["list", "tuple"]) (mVar 0)))) (mB (mBin (fEq true) (mFn fLen (mCons (mVar 0) (mNil))) (mC (.int 2))))) (mRet (mC (.bool false))) (mNext)) (mSeq (mAsgT (mVar 0) (mgL (fun _ => false) [2, 3])) (mRet (mAndV (mCall PR.mf_is_whole [] (mCons (mVar 2) (mCons (mVar 1) (mNil)))) (mCall PR.mf_is_whole [] (mCons (mVar 3) (mCons (mVar 2) (mNil)))))))
def mf_is_stretch : MF := mDef 2 4 (fun _ => false) mb_is_stretch
end PR
namespace PR
open PySem PySem.Spec PyProof.Rows L2 Dn
def mb_is_row : MS :=
  mSeq (mIfS (mTNot (mTru (mUn (fIsi ["list", "tuple"]) (mVar 0)))) (mRet (mC (.bool false))) (mNext)) (mSeq (mAsg (fun _ => false) 1 (mC (.int 1))) (mSeq (mFor (miS (mVar 0)) (mgN (fun _ => false) 2) (mSeq (mIfS (mTNot (mTru (mCall PR.mf_is_stretch [] (mCons (mVar 2) (mCons (mVar 1) (mNil)))))) (mRet (mC (.bool false))) (mNext)) (mAsg (fun _ => false) 1 (mBin fAdd (mBin fIx (mVar 2) (mC (.int 1))) (mC (.int 2)))))) (mRet (mC (.bool true)))))
def mf_is_row : MF := mDef 1 3 (fun _ => false) mb_is_row
end PR
namespace PR
open PySem PySem.Spec PyProof.Rows L2 Dn
def mb_given_row : MS :=
  mSeq (mIfS (mTNot (mTru (mCall PR.mf_is_row [] (mCons (mVar 0) (mNil))))) (mNone) (mNext)) (mRet (mComp (miS (mVar 0)) (mgL (fun _ => false) [1, 2]) (mTYes) (mTup (mCons (mVar 1) (mCons (mVar 2) (mNil)))) [1, 2]))
def mf_given_row : MF := mDef 1 3 (fun _ => false) mb_given_row
end PR
namespace PR
open PySem PySem.Spec PyProof.Rows L2 Dn
def mb_last_of : MS :=
  mRet (mIf (mTru (mVar 0)) (mBin fIx (mBin fIx (mVar 0) (mUn fNeg (mC (.int 1)))) (mC (.int 1))) (mC (.int 0)))
def mf_last_of : MF := mDef 1 1 (fun _ => false) mb_last_of
end PR
namespace LA
open PySem PySem.Spec PyProof.Rows L2 Dn
def mb__law_same (self : MF) : MS :=
  mSeq (mIfS (mTru (mUn (fIsi ["list", "tuple"]) (mVar 1))) (mSeq (mIfS (mTOr (mTNot (mTru (mUn (fIsi ["list", "tuple"]) (mVar 0)))) (mB (mBin (fEq true) (mUn (fIsi ["list"]) (mVar 0)) (mUn (fIsi ["list"]) (mVar 1))))) (mRet (mC (.bool false))) (mNext)) (mRet (mAndV (mBin (fEq false) (mFn fLen (mCons (mVar 0) (mNil))) (mFn fLen (mCons (mVar 1) (mNil)))) (mFn fAll (mCons (mComp (miZ (mCons (mVar 0) (mCons (mVar 1) (mNil)))) (mgL (fun _ => false) [2, 3]) (mTYes) (mCall self [] (mCons (mVar 2) (mCons (mVar 3) (mNil)))) [2, 3]) (mNil)))))) (mNext)) (mSeq (mIfS (mTOr (mTru (mUn (fIsi ["bool", "str"]) (mVar 1))) (mB (mBin (fIsN false) (mVar 1) (mC .none)))) (mRet (mAndV (mBin (fEq false) (mUn (fIsi ["bool"]) (mVar 0)) (mUn (fIsi ["bool"]) (mVar 1))) (mBin (fEq false) (mVar 0) (mVar 1)))) (mNext)) (mRet (mAndV (mUn (fIsi ["int"]) (mVar 0)) (mAndV (mNotV (mUn (fIsi ["bool"]) (mVar 0))) (mBin (fEq false) (mVar 0) (mVar 1))))))
def mf__law_same : Nat → MF
  | 0 => fun _ => none
  | n + 1 => mDef 2 4 (fun _ => false) (mb__law_same (mf__law_same n))
end LA
namespace PR
open PySem PySem.Spec PyProof.Rows L2 Dn
def lb_strips_of_1 : MS :=
  mSeq (mAugL 2 (mLst (mCons (mTup (mCons (mC (.int 0)) (mCons (mBin (fI (fun _ _ => true) fun i j => i - j) (mVar 4) (mVar 3)) (mNil)))) (mCons (mTup (mCons (mC (.int 1)) (mCons (mBin fAdd (mBin (fI (fun _ _ => true) fun i j => i - j) (mVar 5) (mVar 4)) (mC (.int 1))) (mNil)))) (mNil))))) (mAsg (fun _ => false) 3 (mBin fAdd (mVar 5) (mC (.int 1))))
def lc_strips_of_2 : MX :=
  mComp (miS (mVar 2)) (mgN (fun _ => false) 6) (mB (mBin (fB fun i j => decide (j < i)) (mBin fIx (mVar 6) (mC (.int 1))) (mC (.int 0)))) (mVar 6) [6]
def mb_strips_of : MS :=
  mSeq (mAsg (fun _ => false) 2 (mLst (mNil))) (mSeq (mAsg (fun _ => false) 3 (mC (.int 1))) (mSeq (mFor (miS (mVar 0)) (mgL (fun _ => false) [4, 5]) (lb_strips_of_1)) (mSeq (mExpr (mMeth 2 fApp (mCons (mTup (mCons (mC (.int 0)) (mCons (mBin (fI (fun _ _ => true) fun i j => i - j) (mBin fAdd (mVar 1) (mC (.int 1))) (mVar 3)) (mNil)))) (mNil)))) (mRet (lc_strips_of_2)))))
def mf_strips_of : MF := mDef 2 7 (fun _ => false) mb_strips_of
end PR
namespace PR
open PySem PySem.Spec PyProof.Rows L2 Dn
def mb_climbed : MS :=
  mSeq (mAsgT (mVar 0) (mgL (fun _ => false) [3, 4])) (mSeq (mIfS (mB (mBin (fEq false) (mVar 1) (mC (.int 1)))) (mRet (mTup (mCons (mBin fAdd (mVar 3) (mBin fMul (mBin fMul (mC (.int 2)) (mVar 2)) (mVar 4))) (mCons (mVar 4) (mNil))))) (mNext)) (mRet (mTup (mCons (mVar 3) (mCons (mBin fAdd (mVar 4) (mBin fMul (mBin fMul (mC (.int 2)) (mVar 2)) (mVar 3))) (mNil))))))
def mf_climbed : MF := mDef 3 5 (fun _ => false) mb_climbed
end PR
namespace PR
open PySem PySem.Spec PyProof.Rows L2 Dn
def lb_rungs_within_1 : MS :=
  mAsg (fun _ => false) 2 (mCall PR.mf_climbed [] (mCons (mVar 2) (mCons (mVar 3) (mCons (mVar 4) (mNil)))))
def mb_rungs_within : MS :=
  mSeq (mAsg (fun _ => false) 2 (mTup (mCons (mC (.int 1)) (mCons (mC (.int 1)) (mNil))))) (mSeq (mFor (miN (mCall PR.mf_strips_of [] (mCons (mVar 0) (mCons (mVar 1) (mNil))))) (mgL (fun _ => false) [3, 4]) (lb_rungs_within_1)) (mRet (mVar 2)))
def mf_rungs_within : MF := mDef 2 5 (fun _ => false) mb_rungs_within
end PR
namespace PR
open PySem PySem.Spec PyProof.Rows L2 Dn
def mb_way_up : MS :=
  mRet (mBin (fI (fun _ _ => true) fun i j => i - j) (mBin fIx (mCall PR.mf_rungs_within [] (mCons (mVar 0) (mCons (mCall PR.mf_last_of [] (mCons (mVar 0) (mNil))) (mNil)))) (mC (.int 0))) (mC (.int 1)))
def mf_way_up : MF := mDef 1 1 (fun _ => false) mb_way_up
end PR
namespace LC
open PySem PySem.Spec PyProof.Rows L2 Dn
def mb__law_bag : MS :=
  mSeq (mAsg (fun _ => false) 2 (mFn fMax2 (mCons (mVar 0) (mCons (mBin (fI (fun _ _ => true) fun i j => i - j) (mC (.int 0)) (mVar 0)) (mNil))))) (mRet (mLst (mCons (mFn fMax2 (mCons (mC (.int 0)) (mCons (mBin (fI (fun _ _ => true) fun i j => i - j) (mVar 2) (mBin (fI cPow fun i j => i ^ j.toNat) (mC (.int 10)) (mC (.int 18)))) (mNil)))) (mCons (mBin (fI cMod fun i j => i % j) (mBin fAdd (mBin fMul (mVar 0) (mC (.int 633910099))) (mBin fMul (mBin (fI cPow fun i j => i ^ j.toNat) (mC (.int 715827883)) (mC (.int 4))) (mBin fAdd (mVar 1) (mC (.int 1))))) (mBin fAdd (mBin (fI cPow fun i j => i ^ j.toNat) (mC (.int 10)) (mC (.int 41))) (mC (.int 63)))) (mCons (mC (.int 0)) (mNil))))))
def mf__law_bag : MF := mDef 2 3 (fun _ => false) mb__law_bag
end LC
namespace LC
open PySem PySem.Spec PyProof.Rows L2 Dn
def mb__law_draw : MS :=
  mSeq (mIfS (mB (mBin (fB fun i j => decide (j < i)) (mIxO 0 (mC (.int 0))) (mC (.int 1)))) (mSeq (mAsg (fun j => j == 0) 2 (mBin (fI cMod fun i j => i % j) (mIxO 0 (mC (.int 0))) (mVar 1))) (mSeq (mSetO 0 (mC (.int 0)) (mBin (fI cDiv fun i j => i / j) (mIxO 0 (mC (.int 0))) (mVar 1))) (mRet (mVar 2)))) (mNext)) (mSeq (mSetO 0 (mC (.int 2)) (mBin fAdd (mIxO 0 (mC (.int 2))) (mC (.int 1)))) (mSeq (mAsg (fun j => j == 0) 3 (mBin (fI cMod fun i j => i % j) (mBin fAdd (mIxO 0 (mC (.int 1))) (mBin fMul (mIxO 0 (mC (.int 2))) (mBin (fI cPow fun i j => i ^ j.toNat) (mC (.int 73856093)) (mC (.int 3))))) (mBin fAdd (mBin (fI cPow fun i j => i ^ j.toNat) (mC (.int 10)) (mC (.int 41))) (mC (.int 63))))) (mSeq (mAsg (fun j => j == 0) 3 (mBin fAdd (mBin (fI cMod fun i j => i % j) (mBin (fI cPow fun i j => i ^ j.toNat) (mVar 3) (mC (.int 3))) (mBin fAdd (mBin (fI cPow fun i j => i ^ j.toNat) (mC (.int 10)) (mC (.int 39))) (mC (.int 33)))) (mBin fMul (mIxO 0 (mC (.int 2))) (mC (.int 19349663))))) (mRet (mBin (fI cMod fun i j => i % j) (mBin (fI cDiv fun i j => i / j) (mBin (fI cMod fun i j => i % j) (mBin (fI cPow fun i j => i ^ j.toNat) (mVar 3) (mC (.int 5))) (mBin fAdd (mBin (fI cPow fun i j => i ^ j.toNat) (mC (.int 10)) (mC (.int 37))) (mC (.int 43)))) (mC (.int 65537))) (mVar 1))))))
def mf__law_draw : MF := mDef 2 4 (fun j => j == 0) mb__law_draw
end LC
namespace LC
open PySem PySem.Spec PyProof.Rows L2 Dn
def mb__law_same (self : MF) : MS :=
  mSeq (mIfS (mTru (mUn (fIsi ["list", "tuple"]) (mVar 1))) (mSeq (mIfS (mTOr (mTNot (mTru (mUn (fIsi ["list", "tuple"]) (mVar 0)))) (mB (mBin (fEq true) (mUn (fIsi ["list"]) (mVar 0)) (mUn (fIsi ["list"]) (mVar 1))))) (mRet (mC (.bool false))) (mNext)) (mRet (mAndV (mBin (fEq false) (mFn fLen (mCons (mVar 0) (mNil))) (mFn fLen (mCons (mVar 1) (mNil)))) (mFn fAll (mCons (mComp (miR1 (mCons (mFn fLen (mCons (mVar 1) (mNil))) (mNil))) (mgN (fun _ => false) 2) (mTYes) (mCall self [] (mCons (mBin fIx (mVar 0) (mVar 2)) (mCons (mBin fIx (mVar 1) (mVar 2)) (mNil)))) [2]) (mNil)))))) (mNext)) (mSeq (mIfS (mTru (mUn (fIsi ["int"]) (mVar 1))) (mRet (mAndV (mUn (fIsi ["int"]) (mVar 0)) (mAndV (mBin (fEq false) (mUn (fIsi ["bool"]) (mVar 0)) (mUn (fIsi ["bool"]) (mVar 1))) (mBin (fEq false) (mVar 0) (mVar 1))))) (mNext)) (mRet (mBin (fEq false) (mVar 0) (mVar 1))))
def mf__law_same (n : Nat) : MF := Nat.rec (motive := fun _ => MF) (fun _ => none) (fun _ self => mDef 2 3 (fun _ => false) (mb__law_same self)) n
theorem mf__law_same_succ (n : Nat) : mf__law_same (n + 1) = mDef 2 3 (fun _ => false) (mb__law_same (mf__law_same n)) := rfl
end LC
namespace LC
open PySem PySem.Spec PyProof.Rows L2 Dn
def mb__law_climbed : MS :=
  mSeq (mIfS (mTru (mVar 1)) (mRet (mLst (mCons (mBin fAdd (mBin fIx (mVar 0) (mC (.int 0))) (mBin fMul (mBin fMul (mC (.int 2)) (mVar 2)) (mBin fIx (mVar 0) (mC (.int 1))))) (mCons (mBin fIx (mVar 0) (mC (.int 1))) (mNil))))) (mNext)) (mRet (mLst (mCons (mBin fIx (mVar 0) (mC (.int 0))) (mCons (mBin fAdd (mBin fIx (mVar 0) (mC (.int 1))) (mBin fMul (mBin fMul (mC (.int 2)) (mVar 2)) (mBin fIx (mVar 0) (mC (.int 0))))) (mNil)))))
def mf__law_climbed : MF := mDef 3 3 (fun _ => false) mb__law_climbed
end LC
namespace LE
open PySem PySem.Spec PyProof.Rows L2 Dn
def mb__law_mix : MS :=
  mSeq (mAsg (fun j => j == 0) 1 (mIxO 0 (mC (.int 1)))) (mSeq (mSetO 0 (mC (.int 1)) (mBin (fI cMod fun i j => i % j) (mBin fAdd (mBin fAdd (mBin fMul (mVar 1) (mVar 1)) (mBin fMul (mC (.int 69069)) (mVar 1))) (mIxO 0 (mC (.int 2)))) (mBin fAdd (mBin (fI cPow fun i j => i ^ j.toNat) (mC (.int 10)) (mC (.int 37))) (mC (.int 43))))) (mSetO 0 (mC (.int 2)) (mBin fAdd (mIxO 0 (mC (.int 2))) (mC (.int 2)))))
def mf__law_mix : MF := mDef 1 2 (fun j => j == 0) mb__law_mix
end LE
namespace LE
open PySem PySem.Spec PyProof.Rows L2 Dn
def mb__law_bag : MS :=
  mSeq (mAsg (fun _ => false) 1 (mLst (mCons (mFn fMax2 (mCons (mC (.int 0)) (mCons (mBin (fI (fun _ _ => true) fun i j => i - j) (mVar 0) (mBin (fI cPow fun i j => i ^ j.toNat) (mC (.int 10)) (mC (.int 18)))) (mNil)))) (mCons (mBin fAdd (mBin fAdd (mBin fMul (mBin (fI cMod fun i j => i % j) (mVar 0) (mBin (fI cPow fun i j => i ^ j.toNat) (mC (.int 10)) (mC (.int 24)))) (mC (.int 30011))) (mBin (fI cPow fun i j => i ^ j.toNat) (mC (.int 10)) (mC (.int 30)))) (mC (.int 33))) (mCons (mC (.int 7)) (mNil)))))) (mSeq (mExpr (mCallM LE.mf__law_mix 1 [] (mNil))) (mSeq (mExpr (mCallM LE.mf__law_mix 1 [] (mNil))) (mRetO 1)))
def mf__law_bag : MF := mDef 1 2 (fun _ => false) mb__law_bag
end LE
namespace LE
open PySem PySem.Spec PyProof.Rows L2 Dn
def mb__law_draw : MS :=
  mSeq (mIfS (mB (mBin (fB fun i j => decide (j < i)) (mIxO 0 (mC (.int 0))) (mC (.int 0)))) (mSeq (mAsg (fun j => j == 0) 2 (mBin (fI cMod fun i j => i % j) (mIxO 0 (mC (.int 0))) (mVar 1))) (mSeq (mSetO 0 (mC (.int 0)) (mBin (fI cDiv fun i j => i / j) (mIxO 0 (mC (.int 0))) (mVar 1))) (mRet (mVar 2)))) (mNext)) (mSeq (mExpr (mCallM LE.mf__law_mix 0 [] (mNil))) (mRet (mBin (fI cMod fun i j => i % j) (mBin (fI cDiv fun i j => i / j) (mIxO 0 (mC (.int 1))) (mBin (fI cPow fun i j => i ^ j.toNat) (mC (.int 10)) (mC (.int 9)))) (mVar 1))))
def mf__law_draw : MF := mDef 2 3 (fun j => j == 0) mb__law_draw
end LE
namespace LE
open PySem PySem.Spec PyProof.Rows L2 Dn
def lc__law_places_1 : MX :=
  mComp (miR2 (mCons (mC (.int 1)) (mCons (mBin fAdd (mC (.int 1)) (mCallM LE.mf__law_draw 0 [] (mCons (mBin fAdd (mVar 1) (mC (.int 1))) (mNil)))) (mNil)))) (mgN (fun _ => false) 3) (mB (mBin (fB fun i j => decide (i < j)) (mCallM LE.mf__law_draw 0 [] (mCons (mC (.int 4)) (mNil))) (mVar 2))) (mVar 3) [3]
def mb__law_places : MS :=
  mSeq (mAsg (fun j => j == 0) 2 (mBin fAdd (mC (.int 1)) (mCallM LE.mf__law_draw 0 [] (mCons (mC (.int 3)) (mNil))))) (mRet (lc__law_places_1))
def mf__law_places : MF := mDef 2 4 (fun j => j == 0) mb__law_places
end LE
namespace LE
open PySem PySem.Spec PyProof.Rows L2 Dn
def lb__law_stretched_1 : MS :=
  mIfS (mTAnd (mB (mEqO true 1 (mLst (mNil)))) (mB (mBin (fEq false) (mBin fIx (mIxO 1 (mUn fNeg (mC (.int 1)))) (mC (.int 1))) (mBin (fI (fun _ _ => true) fun i j => i - j) (mVar 2) (mC (.int 1)))))) (mSetO 1 (mUn fNeg (mC (.int 1))) (mTup (mCons (mBin fIx (mIxO 1 (mUn fNeg (mC (.int 1)))) (mC (.int 0))) (mCons (mVar 2) (mNil))))) (mExpr (mMeth 1 fApp (mCons (mTup (mCons (mVar 2) (mCons (mVar 2) (mNil)))) (mNil))))
def mb__law_stretched : MS :=
  mSeq (mAsg (fun _ => false) 1 (mLst (mNil))) (mSeq (mFor (miS (mVar 0)) (mgN (fun _ => false) 2) (lb__law_stretched_1)) (mRetO 1))
def mf__law_stretched : MF := mDef 1 3 (fun _ => false) mb__law_stretched
end LE
namespace LE
open PySem PySem.Spec PyProof.Rows L2 Dn
def lc__law_next_1 : MX :=
  mComp (miS (mVar 0)) (mgN (fun _ => false) 2) (mB (mBin (fEq true) (mVar 2) (mVar 1))) (mVar 2) [2]
def mb__law_next : MS :=
  mSeq (mAsg (fun _ => false) 1 (mFn fLen (mCons (mVar 0) (mNil)))) (mSeq (mIfS (mB (mBin (fEq false) (mVar 1) (mC (.int 0)))) (mRet (mLst (mNil))) (mNext)) (mRet (mIf (mB (mBin (fIn false) (mVar 1) (mVar 0))) (lc__law_next_1) (mFn fSortA (mCons (mBin fAdd (mVar 0) (mLst (mCons (mVar 1) (mNil)))) (mNil))))))
def mf__law_next : MF := mDef 1 3 (fun _ => false) mb__law_next
end LE
namespace LE
open PySem PySem.Spec PyProof.Rows L2 Dn
def mb__law_same (self : MF) : MS :=
  mSeq (mIfS (mTru (mUn (fIsi ["list", "tuple"]) (mVar 1))) (mSeq (mIfS (mTOr (mB (mBin (fEq true) (mUn (fIsi ["list"]) (mVar 0)) (mUn (fIsi ["list"]) (mVar 1)))) (mTNot (mTru (mUn (fIsi ["list", "tuple"]) (mVar 0))))) (mRet (mC (.bool false))) (mNext)) (mRet (mAndV (mBin (fEq false) (mFn fLen (mCons (mVar 0) (mNil))) (mFn fLen (mCons (mVar 1) (mNil)))) (mFn fAll (mCons (mComp (miR1 (mCons (mFn fLen (mCons (mVar 1) (mNil))) (mNil))) (mgN (fun _ => false) 2) (mTYes) (mCall self [] (mCons (mBin fIx (mVar 0) (mVar 2)) (mCons (mBin fIx (mVar 1) (mVar 2)) (mNil)))) [2]) (mNil)))))) (mNext)) (mRet (mAndV (mUn (fIsi ["int"]) (mVar 0)) (mAndV (mNotV (mUn (fIsi ["bool"]) (mVar 0))) (mBin (fEq false) (mVar 0) (mVar 1)))))
def mf__law_same (n : Nat) : MF := Nat.rec (motive := fun _ => MF) (fun _ => none) (fun _ self => mDef 2 3 (fun _ => false) (mb__law_same self)) n
theorem mf__law_same_succ (n : Nat) : mf__law_same (n + 1) = mDef 2 3 (fun _ => false) (mb__law_same (mf__law_same n)) := rfl
end LE
namespace LE
open PySem PySem.Spec PyProof.Rows L2 Dn
def lc__law_sets_1 : MX :=
  mComp (miS (mVar 1)) (mgN (fun _ => false) 3) (mTYes) (mBin fAdd (mVar 3) (mLst (mCons (mVar 2) (mNil)))) [3]
def lb__law_sets_2 : MS :=
  mAsg (fun _ => false) 1 (mBin fAdd (mVar 1) (lc__law_sets_1))
def mb__law_sets : MS :=
  mSeq (mAsg (fun _ => false) 1 (mLst (mCons (mLst (mNil)) (mNil)))) (mSeq (mFor (miR2 (mCons (mC (.int 1)) (mCons (mBin fAdd (mVar 0) (mC (.int 1))) (mNil)))) (mgN (fun _ => false) 2) (lb__law_sets_2)) (mRetO 1))
def mf__law_sets : MF := mDef 1 4 (fun _ => false) mb__law_sets
end LE
namespace LG
open PySem PySem.Spec PyProof.Rows L2 Dn
def mb__law_draw : MS :=
  mSeq (mSetO 0 (mC (.int 2)) (mBin fAdd (mIxO 0 (mC (.int 2))) (mC (.int 1)))) (mSeq (mAsg (fun j => j == 0) 2 (mBin (fI cMod fun i j => i % j) (mBin (fI cPow fun i j => i ^ j.toNat) (mBin fAdd (mBin fAdd (mIxO 0 (mC (.int 1))) (mBin fMul (mBin fMul (mC (.int 7)) (mIxO 0 (mC (.int 2)))) (mIxO 0 (mC (.int 2))))) (mC (.int 1))) (mC (.int 2))) (mC (.int 2147483587)))) (mSeq (mSetO 0 (mC (.int 1)) (mBin (fI cMod fun i j => i % j) (mBin fAdd (mBin fMul (mVar 2) (mC (.int 69621))) (mBin fMul (mC (.int 40692)) (mIxO 0 (mC (.int 2))))) (mC (.int 2147483629)))) (mSeq (mAsg (fun j => j == 0) 3 (mBin (fI cMod fun i j => i % j) (mBin (fI cDiv fun i j => i / j) (mIxO 0 (mC (.int 1))) (mC (.int 64))) (mVar 1))) (mSeq (mIfS (mB (mBin (fB fun i j => decide (j < i)) (mIxO 0 (mC (.int 0))) (mC (.int 0)))) (mSeq (mAsg (fun j => j == 0) 3 (mBin (fI cMod fun i j => i % j) (mIxO 0 (mC (.int 0))) (mVar 1))) (mSetO 0 (mC (.int 0)) (mBin (fI cDiv fun i j => i / j) (mIxO 0 (mC (.int 0))) (mVar 1)))) (mNext)) (mRet (mVar 3))))))
def mf__law_draw : MF := mDef 2 4 (fun j => j == 0) mb__law_draw
end LG
namespace LG
open PySem PySem.Spec PyProof.Rows L2 Dn
def lc__law_all_1 : MX :=
  mComp (miS (mVar 3)) (mgL (fun _ => false) [5, 6]) (mTYes) (mTup (mCons (mBin fAdd (mVar 5) (mBin fMul (mC (.int 2)) (mVar 6))) (mCons (mVar 6) (mNil)))) [5, 6]
def lc__law_all_2 : MX :=
  mComp (miS (mVar 3)) (mgL (fun _ => false) [5, 6]) (mTYes) (mTup (mCons (mVar 5) (mCons (mBin fAdd (mVar 6) (mBin fMul (mC (.int 2)) (mVar 5))) (mNil)))) [5, 6]
def lb__law_all_3 : MS :=
  mAsg (fun _ => false) 3 (mBin fAdd (lc__law_all_1) (lc__law_all_2))
def lc__law_all_4 : MX :=
  mComp (miS (mVar 3)) (mgL (fun _ => false) [5, 6]) (mTYes) (mVar 5) [5, 6]
def mb__law_all : MS :=
  mSeq (mAsg (fun _ => false) 3 (mLst (mCons (mTup (mCons (mVar 0) (mCons (mVar 1) (mNil)))) (mNil)))) (mSeq (mFor (miR1 (mCons (mVar 2) (mNil))) (mgN (fun _ => false) 4) (lb__law_all_3)) (mRet (mFn fSum (mCons (lc__law_all_4) (mNil)))))
def mf__law_all : MF := mDef 3 7 (fun _ => false) mb__law_all
end LG
namespace PR
open PySem PySem.Spec PyProof.Rows L2 Dn
def lb_row_of_strips_1 : MS :=
  mSeq (mIfS (mTAnd (mB (mBin (fEq false) (mVar 3) (mC (.int 1)))) (mB (mBin (fB fun i j => decide (j < i)) (mVar 4) (mC (.int 0))))) (mSeq (mAsg (fun _ => false) 5 (mBin fAdd (mVar 2) (mC (.int 1)))) (mSeq (mIfS (mTAnd (mTruO 1) (mB (mBin (fEq false) (mCallN PR.mf_last_of (mConsO 1 (mNilN))) (mVar 2)))) (mAsg (fun _ => false) 5 (mBin fIx (mMeth 1 fPop mNil) (mC (.int 0)))) (mNext)) (mExpr (mMeth 1 fApp (mCons (mTup (mCons (mVar 5) (mCons (mBin fAdd (mVar 2) (mVar 4)) (mNil)))) (mNil)))))) (mNext)) (mAug (fun _ => false) 2 (fun i j => i + j) (mVar 4))
def mb_row_of_strips : MS :=
  mSeq (mAsg (fun _ => false) 1 (mLst (mNil))) (mSeq (mAsg (fun _ => false) 2 (mC (.int 0))) (mSeq (mFor (miS (mVar 0)) (mgL (fun _ => false) [3, 4]) (lb_row_of_strips_1)) (mRetO 1)))
def mf_row_of_strips : MF := mDef 1 6 (fun _ => false) mb_row_of_strips
end PR
namespace PR
open PySem PySem.Spec PyProof.Rows L2 Dn
def mb_opposite : MS :=
  mSeq (mAsgT (mVar 0) (mgL (fun _ => false) [1, 2])) (mRet (mTup (mCons (mBin (fI (fun _ _ => true) fun i j => i - j) (mC (.int 1)) (mVar 1)) (mCons (mBin (fI (fun _ _ => true) fun i j => i - j) (mC (.int 1)) (mVar 2)) (mNil)))))
def mf_opposite : MF := mDef 1 3 (fun _ => false) mb_opposite
end PR
namespace PR
open PySem PySem.Spec PyProof.Rows L2 Dn
def mb_even_kind : MS :=
  mSeq (mAsgT (mVar 0) (mgL (fun _ => false) [1, 2])) (mRet (mBin (fEq false) (mVar 1) (mVar 2)))
def mf_even_kind : MF := mDef 1 3 (fun _ => false) mb_even_kind
end PR
namespace PR
open PySem PySem.Spec PyProof.Rows L2 Dn
def mb_coin_told : MS :=
  mRet (mFn fInt (mCons (mBin (fEq true) (mCall PR.mf_even_kind [] (mCons (mVar 0) (mNil))) (mBin (fEq false) (mVar 0) (mVar 1))) (mNil)))
def mf_coin_told : MF := mDef 2 2 (fun _ => false) mb_coin_told
end PR
namespace PR
open PySem PySem.Spec PyProof.Rows L2 Dn
def mb_kind_behind : MS :=
  mSeq (mAsgT (mVar 0) (mgL (fun _ => false) [1, 2, 3])) (mRet (mIf (mTru (mBin fAnd1 (mVar 3) (mC (.int 1)))) (mVar 2) (mVar 1)))
def mf_kind_behind : MF := mDef 1 4 (fun _ => false) mb_kind_behind
end PR
namespace PR
open PySem PySem.Spec PyProof.Rows L2 Dn
def lc_one_way_1 : MX :=
  mComp (miS (mVar 4)) (mgN (fun _ => false) 5) (mB (mBin (fB fun i j => decide (j < i)) (mBin fIx (mVar 5) (mC (.int 2))) (mC (.int 0)))) (mVar 5) [5]
def mb_one_way : MS :=
  mSeq (mAsgT (mVar 0) (mgL (fun _ => false) [1, 2, 3])) (mSeq (mIfS (mB (mBin (fEq true) (mVar 2) (mCall PR.mf_opposite [] (mCons (mVar 1) (mNil))))) (mRet (mLst (mCons (mVar 0) (mNil)))) (mNext)) (mSeq (mAsg (fun _ => false) 4 (mLst (mCons (mTup (mCons (mVar 1) (mCons (mVar 2) (mCons (mBin (fI cDiv fun i j => i / j) (mBin fAdd (mVar 3) (mC (.int 1))) (mC (.int 2))) (mNil))))) (mCons (mTup (mCons (mVar 2) (mCons (mVar 1) (mCons (mBin (fI cDiv fun i j => i / j) (mVar 3) (mC (.int 2))) (mNil))))) (mNil))))) (mRet (lc_one_way_1))))
def mf_one_way : MF := mDef 1 6 (fun _ => false) mb_one_way
end PR
namespace PR
open PySem PySem.Spec PyProof.Rows L2 Dn
def mb_part_of : MS :=
  mSeq (mAsgT (mVar 0) (mgL (fun _ => false) [2, 3, 4])) (mSeq (mAsgT (mVar 1) (mgL (fun _ => false) [5, 6])) (mSeq (mIfS (mB (mBin (fEq false) (mVar 3) (mVar 2))) (mRet (mTup (mCons (mC (.int 0)) (mCons (mC (.bool false)) (mNil))))) (mNext)) (mSeq (mIfS (mB (mBin (fEq false) (mVar 3) (mCall PR.mf_opposite [] (mCons (mVar 2) (mNil))))) (mRet (mIf (mTru (mCall PR.mf_even_kind [] (mCons (mVar 2) (mNil)))) (mTup (mCons (mBin fMul (mVar 4) (mVar 6)) (mCons (mFn fBool1 (mCons (mBin fAnd1 (mVar 4) (mC (.int 1))) (mNil))) (mNil)))) (mTup (mCons (mBin fMul (mVar 4) (mVar 5)) (mCons (mC (.bool false)) (mNil)))))) (mNext)) (mRet (mTup (mCons (mIf (mB (mBin (fEq false) (mVar 3) (mUn (fKTT [((0, 0), (0, 1)), ((1, 1), (1, 0)), ((0, 1), (0, 0)), ((1, 0), (0, 0))]) (mVar 2)))) (mC (.int 0)) (mBin fAdd (mVar 5) (mVar 6))) (mCons (mBin (fInD false) (mTup (mCons (mC (.int 1)) (mCons (mC (.int 0)) (mNil)))) (mTup (mCons (mVar 2) (mCons (mVar 3) (mNil))))) (mNil))))))))
def mf_part_of : MF := mDef 2 7 (fun _ => false) mb_part_of
end PR
namespace PR
open PySem PySem.Spec PyProof.Rows L2 Dn
def mb_pairs_on : MS :=
  mSeq (mAsgT (mVar 1) (mgL (fun _ => false) [2, 3])) (mRet (mIf (mTru (mCall PR.mf_even_kind [] (mCons (mVar 0) (mNil)))) (mVar 2) (mVar 3)))
def mf_pairs_on : MF := mDef 2 4 (fun _ => false) mb_pairs_on
end PR
namespace PR
open PySem PySem.Spec PyProof.Rows L2 Dn
def mb_row_of_ends : MS :=
  mSeq (mAsgT (mVar 0) (mgL (fun _ => false) [1, 2])) (mRet (mCall PR.mf_row_of_strips [] (mCons (mBin fAdd (mVar 2) (mUn fRevSl (mVar 1))) (mNil))))
def mf_row_of_ends : MF := mDef 1 3 (fun _ => false) mb_row_of_ends
end PR
namespace PR
open PySem PySem.Spec PyProof.Rows L2 Dn
def lg_pair_of_1 : MSG :=
  mSeqG (mMethG 0 (mVar 4) fApp (mCons (mTup (mCons (mVar 7) (mCons (mVar 8) (mNil)))) (mNil))) (mMethG 1 (mVar 5) fApp (mCons (mTup (mCons (mVar 6) (mCons (mVar 8) (mNil)))) (mNil)))
def lg_pair_of_2 : MSG :=
  mForG (miN (mCall PR.mf_one_way [] (mCons (mVar 3) (mNil)))) (mgPL (fun j => j == 1 || j == 2) [.t [4, 5], .t [6, 7], .n 8]) (lg_pair_of_1)
def mb_pair_of : MS :=
  mGh (mNewP (fun _ => false) 1 2) (mForG (miS (mVar 0)) (mgN (fun j => j == 1 || j == 2) 3) (lg_pair_of_2)) [1, 2] (mRet (mTup (mCons (mCall PR.mf_row_of_ends [] (mCons (mVar 1) (mNil))) (mCons (mCall PR.mf_row_of_ends [] (mCons (mVar 2) (mNil))) (mNil)))))
def mf_pair_of : MF := mDef 1 9 (fun _ => false) mb_pair_of
end PR
namespace PR
open PySem PySem.Spec PyProof.Rows L2 Dn
def mb_far_in : MS :=
  mSeq (mAsgT (mCall PR.mf_part_of [] (mCons (mVar 0) (mCons (mVar 2) (mNil)))) (mgL (fun _ => false) [3, 4])) (mSeq (mIfS (mTru (mVar 4)) (mRet (mBin (fI (fun _ _ => true) fun i j => i - j) (mBin (fI (fun _ _ => true) fun i j => i - j) (mCall PR.mf_pairs_on [] (mCons (mBin fIx (mVar 0) (mC (.int 1))) (mCons (mVar 2) (mNil)))) (mC (.int 1))) (mBin (fI (fun _ _ => true) fun i j => i - j) (mVar 1) (mVar 3)))) (mNext)) (mRet (mBin (fI (fun _ _ => true) fun i j => i - j) (mVar 1) (mVar 3))))
def mf_far_in : MF := mDef 3 5 (fun _ => false) mb_far_in
end PR
namespace PR
open PySem PySem.Spec PyProof.Rows L2 Dn
def mb_layers_at : MS :=
  mSeq (mAsgT (mVar 2) (mgL (fun _ => false) [4, 5])) (mSeq (mIfS (mB (mBin (fEq false) (mVar 4) (mCall PR.mf_coin_told [] (mCons (mVar 0) (mCons (mVar 0) (mNil)))))) (mRet (mTup (mCons (mLst (mCons (mTup (mCons (mVar 0) (mCons (mVar 0) (mCons (mVar 5) (mNil))))) (mNil))) (mCons (mVar 1) (mNil))))) (mNext)) (mSeq (mAsg (fun _ => false) 6 (mCall PR.mf_pairs_on [] (mCons (mVar 0) (mCons (mVar 3) (mNil))))) (mSeq (mAsg (fun _ => false) 7 (mBin (fI (fun _ _ => true) fun i j => i - j) (mFn fSumT (mCons (mVar 3) (mNil))) (mVar 6))) (mSeq (mAsg (fun _ => false) 8 (mBin fAdd (mVar 6) (mBin fMul (mBin fMul (mC (.int 2)) (mVar 5)) (mVar 7)))) (mSeq (mAsg (fun _ => false) 9 (mFn fMin3 (mCons (mBin (fI cDiv fun i j => i / j) (mVar 1) (mVar 7)) (mCons (mBin (fI cDiv fun i j => i / j) (mBin (fI (fun _ _ => true) fun i j => i - j) (mBin (fI (fun _ _ => true) fun i j => i - j) (mVar 8) (mC (.int 1))) (mVar 1)) (mVar 7)) (mCons (mVar 5) (mNil)))))) (mSeq (mAsg (fun _ => false) 10 (mLst (mCons (mTup (mCons (mVar 0) (mCons (mCall PR.mf_opposite [] (mCons (mVar 0) (mNil))) (mCons (mVar 9) (mNil))))) (mNil)))) (mSeq (mAsg (fun _ => false) 1 (mCall PR.mf_far_in [] (mCons (mIxO 10 (mC (.int 0))) (mCons (mVar 1) (mCons (mCall PR.mf_climbed [] (mCons (mVar 3) (mCons (mVar 4) (mCons (mBin (fI (fun _ _ => true) fun i j => i - j) (mVar 5) (mVar 9)) (mNil))))) (mNil)))))) (mSeq (mIfS (mB (mBin (fEq false) (mVar 9) (mVar 5))) (mRet (mTup (mCons (mVar 10) (mCons (mVar 1) (mNil))))) (mNext)) (mSeq (mAsg (fun _ => false) 11 (mBin (fI (fun _ _ => true) fun i j => i - j) (mBin (fI (fun _ _ => true) fun i j => i - j) (mVar 5) (mVar 9)) (mC (.int 1)))) (mSeq (mAsg (fun _ => false) 0 (mCall PR.mf_kind_behind [] (mCons (mIxO 10 (mC (.int 0))) (mNil)))) (mSeq (mAsg (fun _ => false) 12 (mUn (fKTT [((0, 0), (0, 1)), ((1, 1), (1, 0)), ((0, 1), (0, 0)), ((1, 0), (0, 0))]) (mVar 0))) (mSeq (mAsg (fun _ => false) 13 (mIf (mB (mBin (fB fun i j => decide (i < j)) (mVar 1) (mVar 7))) (mVar 12) (mCall PR.mf_opposite [] (mCons (mVar 12) (mNil))))) (mSeq (mAugL 10 (mLst (mCons (mTup (mCons (mVar 0) (mCons (mVar 13) (mCons (mC (.int 1)) (mNil))))) (mCons (mTup (mCons (mVar 13) (mCons (mVar 13) (mCons (mVar 11) (mNil))))) (mNil))))) (mRet (mTup (mCons (mVar 10) (mCons (mCall PR.mf_far_in [] (mCons (mIxO 10 (mC (.int 1))) (mCons (mVar 1) (mCons (mCall PR.mf_climbed [] (mCons (mVar 3) (mCons (mVar 4) (mCons (mVar 11) (mNil))))) (mNil))))) (mNil))))))))))))))))))
def mf_layers_at : MF := mDef 4 14 (fun _ => false) mb_layers_at
end PR
namespace PR
open PySem PySem.Spec PyProof.Rows L2 Dn
def lb_pair_on_within_1 : MS :=
  mExpr (mMeth 5 fApp (mCons (mCall PR.mf_climbed [] (mCons (mIxO 5 (mUn fNeg (mC (.int 1)))) (mCons (mVar 6) (mCons (mVar 7) (mNil))))) (mNil)))
def lb_pair_on_within_2 : MS :=
  mSeq (mAsgT (mCall PR.mf_layers_at [] (mCons (mVar 8) (mCons (mVar 9) (mCons (mBin fIx (mVar 4) (mVar 11)) (mCons (mIxO 5 (mVar 11)) (mNil)))))) (mgL (fun _ => false) [12, 9])) (mSeq (mAugV 10 (mVar 12)) (mAsg (fun _ => false) 8 (mCall PR.mf_kind_behind [] (mCons (mIxO 10 (mUn fNeg (mC (.int 1)))) (mNil)))))
def mb_pair_on_within : MS :=
  mSeq (mAsg (fun _ => false) 4 (mCall PR.mf_strips_of [] (mCons (mVar 2) (mCons (mVar 0) (mNil))))) (mSeq (mAsg (fun _ => false) 5 (mLst (mCons (mTup (mCons (mC (.int 1)) (mCons (mC (.int 1)) (mNil)))) (mNil)))) (mSeq (mFor (miS (mVar 4)) (mgL (fun _ => false) [6, 7]) (lb_pair_on_within_1)) (mSeq (mPar (fun _ => false) 8 9 (mVar 1) (mVar 3)) (mSeq (mAsg (fun _ => false) 10 (mLst (mNil))) (mSeq (mFor (miRevR1 (mFn fLen (mCons (mVar 4) (mNil)))) (mgN (fun _ => false) 11) (lb_pair_on_within_2)) (mRet (mCall PR.mf_pair_of [] (mCons (mVar 10) (mNil)))))))))
def mf_pair_on_within : MF := mDef 4 13 (fun _ => false) mb_pair_on_within
end PR
namespace PR
open PySem PySem.Spec PyProof.Rows L2 Dn
def mb_pair_on : MS :=
  mRet (mCall PR.mf_pair_on_within [] (mCons (mCall PR.mf_last_of [] (mCons (mVar 0) (mNil))) (mCons (mC (.tuple [.int 0, .int 0])) (mCons (mVar 0) (mCons (mVar 1) (mNil))))))
def mf_pair_on : MF := mDef 2 2 (fun _ => false) mb_pair_on
end PR
namespace PR
open PySem PySem.Spec PyProof.Rows L2 Dn
def mb_pair_halfway : MS :=
  mRet (mCall PR.mf_pair_on [] (mCons (mVar 0) (mCons (mBin (fI cDiv fun i j => i / j) (mCall PR.mf_way_up [] (mCons (mVar 0) (mNil))) (mC (.int 2))) (mNil))))
def mf_pair_halfway : MF := mDef 1 1 (fun _ => false) mb_pair_halfway
end PR
namespace PR
open PySem PySem.Spec PyProof.Rows L2 Dn
def mb_row_with : MS :=
  mSeq (mAsgT (mCall PR.mf_pair_halfway [] (mCons (mCall PR.mf_given_row [] (mCons (mVar 0) (mNil))) (mNil))) (mgL (fun _ => false) [1, 2])) (mRet (mVar 1))
def mf_row_with : MF := mDef 1 3 (fun _ => false) mb_row_with
end PR
namespace LE
open PySem PySem.Spec PyProof.Rows L2 Dn
def lb__law_is_row_1 : MS :=
  mIfS (mTOr (mTru (mUn (fIsi ["bool"]) (mVar 3))) (mTNot (mTru (mUn (fIsi ["int"]) (mVar 3))))) (mRet (mC (.bool false))) (mNext)
def lb__law_is_row_2 : MS :=
  mSeq (mIfS (mTOr (mTNot (mTru (mUn (fIsi ["tuple"]) (mVar 2)))) (mB (mBin (fEq true) (mFn fLen (mCons (mVar 2) (mNil))) (mC (.int 2))))) (mRet (mC (.bool false))) (mNext)) (mSeq (mFor (miS (mVar 2)) (mgN (fun _ => false) 3) (lb__law_is_row_1)) (mSeq (mIfS (mTOr (mB (mBin (fB fun i j => decide (i < j)) (mBin fIx (mVar 2) (mC (.int 0))) (mBin fAdd (mVar 1) (mC (.int 2))))) (mB (mBin (fB fun i j => decide (i < j)) (mBin fIx (mVar 2) (mC (.int 1))) (mBin fIx (mVar 2) (mC (.int 0)))))) (mRet (mC (.bool false))) (mNext)) (mAsg (fun _ => false) 1 (mBin fIx (mVar 2) (mC (.int 1))))))
def mb__law_is_row : MS :=
  mSeq (mIfS (mTNot (mTru (mUn (fIsi ["list"]) (mVar 0)))) (mRet (mC (.bool false))) (mNext)) (mSeq (mAsg (fun _ => false) 1 (mUn fNeg (mC (.int 1)))) (mSeq (mFor (miS (mVar 0)) (mgN (fun _ => false) 2) (lb__law_is_row_2)) (mRet (mC (.bool true)))))
def mf__law_is_row : MF := mDef 1 4 (fun _ => false) mb__law_is_row
end LE
namespace LF
open PySem PySem.Spec PyProof.Rows L2 Dn
def lb__law_edges_1 : MS :=
  mAsg (fun _ => false) 1 (mBin fAdd (mVar 1) (mLst (mCons (mVar 2) (mCons (mBin fAdd (mVar 3) (mC (.int 1))) (mNil)))))
def mb__law_edges : MS :=
  mSeq (mAsg (fun _ => false) 1 (mLst (mNil))) (mSeq (mFor (miS (mVar 0)) (mgL (fun _ => false) [2, 3]) (lb__law_edges_1)) (mRetO 1))
def mf__law_edges : MF := mDef 1 4 (fun _ => false) mb__law_edges
end LF
namespace LF
open PySem PySem.Spec PyProof.Rows L2 Dn
def lc__law_flipped_1 : MX :=
  mComp (miS (mVar 2)) (mgN (fun _ => false) 4) (mB (mBin (fEq true) (mVar 4) (mVar 3))) (mVar 4) [4]
def lb__law_flipped_2 : MS :=
  mAsg (fun _ => false) 2 (mIf (mB (mBin (fIn false) (mVar 3) (mVar 2))) (lc__law_flipped_1) (mFn fSortA (mCons (mBin fAdd (mVar 2) (mLst (mCons (mVar 3) (mNil)))) (mNil))))
def lc__law_flipped_3 : MX :=
  mComp (miR1 (mCons (mBin (fI cDiv fun i j => i / j) (mFn fLen (mCons (mVar 2) (mNil))) (mC (.int 2))) (mNil))) (mgN (fun _ => false) 5) (mTYes) (mTup (mCons (mBin fIx (mVar 2) (mBin fMul (mC (.int 2)) (mVar 5))) (mCons (mBin (fI (fun _ _ => true) fun i j => i - j) (mBin fIx (mVar 2) (mBin fAdd (mBin fMul (mC (.int 2)) (mVar 5)) (mC (.int 1)))) (mC (.int 1))) (mNil)))) [5]
def mb__law_flipped : MS :=
  mSeq (mAsg (fun _ => false) 2 (mCall LF.mf__law_edges [] (mCons (mVar 0) (mNil)))) (mSeq (mFor (miS (mTup (mCons (mVar 1) (mCons (mBin fAdd (mVar 1) (mC (.int 1))) (mNil))))) (mgN (fun _ => false) 3) (lb__law_flipped_2)) (mRet (lc__law_flipped_3)))
def mf__law_flipped : MF := mDef 2 6 (fun _ => false) mb__law_flipped
end LF
namespace LF
open PySem PySem.Spec PyProof.Rows L2 Dn
def lc__law_heads_1 : MX :=
  mComp (miS (mVar 0)) (mgL (fun _ => false) [1, 2]) (mTYes) (mBin (fI (fun _ _ => true) fun i j => i - j) (mBin fAdd (mVar 2) (mC (.int 1))) (mVar 1)) [1, 2]
def mb__law_heads : MS :=
  mRet (mFn fSum (mCons (lc__law_heads_1) (mNil)))
def mf__law_heads : MF := mDef 1 3 (fun _ => false) mb__law_heads
end LF
namespace LF
open PySem PySem.Spec PyProof.Rows L2 Dn
def mb__law_next : MS :=
  mSeq (mAsgT (mVar 0) (mgL (fun _ => false) [2, 3])) (mSeq (mIfS (mB (mBin (fEq false) (mVar 1) (mC (.str "one")))) (mRet (mIf (mB (mBin (fEq false) (mVar 3) (mLst (mNil)))) (mVar 0) (mTup (mCons (mCall LF.mf__law_flipped [] (mCons (mVar 2) (mCons (mCall LF.mf__law_heads [] (mCons (mVar 3) (mNil))) (mNil)))) (mCons (mVar 3) (mNil)))))) (mNext)) (mRet (mIf (mB (mBin (fEq false) (mVar 2) (mLst (mNil)))) (mVar 0) (mTup (mCons (mVar 2) (mCons (mCall LF.mf__law_flipped [] (mCons (mVar 3) (mCons (mCall LF.mf__law_heads [] (mCons (mVar 2) (mNil))) (mNil)))) (mNil)))))))
def mf__law_next : MF := mDef 2 4 (fun _ => false) mb__law_next
end LF
namespace LG
open PySem PySem.Spec PyProof.Rows L2 Dn
def lc__law_edges_1 : MX :=
  mComp (miS (mVar 0)) (mgL (fun _ => false) [1, 2]) (mTYes) (mLst (mCons (mVar 1) (mCons (mBin fAdd (mVar 2) (mC (.int 1))) (mNil)))) [1, 2]
def mb__law_edges : MS :=
  mRet (mFn fSum2 (mCons (lc__law_edges_1) (mCons (mLst (mNil)) (mNil))))
def mf__law_edges : MF := mDef 1 3 (fun _ => false) mb__law_edges
end LG
namespace Dn
open PySem L2
theorem sizeN {n : Nat} (h : n ≤ 100000) : n ≤ sizeLine := Nat.le_trans h (by decide)
theorem sizeL {n : Nat} (h : n < 100000) : n < sizeLine := Nat.lt_of_lt_of_le h (by decide)
def TurnC (g : MG) (t : MT) (e : MX) (vs : List Nat) (ρ0 : List Sl) (d : D) (y : Option D) : Prop :=
  ∃ ρ1 b ρ2, g d ρ0 = some ρ1 ∧ t ρ1 = some (b, ρ2) ∧ ((b = false ∧ y = none ∧ wipeD ρ2 vs = ρ0) ∨ (b = true ∧ ∃ r z ρ3, e ρ2 = some (r, ρ3) ∧ datOf r = some z ∧ y = some z ∧ wipeD ρ3 vs = ρ0))
theorem compL_map {α : Type} {g : MG} {t : MT} {e : MX} {vs : List Nat} {ρ0 : List Sl} (q : α → D) (f : α → Option D) : ∀ (l : List α) (acc : List D) (ρ : List Sl), (∀ a ∈ l, TurnC g t e vs ρ0 (q a) (f a)) → wipeD ρ vs = ρ0 → acc.length + l.length ≤ sizeLine →
    ∃ ρ', mCompL g t e vs (l.map q) acc ρ = some (acc ++ l.filterMap f, ρ') ∧ wipeD ρ' vs = ρ0
  | [], acc, ρ, _, hw, _ => ⟨ρ, by simp, hw⟩
  | a :: l, acc, ρ, h, hw, hl => by
    obtain ⟨ρ1, b, ρ2, h1, h2, h3⟩ := h a List.mem_cons_self
    have hl' : acc.length + l.length + 1 ≤ sizeLine := by simpa [Nat.add_assoc] using hl
    show ∃ ρ', mCompL g t e vs (q a :: l.map q) acc ρ = _ ∧ _
    unfold mCompL
    rw [hw, h1]
    simp only [h2]
    rcases h3 with ⟨rfl, hy, hw2⟩ | ⟨rfl, r, z, ρ3, h4, h5, hy, hw3⟩
    · obtain ⟨ρ', e1, e2⟩ := compL_map q f l acc ρ2 (fun x hx => h x (List.mem_cons_of_mem _ hx)) hw2 (by omega)
      refine ⟨ρ', ?_, e2⟩
      simp only [e1]
      rw [List.filterMap_cons, hy]
    · obtain ⟨ρ', e1, e2⟩ := compL_map q f l (acc ++ [z]) ρ3 (fun x hx => h x (List.mem_cons_of_mem _ hx)) hw3 (by rw [List.length_append]; show acc.length + 1 + l.length ≤ sizeLine; omega)
      refine ⟨ρ', ?_, e2⟩
      simp only [h4, h5]
      rw [if_pos (by omega), e1, List.filterMap_cons, hy]
      simp
theorem comp_map {α : Type} {i : MI} {g : MG} {t : MT} {e : MX} {vs : List Nat} {ρ ρ0 ρ1 : List Sl} (q : α → D) (f : α → Option D) (l : List α) (hi : i ρ = some (l.map q, ρ1)) (hw : wipeD ρ1 vs = ρ0) (hw0 : wipeD ρ0 vs = ρ0)
    (h : ∀ a ∈ l, TurnC g t e vs ρ0 (q a) (f a)) (hl : l.length ≤ sizeLine) : mComp i g t e vs ρ = some (.own (l.filterMap f), ρ0) := by
  obtain ⟨ρ', e1, e2⟩ := compL_map q f l [] (wipeD ρ1 vs) h (by rw [hw]; exact hw0) (by simpa using hl)
  unfold mComp
  simp only [hi, e1, e2, List.nil_append]
theorem loop_until {α S : Type} {g : MG} {b : MS} (q : α → D) (W : S → List Sl → Prop) (step : S → α → Option S) (r : Sl) : ∀ (l : List α) (s : S) (ρ : List Sl),
    (∀ s a ρ, a ∈ l → W s ρ → ∃ ρ1, g (q a) ρ = some ρ1 ∧ match step s a with
      | some s' => ∃ ρ2, (b ρ1 = some (.nx ρ2) ∨ b ρ1 = some (.ct ρ2)) ∧ W s' ρ2
      | none => ∃ ρ2, b ρ1 = some (.rt r ρ2)) → W s ρ →
    match l.foldlM step s with
    | some s' => ∃ ρ', mLoop g b (l.map q) ρ = some (.nx ρ') ∧ W s' ρ'
    | none => ∃ ρ', mLoop g b (l.map q) ρ = some (.rt r ρ')
  | [], s, ρ, _, w => ⟨ρ, rfl, w⟩
  | a :: l, s, ρ, h, w => by
    obtain ⟨ρ1, h1, h2⟩ := h s a ρ List.mem_cons_self w
    rw [List.foldlM_cons]
    cases hs : step s a with
    | none =>
      rw [hs] at h2
      obtain ⟨ρ2, h2⟩ := h2
      refine ⟨ρ2, ?_⟩
      show mLoop g b (q a :: l.map q) ρ = _
      unfold mLoop
      rw [h1]
      simp only [h2]
    | some s' =>
      rw [hs] at h2
      obtain ⟨ρ2, h2, h3⟩ := h2
      have ih := loop_until q W step r l s' ρ2 (fun s x ρ hx => h s x ρ (List.mem_cons_of_mem _ hx)) h3
      have e : mLoop g b ((a :: l).map q) ρ = mLoop g b (l.map q) ρ2 := by
        show mLoop g b (q a :: l.map q) ρ = _
        conv => lhs; unfold mLoop
        rw [h1]
        rcases h2 with h2 | h2 <;> simp only [h2]
      rw [e]
      exact ih
theorem loop_count {α : Type} {g : MG} {b : MS} (q : α → D) (W : Nat → List Sl → Prop) : ∀ (l : List α) (n : Nat) (ρ : List Sl),
    (∀ i a ρ, l[i]? = some a → W (n + i) ρ → ∃ ρ1 ρ2, g (q a) ρ = some ρ1 ∧ (b ρ1 = some (.nx ρ2) ∨ b ρ1 = some (.ct ρ2)) ∧ W (n + i + 1) ρ2) → W n ρ → ∃ ρ', mLoop g b (l.map q) ρ = some (.nx ρ') ∧ W (n + l.length) ρ'
  | [], n, ρ, _, w => ⟨ρ, rfl, w⟩
  | a :: l, n, ρ, h, w => by
    obtain ⟨ρ1, ρ2, h1, h2, h3⟩ := h 0 a ρ rfl w
    obtain ⟨ρ', e1, e2⟩ := loop_count q W l (n + 1) ρ2 (fun i x ρ hx hw => by
      have e : n + 1 + i = n + (i + 1) := by omega
      rw [e] at hw ⊢
      exact h (i + 1) x ρ (by simpa using hx) hw) h3
    refine ⟨ρ', ?_, by
      have e : n + (a :: l).length = n + 1 + l.length := by simp; omega
      rw [e]
      exact e2⟩
    show mLoop g b (q a :: l.map q) ρ = _
    unfold mLoop
    rw [h1]
    rcases h2 with h2 | h2 <;> simp only [h2] <;> exact e1
theorem rangeD_map (lo : Int) (n : Nat) : rangeD lo n = (List.range n).map fun (k : Nat) => PyData.int (lo + (k : Int)) := rfl
@[simp] theorem outA_no : ∀ (n : Nat) (ρ : List Sl), outA (fun _ => false) n ρ = List.replicate n .un
  | 0, _ => rfl
  | n + 1, [] => by
    show Sl.un :: outA (fun _ => false) n [] = _
    rw [outA_no n []]
    rfl
  | n + 1, s :: ρ => by
    show (if false = true then s else Sl.un) :: outA (fun _ => false) n ρ = _
    rw [outA_no n ρ]
    rfl
@[simp] theorem outA_first (n : Nat) (s : Sl) (ρ : List Sl) : outA (fun j => j == 0) (n + 1) (s :: ρ) = s :: List.replicate n .un := by
  show (if (0 == 0) = true then s else Sl.un) :: outA (fun j => (j + 1) == 0) n ρ = _
  have e : (fun j => (j + 1) == 0 : Nat → Bool) = fun _ => false := by funext j; simp
  rw [e, outA_no]
  rfl
theorem mSeq_nx {a b : MS} {ρ ρ1 : List Sl} (h : a ρ = some (.nx ρ1)) : mSeq a b ρ = b ρ1 := by rw [mSeq_ap, h]
theorem mDef_rt {np nl : Nat} {kp : Nat → Bool} {mb : MS} {args ρ' : List Sl} {r : Sl} (hn : args.length = np) (h : mb (args ++ List.replicate (nl - np) .un) = some (.rt r ρ')) : mDef np nl kp mb args = some (r, outA kp np ρ') := by rw [mDef_ap, if_pos hn, h]
theorem mIfS_f {c : MT} {a b : MS} {ρ ρ1 : List Sl} (h : c ρ = some (false, ρ1)) : mIfS c a b ρ = b ρ1 := by rw [mIfS_ap, h]; rfl
theorem mIfS_t {c : MT} {a b : MS} {ρ ρ1 : List Sl} (h : c ρ = some (true, ρ1)) : mIfS c a b ρ = a ρ1 := by rw [mIfS_ap, h]; rfl
abbrev RowT := List (Int × Int)
def dRow (r : RowT) : D := .list (r.map pairD)
inductive HP : D → Int × Int → Prop
  | t (a b : Int) : HP (.tuple [.int a, .int b]) (a, b)
  | l (a b : Int) : HP (.list [.int a, .int b]) (a, b)
theorem HP.shape {d : D} {p : Int × Int} (h : HP d p) : d = .tuple [.int p.1, .int p.2] ∨ d = .list [.int p.1, .int p.2] := by
  cases h with
  | t a b => exact .inl rfl
  | l a b => exact .inr rfl
inductive HA : List D → RowT → Prop
  | nil : HA [] []
  | cons {d : D} {ds : List D} {p : Int × Int} {r : RowT} : HP d p → HA ds r → HA (d :: ds) (p :: r)
inductive HR : D → RowT → Prop
  | t {ds : List D} {r : RowT} : HA ds r → HR (.tuple ds) r
  | l {ds : List D} {r : RowT} : HA ds r → HR (.list ds) r
theorem HA.of_row : ∀ r : RowT, HA (r.map pairD) r
  | [] => .nil
  | (a, b) :: r => .cons (.t a b) (HA.of_row r)
theorem HR.of_row (r : RowT) : HR (dRow r) r := .l (HA.of_row r)
theorem HA.app : ∀ {ds es : List D} {r s : RowT}, HA ds r → HA es s → HA (ds ++ es) (r ++ s)
  | _, _, _, _, .nil, h => h
  | _, _, _, _, .cons a b, h => .cons a (HA.app b h)
theorem HA.len : ∀ {ds : List D} {r : RowT}, HA ds r → ds.length = r.length
  | _, _, .nil => rfl
  | _, _, .cons _ t => congrArg (· + 1) (HA.len t)
theorem HA.zipped : ∀ {ds : List D} {r : RowT}, HA ds r → ∃ l : List (D × (Int × Int)), ds = l.map (·.1) ∧ r = l.map (·.2) ∧ ∀ a ∈ l, HP a.1 a.2
  | _, _, .nil => ⟨[], rfl, rfl, fun a h => by cases h⟩
  | _, _, .cons (d := d) (p := p) h t => by
    obtain ⟨l, h1, h2, h3⟩ := HA.zipped t
    refine ⟨(d, p) :: l, by rw [h1]; rfl, by rw [h2]; rfl, fun a ha => ?_⟩
    rcases List.mem_cons.mp ha with rfl | ha
    · exact h
    · exact h3 a ha
def okF : Int → RowT → Bool
  | _, [] => true
  | f, p :: r => decide (f ≤ p.1) && decide (p.1 ≤ p.2) && okF (p.2 + 2) r
def cnt (r : RowT) : Int := (r.map fun p => p.2 - p.1 + 1).sum
end Dn
namespace Ev
open PySem L2 Dn
variable {ρ ρ1 ρ2 ρ3 : List Sl} {x y z r : Sl} {xs : List Sl} {a b : MX} {c d : MT} {A B : MA} {s t : MS} {o : Option Out}
theorem var (i : Nat) {dd : D} (h : ρ[i]? = some (.val dd) := by rfl) : mVar i ρ = some (.val dd, ρ) := by
  unfold mVar; rw [h]
theorem varO (i : Nat) {ds : List D} (h : ρ[i]? = some (.own ds) := by rfl) (h2 : ρ.set i (.val (.list ds)) = ρ1 := by rfl) : mVar i ρ = some (.val (.list ds), ρ1) := by
  unfold mVar; rw [h, ← h2]
theorem cst (dd : D) : mC dd ρ = some (.val dd, ρ) := rfl
theorem nil : mNil ρ = some ([], ρ) := rfl
theorem cons (h : a ρ = some (x, ρ1)) (h2 : B ρ1 = some (xs, ρ2)) : mCons a B ρ = some (x :: xs, ρ2) := by
  unfold mCons; rw [h]; simp only; rw [h2]
theorem bin {f : Sl → Sl → Option Sl} (h : a ρ = some (x, ρ1)) (h2 : b ρ1 = some (y, ρ2)) (hf : f x y = some z) : mBin f a b ρ = some (z, ρ2) := by
  unfold mBin; rw [h]; simp only; rw [h2]; simp only; rw [hf]
theorem un {f : Sl → Option Sl} (h : a ρ = some (x, ρ1)) (hf : f x = some z) : mUn f a ρ = some (z, ρ1) := by
  unfold mUn; rw [h]; simp only; rw [hf]
theorem fn {f : List Sl → Option Sl} (h : A ρ = some (xs, ρ1)) (hf : f xs = some z) : mFn f A ρ = some (z, ρ1) := by
  unfold mFn; rw [h]; simp only; rw [hf]
theorem call {mf : MF} {o : List Sl} (h : A ρ = some (xs, ρ1)) (h2 : mf xs = some (r, o)) : mCall mf [] A ρ = some (r, ρ1) := by
  unfold mCall; rw [h]; simp only [List.map_nil, List.append_nil]; rw [h2]
theorem callM {mf : MF} {i : Nat} {ds0 ds : List D} {o : List Sl} {u : Sl} (h : A ρ = some (xs, ρ1)) (h2 : mf (.own ds :: xs) = some (r, u :: o)) (h0 : ρ[i]? = some (.own ds0) := by rfl) (h1 : ρ1[i]? = some (.own ds) := by rfl) (h3 : ρ1.set i u = ρ2 := by rfl) : mCallM mf i [] A ρ = some (r, ρ2) := by
  unfold mCallM; rw [h0]; simp only; rw [h]; simp only; rw [h1]; simp only [List.map_nil, List.append_nil]; rw [h2, ← h3]
theorem tB {k : Bool} (h : a ρ = some (.val (.bool k), ρ1)) : mB a ρ = some (k, ρ1) := by
  unfold mB; rw [h]
theorem tTru {k : Bool} (h : a ρ = some (x, ρ1)) (h2 : tru x = some k) : mTru a ρ = some (k, ρ1) := by
  unfold mTru; rw [h]; simp only; rw [h2]
theorem tT {k : Bool} (h : a ρ = some (.val (.bool k), ρ1)) : mTru a ρ = some (k, ρ1) := tTru h rfl
theorem tNot {k : Bool} (h : c ρ = some (k, ρ1)) : mTNot c ρ = some (!k, ρ1) := by
  unfold mTNot; rw [h]
theorem tAnd_t {k : Bool} (h : c ρ = some (true, ρ1)) (h2 : d ρ1 = some (k, ρ2)) : mTAnd c d ρ = some (k, ρ2) := by
  unfold mTAnd; rw [h]; exact h2
theorem tAnd_f (h : c ρ = some (false, ρ1)) : mTAnd c d ρ = some (false, ρ1) := by
  unfold mTAnd; rw [h]; rfl
theorem tOr_f {k : Bool} (h : c ρ = some (false, ρ1)) (h2 : d ρ1 = some (k, ρ2)) : mTOr c d ρ = some (k, ρ2) := by
  unfold mTOr; rw [h]; exact h2
theorem if_t (h : c ρ = some (true, ρ1)) (h2 : a ρ1 = some (x, ρ2)) : mIf c a b ρ = some (x, ρ2) := by
  unfold mIf; rw [h]; exact h2
theorem if_f (h : c ρ = some (false, ρ1)) (h2 : b ρ1 = some (x, ρ2)) : mIf c a b ρ = some (x, ρ2) := by
  unfold mIf; rw [h]; exact h2
theorem asg {kp : Nat → Bool} {i : Nat} (h : a ρ = some (x, ρ1)) (h2 : ρ1.set i x = ρ2 := by rfl) (hk : kp i = false := by rfl) (hi : i < ρ1.length := by simp) : mAsg kp i a ρ = some (.nx ρ2) := by
  unfold mAsg; rw [h]; simp only; rw [if_pos ⟨hk, hi⟩, h2]
theorem asgT {g : MG} {dd : D} (h : a ρ = some (.val dd, ρ1)) (h2 : g dd ρ1 = some ρ2) : mAsgT a g ρ = some (.nx ρ2) := by
  unfold mAsgT; rw [h]; simp only; rw [h2]
theorem expr (h : a ρ = some (x, ρ1)) : mExpr a ρ = some (.nx ρ1) := by
  unfold mExpr; rw [h]
theorem ret (h : a ρ = some (x, ρ1)) : mRet a ρ = some (.rt x ρ1) := by
  unfold mRet; rw [h]
theorem retO (i : Nat) {ds : List D} (h : ρ[i]? = some (.own ds) := by rfl) (h2 : ρ.set i .un = ρ1 := by rfl) : mRetO i ρ = some (.rt (.own ds) ρ1) := by
  unfold mRetO; rw [h, ← h2]
theorem seq (h : s ρ = some (.nx ρ1)) (h2 : t ρ1 = o) : mSeq s t ρ = o := by rw [mSeq_nx h, h2]
theorem seq_rt (h : s ρ = some (.rt r ρ1)) : mSeq s t ρ = some (.rt r ρ1) := by rw [mSeq_ap, h]
theorem ifS_t (h : c ρ = some (true, ρ1)) (h2 : s ρ1 = o) : mIfS c s t ρ = o := by rw [mIfS_t h, h2]
theorem ifS_f (h : c ρ = some (false, ρ1)) (h2 : t ρ1 = o) : mIfS c s t ρ = o := by rw [mIfS_f h, h2]
theorem next : mNext ρ = some (.nx ρ) := rfl
theorem forS {i : MI} {g : MG} {ds : List D} (h : i ρ = some (ds, ρ1)) (h2 : mLoop g s ds ρ1 = o) : mFor i g s ρ = o := by rw [mFor_ap, h]; exact h2
theorem defR {np nl : Nat} {kp : Nat → Bool} {mb : MS} {args ρ0 ρ' : List Sl} (h : mb ρ0 = some (.rt r ρ')) (hn : args.length = np := by rfl) (h0 : args ++ List.replicate (nl - np) .un = ρ0 := by rfl) : mDef np nl kp mb args = some (r, outA kp np ρ') := mDef_rt hn (by rw [h0]; exact h)
end Ev
namespace Ev
open PySem L2 Dn
variable {ρ ρ1 ρ2 ρ3 : List Sl} {x y z r : Sl} {xs : List Sl} {a b : MX} {c d : MT} {A B : MA} {s t : MS} {o : Option Out}
theorem lst {ds : List D} (h : A ρ = some (xs, ρ1)) (hd : datAll xs = some ds := by rfl) (hz : ds.length ≤ sizeLine := by exact sizeN (by simp)) : mLst A ρ = some (.own ds, ρ1) := by
  unfold mLst; rw [h]; simp only; rw [hd]; simp only; rw [if_pos hz]
theorem tup {ds : List D} (h : A ρ = some (xs, ρ1)) (hd : datAll xs = some ds := by rfl) (hz : ds.length ≤ sizeLine := by exact sizeN (by simp)) : mTup A ρ = some (.val (.tuple ds), ρ1) := by
  unfold mTup; rw [h]; simp only; rw [hd]; simp only; rw [if_pos hz]
theorem ixL {ds : List D} {dd : D} {k : Int} (h : a ρ = some (.val (.list ds), ρ1)) (h2 : b ρ1 = some (.val (.int k), ρ2)) (hk : atI ds k = some dd) : mBin fIx a b ρ = some (.val dd, ρ2) := bin h h2 (by simp [hk])
theorem ixT {ds : List D} {dd : D} {k : Int} (h : a ρ = some (.val (.tuple ds), ρ1)) (h2 : b ρ1 = some (.val (.int k), ρ2)) (hk : atI ds k = some dd) : mBin fIx a b ρ = some (.val dd, ρ2) := bin h h2 (by simp [hk])
theorem par {kp : Nat → Bool} {i j : Nat} {dx dy : D} (h : a ρ = some (.val dx, ρ1)) (h2 : b ρ1 = some (.val dy, ρ2)) (h3 : (ρ2.set i (.val dx)).set j (.val dy) = ρ3 := by rfl) (hi : kp i = false := by rfl) (hj : kp j = false := by rfl) (li : i < ρ2.length := by simp) (lj : j < ρ2.length := by simp) : mPar kp i j a b ρ = some (.nx ρ3) := by
  unfold mPar; rw [h]; simp only; rw [h2]; simp only [hi, hj, li, lj, and_self, if_true, h3]
theorem mul {i j : Int} (h : cMul i j = true) : fMul (.val (.int i)) (.val (.int j)) = some (.val (.int (i * j))) := if_pos h
end Ev
namespace Ev
open PySem L2 Dn
variable {ρ ρ1 ρ2 ρ3 : List Sl} {x y z r : Sl} {xs : List Sl} {a b : MX} {c d : MT} {A B : MA} {s t : MS} {o : Option Out}
theorem callN {mf : MF} {aN : MAN} {ys : List (Sl ⊕ Nat)} {as : List Sl} {zz : D} {ou : List Sl} (h : aN ρ = some (ys, ρ1)) (h1 : argsN ρ1 ys = some as) (h2 : mf as = some (.val zz, ou)) (hz : flt zz = true) : mCallN mf aN ρ = some (.val zz, ρ1) := by
  unfold mCallN; rw [h]; simp only; rw [h1]; simp only; rw [h2]; simp only; rw [if_pos hz]
theorem nilN : mNilN ρ = some ([], ρ) := rfl
theorem consO (i : Nat) {bN : MAN} {ys : List (Sl ⊕ Nat)} {ds : List D} (h2 : bN ρ = some (ys, ρ2)) (h : ρ[i]? = some (.own ds) := by rfl) : mConsO i bN ρ = some (.inr i :: ys, ρ2) := by
  unfold mConsO; rw [h]; simp only; rw [h2]
theorem meth {i : Nat} {f : List D → List D → Option (D × List D)} {ds0 ds ds' es : List D} {dd : D} (h : A ρ = some (xs, ρ1)) (hf : f ds es = some (dd, ds')) (hd : datAll xs = some es := by rfl) (h0 : ρ[i]? = some (.own ds0) := by rfl) (h1 : ρ1[i]? = some (.own ds) := by rfl) (h3 : ρ1.set i (.own ds') = ρ2 := by rfl) : mMeth i f A ρ = some (.val dd, ρ2) := by
  unfold mMeth; rw [h0]; simp only; rw [h]; simp only; rw [hd]; simp only; rw [h1]; simp only; rw [hf, ← h3]
theorem app {ds : List D} {e : D} (hz : ds.length < sizeLine) : fApp ds [e] = some (.none, ds ++ [e]) := by simp [hz]
theorem setO {i : Nat} {ds0 ds : List D} {dd : D} {k : Int} {j : Nat} (h : a ρ = some (x, ρ1)) (hb : b ρ1 = some (.val (.int k), ρ2)) (hj : ixN ds.length k = some j) (hd : datOf x = some dd := by rfl) (h0 : ρ1[i]? = some (.own ds0) := by rfl) (h1 : ρ2[i]? = some (.own ds) := by rfl) (h3 : ρ2.set i (.own (ds.set j dd)) = ρ3 := by rfl) : mSetO i b a ρ = some (.nx ρ3) := by
  unfold mSetO; rw [h]; simp only; rw [hd]; simp only; rw [h0]; simp only; rw [hb]; simp only; rw [h1]; simp only; rw [hj]; simp only; rw [h3]
theorem aug {kp : Nat → Bool} {i : Nat} {f : Int → Int → Int} {k j : Int} (h : a ρ = some (.val (.int j), ρ1)) (h0 : ρ[i]? = some (.val (.int k)) := by rfl) (h3 : ρ1.set i (.val (.int (f k j))) = ρ2 := by rfl) (hi : kp i = false := by rfl) (li : i < ρ1.length := by simp) : mAug kp i f a ρ = some (.nx ρ2) := by
  unfold mAug; rw [h0]; simp only; rw [h]; simp only [hi, li, and_self, if_true, h3]
theorem augV {i : Nat} {ds0 ds es : List D} (h : a ρ = some (.val (.list es), ρ1)) (hz : ds.length + es.length ≤ sizeLine) (h0 : ρ[i]? = some (.own ds0) := by rfl) (h1 : ρ1[i]? = some (.own ds) := by rfl) (h3 : ρ1.set i (.own (ds ++ es)) = ρ2 := by rfl) : mAugV i a ρ = some (.nx ρ2) := by
  unfold mAugV; rw [h0]; simp only; rw [h]; simp only; rw [h1]; simp only; rw [if_pos hz, h3]
theorem augL {i : Nat} {ds0 ds es : List D} (h : a ρ = some (.own es, ρ1)) (hz : ds.length + es.length ≤ sizeLine) (h0 : ρ[i]? = some (.own ds0) := by rfl) (h1 : ρ1[i]? = some (.own ds) := by rfl) (h3 : ρ1.set i (.own (ds ++ es)) = ρ2 := by rfl) : mAugL i a ρ = some (.nx ρ2) := by
  unfold mAugL; rw [h0]; simp only; rw [h]; simp only; rw [h1]; simp only; rw [if_pos hz, h3]
theorem ixO {i : Nat} {ds0 ds : List D} {dd : D} {k : Int} {s0 s1 : Sl} (hb : b ρ = some (.val (.int k), ρ1)) (hk : atI ds k = some dd) (h0 : ρ[i]? = some s0 := by rfl) (hl0 : lstOf s0 = some ds0 := by rfl) (h1 : ρ1[i]? = some s1 := by rfl) (hl1 : lstOf s1 = some ds := by rfl) : mIxO i b ρ = some (.val dd, ρ1) := by
  unfold mIxO; rw [h0]; simp only; rw [hl0]; simp only; rw [hb]; simp only; rw [h1]; simp only; rw [hl1]; simp only; rw [hk]; rfl
theorem lenO {i : Nat} {ds : List D} {s0 : Sl} (h0 : ρ[i]? = some s0 := by rfl) (hl0 : lstOf s0 = some ds := by rfl) : mLenO i ρ = some (.val (.int ds.length), ρ) := by
  unfold mLenO; rw [h0]; simp only; rw [hl0]
theorem truO {i : Nat} {ds : List D} {s0 : Sl} {k : Bool} (hk : (!ds.isEmpty) = k) (h0 : ρ[i]? = some s0 := by rfl) (hl0 : lstOf s0 = some ds := by rfl) : mTruO i ρ = some (k, ρ) := by
  unfold mTruO; rw [h0]; simp only; rw [hl0]; simp only; rw [hk]
theorem forS' {i : MI} {g : MG} {ds : List D} {o1 : Out} (h : i ρ = some (ds, ρ1)) (h2 : mLoop g s ds ρ1 = some o1) : mFor i g s ρ = some o1 := by rw [mFor_ap, h]; exact h2
theorem iN {ds : List D} (h : a ρ = some (.own ds, ρ1)) : miN a ρ = some (ds, ρ1) := by unfold miN; rw [h]
theorem iS {ds : List D} (h : a ρ = some (.val (.list ds), ρ1)) : miS a ρ = some (ds, ρ1) := by unfold miS; rw [h]
theorem iT {ds : List D} (h : a ρ = some (.val (.tuple ds), ρ1)) : miS a ρ = some (ds, ρ1) := by unfold miS; rw [h]
theorem loop_nil {g : MG} : mLoop g s [] ρ = some (.nx ρ) := rfl
theorem loop_nx {g : MG} {dd : D} {ds : List D} {o1 : Option Out} (h1 : g dd ρ = some ρ1) (h2 : s ρ1 = some (.nx ρ2)) (h3 : mLoop g s ds ρ2 = o1) : mLoop g s (dd :: ds) ρ = o1 := by
  rw [mLoop, h1]; simp only; rw [h2]; exact h3
theorem gT3 {kp : Nat → Bool} {i j k : Nat} {a b c : D} (h : (((ρ.set i (.val a)).set j (.val b)).set k (.val c)) = ρ1 := by rfl) (ki : kp i = false := by rfl) (kj : kp j = false := by rfl) (kk : kp k = false := by rfl) (hi : i < ρ.length := by simp) (hj : j < ρ.length := by simp) (hk : k < ρ.length := by simp) : mgL kp [i, j, k] (.tuple [a, b, c]) ρ = some ρ1 := by
  simp [ki, kj, kk, hi, hj, hk, h]
theorem gT2 {kp : Nat → Bool} {i j : Nat} {a b : D} (h : ((ρ.set i (.val a)).set j (.val b)) = ρ1 := by rfl) (ki : kp i = false := by rfl) (kj : kp j = false := by rfl) (hi : i < ρ.length := by simp) (hj : j < ρ.length := by simp) : mgL kp [i, j] (.tuple [a, b]) ρ = some ρ1 := by
  simp [ki, kj, hi, hj, h]
theorem gN {kp : Nat → Bool} {i : Nat} {a : D} (h : ρ.set i (.val a) = ρ1 := by rfl) (ki : kp i = false := by rfl) (hi : i < ρ.length := by simp) : mgN kp i a ρ = some ρ1 := by
  unfold mgN; rw [if_pos ⟨ki, hi⟩, h]
theorem sub {i j : Int} : (fI (fun _ _ => true) fun i j => i - j) (.val (.int i)) (.val (.int j)) = some (.val (.int (i - j))) := rfl
end Ev
namespace Ev
open PySem L2 Dn
variable {ρ ρ1 ρ2 ρ3 ρ4 : List Sl} {x y z : Sl} {a b c : MX}
end Ev
namespace Dn
open PySem PySem.Spec PyProof.Rows L2
def isLst : D → Bool
  | .list _ => true
  | _ => false
def sortDOk (ds : List D) : Bool := ds.all (fun d => isLst d && PyData.canLay0 d && decide (PyData.depth d ≤ 40) && ds.all (fun e => PySem.W.alike d e)) && decide (ds.length ≤ sizeLine)
def sortDs (ds : List D) : List D := ds.mergeSort (PySem.W.dataLe false id)
def fSortN : List Sl → Option Sl
  | [s] => match lstOf s with
    | some ds => if sortDOk ds = true then some (.own (sortDs ds)) else none
    | none => none
  | _ => none
def le2 : V × D → V × D → Bool := PySem.W.dataLe false Prod.snd
def rSortD (K : PySem.W.Frag) : List V → Hp → VK → Prop := fun vs H Q => ∃ (a : Addr) (xs : List V) (ds : List D), vs = [V.ref a] ∧ SqL K H a xs ∧ DpAll K H xs ds ∧ sortDOk ds = true ∧ ∀ p, H p = none → Q (.ref p) (upd H p (.lst (((xs.zip ds).mergeSort le2).map Prod.fst)))
open PySem.W (EachIs)
variable {X : Cx} {pins : List (Addr × Obj)} {σ : L2.St} {H : Hp} {s : Shared}
theorem each_zip (I : Inv X pins σ H s) : ∀ {xs : List V} {ds : List D} {us : List Value}, DpAll X.K H xs ds → Vals xs us → EachIs (fun u (b : V × D) => RelV b.1 u) us (xs.zip ds) ∧ EachIs (fun u (b : V × D) => ∃ as, Reads s.heap u b.2 as) us (xs.zip ds) := by
  intro xs
  induction xs with
  | nil =>
    intro ds us h r
    cases h
    cases r
    exact ⟨.nil, .nil⟩
  | cons x xs ih =>
    intro ds us h r
    cases h with
    | cons h1 h2 =>
      cases r with
      | cons r1 r2 =>
        obtain ⟨a, b⟩ := ih h2 r2
        exact ⟨.cons r1 a, .cons (Dp.reads I _ _ _ h1 r1) b⟩
theorem each_vals : ∀ {us : List Value} {bs : List (V × D)}, EachIs (fun u (b : V × D) => RelV b.1 u) us bs → Vals (bs.map Prod.fst) us
  | _, _, .nil => .nil
  | _, _, .cons h t => .cons h (each_vals t)
theorem dpAll_len : ∀ {xs : List V} {ds : List D}, DpAll X.K H xs ds → xs.length = ds.length
  | _, _, .nil => rfl
  | _, _, .cons _ t => by simp only [List.length_cons, dpAll_len t]
theorem sortDOk_of {ds : List D} (h : sortDOk ds = true) : (∀ d ∈ ds, (∃ es, d = .list es) ∧ PyData.canLay0 d = true ∧ PyData.depth d ≤ 40) ∧ PySem.W.AllAlike ds ∧ ds.length ≤ sizeLine := by
  unfold sortDOk at h
  obtain ⟨h1, h2⟩ := Bool.and_eq_true_iff.mp h
  rw [List.all_eq_true] at h1
  refine ⟨fun d hd => ?_, fun d hd d' hd' => ?_, of_decide_eq_true h2⟩
  · have := h1 d hd
    simp only [Bool.and_eq_true, decide_eq_true_eq] at this
    refine ⟨?_, this.1.1.2, this.1.2⟩
    have h4 := this.1.1.1
    cases d <;> simp only [isLst] at h4 <;> first | exact ⟨_, rfl⟩ | cases h4
  · have := h1 d hd
    simp only [Bool.and_eq_true, decide_eq_true_eq] at this
    exact List.all_eq_true.mp this.2 d' hd'
theorem cr_sortD {X : Cx} (hu : X.A.units + 64 < cLine) : CallR X (.builtin "sorted") (rSortD X.K) := by
  intro pins s σ H vs us Q I r h
  obtain ⟨a, xs, ds, rfl, hs, hd, hk, q⟩ := h
  obtain ⟨its, rv, hl, hz⟩ := I.list hs
  obtain ⟨u, rfl, ru⟩ := vals1 r
  obtain rfl : u = Value.ref a := ru
  obtain ⟨k1, k2, k3⟩ := sortDOk_of hk
  have hlen : xs.length = ds.length := dpAll_len hd
  obtain ⟨e1, e2⟩ := each_zip I hd rv
  have hsn : (xs.zip ds).map Prod.snd = ds := List.map_snd_zip (by omega)
  refine PySem.W.sorted_data (enc := Prod.snd) hl.isList e1 e2 (by rw [hsn]; exact k2) (by
    rw [hsn]
    refine .inr fun d hd => ?_
    obtain ⟨es, rfl⟩ := (k1 d hd).1
    exact ⟨by simp, by simp⟩) (by rw [List.length_zip]; omega) (fun b hb => ?_) fun out ho eo => ?_
  · have : b.2 ∈ ds := by rw [← hsn]; exact List.mem_map.mpr ⟨b, hb, rfl⟩
    have := (k1 _ this).2.2
    omega
  · obtain ⟨n, hn⟩ := sortedAll_at s.heap its out.toArray
    have hv := each_vals eo
    refine ⟨.ref (s.heap.objs.size + 1), upd H (s.heap.objs.size + 1) (.lst (((xs.zip ds).mergeSort le2).map Prod.fst)), I.laid (t' := s.toks) (fun b o e => sortedAll_old e) (Nat.le_succ _) ⟨?_, out, n, hv, hn⟩, rfl, q _ (I.hok.fresh (Nat.le_succ _))⟩
    rw [List.length_map, List.length_mergeSort, List.length_zip]
    omega
theorem dpAll_of {K : PySem.W.Frag} {H : Hp} : ∀ {xs : List V} {ds : List D}, (∀ d ∈ ds, PyData.canLay0 d = true) → RpA K H xs ds → DpAll K H xs ds
  | _, [], _, h => by cases h; exact .nil
  | _, d :: ds, c, h => by
    cases h with
    | cons r t => exact .cons (dp_of _ _ (c d (List.mem_cons_self ..)) r) (dpAll_of (fun d hd => c d (List.mem_cons_of_mem _ hd)) t)
theorem rpA_zip {K : PySem.W.Frag} {H : Hp} : ∀ {xs : List V} {ds : List D}, RpA K H xs ds → ∀ b ∈ xs.zip ds, Rp K H b.1 b.2
  | _, _, .nil, b, hb => by cases hb
  | _, _, .cons r t, b, hb => by
    rw [List.zip_cons_cons] at hb
    rcases List.mem_cons.mp hb with rfl | hb
    · exact r
    · exact rpA_zip t b hb
theorem rpA_of {K : PySem.W.Frag} {H : Hp} : ∀ {bs : List (V × D)}, (∀ b ∈ bs, Rp K H b.1 b.2) → RpA K H (bs.map Prod.fst) (bs.map Prod.snd)
  | [], _ => .nil
  | b :: bs, h => .cons (h b (List.mem_cons_self ..)) (rpA_of fun c hc => h c (List.mem_cons_of_mem _ hc))
theorem fnS_sortN {K : PySem.W.Frag} : FnS K (rSortD K) fSortN := by
  intro G F T ρ σ H xs z vs Q hl R h q
  unfold fSortN at h
  split at h
  · rename_i s
    match vs, hl with
    | [v], _ =>
      cases e1 : lstOf s with
      | none => rw [e1] at h; cases h
      | some ds =>
        rw [e1] at h
        simp only at h
        split at h
        · rename_i hk
          cases h
          obtain ⟨a, us, rfl, hs, hr⟩ := lst_of R.l.eg e1 R.fst
          have hk' := sortDOk_of hk
          refine ⟨a, us, ds, rfl, hs, dpAll_of (fun d hd => (hk'.1 d hd).2.1) (hr.up R.l.eg), hk, fun p hp => ?_⟩
          have R0 : Rel K G F T ρ σ H := R.drop
          have hlen : us.length = ds.length := hr.len
          have hsn : (us.zip ds).map Prod.snd = ds := List.map_snd_zip (by omega)
          have key : RpA K G (((us.zip ds).mergeSort le2).map Prod.fst) (sortDs ds) := by
            have h1 : sortDs ds = ((us.zip ds).mergeSort le2).map Prod.snd := by
              have h2 := List.map_mergeSort (r := le2) (s := PySem.W.dataLe false id) (f := Prod.snd) (l := us.zip ds) (fun a _ b _ => rfl)
              rw [h2, hsn]
              rfl
            rw [h1]
            exact rpA_of fun b hb => rpA_zip hr b ((List.mergeSort_perm _ _).mem_iff.mp hb)
          exact q _ G _ (fun _ _ h => h) (R0.pushO hp key)
        · cases h
  · cases h
def dLe : D → D → Bool := PySem.W.dataLe false id
theorem dLe_total : PySem.W.TotalLe dLe := PySem.W.sortLe_total (PyProof.Rows.listOrd PyProof.Rows.itemOrd) false (fun b => PySem.W.keyToks b)
theorem dLe_anti {a b : D} (h1 : dLe a b = true) (h2 : dLe b a = true) : PySem.W.keyToks a = PySem.W.keyToks b := by
  have h1' : (!(PyProof.Rows.listOrd PyProof.Rows.itemOrd).blt (PySem.W.keyToks b) (PySem.W.keyToks a)) = true := h1
  have h2' : (!(PyProof.Rows.listOrd PyProof.Rows.itemOrd).blt (PySem.W.keyToks a) (PySem.W.keyToks b)) = true := h2
  rw [Bool.not_eq_true'] at h1' h2'
  exact (PyProof.Rows.listOrd PyProof.Rows.itemOrd).total _ _ h2' h1'
theorem sortDs_pw (A : List D) : (sortDs A).Pairwise (fun a b => dLe a b = true) := List.pairwise_mergeSort (le := dLe) dLe_total.trans (fun a b => by
  rcases dLe_total.total a b with h | h <;> rw [h] <;> simp) A
theorem sortDs_mem (A : List D) (x : D) : x ∈ sortDs A ↔ x ∈ A := (List.mergeSort_perm A dLe).mem_iff
theorem sortDs_perm' (A : List D) : (sortDs A).Perm A := List.mergeSort_perm A dLe
theorem sortDs_perm {A B : List D} (h : A.Perm B) (hinj : ∀ a ∈ A, ∀ b ∈ A, PySem.W.keyToks a = PySem.W.keyToks b → a = b) : sortDs A = sortDs B :=
  List.Perm.eq_of_pairwise (le := fun a b => dLe a b = true) (fun a b ha hb h1 h2 => hinj a ((sortDs_mem A a).mp ha) b (h.mem_iff.mpr ((sortDs_mem B b).mp hb)) (dLe_anti h1 h2)) (sortDs_pw A) (sortDs_pw B) ((sortDs_perm' A).trans (h.trans (sortDs_perm' B).symm))
theorem fSortN_of {x : Sl} {ds : List D} (h : lstOf x = some ds) (hk : sortDOk ds = true) : fSortN [x] = some (.own (sortDs ds)) := by
  unfold fSortN
  simp only [h, hk, if_true]
end Dn
namespace Dn
open PySem PySem.Spec PyProof.Rows L2
open Evl (Ex)
section
variable {K : PySem.W.Frag} {X : Cx} {a b : Expr} {ta tb : TE} {ma mb : MX} {pos apos : Pos}
def mLRg (a b : MX) : MX := fun ρ => match a ρ with
  | some (.val (.int i), ρ1) => match b ρ1 with
    | some (.val (.int j), ρ2) => if -(2 ^ 62) ≤ i ∧ i < 2 ^ 62 ∧ -(2 ^ 62) ≤ j ∧ j < 2 ^ 62 ∧ (j - i).toNat ≤ 2 ^ 24 then some (.own (rangeD i (j - i).toNat), ρ2) else none
    | _ => none
  | _ => none
theorem rpA_rg {G : Hp} (i j : Int) : RpA K G (rgV i j) (rangeD i (j - i).toNat) := by
  have h : rgV i j = ((List.range (j - i).toNat).map fun k : Nat => i + (k : Int)).map V.int := by unfold rgV; rw [List.map_map]; rfl
  have h2 : rangeD i (j - i).toNat = ((List.range (j - i).toNat).map fun k : Nat => i + (k : Int)).map PyData.int := by unfold rangeD; rw [List.map_map]; rfl
  rw [h, h2]
  exact RpA.ofInts
theorem den_lrg (ha : Den K ta ma) (hb : Den K tb mb) : Den K (tLstRg (tRg2 ta tb)) (mLRg ma mb) := by
  intro G F T ρ σ H z ρ' Q R h q
  unfold mLRg at h
  split at h
  · rename_i i ρ1 h1
    split at h
    · rename_i j ρ2 h2
      split at h
      · rename_i hc
        cases h
        refine ha G F T ρ σ H _ ρ1 _ R h1 fun v G1 H1 ex1 R1 => ?_
        refine hb G1 F _ ρ1 σ H1 _ ρ' _ R1 h2 fun u G2 H2 ex2 R2 => ?_
        refine ⟨i, j, int_of R2.snd, int_of R2.fst, hc, fun p hp => ?_⟩
        have R0 : Rel K G2 F T ρ' σ H2 := R2.drop.drop
        exact q _ G2 _ (ex1.trans ex2) (R0.pushO hp (rpA_rg i j))
      · cases h
    · cases h
  · cases h
theorem me_lrg {p pos p2 pos2 : Pos} (hc : X.calm = true) (hg : Gl X "list") (hm : X.mg "list" = none) (hg2 : Gl X "range") (hm2 : X.mg "range" = none) (ha : ME X K a ta ma) (hb : ME X K b tb mb)
    (na : starEach [.Call (.Name "range" p2) [a, b] [] pos2] X.env = (false, eval (.Call (.Name "range" p2) [a, b] [] pos2) X.env) :: starEach [] X.env := by rfl) (n1 : starEach [a, b] X.env = (false, eval a X.env) :: starEach [b] X.env := by rfl) (n2 : starEach [b] X.env = (false, eval b X.env) :: starEach [] X.env := by rfl) (n3 : (backTo pos2 (starEach [b] X.env)).any (·.1) = false := by rfl) :
    ME X K (.Call (.Name "list" p) [.Call (.Name "range" p2) [a, b] [] pos2] [] pos) (tLstRg (tRg2 ta tb)) (mLRg ma mb) := by
  obtain rfl := ha.hK
  exact ⟨rfl, pe_listRg hc hg hm (prg_2 hg2 hm2 ha.pe hb.pe n1 n2 n3) na, den_lrg ha.dn hb.dn⟩
end
end Dn
namespace Dn
open PySem L2
theorem u64 {k : Nat} {A : Around} (r : Room k A) : A.units + 64 < cLine := by have := r.un; omega
end Dn
noncomputable section
namespace LE
open PySem PySem.Spec PyProof.Rows L2 Dn
def lt__law_runs_1 : MT :=
  mB (mBin (fEq true) (mVar 0) (mLst (mNil)))
def lb__law_runs_2 : MS :=
  mSeq (mExpr (mMeth 2 fApp (mCons (mBin (fIn false) (mFn fLen (mCons (mVar 0) (mNil))) (mVar 0)) (mNil)))) (mAsg (fun _ => false) 0 (mCall LE.mf__law_next [] (mCons (mVar 0) (mNil))))
def lb__law_runs_3 : MS :=
  mIfS (mTAnd (mB (mBin (fB fun i j => decide (j < i)) (mVar 3) (mC (.int 0)))) (mB (mBin (fEq false) (mIxO 2 (mVar 3)) (mIxO 2 (mBin (fI (fun _ _ => true) fun i j => i - j) (mVar 3) (mC (.int 1))))))) (mSetO 1 (mUn fNeg (mC (.int 1))) (mBin fAdd (mIxO 1 (mUn fNeg (mC (.int 1)))) (mC (.int 1)))) (mExpr (mMeth 1 fApp (mCons (mC (.int 1)) (mNil))))
def mb__law_runs : MS :=
  mSeq (mAsg (fun _ => false) 1 (mLst (mNil))) (mSeq (mAsg (fun _ => false) 2 (mLst (mNil))) (mSeq (mWhile (lt__law_runs_1) (lb__law_runs_2)) (mSeq (mFor (miR1 (mCons (mLenO 2) (mNil))) (mgN (fun _ => false) 3) (lb__law_runs_3)) (mRetO 1))))
def mf__law_runs : MF := mDef 1 4 (fun _ => false) mb__law_runs
end LE
namespace LE
open PySem PySem.Spec PyProof.Rows L2 Dn
def lb__law_all_places_1 : MS :=
  mExpr (mExtN 1 (mLRg (mVar 2) (mBin fAdd (mVar 3) (mC (.int 1)))))
def mb__law_all_places : MS :=
  mSeq (mAsg (fun _ => false) 1 (mLst (mNil))) (mSeq (mFor (miS (mVar 0)) (mgL (fun _ => false) [2, 3]) (lb__law_all_places_1)) (mRetO 1))
def mf__law_all_places : MF := mDef 1 4 (fun _ => false) mb__law_all_places
end LE
namespace LH
open PySem PySem.Spec PyProof.Rows L2 Dn
def mb__law_bag : MS :=
  mSeq (mIfS (mB (mBin (fB fun i j => decide (i < j)) (mVar 0) (mC (.int 0)))) (mRet (mLst (mCons (mUn fNeg (mVar 0)) (mCons (mBin fAdd (mBin fMul (mC (.int 37)) (mVar 1)) (mC (.int 18))) (mNil))))) (mNext)) (mRet (mLst (mCons (mVar 0) (mCons (mBin fMul (mC (.int 37)) (mVar 1)) (mNil)))))
def mf__law_bag : MF := mDef 2 2 (fun _ => false) mb__law_bag
end LH
namespace LH
open PySem PySem.Spec PyProof.Rows L2 Dn
def mb__law_draw : MS :=
  mSeq (mAugO 0 (fun i j => i + j) (mC (.int 1)) (mC (.int 1))) (mSeq (mIfS (mB (mBin (fB fun i j => decide (j ≤ i)) (mIxO 0 (mC (.int 0))) (mBin (fI cPow fun i j => i ^ j.toNat) (mC (.int 10)) (mC (.int 18))))) (mSeq (mAsg (fun j => j == 0) 2 (mBin (fI cMod fun i j => i % j) (mIxO 0 (mC (.int 0))) (mVar 1))) (mSeq (mSetO 0 (mC (.int 0)) (mBin (fI cDiv fun i j => i / j) (mIxO 0 (mC (.int 0))) (mVar 1))) (mRet (mVar 2)))) (mNext)) (mSeq (mAsg (fun j => j == 0) 3 (mBin (fI cMod fun i j => i % j) (mBin fAdd (mBin fAdd (mBin (fI cMod fun i j => i % j) (mIxO 0 (mC (.int 0))) (mC (.int 2147483629))) (mBin fMul (mC (.int 104729)) (mIxO 0 (mC (.int 1))))) (mC (.int 1))) (mC (.int 2147483587)))) (mSeq (mAsg (fun j => j == 0) 3 (mBin (fI cMod fun i j => i % j) (mBin fMul (mVar 3) (mVar 3)) (mC (.int 2147483587)))) (mSeq (mAsg (fun j => j == 0) 3 (mBin (fI cMod fun i j => i % j) (mBin fAdd (mVar 3) (mBin fMul (mC (.int 40692)) (mIxO 0 (mC (.int 1))))) (mC (.int 2147483563)))) (mSeq (mAsg (fun j => j == 0) 3 (mBin (fI cMod fun i j => i % j) (mBin fMul (mVar 3) (mVar 3)) (mC (.int 2147483563)))) (mRet (mBin (fI cMod fun i j => i % j) (mBin (fI cDiv fun i j => i / j) (mVar 3) (mC (.int 8))) (mVar 1))))))))
def mf__law_draw : MF := mDef 2 4 (fun j => j == 0) mb__law_draw
end LH
namespace LH
open PySem PySem.Spec PyProof.Rows L2 Dn
def lb__law_runs_1 : MS :=
  mSeq (mIfS (mB (mBin (fEq false) (mVar 3) (mVar 2))) (mAugO 1 (fun i j => i + j) (mUn fNeg (mC (.int 1))) (mC (.int 1))) (mExpr (mMeth 1 fApp (mCons (mC (.int 1)) (mNil))))) (mAsg (fun _ => false) 2 (mVar 3))
def mb__law_runs : MS :=
  mSeq (mAsg (fun _ => false) 1 (mLst (mNil))) (mSeq (mAsg (fun _ => false) 2 (mC .none)) (mSeq (mFor (miS (mVar 0)) (mgN (fun _ => false) 3) (lb__law_runs_1)) (mRetO 1)))
def mf__law_runs : MF := mDef 1 4 (fun _ => false) mb__law_runs
end LH
noncomputable section
namespace K61
open PySem PySem.Spec PyProof.Rows L2 Dn
def lc_law_1 : MX :=
  mComp (miS (mVar 5)) (mgN (fun _ => false) 9) (mTYes) (mFn fList (mCons (mVar 9) (mNil))) [9]
def lc_law_2 : MX :=
  mComp (miS (mVar 7)) (mgN (fun _ => false) 9) (mB (mBin (fB fun i j => decide (j < i)) (mBin fIx (mVar 9) (mC (.int 1))) (mC (.int 14)))) (mVar 9) [9]
def lb_law_3 : MS :=
  mSeq (mAsg (fun _ => false) 4 (mCallM LE.mf__law_places 2 [] (mCons (mC (.int 14)) (mNil)))) (mSeq (mAsg (fun _ => false) 5 (mCall LE.mf__law_stretched [] (mCons (mVar 4) (mNil)))) (mSeq (mAsg (fun _ => false) 6 (mFn fTuple (mCons (lc_law_1) (mNil)))) (mSeq (mAsg (fun _ => false) 7 (mCall PR.mf_row_with [] (mCons (mVar 5) (mNil)))) (mSeq (mIfS (mB (mBin (fEq true) (lc_law_2) (mLst (mNil)))) (mRet (mC (.bool false))) (mNext)) (mSeq (mAsg (fun _ => false) 8 (mCall LE.mf__law_all_places [] (mCons (mVar 7) (mNil)))) (mSeq (mIfS (mTOr (mB (mBin (fEq true) (mCall LE.mf__law_runs [] (mCons (mVar 8) (mNil))) (mVar 4))) (mTNot (mTru (mCall (LE.mf__law_same 6) [] (mCons (mVar 7) (mCons (mCall LE.mf__law_stretched [] (mCons (mVar 8) (mNil))) (mNil))))))) (mRet (mC (.bool false))) (mNext)) (mIfS (mTOr (mTNot (mTru (mCall (LE.mf__law_same 6) [] (mCons (mCall PR.mf_row_with [] (mCons (mVar 6) (mNil))) (mCons (mVar 7) (mNil)))))) (mB (mBin (fEq true) (mVar 5) (mCall LE.mf__law_stretched [] (mCons (mVar 4) (mNil)))))) (mRet (mC (.bool false))) (mNext))))))))
def lb_law_4 : MS :=
  mSeq (mAsg (fun _ => false) 2 (mCall LE.mf__law_bag [] (mCons (mVar 1) (mNil)))) (mFor (miR1 (mCons (mC (.int 3)) (mNil))) (mgN (fun _ => false) 3) (lb_law_3))
def lc_law_5 : MX :=
  mComp (miN (mCall LE.mf__law_sets [] (mCons (mC (.int 6)) (mNil)))) (mgN (fun _ => false) 5) (mTYes) (mCall PR.mf_row_with [] (mCons (mCall LE.mf__law_stretched [] (mCons (mVar 5) (mNil))) (mNil))) [5]
def lc_law_6 : MX :=
  mComp (miS (mVar 7)) (mgN (fun _ => false) 5) (mTAnd (mB (mBin (fEq true) (mVar 5) (mLst (mNil)))) (mB (mBin (fB fun i j => decide (j < i)) (mBin fIx (mBin fIx (mVar 5) (mUn fNeg (mC (.int 1)))) (mC (.int 1))) (mC (.int 6))))) (mVar 5) [5]
def lc_law_7 : MX :=
  mComp (miS (mVar 7)) (mgN (fun _ => false) 5) (mTYes) (mCall LE.mf__law_all_places [] (mCons (mVar 5) (mNil))) [5]
def mb_law : MS :=
  mSeq (mFor (miN (mBin fAdd (mSl (mVar 0) (mON) (mOS (mC (.int 6)))) (mLst (mCons (mFn fLen (mCons (mVar 0) (mNil))) (mNil))))) (mgN (fun _ => false) 1) (lb_law_4)) (mSeq (mAsg (fun _ => false) 7 (lc_law_5)) (mSeq (mIfS (mB (mBin (fEq true) (lc_law_6) (mLst (mNil)))) (mRet (mC (.bool false))) (mNext)) (mRet (mBin (fEq false) (mFn fSortN (mCons (lc_law_7) (mNil))) (mFn fSortN (mCons (mCall LE.mf__law_sets [] (mCons (mC (.int 6)) (mNil))) (mNil)))))))
def mf_law : MF := mDef 1 10 (fun _ => false) mb_law
end K61
namespace K61
open PySem PySem.Spec PyProof.Rows L2 Dn
def topS (i : Nat) : Stmt := PySem.Challenge.pw_turntell_k61_rows_by_runs.main.body.getD i (.Pass ⟨0, 0, 0, 0⟩)
abbrev s_is_whole : Stmt := topS 4
abbrev N_is_whole : List Str := ["thing", "least"]
theorem sc_is_whole : FnScope N_is_whole ["thing", "least"] (defScope s_is_whole) := ⟨rfl, rfl, rfl, by decide +kernel, rfl, by decide +kernel, by decide +kernel⟩
abbrev s_is_row : Stmt := topS 5
abbrev N_is_row : List Str := ["thing", "free", "stretch"]
theorem sc_is_row : FnScope N_is_row ["thing"] (defScope s_is_row) := ⟨rfl, rfl, rfl, by decide +kernel, rfl, by decide +kernel, by decide +kernel⟩
abbrev s_is_stretch : Stmt := topS 6
abbrev N_is_stretch : List Str := ["thing", "free", "first", "last"]
theorem sc_is_stretch : FnScope N_is_stretch ["thing", "free"] (defScope s_is_stretch) := ⟨rfl, rfl, rfl, by decide +kernel, rfl, by decide +kernel, by decide +kernel⟩
abbrev s_given_row : Stmt := topS 7
abbrev N_given_row : List Str := ["row", "first", "last"]
theorem sc_given_row : FnScope N_given_row ["row"] (defScope s_given_row) := ⟨rfl, rfl, rfl, by decide +kernel, rfl, by decide +kernel, by decide +kernel⟩
abbrev s_last_of : Stmt := topS 8
abbrev N_last_of : List Str := ["stretches"]
theorem sc_last_of : FnScope N_last_of ["stretches"] (defScope s_last_of) := ⟨rfl, rfl, rfl, by decide +kernel, rfl, by decide +kernel, by decide +kernel⟩
abbrev s_strips_of : Stmt := topS 10
abbrev N_strips_of : List Str := ["stretches", "n", "strips", "free", "first", "last", "strip"]
theorem sc_strips_of : FnScope N_strips_of ["stretches", "n"] (defScope s_strips_of) := ⟨rfl, rfl, rfl, by decide +kernel, rfl, by decide +kernel, by decide +kernel⟩
abbrev s_row_of_strips : Stmt := topS 11
abbrev N_row_of_strips : List Str := ["strips", "stretches", "place", "coin", "many", "first"]
theorem sc_row_of_strips : FnScope N_row_of_strips ["strips"] (defScope s_row_of_strips) := ⟨rfl, rfl, rfl, by decide +kernel, rfl, by decide +kernel, by decide +kernel⟩
abbrev s_climbed : Stmt := topS 12
abbrev N_climbed : List Str := ["rungs", "coin", "many", "first", "second"]
theorem sc_climbed : FnScope N_climbed ["rungs", "coin", "many"] (defScope s_climbed) := ⟨rfl, rfl, rfl, by decide +kernel, rfl, by decide +kernel, by decide +kernel⟩
abbrev s_rungs_within : Stmt := topS 13
abbrev N_rungs_within : List Str := ["stretches", "n", "rungs", "coin", "many"]
theorem sc_rungs_within : FnScope N_rungs_within ["stretches", "n"] (defScope s_rungs_within) := ⟨rfl, rfl, rfl, by decide +kernel, rfl, by decide +kernel, by decide +kernel⟩
abbrev s_way_up : Stmt := topS 14
abbrev N_way_up : List Str := ["stretches"]
theorem sc_way_up : FnScope N_way_up ["stretches"] (defScope s_way_up) := ⟨rfl, rfl, rfl, by decide +kernel, rfl, by decide +kernel, by decide +kernel⟩
abbrev s_opposite : Stmt := topS 18
abbrev N_opposite : List Str := ["kind", "r", "s"]
theorem sc_opposite : FnScope N_opposite ["kind"] (defScope s_opposite) := ⟨rfl, rfl, rfl, by decide +kernel, rfl, by decide +kernel, by decide +kernel⟩
abbrev s_even_kind : Stmt := topS 19
abbrev N_even_kind : List Str := ["kind", "r", "s"]
theorem sc_even_kind : FnScope N_even_kind ["kind"] (defScope s_even_kind) := ⟨rfl, rfl, rfl, by decide +kernel, rfl, by decide +kernel, by decide +kernel⟩
abbrev s_coin_told : Stmt := topS 20
abbrev N_coin_told : List Str := ["kind", "following"]
theorem sc_coin_told : FnScope N_coin_told ["kind", "following"] (defScope s_coin_told) := ⟨rfl, rfl, rfl, by decide +kernel, rfl, by decide +kernel, by decide +kernel⟩
abbrev s_kind_behind : Stmt := topS 21
abbrev N_kind_behind : List Str := ["layer", "kind", "following", "many"]
theorem sc_kind_behind : FnScope N_kind_behind ["layer"] (defScope s_kind_behind) := ⟨rfl, rfl, rfl, by decide +kernel, rfl, by decide +kernel, by decide +kernel⟩
abbrev s_one_way : Stmt := topS 22
abbrev N_one_way : List Str := ["layer", "kind", "following", "many", "ways", "way"]
theorem sc_one_way : FnScope N_one_way ["layer"] (defScope s_one_way) := ⟨rfl, rfl, rfl, by decide +kernel, rfl, by decide +kernel, by decide +kernel⟩
abbrev s_part_of : Stmt := topS 23
abbrev N_part_of : List Str := ["layer", "rungs", "kind", "following", "many", "first", "second"]
theorem sc_part_of : FnScope N_part_of ["layer", "rungs"] (defScope s_part_of) := ⟨rfl, rfl, rfl, by decide +kernel, rfl, by decide +kernel, by decide +kernel⟩
abbrev s_pairs_on : Stmt := topS 24
abbrev N_pairs_on : List Str := ["kind", "rungs", "first", "second"]
theorem sc_pairs_on : FnScope N_pairs_on ["kind", "rungs"] (defScope s_pairs_on) := ⟨rfl, rfl, rfl, by decide +kernel, rfl, by decide +kernel, by decide +kernel⟩
abbrev s_pair_on : Stmt := topS 25
abbrev N_pair_on : List Str := ["stretches", "turns"]
theorem sc_pair_on : FnScope N_pair_on ["stretches", "turns"] (defScope s_pair_on) := ⟨rfl, rfl, rfl, by decide +kernel, rfl, by decide +kernel, by decide +kernel⟩
abbrev s_pair_on_within : Stmt := topS 26
abbrev N_pair_on_within : List Str := ["n", "outer", "stretches", "turns", "strips", "ladders", "coin", "many", "kind", "far", "layers", "at", "found"]
theorem sc_pair_on_within : FnScope N_pair_on_within ["n", "outer", "stretches", "turns"] (defScope s_pair_on_within) := ⟨rfl, rfl, rfl, by decide +kernel, rfl, by decide +kernel, by decide +kernel⟩
abbrev s_layers_at : Stmt := topS 27
abbrev N_layers_at : List Str := ["kind", "far", "strip", "rungs", "coin", "many", "inner", "outer", "pairs", "middle", "layers", "left", "near", "aside"]
theorem sc_layers_at : FnScope N_layers_at ["kind", "far", "strip", "rungs"] (defScope s_layers_at) := ⟨rfl, rfl, rfl, by decide +kernel, rfl, by decide +kernel, by decide +kernel⟩
abbrev s_far_in : Stmt := topS 28
abbrev N_far_in : List Str := ["layer", "far", "rungs", "begins", "contrary"]
theorem sc_far_in : FnScope N_far_in ["layer", "far", "rungs"] (defScope s_far_in) := ⟨rfl, rfl, rfl, by decide +kernel, rfl, by decide +kernel, by decide +kernel⟩
abbrev s_pair_of : Stmt := topS 29
abbrev N_pair_of : List Str := ["layers", "ones", "others", "layer", "r", "s", "beside", "coin", "many"]
theorem sc_pair_of : FnScope N_pair_of ["layers"] (defScope s_pair_of) := ⟨rfl, rfl, rfl, by decide +kernel, rfl, by decide +kernel, by decide +kernel⟩
abbrev s_row_of_ends : Stmt := topS 30
abbrev N_row_of_ends : List Str := ["ends", "lasts", "firsts"]
theorem sc_row_of_ends : FnScope N_row_of_ends ["ends"] (defScope s_row_of_ends) := ⟨rfl, rfl, rfl, by decide +kernel, rfl, by decide +kernel, by decide +kernel⟩
abbrev s_row_with : Stmt := topS 32
abbrev N_row_with : List Str := ["row", "one", "_"]
theorem sc_row_with : FnScope N_row_with ["row"] (defScope s_row_with) := ⟨rfl, rfl, rfl, by decide +kernel, rfl, by decide +kernel, by decide +kernel⟩
abbrev s_pair_halfway : Stmt := topS 33
abbrev N_pair_halfway : List Str := ["stretches"]
theorem sc_pair_halfway : FnScope N_pair_halfway ["stretches"] (defScope s_pair_halfway) := ⟨rfl, rfl, rfl, by decide +kernel, rfl, by decide +kernel, by decide +kernel⟩
abbrev s__law_mix : Stmt := topS 35
abbrev N__law_mix : List Str := ["bag", "one"]
theorem sc__law_mix : FnScope N__law_mix ["bag"] (defScope s__law_mix) := ⟨rfl, rfl, rfl, by decide +kernel, rfl, by decide +kernel, by decide +kernel⟩
abbrev s__law_bag : Stmt := topS 36
abbrev N__law_bag : List Str := ["cell", "bag"]
theorem sc__law_bag : FnScope N__law_bag ["cell"] (defScope s__law_bag) := ⟨rfl, rfl, rfl, by decide +kernel, rfl, by decide +kernel, by decide +kernel⟩
abbrev s__law_draw : Stmt := topS 37
abbrev N__law_draw : List Str := ["bag", "size", "digit"]
theorem sc__law_draw : FnScope N__law_draw ["bag", "size"] (defScope s__law_draw) := ⟨rfl, rfl, rfl, by decide +kernel, rfl, by decide +kernel, by decide +kernel⟩
abbrev s__law_places : Stmt := topS 39
abbrev N__law_places : List Str := ["bag", "most", "often", "place"]
theorem sc__law_places : FnScope N__law_places ["bag", "most"] (defScope s__law_places) := ⟨rfl, rfl, rfl, by decide +kernel, rfl, by decide +kernel, by decide +kernel⟩
abbrev s__law_stretched : Stmt := topS 40
abbrev N__law_stretched : List Str := ["places", "found", "place"]
theorem sc__law_stretched : FnScope N__law_stretched ["places"] (defScope s__law_stretched) := ⟨rfl, rfl, rfl, by decide +kernel, rfl, by decide +kernel, by decide +kernel⟩
abbrev s__law_next : Stmt := topS 41
abbrev N__law_next : List Str := ["places", "count", "place"]
theorem sc__law_next : FnScope N__law_next ["places"] (defScope s__law_next) := ⟨rfl, rfl, rfl, by decide +kernel, rfl, by decide +kernel, by decide +kernel⟩
abbrev s__law_same : Stmt := topS 42
abbrev N__law_same : List Str := ["found", "due", "k"]
theorem sc__law_same : FnScope N__law_same ["found", "due"] (defScope s__law_same) := ⟨rfl, rfl, rfl, by decide +kernel, rfl, by decide +kernel, by decide +kernel⟩
abbrev s__law_runs : Stmt := topS 43
abbrev N__law_runs : List Str := ["places", "found", "ways", "k"]
theorem sc__law_runs : FnScope N__law_runs ["places"] (defScope s__law_runs) := ⟨rfl, rfl, rfl, by decide +kernel, rfl, by decide +kernel, by decide +kernel⟩
abbrev s__law_all_places : Stmt := topS 44
abbrev N__law_all_places : List Str := ["some", "found", "first", "last"]
theorem sc__law_all_places : FnScope N__law_all_places ["some"] (defScope s__law_all_places) := ⟨rfl, rfl, rfl, by decide +kernel, rfl, by decide +kernel, by decide +kernel⟩
abbrev s__law_sets : Stmt := topS 45
abbrev N__law_sets : List Str := ["most", "found", "number", "some"]
theorem sc__law_sets : FnScope N__law_sets ["most"] (defScope s__law_sets) := ⟨rfl, rfl, rfl, by decide +kernel, rfl, by decide +kernel, by decide +kernel⟩
abbrev s_law : Stmt := topS 46
abbrev N_law : List Str := ["script", "cell", "bag", "time", "lengths", "some", "handed", "told", "places", "pair"]
theorem sc_law : FnScope N_law ["script"] (defScope s_law) := ⟨rfl, rfl, rfl, by decide +kernel, rfl, by decide +kernel, by decide +kernel⟩
structure Ad where
  a_is_whole : Addr
  d_is_whole : FuncData
  a_is_row : Addr
  d_is_row : FuncData
  a_is_stretch : Addr
  d_is_stretch : FuncData
  a_given_row : Addr
  d_given_row : FuncData
  a_last_of : Addr
  d_last_of : FuncData
  a_strips_of : Addr
  d_strips_of : FuncData
  a_row_of_strips : Addr
  d_row_of_strips : FuncData
  a_climbed : Addr
  d_climbed : FuncData
  a_rungs_within : Addr
  d_rungs_within : FuncData
  a_way_up : Addr
  d_way_up : FuncData
  a_opposite : Addr
  d_opposite : FuncData
  a_even_kind : Addr
  d_even_kind : FuncData
  a_coin_told : Addr
  d_coin_told : FuncData
  a_kind_behind : Addr
  d_kind_behind : FuncData
  a_one_way : Addr
  d_one_way : FuncData
  a_part_of : Addr
  d_part_of : FuncData
  a_pairs_on : Addr
  d_pairs_on : FuncData
  a_pair_on : Addr
  d_pair_on : FuncData
  a_pair_on_within : Addr
  d_pair_on_within : FuncData
  a_layers_at : Addr
  d_layers_at : FuncData
  a_far_in : Addr
  d_far_in : FuncData
  a_pair_of : Addr
  d_pair_of : FuncData
  a_row_of_ends : Addr
  d_row_of_ends : FuncData
  a_row_with : Addr
  d_row_with : FuncData
  a_pair_halfway : Addr
  d_pair_halfway : FuncData
  a__law_mix : Addr
  d__law_mix : FuncData
  a__law_bag : Addr
  d__law_bag : FuncData
  a__law_draw : Addr
  d__law_draw : FuncData
  a__law_places : Addr
  d__law_places : FuncData
  a__law_stretched : Addr
  d__law_stretched : FuncData
  a__law_next : Addr
  d__law_next : FuncData
  a__law_same : Addr
  d__law_same : FuncData
  a__law_runs : Addr
  d__law_runs : FuncData
  a__law_all_places : Addr
  d__law_all_places : FuncData
  a__law_sets : Addr
  d__law_sets : FuncData
  a_law : Addr
  d_law : FuncData
  p_NEAR : Addr
  u_OUTSIDE : Addr
structure Txt (K : PySem.W.Frag) (w : World) (mg : Str → Option Value) (A : Ad) : Prop where
  f_is_whole : Fun K "is_whole" "is_whole" s_is_whole A.a_is_whole A.d_is_whole
  g_is_whole : mg "is_whole" = some (.ref A.a_is_whole)
  b_is_whole : Binds K A.d_is_whole ["thing", "least"] []
  f_is_row : Fun K "is_row" "is_row" s_is_row A.a_is_row A.d_is_row
  g_is_row : mg "is_row" = some (.ref A.a_is_row)
  b_is_row : Binds K A.d_is_row ["thing"] []
  f_is_stretch : Fun K "is_stretch" "is_stretch" s_is_stretch A.a_is_stretch A.d_is_stretch
  g_is_stretch : mg "is_stretch" = some (.ref A.a_is_stretch)
  b_is_stretch : Binds K A.d_is_stretch ["thing", "free"] []
  f_given_row : Fun K "given_row" "given_row" s_given_row A.a_given_row A.d_given_row
  g_given_row : mg "given_row" = some (.ref A.a_given_row)
  b_given_row : Binds K A.d_given_row ["row"] []
  f_last_of : Fun K "last_of" "last_of" s_last_of A.a_last_of A.d_last_of
  g_last_of : mg "last_of" = some (.ref A.a_last_of)
  b_last_of : Binds K A.d_last_of ["stretches"] []
  f_strips_of : Fun K "strips_of" "strips_of" s_strips_of A.a_strips_of A.d_strips_of
  g_strips_of : mg "strips_of" = some (.ref A.a_strips_of)
  b_strips_of : Binds K A.d_strips_of ["stretches", "n"] []
  f_row_of_strips : Fun K "row_of_strips" "row_of_strips" s_row_of_strips A.a_row_of_strips A.d_row_of_strips
  g_row_of_strips : mg "row_of_strips" = some (.ref A.a_row_of_strips)
  b_row_of_strips : Binds K A.d_row_of_strips ["strips"] []
  f_climbed : Fun K "climbed" "climbed" s_climbed A.a_climbed A.d_climbed
  g_climbed : mg "climbed" = some (.ref A.a_climbed)
  b_climbed : Binds K A.d_climbed ["rungs", "coin", "many"] []
  f_rungs_within : Fun K "rungs_within" "rungs_within" s_rungs_within A.a_rungs_within A.d_rungs_within
  g_rungs_within : mg "rungs_within" = some (.ref A.a_rungs_within)
  b_rungs_within : Binds K A.d_rungs_within ["stretches", "n"] []
  f_way_up : Fun K "way_up" "way_up" s_way_up A.a_way_up A.d_way_up
  g_way_up : mg "way_up" = some (.ref A.a_way_up)
  b_way_up : Binds K A.d_way_up ["stretches"] []
  f_opposite : Fun K "opposite" "opposite" s_opposite A.a_opposite A.d_opposite
  g_opposite : mg "opposite" = some (.ref A.a_opposite)
  b_opposite : Binds K A.d_opposite ["kind"] []
  f_even_kind : Fun K "even_kind" "even_kind" s_even_kind A.a_even_kind A.d_even_kind
  g_even_kind : mg "even_kind" = some (.ref A.a_even_kind)
  b_even_kind : Binds K A.d_even_kind ["kind"] []
  f_coin_told : Fun K "coin_told" "coin_told" s_coin_told A.a_coin_told A.d_coin_told
  g_coin_told : mg "coin_told" = some (.ref A.a_coin_told)
  b_coin_told : Binds K A.d_coin_told ["kind", "following"] []
  f_kind_behind : Fun K "kind_behind" "kind_behind" s_kind_behind A.a_kind_behind A.d_kind_behind
  g_kind_behind : mg "kind_behind" = some (.ref A.a_kind_behind)
  b_kind_behind : Binds K A.d_kind_behind ["layer"] []
  f_one_way : Fun K "one_way" "one_way" s_one_way A.a_one_way A.d_one_way
  g_one_way : mg "one_way" = some (.ref A.a_one_way)
  b_one_way : Binds K A.d_one_way ["layer"] []
  f_part_of : Fun K "part_of" "part_of" s_part_of A.a_part_of A.d_part_of
  g_part_of : mg "part_of" = some (.ref A.a_part_of)
  b_part_of : Binds K A.d_part_of ["layer", "rungs"] []
  f_pairs_on : Fun K "pairs_on" "pairs_on" s_pairs_on A.a_pairs_on A.d_pairs_on
  g_pairs_on : mg "pairs_on" = some (.ref A.a_pairs_on)
  b_pairs_on : Binds K A.d_pairs_on ["kind", "rungs"] []
  f_pair_on : Fun K "pair_on" "pair_on" s_pair_on A.a_pair_on A.d_pair_on
  g_pair_on : mg "pair_on" = some (.ref A.a_pair_on)
  b_pair_on : Binds K A.d_pair_on ["stretches", "turns"] []
  f_pair_on_within : Fun K "pair_on_within" "pair_on_within" s_pair_on_within A.a_pair_on_within A.d_pair_on_within
  g_pair_on_within : mg "pair_on_within" = some (.ref A.a_pair_on_within)
  b_pair_on_within : Binds K A.d_pair_on_within ["n", "outer", "stretches", "turns"] []
  f_layers_at : Fun K "layers_at" "layers_at" s_layers_at A.a_layers_at A.d_layers_at
  g_layers_at : mg "layers_at" = some (.ref A.a_layers_at)
  b_layers_at : Binds K A.d_layers_at ["kind", "far", "strip", "rungs"] []
  f_far_in : Fun K "far_in" "far_in" s_far_in A.a_far_in A.d_far_in
  g_far_in : mg "far_in" = some (.ref A.a_far_in)
  b_far_in : Binds K A.d_far_in ["layer", "far", "rungs"] []
  f_pair_of : Fun K "pair_of" "pair_of" s_pair_of A.a_pair_of A.d_pair_of
  g_pair_of : mg "pair_of" = some (.ref A.a_pair_of)
  b_pair_of : Binds K A.d_pair_of ["layers"] []
  f_row_of_ends : Fun K "row_of_ends" "row_of_ends" s_row_of_ends A.a_row_of_ends A.d_row_of_ends
  g_row_of_ends : mg "row_of_ends" = some (.ref A.a_row_of_ends)
  b_row_of_ends : Binds K A.d_row_of_ends ["ends"] []
  f_row_with : Fun K "row_with" "row_with" s_row_with A.a_row_with A.d_row_with
  g_row_with : mg "row_with" = some (.ref A.a_row_with)
  b_row_with : Binds K A.d_row_with ["row"] []
  f_pair_halfway : Fun K "pair_halfway" "pair_halfway" s_pair_halfway A.a_pair_halfway A.d_pair_halfway
  g_pair_halfway : mg "pair_halfway" = some (.ref A.a_pair_halfway)
  b_pair_halfway : Binds K A.d_pair_halfway ["stretches"] []
  f__law_mix : Fun K "_law_mix" "_law_mix" s__law_mix A.a__law_mix A.d__law_mix
  g__law_mix : mg "_law_mix" = some (.ref A.a__law_mix)
  b__law_mix : Binds K A.d__law_mix ["bag"] []
  f__law_bag : Fun K "_law_bag" "_law_bag" s__law_bag A.a__law_bag A.d__law_bag
  g__law_bag : mg "_law_bag" = some (.ref A.a__law_bag)
  b__law_bag : Binds K A.d__law_bag ["cell"] []
  f__law_draw : Fun K "_law_draw" "_law_draw" s__law_draw A.a__law_draw A.d__law_draw
  g__law_draw : mg "_law_draw" = some (.ref A.a__law_draw)
  b__law_draw : Binds K A.d__law_draw ["bag", "size"] []
  f__law_places : Fun K "_law_places" "_law_places" s__law_places A.a__law_places A.d__law_places
  g__law_places : mg "_law_places" = some (.ref A.a__law_places)
  b__law_places : Binds K A.d__law_places ["bag", "most"] []
  f__law_stretched : Fun K "_law_stretched" "_law_stretched" s__law_stretched A.a__law_stretched A.d__law_stretched
  g__law_stretched : mg "_law_stretched" = some (.ref A.a__law_stretched)
  b__law_stretched : Binds K A.d__law_stretched ["places"] []
  f__law_next : Fun K "_law_next" "_law_next" s__law_next A.a__law_next A.d__law_next
  g__law_next : mg "_law_next" = some (.ref A.a__law_next)
  b__law_next : Binds K A.d__law_next ["places"] []
  f__law_same : Fun K "_law_same" "_law_same" s__law_same A.a__law_same A.d__law_same
  g__law_same : mg "_law_same" = some (.ref A.a__law_same)
  b__law_same : Binds K A.d__law_same ["found", "due"] []
  f__law_runs : Fun K "_law_runs" "_law_runs" s__law_runs A.a__law_runs A.d__law_runs
  g__law_runs : mg "_law_runs" = some (.ref A.a__law_runs)
  b__law_runs : Binds K A.d__law_runs ["places"] []
  f__law_all_places : Fun K "_law_all_places" "_law_all_places" s__law_all_places A.a__law_all_places A.d__law_all_places
  g__law_all_places : mg "_law_all_places" = some (.ref A.a__law_all_places)
  b__law_all_places : Binds K A.d__law_all_places ["some"] []
  f__law_sets : Fun K "_law_sets" "_law_sets" s__law_sets A.a__law_sets A.d__law_sets
  g__law_sets : mg "_law_sets" = some (.ref A.a__law_sets)
  b__law_sets : Binds K A.d__law_sets ["most"] []
  f_law : Fun K "law" "law" s_law A.a_law A.d_law
  g_law : mg "law" = some (.ref A.a_law)
  b_law : Binds K A.d_law ["script"] []
  n_all : mg "all" = none
  n_bool : mg "bool" = none
  n_int : mg "int" = none
  n_isinstance : mg "isinstance" = none
  n_len : mg "len" = none
  n_list : mg "list" = none
  n_max : mg "max" = none
  n_min : mg "min" = none
  n_range : mg "range" = none
  n_reversed : mg "reversed" = none
  n_sorted : mg "sorted" = none
  n_sum : mg "sum" = none
  n_tuple : mg "tuple" = none
  p_NEAR : KTT K A.p_NEAR [((0, 0), (0, 1)), ((1, 1), (1, 0)), ((0, 1), (0, 0)), ((1, 0), (0, 0))]
  pg_NEAR : mg "NEAR" = some (.ref A.p_NEAR)
  u_OUTSIDE : TupK K A.u_OUTSIDE 0 0
  ug_OUTSIDE : mg "OUTSIDE" = some (.ref A.u_OUTSIDE)
section
variable {P : Program} {w : World} {K : PySem.W.Frag} {mg : Str → Option Value} {base : Heap} {A : Ad}
theorem ok_is_whole (C : Txt K w mg A) : FnOk P w K mg base CX0 1 A.a_is_whole A.d_is_whole ["thing", "least"] (spD K PR.mf_is_whole) :=
  fn_ok (N := N_is_whole) (kp := (fun _ => false)) C.f_is_whole sc_is_whole (by decide) (fun cdv B outer s H E hr => ⟨_, mss_one (ms_ret (me_and (me_isi (by rfl) C.n_isinstance (me_var 0) (by rfl) C.n_int (by decide +kernel) (by decide)) (me_and (me_not (me_isi (by rfl) C.n_isinstance (me_var 0) (by rfl) C.n_bool (by decide +kernel) (by decide))) (me_one (me_ge (me_var 0) (me_var 1))))))⟩)
theorem ok_is_stretch (C : Txt K w mg A) : FnOk P w K mg base CX0 2 A.a_is_stretch A.d_is_stretch ["thing", "free"] (spD K PR.mf_is_stretch) :=
  fn_ok (N := N_is_stretch) (kp := (fun _ => false)) C.f_is_stretch sc_is_stretch (by decide) (fun cdv B outer s H E hr => ⟨_, mss_cons (ms_if ((mew_or (met_not (met_tru (me_isiT2 (by rfl) C.n_isinstance (me_var 0) (by rfl) C.n_list (by decide +kernel) (by rfl) C.n_tuple (by decide +kernel) (by decide) (by decide)))) (mew_or1 (met_ne hr.units (me_fn fnS_len call_len (by rfl) C.n_len (by decide +kernel) (mea_cons (me_var 0) (mea_nil))) (me_int)))).met) (mss_one (ms_ret (me_bl))) (mss_nil)) (mss_cons (ms_asgT (me_var 0) (mg_tl rfl (pgn_cons 2 (pgn_cons 3 (pgn_nil) sc_is_stretch.nd) sc_is_stretch.nd))) (mss_one (ms_ret (me_and (me_call (ok_is_whole C) (hr.mono (by decide)) (by rfl) C.g_is_whole C.f_is_whole.kp C.b_is_whole .nil .nil (mea_cons (me_var 2) (mea_cons (me_var 1) (mea_nil)))) (me_one (me_call (ok_is_whole C) (hr.mono (by decide)) (by rfl) C.g_is_whole C.f_is_whole.kp C.b_is_whole .nil .nil (mea_cons (me_var 3) (mea_cons (me_var 2) (mea_nil)))))))))⟩)
theorem ok_last_of (C : Txt K w mg A) : FnOk P w K mg base CX0 1 A.a_last_of A.d_last_of ["stretches"] (spD K PR.mf_last_of) :=
  fn_ok (N := N_last_of) (kp := (fun _ => false)) C.f_last_of sc_last_of (by decide) (fun cdv B outer s H E hr => ⟨_, mss_one (ms_ret (me_if (met_tru (me_var 0)) (me_ix (me_ix (me_var 0) (me_neg (me_int)) (fun _ _ => rfl)) (me_int) (fun _ _ => rfl)) (me_int)))⟩)
theorem ok_strips_of (C : Txt K w mg A) : FnOk P w K mg base CX0 1 A.a_strips_of A.d_strips_of ["stretches", "n"] (spD K PR.mf_strips_of) :=
  fn_ok (N := N_strips_of) (kp := (fun _ => false)) C.f_strips_of sc_strips_of (by decide) (fun cdv B outer s H E hr => ⟨_, mss_cons (ms_asg 2 (me_lst (mea_nil)) sc_strips_of.nd) (mss_cons (ms_asg 3 (me_int) sc_strips_of.nd) (mss_cons (ms_for PassesOwn.never rfl (mi_seq (me_var 0)) (mg_tl rfl (pgn_cons 4 (pgn_cons 5 (pgn_nil) sc_strips_of.nd) sc_strips_of.nd)) (mss_cons (ms_augL 2 (me_lst (mea_cons (me_tup (mea_cons (me_int) (mea_cons (me_sub (me_var 4) (me_var 3)) (mea_nil)))) (mea_cons (me_tup (mea_cons (me_int) (mea_cons (me_add (me_sub (me_var 5) (me_var 4)) (me_int)) (mea_nil)))) (mea_nil)))) sc_strips_of.nd) (mss_one (ms_asg 3 (me_add (me_var 5) (me_int)) sc_strips_of.nd)))) (mss_cons (ms_expr (me_meth 2 PySem.F.slot_list_append PySem.F.type_list_append methS_app mt_append (mea_cons (me_tup (mea_cons (me_int) (mea_cons (me_sub (me_add (me_var 1) (me_int)) (me_var 3)) (mea_nil)))) (mea_nil)))) (mss_one (ms_ret (me_comp (own := [("strip", 6)]) rfl sc_strips_of.nd (mi_seq (me_var 2)) (blkOk_by (N := N_strips_of) (sc := defScope s_strips_of) (by decide +kernel)) (fun _ _ _ _ _ => mg_name 6 sc_strips_of.nd) (fun _ _ _ _ _ => mts_one (met_gt (me_ix (me_var 6) (me_int) (fun _ _ => rfl)) (me_int))) (fun _ _ _ _ _ => me_var 6)))))))⟩)
theorem ok_row_of_strips (C : Txt K w mg A) : FnOk P w K mg base CX0 2 A.a_row_of_strips A.d_row_of_strips ["strips"] (spD K PR.mf_row_of_strips) :=
  fn_ok (N := N_row_of_strips) (kp := (fun _ => false)) C.f_row_of_strips sc_row_of_strips (by decide) (fun cdv B outer s H E hr => ⟨_, mss_cons (ms_asg 1 (me_lst (mea_nil)) sc_row_of_strips.nd) (mss_cons (ms_asg 2 (me_int) sc_row_of_strips.nd) (mss_cons (ms_for PassesOwn.never rfl (mi_seq (me_var 0)) (mg_tl rfl (pgn_cons 3 (pgn_cons 4 (pgn_nil) sc_row_of_strips.nd) sc_row_of_strips.nd)) (mss_cons (ms_if ((mew_and (met_eq hr.units (me_var 3) (me_int)) (mew_and1 (met_gt (me_var 4) (me_int)))).met) (mss_cons (ms_asg 5 (me_add (me_var 2) (me_int)) sc_row_of_strips.nd) (mss_cons (ms_if ((mew_and (met_truO 1) (mew_and1 (met_eq hr.units (me_callN (ok_last_of C) (hr.mono (by decide)) (by rfl) C.g_last_of C.f_last_of.kp C.b_last_of (men_o 1 (men_nil))) (me_var 2)))).met) (mss_one (ms_asg 5 (me_ix (me_meth0 1 PySem.F.slot_list_pop PySem.F.type_list_pop methS_pop mt_pop) (me_int) (fun _ _ => rfl)) sc_row_of_strips.nd)) (mss_nil)) (mss_one (ms_expr (me_meth 1 PySem.F.slot_list_append PySem.F.type_list_append methS_app mt_append (mea_cons (me_tup (mea_cons (me_var 5) (mea_cons (me_add (me_var 2) (me_var 4)) (mea_nil)))) (mea_nil))))))) (mss_nil)) (mss_one (ms_aug 2 ip_add (me_var 4) sc_row_of_strips.nd)))) (mss_one (ms_retO 1))))⟩)
theorem ok_climbed (C : Txt K w mg A) : FnOk P w K mg base CX0 1 A.a_climbed A.d_climbed ["rungs", "coin", "many"] (spD K PR.mf_climbed) :=
  fn_ok (N := N_climbed) (kp := (fun _ => false)) C.f_climbed sc_climbed (by decide) (fun cdv B outer s H E hr => ⟨_, mss_cons (ms_asgT (me_var 0) (mg_tl rfl (pgn_cons 3 (pgn_cons 4 (pgn_nil) sc_climbed.nd) sc_climbed.nd))) (mss_cons (ms_if (met_eq hr.units (me_var 1) (me_int)) (mss_one (ms_ret (me_tup (mea_cons (me_add (me_var 3) (me_mul (me_mul (me_int) (me_var 2)) (me_var 4))) (mea_cons (me_var 4) (mea_nil)))))) (mss_nil)) (mss_one (ms_ret (me_tup (mea_cons (me_var 3) (mea_cons (me_add (me_var 4) (me_mul (me_mul (me_int) (me_var 2)) (me_var 3))) (mea_nil)))))))⟩)
theorem ok_rungs_within (C : Txt K w mg A) : FnOk P w K mg base CX0 2 A.a_rungs_within A.d_rungs_within ["stretches", "n"] (spD K PR.mf_rungs_within) :=
  fn_ok (N := N_rungs_within) (kp := (fun _ => false)) C.f_rungs_within sc_rungs_within (by decide) (fun cdv B outer s H E hr => ⟨_, mss_cons (ms_asg 2 (me_tup (mea_cons (me_int) (mea_cons (me_int) (mea_nil)))) sc_rungs_within.nd) (mss_cons (ms_for PassesOwn.never rfl (mi_new (me_call (ok_strips_of C) (hr.mono (by decide)) (by rfl) C.g_strips_of C.f_strips_of.kp C.b_strips_of .nil .nil (mea_cons (me_var 0) (mea_cons (me_var 1) (mea_nil))))) (mg_tl rfl (pgn_cons 3 (pgn_cons 4 (pgn_nil) sc_rungs_within.nd) sc_rungs_within.nd)) (mss_one (ms_asg 2 (me_call (ok_climbed C) (hr.mono (by decide)) (by rfl) C.g_climbed C.f_climbed.kp C.b_climbed .nil .nil (mea_cons (me_var 2) (mea_cons (me_var 3) (mea_cons (me_var 4) (mea_nil))))) sc_rungs_within.nd))) (mss_one (ms_ret (me_var 2))))⟩)
theorem ok_way_up (C : Txt K w mg A) : FnOk P w K mg base CX0 3 A.a_way_up A.d_way_up ["stretches"] (spD K PR.mf_way_up) :=
  fn_ok (N := N_way_up) (kp := (fun _ => false)) C.f_way_up sc_way_up (by decide) (fun cdv B outer s H E hr => ⟨_, mss_one (ms_ret (me_sub (me_ix (me_call (ok_rungs_within C) (hr.mono (by decide)) (by rfl) C.g_rungs_within C.f_rungs_within.kp C.b_rungs_within .nil .nil (mea_cons (me_var 0) (mea_cons (me_call (ok_last_of C) (hr.mono (by decide)) (by rfl) C.g_last_of C.f_last_of.kp C.b_last_of .nil .nil (mea_cons (me_var 0) (mea_nil))) (mea_nil)))) (me_int) (fun _ _ => rfl)) (me_int)))⟩)
theorem ok_opposite (C : Txt K w mg A) : FnOk P w K mg base CX0 1 A.a_opposite A.d_opposite ["kind"] (spD K PR.mf_opposite) :=
  fn_ok (N := N_opposite) (kp := (fun _ => false)) C.f_opposite sc_opposite (by decide) (fun cdv B outer s H E hr => ⟨_, mss_cons (ms_asgT (me_var 0) (mg_tl rfl (pgn_cons 1 (pgn_cons 2 (pgn_nil) sc_opposite.nd) sc_opposite.nd))) (mss_one (ms_ret (me_tup (mea_cons (me_sub (me_int) (me_var 1)) (mea_cons (me_sub (me_int) (me_var 2)) (mea_nil))))))⟩)
theorem ok_even_kind (C : Txt K w mg A) : FnOk P w K mg base CX0 1 A.a_even_kind A.d_even_kind ["kind"] (spD K PR.mf_even_kind) :=
  fn_ok (N := N_even_kind) (kp := (fun _ => false)) C.f_even_kind sc_even_kind (by decide) (fun cdv B outer s H E hr => ⟨_, mss_cons (ms_asgT (me_var 0) (mg_tl rfl (pgn_cons 1 (pgn_cons 2 (pgn_nil) sc_even_kind.nd) sc_even_kind.nd))) (mss_one (ms_ret (me_eq hr.units (me_var 1) (me_var 2))))⟩)
theorem ok_coin_told (C : Txt K w mg A) : FnOk P w K mg base CX0 2 A.a_coin_told A.d_coin_told ["kind", "following"] (spD K PR.mf_coin_told) :=
  fn_ok (N := N_coin_told) (kp := (fun _ => false)) C.f_coin_told sc_coin_told (by decide) (fun cdv B outer s H E hr => ⟨_, mss_one (ms_ret (me_fnT fnS_int call_int1 (by rfl) C.n_int (by decide +kernel) (mea_cons (me_ne hr.units (me_call (ok_even_kind C) (hr.mono (by decide)) (by rfl) C.g_even_kind C.f_even_kind.kp C.b_even_kind .nil .nil (mea_cons (me_var 0) (mea_nil))) (me_eq hr.units (me_var 0) (me_var 1))) (mea_nil))))⟩)
theorem ok_kind_behind (C : Txt K w mg A) : FnOk P w K mg base CX0 1 A.a_kind_behind A.d_kind_behind ["layer"] (spD K PR.mf_kind_behind) :=
  fn_ok (N := N_kind_behind) (kp := (fun _ => false)) C.f_kind_behind sc_kind_behind (by decide) (fun cdv B outer s H E hr => ⟨_, mss_cons (ms_asgT (me_var 0) (mg_tl rfl (pgn_cons 1 (pgn_cons 2 (pgn_cons 3 (pgn_nil) sc_kind_behind.nd) sc_kind_behind.nd) sc_kind_behind.nd))) (mss_one (ms_ret (me_if (met_tru (me_and1 (me_var 3) (me_int))) (me_var 2) (me_var 1))))⟩)
theorem ok_one_way (C : Txt K w mg A) : FnOk P w K mg base CX0 2 A.a_one_way A.d_one_way ["layer"] (spD K PR.mf_one_way) :=
  fn_ok (N := N_one_way) (kp := (fun _ => false)) C.f_one_way sc_one_way (by decide) (fun cdv B outer s H E hr => ⟨_, mss_cons (ms_asgT (me_var 0) (mg_tl rfl (pgn_cons 1 (pgn_cons 2 (pgn_cons 3 (pgn_nil) sc_one_way.nd) sc_one_way.nd) sc_one_way.nd))) (mss_cons (ms_if (met_ne hr.units (me_var 2) (me_call (ok_opposite C) (hr.mono (by decide)) (by rfl) C.g_opposite C.f_opposite.kp C.b_opposite .nil .nil (mea_cons (me_var 1) (mea_nil)))) (mss_one (ms_ret (me_lst (mea_cons (me_var 0) (mea_nil))))) (mss_nil)) (mss_cons (ms_asg 4 (me_lst (mea_cons (me_tup (mea_cons (me_var 1) (mea_cons (me_var 2) (mea_cons (me_div (me_add (me_var 3) (me_int)) (me_int)) (mea_nil))))) (mea_cons (me_tup (mea_cons (me_var 2) (mea_cons (me_var 1) (mea_cons (me_div (me_var 3) (me_int)) (mea_nil))))) (mea_nil)))) sc_one_way.nd) (mss_one (ms_ret (me_comp (own := [("way", 5)]) rfl sc_one_way.nd (mi_seq (me_var 4)) (blkOk_by (N := N_one_way) (sc := defScope s_one_way) (by decide +kernel)) (fun _ _ _ _ _ => mg_name 5 sc_one_way.nd) (fun _ _ _ _ _ => mts_one (met_gt (me_ix (me_var 5) (me_int) (fun _ _ => rfl)) (me_int))) (fun _ _ _ _ _ => me_var 5))))))⟩)
theorem ok_part_of (C : Txt K w mg A) : FnOk P w K mg base CX0 2 A.a_part_of A.d_part_of ["layer", "rungs"] (spD K PR.mf_part_of) :=
  fn_ok (N := N_part_of) (kp := (fun _ => false)) C.f_part_of sc_part_of (by decide) (fun cdv B outer s H E hr => ⟨_, mss_cons (ms_asgT (me_var 0) (mg_tl rfl (pgn_cons 2 (pgn_cons 3 (pgn_cons 4 (pgn_nil) sc_part_of.nd) sc_part_of.nd) sc_part_of.nd))) (mss_cons (ms_asgT (me_var 1) (mg_tl rfl (pgn_cons 5 (pgn_cons 6 (pgn_nil) sc_part_of.nd) sc_part_of.nd))) (mss_cons (ms_if (met_eq hr.units (me_var 3) (me_var 2)) (mss_one (ms_ret (me_tup (mea_cons (me_int) (mea_cons (me_bl) (mea_nil)))))) (mss_nil)) (mss_cons (ms_if (met_eq hr.units (me_var 3) (me_call (ok_opposite C) (hr.mono (by decide)) (by rfl) C.g_opposite C.f_opposite.kp C.b_opposite .nil .nil (mea_cons (me_var 2) (mea_nil)))) (mss_one (ms_ret (me_if (met_tru (me_call (ok_even_kind C) (hr.mono (by decide)) (by rfl) C.g_even_kind C.f_even_kind.kp C.b_even_kind .nil .nil (mea_cons (me_var 2) (mea_nil)))) (me_tup (mea_cons (me_mul (me_var 4) (me_var 6)) (mea_cons (me_fnT fnS_bool1 call_bool1 (by rfl) C.n_bool (by decide +kernel) (mea_cons (me_and1 (me_var 4) (me_int)) (mea_nil))) (mea_nil)))) (me_tup (mea_cons (me_mul (me_var 4) (me_var 5)) (mea_cons (me_bl) (mea_nil))))))) (mss_nil)) (mss_one (ms_ret (me_tup (mea_cons (me_if (met_eq hr.units (me_var 3) (me_ktt C.p_NEAR (by rfl) C.pg_NEAR (units1 hr.units) (me_var 2) (fun _ _ => rfl))) (me_int) (me_add (me_var 5) (me_var 6))) (mea_cons (me_inD (u65 hr) (me_tup (mea_cons (me_int) (mea_cons (me_int) (mea_nil)))) (me_tup (mea_cons (me_var 2) (mea_cons (me_var 3) (mea_nil))))) (mea_nil)))))))))⟩)
theorem ok_pairs_on (C : Txt K w mg A) : FnOk P w K mg base CX0 2 A.a_pairs_on A.d_pairs_on ["kind", "rungs"] (spD K PR.mf_pairs_on) :=
  fn_ok (N := N_pairs_on) (kp := (fun _ => false)) C.f_pairs_on sc_pairs_on (by decide) (fun cdv B outer s H E hr => ⟨_, mss_cons (ms_asgT (me_var 1) (mg_tl rfl (pgn_cons 2 (pgn_cons 3 (pgn_nil) sc_pairs_on.nd) sc_pairs_on.nd))) (mss_one (ms_ret (me_if (met_tru (me_call (ok_even_kind C) (hr.mono (by decide)) (by rfl) C.g_even_kind C.f_even_kind.kp C.b_even_kind .nil .nil (mea_cons (me_var 0) (mea_nil)))) (me_var 2) (me_var 3))))⟩)
theorem ok_far_in (C : Txt K w mg A) : FnOk P w K mg base CX0 3 A.a_far_in A.d_far_in ["layer", "far", "rungs"] (spD K PR.mf_far_in) :=
  fn_ok (N := N_far_in) (kp := (fun _ => false)) C.f_far_in sc_far_in (by decide) (fun cdv B outer s H E hr => ⟨_, mss_cons (ms_asgT (me_call (ok_part_of C) (hr.mono (by decide)) (by rfl) C.g_part_of C.f_part_of.kp C.b_part_of .nil .nil (mea_cons (me_var 0) (mea_cons (me_var 2) (mea_nil)))) (mg_tl rfl (pgn_cons 3 (pgn_cons 4 (pgn_nil) sc_far_in.nd) sc_far_in.nd))) (mss_cons (ms_if (met_tru (me_var 4)) (mss_one (ms_ret (me_sub (me_sub (me_call (ok_pairs_on C) (hr.mono (by decide)) (by rfl) C.g_pairs_on C.f_pairs_on.kp C.b_pairs_on .nil .nil (mea_cons (me_ix (me_var 0) (me_int) (fun _ _ => rfl)) (mea_cons (me_var 2) (mea_nil)))) (me_int)) (me_sub (me_var 1) (me_var 3))))) (mss_nil)) (mss_one (ms_ret (me_sub (me_var 1) (me_var 3)))))⟩)
theorem ok_row_of_ends (C : Txt K w mg A) : FnOk P w K mg base CX0 3 A.a_row_of_ends A.d_row_of_ends ["ends"] (spD K PR.mf_row_of_ends) :=
  fn_ok (N := N_row_of_ends) (kp := (fun _ => false)) C.f_row_of_ends sc_row_of_ends (by decide) (fun cdv B outer s H E hr => ⟨_, mss_cons (ms_asgT (me_var 0) (mg_tl rfl (pgn_cons 1 (pgn_cons 2 (pgn_nil) sc_row_of_ends.nd) sc_row_of_ends.nd))) (mss_one (ms_ret (me_call (ok_row_of_strips C) (hr.mono (by decide)) (by rfl) C.g_row_of_strips C.f_row_of_strips.kp C.b_row_of_strips .nil .nil (mea_cons (me_add (me_var 2) (me_revsl (me_var 1))) (mea_nil)))))⟩)
theorem ok__law_mix (C : Txt K w mg A) : FnOk P w K mg base CX0 1 A.a__law_mix A.d__law_mix ["bag"] (spD K LE.mf__law_mix) :=
  fn_ok (N := N__law_mix) (kp := (fun j => j == 0)) C.f__law_mix sc__law_mix (by decide) (fun cdv B outer s H E hr => ⟨_, mss_cons (ms_asg 1 (me_ixO 0 (me_int) (fun _ _ => rfl)) sc__law_mix.nd) (mss_cons (ms_setO 0 (me_mod (me_add (me_add (me_mul (me_var 1) (me_var 1)) (me_mul (me_int) (me_var 1))) (me_ixO 0 (me_int) (fun _ _ => rfl))) (me_add (me_pow (me_int) (me_int)) (me_int))) (me_int)) (mss_one (ms_setO 0 (me_add (me_ixO 0 (me_int) (fun _ _ => rfl)) (me_int)) (me_int))))⟩)
theorem ok__law_bag (C : Txt K w mg A) : FnOk P w K mg base CX0 2 A.a__law_bag A.d__law_bag ["cell"] (spD K LE.mf__law_bag) :=
  fn_ok (N := N__law_bag) (kp := (fun _ => false)) C.f__law_bag sc__law_bag (by decide) (fun cdv B outer s H E hr => ⟨_, mss_cons (ms_asg 1 (me_lst (mea_cons (me_fn fnS_max2 (call_max2 rfl) (by rfl) C.n_max (by decide +kernel) (mea_cons (me_int) (mea_cons (me_sub (me_var 0) (me_pow (me_int) (me_int))) (mea_nil)))) (mea_cons (me_add (me_add (me_mul (me_mod (me_var 0) (me_pow (me_int) (me_int))) (me_int)) (me_pow (me_int) (me_int))) (me_int)) (mea_cons (me_int) (mea_nil))))) sc__law_bag.nd) (mss_cons (ms_expr (me_callM 1 (ok__law_mix C) (hr.mono (by decide)) (by rfl) C.g__law_mix C.f__law_mix.kp C.b__law_mix .nil .nil (mea_nil))) (mss_cons (ms_expr (me_callM 1 (ok__law_mix C) (hr.mono (by decide)) (by rfl) C.g__law_mix C.f__law_mix.kp C.b__law_mix .nil .nil (mea_nil))) (mss_one (ms_retO 1))))⟩)
theorem ok__law_draw (C : Txt K w mg A) : FnOk P w K mg base CX0 2 A.a__law_draw A.d__law_draw ["bag", "size"] (spD K LE.mf__law_draw) :=
  fn_ok (N := N__law_draw) (kp := (fun j => j == 0)) C.f__law_draw sc__law_draw (by decide) (fun cdv B outer s H E hr => ⟨_, mss_cons (ms_if (met_gt (me_ixO 0 (me_int) (fun _ _ => rfl)) (me_int)) (mss_cons (ms_asg 2 (me_mod (me_ixO 0 (me_int) (fun _ _ => rfl)) (me_var 1)) sc__law_draw.nd) (mss_cons (ms_setO 0 (me_div (me_ixO 0 (me_int) (fun _ _ => rfl)) (me_var 1)) (me_int)) (mss_one (ms_ret (me_var 2))))) (mss_nil)) (mss_cons (ms_expr (me_callM 0 (ok__law_mix C) (hr.mono (by decide)) (by rfl) C.g__law_mix C.f__law_mix.kp C.b__law_mix .nil .nil (mea_nil))) (mss_one (ms_ret (me_mod (me_div (me_ixO 0 (me_int) (fun _ _ => rfl)) (me_pow (me_int) (me_int))) (me_var 1)))))⟩)
theorem ok__law_places (C : Txt K w mg A) : FnOk P w K mg base CX0 3 A.a__law_places A.d__law_places ["bag", "most"] (spD K LE.mf__law_places) :=
  fn_ok (N := N__law_places) (kp := (fun j => j == 0)) C.f__law_places sc__law_places (by decide) (fun cdv B outer s H E hr => ⟨_, mss_cons (ms_asg 2 (me_add (me_int) (me_callM 0 (ok__law_draw C) (hr.mono (by decide)) (by rfl) C.g__law_draw C.f__law_draw.kp C.b__law_draw .nil .nil (mea_cons (me_int) (mea_nil)))) sc__law_places.nd) (mss_one (ms_ret (me_comp (own := [("place", 3)]) rfl sc__law_places.nd (mi_range2 (by rfl) C.n_range (mea_cons (me_int) (mea_cons (me_add (me_int) (me_callM 0 (ok__law_draw C) (hr.mono (by decide)) (by rfl) C.g__law_draw C.f__law_draw.kp C.b__law_draw .nil .nil (mea_cons (me_add (me_var 1) (me_int)) (mea_nil)))) (mea_nil)))) (blkOk_by (N := N__law_places) (sc := defScope s__law_places) (by decide +kernel)) (fun _ _ _ _ _ => mg_name 3 sc__law_places.nd) (fun _ _ _ _ _ => mts_one (met_lt (me_callM 0 (ok__law_draw C) (hr.mono (by decide)) (by rfl) C.g__law_draw C.f__law_draw.kp C.b__law_draw .nil .nil (mea_cons (me_int) (mea_nil))) (me_var 2))) (fun _ _ _ _ _ => me_var 3))))⟩)
theorem ok__law_stretched (C : Txt K w mg A) : FnOk P w K mg base CX0 1 A.a__law_stretched A.d__law_stretched ["places"] (spD K LE.mf__law_stretched) :=
  fn_ok (N := N__law_stretched) (kp := (fun _ => false)) C.f__law_stretched sc__law_stretched (by decide) (fun cdv B outer s H E hr => ⟨_, mss_cons (ms_asg 1 (me_lst (mea_nil)) sc__law_stretched.nd) (mss_cons (ms_for PassesOwn.never rfl (mi_seq (me_var 0)) (mg_name 2 sc__law_stretched.nd) (mss_one (ms_if ((mew_and (met_neO 1 hr.units (me_lst (mea_nil))) (mew_and1 (met_eq hr.units (me_ix (me_ixO 1 (me_neg (me_int)) (fun _ _ => rfl)) (me_int) (fun _ _ => rfl)) (me_sub (me_var 2) (me_int))))).met) (mss_one (ms_setO 1 (me_tup (mea_cons (me_ix (me_ixO 1 (me_neg (me_int)) (fun _ _ => rfl)) (me_int) (fun _ _ => rfl)) (mea_cons (me_var 2) (mea_nil)))) (me_neg (me_int)))) (mss_one (ms_expr (me_meth 1 PySem.F.slot_list_append PySem.F.type_list_append methS_app mt_append (mea_cons (me_tup (mea_cons (me_var 2) (mea_cons (me_var 2) (mea_nil)))) (mea_nil)))))))) (mss_one (ms_retO 1)))⟩)
theorem ok__law_next (C : Txt K w mg A) : FnOk P w K mg base CX0 1 A.a__law_next A.d__law_next ["places"] (spD K LE.mf__law_next) :=
  fn_ok (N := N__law_next) (kp := (fun _ => false)) C.f__law_next sc__law_next (by decide) (fun cdv B outer s H E hr => ⟨_, mss_cons (ms_asg 1 (me_fn fnS_len call_len (by rfl) C.n_len (by decide +kernel) (mea_cons (me_var 0) (mea_nil))) sc__law_next.nd) (mss_cons (ms_if (met_eq hr.units (me_var 1) (me_int)) (mss_one (ms_ret (me_lst (mea_nil)))) (mss_nil)) (mss_one (ms_ret (me_if (met_in (me_var 1) (me_var 0)) (me_comp (own := [("place", 2)]) rfl sc__law_next.nd (mi_seq (me_var 0)) (blkOk_by (N := N__law_next) (sc := defScope s__law_next) (by decide +kernel)) (fun _ _ _ _ _ => mg_name 2 sc__law_next.nd) (fun _ _ _ _ _ => mts_one (met_ne hr.units (me_var 2) (me_var 1))) (fun _ _ _ _ _ => me_var 2)) (me_fn fnS_sortA cr_sortA (by rfl) C.n_sorted (by decide +kernel) (mea_cons (me_add (me_var 0) (me_lst (mea_cons (me_var 1) (mea_nil)))) (mea_nil)))))))⟩)
theorem ok__law_same (C : Txt K w mg A) : ∀ n : Nat, FnOk P w K mg base CX0 (n + 0) A.a__law_same A.d__law_same ["found", "due"] (spD K (LE.mf__law_same n))
  | 0 => fn_none
  | n + 1 => by
    have hself := ok__law_same C n
    exact fn_ok (k := n + 0) (N := N__law_same) (kp := (fun _ => false)) C.f__law_same sc__law_same (by decide) (fun cdv B outer s H E hr => ⟨_, mss_cons (ms_if (met_tru (me_isiT2 (by rfl) C.n_isinstance (me_var 1) (by rfl) C.n_list (by decide +kernel) (by rfl) C.n_tuple (by decide +kernel) (by decide) (by decide))) (mss_cons (ms_if ((mew_or (met_ne hr.units (me_isi (by rfl) C.n_isinstance (me_var 0) (by rfl) C.n_list (by decide +kernel) (by decide)) (me_isi (by rfl) C.n_isinstance (me_var 1) (by rfl) C.n_list (by decide +kernel) (by decide))) (mew_or1 (met_not (met_tru (me_isiT2 (by rfl) C.n_isinstance (me_var 0) (by rfl) C.n_list (by decide +kernel) (by rfl) C.n_tuple (by decide +kernel) (by decide) (by decide)))))).met) (mss_one (ms_ret (me_bl))) (mss_nil)) (mss_one (ms_ret (me_and (me_eq hr.units (me_fn fnS_len call_len (by rfl) C.n_len (by decide +kernel) (mea_cons (me_var 0) (mea_nil))) (me_fn fnS_len call_len (by rfl) C.n_len (by decide +kernel) (mea_cons (me_var 1) (mea_nil)))) (me_one (me_fn fnS_all (cr_all rfl) (by rfl) C.n_all (by decide +kernel) (mea_cons (me_comp (own := [("k", 2)]) rfl sc__law_same.nd (mi_range1 (by rfl) C.n_range (mea_cons (me_fn fnS_len call_len (by rfl) C.n_len (by decide +kernel) (mea_cons (me_var 1) (mea_nil))) (mea_nil))) (blkOk_by (N := N__law_same) (sc := defScope s__law_same) (by decide +kernel)) (fun _ _ _ _ _ => mg_name 2 sc__law_same.nd) (fun _ _ _ _ _ => mts_nil) (fun _ _ _ _ _ => me_call (hself) (hr.mono (by omega)) (by rfl) C.g__law_same C.f__law_same.kp C.b__law_same .nil .nil (mea_cons (me_ix (me_var 0) (me_var 2) (fun _ _ => rfl)) (mea_cons (me_ix (me_var 1) (me_var 2) (fun _ _ => rfl)) (mea_nil))))) (mea_nil)))))))) (mss_nil)) (mss_one (ms_ret (me_and (me_isi (by rfl) C.n_isinstance (me_var 0) (by rfl) C.n_int (by decide +kernel) (by decide)) (me_and (me_not (me_isi (by rfl) C.n_isinstance (me_var 0) (by rfl) C.n_bool (by decide +kernel) (by decide))) (me_one (me_eq hr.units (me_var 0) (me_var 1)))))))⟩)
theorem ok__law_runs (C : Txt K w mg A) : FnOk P w K mg base CX0 2 A.a__law_runs A.d__law_runs ["places"] (spD K LE.mf__law_runs) :=
  fn_ok (N := N__law_runs) (kp := (fun _ => false)) C.f__law_runs sc__law_runs (by decide) (fun cdv B outer s H E hr => ⟨_, mss_cons (ms_asg 1 (me_lst (mea_nil)) sc__law_runs.nd) (mss_cons (ms_asg 2 (me_lst (mea_nil)) sc__law_runs.nd) (mss_cons (ms_while PassesOwn.never (met_ne hr.units (me_var 0) (me_lst (mea_nil))) (mss_cons (ms_expr (me_meth 2 PySem.F.slot_list_append PySem.F.type_list_append methS_app mt_append (mea_cons (me_in (me_fn fnS_len call_len (by rfl) C.n_len (by decide +kernel) (mea_cons (me_var 0) (mea_nil))) (me_var 0)) (mea_nil)))) (mss_one (ms_asg 0 (me_call (ok__law_next C) (hr.mono (by decide)) (by rfl) C.g__law_next C.f__law_next.kp C.b__law_next .nil .nil (mea_cons (me_var 0) (mea_nil))) sc__law_runs.nd)))) (mss_cons (ms_for PassesOwn.never rfl (mi_range1 (by rfl) C.n_range (mea_cons (me_lenO 2 (by rfl) C.n_len) (mea_nil))) (mg_name 3 sc__law_runs.nd) (mss_one (ms_if ((mew_and (met_gt (me_var 3) (me_int)) (mew_and1 (met_eq hr.units (me_ixO 2 (me_var 3) (fun _ _ => rfl)) (me_ixO 2 (me_sub (me_var 3) (me_int)) (fun _ _ => rfl))))).met) (mss_one (ms_setO 1 (me_add (me_ixO 1 (me_neg (me_int)) (fun _ _ => rfl)) (me_int)) (me_neg (me_int)))) (mss_one (ms_expr (me_meth 1 PySem.F.slot_list_append PySem.F.type_list_append methS_app mt_append (mea_cons (me_int) (mea_nil)))))))) (mss_one (ms_retO 1)))))⟩)
theorem ok__law_all_places (C : Txt K w mg A) : FnOk P w K mg base CX0 1 A.a__law_all_places A.d__law_all_places ["some"] (spD K LE.mf__law_all_places) :=
  fn_ok (N := N__law_all_places) (kp := (fun _ => false)) C.f__law_all_places sc__law_all_places (by decide) (fun cdv B outer s H E hr => ⟨_, mss_cons (ms_asg 1 (me_lst (mea_nil)) sc__law_all_places.nd) (mss_cons (ms_for PassesOwn.never rfl (mi_seq (me_var 0)) (mg_tl rfl (pgn_cons 2 (pgn_cons 3 (pgn_nil) sc__law_all_places.nd) sc__law_all_places.nd)) (mss_one (ms_expr (me_extN 1 (me_lrg rfl (by rfl) C.n_list (by rfl) C.n_range (me_var 2) (me_add (me_var 3) (me_int))))))) (mss_one (ms_retO 1)))⟩)
theorem ok__law_sets (C : Txt K w mg A) : FnOk P w K mg base CX0 1 A.a__law_sets A.d__law_sets ["most"] (spD K LE.mf__law_sets) :=
  fn_ok (N := N__law_sets) (kp := (fun _ => false)) C.f__law_sets sc__law_sets (by decide) (fun cdv B outer s H E hr => ⟨_, mss_cons (ms_asg 1 (me_lst (mea_cons (me_lst (mea_nil)) (mea_nil))) sc__law_sets.nd) (mss_cons (ms_for PassesOwn.never rfl (mi_range2 (by rfl) C.n_range (mea_cons (me_int) (mea_cons (me_add (me_var 0) (me_int)) (mea_nil)))) (mg_name 2 sc__law_sets.nd) (mss_one (ms_asg 1 (me_add (me_var 1) (me_comp (own := [("some", 3)]) rfl sc__law_sets.nd (mi_seq (me_var 1)) (blkOk_by (N := N__law_sets) (sc := defScope s__law_sets) (by decide +kernel)) (fun _ _ _ _ _ => mg_name 3 sc__law_sets.nd) (fun _ _ _ _ _ => mts_nil) (fun _ _ _ _ _ => me_add (me_var 3) (me_lst (mea_cons (me_var 2) (mea_nil)))))) sc__law_sets.nd))) (mss_one (ms_retO 1)))⟩)
theorem ok_is_row (C : Txt K w mg A) : FnOk P w K mg base CX0 3 A.a_is_row A.d_is_row ["thing"] (spD K PR.mf_is_row) :=
  fn_ok (N := N_is_row) (kp := (fun _ => false)) C.f_is_row sc_is_row (by decide) (fun cdv B outer s H E hr => ⟨_, mss_cons (ms_if (met_not (met_tru (me_isiT2 (by rfl) C.n_isinstance (me_var 0) (by rfl) C.n_list (by decide +kernel) (by rfl) C.n_tuple (by decide +kernel) (by decide) (by decide)))) (mss_one (ms_ret (me_bl))) (mss_nil)) (mss_cons (ms_asg 1 (me_int) sc_is_row.nd) (mss_cons (ms_for PassesOwn.never rfl (mi_seq (me_var 0)) (mg_name 2 sc_is_row.nd) (mss_cons (ms_if (met_not (met_tru (me_call (ok_is_stretch C) (hr.mono (by decide)) (by rfl) C.g_is_stretch C.f_is_stretch.kp C.b_is_stretch .nil .nil (mea_cons (me_var 2) (mea_cons (me_var 1) (mea_nil)))))) (mss_one (ms_ret (me_bl))) (mss_nil)) (mss_one (ms_asg 1 (me_add (me_ix (me_var 2) (me_int) (fun _ _ => rfl)) (me_int)) sc_is_row.nd)))) (mss_one (ms_ret (me_bl)))))⟩)
theorem ok_given_row (C : Txt K w mg A) : FnOk P w K mg base CX0 4 A.a_given_row A.d_given_row ["row"] (spD K PR.mf_given_row) :=
  fn_ok (N := N_given_row) (kp := (fun _ => false)) C.f_given_row sc_given_row (by decide) (fun cdv B outer s H E hr => ⟨_, mss_cons (ms_if (met_not (met_tru (me_call (ok_is_row C) (hr.mono (by decide)) (by rfl) C.g_is_row C.f_is_row.kp C.b_is_row .nil .nil (mea_cons (me_var 0) (mea_nil))))) (mss_one (ms_never)) (mss_nil)) (mss_one (ms_ret (me_comp (own := [("first", 1), ("last", 2)]) rfl sc_given_row.nd (mi_seq (me_var 0)) (blkOk_by (N := N_given_row) (sc := defScope s_given_row) (by decide +kernel)) (fun _ _ _ _ _ => mg_tl rfl (pgn_cons 1 (pgn_cons 2 (pgn_nil) sc_given_row.nd) sc_given_row.nd)) (fun _ _ _ _ _ => mts_nil) (fun _ _ _ _ _ => me_tup (mea_cons (me_var 1) (mea_cons (me_var 2) (mea_nil)))))))⟩)
theorem ok_layers_at (C : Txt K w mg A) : FnOk P w K mg base CX0 4 A.a_layers_at A.d_layers_at ["kind", "far", "strip", "rungs"] (spD K PR.mf_layers_at) :=
  fn_ok (N := N_layers_at) (kp := (fun _ => false)) C.f_layers_at sc_layers_at (by decide) (fun cdv B outer s H E hr => ⟨_, mss_cons (ms_asgT (me_var 2) (mg_tl rfl (pgn_cons 4 (pgn_cons 5 (pgn_nil) sc_layers_at.nd) sc_layers_at.nd))) (mss_cons (ms_if (met_eq hr.units (me_var 4) (me_call (ok_coin_told C) (hr.mono (by decide)) (by rfl) C.g_coin_told C.f_coin_told.kp C.b_coin_told .nil .nil (mea_cons (me_var 0) (mea_cons (me_var 0) (mea_nil))))) (mss_one (ms_ret (me_tup (mea_cons (me_lst (mea_cons (me_tup (mea_cons (me_var 0) (mea_cons (me_var 0) (mea_cons (me_var 5) (mea_nil))))) (mea_nil))) (mea_cons (me_var 1) (mea_nil)))))) (mss_nil)) (mss_cons (ms_asg 6 (me_call (ok_pairs_on C) (hr.mono (by decide)) (by rfl) C.g_pairs_on C.f_pairs_on.kp C.b_pairs_on .nil .nil (mea_cons (me_var 0) (mea_cons (me_var 3) (mea_nil)))) sc_layers_at.nd) (mss_cons (ms_asg 7 (me_sub (me_fn fnS_sumT (cr_sumT rfl) (by rfl) C.n_sum (by decide +kernel) (mea_cons (me_var 3) (mea_nil))) (me_var 6)) sc_layers_at.nd) (mss_cons (ms_asg 8 (me_add (me_var 6) (me_mul (me_mul (me_int) (me_var 5)) (me_var 7))) sc_layers_at.nd) (mss_cons (ms_asg 9 (me_fn fnS_min3 (call_min3 rfl) (by rfl) C.n_min (by decide +kernel) (mea_cons (me_div (me_var 1) (me_var 7)) (mea_cons (me_div (me_sub (me_sub (me_var 8) (me_int)) (me_var 1)) (me_var 7)) (mea_cons (me_var 5) (mea_nil))))) sc_layers_at.nd) (mss_cons (ms_asg 10 (me_lst (mea_cons (me_tup (mea_cons (me_var 0) (mea_cons (me_call (ok_opposite C) (hr.mono (by decide)) (by rfl) C.g_opposite C.f_opposite.kp C.b_opposite .nil .nil (mea_cons (me_var 0) (mea_nil))) (mea_cons (me_var 9) (mea_nil))))) (mea_nil))) sc_layers_at.nd) (mss_cons (ms_asg 1 (me_call (ok_far_in C) (hr.mono (by decide)) (by rfl) C.g_far_in C.f_far_in.kp C.b_far_in .nil .nil (mea_cons (me_ixO 10 (me_int) (fun _ _ => rfl)) (mea_cons (me_var 1) (mea_cons (me_call (ok_climbed C) (hr.mono (by decide)) (by rfl) C.g_climbed C.f_climbed.kp C.b_climbed .nil .nil (mea_cons (me_var 3) (mea_cons (me_var 4) (mea_cons (me_sub (me_var 5) (me_var 9)) (mea_nil))))) (mea_nil))))) sc_layers_at.nd) (mss_cons (ms_if (met_eq hr.units (me_var 9) (me_var 5)) (mss_one (ms_ret (me_tup (mea_cons (me_var 10) (mea_cons (me_var 1) (mea_nil)))))) (mss_nil)) (mss_cons (ms_asg 11 (me_sub (me_sub (me_var 5) (me_var 9)) (me_int)) sc_layers_at.nd) (mss_cons (ms_asg 0 (me_call (ok_kind_behind C) (hr.mono (by decide)) (by rfl) C.g_kind_behind C.f_kind_behind.kp C.b_kind_behind .nil .nil (mea_cons (me_ixO 10 (me_int) (fun _ _ => rfl)) (mea_nil))) sc_layers_at.nd) (mss_cons (ms_asg 12 (me_ktt C.p_NEAR (by rfl) C.pg_NEAR (units1 hr.units) (me_var 0) (fun _ _ => rfl)) sc_layers_at.nd) (mss_cons (ms_asg 13 (me_if (met_lt (me_var 1) (me_var 7)) (me_var 12) (me_call (ok_opposite C) (hr.mono (by decide)) (by rfl) C.g_opposite C.f_opposite.kp C.b_opposite .nil .nil (mea_cons (me_var 12) (mea_nil)))) sc_layers_at.nd) (mss_cons (ms_augL 10 (me_lst (mea_cons (me_tup (mea_cons (me_var 0) (mea_cons (me_var 13) (mea_cons (me_int) (mea_nil))))) (mea_cons (me_tup (mea_cons (me_var 13) (mea_cons (me_var 13) (mea_cons (me_var 11) (mea_nil))))) (mea_nil)))) sc_layers_at.nd) (mss_one (ms_ret (me_tup (mea_cons (me_var 10) (mea_cons (me_call (ok_far_in C) (hr.mono (by decide)) (by rfl) C.g_far_in C.f_far_in.kp C.b_far_in .nil .nil (mea_cons (me_ixO 10 (me_int) (fun _ _ => rfl)) (mea_cons (me_var 1) (mea_cons (me_call (ok_climbed C) (hr.mono (by decide)) (by rfl) C.g_climbed C.f_climbed.kp C.b_climbed .nil .nil (mea_cons (me_var 3) (mea_cons (me_var 4) (mea_cons (me_var 11) (mea_nil))))) (mea_nil))))) (mea_nil)))))))))))))))))))⟩)
theorem ok_pair_of (C : Txt K w mg A) : FnOk P w K mg base CX0 4 A.a_pair_of A.d_pair_of ["layers"] (spD K PR.mf_pair_of) :=
  fn_ok (N := N_pair_of) (kp := (fun _ => false)) C.f_pair_of sc_pair_of (by decide) (fun cdv B outer s H E hr => ⟨_, mss_gh2 (kp2 := (fun j => j == 1 || j == 2)) [1, 2] (by intro i h; first | cases h | simp_all) (ms_par (kp := (fun _ => false)) 1 2 (me_tup (mea_cons (me_lst (mea_nil)) (mea_cons (me_lst (mea_nil)) (mea_nil)))) (me_tup (mea_cons (me_lst (mea_nil)) (mea_cons (me_lst (mea_nil)) (mea_nil)))) sc_pair_of.nd) (msg_for (by decide) PassesOwn.never rfl (mi_seq (me_var 0)) (mg_name 3 sc_pair_of.nd) (msgs_one (msg_for (by decide) PassesOwn.never rfl (mi_new (me_call (ok_one_way C) (hr.mono (by decide)) (by rfl) C.g_one_way C.f_one_way.kp C.b_one_way .nil .nil (mea_cons (me_var 3) (mea_nil)))) (mg_pl (ps := [.t [4, 5], .t [6, 7], .n 8]) rfl (pgp_t [4, 5] rfl (pgn_cons 4 (pgn_cons 5 (pgn_nil) sc_pair_of.nd) sc_pair_of.nd) (pgp_t [6, 7] rfl (pgn_cons 6 (pgn_cons 7 (pgn_nil) sc_pair_of.nd) sc_pair_of.nd) (pgp_n 8 (pgp_nil) sc_pair_of.nd)))) (msgs_cons (msg_meth 0 1 (by decide) rfl PySem.F.slot_list_append PySem.F.type_list_append methS_app mt_append (me_var 4) (mea_cons (me_tup (mea_cons (me_var 7) (mea_cons (me_var 8) (mea_nil)))) (mea_nil)) (fun _ _ => rfl)) (msgs_one (msg_meth 1 2 (by decide) rfl PySem.F.slot_list_append PySem.F.type_list_append methS_app mt_append (me_var 5) (mea_cons (me_tup (mea_cons (me_var 6) (mea_cons (me_var 8) (mea_nil)))) (mea_nil)) (fun _ _ => rfl))))))) (mss_one (ms_ret (me_tup (mea_cons (me_call (ok_row_of_ends C) (hr.mono (by decide)) (by rfl) C.g_row_of_ends C.f_row_of_ends.kp C.b_row_of_ends .nil .nil (mea_cons (me_var 1) (mea_nil))) (mea_cons (me_call (ok_row_of_ends C) (hr.mono (by decide)) (by rfl) C.g_row_of_ends C.f_row_of_ends.kp C.b_row_of_ends .nil .nil (mea_cons (me_var 2) (mea_nil))) (mea_nil)))))) denNew_P⟩)
theorem ok_pair_on_within (C : Txt K w mg A) : FnOk P w K mg base CX0 5 A.a_pair_on_within A.d_pair_on_within ["n", "outer", "stretches", "turns"] (spD K PR.mf_pair_on_within) :=
  fn_ok (N := N_pair_on_within) (kp := (fun _ => false)) C.f_pair_on_within sc_pair_on_within (by decide) (fun cdv B outer s H E hr => ⟨_, mss_cons (ms_asg 4 (me_call (ok_strips_of C) (hr.mono (by decide)) (by rfl) C.g_strips_of C.f_strips_of.kp C.b_strips_of .nil .nil (mea_cons (me_var 2) (mea_cons (me_var 0) (mea_nil)))) sc_pair_on_within.nd) (mss_cons (ms_asg 5 (me_lst (mea_cons (me_tup (mea_cons (me_int) (mea_cons (me_int) (mea_nil)))) (mea_nil))) sc_pair_on_within.nd) (mss_cons (ms_for PassesOwn.never rfl (mi_seq (me_var 4)) (mg_tl rfl (pgn_cons 6 (pgn_cons 7 (pgn_nil) sc_pair_on_within.nd) sc_pair_on_within.nd)) (mss_one (ms_expr (me_meth 5 PySem.F.slot_list_append PySem.F.type_list_append methS_app mt_append (mea_cons (me_call (ok_climbed C) (hr.mono (by decide)) (by rfl) C.g_climbed C.f_climbed.kp C.b_climbed .nil .nil (mea_cons (me_ixO 5 (me_neg (me_int)) (fun _ _ => rfl)) (mea_cons (me_var 6) (mea_cons (me_var 7) (mea_nil))))) (mea_nil)))))) (mss_cons (ms_par 8 9 (me_var 1) (me_var 3) sc_pair_on_within.nd) (mss_cons (ms_asg 10 (me_lst (mea_nil)) sc_pair_on_within.nd) (mss_cons (ms_for PassesOwn.never rfl (mi_revR1 (by rfl) C.n_reversed (by rfl) C.n_range (me_fn fnS_len call_len (by rfl) C.n_len (by decide +kernel) (mea_cons (me_var 4) (mea_nil)))) (mg_name 11 sc_pair_on_within.nd) (mss_cons (ms_asgT (me_call (ok_layers_at C) (hr.mono (by decide)) (by rfl) C.g_layers_at C.f_layers_at.kp C.b_layers_at .nil .nil (mea_cons (me_var 8) (mea_cons (me_var 9) (mea_cons (me_ix (me_var 4) (me_var 11) (fun _ _ => rfl)) (mea_cons (me_ixO 5 (me_var 11) (fun _ _ => rfl)) (mea_nil)))))) (mg_tl rfl (pgn_cons 12 (pgn_cons 9 (pgn_nil) sc_pair_on_within.nd) sc_pair_on_within.nd))) (mss_cons (ms_augV 10 (me_var 12) sc_pair_on_within.nd) (mss_one (ms_asg 8 (me_call (ok_kind_behind C) (hr.mono (by decide)) (by rfl) C.g_kind_behind C.f_kind_behind.kp C.b_kind_behind .nil .nil (mea_cons (me_ixO 10 (me_neg (me_int)) (fun _ _ => rfl)) (mea_nil))) sc_pair_on_within.nd))))) (mss_one (ms_ret (me_call (ok_pair_of C) (hr.mono (by decide)) (by rfl) C.g_pair_of C.f_pair_of.kp C.b_pair_of .nil .nil (mea_cons (me_var 10) (mea_nil))))))))))⟩)
theorem ok_pair_on (C : Txt K w mg A) : FnOk P w K mg base CX0 6 A.a_pair_on A.d_pair_on ["stretches", "turns"] (spD K PR.mf_pair_on) :=
  fn_ok (N := N_pair_on) (kp := (fun _ => false)) C.f_pair_on sc_pair_on (by decide) (fun cdv B outer s H E hr => ⟨_, mss_one (ms_ret (me_call (ok_pair_on_within C) (hr.mono (by decide)) (by rfl) C.g_pair_on_within C.f_pair_on_within.kp C.b_pair_on_within .nil .nil (mea_cons (me_call (ok_last_of C) (hr.mono (by decide)) (by rfl) C.g_last_of C.f_last_of.kp C.b_last_of .nil .nil (mea_cons (me_var 0) (mea_nil))) (mea_cons (me_tupK (by rfl) C.ug_OUTSIDE C.u_OUTSIDE) (mea_cons (me_var 0) (mea_cons (me_var 1) (mea_nil)))))))⟩)
theorem ok_pair_halfway (C : Txt K w mg A) : FnOk P w K mg base CX0 7 A.a_pair_halfway A.d_pair_halfway ["stretches"] (spD K PR.mf_pair_halfway) :=
  fn_ok (N := N_pair_halfway) (kp := (fun _ => false)) C.f_pair_halfway sc_pair_halfway (by decide) (fun cdv B outer s H E hr => ⟨_, mss_one (ms_ret (me_call (ok_pair_on C) (hr.mono (by decide)) (by rfl) C.g_pair_on C.f_pair_on.kp C.b_pair_on .nil .nil (mea_cons (me_var 0) (mea_cons (me_div (me_call (ok_way_up C) (hr.mono (by decide)) (by rfl) C.g_way_up C.f_way_up.kp C.b_way_up .nil .nil (mea_cons (me_var 0) (mea_nil))) (me_int)) (mea_nil)))))⟩)
theorem ok_row_with (C : Txt K w mg A) : FnOk P w K mg base CX0 8 A.a_row_with A.d_row_with ["row"] (spD K PR.mf_row_with) :=
  fn_ok (N := N_row_with) (kp := (fun _ => false)) C.f_row_with sc_row_with (by decide) (fun cdv B outer s H E hr => ⟨_, mss_cons (ms_asgT (me_call (ok_pair_halfway C) (hr.mono (by decide)) (by rfl) C.g_pair_halfway C.f_pair_halfway.kp C.b_pair_halfway .nil .nil (mea_cons (me_call (ok_given_row C) (hr.mono (by decide)) (by rfl) C.g_given_row C.f_given_row.kp C.b_given_row .nil .nil (mea_cons (me_var 0) (mea_nil))) (mea_nil))) (mg_tl rfl (pgn_cons 1 (pgn_cons 2 (pgn_nil) sc_row_with.nd) sc_row_with.nd))) (mss_one (ms_ret (me_var 1)))⟩)
theorem ok_law (C : Txt K w mg A) : FnOk P w K mg base CX0 9 A.a_law A.d_law ["script"] (spD K mf_law) :=
  fn_ok (N := N_law) (kp := (fun _ => false)) C.f_law sc_law (by decide) (fun cdv B outer s H E hr => ⟨_, mss_cons (ms_for PassesOwn.never rfl (mi_new (me_add (me_sl (me_var 0) (meo_none) (meo_some (me_int))) (me_lst (mea_cons (me_fn fnS_len call_len (by rfl) C.n_len (by decide +kernel) (mea_cons (me_var 0) (mea_nil))) (mea_nil))))) (mg_name 1 sc_law.nd) (mss_cons (ms_asg 2 (me_call (ok__law_bag C) (hr.mono (by decide)) (by rfl) C.g__law_bag C.f__law_bag.kp C.b__law_bag .nil .nil (mea_cons (me_var 1) (mea_nil))) sc_law.nd) (mss_one (ms_for PassesOwn.never rfl (mi_range1 (by rfl) C.n_range (mea_cons (me_int) (mea_nil))) (mg_name 3 sc_law.nd) (mss_cons (ms_asg 4 (me_callM 2 (ok__law_places C) (hr.mono (by decide)) (by rfl) C.g__law_places C.f__law_places.kp C.b__law_places .nil .nil (mea_cons (me_int) (mea_nil))) sc_law.nd) (mss_cons (ms_asg 5 (me_call (ok__law_stretched C) (hr.mono (by decide)) (by rfl) C.g__law_stretched C.f__law_stretched.kp C.b__law_stretched .nil .nil (mea_cons (me_var 4) (mea_nil))) sc_law.nd) (mss_cons (ms_asg 6 (me_fnT fnS_tuple call_tuple_of (by rfl) C.n_tuple (by decide +kernel) (mea_cons (me_comp (own := [("pair", 9)]) rfl sc_law.nd (mi_seq (me_var 5)) (blkOk_by (N := N_law) (sc := defScope s_law) (by decide +kernel)) (fun _ _ _ _ _ => mg_name 9 sc_law.nd) (fun _ _ _ _ _ => mts_nil) (fun _ _ _ _ _ => me_fnT fnS_list call_list_of (by rfl) C.n_list (by decide +kernel) (mea_cons (me_var 9) (mea_nil)))) (mea_nil))) sc_law.nd) (mss_cons (ms_asg 7 (me_call (ok_row_with C) (hr.mono (by decide)) (by rfl) C.g_row_with C.f_row_with.kp C.b_row_with .nil .nil (mea_cons (me_var 5) (mea_nil))) sc_law.nd) (mss_cons (ms_if (met_ne hr.units (me_comp (own := [("pair", 9)]) rfl sc_law.nd (mi_seq (me_var 7)) (blkOk_by (N := N_law) (sc := defScope s_law) (by decide +kernel)) (fun _ _ _ _ _ => mg_name 9 sc_law.nd) (fun _ _ _ _ _ => mts_one (met_gt (me_ix (me_var 9) (me_int) (fun _ _ => rfl)) (me_int))) (fun _ _ _ _ _ => me_var 9)) (me_lst (mea_nil))) (mss_one (ms_ret (me_bl))) (mss_nil)) (mss_cons (ms_asg 8 (me_call (ok__law_all_places C) (hr.mono (by decide)) (by rfl) C.g__law_all_places C.f__law_all_places.kp C.b__law_all_places .nil .nil (mea_cons (me_var 7) (mea_nil))) sc_law.nd) (mss_cons (ms_if ((mew_or (met_ne hr.units (me_call (ok__law_runs C) (hr.mono (by decide)) (by rfl) C.g__law_runs C.f__law_runs.kp C.b__law_runs .nil .nil (mea_cons (me_var 8) (mea_nil))) (me_var 4)) (mew_or1 (met_not (met_tru (me_call (ok__law_same C 6) (hr.mono (by decide)) (by rfl) C.g__law_same C.f__law_same.kp C.b__law_same .nil .nil (mea_cons (me_var 7) (mea_cons (me_call (ok__law_stretched C) (hr.mono (by decide)) (by rfl) C.g__law_stretched C.f__law_stretched.kp C.b__law_stretched .nil .nil (mea_cons (me_var 8) (mea_nil))) (mea_nil)))))))).met) (mss_one (ms_ret (me_bl))) (mss_nil)) (mss_one (ms_if ((mew_or (met_not (met_tru (me_call (ok__law_same C 6) (hr.mono (by decide)) (by rfl) C.g__law_same C.f__law_same.kp C.b__law_same .nil .nil (mea_cons (me_call (ok_row_with C) (hr.mono (by decide)) (by rfl) C.g_row_with C.f_row_with.kp C.b_row_with .nil .nil (mea_cons (me_var 6) (mea_nil))) (mea_cons (me_var 7) (mea_nil)))))) (mew_or1 (met_ne hr.units (me_var 5) (me_call (ok__law_stretched C) (hr.mono (by decide)) (by rfl) C.g__law_stretched C.f__law_stretched.kp C.b__law_stretched .nil .nil (mea_cons (me_var 4) (mea_nil)))))).met) (mss_one (ms_ret (me_bl))) (mss_nil)))))))))))))) (mss_cons (ms_asgComp 7 (own := [("some", 5)]) rfl sc_law.nd (mi_new (me_call (ok__law_sets C) (hr.mono (by decide)) (by rfl) C.g__law_sets C.f__law_sets.kp C.b__law_sets .nil .nil (mea_cons (me_int) (mea_nil)))) (blkOk_by (N := N_law) (sc := defScope s_law) (by decide +kernel)) (fun _ _ _ _ _ => mg_name 5 sc_law.nd) (fun _ _ _ _ _ => mts_nil) (fun _ _ _ _ _ => me_call (ok_row_with C) (hr.mono (by decide)) (by rfl) C.g_row_with C.f_row_with.kp C.b_row_with .nil .nil (mea_cons (me_call (ok__law_stretched C) (hr.mono (by decide)) (by rfl) C.g__law_stretched C.f__law_stretched.kp C.b__law_stretched .nil .nil (mea_cons (me_var 5) (mea_nil))) (mea_nil))) (sw_true rfl rfl rfl (by decide +kernel))) (mss_cons (ms_if (met_ne hr.units (me_comp (own := [("some", 5)]) rfl sc_law.nd (mi_seq (me_var 7)) (blkOk_by (N := N_law) (sc := defScope s_law) (by decide +kernel)) (fun _ _ _ _ _ => mg_name 5 sc_law.nd) (fun _ _ _ _ _ => mts_one ((mew_and (met_ne hr.units (me_var 5) (me_lst (mea_nil))) (mew_and1 (met_gt (me_ix (me_ix (me_var 5) (me_neg (me_int)) (fun _ _ => rfl)) (me_int) (fun _ _ => rfl)) (me_int)))).met)) (fun _ _ _ _ _ => me_var 5)) (me_lst (mea_nil))) (mss_one (ms_ret (me_bl))) (mss_nil)) (mss_one (ms_ret (me_eq hr.units (me_fn fnS_sortN (cr_sortD (u64 hr)) (by rfl) C.n_sorted (by decide +kernel) (mea_cons (me_comp (own := [("some", 5)]) rfl sc_law.nd (mi_seq (me_var 7)) (blkOk_by (N := N_law) (sc := defScope s_law) (by decide +kernel)) (fun _ _ _ _ _ => mg_name 5 sc_law.nd) (fun _ _ _ _ _ => mts_nil) (fun _ _ _ _ _ => me_call (ok__law_all_places C) (hr.mono (by decide)) (by rfl) C.g__law_all_places C.f__law_all_places.kp C.b__law_all_places .nil .nil (mea_cons (me_var 5) (mea_nil)))) (mea_nil))) (me_fn fnS_sortN (cr_sortD (u64 hr)) (by rfl) C.n_sorted (by decide +kernel) (mea_cons (me_call (ok__law_sets C) (hr.mono (by decide)) (by rfl) C.g__law_sets C.f__law_sets.kp C.b__law_sets .nil .nil (mea_cons (me_int) (mea_nil))) (mea_nil))))))))⟩)
end
theorem all_mk {l : PySem.W.OpenLaw} {w : World} {K : PySem.W.Frag} {h : Heap} {mg : Str → Option Value} {fa f0 f1 f2 f3 f4 f5 f6 f7 f8 f9 f10 f11 f12 f13 f14 f15 f16 f17 f18 f19 f20 f21 f22 f23 f24 f25 f26 f27 f28 f29 f30 f31 f32 f33 f34 f35 tP0 tU0 : Addr} (X : K.In h) (G : h.Ns mainGlobals mg) (hfa : mg "law" = some (.ref fa))
    {od0 an0 : Option Addr} {sl0 : Array (Option Value)} {oc0 kV0 dc0 pm0 cd0 ct0 : Value}
    {od1 an1 : Option Addr} {sl1 : Array (Option Value)} {oc1 kV1 dc1 pm1 cd1 ct1 : Value}
    {od2 an2 : Option Addr} {sl2 : Array (Option Value)} {oc2 kV2 dc2 pm2 cd2 ct2 : Value}
    {od3 an3 : Option Addr} {sl3 : Array (Option Value)} {oc3 kV3 dc3 pm3 cd3 ct3 : Value}
    {od4 an4 : Option Addr} {sl4 : Array (Option Value)} {oc4 kV4 dc4 pm4 cd4 ct4 : Value}
    {od5 an5 : Option Addr} {sl5 : Array (Option Value)} {oc5 kV5 dc5 pm5 cd5 ct5 : Value}
    {od6 an6 : Option Addr} {sl6 : Array (Option Value)} {oc6 kV6 dc6 pm6 cd6 ct6 : Value}
    {od7 an7 : Option Addr} {sl7 : Array (Option Value)} {oc7 kV7 dc7 pm7 cd7 ct7 : Value}
    {od8 an8 : Option Addr} {sl8 : Array (Option Value)} {oc8 kV8 dc8 pm8 cd8 ct8 : Value}
    {od9 an9 : Option Addr} {sl9 : Array (Option Value)} {oc9 kV9 dc9 pm9 cd9 ct9 : Value}
    {od10 an10 : Option Addr} {sl10 : Array (Option Value)} {oc10 kV10 dc10 pm10 cd10 ct10 : Value}
    {od11 an11 : Option Addr} {sl11 : Array (Option Value)} {oc11 kV11 dc11 pm11 cd11 ct11 : Value}
    {od12 an12 : Option Addr} {sl12 : Array (Option Value)} {oc12 kV12 dc12 pm12 cd12 ct12 : Value}
    {od13 an13 : Option Addr} {sl13 : Array (Option Value)} {oc13 kV13 dc13 pm13 cd13 ct13 : Value}
    {od14 an14 : Option Addr} {sl14 : Array (Option Value)} {oc14 kV14 dc14 pm14 cd14 ct14 : Value}
    {od15 an15 : Option Addr} {sl15 : Array (Option Value)} {oc15 kV15 dc15 pm15 cd15 ct15 : Value}
    {od16 an16 : Option Addr} {sl16 : Array (Option Value)} {oc16 kV16 dc16 pm16 cd16 ct16 : Value}
    {od17 an17 : Option Addr} {sl17 : Array (Option Value)} {oc17 kV17 dc17 pm17 cd17 ct17 : Value}
    {od18 an18 : Option Addr} {sl18 : Array (Option Value)} {oc18 kV18 dc18 pm18 cd18 ct18 : Value}
    {od19 an19 : Option Addr} {sl19 : Array (Option Value)} {oc19 kV19 dc19 pm19 cd19 ct19 : Value}
    {od20 an20 : Option Addr} {sl20 : Array (Option Value)} {oc20 kV20 dc20 pm20 cd20 ct20 : Value}
    {od21 an21 : Option Addr} {sl21 : Array (Option Value)} {oc21 kV21 dc21 pm21 cd21 ct21 : Value}
    {od22 an22 : Option Addr} {sl22 : Array (Option Value)} {oc22 kV22 dc22 pm22 cd22 ct22 : Value}
    {od23 an23 : Option Addr} {sl23 : Array (Option Value)} {oc23 kV23 dc23 pm23 cd23 ct23 : Value}
    {od24 an24 : Option Addr} {sl24 : Array (Option Value)} {oc24 kV24 dc24 pm24 cd24 ct24 : Value}
    {od25 an25 : Option Addr} {sl25 : Array (Option Value)} {oc25 kV25 dc25 pm25 cd25 ct25 : Value}
    {od26 an26 : Option Addr} {sl26 : Array (Option Value)} {oc26 kV26 dc26 pm26 cd26 ct26 : Value}
    {od27 an27 : Option Addr} {sl27 : Array (Option Value)} {oc27 kV27 dc27 pm27 cd27 ct27 : Value}
    {od28 an28 : Option Addr} {sl28 : Array (Option Value)} {oc28 kV28 dc28 pm28 cd28 ct28 : Value}
    {od29 an29 : Option Addr} {sl29 : Array (Option Value)} {oc29 kV29 dc29 pm29 cd29 ct29 : Value}
    {od30 an30 : Option Addr} {sl30 : Array (Option Value)} {oc30 kV30 dc30 pm30 cd30 ct30 : Value}
    {od31 an31 : Option Addr} {sl31 : Array (Option Value)} {oc31 kV31 dc31 pm31 cd31 ct31 : Value}
    {od32 an32 : Option Addr} {sl32 : Array (Option Value)} {oc32 kV32 dc32 pm32 cd32 ct32 : Value}
    {od33 an33 : Option Addr} {sl33 : Array (Option Value)} {oc33 kV33 dc33 pm33 cd33 ct33 : Value}
    {od34 an34 : Option Addr} {sl34 : Array (Option Value)} {oc34 kV34 dc34 pm34 cd34 ct34 : Value}
    {od35 an35 : Option Addr} {sl35 : Array (Option Value)} {oc35 kV35 dc35 pm35 cd35 ct35 : Value}
    (a0 : PySem.W.nsIn K mainGlobals "is_whole" = some (some (.ref f0))) (l0 : K.lookup f0 = some ⟨oc0, od0, .func (PySem.W.fnOf "is_whole" "is_whole" (defArgs s_is_whole) (defBody s_is_whole) (defScope s_is_whole) .none kV0 dc0 pm0 an0 cd0 ct0), sl0⟩) (c0 : PySem.W.codeIn K cd0 "is_whole" = true) (k0 : PySem.W.keepIn K (.ref f0) = true)
    (a1 : PySem.W.nsIn K mainGlobals "is_row" = some (some (.ref f1))) (l1 : K.lookup f1 = some ⟨oc1, od1, .func (PySem.W.fnOf "is_row" "is_row" (defArgs s_is_row) (defBody s_is_row) (defScope s_is_row) .none kV1 dc1 pm1 an1 cd1 ct1), sl1⟩) (c1 : PySem.W.codeIn K cd1 "is_row" = true) (k1 : PySem.W.keepIn K (.ref f1) = true)
    (a2 : PySem.W.nsIn K mainGlobals "is_stretch" = some (some (.ref f2))) (l2 : K.lookup f2 = some ⟨oc2, od2, .func (PySem.W.fnOf "is_stretch" "is_stretch" (defArgs s_is_stretch) (defBody s_is_stretch) (defScope s_is_stretch) .none kV2 dc2 pm2 an2 cd2 ct2), sl2⟩) (c2 : PySem.W.codeIn K cd2 "is_stretch" = true) (k2 : PySem.W.keepIn K (.ref f2) = true)
    (a3 : PySem.W.nsIn K mainGlobals "given_row" = some (some (.ref f3))) (l3 : K.lookup f3 = some ⟨oc3, od3, .func (PySem.W.fnOf "given_row" "given_row" (defArgs s_given_row) (defBody s_given_row) (defScope s_given_row) .none kV3 dc3 pm3 an3 cd3 ct3), sl3⟩) (c3 : PySem.W.codeIn K cd3 "given_row" = true) (k3 : PySem.W.keepIn K (.ref f3) = true)
    (a4 : PySem.W.nsIn K mainGlobals "last_of" = some (some (.ref f4))) (l4 : K.lookup f4 = some ⟨oc4, od4, .func (PySem.W.fnOf "last_of" "last_of" (defArgs s_last_of) (defBody s_last_of) (defScope s_last_of) .none kV4 dc4 pm4 an4 cd4 ct4), sl4⟩) (c4 : PySem.W.codeIn K cd4 "last_of" = true) (k4 : PySem.W.keepIn K (.ref f4) = true)
    (a5 : PySem.W.nsIn K mainGlobals "strips_of" = some (some (.ref f5))) (l5 : K.lookup f5 = some ⟨oc5, od5, .func (PySem.W.fnOf "strips_of" "strips_of" (defArgs s_strips_of) (defBody s_strips_of) (defScope s_strips_of) .none kV5 dc5 pm5 an5 cd5 ct5), sl5⟩) (c5 : PySem.W.codeIn K cd5 "strips_of" = true) (k5 : PySem.W.keepIn K (.ref f5) = true)
    (a6 : PySem.W.nsIn K mainGlobals "row_of_strips" = some (some (.ref f6))) (l6 : K.lookup f6 = some ⟨oc6, od6, .func (PySem.W.fnOf "row_of_strips" "row_of_strips" (defArgs s_row_of_strips) (defBody s_row_of_strips) (defScope s_row_of_strips) .none kV6 dc6 pm6 an6 cd6 ct6), sl6⟩) (c6 : PySem.W.codeIn K cd6 "row_of_strips" = true) (k6 : PySem.W.keepIn K (.ref f6) = true)
    (a7 : PySem.W.nsIn K mainGlobals "climbed" = some (some (.ref f7))) (l7 : K.lookup f7 = some ⟨oc7, od7, .func (PySem.W.fnOf "climbed" "climbed" (defArgs s_climbed) (defBody s_climbed) (defScope s_climbed) .none kV7 dc7 pm7 an7 cd7 ct7), sl7⟩) (c7 : PySem.W.codeIn K cd7 "climbed" = true) (k7 : PySem.W.keepIn K (.ref f7) = true)
    (a8 : PySem.W.nsIn K mainGlobals "rungs_within" = some (some (.ref f8))) (l8 : K.lookup f8 = some ⟨oc8, od8, .func (PySem.W.fnOf "rungs_within" "rungs_within" (defArgs s_rungs_within) (defBody s_rungs_within) (defScope s_rungs_within) .none kV8 dc8 pm8 an8 cd8 ct8), sl8⟩) (c8 : PySem.W.codeIn K cd8 "rungs_within" = true) (k8 : PySem.W.keepIn K (.ref f8) = true)
    (a9 : PySem.W.nsIn K mainGlobals "way_up" = some (some (.ref f9))) (l9 : K.lookup f9 = some ⟨oc9, od9, .func (PySem.W.fnOf "way_up" "way_up" (defArgs s_way_up) (defBody s_way_up) (defScope s_way_up) .none kV9 dc9 pm9 an9 cd9 ct9), sl9⟩) (c9 : PySem.W.codeIn K cd9 "way_up" = true) (k9 : PySem.W.keepIn K (.ref f9) = true)
    (a10 : PySem.W.nsIn K mainGlobals "opposite" = some (some (.ref f10))) (l10 : K.lookup f10 = some ⟨oc10, od10, .func (PySem.W.fnOf "opposite" "opposite" (defArgs s_opposite) (defBody s_opposite) (defScope s_opposite) .none kV10 dc10 pm10 an10 cd10 ct10), sl10⟩) (c10 : PySem.W.codeIn K cd10 "opposite" = true) (k10 : PySem.W.keepIn K (.ref f10) = true)
    (a11 : PySem.W.nsIn K mainGlobals "even_kind" = some (some (.ref f11))) (l11 : K.lookup f11 = some ⟨oc11, od11, .func (PySem.W.fnOf "even_kind" "even_kind" (defArgs s_even_kind) (defBody s_even_kind) (defScope s_even_kind) .none kV11 dc11 pm11 an11 cd11 ct11), sl11⟩) (c11 : PySem.W.codeIn K cd11 "even_kind" = true) (k11 : PySem.W.keepIn K (.ref f11) = true)
    (a12 : PySem.W.nsIn K mainGlobals "coin_told" = some (some (.ref f12))) (l12 : K.lookup f12 = some ⟨oc12, od12, .func (PySem.W.fnOf "coin_told" "coin_told" (defArgs s_coin_told) (defBody s_coin_told) (defScope s_coin_told) .none kV12 dc12 pm12 an12 cd12 ct12), sl12⟩) (c12 : PySem.W.codeIn K cd12 "coin_told" = true) (k12 : PySem.W.keepIn K (.ref f12) = true)
    (a13 : PySem.W.nsIn K mainGlobals "kind_behind" = some (some (.ref f13))) (l13 : K.lookup f13 = some ⟨oc13, od13, .func (PySem.W.fnOf "kind_behind" "kind_behind" (defArgs s_kind_behind) (defBody s_kind_behind) (defScope s_kind_behind) .none kV13 dc13 pm13 an13 cd13 ct13), sl13⟩) (c13 : PySem.W.codeIn K cd13 "kind_behind" = true) (k13 : PySem.W.keepIn K (.ref f13) = true)
    (a14 : PySem.W.nsIn K mainGlobals "one_way" = some (some (.ref f14))) (l14 : K.lookup f14 = some ⟨oc14, od14, .func (PySem.W.fnOf "one_way" "one_way" (defArgs s_one_way) (defBody s_one_way) (defScope s_one_way) .none kV14 dc14 pm14 an14 cd14 ct14), sl14⟩) (c14 : PySem.W.codeIn K cd14 "one_way" = true) (k14 : PySem.W.keepIn K (.ref f14) = true)
    (a15 : PySem.W.nsIn K mainGlobals "part_of" = some (some (.ref f15))) (l15 : K.lookup f15 = some ⟨oc15, od15, .func (PySem.W.fnOf "part_of" "part_of" (defArgs s_part_of) (defBody s_part_of) (defScope s_part_of) .none kV15 dc15 pm15 an15 cd15 ct15), sl15⟩) (c15 : PySem.W.codeIn K cd15 "part_of" = true) (k15 : PySem.W.keepIn K (.ref f15) = true)
    (a16 : PySem.W.nsIn K mainGlobals "pairs_on" = some (some (.ref f16))) (l16 : K.lookup f16 = some ⟨oc16, od16, .func (PySem.W.fnOf "pairs_on" "pairs_on" (defArgs s_pairs_on) (defBody s_pairs_on) (defScope s_pairs_on) .none kV16 dc16 pm16 an16 cd16 ct16), sl16⟩) (c16 : PySem.W.codeIn K cd16 "pairs_on" = true) (k16 : PySem.W.keepIn K (.ref f16) = true)
    (a17 : PySem.W.nsIn K mainGlobals "pair_on" = some (some (.ref f17))) (l17 : K.lookup f17 = some ⟨oc17, od17, .func (PySem.W.fnOf "pair_on" "pair_on" (defArgs s_pair_on) (defBody s_pair_on) (defScope s_pair_on) .none kV17 dc17 pm17 an17 cd17 ct17), sl17⟩) (c17 : PySem.W.codeIn K cd17 "pair_on" = true) (k17 : PySem.W.keepIn K (.ref f17) = true)
    (a18 : PySem.W.nsIn K mainGlobals "pair_on_within" = some (some (.ref f18))) (l18 : K.lookup f18 = some ⟨oc18, od18, .func (PySem.W.fnOf "pair_on_within" "pair_on_within" (defArgs s_pair_on_within) (defBody s_pair_on_within) (defScope s_pair_on_within) .none kV18 dc18 pm18 an18 cd18 ct18), sl18⟩) (c18 : PySem.W.codeIn K cd18 "pair_on_within" = true) (k18 : PySem.W.keepIn K (.ref f18) = true)
    (a19 : PySem.W.nsIn K mainGlobals "layers_at" = some (some (.ref f19))) (l19 : K.lookup f19 = some ⟨oc19, od19, .func (PySem.W.fnOf "layers_at" "layers_at" (defArgs s_layers_at) (defBody s_layers_at) (defScope s_layers_at) .none kV19 dc19 pm19 an19 cd19 ct19), sl19⟩) (c19 : PySem.W.codeIn K cd19 "layers_at" = true) (k19 : PySem.W.keepIn K (.ref f19) = true)
    (a20 : PySem.W.nsIn K mainGlobals "far_in" = some (some (.ref f20))) (l20 : K.lookup f20 = some ⟨oc20, od20, .func (PySem.W.fnOf "far_in" "far_in" (defArgs s_far_in) (defBody s_far_in) (defScope s_far_in) .none kV20 dc20 pm20 an20 cd20 ct20), sl20⟩) (c20 : PySem.W.codeIn K cd20 "far_in" = true) (k20 : PySem.W.keepIn K (.ref f20) = true)
    (a21 : PySem.W.nsIn K mainGlobals "pair_of" = some (some (.ref f21))) (l21 : K.lookup f21 = some ⟨oc21, od21, .func (PySem.W.fnOf "pair_of" "pair_of" (defArgs s_pair_of) (defBody s_pair_of) (defScope s_pair_of) .none kV21 dc21 pm21 an21 cd21 ct21), sl21⟩) (c21 : PySem.W.codeIn K cd21 "pair_of" = true) (k21 : PySem.W.keepIn K (.ref f21) = true)
    (a22 : PySem.W.nsIn K mainGlobals "row_of_ends" = some (some (.ref f22))) (l22 : K.lookup f22 = some ⟨oc22, od22, .func (PySem.W.fnOf "row_of_ends" "row_of_ends" (defArgs s_row_of_ends) (defBody s_row_of_ends) (defScope s_row_of_ends) .none kV22 dc22 pm22 an22 cd22 ct22), sl22⟩) (c22 : PySem.W.codeIn K cd22 "row_of_ends" = true) (k22 : PySem.W.keepIn K (.ref f22) = true)
    (a23 : PySem.W.nsIn K mainGlobals "row_with" = some (some (.ref f23))) (l23 : K.lookup f23 = some ⟨oc23, od23, .func (PySem.W.fnOf "row_with" "row_with" (defArgs s_row_with) (defBody s_row_with) (defScope s_row_with) .none kV23 dc23 pm23 an23 cd23 ct23), sl23⟩) (c23 : PySem.W.codeIn K cd23 "row_with" = true) (k23 : PySem.W.keepIn K (.ref f23) = true)
    (a24 : PySem.W.nsIn K mainGlobals "pair_halfway" = some (some (.ref f24))) (l24 : K.lookup f24 = some ⟨oc24, od24, .func (PySem.W.fnOf "pair_halfway" "pair_halfway" (defArgs s_pair_halfway) (defBody s_pair_halfway) (defScope s_pair_halfway) .none kV24 dc24 pm24 an24 cd24 ct24), sl24⟩) (c24 : PySem.W.codeIn K cd24 "pair_halfway" = true) (k24 : PySem.W.keepIn K (.ref f24) = true)
    (a25 : PySem.W.nsIn K mainGlobals "_law_mix" = some (some (.ref f25))) (l25 : K.lookup f25 = some ⟨oc25, od25, .func (PySem.W.fnOf "_law_mix" "_law_mix" (defArgs s__law_mix) (defBody s__law_mix) (defScope s__law_mix) .none kV25 dc25 pm25 an25 cd25 ct25), sl25⟩) (c25 : PySem.W.codeIn K cd25 "_law_mix" = true) (k25 : PySem.W.keepIn K (.ref f25) = true)
    (a26 : PySem.W.nsIn K mainGlobals "_law_bag" = some (some (.ref f26))) (l26 : K.lookup f26 = some ⟨oc26, od26, .func (PySem.W.fnOf "_law_bag" "_law_bag" (defArgs s__law_bag) (defBody s__law_bag) (defScope s__law_bag) .none kV26 dc26 pm26 an26 cd26 ct26), sl26⟩) (c26 : PySem.W.codeIn K cd26 "_law_bag" = true) (k26 : PySem.W.keepIn K (.ref f26) = true)
    (a27 : PySem.W.nsIn K mainGlobals "_law_draw" = some (some (.ref f27))) (l27 : K.lookup f27 = some ⟨oc27, od27, .func (PySem.W.fnOf "_law_draw" "_law_draw" (defArgs s__law_draw) (defBody s__law_draw) (defScope s__law_draw) .none kV27 dc27 pm27 an27 cd27 ct27), sl27⟩) (c27 : PySem.W.codeIn K cd27 "_law_draw" = true) (k27 : PySem.W.keepIn K (.ref f27) = true)
    (a28 : PySem.W.nsIn K mainGlobals "_law_places" = some (some (.ref f28))) (l28 : K.lookup f28 = some ⟨oc28, od28, .func (PySem.W.fnOf "_law_places" "_law_places" (defArgs s__law_places) (defBody s__law_places) (defScope s__law_places) .none kV28 dc28 pm28 an28 cd28 ct28), sl28⟩) (c28 : PySem.W.codeIn K cd28 "_law_places" = true) (k28 : PySem.W.keepIn K (.ref f28) = true)
    (a29 : PySem.W.nsIn K mainGlobals "_law_stretched" = some (some (.ref f29))) (l29 : K.lookup f29 = some ⟨oc29, od29, .func (PySem.W.fnOf "_law_stretched" "_law_stretched" (defArgs s__law_stretched) (defBody s__law_stretched) (defScope s__law_stretched) .none kV29 dc29 pm29 an29 cd29 ct29), sl29⟩) (c29 : PySem.W.codeIn K cd29 "_law_stretched" = true) (k29 : PySem.W.keepIn K (.ref f29) = true)
    (a30 : PySem.W.nsIn K mainGlobals "_law_next" = some (some (.ref f30))) (l30 : K.lookup f30 = some ⟨oc30, od30, .func (PySem.W.fnOf "_law_next" "_law_next" (defArgs s__law_next) (defBody s__law_next) (defScope s__law_next) .none kV30 dc30 pm30 an30 cd30 ct30), sl30⟩) (c30 : PySem.W.codeIn K cd30 "_law_next" = true) (k30 : PySem.W.keepIn K (.ref f30) = true)
    (a31 : PySem.W.nsIn K mainGlobals "_law_same" = some (some (.ref f31))) (l31 : K.lookup f31 = some ⟨oc31, od31, .func (PySem.W.fnOf "_law_same" "_law_same" (defArgs s__law_same) (defBody s__law_same) (defScope s__law_same) .none kV31 dc31 pm31 an31 cd31 ct31), sl31⟩) (c31 : PySem.W.codeIn K cd31 "_law_same" = true) (k31 : PySem.W.keepIn K (.ref f31) = true)
    (a32 : PySem.W.nsIn K mainGlobals "_law_runs" = some (some (.ref f32))) (l32 : K.lookup f32 = some ⟨oc32, od32, .func (PySem.W.fnOf "_law_runs" "_law_runs" (defArgs s__law_runs) (defBody s__law_runs) (defScope s__law_runs) .none kV32 dc32 pm32 an32 cd32 ct32), sl32⟩) (c32 : PySem.W.codeIn K cd32 "_law_runs" = true) (k32 : PySem.W.keepIn K (.ref f32) = true)
    (a33 : PySem.W.nsIn K mainGlobals "_law_all_places" = some (some (.ref f33))) (l33 : K.lookup f33 = some ⟨oc33, od33, .func (PySem.W.fnOf "_law_all_places" "_law_all_places" (defArgs s__law_all_places) (defBody s__law_all_places) (defScope s__law_all_places) .none kV33 dc33 pm33 an33 cd33 ct33), sl33⟩) (c33 : PySem.W.codeIn K cd33 "_law_all_places" = true) (k33 : PySem.W.keepIn K (.ref f33) = true)
    (a34 : PySem.W.nsIn K mainGlobals "_law_sets" = some (some (.ref f34))) (l34 : K.lookup f34 = some ⟨oc34, od34, .func (PySem.W.fnOf "_law_sets" "_law_sets" (defArgs s__law_sets) (defBody s__law_sets) (defScope s__law_sets) .none kV34 dc34 pm34 an34 cd34 ct34), sl34⟩) (c34 : PySem.W.codeIn K cd34 "_law_sets" = true) (k34 : PySem.W.keepIn K (.ref f34) = true)
    (a35 : PySem.W.nsIn K mainGlobals "law" = some (some (.ref f35))) (l35 : K.lookup f35 = some ⟨oc35, od35, .func (PySem.W.fnOf "law" "law" (defArgs s_law) (defBody s_law) (defScope s_law) .none kV35 dc35 pm35 an35 cd35 ct35), sl35⟩) (c35 : PySem.W.codeIn K cd35 "law" = true) (k35 : PySem.W.keepIn K (.ref f35) = true)
    (z_all : PySem.W.nsIn K mainGlobals "all" = some none) (z_bool : PySem.W.nsIn K mainGlobals "bool" = some none) (z_int : PySem.W.nsIn K mainGlobals "int" = some none) (z_isinstance : PySem.W.nsIn K mainGlobals "isinstance" = some none) (z_len : PySem.W.nsIn K mainGlobals "len" = some none) (z_list : PySem.W.nsIn K mainGlobals "list" = some none) (z_max : PySem.W.nsIn K mainGlobals "max" = some none) (z_min : PySem.W.nsIn K mainGlobals "min" = some none) (z_range : PySem.W.nsIn K mainGlobals "range" = some none) (z_reversed : PySem.W.nsIn K mainGlobals "reversed" = some none) (z_sorted : PySem.W.nsIn K mainGlobals "sorted" = some none) (z_sum : PySem.W.nsIn K mainGlobals "sum" = some none) (z_tuple : PySem.W.nsIn K mainGlobals "tuple" = some none) (dP0 : PySem.W.nsIn K mainGlobals "NEAR" = some (some (.ref tP0))) (eP0 : KTT K tP0 [((0, 0), (0, 1)), ((1, 1), (1, 0)), ((0, 1), (0, 0)), ((1, 0), (0, 0))]) (dU0 : PySem.W.nsIn K mainGlobals "OUTSIDE" = some (some (.ref tU0))) (eU0 : TupK K tU0 0 0) :
    ∃ fd : FuncData, (∀ (s : Shared) (v : Value), BindsTo s fd ⟨[v], []⟩ [("script", v)]) ∧ ∀ base : Heap, K.In base → base.Ns mainGlobals mg → FnOk l.prog w K mg base CX0 9 fa fd ["script"] (spD K mf_law) := by
  have e := hfa.symm.trans (PySem.W.mg_of X G a35)
  cases e
  have F0 := fun_mk (st := s_is_whole) l0 c0 k0
  have B0 := F0.binds (ps := ["thing", "least"]) fun _ _ _ _ _ _ us hl => match us, hl with | [_, _], _ => rfl
  have F1 := fun_mk (st := s_is_row) l1 c1 k1
  have B1 := F1.binds (ps := ["thing"]) fun _ _ _ _ _ _ us hl => match us, hl with | [_], _ => rfl
  have F2 := fun_mk (st := s_is_stretch) l2 c2 k2
  have B2 := F2.binds (ps := ["thing", "free"]) fun _ _ _ _ _ _ us hl => match us, hl with | [_, _], _ => rfl
  have F3 := fun_mk (st := s_given_row) l3 c3 k3
  have B3 := F3.binds (ps := ["row"]) fun _ _ _ _ _ _ us hl => match us, hl with | [_], _ => rfl
  have F4 := fun_mk (st := s_last_of) l4 c4 k4
  have B4 := F4.binds (ps := ["stretches"]) fun _ _ _ _ _ _ us hl => match us, hl with | [_], _ => rfl
  have F5 := fun_mk (st := s_strips_of) l5 c5 k5
  have B5 := F5.binds (ps := ["stretches", "n"]) fun _ _ _ _ _ _ us hl => match us, hl with | [_, _], _ => rfl
  have F6 := fun_mk (st := s_row_of_strips) l6 c6 k6
  have B6 := F6.binds (ps := ["strips"]) fun _ _ _ _ _ _ us hl => match us, hl with | [_], _ => rfl
  have F7 := fun_mk (st := s_climbed) l7 c7 k7
  have B7 := F7.binds (ps := ["rungs", "coin", "many"]) fun _ _ _ _ _ _ us hl => match us, hl with | [_, _, _], _ => rfl
  have F8 := fun_mk (st := s_rungs_within) l8 c8 k8
  have B8 := F8.binds (ps := ["stretches", "n"]) fun _ _ _ _ _ _ us hl => match us, hl with | [_, _], _ => rfl
  have F9 := fun_mk (st := s_way_up) l9 c9 k9
  have B9 := F9.binds (ps := ["stretches"]) fun _ _ _ _ _ _ us hl => match us, hl with | [_], _ => rfl
  have F10 := fun_mk (st := s_opposite) l10 c10 k10
  have B10 := F10.binds (ps := ["kind"]) fun _ _ _ _ _ _ us hl => match us, hl with | [_], _ => rfl
  have F11 := fun_mk (st := s_even_kind) l11 c11 k11
  have B11 := F11.binds (ps := ["kind"]) fun _ _ _ _ _ _ us hl => match us, hl with | [_], _ => rfl
  have F12 := fun_mk (st := s_coin_told) l12 c12 k12
  have B12 := F12.binds (ps := ["kind", "following"]) fun _ _ _ _ _ _ us hl => match us, hl with | [_, _], _ => rfl
  have F13 := fun_mk (st := s_kind_behind) l13 c13 k13
  have B13 := F13.binds (ps := ["layer"]) fun _ _ _ _ _ _ us hl => match us, hl with | [_], _ => rfl
  have F14 := fun_mk (st := s_one_way) l14 c14 k14
  have B14 := F14.binds (ps := ["layer"]) fun _ _ _ _ _ _ us hl => match us, hl with | [_], _ => rfl
  have F15 := fun_mk (st := s_part_of) l15 c15 k15
  have B15 := F15.binds (ps := ["layer", "rungs"]) fun _ _ _ _ _ _ us hl => match us, hl with | [_, _], _ => rfl
  have F16 := fun_mk (st := s_pairs_on) l16 c16 k16
  have B16 := F16.binds (ps := ["kind", "rungs"]) fun _ _ _ _ _ _ us hl => match us, hl with | [_, _], _ => rfl
  have F17 := fun_mk (st := s_pair_on) l17 c17 k17
  have B17 := F17.binds (ps := ["stretches", "turns"]) fun _ _ _ _ _ _ us hl => match us, hl with | [_, _], _ => rfl
  have F18 := fun_mk (st := s_pair_on_within) l18 c18 k18
  have B18 := F18.binds (ps := ["n", "outer", "stretches", "turns"]) fun _ _ _ _ _ _ us hl => match us, hl with | [_, _, _, _], _ => rfl
  have F19 := fun_mk (st := s_layers_at) l19 c19 k19
  have B19 := F19.binds (ps := ["kind", "far", "strip", "rungs"]) fun _ _ _ _ _ _ us hl => match us, hl with | [_, _, _, _], _ => rfl
  have F20 := fun_mk (st := s_far_in) l20 c20 k20
  have B20 := F20.binds (ps := ["layer", "far", "rungs"]) fun _ _ _ _ _ _ us hl => match us, hl with | [_, _, _], _ => rfl
  have F21 := fun_mk (st := s_pair_of) l21 c21 k21
  have B21 := F21.binds (ps := ["layers"]) fun _ _ _ _ _ _ us hl => match us, hl with | [_], _ => rfl
  have F22 := fun_mk (st := s_row_of_ends) l22 c22 k22
  have B22 := F22.binds (ps := ["ends"]) fun _ _ _ _ _ _ us hl => match us, hl with | [_], _ => rfl
  have F23 := fun_mk (st := s_row_with) l23 c23 k23
  have B23 := F23.binds (ps := ["row"]) fun _ _ _ _ _ _ us hl => match us, hl with | [_], _ => rfl
  have F24 := fun_mk (st := s_pair_halfway) l24 c24 k24
  have B24 := F24.binds (ps := ["stretches"]) fun _ _ _ _ _ _ us hl => match us, hl with | [_], _ => rfl
  have F25 := fun_mk (st := s__law_mix) l25 c25 k25
  have B25 := F25.binds (ps := ["bag"]) fun _ _ _ _ _ _ us hl => match us, hl with | [_], _ => rfl
  have F26 := fun_mk (st := s__law_bag) l26 c26 k26
  have B26 := F26.binds (ps := ["cell"]) fun _ _ _ _ _ _ us hl => match us, hl with | [_], _ => rfl
  have F27 := fun_mk (st := s__law_draw) l27 c27 k27
  have B27 := F27.binds (ps := ["bag", "size"]) fun _ _ _ _ _ _ us hl => match us, hl with | [_, _], _ => rfl
  have F28 := fun_mk (st := s__law_places) l28 c28 k28
  have B28 := F28.binds (ps := ["bag", "most"]) fun _ _ _ _ _ _ us hl => match us, hl with | [_, _], _ => rfl
  have F29 := fun_mk (st := s__law_stretched) l29 c29 k29
  have B29 := F29.binds (ps := ["places"]) fun _ _ _ _ _ _ us hl => match us, hl with | [_], _ => rfl
  have F30 := fun_mk (st := s__law_next) l30 c30 k30
  have B30 := F30.binds (ps := ["places"]) fun _ _ _ _ _ _ us hl => match us, hl with | [_], _ => rfl
  have F31 := fun_mk (st := s__law_same) l31 c31 k31
  have B31 := F31.binds (ps := ["found", "due"]) fun _ _ _ _ _ _ us hl => match us, hl with | [_, _], _ => rfl
  have F32 := fun_mk (st := s__law_runs) l32 c32 k32
  have B32 := F32.binds (ps := ["places"]) fun _ _ _ _ _ _ us hl => match us, hl with | [_], _ => rfl
  have F33 := fun_mk (st := s__law_all_places) l33 c33 k33
  have B33 := F33.binds (ps := ["some"]) fun _ _ _ _ _ _ us hl => match us, hl with | [_], _ => rfl
  have F34 := fun_mk (st := s__law_sets) l34 c34 k34
  have B34 := F34.binds (ps := ["most"]) fun _ _ _ _ _ _ us hl => match us, hl with | [_], _ => rfl
  have F35 := fun_mk (st := s_law) l35 c35 k35
  have B35 := F35.binds (ps := ["script"]) fun _ _ _ _ _ _ us hl => match us, hl with | [_], _ => rfl
  have C : Txt K w mg ⟨_, _, _, _, _, _, _, _, _, _, _, _, _, _, _, _, _, _, _, _, _, _, _, _, _, _, _, _, _, _, _, _, _, _, _, _, _, _, _, _, _, _, _, _, _, _, _, _, _, _, _, _, _, _, _, _, _, _, _, _, _, _, _, _, _, _, _, _, _, _, _, _, _, _⟩ := ⟨F0, PySem.W.mg_of X G a0, B0, F1, PySem.W.mg_of X G a1, B1, F2, PySem.W.mg_of X G a2, B2, F3, PySem.W.mg_of X G a3, B3, F4, PySem.W.mg_of X G a4, B4, F5, PySem.W.mg_of X G a5, B5, F6, PySem.W.mg_of X G a6, B6, F7, PySem.W.mg_of X G a7, B7, F8, PySem.W.mg_of X G a8, B8, F9, PySem.W.mg_of X G a9, B9, F10, PySem.W.mg_of X G a10, B10, F11, PySem.W.mg_of X G a11, B11, F12, PySem.W.mg_of X G a12, B12, F13, PySem.W.mg_of X G a13, B13, F14, PySem.W.mg_of X G a14, B14, F15, PySem.W.mg_of X G a15, B15, F16, PySem.W.mg_of X G a16, B16, F17, PySem.W.mg_of X G a17, B17, F18, PySem.W.mg_of X G a18, B18, F19, PySem.W.mg_of X G a19, B19, F20, PySem.W.mg_of X G a20, B20, F21, PySem.W.mg_of X G a21, B21, F22, PySem.W.mg_of X G a22, B22, F23, PySem.W.mg_of X G a23, B23, F24, PySem.W.mg_of X G a24, B24, F25, PySem.W.mg_of X G a25, B25, F26, PySem.W.mg_of X G a26, B26, F27, PySem.W.mg_of X G a27, B27, F28, PySem.W.mg_of X G a28, B28, F29, PySem.W.mg_of X G a29, B29, F30, PySem.W.mg_of X G a30, B30, F31, PySem.W.mg_of X G a31, B31, F32, PySem.W.mg_of X G a32, B32, F33, PySem.W.mg_of X G a33, B33, F34, PySem.W.mg_of X G a34, B34, F35, PySem.W.mg_of X G a35, B35, PySem.W.mg_none_of X G z_all, PySem.W.mg_none_of X G z_bool, PySem.W.mg_none_of X G z_int, PySem.W.mg_none_of X G z_isinstance, PySem.W.mg_none_of X G z_len, PySem.W.mg_none_of X G z_list, PySem.W.mg_none_of X G z_max, PySem.W.mg_none_of X G z_min, PySem.W.mg_none_of X G z_range, PySem.W.mg_none_of X G z_reversed, PySem.W.mg_none_of X G z_sorted, PySem.W.mg_none_of X G z_sum, PySem.W.mg_none_of X G z_tuple, eP0, PySem.W.mg_of X G dP0, eU0, PySem.W.mg_of X G dU0⟩
  exact ⟨_, fun s v => .of_eq rfl, fun base _ _ => ok_law C⟩
end K61
namespace PR
open PySem L2 Dn
theorem is_whole_int (a l : Int) : mf_is_whole [.val (.int a), .val (.int l)] = some (.val (.bool (decide (l ≤ a))), [.un, .un]) := by
  rfl
theorem shaped_int (i : Int) : SeqAt.shaped (.int i) = true := rfl
theorem shaped_bool (i : Bool) : SeqAt.shaped (.bool i) = true := rfl
theorem eqv_int (i j : Int) : PyData.eqv (.int i) (.int j) = (i == j) := by simp [PyData.eqv]
theorem eqv_bool (i j : Bool) : PyData.eqv (.bool i) (.bool j) = (i == j) := by simp [PyData.eqv]
theorem is_stretch_ok {d : D} {p : Int × Int} (h : HP d p) (f : Int) : mf_is_stretch [.val d, .val (.int f)] = some (.val (.bool (decide (f ≤ p.1) && decide (p.1 ≤ p.2))), [.un, .un]) := by
  cases h with
  | t a b => by_cases h1 : f ≤ a <;> by_cases h2 : a ≤ b <;> simp [mf_is_stretch, mb_is_stretch, shaped_int, eqv_int, is_whole_int, h1, h2]
  | l a b => by_cases h1 : f ≤ a <;> by_cases h2 : a ≤ b <;> simp [mf_is_stretch, mb_is_stretch, shaped_int, eqv_int, is_whole_int, h1, h2]
def stepR (f : Int) (a : D × (Int × Int)) : Option Int := if f ≤ a.2.1 ∧ a.2.1 ≤ a.2.2 then some (a.2.2 + 2) else none
theorem stepR_ok : ∀ (l : List (D × (Int × Int))) (f : Int), (l.foldlM stepR f).isSome = okF f (l.map (·.2))
  | [], f => rfl
  | a :: l, f => by
    rw [List.foldlM_cons]
    unfold stepR
    by_cases h : f ≤ a.2.1 ∧ a.2.1 ≤ a.2.2
    · rw [if_pos h]
      show (l.foldlM stepR (a.2.2 + 2)).isSome = _
      rw [stepR_ok l]
      simp [okF, h.1, h.2]
    · rw [if_neg h]
      show false = _
      simp [okF]
      intro h1 h2
      exact absurd ⟨h1, h2⟩ h
theorem atI_1 {α : Type} (x y : α) : atI [x, y] 1 = some y := rfl
theorem atI_0 {α : Type} (x : α) (l : List α) : atI (x :: l) 0 = some x := by
  unfold atI ixN
  rw [if_pos (by decide), if_pos (by rw [List.length_cons]; omega)]
  rfl
theorem is_row_items {ds : List D} {r : RowT} (h : HA ds r) (x : Sl) (hx : x = .val (.list ds) ∨ x = .val (.tuple ds)) : mf_is_row [x] = some (.val (.bool (okF 1 r)), [.un]) := by
  obtain ⟨l, rfl, rfl, hp⟩ := h.zipped
  have key := loop_until (g := mgN (fun _ => false) 2) (b := mSeq (mIfS (mTNot (mTru (mCall PR.mf_is_stretch [] (mCons (mVar 2) (mCons (mVar 1) (mNil)))))) (mRet (mC (.bool false))) (mNext)) (mAsg (fun _ => false) 1 (mBin fAdd (mBin fIx (mVar 2) (mC (.int 1))) (mC (.int 2)))))
    (fun a : D × (Int × Int) => a.1) (fun f ρ => ∃ s, ρ = [x, .val (.int f), s]) stepR (.val (.bool false)) l 1 [x, .val (.int 1), .un] (fun f a ρ ha hw => by
      obtain ⟨s, rfl⟩ := hw
      refine ⟨[x, .val (.int f), .val a.1], by simp, ?_⟩
      have hs := is_stretch_ok (hp a ha) f
      unfold stepR
      by_cases h : f ≤ a.2.1 ∧ a.2.1 ≤ a.2.2
      · rw [if_pos h]
        refine ⟨[x, .val (.int (a.2.2 + 2)), .val a.1], .inl ?_, _, rfl⟩
        have hq := hp a ha
        revert hq hs
        generalize a.1 = d
        generalize a.2 = p at h
        intro hs hq
        cases hq <;> simp [hs, h.1, h.2, atI_1]
      · rw [if_neg h]
        have hb : (decide (f ≤ a.2.1) && decide (a.2.1 ≤ a.2.2)) = false := by simp; intro h1; have := fun h2 => h ⟨h1, h2⟩; omega
        rw [hb] at hs
        exact ⟨_, by simp [hs]; rfl⟩) ⟨_, rfl⟩
  have hok := stepR_ok l 1
  rcases hx with rfl | rfl
  · cases hf : l.foldlM stepR 1 with
    | none =>
      rw [hf] at key hok
      obtain ⟨ρ', e⟩ := key
      rw [← hok]
      simp [mf_is_row, mb_is_row, e, -mLoop]
    | some s' =>
      rw [hf] at key hok
      obtain ⟨ρ', e, _⟩ := key
      rw [← hok]
      simp [mf_is_row, mb_is_row, e, -mLoop]
  · cases hf : l.foldlM stepR 1 with
    | none =>
      rw [hf] at key hok
      obtain ⟨ρ', e⟩ := key
      rw [← hok]
      simp [mf_is_row, mb_is_row, e, -mLoop]
    | some s' =>
      rw [hf] at key hok
      obtain ⟨ρ', e, _⟩ := key
      rw [← hok]
      simp [mf_is_row, mb_is_row, e, -mLoop]
theorem is_row_ok {d : D} {r : RowT} (h : HR d r) : mf_is_row [.val d] = some (.val (.bool (okF 1 r)), [.un]) := by
  cases h with
  | t h => exact is_row_items h _ (.inr rfl)
  | l h => exact is_row_items h _ (.inl rfl)
theorem given_row_ok {d : D} {r : RowT} (h : HR d r) (hr : okF 1 r = true) (hl : r.length ≤ 100000) : mf_given_row [.val d] = some (.own (r.map pairD), [.un]) := by
  have e1 := is_row_ok h
  rw [hr] at e1
  have key : ∀ ds : List D, HA ds r → ∀ x : Sl, (x = .val (.list ds) ∨ x = .val (.tuple ds)) → mComp (miS (mVar 0)) (mgL (fun _ => false) [1, 2]) mTYes (mTup (mCons (mVar 1) (mCons (mVar 2) mNil))) [1, 2] [x, .un, .un] = some (.own (r.map pairD), [x, .un, .un]) := by
    intro ds ha x hx
    obtain ⟨l, rfl, rfl, hp⟩ := ha.zipped
    have e : (l.map (·.2)).map pairD = l.filterMap (fun a => some (pairD a.2)) := by
      rw [List.filterMap_eq_map', List.map_map]
      rfl
    rw [e]
    refine comp_map (fun a : D × (Int × Int) => a.1) _ l (ρ1 := [x, .un, .un]) (by rcases hx with rfl | rfl <;> simp) rfl rfl (fun a ha => ?_) (sizeN (by simpa using hl))
    rcases (hp a ha).shape with e | e <;> rw [e] <;> exact ⟨[x, .val (.int a.2.1), .val (.int a.2.2)], true, _, by simp, rfl, .inr ⟨rfl, .val (pairD a.2), pairD a.2, _, by simp [pairD, sizeN]; rfl, rfl, rfl, rfl⟩⟩
  cases h with
  | t h => simp [mf_given_row, mb_given_row, e1, key _ h _ (.inr rfl), -mComp_ap]
  | l h => simp [mf_given_row, mb_given_row, e1, key _ h _ (.inl rfl), -mComp_ap]
def partsR (p : Int × Int) (x : Int) : RowT := [(p.1, x - 1), (x + 1, p.2)].filter fun q => decide (q.1 ≤ q.2)
def preF (a : RowT) (x : Int) : Int × RowT := match a.getLast? with
  | some q => if q.2 = x - 1 then (q.1, a.dropLast) else (x, a)
  | none => (x, a)
def postF (b : RowT) (x : Int) : Int × RowT := match b with
  | q :: b' => if q.1 = x + 1 then (q.2, b') else (x, b)
  | [] => (x, [])
def flipR (r : RowT) (x : Int) : RowT :=
  if x = 0 then r else
  let a := r.filter fun q => decide (q.2 < x)
  let b := r.filter fun q => decide (x < q.1)
  if a.length + b.length < r.length then a ++ partsR (r.getD a.length (0, 0)) x ++ b
  else
    (preF a x).2 ++ [((preF a x).1, (postF b x).1)] ++ (postF b x).2
theorem atI_nat' {α : Type} {l : List α} {j : Nat} {x : α} (h : l[j]? = some x) : atI l (j : Int) = some x := by
  have hj := (List.getElem?_eq_some_iff.mp h).1
  unfold atI ixN
  rw [if_pos (by omega), if_pos (by omega)]
  simpa using h
theorem atI_end {α : Type} {l : List α} {x : α} (h : l.getLast? = some x) : atI l (-1) = some x := by
  have hl : 0 < l.length := by
    cases l with
    | nil => cases h
    | cons a r => simp
  unfold atI ixN
  rw [if_neg (by omega), if_pos (by omega)]
  rw [List.getLast?_eq_getElem?] at h
  have e : (-1 + (l.length : Int)).toNat = l.length - 1 := by omega
  simpa [e] using h
theorem map_getLast {r : RowT} : (r.map pairD).getLast? = r.getLast?.map pairD := by simp
theorem partsR_len (p : Int × Int) (x : Int) : (partsR p x).length ≤ 2 := by
  unfold partsR
  exact Nat.le_trans (List.length_filter_le _ _) (by simp)
end PR
namespace PR
open PySem L2 Dn
def memR (r : RowT) (p : Int) : Prop := ∃ q ∈ r, q.1 ≤ p ∧ p ≤ q.2
def nextF : Int → RowT → Int
  | f, [] => f
  | _, p :: r => nextF (p.2 + 2) r
theorem okF_cons {f : Int} {p : Int × Int} {r : RowT} : okF f (p :: r) = true ↔ f ≤ p.1 ∧ p.1 ≤ p.2 ∧ okF (p.2 + 2) r = true := by
  simp [okF, and_assoc]
theorem okF_mono : ∀ {r : RowT} {f g : Int}, g ≤ f → okF f r = true → okF g r = true
  | [], _, _, _, _ => rfl
  | p :: r, f, g, h, ok => by
    rw [okF_cons] at ok ⊢
    exact ⟨by omega, ok.2.1, ok.2.2⟩
theorem okF_ge : ∀ {r : RowT} {f : Int} {q : Int × Int}, okF f r = true → q ∈ r → f ≤ q.1 ∧ q.1 ≤ q.2
  | p :: r, f, q, ok, h => by
    rw [okF_cons] at ok
    rcases List.mem_cons.mp h with rfl | h
    · exact ⟨ok.1, ok.2.1⟩
    · have := okF_ge ok.2.2 h
      exact ⟨by omega, this.2⟩
theorem mem_ge {r : RowT} {f p : Int} (ok : okF f r = true) (h : memR r p) : f ≤ p := by
  obtain ⟨q, hq, h1, h2⟩ := h
  have := okF_ge ok hq
  omega
theorem mem_nil {p : Int} : ¬ memR [] p := fun ⟨_, h, _⟩ => by cases h
theorem mem_cons {q : Int × Int} {r : RowT} {p : Int} : memR (q :: r) p ↔ (q.1 ≤ p ∧ p ≤ q.2) ∨ memR r p := by
  constructor
  · rintro ⟨x, hx, h⟩
    rcases List.mem_cons.mp hx with rfl | hx
    · exact .inl h
    · exact .inr ⟨x, hx, h⟩
  · rintro (h | ⟨x, hx, h⟩)
    · exact ⟨q, List.mem_cons_self, h⟩
    · exact ⟨x, List.mem_cons_of_mem _ hx, h⟩
theorem mem_app {a b : RowT} {p : Int} : memR (a ++ b) p ↔ memR a p ∨ memR b p := by
  constructor
  · rintro ⟨x, hx, h⟩
    rcases List.mem_append.mp hx with hx | hx
    · exact .inl ⟨x, hx, h⟩
    · exact .inr ⟨x, hx, h⟩
  · rintro (⟨x, hx, h⟩ | ⟨x, hx, h⟩)
    · exact ⟨x, List.mem_append_left _ hx, h⟩
    · exact ⟨x, List.mem_append_right _ hx, h⟩
theorem okF_app : ∀ {a b : RowT} {f : Int}, okF f (a ++ b) = true ↔ okF f a = true ∧ okF (nextF f a) b = true
  | [], b, f => by simp [okF, nextF]
  | p :: a, b, f => by
    show okF f (p :: (a ++ b)) = true ↔ _
    rw [okF_cons, okF_cons, okF_app]
    simp [nextF, and_assoc]
theorem nextF_app : ∀ (a b : RowT) (f : Int), nextF f (a ++ b) = nextF (nextF f a) b
  | [], b, f => rfl
  | p :: a, b, f => nextF_app a b _
theorem nextF_ge : ∀ {a : RowT} {f : Int}, okF f a = true → f ≤ nextF f a
  | [], f, _ => Int.le_refl f
  | p :: a, f, ok => by
    rw [okF_cons] at ok
    have := nextF_ge ok.2.2
    show f ≤ nextF (p.2 + 2) a
    omega
theorem row_ext : ∀ {r s : RowT} {f g : Int}, okF f r = true → okF g s = true → (∀ p, memR r p ↔ memR s p) → r = s
  | [], [], _, _, _, _, _ => rfl
  | [], q :: s, f, g, _, h2, e => by
    rw [okF_cons] at h2
    exact absurd ((e q.1).mpr (mem_cons.mpr (.inl ⟨Int.le_refl _, h2.2.1⟩))) mem_nil
  | p :: r, [], f, g, h1, _, e => by
    rw [okF_cons] at h1
    exact absurd ((e p.1).mp (mem_cons.mpr (.inl ⟨Int.le_refl _, h1.2.1⟩))) mem_nil
  | p :: r, q :: s, f, g, h1, h2, e => by
    rw [okF_cons] at h1 h2
    have m1 : ∀ {x}, memR r x → p.2 + 2 ≤ x := fun h => mem_ge h1.2.2 h
    have m2 : ∀ {x}, memR s x → q.2 + 2 ≤ x := fun h => mem_ge h2.2.2 h
    have a1 : q.1 ≤ p.1 := by
      rcases mem_cons.mp ((e p.1).mp (mem_cons.mpr (.inl ⟨Int.le_refl _, h1.2.1⟩))) with h | h
      · exact h.1
      · have := m2 h; omega
    have a2 : p.1 ≤ q.1 := by
      rcases mem_cons.mp ((e q.1).mpr (mem_cons.mpr (.inl ⟨Int.le_refl _, h2.2.1⟩))) with h | h
      · exact h.1
      · have := m1 h; omega
    have b1 : ¬ p.2 < q.2 := fun hlt => by
      rcases mem_cons.mp ((e (p.2 + 1)).mpr (mem_cons.mpr (.inl ⟨by omega, by omega⟩))) with h | h
      · omega
      · have := m1 h; omega
    have b2 : ¬ q.2 < p.2 := fun hlt => by
      rcases mem_cons.mp ((e (q.2 + 1)).mp (mem_cons.mpr (.inl ⟨by omega, by omega⟩))) with h | h
      · omega
      · have := m2 h; omega
    have hpq : p = q := by
      obtain ⟨p1, p2⟩ := p
      obtain ⟨q1, q2⟩ := q
      simp only [Prod.mk.injEq]
      simp only at a1 a2 b1 b2
      omega
    subst hpq
    have ht : r = s := row_ext h1.2.2 h2.2.2 fun x => by
      constructor
      · intro h
        have := m1 h
        rcases mem_cons.mp ((e x).mp (mem_cons.mpr (.inr h))) with h' | h'
        · omega
        · exact h'
      · intro h
        have := m2 h
        rcases mem_cons.mp ((e x).mpr (mem_cons.mpr (.inr h))) with h' | h'
        · omega
        · exact h'
    rw [ht]
theorem split_at (x : Int) : ∀ {r : RowT} {f : Int}, okF f r = true →
    (∃ a q b, r = a ++ q :: b ∧ (∀ y ∈ a, y.2 < x) ∧ q.1 ≤ x ∧ x ≤ q.2 ∧ ∀ y ∈ b, x < y.1) ∨ (∃ a b, r = a ++ b ∧ (∀ y ∈ a, y.2 < x) ∧ ∀ y ∈ b, x < y.1)
  | [], f, _ => .inr ⟨[], [], rfl, fun y h => (by cases h), fun y h => (by cases h)⟩
  | p :: r, f, ok => by
    have ok' := ok
    rw [okF_cons] at ok
    by_cases h1 : p.2 < x
    · rcases split_at x ok.2.2 with ⟨a, q, b, rfl, h2, h3⟩ | ⟨a, b, rfl, h2, h3⟩
      · refine .inl ⟨p :: a, q, b, rfl, fun y hy => ?_, h3⟩
        rcases List.mem_cons.mp hy with rfl | hy
        · exact h1
        · exact h2 y hy
      · refine .inr ⟨p :: a, b, rfl, fun y hy => ?_, h3⟩
        rcases List.mem_cons.mp hy with rfl | hy
        · exact h1
        · exact h2 y hy
    · by_cases h2 : p.1 ≤ x
      · refine .inl ⟨[], p, r, rfl, fun y h => (by cases h), h2, by omega, fun y hy => ?_⟩
        have := okF_ge ok.2.2 hy
        omega
      · refine .inr ⟨[], p :: r, rfl, fun y h => (by cases h), fun y hy => ?_⟩
        rcases List.mem_cons.mp hy with rfl | hy
        · omega
        · have := okF_ge ok.2.2 hy
          omega
theorem filter_all {l : RowT} {P : Int × Int → Bool} (h : ∀ y ∈ l, P y = true) : l.filter P = l := List.filter_eq_self.mpr h
theorem filter_no {l : RowT} {P : Int × Int → Bool} (h : ∀ y ∈ l, P y = false) : l.filter P = [] := List.filter_eq_nil_iff.mpr fun y hy => by rw [h y hy]; exact Bool.false_ne_true
theorem filt_ahead {x : Int} {a m b : RowT} (ha : ∀ y ∈ a, y.2 < x) (hm : ∀ y ∈ m, ¬ y.2 < x) (hb : ∀ y ∈ b, ¬ y.2 < x) : (a ++ (m ++ b)).filter (fun q => decide (q.2 < x)) = a := by
  rw [List.filter_append, List.filter_append, filter_all fun y hy => decide_eq_true (ha y hy), filter_no fun y hy => decide_eq_false (hm y hy), filter_no fun y hy => decide_eq_false (hb y hy)]
  simp
theorem filt_behind {x : Int} {a m b : RowT} (ha : ∀ y ∈ a, ¬ x < y.1) (hm : ∀ y ∈ m, ¬ x < y.1) (hb : ∀ y ∈ b, x < y.1) : (a ++ (m ++ b)).filter (fun q => decide (x < q.1)) = b := by
  rw [List.filter_append, List.filter_append, filter_all fun y hy => decide_eq_true (hb y hy), filter_no fun y hy => decide_eq_false (hm y hy), filter_no fun y hy => decide_eq_false (ha y hy)]
  simp
theorem okF_raise {r : RowT} {f g : Int} (ok : okF f r = true) (h : ∀ y ∈ r, g ≤ y.1) : okF g r = true := by
  cases r with
  | nil => rfl
  | cons p r =>
    rw [okF_cons] at ok ⊢
    exact ⟨h p List.mem_cons_self, ok.2⟩
theorem pre_spec {a : RowT} {x : Int} (ok : okF 1 a = true) (hx : 1 ≤ x) (h : ∀ y ∈ a, y.2 < x) :
    ∃ pre f, preF a x = (f, pre) ∧ okF 1 pre = true ∧ nextF 1 pre ≤ f ∧ f ≤ x ∧ (∀ p, (memR pre p ∨ (f ≤ p ∧ p < x)) ↔ memR a p) ∧ pre.length ≤ a.length := by
  rcases List.eq_nil_or_concat a with rfl | ⟨a', q, rfl⟩
  · exact ⟨[], x, rfl, rfl, hx, Int.le_refl x, fun p => ⟨fun z => by rcases z with z | z; exact z; omega, fun z => .inl z⟩, Nat.le_refl _⟩
  · rw [List.concat_eq_append] at *
    rw [okF_app, okF_cons] at ok
    have hq := h q (by simp)
    by_cases c : q.2 = x - 1
    · refine ⟨a', q.1, by simp [preF, c], ok.1, ok.2.1, by omega, fun p => ?_, by simp⟩
      rw [mem_app, mem_cons]
      constructor
      · rintro (z | z)
        · exact .inl z
        · exact .inr (.inl ⟨z.1, by omega⟩)
      · rintro (z | z | z)
        · exact .inl z
        · exact .inr ⟨z.1, by omega⟩
        · exact absurd z mem_nil
    · refine ⟨a' ++ [q], x, by simp [preF, c], by rw [okF_app, okF_cons]; exact ok, ?_, Int.le_refl x, fun p => ⟨fun z => by rcases z with z | z; exact z; omega, fun z => .inl z⟩, Nat.le_refl _⟩
      rw [nextF_app]
      show q.2 + 2 ≤ x
      omega
theorem post_spec {b : RowT} {x g : Int} (ok : okF g b = true) (h : ∀ y ∈ b, x < y.1) :
    ∃ post l, postF b x = (l, post) ∧ x ≤ l ∧ okF (l + 2) post = true ∧ (∀ p, (memR post p ∨ (x < p ∧ p ≤ l)) ↔ memR b p) ∧ post.length ≤ b.length := by
  cases b with
  | nil => exact ⟨[], x, rfl, Int.le_refl x, rfl, fun p => ⟨fun z => by rcases z with z | z; exact z; omega, fun z => .inl z⟩, Nat.le_refl _⟩
  | cons q b' =>
    have hq := h q List.mem_cons_self
    have ok' := ok
    rw [okF_cons] at ok
    by_cases c : q.1 = x + 1
    · refine ⟨b', q.2, by simp [postF, c], by omega, ok.2.2, fun p => ?_, by simp⟩
      rw [mem_cons]
      constructor
      · rintro (z | z)
        · exact .inr z
        · exact .inl ⟨by omega, z.2⟩
      · rintro (z | z)
        · exact .inr ⟨by omega, z.2⟩
        · exact .inl z
    · refine ⟨q :: b', x, by simp [postF, c], Int.le_refl x, okF_raise ok' fun y hy => ?_, fun p => ⟨fun z => by rcases z with z | z; exact z; omega, fun z => .inl z⟩, Nat.le_refl _⟩
      rcases List.mem_cons.mp hy with rfl | hy
      · omega
      · have := okF_ge ok.2.2 hy
        omega
theorem flip_spec {r : RowT} {x : Int} (ok : okF 1 r = true) (hx : 1 ≤ x) : okF 1 (flipR r x) = true ∧ (∀ p, memR (flipR r x) p ↔ (memR r p ↔ p ≠ x)) ∧ (flipR r x).length ≤ r.length + 1 := by
  have hx0 : x ≠ 0 := by omega
  have hge : ∀ y ∈ r, 1 ≤ y.1 ∧ y.1 ≤ y.2 := fun y hy => okF_ge ok hy
  rcases split_at x ok with ⟨a, q, b, rfl, h1, h2, h3, h4⟩ | ⟨a, b, rfl, h1, h4⟩
  · -- the coin lies in q
    have ok' := ok
    rw [okF_app, okF_cons] at ok
    have hA : (a ++ q :: b).filter (fun q => decide (q.2 < x)) = a := filt_ahead (m := [q]) h1 (fun y hy => by have e : y = q := (by simpa using hy); rw [e]; omega) fun y hy => by have := h4 y hy; have := hge y (by simp [hy]); omega
    have hB : (a ++ q :: b).filter (fun q => decide (x < q.1)) = b := filt_behind (m := [q]) (fun y hy => by have := h1 y hy; have := hge y (by simp [hy]); omega) (fun y hy => by have e : y = q := (by simpa using hy); rw [e]; omega) h4
    have hg : (a ++ q :: b).getD a.length (0, 0) = q := by simp
    have e : flipR (a ++ q :: b) x = a ++ partsR q x ++ b := by
      unfold flipR
      rw [if_neg hx0]
      dsimp only
      rw [hA, hB, hg, if_pos (by simp)]
    rw [e]
    have hn : nextF 1 a ≤ q.1 := ok.2.1
    have hp : okF (nextF 1 a) (partsR q x ++ b) = true := by
      have hb1 : okF (x + 2) b = true := okF_raise ok.2.2.2 fun y hy => by
        have := okF_ge ok.2.2.2 hy
        omega
      have hb2 : okF (q.2 + 2) b = true := ok.2.2.2
      have hb3 : okF (nextF 1 a) b = true := okF_mono (by omega) hb2
      have hb4 : okF (x + 1) b = true := okF_mono (by omega) hb2
      have hb5 : okF (x - 1 + 2) b = true := okF_mono (by omega) hb2
      unfold partsR
      by_cases c1 : q.1 ≤ x - 1 <;> by_cases c2 : x + 1 ≤ q.2 <;> simp [List.filter, c1, c2, okF_cons, hb2, hb3, hb4, hb5, hn] <;> first | omega | skip
    refine ⟨by rw [List.append_assoc, okF_app]; exact ⟨ok.1, hp⟩, fun p => ?_, ?_⟩
    · rw [mem_app, mem_app, mem_app, mem_cons]
      have hap : memR a p → p < x := fun ⟨y, hy, z1, z2⟩ => by have := h1 y hy; omega
      have hbp : memR b p → x < p := fun ⟨y, hy, z1, z2⟩ => by have := h4 y hy; omega
      have hpp : memR (partsR q x) p ↔ (q.1 ≤ p ∧ p ≤ q.2 ∧ p ≠ x) := by
        unfold partsR memR
        constructor
        · rintro ⟨y, hy, z1, z2⟩
          have hy' := List.mem_filter.mp hy
          have hc : y = (q.1, x - 1) ∨ y = (x + 1, q.2) := by simpa using hy'.1
          rcases hc with rfl | rfl
          · simp only at z1 z2; omega
          · simp only at z1 z2; omega
        · rintro ⟨z1, z2, z3⟩
          by_cases c : p < x
          · exact ⟨(q.1, x - 1), List.mem_filter.mpr ⟨by simp, by simp; omega⟩, z1, by simp only; omega⟩
          · exact ⟨(x + 1, q.2), List.mem_filter.mpr ⟨by simp, by simp; omega⟩, by simp only; omega, z2⟩
      rw [hpp]
      constructor
      · rintro ((h | h) | h)
        · have := hap h
          exact ⟨fun _ => by omega, fun _ => .inl h⟩
        · exact ⟨fun _ => h.2.2, fun _ => .inr (.inl ⟨h.1, h.2.1⟩)⟩
        · have := hbp h
          exact ⟨fun _ => by omega, fun _ => .inr (.inr h)⟩
      · intro h
        by_cases c : p = x
        · subst c
          exact absurd rfl (h.mp (.inr (.inl ⟨h2, h3⟩)))
        · rcases h.mpr c with h | h | h
          · exact .inl (.inl h)
          · exact .inl (.inr ⟨h.1, h.2, c⟩)
          · exact .inr h
    · have := partsR_len q x
      simp only [List.length_append, List.length_cons]
      omega
  · -- the coin lies in a gap
    rw [okF_app] at ok
    have hA : (a ++ b).filter (fun q => decide (q.2 < x)) = a := filt_ahead (m := []) h1 (fun y hy => (by cases hy)) fun y hy => by have := h4 y hy; have := hge y (by simp [hy]); omega
    have hB : (a ++ b).filter (fun q => decide (x < q.1)) = b := filt_behind (m := []) (fun y hy => by have := h1 y hy; have := hge y (by simp [hy]); omega) (fun y hy => (by cases hy)) h4
    obtain ⟨pre, f, e1, o1, n1, f1, m1, l1⟩ := pre_spec ok.1 hx h1
    obtain ⟨post, l, e2, x2, o2, m2, l2⟩ := post_spec ok.2 h4
    have e : flipR (a ++ b) x = pre ++ [(f, l)] ++ post := by
      unfold flipR
      rw [if_neg hx0]
      dsimp only
      rw [hA, hB, if_neg (by simp), e1, e2]
    rw [e, List.append_assoc]
    refine ⟨?_, fun p => ?_, by simp only [List.length_append, List.length_cons, List.length_nil]; omega⟩
    · rw [okF_app]
      refine ⟨o1, ?_⟩
      show okF (nextF 1 pre) ((f, l) :: post) = true
      rw [okF_cons]
      exact ⟨n1, by show f ≤ l; omega, o2⟩
    · rw [mem_app]
      show memR pre p ∨ memR ((f, l) :: post) p ↔ _
      rw [mem_cons, mem_app, ← m1 p, ← m2 p]
      have hap : memR pre p → p < x := fun z => by
        obtain ⟨y, hy, z1, z2⟩ := (m1 p).mp (.inl z)
        have := h1 y hy
        omega
      have hbp : memR post p → x < p := fun z => by
        obtain ⟨y, hy, z1, z2⟩ := (m2 p).mp (.inl z)
        have := h4 y hy
        omega
      by_cases c : p = x
      · subst c
        constructor
        · rintro _
          refine ⟨fun z => ?_, fun z => absurd rfl z⟩
          rcases z with (z | z) | (z | z)
          · have := hap z; omega
          · omega
          · have := hbp z; omega
          · omega
        · intro _
          exact .inr (.inl ⟨f1, x2⟩)
      · constructor
        · intro z
          refine ⟨fun _ => c, fun _ => ?_⟩
          rcases z with z | z | z
          · exact .inl (.inl z)
          · simp only at z
            by_cases d : p < x
            · exact .inl (.inr ⟨z.1, d⟩)
            · exact .inr (.inr ⟨by omega, z.2⟩)
          · exact .inr (.inl z)
        · intro z
          rcases z.mpr c with (z | z) | (z | z)
          · exact .inl z
          · exact .inr (.inl ⟨z.1, by show p ≤ l; omega⟩)
          · exact .inr (.inr z)
          · exact .inr (.inl ⟨by show f ≤ p; omega, z.2⟩)
end PR
namespace PR
open PySem L2 Dn
inductive HQ : D → RowT → RowT → Prop
  | t {d e : D} {r s : RowT} : HR d r → HR e s → HQ (.tuple [d, e]) r s
  | l {d e : D} {r s : RowT} : HR d r → HR e s → HQ (.list [d, e]) r s
def dPair (r s : RowT) : D := .tuple [dRow r, dRow s]
theorem HQ.of (r s : RowT) : HQ (dPair r s) r s := .t (HR.of_row r) (HR.of_row s)
end PR
namespace LB
open PySem L2 Dn PR
def Sm (b : Int) : Prop := b < 2 ^ 400
def JOK (m : Int) (j : List D) : Prop := ∃ a b c : Int, j = [.int a, .int b, .int c] ∧ 0 ≤ a ∧ 0 ≤ b ∧ Sm b ∧ 0 ≤ c ∧ c ≤ m
theorem JOK.mono {m n : Int} {j : List D} (h : JOK m j) (hm : m ≤ n) : JOK n j := by
  obtain ⟨a, b, c, e, h1, h2, h3, h4, h5⟩ := h
  exact ⟨a, b, c, e, h1, h2, h3, h4, by omega⟩
theorem log2_small {n : Int} {k : Nat} (h0 : 0 ≤ n) (h : n < 2 ^ k) (hk : 0 < k) : n.natAbs.log2 < k := by
  by_cases hz : n.natAbs = 0
  · rw [hz]
    simp [Nat.log2_zero, hk]
  · rw [Nat.log2_lt hz]
    have e : (n.natAbs : Int) = n := Int.natAbs_of_nonneg h0
    have : (n.natAbs : Int) < ((2 ^ k : Nat) : Int) := by
      rw [e, Int.natCast_pow]
      exact h
    exact Int.ofNat_lt.mp this
theorem cDiv_ok {i n : Int} (h0 : 0 < n) (h : Sm n) : cDiv i n = true := by
  have := log2_small (Int.le_of_lt h0) h (by decide)
  simp only [cDiv, Bool.and_eq_true, decide_eq_true_eq]
  exact ⟨h0, by omega⟩
theorem cMod_ok {i n : Int} (h0 : 0 < n) : cMod i n = true := by simp [cMod, h0]
theorem cPow_ok {b : Int} (h0 : 0 ≤ b) (h : Sm b) : cPow b 3 = true := by
  have := log2_small h0 h (by decide)
  simp only [cPow, Bool.and_eq_true, decide_eq_true_eq]
  exact ⟨by decide, by decide, by omega⟩
theorem cMul_ok' {a b : Int} (h0 : 0 ≤ a) (h : Sm a) (h1 : 0 ≤ b) (h2 : Sm b) : cMul a b = true := by
  have := log2_small h0 h (by decide)
  have := log2_small h1 h2 (by decide)
  simp only [cMul, Bool.or_eq_true, decide_eq_true_eq]
  left
  omega
theorem atI_2 {α : Type} (x y z : α) : atI [x, y, z] 2 = some z := rfl
theorem atI_1' {α : Type} (x y z : α) : atI [x, y, z] 1 = some y := rfl
theorem ix0 : ixN 3 0 = some 0 := rfl
theorem ix1 : ixN 3 1 = some 1 := rfl
theorem ix2 : ixN 3 2 = some 2 := rfl
theorem pw18 : cPow 10 18 = true := by decide +kernel
theorem big16 : (10 : Int) ^ 16 ≤ 2 ^ 400 := by decide +kernel
theorem big8 : Sm (10 ^ 8) := by unfold Sm; decide +kernel
theorem t3 : (3 : Int).toNat = 3 := rfl
theorem t8 : (8 : Int).toNat = 8 := rfl
def tenP (n : Nat) : Int := (10 : Int) ^ n
theorem ten_ok {n : Nat} (h : cPow 10 (n : Int) = true) (ρ : List Sl) : mBin (fI cPow fun i j => i ^ j.toNat) (mC (.int 10)) (mC (.int (n : Int))) ρ = some (.val (.int (tenP n)), ρ) := by
  have e : fI cPow (fun i j => i ^ j.toNat) (.val (.int 10)) (.val (.int (n : Int))) = some (.val (.int (tenP n))) := if_pos h
  show (match fI cPow (fun i j => i ^ j.toNat) (.val (.int 10)) (.val (.int (n : Int))) with | none => none | some z => some (z, ρ)) = _
  rw [e]
theorem ten18 (ρ : List Sl) : mBin (fI cPow fun i j => i ^ j.toNat) (mC (.int 10)) (mC (.int 18)) ρ = some (.val (.int (tenP 18)), ρ) := ten_ok (n := 18) pw18 ρ
end LB
namespace Dn
open PySem L2
theorem lay_all : ∀ {ds : List D}, (∀ d ∈ ds, PyData.canLay0 d = true) → PyData.canLayAll0 ds = true
  | [], _ => rfl
  | d :: ds, h => by
    show (PyData.canLay0 d && PyData.canLayAll0 ds) = true
    rw [h d List.mem_cons_self, lay_all fun x hx => h x (List.mem_cons_of_mem _ hx)]
    rfl
theorem depth_all {n : Nat} : ∀ {ds : List D}, (∀ d ∈ ds, PyData.depth d ≤ n) → PyData.depthAll ds ≤ n
  | [], _ => by simp [PyData.depthAll]
  | d :: ds, h => by
    have h1 := h d List.mem_cons_self
    have h2 := depth_all fun x hx => h x (List.mem_cons_of_mem _ hx)
    simp only [PyData.depthAll]
    omega
def Shp (n : Nat) (d : D) : Prop := PyData.canLay0 d = true ∧ PyData.depth d ≤ n
theorem Shp.shaped {n : Nat} {d : D} (h : Shp n d) (hn : n ≤ 64) : SeqAt.shaped d = true := by
  unfold SeqAt.shaped
  rw [h.1, Bool.true_and]
  exact decide_eq_true (by have := h.2; omega)
theorem Shp.int (i : Int) (n : Nat) : Shp n (.int i) := ⟨rfl, by simp [PyData.depth]⟩
theorem Shp.list {n : Nat} {ds : List D} (h : ∀ d ∈ ds, Shp n d) : Shp (n + 1) (.list ds) := ⟨lay_all fun d hd => (h d hd).1, by have := depth_all fun d hd => (h d hd).2; simp only [PyData.depth]; omega⟩
theorem Shp.tuple {n : Nat} {ds : List D} (h : ∀ d ∈ ds, Shp n d) : Shp (n + 1) (.tuple ds) := ⟨lay_all fun d hd => (h d hd).1, by have := depth_all fun d hd => (h d hd).2; simp only [PyData.depth]; omega⟩
theorem Shp.pair (p : Int × Int) : Shp 1 (pairD p) := Shp.tuple fun d hd => by
  rcases List.mem_cons.mp hd with rfl | hd
  · exact Shp.int _ _
  · rcases List.mem_cons.mp hd with rfl | hd
    · exact Shp.int _ _
    · cases hd
theorem Shp.row (r : RowT) : Shp 2 (dRow r) := Shp.list fun d hd => by
  obtain ⟨p, _, rfl⟩ := List.mem_map.mp hd
  exact Shp.pair p
theorem shaped_row (r : RowT) : SeqAt.shaped (.list (r.map pairD)) = true := (Shp.row r).shaped (by decide)
theorem shaped_nil : SeqAt.shaped (.list []) = true := rfl
theorem shaped_ints (ns : List Int) : SeqAt.shaped (.list (ns.map PyData.int)) = true := (Shp.list (n := 0) fun d hd => by
  obtain ⟨p, _, rfl⟩ := List.mem_map.mp hd
  exact Shp.int p 0).shaped (by decide)
theorem eqv_nil (ds : List D) : PyData.eqv (.list ds) (.list []) = ds.isEmpty := by
  cases ds <;> simp [PyData.eqv, PyData.eqvAll]
mutual
theorem eqv_refl : ∀ d : D, PyData.canLay0 d = true → PyData.eqv d d = true
  | .none, _ => by simp [PyData.eqv]
  | .bool b, _ => by simp [PyData.eqv]
  | .int i, _ => by simp [PyData.eqv]
  | .str x, _ => by simp [PyData.eqv]
  | .list xs, h => by
    simp only [PyData.eqv]
    exact eqvAll_refl xs h
  | .tuple xs, h => by
    simp only [PyData.eqv]
    exact eqvAll_refl xs h
  | .dict _, h => by cases h
theorem eqvAll_refl : ∀ ds : List D, PyData.canLayAll0 ds = true → PyData.eqvAll ds ds = true
  | [], _ => by simp [PyData.eqvAll]
  | d :: ds, h => by
    have h2 := Bool.and_eq_true_iff.mp h
    simp only [PyData.eqvAll, eqv_refl d h2.1, eqvAll_refl ds h2.2, Bool.and_self]
end
end Dn
namespace LB
open PySem L2 Dn PR
def hasB (r : RowT) (x : Int) : Bool := r.any fun q => decide (q.1 ≤ x) && decide (x ≤ q.2)
end LB
namespace LB
open PySem L2 Dn PR
theorem okF_posi : ∀ {r : RowT} {f : Int}, okF f r = true → 1 ≤ f → ∀ p ∈ r, 1 ≤ p.1 ∧ p.1 ≤ p.2
  | [], _, _, _, _, hp => by cases hp
  | q :: r, f, h, h1, p, hp => by
    simp only [okF, Bool.and_eq_true, decide_eq_true_eq] at h
    rcases List.mem_cons.mp hp with rfl | hp
    · omega
    · exact okF_posi h.2 (by omega) p hp
end LB
namespace LB
open PySem L2 Dn PR
inductive Ex0 : Nat → D → Prop
  | int {n : Nat} (i : Int) : Ex0 (n + 1) (.int i)
  | str {n : Nat} {x : Str} : PyData.canLay0 (.str x) = true → Ex0 (n + 1) (.str x)
  | lst {n : Nat} {ds : List D} : (∀ d ∈ ds, Ex0 n d) → ds.length ≤ 100000 → Ex0 (n + 1) (.list ds)
  | tup {n : Nat} {ds : List D} : (∀ d ∈ ds, Ex0 n d) → ds.length ≤ 100000 → Ex0 (n + 1) (.tuple ds)
theorem zip_self (ds : List D) : zipD ds ds = ds.map fun d => .tuple [d, d] := by
  unfold zipD
  induction ds with
  | nil => rfl
  | cons d ds ih => simp at ih ⊢; exact ih
theorem all_true (n : Nat) : boolsOf (List.replicate n (PyData.bool true)) = some (List.replicate n true) := by
  induction n with
  | zero => rfl
  | succ n ih => simp [List.replicate_succ, ih]
theorem ex_pair (p : Int × Int) (n : Nat) : Ex0 (n + 2) (pairD p) := .tup (fun d hd => by
  rcases List.mem_cons.mp hd with rfl | hd
  · exact .int _
  · rcases List.mem_cons.mp hd with rfl | hd
    · exact .int _
    · cases hd) (by simp)
theorem ex_row (r : RowT) (n : Nat) (hl : r.length ≤ 100000) : Ex0 (n + 3) (dRow r) := .lst (fun d hd => by
  obtain ⟨p, _, rfl⟩ := List.mem_map.mp hd
  exact ex_pair p n) (by simpa using hl)
theorem ex_two (r s : RowT) (n : Nat) (hl : r.length ≤ 100000) (hm : s.length ≤ 100000) : Ex0 (n + 4) (dPair r s) := .tup (fun d hd => by
  rcases List.mem_cons.mp hd with rfl | hd
  · exact ex_row r n hl
  · rcases List.mem_cons.mp hd with rfl | hd
    · exact ex_row s n hm
    · cases hd) (by simp)
theorem sm_two : Sm 2 := by unfold Sm; decide +kernel
theorem s38 : Sm (tenP 38 + 133) := by unfold Sm tenP; decide +kernel
end LB
namespace LA
open PySem L2 Dn PR LB
def BOK (m : Int) (j : List D) : Prop := ∃ a b c : Int, j = [.int a, .int b, .int c] ∧ 0 ≤ a ∧ 0 ≤ b ∧ b ≤ tenP 44 ∧ 0 ≤ c ∧ c ≤ m
theorem BOK.mono {m n : Int} {j : List D} (h : BOK m j) (hm : m ≤ n) : BOK n j := by
  obtain ⟨a, b, c, e, h1, h2, h3, h4, h5⟩ := h
  exact ⟨a, b, c, e, h1, h2, h3, h4, by omega⟩
theorem pw37 : cPow 10 37 = true := by decide +kernel
theorem pw39 : cPow 10 39 = true := by decide +kernel
theorem p37 : (0 : Int) < tenP 37 + 43 := by unfold tenP; decide +kernel
end LA
namespace LA
open PySem L2 Dn PR LB
theorem sm_lit {n : Int} (h : n ≤ 10 ^ 8) : Sm n := Int.lt_of_le_of_lt h big8
end LA
namespace LA
open PySem L2 Dn PR LB
structure Strip (r : RowT) : Prop where
  ok : okF 1 r = true
  len : r.length ≤ 30
  top : ∀ q ∈ r, q.2 ≤ tenP 40 - 1
end LA
namespace LA
open PySem L2 Dn PR LB
inductive Ex1 : Nat → D → Prop
  | int {n : Nat} (i : Int) : Ex1 (n + 1) (.int i)
  | bl {n : Nat} (b : Bool) : Ex1 (n + 1) (.bool b)
  | str {n : Nat} {x : Str} : PyData.canLay0 (.str x) = true → Ex1 (n + 1) (.str x)
  | lst {n : Nat} {ds : List D} : (∀ d ∈ ds, Ex1 n d) → ds.length ≤ 100000 → Ex1 (n + 1) (.list ds)
  | tup {n : Nat} {ds : List D} : (∀ d ∈ ds, Ex1 n d) → ds.length ≤ 100000 → Ex1 (n + 1) (.tuple ds)
theorem same_items {n : Nat} {ds : List D} (ih : ∀ d ∈ ds, mf__law_same n [.val d, .val d] = some (.val (.bool true), [.un, .un])) (hl : ds.length ≤ 100000) (s : D) (hs : s = .list ds ∨ s = .tuple ds) :
    mComp (miZ (mCons (mVar 0) (mCons (mVar 1) (mNil)))) (mgL (fun _ => false) [2, 3]) (mTYes) (mCall (mf__law_same n) [] (mCons (mVar 2) (mCons (mVar 3) (mNil)))) [2, 3] [.val s, .val s, .un, .un]
      = some (.own (List.replicate ds.length (PyData.bool true)), [.val s, .val s, .un, .un]) := by
  have e : List.replicate ds.length (PyData.bool true) = ds.filterMap (fun _ => some (PyData.bool true)) := by
    clear hs hl ih
    induction ds with
    | nil => rfl
    | cons d ds ih => simp [List.replicate_succ] at ih ⊢; exact ih
  rw [e]
  refine comp_map (fun d => PyData.tuple [d, d]) _ ds (ρ1 := [.val s, .val s, .un, .un]) (by rcases hs with rfl | rfl <;> simp [zip_self]) rfl rfl (fun d hd => ?_) (sizeN hl)
  exact ⟨[.val s, .val s, .val d, .val d], true, _, by simp, rfl, .inr ⟨rfl, .val (.bool true), _, _, by simp [ih d hd]; rfl, rfl, rfl, rfl⟩⟩
theorem same_ok : ∀ {n : Nat} {d : D}, Ex1 n d → mf__law_same n [.val d, .val d] = some (.val (.bool true), [.un, .un]) := by
  intro n
  induction n with
  | zero => intro d h; cases h
  | succ n ih =>
    intro d h
    cases h with
    | int i => simp [mf__law_same, mb__law_same, shaped_bool, shaped_int, eqv_bool, eqv_int, PyData.eqv]
    | bl b => simp [mf__law_same, mb__law_same, shaped_bool, shaped_int, eqv_bool, eqv_int, PyData.eqv]
    | str hx =>
      have hs : ∀ x : Str, PyData.canLay0 (.str x) = true → SeqAt.shaped (.str x) = true := fun x h => Shp.shaped (n := 0) ⟨h, by simp [PyData.depth]⟩ (by decide)
      simp [mf__law_same, mb__law_same, shaped_bool, shaped_int, eqv_bool, eqv_int, hs _ hx, PyData.eqv]
    | @lst _ ds hd hl =>
      have key := same_items (fun d hd' => ih (hd d hd')) hl (.list ds) (.inl rfl)
      have hz : ds.length ≤ sizeLine := sizeN hl
      simp [mf__law_same, mb__law_same, shaped_bool, shaped_int, eqv_bool, eqv_int, key, all_true, -mComp_ap]
    | @tup _ ds hd hl =>
      have key := same_items (fun d hd' => ih (hd d hd')) hl (.tuple ds) (.inr rfl)
      simp [mf__law_same, mb__law_same, shaped_bool, shaped_int, eqv_bool, eqv_int, key, all_true, -mComp_ap]
theorem ex1_pair (p : Int × Int) (n : Nat) : Ex1 (n + 2) (pairD p) := .tup (fun d hd => by
  rcases List.mem_cons.mp hd with rfl | hd
  · exact .int _
  · rcases List.mem_cons.mp hd with rfl | hd
    · exact .int _
    · cases hd) (by simp)
theorem ex1_row (r : RowT) (n : Nat) (hl : r.length ≤ 100000) : Ex1 (n + 3) (dRow r) := .lst (fun d hd => by
  obtain ⟨p, _, rfl⟩ := List.mem_map.mp hd
  exact ex1_pair p n) (by simpa using hl)
theorem same_row (r : RowT) (hl : r.length ≤ 100000) : mf__law_same 6 [.val (dRow r), .val (dRow r)] = some (.val (.bool true), [.un, .un]) := same_ok (ex1_row r 3 hl)
end LA
namespace PR
open PySem L2 Dn
theorem flip_top {r : RowT} {x T : Int} (ok : okF 1 r = true) (hx : 0 ≤ x) (hT : ∀ q ∈ r, q.2 ≤ T) (hxT : x ≤ T) : ∀ q ∈ flipR r x, q.2 ≤ T := by
  by_cases h0 : x = 0
  · subst h0
    simpa [flipR] using hT
  · obtain ⟨o, hm, _⟩ := flip_spec ok (show 1 ≤ x by omega)
    intro q hq
    have hg := okF_ge o hq
    have h1 : memR (flipR r x) q.2 := ⟨q, hq, hg.2, Int.le_refl _⟩
    rw [hm] at h1
    by_cases e : q.2 = x
    · omega
    · obtain ⟨y, hy, _, z⟩ := h1.mpr e
      have := hT y hy
      omega
theorem flip_ok1 {r : RowT} {x : Int} (ok : okF 1 r = true) (hx : 0 ≤ x) : okF 1 (flipR r x) = true ∧ (flipR r x).length ≤ r.length + 1 := by
  by_cases h0 : x = 0
  · subst h0
    simpa [flipR] using ok
  · have := flip_spec ok (show 1 ≤ x by omega)
    exact ⟨this.1, this.2.2⟩
end PR
namespace Dn
open PySem L2
def okS (x : Str) : Prop := PyData.canLay0 (.str x) = true
theorem okS_iff {x : Str} : okS x ↔ ∀ c ∈ x.cps.toList, c < 1114112 := by
  show x.cps.all (· < 0x110000) = true ↔ _
  rw [← Array.all_toList, List.all_eq_true]
  exact ⟨fun h c hc => of_decide_eq_true (h c hc), fun h c hc => decide_eq_true (h c hc)⟩
theorem okS_app {x y : Str} (h : okS x) (h2 : okS y) : okS (x ++ y) := by
  rw [okS_iff] at *
  intro c hc
  have e : (x ++ y).cps.toList = x.cps.toList ++ y.cps.toList := Array.toList_append
  rw [e] at hc
  exact (List.mem_append.mp hc).elim (h c) (h2 c)
theorem okS_of (s : String) : okS (Str.ofString s) := by
  rw [okS_iff, Str.ofString_eq_toList]
  intro c hc
  have e : ((⟨(s.toList.map Char.toNat).toArray⟩ : Str).cps.toList) = s.toList.map Char.toNat := rfl
  rw [e] at hc
  obtain ⟨ch, _, rfl⟩ := List.mem_map.mp hc
  have := ch.valid
  have h2 : ch.toNat < 1114112 := by
    rcases this with h | h
    · exact Nat.lt_trans h (by decide)
    · exact h.2
  exact h2
theorem okS_from : ∀ (ts : List Str) (k : Nat) (acc : Str), okS acc → (∀ t ∈ ts, okS t) → okS (textFrom k acc ts)
  | [], _, _, h, _ => h
  | t :: ts, k, acc, h, ht => okS_from ts (k + 1) _ (okS_app (okS_app h (okS_of _)) (ht t List.mem_cons_self)) fun x hx => ht x (List.mem_cons_of_mem _ hx)
theorem okS_join (sep : Str) (hs : okS sep) : ∀ (ts : List Str), (∀ t ∈ ts, okS t) → okS (Str.join sep ts)
  | [], _ => okS_of ""
  | [t], h => h t List.mem_cons_self
  | t :: u :: ts, h => okS_app (okS_app (h t List.mem_cons_self) hs) (okS_join sep hs (u :: ts) fun x hx => h x (List.mem_cons_of_mem _ hx))
theorem okS_list {ts : List Str} (h : ∀ t ∈ ts, okS t) : okS (listText ts) := okS_app (okS_from ts 0 _ (okS_of _) h) (okS_of _)
theorem okS_tuple {ts : List Str} (h : ∀ t ∈ ts, okS t) : okS (tupleText ts) := by
  unfold tupleText
  exact okS_app (okS_app (okS_of _) (okS_join _ (okS_of _) ts h)) (by split <;> exact okS_of _)
theorem shown_all {ds : List D} (h : ∀ d ∈ ds, okS d.shown) : ∀ t ∈ PyData.shownAll ds, okS t := by
  induction ds with
  | nil => intro t ht; cases ht
  | cons d ds ih =>
    intro t ht
    have e : PyData.shownAll (d :: ds) = d.shown :: PyData.shownAll ds := rfl
    rw [e] at ht
    rcases List.mem_cons.mp ht with rfl | ht
    · exact h d List.mem_cons_self
    · exact ih (fun x hx => h x (List.mem_cons_of_mem _ hx)) t ht
structure Shw (n w : Nat) (d : D) : Prop where
  lay : PyData.canLay0 d = true
  show_ : PyData.showable d = true
  dep : PyData.depth d ≤ n
  leaf : PyData.leavesShort 64 d = true
  wt : PyData.weight d ≤ w
  txt : okS d.shown
structure ShwA (n w : Nat) (ds : List D) : Prop where
  lay : PyData.canLayAll0 ds = true
  show_ : PyData.showableAll ds = true
  dep : PyData.depthAll ds ≤ n
  leaf : PyData.leavesShortAll 64 ds = true
  wt : PyData.weightAll ds ≤ (w + 1) * ds.length
  txt : ∀ d ∈ ds, okS d.shown
theorem ShwA.mk' {n w : Nat} : ∀ {ds : List D}, (∀ d ∈ ds, Shw n w d) → ShwA n w ds
  | [], _ => ⟨rfl, rfl, by simp [PyData.depthAll], rfl, by simp [PyData.weightAll], fun d h => nomatch h⟩
  | d :: ds, h => by
    have h1 := h d List.mem_cons_self
    have h2 := ShwA.mk' fun x hx => h x (List.mem_cons_of_mem _ hx)
    refine ⟨?_, ?_, ?_, ?_, ?_, ?_⟩
    · show (PyData.canLay0 d && PyData.canLayAll0 ds) = true
      rw [h1.lay, h2.lay]; rfl
    · show (PyData.showable d && PyData.showableAll ds) = true
      rw [h1.show_, h2.show_]; rfl
    · have := h1.dep; have := h2.dep
      simp only [PyData.depthAll]; omega
    · simp only [PyData.leavesShortAll, h1.leaf, h2.leaf, Bool.and_self]
    · have := h1.wt; have := h2.wt
      simp only [PyData.weightAll, List.length_cons]
      rw [Nat.mul_succ]
      omega
    · intro x hx
      rcases List.mem_cons.mp hx with rfl | hx
      · exact h1.txt
      · exact h2.txt x hx
theorem Shw.list {n w : Nat} {ds : List D} (h : ∀ d ∈ ds, Shw n w d) : Shw (n + 1) ((w + 1) * ds.length) (.list ds) := by
  have a := ShwA.mk' h
  exact ⟨a.lay, a.show_, by have := a.dep; simp only [PyData.depth]; omega, by simp only [PyData.leavesShort]; exact a.leaf, by simp only [PyData.weight]; exact a.wt, by simp only [PyData.shown]; exact okS_list (shown_all a.txt)⟩
theorem Shw.tuple {n w : Nat} {ds : List D} (h : ∀ d ∈ ds, Shw n w d) : Shw (n + 1) ((w + 1) * ds.length) (.tuple ds) := by
  have a := ShwA.mk' h
  exact ⟨a.lay, a.show_, by have := a.dep; simp only [PyData.depth]; omega, by simp only [PyData.leavesShort]; exact a.leaf, by simp only [PyData.weight]; exact a.wt, by simp only [PyData.shown]; exact okS_tuple (shown_all a.txt)⟩
theorem Shw.up {n m w u : Nat} {d : D} (h : Shw n w d) (hn : n ≤ m) (hw : w ≤ u) : Shw m u d := ⟨h.lay, h.show_, Nat.le_trans h.dep hn, h.leaf, Nat.le_trans h.wt hw, h.txt⟩
theorem Shw.ok {n w : Nat} {d : D} (h : Shw n w d) (hn : n ≤ 40) (hw : w ≤ 200000) : reprOk d = true ∧ SeqAt.shaped (.str d.shown) = true := by
  have hl := PyData.shown_le 64 (by decide) d h.leaf
  have hs : d.shown.length ≤ sizeLine := by
    have e : sizeLine = 16777216 := by decide
    have := h.wt
    rw [e]
    omega
  constructor
  · unfold reprOk
    rw [h.lay, h.show_, decide_eq_true (Nat.le_trans h.dep hn), decide_eq_true hs]
    rfl
  · exact Shp.shaped (n := 0) ⟨h.txt, by simp [PyData.depth]⟩ (by decide)
open LB in
theorem Shw.int {i : Int} (h0 : 0 ≤ i) (h : i ≤ tenP 41) : Shw 0 400 (.int i) := by
  have h2 : i < 2 ^ 400 := Int.lt_of_le_of_lt h (by unfold tenP; decide +kernel)
  have hlog := log2_small h0 h2 (by decide)
  have h10 : i.natAbs < 10 ^ 60 := by
    have e : (i.natAbs : Int) = i := Int.natAbs_of_nonneg h0
    have h4 : tenP 41 < ((10 ^ 60 : Nat) : Int) := by unfold tenP; decide +kernel
    have h5 : (i.natAbs : Int) < ((10 ^ 60 : Nat) : Int) := by rw [e]; exact Int.lt_of_le_of_lt h h4
    exact Int.ofNat_lt.mp h5
  refine ⟨rfl, ?_, by simp [PyData.depth], ?_, ?_, okS_of _⟩
  · simp only [PyData.showable, decide_eq_true_eq]
    omega
  · have hlen := int_text_length_le10 (k := 60) (by decide) h10
    have e2 : (PyData.shown (.int i)).length ≤ 64 := by
      show (Str.ofString (toString i)).length ≤ 64
      rw [ofString_length]
      omega
    simp only [PyData.leavesShort, decide_eq_true_eq]
    exact e2
  · simp only [PyData.weight]
    split <;> omega
end Dn
namespace LA
open PySem L2 Dn PR LB
theorem Strip.places {r : RowT} (h : Strip r) : ∀ q ∈ r, 0 ≤ q.1 ∧ q.1 ≤ q.2 ∧ q.2 ≤ tenP 41 := fun q hq => by
  have h1 := okF_ge h.ok hq
  have h2 := h.top q hq
  have h3 : tenP 40 ≤ tenP 41 := by unfold tenP; decide +kernel
  omega
end LA
namespace PR
open PySem L2 Dn
def lastE (r : RowT) : Int := match r.getLast? with
  | some q => q.2
  | none => 0
theorem last_of_ok (r : RowT) : mf_last_of [.val (dRow r)] = some (.val (.int (lastE r)), [.un]) := by
  unfold lastE dRow
  cases hg : r.getLast? with
  | none =>
    have hnil : r = [] := by simpa using hg
    subst hnil
    simp [mf_last_of, mb_last_of]
  | some q =>
    have hne : (r.map pairD).isEmpty = false := by
      cases r with
      | nil => cases hg
      | cons a r => rfl
    have hat : atI (r.map pairD) (-1) = some (pairD q) := atI_end (by rw [map_getLast, hg]; rfl)
    simp [mf_last_of, mb_last_of, hne, hat, pairD, atI_1, -List.isEmpty_map]
def gaps : Int → RowT → RowT
  | _, [] => []
  | f, q :: r => (if f < q.1 then [(f, q.1 - 1)] else []) ++ gaps (q.2 + 1) r
def lowR : Int → RowT → Int
  | f, [] => f
  | _, q :: r => lowR (q.2 + 1) r
def allGaps (r : RowT) (n : Int) : RowT := gaps 1 r ++ (if lowR 1 r ≤ n then [(lowR 1 r, n)] else [])
end PR
namespace PR
open PySem L2 Dn LB
def termR (q : Int × Int) : Int := (q.1 + q.2) * (q.2 - q.1 + 1)
def addR (r : RowT) : Int := (r.map fun q => termR q / 2).sum
theorem even_term (q : Int × Int) : 2 * (termR q / 2) = termR q := by
  unfold termR
  have h : ((q.1 + q.2) * (q.2 - q.1 + 1)) % 2 = 0 := by
    have h1 : (q.1 + q.2) % 2 = 0 ∨ (q.2 - q.1 + 1) % 2 = 0 := by omega
    rcases h1 with h1 | h1
    · rw [Int.mul_emod, h1]; simp
    · rw [Int.mul_emod, h1]; simp
  omega
end PR
namespace PR
open PySem L2 Dn LB
theorem cnt_cons (q : Int × Int) (b : RowT) : cnt (q :: b) = (q.2 - q.1 + 1) + cnt b := by simp [cnt]
theorem lastE_ge : ∀ {r : RowT} {f : Int}, okF f r = true → ∀ q ∈ r, q.2 ≤ lastE r
  | [], f, _, q, h => nomatch h
  | p :: r, f, ok, q, h => by
    rw [okF_cons] at ok
    unfold lastE
    cases r with
    | nil =>
      rw [List.mem_singleton.mp h]
      exact Int.le_refl _
    | cons p2 r =>
      have e : (p :: p2 :: r).getLast? = (p2 :: r).getLast? := by simp
      rw [e]
      have ih := lastE_ge ok.2.2
      unfold lastE at ih
      rcases List.mem_cons.mp h with rfl | h
      · have i1 := ih p2 List.mem_cons_self
        have o2 := ok.2.2
        rw [okF_cons] at o2
        omega
      · exact ih q h
end PR
namespace PR
open PySem L2 Dn LB
def sumS (S : Int → Int) (r : RowT) : Int := (r.map fun q => S q.2 - S (q.1 - 1)).sum
theorem sumS_cons (S : Int → Int) (q : Int × Int) (r : RowT) : sumS S (q :: r) = (S q.2 - S (q.1 - 1)) + sumS S r := by simp [sumS]
theorem cnt_S (r : RowT) : cnt r = sumS (fun p => p) r := by
  induction r with
  | nil => rfl
  | cons q r ih =>
    rw [cnt_cons, sumS_cons, ih]
    omega
def tri (p : Int) : Int := p * (p + 1) / 2
theorem two_tri (p : Int) : 2 * tri p = p * (p + 1) := by
  unfold tri
  have h : (p * (p + 1)) % 2 = 0 := by
    have h1 : p % 2 = 0 ∨ (p + 1) % 2 = 0 := by omega
    rcases h1 with h1 | h1
    · rw [Int.mul_emod, h1]; simp
    · rw [Int.mul_emod, h1]; simp
  omega
theorem term_tri (q : Int × Int) : termR q / 2 = tri q.2 - tri (q.1 - 1) := by
  have h1 := even_term q
  have h2 := two_tri q.2
  have h3 := two_tri (q.1 - 1)
  have h4 : termR q = q.2 * (q.2 + 1) - (q.1 - 1) * (q.1 - 1 + 1) := by unfold termR; grind
  omega
theorem add_S (r : RowT) : addR r = sumS tri r := by
  unfold addR sumS
  congr 1
  exact List.map_congr_left fun q _ => term_tri q
def low (y p : Int) : Int := if p ≤ y then p else y
theorem hasB_app (a b : RowT) (x : Int) : hasB (a ++ b) x = (hasB a x || hasB b x) := by simp [hasB]
theorem hasB_cons (q : Int × Int) (b : RowT) (x : Int) : hasB (q :: b) x = ((decide (q.1 ≤ x) && decide (x ≤ q.2)) || hasB b x) := by simp [hasB]
theorem hasB_iff {r : RowT} {x : Int} : hasB r x = true ↔ memR r x := by
  unfold hasB memR
  simp
theorem hasB_not {r : RowT} {x : Int} (h : ¬ memR r x) : hasB r x = false := by
  cases e : hasB r x with
  | false => rfl
  | true => exact absurd (hasB_iff.mp e) h
theorem low_ge {y p : Int} (h : p ≤ y) : low y p = p := if_pos h
theorem low_lt {y p : Int} (h : y ≤ p) : low y p = y := by unfold low; split <;> omega
end PR
namespace PR
open PySem L2 Dn LB
theorem low_last : ∀ {r : RowT} {f : Int}, okF f r = true → lowR f r = if r = [] then f else lastE r + 1
  | [], f, _ => by simp [lowR]
  | [q], f, _ => by simp [lowR, lastE]
  | q :: p :: r, f, ok => by
    rw [okF_cons] at ok
    have ih := low_last ok.2.2
    have e : lowR (q.2 + 2) (p :: r) = lowR (q.2 + 1) (p :: r) := rfl
    have e2 : lastE (q :: p :: r) = lastE (p :: r) := by simp [lastE]
    show lowR (q.2 + 1) (p :: r) = _
    rw [← e, ih, e2]
    simp
theorem low_le {r : RowT} {n : Int} (ok : okF 1 r = true) (hn : lastE r ≤ n) (h0 : 0 ≤ n) : lowR 1 r ≤ n + 1 := by
  rw [low_last ok]
  split <;> omega
theorem gaps_ok : ∀ {r : RowT} {f : Int}, okF f r = true → okF f (gaps f r) = true ∧ nextF f (gaps f r) ≤ lowR f r + 1 ∧ f ≤ lowR f r ∧ (r ≠ [] → nextF f (gaps f r) ≤ lowR f r)
  | [], f, _ => ⟨rfl, by show f ≤ f + 1; omega, Int.le_refl f, fun h => absurd rfl h⟩
  | q :: r, f, ok => by
    rw [okF_cons] at ok
    obtain ⟨h1, h2, h3, h4⟩ := gaps_ok (okF_mono (by omega) ok.2.2 : okF (q.2 + 1) r = true)
    have hlow : lowR f (q :: r) = lowR (q.2 + 1) r := rfl
    have hnx : nextF (q.2 + 1) (gaps (q.2 + 1) r) ≤ lowR (q.2 + 1) r := by
      by_cases c : r = []
      · subst c
        exact Int.le_refl _
      · exact h4 c
    have hg : gaps f (q :: r) = (if f < q.1 then [(f, q.1 - 1)] else []) ++ gaps (q.2 + 1) r := rfl
    rw [hlow, hg]
    by_cases c : f < q.1
    · rw [if_pos c, okF_app, okF_cons, nextF_app]
      have hf : nextF f [(f, q.1 - 1)] = q.1 - 1 + 2 := rfl
      rw [hf]
      have hm : nextF (q.1 - 1 + 2) (gaps (q.2 + 1) r) ≤ lowR (q.2 + 1) r := by
        cases hgr : gaps (q.2 + 1) r with
        | nil =>
          show q.1 - 1 + 2 ≤ _
          omega
        | cons y l =>
          rw [hgr] at hnx
          exact hnx
      refine ⟨⟨⟨Int.le_refl _, by show f ≤ q.1 - 1; omega, rfl⟩, okF_mono (by omega) h1⟩, by omega, by omega, fun _ => hm⟩
    · rw [if_neg c, List.nil_append]
      have hm : nextF f (gaps (q.2 + 1) r) ≤ lowR (q.2 + 1) r := by
        cases hgr : gaps (q.2 + 1) r with
        | nil =>
          show f ≤ _
          omega
        | cons y l =>
          rw [hgr] at hnx
          exact hnx
      exact ⟨okF_mono (by omega) h1, by omega, by omega, fun _ => hm⟩
theorem next_end : ∀ {r : RowT} {f : Int}, okF f r = true → ∀ q ∈ r, q.2 + 2 ≤ nextF f r
  | p :: r, f, ok, q, h => by
    rw [okF_cons] at ok
    show q.2 + 2 ≤ nextF (p.2 + 2) r
    rcases List.mem_cons.mp h with rfl | h
    · exact nextF_ge ok.2.2
    · exact next_end ok.2.2 q h
theorem all_ok {r : RowT} {n : Int} (ok : okF 1 r = true) (hn : lastE r ≤ n) (h0 : 0 ≤ n) : okF 1 (allGaps r n) = true ∧ ∀ q ∈ allGaps r n, q.2 ≤ n := by
  obtain ⟨h1, h2, h3, h4⟩ := gaps_ok ok
  have hl := low_le ok hn h0
  have hend : ∀ q ∈ gaps 1 r, q.2 ≤ n := fun q hq => by
    have := next_end h1 q hq
    omega
  unfold allGaps
  by_cases c : lowR 1 r ≤ n
  · rw [if_pos c]
    have hnx : nextF 1 (gaps 1 r) ≤ lowR 1 r := by
      by_cases e : r = []
      · subst e
        exact Int.le_refl _
      · exact h4 e
    refine ⟨?_, fun q hq => ?_⟩
    · rw [okF_app, okF_cons]
      exact ⟨h1, hnx, c, rfl⟩
    · rcases List.mem_append.mp hq with hq | hq
      · exact hend q hq
      · rw [List.mem_singleton.mp hq]
        exact Int.le_refl _
  · rw [if_neg c, List.append_nil]
    exact ⟨h1, hend⟩
end PR
namespace TL
abbrev Row := List Bool
abbrev Kind := Bool × Bool
def put (r c : Bool) (A : Row) : Row := if r then c :: A else A ++ [c]
def wrap (k f : Kind) (P : Row × Row) : Row × Row := (put k.1 f.2 P.1, put k.2 f.1 P.2)
def evenK (k : Kind) : Bool := k.1 == k.2
def opp (k : Kind) : Kind := (!k.1, !k.2)
def near : Kind → Kind
  | (false, false) => (false, true)
  | (true, true) => (true, false)
  | _ => (false, false)
def rungs : List Bool → Nat × Nat
  | [] => (1, 1)
  | c :: T => let x := rungs T; if c then (x.1 + 2 * x.2, x.2) else (x.1, x.2 + 2 * x.1)
def num (k : Kind) (T : List Bool) : Nat := if evenK k then (rungs T).1 else (rungs T).2
def coin (k f : Kind) : Bool := evenK k != (k == f)
def contra (k f : Kind) : Bool := if f == opp k then evenK k else if f == k then false else (k == (true, false)) || (f == (true, false))
def begins (k f : Kind) (x : Nat × Nat) : Nat :=
  if f == k then 0 else if f == opp k then (if evenK k then x.2 else x.1) else if f == near k then 0 else x.1 + x.2
def turnd (c : Bool) (m i : Nat) : Nat := if c then m - 1 - i else i
def pairAt : Kind → List Bool → Nat → Row × Row
  | _, [], _ => ([], [])
  | k, c :: T, i =>
    if c == coin k k then wrap k k (pairAt k T i)
    else
      let o := num (near k) T
      let m := num k T
      let f := if i < o then near k else if i < o + m then opp k else opp (near k)
      wrap k f (pairAt f T (turnd (contra k f) (num f T) (i - begins k f (rungs T))))
def take (r : Bool) (A : Row) : Bool × Row := if r then (A.headD false, A.tail) else (A.getLastD false, A.dropLast)
def loc : Nat → Kind → Row × Row → List Bool × Nat
  | 0, _, _ => ([], 0)
  | n + 1, k, P =>
    let a := take k.1 P.1
    let b := take k.2 P.2
    let f := (b.1, a.1)
    let x := loc n f (a.2, b.2)
    (coin k f :: x.1, begins k f (rungs x.1) + turnd (contra k f) (num f x.1) x.2)
theorem rungs_pos : ∀ T, 1 ≤ (rungs T).1 ∧ 1 ≤ (rungs T).2
  | [] => by simp [rungs]
  | c :: T => by
    have := rungs_pos T
    cases c <;> simp [rungs] <;> omega
theorem num_pos (k : Kind) (T : List Bool) : 1 ≤ num k T := by
  have := rungs_pos T
  unfold num
  split <;> omega
theorem rungs_odd : ∀ T, (rungs T).1 % 2 = 1 ∧ (rungs T).2 % 2 = 1
  | [] => by simp [rungs]
  | c :: T => by
    have := rungs_odd T
    cases c <;> simp [rungs] <;> omega
theorem num_odd (k : Kind) (T : List Bool) : num k T % 2 = 1 := by
  have := rungs_odd T
  unfold num
  split <;> omega
theorem take_put (r c : Bool) (A : Row) : take r (put r c A) = (c, A) := by
  cases r <;> simp [take, put, List.getLastD_eq_getLast?]
theorem put_take (r : Bool) {A : Row} (h : A ≠ []) : put r (take r A).1 (take r A).2 = A := by
  cases r
  · simp only [take, put, Bool.false_eq_true, if_false]
    rw [List.getLastD_eq_getLast?, List.getLast?_eq_some_getLast h]
    exact List.dropLast_concat_getLast h
  · cases A with
    | nil => exact absurd rfl h
    | cons a A => simp [take, put]
theorem put_len (r c : Bool) (A : Row) : (put r c A).length = A.length + 1 := by
  cases r <;> simp [put]
theorem take_len (r : Bool) (A : Row) : (take r A).2.length = A.length - 1 := by
  cases r <;> simp [take]
theorem pairAt_len : ∀ (T : List Bool) (k : Kind) (i : Nat), (pairAt k T i).1.length = T.length ∧ (pairAt k T i).2.length = T.length
  | [], _, _ => by simp [pairAt]
  | c :: T, k, i => by
    simp only [pairAt]
    split
    · have := pairAt_len T k i
      simp [wrap, put_len, this]
    · simp [wrap, put_len, pairAt_len T]
theorem loc_len : ∀ (n : Nat) (k : Kind) (P : Row × Row), (loc n k P).1.length = n
  | 0, _, _ => rfl
  | n + 1, k, P => by simp [loc, loc_len n]
theorem turnd_twice {c : Bool} {m i : Nat} (h : i < m) : turnd c m (turnd c m i) = i := by
  cases c <;> simp [turnd]
  omega
theorem turnd_lt {c : Bool} {m i : Nat} (h : i < m) : turnd c m i < m := by
  cases c <;> simp [turnd] <;> omega
theorem num_opp (k : Kind) (T : List Bool) : num (opp k) T = num k T := by
  obtain ⟨r, s⟩ := k
  cases r <;> cases s <;> rfl
theorem num_cons (k : Kind) (c : Bool) (T : List Bool) : num k (c :: T) = if c == coin k k then num k T else num k T + 2 * num (near k) T := by
  obtain ⟨r, s⟩ := k
  cases r <;> cases s <;> cases c <;> simp [num, evenK, rungs, coin, near]
theorem num_near (k : Kind) (T : List Bool) : num (opp (near k)) T = num (near k) T := num_opp _ T
theorem begins_near (k : Kind) (x : Nat × Nat) : begins k (near k) x = 0 := by
  obtain ⟨r, s⟩ := k
  cases r <;> cases s <;> simp [begins, near, opp]
theorem begins_opp (k : Kind) (T : List Bool) : begins k (opp k) (rungs T) = num (near k) T := by
  obtain ⟨r, s⟩ := k
  cases r <;> cases s <;> simp [begins, near, opp, num, evenK]
theorem begins_far (k : Kind) (T : List Bool) : begins k (opp (near k)) (rungs T) = num (near k) T + num k T := by
  obtain ⟨r, s⟩ := k
  cases r <;> cases s <;> simp [begins, near, opp, num, evenK] <;> omega
theorem coin_near (k : Kind) : (coin k (near k) == coin k k) = false := by
  obtain ⟨r, s⟩ := k
  cases r <;> cases s <;> decide
theorem coin_opp (k : Kind) : (coin k (opp k) == coin k k) = false := by
  obtain ⟨r, s⟩ := k
  cases r <;> cases s <;> decide
theorem coin_far (k : Kind) : (coin k (opp (near k)) == coin k k) = false := by
  obtain ⟨r, s⟩ := k
  cases r <;> cases s <;> decide
theorem four (k f : Kind) : f = k ∨ f = near k ∨ f = opp k ∨ f = opp (near k) := by
  obtain ⟨r, s⟩ := k
  obtain ⟨t, u⟩ := f
  cases r <;> cases s <;> cases t <;> cases u <;> decide
theorem loc_wrap (n : Nat) (k f : Kind) (P : Row × Row) : loc (n + 1) k (wrap k f P) =
    (coin k f :: (loc n f P).1, begins k f (rungs (loc n f P).1) + turnd (contra k f) (num f (loc n f P).1) (loc n f P).2) := by
  simp only [loc, wrap, take_put]
theorem coin_of_ne {c : Bool} {k f : Kind} (h : (c == coin k k) = false) (hf : (coin k f == coin k k) = false) : coin k f = c := by
  cases c <;> cases h1 : coin k k <;> cases h2 : coin k f <;> simp_all
theorem loc_pairAt : ∀ (T : List Bool) (k : Kind) (i : Nat), i < num k T → loc T.length k (pairAt k T i) = (T, i)
  | [], k, i, h => by
    obtain ⟨r, s⟩ := k
    have : i = 0 := by
      cases r <;> cases s <;> simp [num, evenK, rungs] at h <;> omega
    subst this
    rfl
  | c :: T, k, i, h => by
    rw [num_cons] at h
    simp only [pairAt, List.length_cons]
    cases hc : c == coin k k
    · rw [hc] at h
      simp only [Bool.false_eq_true, if_false] at h ⊢
      have ho := num_near k T
      have hm := num_opp k T
      by_cases h1 : i < num (near k) T
      · simp only [h1, if_true]
        rw [begins_near, Nat.sub_zero, loc_wrap, loc_pairAt T _ _ (turnd_lt h1), begins_near, turnd_twice h1, coin_of_ne hc (coin_near k), Nat.zero_add]
      · by_cases h2 : i < num (near k) T + num k T
        · simp only [h1, h2, if_true, if_false]
          have h3 : i - num (near k) T < num (opp k) T := by omega
          rw [begins_opp, loc_wrap, loc_pairAt T _ _ (turnd_lt h3), begins_opp, turnd_twice h3, coin_of_ne hc (coin_opp k)]
          simp only [Prod.mk.injEq, true_and]
          omega
        · simp only [h1, h2, if_false]
          have h3 : i - (num (near k) T + num k T) < num (opp (near k)) T := by omega
          rw [begins_far, loc_wrap, loc_pairAt T _ _ (turnd_lt h3), begins_far, turnd_twice h3, coin_of_ne hc (coin_far k)]
          simp only [Prod.mk.injEq, true_and]
          omega
    · rw [hc] at h
      simp only [if_true] at h ⊢
      rw [loc_wrap, loc_pairAt T k i h]
      simp [begins, turnd, contra]
      refine ⟨(eq_of_beq hc).symm, ?_⟩
      intro _ h'
      obtain ⟨r, s⟩ := k
      cases r <;> cases s <;> simp_all [opp]
theorem beq_no {f g : Kind} (h : f ≠ g) : (f == g) = false := by
  cases h' : f == g
  · rfl
  · exact absurd (eq_of_beq h') h
theorem pairAt_loc : ∀ (n : Nat) (k : Kind) (P : Row × Row), P.1.length = n → P.2.length = n →
    pairAt k (loc n k P).1 (loc n k P).2 = P ∧ (loc n k P).2 < num k (loc n k P).1
  | 0, k, (A, B), h1, h2 => by
    have e1 : A = [] := List.eq_nil_of_length_eq_zero h1
    have e2 : B = [] := List.eq_nil_of_length_eq_zero h2
    subst e1 e2
    refine ⟨rfl, num_pos k []⟩
  | n + 1, k, (A, B), h1, h2 => by
    have hA : A ≠ [] := fun e => by rw [e] at h1; simp at h1
    have hB : B ≠ [] := fun e => by rw [e] at h2; simp at h2
    have e : (A, B) = wrap k ((take k.2 B).1, (take k.1 A).1) ((take k.1 A).2, (take k.2 B).2) := by
      simp only [wrap]
      rw [put_take _ hA, put_take _ hB]
    generalize hf : ((take k.2 B).1, (take k.1 A).1) = f at e
    generalize hP : ((take k.1 A).2, (take k.2 B).2) = P at e
    have l1 : P.1.length = n := by rw [← hP]; simp [take_len]; simp at h1; omega
    have l2 : P.2.length = n := by rw [← hP]; simp [take_len]; simp at h2; omega
    obtain ⟨ih, lt⟩ := pairAt_loc n f P l1 l2
    rw [e, loc_wrap]
    generalize loc n f P = x at ih lt
    obtain ⟨T, i⟩ := x
    simp only at ih lt ⊢
    have lt' := turnd_lt (c := contra k f) lt
    have ho := num_near k T
    have hm := num_opp k T
    have op := num_pos (near k) T
    have mp := num_pos k T
    rw [num_cons]
    rcases four k f with rfl | rfl | rfl | rfl
    · have hc : contra f f = false := by
        unfold contra
        split
        · rename_i h
          obtain ⟨r, s⟩ := f
          cases r <;> cases s <;> simp_all [opp]
        · simp
      simp only [pairAt, beq_self_eq_true, if_true, begins, hc, turnd, Bool.false_eq_true, if_false, Nat.zero_add]
      exact ⟨by rw [ih], lt⟩
    · simp only [pairAt, coin_near, Bool.false_eq_true, if_false]
      rw [begins_near, Nat.zero_add, if_pos lt', begins_near, Nat.sub_zero, turnd_twice lt, ih]
      exact ⟨rfl, by omega⟩
    · simp only [pairAt, coin_opp, Bool.false_eq_true, if_false]
      rw [begins_opp, if_neg (by omega), if_pos (by omega), begins_opp, Nat.add_sub_cancel_left, turnd_twice lt, ih]
      exact ⟨rfl, by omega⟩
    · simp only [pairAt, coin_far, Bool.false_eq_true, if_false]
      rw [begins_far, if_neg (by omega), if_neg (by omega), begins_far, Nat.add_sub_cancel_left, turnd_twice lt, ih]
      exact ⟨rfl, by omega⟩
end TL
namespace TL
def tog : Nat → Row → Row
  | 0, A => A
  | _ + 1, [] => []
  | 1, c :: A => (!c) :: A
  | p + 2, c :: A => c :: tog (p + 1) A
def hd (A : Row) : Nat := A.count true
def b2n (b : Bool) : Nat := if b then 1 else 0
def turn (one : Bool) (k : Kind) (P : Row × Row) : Row × Row :=
  if one then (tog (hd P.2 + b2n k.1) P.1, P.2) else (P.1, tog (hd P.1 + b2n k.2) P.2)
def stuck (one : Bool) (k : Kind) (P : Row × Row) : Prop :=
  if one then (hd P.2 = if k.1 then P.2.length else 0) else (hd P.1 = if k.2 then P.1.length else 0)
theorem hd_le (A : Row) : hd A ≤ A.length := List.count_le_length
theorem tog_len : ∀ (p : Nat) (A : Row), (tog p A).length = A.length
  | 0, A => rfl
  | 1, [] => rfl
  | 1, c :: A => rfl
  | p + 2, [] => rfl
  | p + 2, c :: A => by simp [tog, tog_len (p + 1) A]
theorem tog_out : ∀ (p : Nat) (A : Row), A.length < p → tog p A = A
  | 0, A, h => rfl
  | 1, [], h => rfl
  | 1, c :: A, h => by simp at h
  | p + 2, [], h => rfl
  | p + 2, c :: A, h => by
    have := tog_out (p + 1) A (by simpa using h)
    simp [tog, this]
theorem tog_app : ∀ (p : Nat) (A : Row) (c : Bool), p ≤ A.length → tog p (A ++ [c]) = tog p A ++ [c]
  | 0, A, c, h => rfl
  | 1, [], c, h => by simp at h
  | 1, a :: A, c, h => rfl
  | p + 2, [], c, h => by simp at h
  | p + 2, a :: A, c, h => by
    have := tog_app (p + 1) A c (by simpa using h)
    simp [tog, this]
theorem tog_last : ∀ (A : Row) (c : Bool), tog (A.length + 1) (A ++ [c]) = A ++ [!c]
  | [], c => rfl
  | a :: A, c => by
    have := tog_last A c
    simp [tog, this]
theorem tog_twice : ∀ (p : Nat) (A : Row), tog p (tog p A) = A
  | 0, A => rfl
  | 1, [] => rfl
  | 1, c :: A => by simp [tog]
  | p + 2, [] => rfl
  | p + 2, c :: A => by simp [tog, tog_twice (p + 1) A]
theorem turn_twice (one : Bool) (k : Kind) (P : Row × Row) : turn one k (turn one k P) = P := by
  cases one <;> simp [turn, tog_twice]
theorem hd_put (r c : Bool) (A : Row) : hd (put r c A) = hd A + b2n c := by
  cases r <;> cases c <;> simp [put, hd, b2n]
theorem turn_stuck {one : Bool} {k : Kind} {P : Row × Row} (hl : P.1.length = P.2.length) (h : stuck one k P) : turn one k P = P := by
  obtain ⟨A, B⟩ := P
  obtain ⟨r, s⟩ := k
  cases one
  · cases s
    · simp [stuck] at h
      simp [turn, h, b2n, tog]
    · simp [stuck] at h
      have : tog (A.length + 1) B = B := tog_out _ _ (by simp at hl; omega)
      simp [turn, h, b2n, this]
  · cases r
    · simp [stuck] at h
      simp [turn, h, b2n, tog]
    · simp [stuck] at h
      have : tog (B.length + 1) A = A := tog_out _ _ (by simp at hl; omega)
      simp [turn, h, b2n, this]
theorem stuck_wrap (one : Bool) (k f : Kind) {P : Row × Row} (hl : P.1.length = P.2.length) :
    stuck one k (wrap k f P) ↔ (if one then f.1 = k.1 else f.2 = k.2) ∧ stuck one f P := by
  obtain ⟨A, B⟩ := P
  obtain ⟨r, s⟩ := k
  obtain ⟨b, a⟩ := f
  have h1 := hd_le A
  have h2 := hd_le B
  simp at hl
  cases one <;> cases r <;> cases s <;> cases a <;> cases b <;> simp [stuck, wrap, hd_put, b2n, put_len] <;> omega
theorem tog_put {r b a : Bool} {A : Row} {h : Nat} (hh : h ≤ A.length) :
    tog (h + b2n b + b2n r) (put r a A) = if b ≠ r ∧ (h = if b then A.length else 0) then put r (!a) A else put r a (tog (h + b2n b) A) := by
  cases r <;> cases b <;> simp [put, b2n]
  · exact tog_app _ _ _ hh
  · by_cases e : h = A.length
    · subst e
      simp [tog_last]
    · simp [e]
      exact tog_app _ _ _ (by omega)
  · cases h with
    | zero => simp [tog]
    | succ h => simp [tog]
  · simp [tog]
theorem turn_wrap_one (k f : Kind) {P : Row × Row} (hl : P.1.length = P.2.length) :
    (f.1 ≠ k.1 → stuck true f P → turn true k (wrap k f P) = wrap k (f.1, !f.2) P) ∧
    (¬ (f.1 ≠ k.1 ∧ stuck true f P) → turn true k (wrap k f P) = wrap k f (turn true f P)) := by
  obtain ⟨A, B⟩ := P
  simp at hl
  have h2 : hd B ≤ A.length := by have := hd_le B; omega
  have e := tog_put (r := k.1) (b := f.1) (a := f.2) (A := A) h2
  constructor
  · intro h h'
    simp only [stuck, if_true] at h'
    simp only [turn, wrap, if_true, hd_put, e]
    rw [if_pos ⟨h, by rw [h']; simp [hl]⟩]
  · intro h
    simp only [turn, wrap, if_true, hd_put, e]
    rw [if_neg]
    intro h'
    apply h
    refine ⟨h'.1, ?_⟩
    simp only [stuck, if_true]
    rw [h'.2]; simp [hl]
theorem turn_wrap_other (k f : Kind) {P : Row × Row} (hl : P.1.length = P.2.length) :
    (f.2 ≠ k.2 → stuck false f P → turn false k (wrap k f P) = wrap k (!f.1, f.2) P) ∧
    (¬ (f.2 ≠ k.2 ∧ stuck false f P) → turn false k (wrap k f P) = wrap k f (turn false f P)) := by
  obtain ⟨A, B⟩ := P
  simp at hl
  have h2 : hd A ≤ B.length := by have := hd_le A; omega
  have e := tog_put (r := k.2) (b := f.2) (a := f.1) (A := B) h2
  constructor
  · intro h h'
    simp only [stuck, Bool.false_eq_true, if_false] at h'
    simp only [turn, wrap, Bool.false_eq_true, if_false, hd_put, e]
    rw [if_pos ⟨h, by rw [h']; simp [hl]⟩]
  · intro h
    simp only [turn, wrap, Bool.false_eq_true, if_false, hd_put, e]
    rw [if_neg]
    intro h'
    apply h
    refine ⟨h'.1, ?_⟩
    simp only [stuck, Bool.false_eq_true, if_false]
    rw [h'.2]; simp [hl]
def flipK (one : Bool) (f : Kind) : Kind := if one then (f.1, !f.2) else (!f.1, f.2)
def same (one : Bool) (k f : Kind) : Bool := if one then f.1 == k.1 else f.2 == k.2
theorem turn_wrap (one : Bool) (k f : Kind) {P : Row × Row} (hl : P.1.length = P.2.length) :
    (same one k f = false → stuck one f P → turn one k (wrap k f P) = wrap k (flipK one f) P) ∧
    (¬ stuck one f P → turn one k (wrap k f P) = wrap k f (turn one f P)) := by
  cases one
  · obtain ⟨a, b⟩ := turn_wrap_other k f hl
    refine ⟨fun h h' => ?_, fun h => b fun h' => h h'.2⟩
    rw [a (by simpa [same] using h) h']
    rfl
  · obtain ⟨a, b⟩ := turn_wrap_one k f hl
    refine ⟨fun h h' => ?_, fun h => b fun h' => h h'.2⟩
    rw [a (by simpa [same] using h) h']
    rfl
theorem stuck_wrap' (one : Bool) (k f : Kind) {P : Row × Row} (hl : P.1.length = P.2.length) :
    stuck one k (wrap k f P) ↔ same one k f = true ∧ stuck one f P := by
  rw [stuck_wrap one k f hl]
  cases one <;> simp [same]
def none (n : Nat) : Row := List.replicate n false
def all (n : Nat) : Row := List.replicate n true
def swap (c : Bool) (P : Row × Row) : Row × Row := if c then (P.2, P.1) else P
def endAt (k : Kind) (last : Bool) (T : List Bool) : Row × Row :=
  match k, last with
  | (false, false), false => (T.reverse, none T.length)
  | (false, false), true => (none T.length, T.reverse)
  | (false, true), false => (T.reverse, none T.length)
  | (false, true), true => (all T.length, T.map not)
  | (true, false), false => (none T.length, T.reverse)
  | (true, false), true => (T.map not, all T.length)
  | (true, true), false => (T.map not, all T.length)
  | (true, true), true => (all T.length, T.map not)
theorem rep_put (r c : Bool) (n : Nat) : put r c (List.replicate n c) = List.replicate (n + 1) c := by
  cases r
  · simp [put, List.replicate_succ']
  · simp [put, List.replicate_succ]
theorem rep_app (c : Bool) (n : Nat) : List.replicate n c ++ [c] = List.replicate (n + 1) c := (List.replicate_succ').symm
theorem endAt_cons (k : Kind) (c last : Bool) (T : List Bool) : endAt k last (c :: T) =
    if c == coin k k then wrap k k (endAt k last T)
    else if last then wrap k (opp (near k)) (endAt (opp (near k)) (!contra k (opp (near k))) T)
    else wrap k (near k) (endAt (near k) (contra k (near k)) T) := by
  have c1 : contra (false, false) (false, true) = false := rfl
  have c2 : contra (false, false) (true, false) = true := rfl
  have c3 : contra (true, true) (true, false) = true := rfl
  have c4 : contra (true, true) (false, true) = false := rfl
  have c5 : contra (false, true) (false, false) = false := rfl
  have c6 : contra (false, true) (true, true) = false := rfl
  have c7 : contra (true, false) (false, false) = true := rfl
  have c8 : contra (true, false) (true, true) = true := rfl
  have t1 : coin (false, false) (false, false) = false := rfl
  have t2 : coin (true, true) (true, true) = false := rfl
  have t3 : coin (true, false) (true, false) = true := rfl
  have t4 : coin (false, true) (false, true) = true := rfl
  have n1 : near (false, false) = (false, true) := rfl
  have n2 : near (true, true) = (true, false) := rfl
  have n3 : near (false, true) = (false, false) := rfl
  have n4 : near (true, false) = (false, false) := rfl
  obtain ⟨r, s⟩ := k
  cases r <;> cases s <;> cases c <;> cases last <;>
    simp [endAt, wrap, opp, put, none, all, rep_app, c1, c2, c3, c4, c5, c6, c7, c8, t1, t2, t3, t4, n1, n2, n3, n4] <;> rfl
theorem contra_self (k : Kind) : contra k k = false := by
  obtain ⟨r, s⟩ := k
  cases r <;> cases s <;> decide
theorem begins_self (k : Kind) (x : Nat × Nat) : begins k k x = 0 := by simp [begins]
def isPart (k : Kind) (c : Bool) (f : Kind) : Prop := if c == coin k k then f = k else f = near k ∨ f = opp k ∨ f = opp (near k)
theorem pairAt_part {k : Kind} {c : Bool} {f : Kind} {T : List Bool} (h : isPart k c f) {i : Nat} (hi : i < num f T) :
    pairAt k (c :: T) (begins k f (rungs T) + i) = wrap k f (pairAt f T (turnd (contra k f) (num f T) i)) := by
  have op := num_pos (near k) T
  have mp := num_pos k T
  have ho := num_near k T
  have hm := num_opp k T
  unfold isPart at h
  cases hc : c == coin k k
  · rw [hc] at h
    simp only [Bool.false_eq_true, if_false] at h
    rcases h with rfl | rfl | rfl
    · simp only [pairAt, hc, Bool.false_eq_true, if_false]
      rw [begins_near, Nat.zero_add, if_pos hi, begins_near, Nat.sub_zero]
    · simp only [pairAt, hc, Bool.false_eq_true, if_false]
      rw [begins_opp, if_neg (by omega), if_pos (by omega), begins_opp, Nat.add_sub_cancel_left]
    · simp only [pairAt, hc, Bool.false_eq_true, if_false]
      rw [begins_far, if_neg (by omega), if_neg (by omega), begins_far, Nat.add_sub_cancel_left]
  · rw [hc] at h
    simp only [if_true] at h
    subst h
    simp only [pairAt, hc, if_true]
    rw [begins_self, contra_self]
    simp [turnd]
theorem part_of {k : Kind} {c : Bool} {T : List Bool} {i : Nat} (hi : i < num k (c :: T)) :
    ∃ f j, isPart k c f ∧ j < num f T ∧ i = begins k f (rungs T) + j := by
  have ho := num_near k T
  have hm := num_opp k T
  rw [num_cons] at hi
  unfold isPart
  cases hc : c == coin k k
  · rw [hc] at hi
    simp only [Bool.false_eq_true, if_false] at hi ⊢
    by_cases h1 : i < num (near k) T
    · exact ⟨near k, i, .inl rfl, h1, by rw [begins_near, Nat.zero_add]⟩
    · by_cases h2 : i < num (near k) T + num k T
      · exact ⟨opp k, i - num (near k) T, .inr (.inl rfl), by omega, by rw [begins_opp]; omega⟩
      · exact ⟨opp (near k), i - (num (near k) T + num k T), .inr (.inr rfl), by omega, by rw [begins_far]; omega⟩
  · rw [hc] at hi
    simp only [if_true] at hi ⊢
    exact ⟨k, i, rfl, hi, by rw [begins_self, Nat.zero_add]⟩
theorem ends : ∀ (T : List Bool) (k : Kind), pairAt k T 0 = endAt k false T ∧ pairAt k T (num k T - 1) = endAt k true T
  | [], (r, s) => by cases r <;> cases s <;> simp [pairAt, endAt, none, all]
  | c :: T, k => by
    have op := num_pos (near k) T
    have mp := num_pos k T
    have ho := num_near k T
    have hm := num_opp k T
    rw [endAt_cons, endAt_cons, num_cons]
    cases hc : c == coin k k
    · have p1 : isPart k c (near k) := by unfold isPart; rw [hc]; simp
      have p3 : isPart k c (opp (near k)) := by unfold isPart; rw [hc]; simp
      have e1 := pairAt_part p1 (T := T) (i := 0) (by omega)
      have e3 := pairAt_part p3 (T := T) (i := num (near k) T - 1) (by omega)
      rw [begins_near] at e1
      rw [begins_far] at e3
      simp only [Bool.false_eq_true, if_false, if_true]
      have x3 : num k T + 2 * num (near k) T - 1 = num (near k) T + num k T + (num (near k) T - 1) := by omega
      rw [x3, e3]
      refine ⟨?_, ?_⟩
      · rw [show (0 : Nat) + 0 = 0 from rfl] at e1
        rw [e1]
        have := ends T (near k)
        cases contra k (near k)
        · simp only [turnd, Bool.false_eq_true, if_false]; rw [this.1]
        · simp only [turnd, if_true, Nat.sub_zero]; rw [this.2]
      · have := ends T (opp (near k))
        cases contra k (opp (near k))
        · simp only [turnd, Bool.false_eq_true, if_false]; rw [← ho, this.2]; rfl
        · simp only [turnd, if_true, ho, Nat.sub_self]; rw [this.1]; rfl
    · have p1 : isPart k c k := by unfold isPart; rw [hc]; simp
      have e1 := pairAt_part p1 (T := T) (i := 0) (by omega)
      have e3 := pairAt_part p1 (T := T) (i := num k T - 1) (by omega)
      rw [begins_self, contra_self] at e1 e3
      simp only [turnd, Bool.false_eq_true, if_false, Nat.zero_add] at e1 e3
      simp only [if_true]
      have := ends T k
      rw [e1, e3, this.1, this.2]
      exact ⟨rfl, rfl⟩
def lead (k : Kind) (i : Nat) : Bool := (i % 2 == 1) != (k == (true, false))
theorem lead_part {k f : Kind} {c : Bool} {T : List Bool} (h : isPart k c f) {i : Nat} (hi : i < num f T) :
    lead k (begins k f (rungs T) + i) = (lead f (turnd (contra k f) (num f T) i) != contra k f) := by
  have o1 := num_odd (near k) T
  have o2 := num_odd k T
  have hf := num_odd f T
  have ht : turnd (contra k f) (num f T) i % 2 = i % 2 := by
    unfold turnd
    split <;> omega
  unfold isPart at h
  have hb : ∀ x : Nat, (x % 2 == 1) = decide (x % 2 = 1) := fun x => rfl
  unfold lead
  rw [ht]
  cases hc : c == coin k k
  · rw [hc] at h
    simp only [Bool.false_eq_true, if_false] at h
    rcases h with rfl | rfl | rfl
    · rw [begins_near, Nat.zero_add]
      obtain ⟨r, s⟩ := k
      cases r <;> cases s <;> cases i % 2 == 1 <;> decide
    · rw [begins_opp]
      have e : ((num (near k) T + i) % 2 == 1) = !(i % 2 == 1) := by
        rcases Nat.mod_two_eq_zero_or_one i with h | h
        · have : (num (near k) T + i) % 2 = 1 := by omega
          rw [h, this]; rfl
        · have : (num (near k) T + i) % 2 = 0 := by omega
          rw [h, this]; rfl
      rw [e]
      obtain ⟨r, s⟩ := k
      cases r <;> cases s <;> cases i % 2 == 1 <;> decide
    · rw [begins_far]
      have e : (num (near k) T + num k T + i) % 2 = i % 2 := by omega
      rw [e]
      obtain ⟨r, s⟩ := k
      cases r <;> cases s <;> cases i % 2 == 1 <;> decide
  · rw [hc] at h
    simp only [if_true] at h
    subst h
    rw [begins_self, contra_self, Nat.zero_add]
    simp
structure On (k : Kind) (T : List Bool) (i : Nat) : Prop where
  on : i + 1 < num k T → ¬ stuck (lead k i) k (pairAt k T i) ∧ turn (lead k i) k (pairAt k T i) = pairAt k T (i + 1)
  out : i + 1 = num k T → stuck (lead k i) k (pairAt k T i)
  back : 0 < i → ¬ stuck (!lead k i) k (pairAt k T i) ∧ turn (!lead k i) k (pairAt k T i) = pairAt k T (i - 1)
  first : i = 0 → stuck (!lead k i) k (pairAt k T i)
theorem pl (k : Kind) (T : List Bool) (i : Nat) : (pairAt k T i).1.length = (pairAt k T i).2.length := by
  have := pairAt_len T k i
  omega
theorem inner {k f : Kind} {T : List Bool} {i j : Nat} {w : Bool} (h : ¬ stuck w f (pairAt f T i)) (e : turn w f (pairAt f T i) = pairAt f T j) :
    ¬ stuck w k (wrap k f (pairAt f T i)) ∧ turn w k (wrap k f (pairAt f T i)) = wrap k f (pairAt f T j) := by
  refine ⟨fun h' => h ((stuck_wrap' w k f (pl f T i)).mp h').2, ?_⟩
  rw [(turn_wrap w k f (pl f T i)).2 h, e]
end TL
namespace TL
theorem endAt_join1 (k : Kind) (T : List Bool) : endAt (near k) (!contra k (near k)) T = endAt (opp k) (contra k (opp k)) T := by
  obtain ⟨r, s⟩ := k
  cases r <;> cases s <;> rfl
theorem endAt_join2 (k : Kind) (T : List Bool) : endAt (opp k) (!contra k (opp k)) T = endAt (opp (near k)) (contra k (opp (near k))) T := by
  obtain ⟨r, s⟩ := k
  cases r <;> cases s <;> rfl
theorem part_first (f : Kind) (c : Bool) (T : List Bool) : pairAt f T (turnd c (num f T) 0) = endAt f c T := by
  have := ends T f
  cases c
  · simp only [turnd, Bool.false_eq_true, if_false]; exact this.1
  · simp only [turnd, if_true, Nat.sub_zero]; exact this.2
theorem part_last (f : Kind) (c : Bool) (T : List Bool) : pairAt f T (turnd c (num f T) (num f T - 1)) = endAt f (!c) T := by
  have := ends T f
  cases c
  · simp only [turnd, Bool.false_eq_true, if_false]; exact this.2
  · simp only [turnd, if_true, Nat.sub_self]; exact this.1
def nextPart (k f : Kind) : Kind := if f == near k then opp k else opp (near k)
theorem flip_on (k : Kind) (f : Kind) (h : f = near k ∨ f = opp k) (i : Nat) (w : Bool)
    (hw : w = ((if f == near k then false else true) != (k == (true, false)))) :
    same w k f = false ∧ flipK w f = nextPart k f ∧ same w k (nextPart k f) = false ∧ flipK w (nextPart k f) = f := by
  subst hw
  obtain ⟨r, s⟩ := k
  rcases h with rfl | rfl <;> cases r <;> cases s <;> decide
theorem parts_on {k : Kind} {c : Bool} (hc : (c == coin k k) = false) {f : Kind} (h : f = near k ∨ f = opp k) : isPart k c f ∧ isPart k c (nextPart k f) := by
  unfold isPart
  rw [hc]
  simp only [Bool.false_eq_true, if_false]
  obtain ⟨r, s⟩ := k
  rcases h with rfl | rfl <;> cases r <;> cases s <;> decide
theorem begins_next {k : Kind} {f : Kind} (h : f = near k ∨ f = opp k) (T : List Bool) : begins k (nextPart k f) (rungs T) = begins k f (rungs T) + num f T := by
  rcases h with rfl | rfl
  · simp only [nextPart, beq_self_eq_true, if_true]
    rw [begins_opp, begins_near, Nat.zero_add]
  · have e : (opp k == near k) = false := by
      obtain ⟨r, s⟩ := k
      cases r <;> cases s <;> decide
    simp only [nextPart, e, Bool.false_eq_true, if_false]
    rw [begins_opp, begins_far, num_opp]
theorem join (k : Kind) {f : Kind} (h : f = near k ∨ f = opp k) (T : List Bool) :
    endAt f (!contra k f) T = endAt (nextPart k f) (contra k (nextPart k f)) T := by
  rcases h with rfl | rfl
  · simp only [nextPart, beq_self_eq_true, if_true]
    exact endAt_join1 k T
  · have e : (opp k == near k) = false := by
      obtain ⟨r, s⟩ := k
      cases r <;> cases s <;> decide
    simp only [nextPart, e, Bool.false_eq_true, if_false]
    exact endAt_join2 k T
theorem lead_end {k : Kind} {c : Bool} {f : Kind} (hc : (c == coin k k) = false) (h : f = near k ∨ f = opp k) (T : List Bool) :
    lead k (begins k f (rungs T) + (num f T - 1)) = ((if f == near k then false else true) != (k == (true, false))) ∧
    lead k (begins k f (rungs T) + num f T) = !lead k (begins k f (rungs T) + (num f T - 1)) := by
  have o1 := num_odd (near k) T
  have o2 := num_odd k T
  have o3 := num_opp k T
  have op := num_pos (near k) T
  have mp := num_pos k T
  unfold lead
  rcases h with rfl | rfl
  · rw [begins_near]
    have e1 : (0 + (num (near k) T - 1)) % 2 = 0 := by omega
    have e2 : (0 + num (near k) T) % 2 = 1 := by omega
    rw [e1, e2]
    simp
  · have e : (opp k == near k) = false := by
      obtain ⟨r, s⟩ := k
      cases r <;> cases s <;> decide
    rw [begins_opp]
    have e1 : (num (near k) T + (num (opp k) T - 1)) % 2 = 1 := by omega
    have e2 : (num (near k) T + num (opp k) T) % 2 = 0 := by omega
    rw [e1, e2, e]
    simp
theorem on_line : ∀ (T : List Bool) (k : Kind) (i : Nat), i < num k T → On k T i
  | [], (r, s), i, h => by
    have : i = 0 := by
      cases r <;> cases s <;> simp [num, evenK, rungs] at h <;> omega
    subst this
    have n1 : num (r, s) [] = 1 := by cases r <;> cases s <;> rfl
    have st : ∀ w, stuck w (r, s) (pairAt (r, s) [] 0) := by
      intro w
      cases w <;> cases r <;> cases s <;> simp [stuck, pairAt, hd]
    exact ⟨fun h => by rw [n1] at h; omega, fun _ => st _, fun h => by omega, fun _ => st _⟩
  | c :: T, k, i, hi => by
    obtain ⟨f, j, hp, hj, rfl⟩ := part_of hi
    have IH := on_line T f
    have hl := lead_part hp hj
    have hjt := turnd_lt (c := contra k f) hj
    have pe := pairAt_part hp hj
    have N := num_cons k c T
    have op := num_pos (near k) T
    have mp := num_pos k T
    have ho := num_near k T
    have hm := num_opp k T
    -- inner steps on and back, as gone through here
    have inOn : j + 1 < num f T → ¬ stuck (lead k (begins k f (rungs T) + j)) k (pairAt k (c :: T) (begins k f (rungs T) + j)) ∧
        turn (lead k (begins k f (rungs T) + j)) k (pairAt k (c :: T) (begins k f (rungs T) + j)) = pairAt k (c :: T) (begins k f (rungs T) + j + 1) := by
      intro h
      have pe' := pairAt_part hp h
      rw [pe, hl, Nat.add_assoc, pe']
      cases hcc : contra k f
      · rw [hcc] at hl
        simp only [turnd, Bool.false_eq_true, if_false, Bool.bne_false]
        obtain ⟨a, b⟩ := (IH j hj).on h
        exact inner a b
      · simp only [turnd, if_true, Bool.bne_true]
        have hlt : num f T - 1 - j < num f T := by omega
        obtain ⟨a, b⟩ := (IH _ hlt).back (by omega)
        rw [show num f T - 1 - j - 1 = num f T - 1 - (j + 1) by omega] at b
        exact inner a b
    have inBack : 0 < j → ¬ stuck (!lead k (begins k f (rungs T) + j)) k (pairAt k (c :: T) (begins k f (rungs T) + j)) ∧
        turn (!lead k (begins k f (rungs T) + j)) k (pairAt k (c :: T) (begins k f (rungs T) + j)) = pairAt k (c :: T) (begins k f (rungs T) + j - 1) := by
      intro h
      have pe' := pairAt_part hp (show j - 1 < num f T by omega)
      rw [pe, hl, show begins k f (rungs T) + j - 1 = begins k f (rungs T) + (j - 1) by omega, pe']
      cases hcc : contra k f
      · simp only [turnd, Bool.false_eq_true, if_false, Bool.bne_false]
        obtain ⟨a, b⟩ := (IH j hj).back h
        exact inner a b
      · simp only [turnd, if_true, Bool.bne_true, Bool.not_not]
        have hlt : num f T - 1 - j < num f T := by omega
        obtain ⟨a, b⟩ := (IH _ hlt).on (by omega)
        rw [show num f T - 1 - j + 1 = num f T - 1 - (j - 1) by omega] at b
        exact inner a b
    -- at a part's ends what is within is stuck
    have stEnd : j + 1 = num f T → stuck (lead k (begins k f (rungs T) + j)) f (pairAt f T (turnd (contra k f) (num f T) j)) := by
      intro h
      rw [hl]
      cases hcc : contra k f
      · simp only [turnd, Bool.false_eq_true, if_false, Bool.bne_false]
        exact (IH j hj).out h
      · simp only [turnd, if_true, Bool.bne_true]
        have : num f T - 1 - j = 0 := by omega
        rw [this]
        exact (IH 0 (by omega)).first rfl
    have stFirst : j = 0 → stuck (!lead k (begins k f (rungs T) + j)) f (pairAt f T (turnd (contra k f) (num f T) j)) := by
      intro h
      rw [hl]
      subst h
      cases hcc : contra k f
      · simp only [turnd, Bool.false_eq_true, if_false, Bool.bne_false]
        exact (IH 0 hj).first rfl
      · simp only [turnd, if_true, Bool.bne_true, Bool.not_not]
        exact (IH _ (by omega)).out (by omega)
    cases hc : c == coin k k
    · -- three parts
      rw [hc] at N
      simp only [Bool.false_eq_true, if_false] at N
      have three : f = near k ∨ f = opp k ∨ f = opp (near k) := by
        unfold isPart at hp; rw [hc] at hp; simpa using hp
      have far_last : f = opp (near k) → begins k f (rungs T) + num f T = num k (c :: T) := by
        rintro rfl; rw [begins_far, N]; omega
      -- on to the next part
      have onPart : (f = near k ∨ f = opp k) → j + 1 = num f T → ¬ stuck (lead k (begins k f (rungs T) + j)) k (pairAt k (c :: T) (begins k f (rungs T) + j)) ∧
          turn (lead k (begins k f (rungs T) + j)) k (pairAt k (c :: T) (begins k f (rungs T) + j)) = pairAt k (c :: T) (begins k f (rungs T) + j + 1) := by
        intro h2 h
        have ej : j = num f T - 1 := by omega
        have le := lead_end hc h2 T
        have fo := flip_on k f h2 0 _ rfl
        rw [← le.1, ← ej] at fo
        have pn := (parts_on hc h2).2
        have np := num_pos (nextPart k f) T
        have pe2 := pairAt_part pn (T := T) (i := 0) (by omega)
        rw [begins_next h2, Nat.add_zero, part_first, ← join k h2 T] at pe2
        rw [pe, Nat.add_assoc, h, pe2]
        have pl2 := pl f T (turnd (contra k f) (num f T) j)
        refine ⟨fun h' => ?_, ?_⟩
        · have := ((stuck_wrap' _ k f pl2).mp h').1
          rw [fo.1] at this
          cases this
        · rw [(turn_wrap _ k f pl2).1 fo.1 (stEnd h), fo.2.1, ej, part_last]
      have backPart : (f = opp k ∨ f = opp (near k)) → j = 0 → ¬ stuck (!lead k (begins k f (rungs T) + j)) k (pairAt k (c :: T) (begins k f (rungs T) + j)) ∧
          turn (!lead k (begins k f (rungs T) + j)) k (pairAt k (c :: T) (begins k f (rungs T) + j)) = pairAt k (c :: T) (begins k f (rungs T) + j - 1) := by
        intro h2 h
        obtain ⟨g, hg, rfl⟩ : ∃ g, (g = near k ∨ g = opp k) ∧ f = nextPart k g := by
          rcases h2 with rfl | rfl
          · exact ⟨near k, .inl rfl, by simp [nextPart]⟩
          · refine ⟨opp k, .inr rfl, ?_⟩
            have e : (opp k == near k) = false := by
              obtain ⟨r, s⟩ := k
              cases r <;> cases s <;> decide
            simp only [nextPart, e, Bool.false_eq_true, if_false]
        subst h
        have le := lead_end hc hg T
        have fo := flip_on k g hg 0 _ rfl
        have gp := num_pos g T
        rw [← le.1] at fo
        have bn := begins_next hg T
        have le2 : lead k (begins k (nextPart k g) (rungs T) + 0) = !lead k (begins k g (rungs T) + (num g T - 1)) := by
          rw [bn, Nat.add_zero]; exact le.2
        have pg := (parts_on hc hg).1
        have pe2 := pairAt_part pg (T := T) (i := num g T - 1) (by omega)
        rw [part_last, join k hg T] at pe2
        have pl2 := pl (nextPart k g) T (turnd (contra k (nextPart k g)) (num (nextPart k g) T) 0)
        have sf := stFirst rfl
        rw [le2, Bool.not_not] at sf ⊢
        rw [show begins k (nextPart k g) (rungs T) + 0 - 1 = begins k g (rungs T) + (num g T - 1) by omega, pe, pe2]
        -- the turn back is the turn on of the part ahead, which is its own undoing
        have pl3 : (endAt (nextPart k g) (contra k (nextPart k g)) T).1.length = (endAt (nextPart k g) (contra k (nextPart k g)) T).2.length := by
          rw [part_first] at pl2; exact pl2
        rw [part_first] at sf ⊢
        have e1 : turn (lead k (begins k g (rungs T) + (num g T - 1))) k (wrap k g (endAt (nextPart k g) (contra k (nextPart k g)) T)) = wrap k (nextPart k g) (endAt (nextPart k g) (contra k (nextPart k g)) T) := by
          have sg : stuck (lead k (begins k g (rungs T) + (num g T - 1))) g (endAt (nextPart k g) (contra k (nextPart k g)) T) := by
            rw [← join k hg T, ← part_last]
            have hl' := lead_part pg (T := T) (i := num g T - 1) (by omega)
            rw [hl']
            cases hcc : contra k g
            · simp only [turnd, Bool.false_eq_true, if_false, Bool.bne_false]
              exact (on_line T g _ (by omega)).out (by omega)
            · simp only [turnd, if_true, Bool.bne_true]
              rw [Nat.sub_self]
              exact (on_line T g 0 (by omega)).first rfl
          rw [(turn_wrap _ k g pl3).1 fo.1 sg, fo.2.1]
        refine ⟨fun h' => ?_, ?_⟩
        · have hs := (stuck_wrap' _ k (nextPart k g) pl3).mp h'
          have : same (lead k (begins k g (rungs T) + (num g T - 1))) k (nextPart k g) = false := by
            generalize lead k (begins k g (rungs T) + (num g T - 1)) = w at fo
            obtain ⟨r, s⟩ := k
            rcases hg with rfl | rfl <;> cases w <;> cases r <;> cases s <;> revert fo <;> decide
          rw [this] at hs
          cases hs.1
        · rw [← e1, turn_twice]
      refine ⟨fun h => ?_, fun h => ?_, fun h => ?_, fun h => ?_⟩
      · by_cases h' : j + 1 < num f T
        · exact inOn h'
        · have h2 : f = near k ∨ f = opp k := by
            rcases three with h3 | h3 | h3
            · exact .inl h3
            · exact .inr h3
            · have := far_last h3; omega
          exact onPart h2 (by omega)
      · have h3 : f = opp (near k) := by
          rcases three with h3 | h3 | h3
          · subst h3; rw [begins_near, N] at h; omega
          · subst h3; rw [begins_opp, N] at h; omega
          · exact h3
        have h4 := far_last h3
        have st := stEnd (by omega)
        rw [pe]
        rw [stuck_wrap' _ k f (pl f T _)]
        refine ⟨?_, st⟩
        rw [h4.symm] at h
        have e : lead k (begins k f (rungs T) + j) = (k == (true, false) : Bool) := by
          have o1 := num_odd (near k) T
          have o2 := num_odd k T
          unfold lead
          subst h3
          rw [begins_far]
          have : (num (near k) T + num k T + j) % 2 = 0 := by omega
          rw [this]
          simp
        rw [e, h3]
        obtain ⟨r, s⟩ := k
        cases r <;> cases s <;> decide
      · by_cases h' : 0 < j
        · exact inBack h'
        · have h2 : f = opp k ∨ f = opp (near k) := by
            rcases three with h3 | h3 | h3
            · subst h3; rw [begins_near] at h; omega
            · exact .inl h3
            · exact .inr h3
          exact backPart h2 (by omega)
      · have h3 : f = near k := by
          rcases three with h3 | h3 | h3
          · exact h3
          · subst h3; rw [begins_opp] at h; omega
          · subst h3; rw [begins_far] at h; omega
        have st := stFirst (by omega)
        rw [pe]
        rw [stuck_wrap' _ k f (pl f T _)]
        refine ⟨?_, st⟩
        have e : lead k (begins k f (rungs T) + j) = (k == (true, false) : Bool) := by
          unfold lead
          rw [h]
          simp
        rw [e, h3]
        obtain ⟨r, s⟩ := k
        cases r <;> cases s <;> decide
    · -- one part
      rw [hc] at N
      simp only [if_true] at N
      have hk : f = k := by
        unfold isPart at hp; rw [hc] at hp; simpa using hp
      subst hk
      have sm : ∀ w, same w f f = true := by
        intro w
        cases w <;> simp [same]
      rw [begins_self] at *
      refine ⟨fun h => inOn (by omega), fun h => ?_, fun h => inBack (by omega), fun h => ?_⟩
      · rw [pe, stuck_wrap' _ f f (pl f T _)]
        exact ⟨sm _, stEnd (by omega)⟩
      · rw [pe, stuck_wrap' _ f f (pl f T _)]
        exact ⟨sm _, stFirst (by omega)⟩
end TL
namespace TL
abbrev Layer := Kind × Kind
def val : List Layer → List Bool × Nat
  | [] => ([], 0)
  | (k, f) :: ls => let x := val ls; (coin k f :: x.1, begins k f (rungs x.1) + turnd (contra k f) (num f x.1) x.2)
def wrapAll : List Layer → Row × Row → Row × Row
  | [], P => P
  | (k, f) :: ls, P => wrap k f (wrapAll ls P)
def chained : Kind → List Layer → Prop
  | _, [] => True
  | k, (k', f) :: ls => k' = k ∧ chained f ls
def kindEnd : Kind → List Layer → Kind
  | k, [] => k
  | _, (_, f) :: ls => kindEnd f ls
theorem chained_app : ∀ (a b : List Layer) (k : Kind), chained k (a ++ b) ↔ chained k a ∧ chained (kindEnd k a) b
  | [], b, k => by simp [chained, kindEnd]
  | (k', f) :: a, b, k => by
    simp only [List.cons_append, chained, kindEnd, chained_app a b f, and_assoc]
theorem wrapAll_app : ∀ (a b : List Layer) (P : Row × Row), wrapAll (a ++ b) P = wrapAll a (wrapAll b P)
  | [], b, P => rfl
  | (k, f) :: a, b, P => by simp [wrapAll, wrapAll_app a b P]
theorem wrapAll_len : ∀ (a : List Layer) (P : Row × Row), (wrapAll a P).1.length = a.length + P.1.length ∧ (wrapAll a P).2.length = a.length + P.2.length
  | [], P => by simp [wrapAll]
  | (k, f) :: a, P => by
    have := wrapAll_len a P
    simp [wrapAll, wrap, put_len, this]
    omega
theorem loc_val : ∀ (ls : List Layer) (k : Kind), chained k ls → loc ls.length k (wrapAll ls ([], [])) = val ls
  | [], k, _ => rfl
  | (k', f) :: ls, k, h => by
    obtain ⟨rfl, h⟩ := h
    simp only [List.length_cons, wrapAll]
    rw [loc_wrap, loc_val ls f h]
    rfl
theorem val_lt : ∀ (ls : List Layer) (k : Kind), chained k ls → (val ls).2 < num k (val ls).1 := by
  intro ls k h
  have e := loc_val ls k h
  have l := wrapAll_len ls ([], [])
  have := (pairAt_loc ls.length k (wrapAll ls ([], [])) (by simpa using l.1) (by simpa using l.2)).2
  rwa [e] at this
theorem pairAt_val (ls : List Layer) (k : Kind) (h : chained k ls) : pairAt k (val ls).1 (val ls).2 = wrapAll ls ([], []) := by
  have e := loc_val ls k h
  have l := wrapAll_len ls ([], [])
  have := (pairAt_loc ls.length k (wrapAll ls ([], [])) (by simpa using l.1) (by simpa using l.2)).1
  rwa [e] at this
def exL (k f : Kind) : Nat → List Layer
  | 0 => []
  | m + 1 => (k, f) :: exL f k m
theorem exL_len : ∀ (m : Nat) (k f : Kind), (exL k f m).length = m
  | 0, _, _ => rfl
  | m + 1, k, f => by simp [exL, exL_len m f k]
theorem exL_end : ∀ (m : Nat) (k f : Kind), kindEnd k (exL k f m) = if m % 2 = 1 then f else k
  | 0, _, _ => rfl
  | m + 1, k, f => by
    simp only [exL, kindEnd, exL_end m f k]
    rcases Nat.mod_two_eq_zero_or_one m with h | h
    · rw [if_neg (by omega), if_pos (by omega)]
    · rw [if_pos h, if_neg (by omega)]
theorem exL_chained : ∀ (m : Nat) (k f : Kind), chained k (exL k f m)
  | 0, _, _ => trivial
  | m + 1, k, f => ⟨rfl, exL_chained m f k⟩
theorem rungs_heads : ∀ (m : Nat) (T : List Bool), rungs (List.replicate m true ++ T) = ((rungs T).1 + 2 * m * (rungs T).2, (rungs T).2)
  | 0, T => by simp
  | m + 1, T => by
    simp only [List.replicate_succ, List.cons_append, rungs, rungs_heads m T, if_true]
    congr 1
    rw [Nat.mul_add, Nat.add_mul]
    omega
theorem rungs_tails : ∀ (m : Nat) (T : List Bool), rungs (List.replicate m false ++ T) = ((rungs T).1, (rungs T).2 + 2 * m * (rungs T).1)
  | 0, T => by simp
  | m + 1, T => by
    simp only [List.replicate_succ, List.cons_append, rungs, rungs_tails m T, Bool.false_eq_true, if_false]
    congr 1
    rw [Nat.mul_add, Nat.add_mul]
    omega
theorem opp_opp (k : Kind) : opp (opp k) = k := by
  obtain ⟨r, s⟩ := k
  cases r <;> cases s <;> rfl
theorem evenK_opp (k : Kind) : evenK (opp k) = evenK k := by
  obtain ⟨r, s⟩ := k
  cases r <;> cases s <;> rfl
theorem coin_self (k : Kind) : coin k k = !evenK k := by
  obtain ⟨r, s⟩ := k
  cases r <;> cases s <;> rfl
theorem coin_opp' (k : Kind) : coin k (opp k) = evenK k := by
  obtain ⟨r, s⟩ := k
  cases r <;> cases s <;> rfl
theorem begins_opp' (k : Kind) (x : Nat × Nat) : begins k (opp k) x = if evenK k then x.2 else x.1 := by
  obtain ⟨r, s⟩ := k
  cases r <;> cases s <;> rfl
theorem contra_opp (k : Kind) : contra k (opp k) = evenK k := by
  obtain ⟨r, s⟩ := k
  cases r <;> cases s <;> rfl
theorem val_stay (k : Kind) (ls : List Layer) : ∀ m, val (exL k k m ++ ls) = (List.replicate m (coin k k) ++ (val ls).1, (val ls).2)
  | 0 => by simp [exL]
  | m + 1 => by
    simp only [exL, List.cons_append, val, val_stay k ls m, begins_self, contra_self, turnd, List.replicate_succ]
    simp
theorem val_even (ls : List Layer) : ∀ (m : Nat) (k : Kind), evenK k = true → (val ls).2 < (rungs (val ls).1).1 →
    val (exL k (opp k) m ++ ls) = (List.replicate m true ++ (val ls).1, m * (rungs (val ls).1).2 + turnd (m % 2 == 1) (rungs (val ls).1).1 (val ls).2)
  | 0, k, hk, lt => by simp [exL, turnd]
  | m + 1, k, hk, lt => by
    have ih := val_even ls m (opp k) (by rw [evenK_opp]; exact hk) lt
    rw [opp_opp] at ih
    simp only [exL, List.cons_append, val, ih, begins_opp', contra_opp, coin_opp', hk, if_true, rungs_heads, num, evenK_opp, turnd, List.replicate_succ]
    simp only [Prod.mk.injEq, true_and]
    rw [Nat.add_mul]
    rw [show 2 * m * (rungs (val ls).1).2 = 2 * (m * (rungs (val ls).1).2) by rw [Nat.mul_assoc]]
    generalize m * (rungs (val ls).1).2 = x
    rcases Nat.mod_two_eq_zero_or_one m with h | h
    · have h' : (m + 1) % 2 = 1 := by omega
      simp [h, h']
      omega
    · have h' : (m + 1) % 2 = 0 := by omega
      simp [h, h']
      omega
theorem val_odd (ls : List Layer) : ∀ (m : Nat) (k : Kind), evenK k = false →
    val (exL k (opp k) m ++ ls) = (List.replicate m false ++ (val ls).1, m * (rungs (val ls).1).1 + (val ls).2)
  | 0, k, hk => by simp [exL]
  | m + 1, k, hk => by
    have ih := val_odd ls m (opp k) (by rw [evenK_opp]; exact hk)
    rw [opp_opp] at ih
    simp only [exL, List.cons_append, val, ih, begins_opp', contra_opp, coin_opp', hk, Bool.false_eq_true, if_false, rungs_tails, num, evenK_opp, turnd, List.replicate_succ]
    simp only [Prod.mk.injEq, true_and]
    rw [Nat.add_mul]
    omega
def endsOf (r : Bool) : List (Bool × Bool) → List Bool
  | [] => []
  | (q, c) :: l => if q == r then c :: endsOf r l else endsOf r l
theorem endsOf_app (r : Bool) : ∀ a b, endsOf r (a ++ b) = endsOf r a ++ endsOf r b
  | [], b => rfl
  | (q, c) :: a, b => by
    simp only [List.cons_append, endsOf, endsOf_app r a b]
    split <;> rfl
def ones (ls : List Layer) : List (Bool × Bool) := ls.map fun l => (l.1.1, l.2.2)
def others (ls : List Layer) : List (Bool × Bool) := ls.map fun l => (l.1.2, l.2.1)
theorem wrapAll_ends : ∀ (ls : List Layer) (P : Row × Row), wrapAll ls P =
    (endsOf true (ones ls) ++ P.1 ++ (endsOf false (ones ls)).reverse, endsOf true (others ls) ++ P.2 ++ (endsOf false (others ls)).reverse)
  | [], P => by simp [wrapAll, ones, others, endsOf]
  | (k, f) :: ls, P => by
    obtain ⟨r, s⟩ := k
    simp only [wrapAll, wrapAll_ends ls P]
    cases r <;> cases s <;> simp [wrap, put, ones, others, endsOf]
end TL
namespace TL
def far (p s : Nat) : Nat := if s < p then s else 2 * p - 1 - s
def sumA : Nat → Row → Int
  | _, [] => 0
  | o, c :: A => (if c then (o + 1 : Int) else 0) + sumA (o + 1) A
theorem hd_cons (c : Bool) (A : Row) : hd (c :: A) = hd A + b2n c := by
  cases c <;> simp [hd, b2n]
theorem tog_sum : ∀ (p : Nat) (A : Row) (o : Nat), 1 ≤ p → p ≤ A.length →
    (sumA o (tog p A) = sumA o A + (o + p : Int) ∧ (hd (tog p A) : Int) = hd A + 1) ∨ (sumA o (tog p A) = sumA o A - (o + p : Int) ∧ (hd (tog p A) : Int) = hd A - 1)
  | 0, A, o, h, _ => by omega
  | 1, [], o, _, h => by simp at h
  | 1, c :: A, o, _, _ => by
    cases c
    · left
      simp [tog, sumA, hd_cons, b2n]
      omega
    · right
      simp [tog, sumA, hd_cons, b2n]
      omega
  | p + 2, [], o, _, h => by simp at h
  | p + 2, c :: A, o, _, h => by
    have := tog_sum (p + 1) A (o + 1) (by omega) (by simpa using h)
    simp only [tog, sumA, hd_cons]
    rcases this with ⟨a, b⟩ | ⟨a, b⟩
    · left
      rw [a]
      refine ⟨by push_cast; omega, by push_cast; omega⟩
    · right
      rw [a]
      refine ⟨by push_cast; omega, by push_cast; omega⟩
def kept (P : Row × Row) : Int := sumA 0 P.1 + sumA 0 P.2 - (hd P.1 : Int) * hd P.2
theorem kept_turn (w : Bool) (P : Row × Row) (hl : P.1.length = P.2.length) : kept (turn w (false, false) P) = kept P := by
  obtain ⟨A, B⟩ := P
  have h1 := hd_le A
  have h2 := hd_le B
  simp only at hl
  cases w
  · simp only [turn, Bool.false_eq_true, if_false, b2n, Nat.add_zero, kept]
    by_cases h : hd A = 0
    · rw [h]; rfl
    · rcases tog_sum (hd A) B 0 (by omega) (by omega) with ⟨a, b⟩ | ⟨a, b⟩
      · rw [a, b, Int.mul_add]; push_cast; omega
      · rw [a, b, Int.mul_sub]; push_cast; omega
  · simp only [turn, if_true, b2n, Bool.false_eq_true, if_false, Nat.add_zero, kept]
    by_cases h : hd B = 0
    · rw [h]; rfl
    · rcases tog_sum (hd B) A 0 (by omega) (by omega) with ⟨a, b⟩ | ⟨a, b⟩
      · rw [a, b, Int.add_mul]; push_cast; omega
      · rw [a, b, Int.sub_mul]; push_cast; omega
theorem sumA_none : ∀ (n o : Nat), sumA o (none n) = 0
  | 0, o => rfl
  | n + 1, o => by
    have := sumA_none n (o + 1)
    simp only [none, List.replicate_succ, sumA, Bool.false_eq_true, if_false] at *
    omega
theorem hd_none (n : Nat) : hd (none n) = 0 := by simp [hd, none, List.count_replicate]
theorem kept_line (T : List Bool) : ∀ i, i < num (false, false) T → kept (pairAt (false, false) T i) = sumA 0 T.reverse
  | 0, _ => by
    rw [(ends T (false, false)).1]
    simp [endAt, kept, sumA_none, hd_none]
  | i + 1, h => by
    have := (on_line T (false, false) i (by omega)).on h
    rw [← this.2, kept_turn _ _ (pl _ T i), kept_line T i (by omega)]
def stepK (r : Bool) (X : Row) : Row := tog (hd X + b2n r) X
def stuckR (r : Bool) (X : Row) : Prop := hd X = if r then X.length else 0
instance (r : Bool) (X : Row) : Decidable (stuckR r X) := by unfold stuckR; exact inferInstance
def runsL : Nat → Bool → Row → List Bool
  | 0, _, _ => []
  | n + 1, r, X => ((take r X).1 != r) :: runsL n (take r X).1 (take r X).2
def rowL : Bool → List Bool → Row
  | _, [] => []
  | r, c :: T => put r (c != r) (rowL (c != r) T)
theorem rowL_len : ∀ (T : List Bool) (r : Bool), (rowL r T).length = T.length
  | [], _ => rfl
  | c :: T, r => by simp [rowL, put_len, rowL_len T]
theorem runsL_len : ∀ (n : Nat) (r : Bool) (X : Row), (runsL n r X).length = n
  | 0, _, _ => rfl
  | n + 1, r, X => by simp [runsL, runsL_len n]
theorem runs_row : ∀ (T : List Bool) (r : Bool), runsL T.length r (rowL r T) = T
  | [], _ => rfl
  | c :: T, r => by
    simp only [List.length_cons, rowL, runsL, take_put, runs_row T]
    cases c <;> cases r <;> rfl
theorem row_runs : ∀ (n : Nat) (r : Bool) (X : Row), X.length = n → rowL r (runsL n r X) = X
  | 0, r, X, h => by rw [List.eq_nil_of_length_eq_zero h]; rfl
  | n + 1, r, X, h => by
    have hX : X ≠ [] := fun e => by rw [e] at h; simp at h
    have l := take_len r X
    simp only [runsL, rowL]
    have e : (((take r X).1 != r) != r) = (take r X).1 := by cases (take r X).1 <;> cases r <;> rfl
    rw [e, row_runs n _ _ (by omega), put_take r hX]
theorem loc_twin : ∀ (n : Nat) (r : Bool) (X : Row), loc n (r, r) (X, X) = (runsL n r X, ((rungs (runsL n r X)).1 - 1) / 2)
  | 0, r, X => by simp [loc, runsL, rungs]
  | n + 1, r, X => by
    simp only [loc, runsL]
    rw [loc_twin n (take r X).1 (take r X).2]
    generalize hT : runsL n (take r X).1 (take r X).2 = T
    have o := rungs_odd T
    have p := rungs_pos T
    generalize (take r X).1 = a
    have ev : ∀ b : Bool, evenK (b, b) = true := by intro b; cases b <;> rfl
    have c1 : coin (r, r) (a, a) = (a != r) := by cases r <;> cases a <;> rfl
    have nm : num (a, a) T = (rungs T).1 := by simp [num, ev]
    rw [c1, nm]
    by_cases h : a = r
    · subst h
      rw [begins_self, contra_self]
      simp [turnd, rungs]
    · have ha : a = !r := by cases a <;> cases r <;> simp_all
      subst ha
      have c2 : contra (r, r) (!r, !r) = true := by cases r <;> rfl
      have c3 : begins (r, r) (!r, !r) (rungs T) = (rungs T).2 := by cases r <;> rfl
      have c4 : ((!r) != r) = true := by cases r <;> rfl
      rw [c2, c3, c4]
      simp [turnd, rungs]
      omega
theorem twin_at (T : List Bool) : pairAt (false, false) T (((rungs T).1 - 1) / 2) = (rowL false T, rowL false T) := by
  have h := loc_twin T.length false (rowL false T)
  rw [runs_row] at h
  have := (pairAt_loc T.length (false, false) (rowL false T, rowL false T) (rowL_len T false) (rowL_len T false)).1
  rwa [h] at this
def dec : List Bool → List Bool
  | [] => []
  | c :: T => if T.contains true then c :: dec T else if c then false :: (match T with | [] => [] | _ :: U => true :: U) else c :: T
theorem runs_stuck : ∀ (n : Nat) (r : Bool) (X : Row), X.length = n → (stuckR r X ↔ (runsL n r X).contains true = false)
  | 0, r, X, h => by rw [List.eq_nil_of_length_eq_zero h]; simp [stuckR, hd, runsL]
  | n + 1, r, X, h => by
    have hX : X ≠ [] := fun e => by rw [e] at h; simp at h
    have l := take_len r X
    have ih := runs_stuck n (take r X).1 (take r X).2 (by omega)
    have e : stuckR r X ↔ (take r X).1 = r ∧ stuckR (take r X).1 (take r X).2 := by
      have e1 : hd X = hd (take r X).2 + b2n (take r X).1 := by
        have := hd_put r (take r X).1 (take r X).2
        rwa [put_take r hX] at this
      have := hd_le (take r X).2
      unfold stuckR
      rw [e1]
      cases r <;> cases (take _ X).1 <;> simp [b2n] <;> omega
    rw [e, ih]
    simp only [runsL, List.contains_cons]
    generalize (runsL n (take r X).1 (take r X).2).contains true = x
    cases (take r X).1 <;> cases r <;> cases x <;> decide
theorem stepK_put {r a : Bool} {X : Row} :
    stepK r (put r a X) = if a ≠ r ∧ stuckR a X then put r (!a) X else put r a (stepK a X) := by
  unfold stepK stuckR
  rw [hd_put]
  exact tog_put (hd_le X)
theorem stepK_stuck {r : Bool} {X : Row} (h : stuckR r X) : stepK r X = X := by
  unfold stuckR at h
  unfold stepK
  cases r
  · simp at h; rw [h]; rfl
  · simp at h; rw [h]; exact tog_out _ _ (by simp [b2n])
theorem all_false {T : List Bool} (h : T.contains true = false) : T = List.replicate T.length false := by
  induction T with
  | nil => rfl
  | cons c T ih =>
    simp only [List.contains_cons, Bool.or_eq_false_iff] at h
    have hc : c = false := by cases c <;> simp_all
    rw [hc, List.length_cons, List.replicate_succ, ← ih h.2]
theorem row_none : ∀ (n : Nat) (r : Bool), rowL r (List.replicate n false) = List.replicate n r
  | 0, r => rfl
  | n + 1, r => by
    simp only [List.replicate_succ, rowL]
    have : (false != r) = r := by cases r <;> rfl
    rw [this, row_none n r, rep_put r r n]
    rfl
theorem step_row : ∀ (T : List Bool) (r : Bool), stepK r (rowL r T) = rowL r (dec T)
  | [], r => by cases r <;> rfl
  | c :: T, r => by
    have ih := step_row T (c != r)
    have st := runs_stuck T.length (c != r) (rowL (c != r) T) (rowL_len T _)
    rw [runs_row] at st
    simp only [rowL, dec]
    rw [stepK_put]
    cases hT : T.contains true
    · -- nothing beneath
      have sk := st.mpr hT
      cases c
      · have e : ¬ ((false != r) ≠ r ∧ stuckR (false != r) (rowL (false != r) T)) := by
          intro h; apply h.1; cases r <;> rfl
        rw [if_neg e, stepK_stuck sk]
        simp [rowL]
      · have e : (true != r) ≠ r ∧ stuckR (true != r) (rowL (true != r) T) := ⟨by cases r <;> decide, sk⟩
        rw [if_pos e]
        simp only [Bool.false_eq_true, if_false, if_true]
        have e1 : (!(true != r)) = r := by cases r <;> rfl
        have e2 : (true != r) = !r := by cases r <;> rfl
        have hTf := all_false hT
        rw [e1, e2]
        cases T with
        | nil => cases r <;> rfl
        | cons d U =>
          have hU : U = List.replicate U.length false := by
            simp only [List.length_cons, List.replicate_succ, List.cons.injEq] at hTf
            exact hTf.2
          have hd' : d = false := by
            simp only [List.length_cons, List.replicate_succ, List.cons.injEq] at hTf
            exact hTf.1
          subst hd'
          rw [hU]
          simp only [rowL]
          have e3 : (false != (!r)) = !r := by cases r <;> rfl
          have e4 : (false != r) = r := by cases r <;> rfl
          have e5 : (true != r) = !r := by cases r <;> rfl
          rw [e3, e4, e5, row_none]
          have := rep_put (!r) (!r) U.length
          have h2 := rep_put r (!r) U.length
          cases r
          · simp [put] at this h2 ⊢
            rw [← List.cons_append, this, ← h2]; simp
          · simp [put] at this h2 ⊢
            rw [this, h2]
    · have sk : ¬ stuckR (c != r) (rowL (c != r) T) := fun h => by rw [st.mp h] at hT; cases hT
      rw [if_neg fun h => sk h.2, ih]
      simp [rowL]
theorem runs_step {n : Nat} {r : Bool} {X : Row} (h : X.length = n) : runsL n r (stepK r X) = dec (runsL n r X) := by
  have e := step_row (runsL n r X) r
  rw [row_runs n r X h] at e
  rw [e]
  have l : (dec (runsL n r X)).length = n := by
    have : ∀ T, (dec T).length = T.length := by
      intro T
      induction T with
      | nil => rfl
      | cons c T ih =>
        simp only [dec]
        split
        · simp [ih]
        · split
          · cases T <;> simp
          · rfl
    rw [this, runsL_len]
  have := runs_row (dec (runsL n r X)) r
  rwa [l] at this
end TL
namespace TLR
open Dn PR LB LA
def bits (n : Nat) (r : RowT) : List Bool := (List.range n).map fun (i : Nat) => hasB r ((i : Int) + 1)
theorem bits_len (n : Nat) (r : RowT) : (bits n r).length = n := by simp [bits]
theorem bits_succ (n : Nat) (r : RowT) : bits (n + 1) r = bits n r ++ [hasB r ((n : Int) + 1)] := by
  simp [bits, List.range_succ]
theorem bits_get {n : Nat} {r : RowT} {i : Nat} (h : i < n) : (bits n r)[i]? = some (hasB r ((i : Int) + 1)) := by
  simp [bits, h]
theorem low_step (S : Int → Int) : ∀ {r : RowT} {f : Int}, okF f r = true → ∀ p, sumS (fun x => S (low p x)) r - sumS (fun x => S (low (p - 1) x)) r = if hasB r p = true then S p - S (p - 1) else 0
  | [], _, _, p => by simp [sumS, hasB]
  | q :: r, f, ok, p => by
    rw [okF_cons] at ok
    have ih := low_step S ok.2.2 p
    rw [sumS_cons, sumS_cons, hasB_cons]
    by_cases c : q.1 ≤ p ∧ p ≤ q.2
    · have hno : hasB r p = false := hasB_not fun z => by have := mem_ge ok.2.2 z; omega
      rw [hno] at ih
      simp only [c.1, c.2, decide_true, Bool.and_self, Bool.true_or, if_true]
      rw [if_neg (by decide)] at ih
      rw [low_lt (show p ≤ q.2 by omega), low_lt (show p - 1 ≤ q.2 by omega), low_ge (show q.1 - 1 ≤ p by omega), low_ge (show q.1 - 1 ≤ p - 1 by omega)]
      omega
    · have hd : (decide (q.1 ≤ p) && decide (p ≤ q.2)) = false := by
        by_cases c1 : q.1 ≤ p
        · have c2 : ¬ p ≤ q.2 := fun z => c ⟨c1, z⟩
          simp [c2]
        · simp [c1]
      rw [hd, Bool.false_or]
      by_cases c1 : q.1 ≤ p
      · have c2 : ¬ p ≤ q.2 := fun z => c ⟨c1, z⟩
        rw [low_ge (show q.2 ≤ p by omega), low_ge (show q.2 ≤ p - 1 by omega), low_ge (show q.1 - 1 ≤ p by omega), low_ge (show q.1 - 1 ≤ p - 1 by omega)]
        omega
      · rw [low_lt (show p ≤ q.2 by omega), low_lt (show p - 1 ≤ q.2 by omega), low_lt (show p ≤ q.1 - 1 by omega), low_lt (show p - 1 ≤ q.1 - 1 by omega)]
        omega
theorem low_none (S : Int → Int) : ∀ {r : RowT} {f p : Int}, okF f r = true → p < f → sumS (fun x => S (low p x)) r = 0
  | [], _, _, _, _ => rfl
  | q :: r, f, p, ok, h => by
    rw [okF_cons] at ok
    rw [sumS_cons, low_none S ok.2.2 (by omega), low_lt (show p ≤ q.2 by omega), low_lt (show p ≤ q.1 - 1 by omega)]
    omega
theorem low_all (S : Int → Int) : ∀ {r : RowT} {f p : Int}, okF f r = true → (∀ q ∈ r, q.2 ≤ p) → sumS (fun x => S (low p x)) r = sumS S r
  | [], _, _, _, _ => rfl
  | q :: r, f, p, ok, h => by
    rw [okF_cons] at ok
    have := h q List.mem_cons_self
    rw [sumS_cons, sumS_cons, low_all S ok.2.2 fun y hy => h y (List.mem_cons_of_mem _ hy), low_ge (show q.2 ≤ p by omega), low_ge (show q.1 - 1 ≤ p by omega)]
def within (n : Nat) (r : RowT) : Prop := okF 1 r = true ∧ ∀ q ∈ r, q.2 ≤ n
theorem within_mem {n : Nat} {r : RowT} (h : within n r) {p : Int} (hp : memR r p) : 1 ≤ p ∧ p ≤ n := by
  obtain ⟨q, hq, z1, z2⟩ := hp
  have := okF_ge h.1 hq
  have := h.2 q hq
  omega
theorem hd_app (A : List Bool) (c : Bool) : TL.hd (A ++ [c]) = TL.hd A + TL.b2n c := by
  have := TL.hd_put false c A
  simpa [TL.put] using this
theorem hd_bits_low {r : RowT} (ok : okF 1 r = true) : ∀ n : Nat, (TL.hd (bits n r) : Int) = sumS (fun x => low n x) r
  | 0 => by
    have := low_none (fun x => x) ok (show (0 : Int) < 1 by omega)
    simp [bits, TL.hd]
    simpa using this.symm
  | n + 1 => by
    have := low_step (fun x => x) ok ((n : Int) + 1)
    have e : (n : Int) + 1 - 1 = n := by omega
    rw [e] at this
    rw [bits_succ, hd_app]
    have ih := hd_bits_low ok n
    cases c : hasB r ((n : Int) + 1)
    · rw [c] at this
      simp [TL.b2n] at this ⊢
      omega
    · rw [c] at this
      simp [TL.b2n] at this ⊢
      omega
theorem hd_bits {n : Nat} {r : RowT} (h : within n r) : (TL.hd (bits n r) : Int) = cnt r := by
  rw [hd_bits_low h.1, cnt_S]
  exact low_all (fun x => x) h.1 h.2
theorem sumA_app : ∀ (A B : List Bool) (o : Nat), TL.sumA o (A ++ B) = TL.sumA o A + TL.sumA (o + A.length) B
  | [], B, o => by simp [TL.sumA]
  | c :: A, B, o => by
    simp only [List.cons_append, TL.sumA, sumA_app A B (o + 1), List.length_cons]
    rw [show o + 1 + A.length = o + (A.length + 1) by omega]
    omega
theorem tri_step (p : Int) : tri p - tri (p - 1) = p := by
  have h1 := two_tri p
  have h2 := two_tri (p - 1)
  have : (p - 1) * (p - 1 + 1) = p * (p + 1) - 2 * p := by
    rw [show p - 1 + 1 = p by omega, Int.sub_mul, Int.mul_add]; omega
  omega
theorem sum_bits_low {r : RowT} (ok : okF 1 r = true) : ∀ n : Nat, TL.sumA 0 (bits n r) = sumS (fun x => tri (low n x)) r
  | 0 => by
    have := low_none tri ok (show (0 : Int) < 1 by omega)
    simp [bits, TL.sumA]
    simpa using this.symm
  | n + 1 => by
    have := low_step tri ok ((n : Int) + 1)
    have e : (n : Int) + 1 - 1 = n := by omega
    have t := tri_step ((n : Int) + 1)
    rw [e] at this t
    rw [bits_succ, sumA_app, bits_len]
    have ih := sum_bits_low ok n
    cases c : hasB r ((n : Int) + 1)
    · rw [c] at this
      simp [TL.sumA] at this ⊢
      omega
    · rw [c] at this
      simp [TL.sumA] at this ⊢
      omega
theorem sum_bits {n : Nat} {r : RowT} (h : within n r) : TL.sumA 0 (bits n r) = addR r := by
  rw [sum_bits_low h.1, add_S]
  exact low_all tri h.1 h.2
theorem bits_ext {n : Nat} {r s : RowT} (hr : within n r) (hs : within n s) (h : bits n r = bits n s) : r = s := by
  refine row_ext hr.1 hs.1 fun p => ?_
  by_cases c : 1 ≤ p ∧ p ≤ n
  · obtain ⟨i, hi⟩ : ∃ i : Nat, (i : Int) + 1 = p := ⟨(p - 1).toNat, by omega⟩
    have hi' : i < n := by omega
    have e1 := bits_get (r := r) hi'
    have e2 := bits_get (r := s) hi'
    rw [h, e2] at e1
    rw [← hasB_iff, ← hasB_iff, ← hi]
    simp only [Option.some.injEq] at e1
    rw [e1]
  · constructor
    · intro z; exact absurd (within_mem hr z) c
    · intro z; exact absurd (within_mem hs z) c
theorem tog_get : ∀ (p : Nat) (A : List Bool) (i : Nat), 1 ≤ p → (TL.tog p A)[i]? = if i + 1 = p then A[i]?.map (!·) else A[i]?
  | 0, A, i, h => by omega
  | 1, [], i, _ => by simp [TL.tog]
  | 1, c :: A, i, _ => by
    cases i with
    | zero => simp [TL.tog]
    | succ i => simp [TL.tog]
  | p + 2, [], i, _ => by simp [TL.tog]
  | p + 2, c :: A, i, _ => by
    cases i with
    | zero => simp [TL.tog]
    | succ i =>
      have := tog_get (p + 1) A i (by omega)
      simp only [TL.tog, List.getElem?_cons_succ, this]
      by_cases h : i = p
      · simp [h]
      · simp [h]
theorem has_flip {r : RowT} {x : Int} (ok : okF 1 r = true) (hx : 1 ≤ x) (p : Int) : hasB (flipR r x) p = if p = x then !hasB r p else hasB r p := by
  obtain ⟨_, h2, _⟩ := flip_spec ok hx
  have := h2 p
  rw [← hasB_iff, ← hasB_iff] at this
  by_cases c : p = x
  · rw [if_pos c]
    cases e1 : hasB (flipR r x) p <;> cases e2 : hasB r p <;> rw [e1, e2] at this <;> simp_all
  · rw [if_neg c]
    cases e1 : hasB (flipR r x) p <;> cases e2 : hasB r p <;> rw [e1, e2] at this <;> simp_all
theorem flip_within {n : Nat} {r : RowT} {x : Int} (h : within n r) (h0 : 0 ≤ x) (hx : x ≤ n) : within n (flipR r x) :=
  ⟨(flip_ok1 h.1 h0).1, flip_top h.1 h0 h.2 hx⟩
theorem flip_zero (r : RowT) (ok : okF 1 r = true) : flipR r 0 = r := by
  simp [flipR]
theorem bits_flip {n : Nat} {r : RowT} {p : Nat} (h : within n r) (hp : p ≤ n) : bits n (flipR r p) = TL.tog p (bits n r) := by
  by_cases h0 : p = 0
  · subst h0
    have := flip_zero r h.1
    simp only [Int.natCast_zero]
    rw [this]
    simp [TL.tog]
  · apply List.ext_getElem?
    intro i
    rw [tog_get p _ i (by omega)]
    by_cases hi : i < n
    · rw [bits_get hi, bits_get hi, has_flip h.1 (by omega)]
      by_cases c : i + 1 = p
      · have c2 : (i : Int) + 1 = p := by omega
        simp [c, c2]
      · have c2 : ¬ (i : Int) + 1 = p := by omega
        simp [c, c2]
    · have e1 : (bits n (flipR r p))[i]? = none := List.getElem?_eq_none (by rw [bits_len]; omega)
      have e2 : (bits n r)[i]? = none := List.getElem?_eq_none (by rw [bits_len]; omega)
      rw [e1, e2]
      simp
def rowB : Nat → List Bool → RowT
  | _, [] => []
  | o, false :: A => rowB (o + 1) A
  | o, true :: A => match rowB (o + 1) A with
    | [] => [((o : Int) + 1, (o : Int) + 1)]
    | q :: r => if q.1 = (o : Int) + 2 then ((o : Int) + 1, q.2) :: r else ((o : Int) + 1, (o : Int) + 1) :: q :: r
theorem rowB_ok : ∀ (A : List Bool) (o : Nat), okF ((o : Int) + 1) (rowB o A) = true
  | [], o => rfl
  | false :: A, o => by
    have := rowB_ok A (o + 1)
    simp only [rowB]
    exact okF_mono (by omega) this
  | true :: A, o => by
    have := rowB_ok A (o + 1)
    simp only [rowB]
    cases e : rowB (o + 1) A with
    | nil => simp [okF]
    | cons q r =>
      rw [e, okF_cons] at this
      simp only
      split
      · rw [okF_cons]
        exact ⟨by simp, by simp; omega, this.2.2⟩
      · rw [okF_cons, okF_cons]
        refine ⟨by simp, by simp, ?_, this.2.1, this.2.2⟩
        simp only
        omega
theorem rowB_mem : ∀ (A : List Bool) (o : Nat) (p : Int), memR (rowB o A) p ↔ ∃ i : Nat, p = (o : Int) + 1 + i ∧ A[i]? = some true
  | [], o, p => by simp [rowB, memR]
  | false :: A, o, p => by
    simp only [rowB]
    rw [rowB_mem A (o + 1) p]
    constructor
    · rintro ⟨i, h1, h2⟩
      exact ⟨i + 1, by push_cast; omega, by simpa using h2⟩
    · rintro ⟨i, h1, h2⟩
      cases i with
      | zero => simp at h2
      | succ i => exact ⟨i, by push_cast at h1 ⊢; omega, by simpa using h2⟩
  | true :: A, o, p => by
    have ih := rowB_mem A (o + 1) p
    have R : (∃ i : Nat, p = (o : Int) + 1 + i ∧ (true :: A)[i]? = some true) ↔ p = (o : Int) + 1 ∨ ∃ i : Nat, p = ((o + 1 : Nat) : Int) + 1 + i ∧ A[i]? = some true := by
      constructor
      · rintro ⟨i, h1, h2⟩
        cases i with
        | zero => left; omega
        | succ i => right; exact ⟨i, by push_cast at h1 ⊢; omega, by simpa using h2⟩
      · rintro (h | ⟨i, h1, h2⟩)
        · exact ⟨0, by omega, by simp⟩
        · exact ⟨i + 1, by push_cast at h1 ⊢; omega, by simpa using h2⟩
    rw [R, ← ih]
    have ok := rowB_ok A (o + 1)
    simp only [rowB]
    cases e : rowB (o + 1) A with
    | nil =>
      simp only
      rw [mem_cons]
      have := @mem_nil p
      simp only [this, or_false]
      omega
    | cons q r =>
      rw [e, okF_cons] at ok
      simp only
      split
      · rename_i hq
        rw [mem_cons, mem_cons]
        simp only
        constructor
        · rintro (h | h)
          · by_cases c : p = (o : Int) + 1
            · exact .inl c
            · exact .inr (.inl ⟨by omega, h.2⟩)
          · exact .inr (.inr h)
        · rintro (h | h | h)
          · have := ok.2.1; exact .inl ⟨by omega, by omega⟩
          · exact .inl ⟨by omega, h.2⟩
          · exact .inr h
      · rw [mem_cons]
        simp only
        constructor
        · rintro (h | h)
          · exact .inl (by omega)
          · exact .inr h
        · rintro (h | h)
          · exact .inl (by omega)
          · exact .inr h
theorem rowB_within (A : List Bool) : within A.length (rowB 0 A) := by
  have ok : okF 1 (rowB 0 A) = true := by
    have := rowB_ok A 0
    simpa using this
  refine ⟨ok, fun q hq => ?_⟩
  have h := okF_ge ok hq
  obtain ⟨i, h1, h2⟩ := (rowB_mem A 0 q.2).mp ⟨q, hq, h.2, Int.le_refl _⟩
  have : i < A.length := by
    rcases Nat.lt_or_ge i A.length with h | h
    · exact h
    · rw [List.getElem?_eq_none h] at h2; cases h2
  omega
theorem bits_rowB (A : List Bool) : bits A.length (rowB 0 A) = A := by
  apply List.ext_getElem?
  intro i
  by_cases hi : i < A.length
  · rw [bits_get hi, List.getElem?_eq_getElem hi]
    have h := rowB_mem A 0 ((i : Int) + 1)
    rw [← hasB_iff] at h
    cases c : A[i]
    · have : ¬ hasB (rowB 0 A) ((i : Int) + 1) = true := by
        intro z
        obtain ⟨j, h1, h2⟩ := h.mp z
        have : j = i := by omega
        subst this
        rw [List.getElem?_eq_getElem hi, c] at h2
        cases h2
      simp only [Bool.not_eq_true] at this
      rw [this]
    · rw [h.mpr ⟨i, by omega, by rw [List.getElem?_eq_getElem hi, c]⟩]
  · rw [List.getElem?_eq_none (by rw [bits_len]; omega), List.getElem?_eq_none (by omega)]
theorem rowB_bits {n : Nat} {r : RowT} (h : within n r) : rowB 0 (bits n r) = r := by
  have w := rowB_within (bits n r)
  have e := bits_rowB (bits n r)
  rw [bits_len] at w e
  exact bits_ext w h e
end TLR
namespace TL
abbrev Strip := Bool × Nat
def flat (S : List Strip) : Row := S.flatMap fun s => List.replicate s.2 s.1
theorem flat_nil : flat [] = [] := rfl
theorem flat_cons (c : Bool) (m : Nat) (S : List Strip) : flat ((c, m) :: S) = List.replicate m c ++ flat S := rfl
theorem flat_app (a b : List Strip) : flat (a ++ b) = flat a ++ flat b := by simp [flat]
theorem flat_one (c : Bool) (m : Nat) : flat [(c, m)] = List.replicate m c := by simp [flat]
theorem flat_rev (a : List Strip) : flat a.reverse = (flat a).reverse := by
  induction a with
  | nil => rfl
  | cons s a ih =>
    obtain ⟨c, m⟩ := s
    rw [List.reverse_cons, flat_app, flat_one, flat_cons, List.reverse_append, ih, List.reverse_replicate]
def putMany (r : Bool) (c : Bool) (m : Nat) (A : Row) : Row := if r then List.replicate m c ++ A else A ++ List.replicate m c
def endS (r : Bool) (S : List Strip) : Strip := if r then S.headD (false, 0) else S.getLastD (false, 0)
def takeOff (r : Bool) (m : Nat) (S : List Strip) : List Strip :=
  let e := endS r S
  if r then (if m < e.2 then (e.1, e.2 - m) :: S.tail else S.tail)
  else (if m < e.2 then S.dropLast ++ [(e.1, e.2 - m)] else S.dropLast)
def posS (S : List Strip) : Prop := ∀ s ∈ S, 0 < s.2
theorem rep_add (c : Bool) (a b : Nat) : List.replicate a c ++ List.replicate b c = List.replicate (a + b) c := List.replicate_append_replicate
theorem last_split {S : List Strip} (h : S ≠ []) : S = S.dropLast ++ [S.getLastD (false, 0)] := by
  rw [List.getLastD_eq_getLast?, List.getLast?_eq_some_getLast h]
  exact (List.dropLast_concat_getLast h).symm
theorem takeOff_flat {r : Bool} {m : Nat} {S : List Strip} (h : S ≠ []) (hm : m ≤ (endS r S).2) :
    flat S = putMany r (endS r S).1 m (flat (takeOff r m S)) := by
  cases r
  · have e := last_split h
    generalize hd : S.dropLast = U at e
    generalize hl : S.getLastD (false, 0) = s at e
    obtain ⟨c, n⟩ := s
    simp only [endS, hl, Bool.false_eq_true, if_false] at hm ⊢
    simp only [takeOff, endS, hl, hd, Bool.false_eq_true, if_false, putMany]
    rw [e, flat_app, flat_one]
    split
    · rename_i c1
      rw [flat_app, flat_one, List.append_assoc, rep_add, show n - m + m = n by omega]
    · rename_i c1
      rw [show m = n by omega]
  · cases S with
    | nil => exact absurd rfl h
    | cons s S =>
      obtain ⟨c, n⟩ := s
      simp only [endS, List.headD_cons, if_true] at hm ⊢
      simp only [takeOff, endS, List.headD_cons, List.tail_cons, if_true, putMany]
      rw [flat_cons]
      split
      · rename_i c1
        rw [flat_cons, ← List.append_assoc, rep_add, show m + (n - m) = n by omega]
      · rename_i c1
        rw [show m = n by omega]
theorem takeOff_pos {r : Bool} {m : Nat} {S : List Strip} (h : posS S) : posS (takeOff r m S) := by
  cases r
  · simp only [takeOff, Bool.false_eq_true, if_false]
    have hd : ∀ s ∈ S.dropLast, 0 < s.2 := fun s hs => h s (List.dropLast_subset S hs)
    split
    · intro s hs
      rcases List.mem_append.mp hs with hs | hs
      · exact hd s hs
      · simp only [List.mem_singleton] at hs
        subst hs
        simp only
        omega
    · exact hd
  · simp only [takeOff, if_true]
    have hd : ∀ s ∈ S.tail, 0 < s.2 := fun s hs => h s (List.mem_of_mem_tail hs)
    split
    · intro s hs
      rcases List.mem_cons.mp hs with hs | hs
      · subst hs
        simp only
        omega
      · exact hd s hs
    · exact hd
abbrev Layers := Kind × Kind × Nat
def nextL (k : Kind) (S U : List Strip) : Layers :=
  let a := endS k.1 S
  let b := endS k.2 U
  let f : Kind := (b.1, a.1)
  if f == k then (k, f, min a.2 b.2)
  else if f == opp k then
    let a2 := endS (!k.1) S
    let b2 := endS (!k.2) U
    if ((b2.1, a2.1) : Kind) == k then (k, f, 2 * min (min a.2 b.2) (min a2.2 b2.2)) else (k, f, 1)
  else (k, f, 1)
def oneWay (l : Layers) : List Layers :=
  if l.2.1 == opp l.1 then [(l.1, l.2.1, (l.2.2 + 1) / 2), (l.2.1, l.1, l.2.2 / 2)].filter fun w => decide (0 < w.2.2) else [l]
def takeAll (ws : List Layers) (S U : List Strip) : List Strip × List Strip :=
  ws.foldl (fun x w => (takeOff w.1.1 w.2.2 x.1, takeOff w.1.2 w.2.2 x.2)) (S, U)
def exLs (l : Layers) : List Layer := exL l.1 l.2.1 l.2.2
theorem putMany_one (r c : Bool) (A : Row) : putMany r c 1 A = put r c A := by
  cases r <;> simp [putMany, put]
theorem wrap_stay : ∀ (m : Nat) (k : Kind) (P : Row × Row), wrapAll (exL k k m) P = (putMany k.1 k.2 m P.1, putMany k.2 k.1 m P.2)
  | 0, (r, s), P => by cases r <;> cases s <;> simp [exL, wrapAll, putMany]
  | m + 1, (r, s), P => by
    simp only [exL, wrapAll, wrap_stay m]
    cases r <;> cases s <;> simp [wrap, put, putMany, List.replicate_succ, List.append_assoc] <;>
      (try rw [rep_app]) <;> (try rfl)
theorem putMany_comm (r c d : Bool) (m n : Nat) (A : Row) : putMany r c m (putMany (!r) d n A) = putMany (!r) d n (putMany r c m A) := by
  cases r <;> simp [putMany, List.append_assoc]
theorem putMany_add (r c : Bool) (m n : Nat) (A : Row) : putMany r c m (putMany r c n A) = putMany r c (m + n) A := by
  cases r
  · simp only [putMany, Bool.false_eq_true, if_false, List.append_assoc, rep_add, Nat.add_comm]
  · simp only [putMany, if_true, ← List.append_assoc, rep_add]
theorem wrap_many (k f : Kind) (P : Row × Row) : wrap k f P = (putMany k.1 f.2 1 P.1, putMany k.2 f.1 1 P.2) := by
  simp only [wrap, putMany_one]
theorem wrap_fro : ∀ (m : Nat) (k : Kind) (P : Row × Row), wrapAll (exL k (opp k) m) P =
    (putMany k.1 (!k.2) ((m + 1) / 2) (putMany (!k.1) k.2 (m / 2) P.1), putMany k.2 (!k.1) ((m + 1) / 2) (putMany (!k.2) k.1 (m / 2) P.2))
  | 0, (r, s), P => by cases r <;> cases s <;> simp [exL, wrapAll, putMany]
  | m + 1, k, P => by
    have ih := wrap_fro m (opp k) P
    rw [opp_opp] at ih
    simp only [exL, wrapAll, ih, wrap_many]
    simp only [opp, Bool.not_not]
    rw [putMany_comm k.1, putMany_comm k.2, putMany_comm k.1, putMany_comm k.2, putMany_add, putMany_add]
    have e1 : 1 + m / 2 = (m + 1 + 1) / 2 := by omega
    rw [e1]
theorem takeOff_len {r : Bool} {m : Nat} {S : List Strip} (h : S ≠ []) (hm : m ≤ (endS r S).2) : (flat S).length = (flat (takeOff r m S)).length + m := by
  rw [takeOff_flat h hm]
  cases r <;> simp [putMany] <;> omega
theorem endS_pos {r : Bool} {S : List Strip} (h : S ≠ []) (p : posS S) : 0 < (endS r S).2 := by
  cases r
  · refine p _ ?_
    simp only [endS, Bool.false_eq_true, if_false]
    rw [List.getLastD_eq_getLast?, List.getLast?_eq_some_getLast h]
    exact List.getLast_mem h
  · cases S with
    | nil => exact absurd rfl h
    | cons s S => exact p _ (by simp [endS])
theorem two_ends {r : Bool} {S : List Strip} (h : S ≠ []) (hne : (endS r S).1 ≠ (endS (!r) S).1) : ∃ m U n, S = (endS true S) :: (U ++ [endS false S]) ∧ m = (endS true S).2 ∧ n = (endS false S).2 := by
  cases S with
  | nil => exact absurd rfl h
  | cons s S =>
    by_cases hS : S = []
    · subst hS
      exfalso
      apply hne
      cases r <;> simp [endS]
    · have e := last_split hS
      refine ⟨_, S.dropLast, _, ?_, rfl, rfl⟩
      have e2 : endS false (s :: S) = S.getLastD (false, 0) := by
        simp only [endS, Bool.false_eq_true, if_false]
        rw [List.getLastD_eq_getLast?, List.getLastD_eq_getLast?, List.getLast?_cons]
        rw [List.getLast?_eq_some_getLast hS]
        rfl
      rw [e2]
      simp only [endS, if_true, List.headD_cons]
      rw [← e]
theorem takeOff_other {r : Bool} {m : Nat} {S : List Strip} (h : S ≠ []) (hne : (endS r S).1 ≠ (endS (!r) S).1) :
    takeOff r m S ≠ [] ∧ endS (!r) (takeOff r m S) = endS (!r) S := by
  obtain ⟨_, U, _, e, _, _⟩ := two_ends h hne
  cases r
  · rw [e]
    generalize endS true S = a
    generalize endS false S = b
    have e1 : (a :: (U ++ [b])).dropLast = a :: U := by
      rw [← List.cons_append, List.dropLast_concat]
    simp only [takeOff, e1, Bool.false_eq_true, if_false, Bool.not_false]
    split <;> simp [endS]
  · rw [e]
    generalize endS true S = a
    generalize endS false S = b
    simp only [takeOff, List.tail_cons, if_true, Bool.not_true]
    split <;> simp [endS, List.getLastD_eq_getLast?, List.getLast?_cons]
theorem next_ok {k : Kind} {S U : List Strip} (hS : S ≠ []) (hU : U ≠ []) (pS : posS S) (pU : posS U) :
    let l := nextL k S U
    let x := takeAll (oneWay l) S U
    0 < l.2.2 ∧ l.1 = k ∧ wrapAll (exLs l) (flat x.1, flat x.2) = (flat S, flat U) ∧ posS x.1 ∧ posS x.2 ∧
      (flat S).length = (flat x.1).length + l.2.2 ∧ (flat U).length = (flat x.2).length + l.2.2 := by
  have q1 := endS_pos (r := k.1) hS pS
  have q2 := endS_pos (r := k.2) hU pU
  -- one layer
  have single : ∀ f : Kind, f = ((endS k.2 U).1, (endS k.1 S).1) → oneWay (k, f, 1) = [(k, f, 1)] →
      (0 < 1 ∧ k = k ∧ wrapAll (exLs (k, f, 1)) (flat (takeOff k.1 1 S), flat (takeOff k.2 1 U)) = (flat S, flat U) ∧ posS (takeOff k.1 1 S) ∧ posS (takeOff k.2 1 U) ∧
      (flat S).length = (flat (takeOff k.1 1 S)).length + 1 ∧ (flat U).length = (flat (takeOff k.2 1 U)).length + 1) := by
    intro f hf _
    refine ⟨by omega, rfl, ?_, takeOff_pos pS, takeOff_pos pU, takeOff_len hS (by omega), takeOff_len hU (by omega)⟩
    simp only [exLs, exL, wrapAll, wrap_many, hf]
    rw [← takeOff_flat hS (by omega), ← takeOff_flat hU (by omega)]
  have ow1 : ∀ f : Kind, oneWay (k, f, 1) = [(k, f, 1)] := by
    intro f
    unfold oneWay
    split <;> simp
  have ow : ∀ f : Kind, takeAll (oneWay (k, f, 1)) S U = (takeOff k.1 1 S, takeOff k.2 1 U) := by
    intro f
    rw [ow1]; rfl
  intro l x
  simp only [l, x]
  unfold nextL
  simp only
  split
  · -- stays
    rename_i hk
    have hk' := eq_of_beq hk
    generalize hm : min (endS k.1 S).2 (endS k.2 U).2 = m
    have m1 : m ≤ (endS k.1 S).2 := by omega
    have m2 : m ≤ (endS k.2 U).2 := by omega
    have no : ((((endS k.2 U).1, (endS k.1 S).1) : Kind) == opp k) = false := by
      rw [hk']
      obtain ⟨r, s⟩ := k
      cases r <;> cases s <;> rfl
    have e : takeAll (oneWay (k, ((endS k.2 U).1, (endS k.1 S).1), m)) S U = (takeOff k.1 m S, takeOff k.2 m U) := by
      unfold oneWay
      simp only [no, Bool.false_eq_true, if_false]
      rfl
    rw [e]
    refine ⟨by simp only; omega, rfl, ?_, takeOff_pos pS, takeOff_pos pU, takeOff_len hS m1, takeOff_len hU m2⟩
    have f1 := takeOff_flat hS m1
    have f2 := takeOff_flat hU m2
    rw [hk'] 
    simp only [exLs]
    rw [wrap_stay]
    simp only
    have c1 : (endS k.1 S).1 = k.2 := congrArg Prod.snd hk'
    have c2 : (endS k.2 U).1 = k.1 := congrArg Prod.fst hk'
    rw [f1, f2, c1, c2]
  · split
    · rename_i hk hf
      have hf' := eq_of_beq hf
      split
      · rename_i hb
        have hb' := eq_of_beq hb
        have c1 : (endS k.1 S).1 = !k.2 := congrArg Prod.snd hf'
        have c2 : (endS k.2 U).1 = !k.1 := congrArg Prod.fst hf'
        have d1 : (endS (!k.1) S).1 = k.2 := congrArg Prod.snd hb'
        have d2 : (endS (!k.2) U).1 = k.1 := congrArg Prod.fst hb'
        have n1 : (endS k.1 S).1 ≠ (endS (!k.1) S).1 := by rw [c1, d1]; cases k.2 <;> decide
        have n2 : (endS k.2 U).1 ≠ (endS (!k.2) U).1 := by rw [c2, d2]; cases k.1 <;> decide
        have q3 := endS_pos (r := !k.1) hS pS
        have q4 := endS_pos (r := !k.2) hU pU
        generalize hm : min (min (endS k.1 S).2 (endS k.2 U).2) (min (endS (!k.1) S).2 (endS (!k.2) U).2) = m
        have m1 : m ≤ (endS k.1 S).2 := by omega
        have m2 : m ≤ (endS k.2 U).2 := by omega
        have m3 : m ≤ (endS (!k.1) S).2 := by omega
        have m4 : m ≤ (endS (!k.2) U).2 := by omega
        have mp : 0 < m := by omega
        obtain ⟨o1, o2⟩ := takeOff_other (m := m) hS n1
        obtain ⟨o3, o4⟩ := takeOff_other (m := m) hU n2
        have e : takeAll (oneWay (k, ((endS k.2 U).1, (endS k.1 S).1), 2 * m)) S U = (takeOff (!k.1) m (takeOff k.1 m S), takeOff (!k.2) m (takeOff k.2 m U)) := by
          unfold oneWay
          rw [hf']
          simp only [beq_self_eq_true, if_true]
          have h1 : (2 * m + 1) / 2 = m := by omega
          have h2 : 2 * m / 2 = m := by omega
          rw [h1, h2]
          simp [mp, takeAll, opp]
        rw [e]
        have f1 := takeOff_flat hS m1
        have f2 := takeOff_flat hU m2
        have g1 := takeOff_flat (r := !k.1) o1 (m := m) (by rw [o2]; exact m3)
        have g2 := takeOff_flat (r := !k.2) o3 (m := m) (by rw [o4]; exact m4)
        have l1 := takeOff_len hS m1
        have l2 := takeOff_len hU m2
        have l3 := takeOff_len (r := !k.1) o1 (m := m) (by rw [o2]; exact m3)
        have l4 := takeOff_len (r := !k.2) o3 (m := m) (by rw [o4]; exact m4)
        refine ⟨by simp only; omega, rfl, ?_, takeOff_pos (takeOff_pos pS), takeOff_pos (takeOff_pos pU), by simp only; omega, by simp only; omega⟩
        rw [hf']
        simp only [exLs]
        rw [wrap_fro]
        have h1 : (2 * m + 1) / 2 = m := by omega
        have h2 : 2 * m / 2 = m := by omega
        rw [h1, h2]
        simp only
        rw [f1, f2, g1, g2, o2, o4, c1, c2, d1, d2]
      · rw [ow]
        exact single _ rfl (ow1 _)
    · rw [ow]
      exact single _ rfl (ow1 _)
end TL
namespace TL
def kindBehind (l : Layers) : Kind := if l.2.2 % 2 = 1 then l.2.1 else l.1
def ex : List Layers → List Layer
  | [] => []
  | l :: ls => exLs l ++ ex ls
def good (l : Layers) : Prop := l.2.1 = l.1 ∨ l.2.1 = opp l.1 ∨ l.2.2 = 1
def chainedB : Kind → List Layers → Prop
  | _, [] => True
  | k, l :: ls => l.1 = k ∧ good l ∧ chainedB (kindBehind l) ls
theorem kindEnd_exLs (l : Layers) : kindEnd l.1 (exLs l) = kindBehind l := by
  unfold exLs kindBehind
  exact exL_end _ _ _
theorem chained_ex : ∀ (ls : List Layers) (k : Kind), chainedB k ls → chained k (ex ls)
  | [], k, _ => trivial
  | l :: ls, k, h => by
    obtain ⟨rfl, _, h⟩ := h
    simp only [ex]
    rw [chained_app]
    refine ⟨exL_chained _ _ _, ?_⟩
    rw [kindEnd_exLs]
    exact chained_ex ls _ h
def partB (l : Layers) (x : Nat × Nat) : Nat × Bool :=
  if l.2.1 == l.1 then (0, false)
  else if l.2.1 == opp l.1 then (if evenK l.1 then (l.2.2 * x.2, l.2.2 % 2 == 1) else (l.2.2 * x.1, false))
  else (begins l.1 l.2.1 x, contra l.1 l.2.1)
def pairsOn (k : Kind) (x : Nat × Nat) : Nat := if evenK k then x.1 else x.2
theorem pairsOn_num (k : Kind) (T : List Bool) : pairsOn k (rungs T) = num k T := rfl
def climbs (x : Nat × Nat) (c : Bool) (m : Nat) : Nat × Nat := if c then (x.1 + 2 * m * x.2, x.2) else (x.1, x.2 + 2 * m * x.1)
theorem rungs_many (c : Bool) (m : Nat) (T : List Bool) : rungs (List.replicate m c ++ T) = climbs (rungs T) c m := by
  cases c
  · rw [rungs_tails]; rfl
  · rw [rungs_heads]; rfl
def toldStep (l : Layers) (y : List Bool × Nat) : List Bool × Nat :=
  let b := partB l (rungs y.1)
  (List.replicate l.2.2 (coin l.1 l.2.1) ++ y.1, b.1 + (if b.2 then pairsOn l.2.1 (rungs y.1) - 1 - y.2 else y.2))
theorem val_step {l : Layers} {ls : List Layer} (h : good l) (hc : chained (kindBehind l) ls) : val (exLs l ++ ls) = toldStep l (val ls) := by
  obtain ⟨k, f, m⟩ := l
  have no : (opp k == k) = false := by
    obtain ⟨r, s⟩ := k
    cases r <;> cases s <;> rfl
  unfold toldStep partB exLs
  simp only
  by_cases h1 : f = k
  · subst h1
    rw [val_stay]
    simp
  · by_cases h2 : f = opp k
    · subst h2
      simp only [no, Bool.false_eq_true, if_false, beq_self_eq_true, if_true, coin_opp', pairsOn, evenK_opp]
      cases hk : evenK k
      · rw [val_odd ls m k hk]
        simp
      · have lt := val_lt ls _ hc
        have nm : num (kindBehind (k, opp k, m)) (val ls).1 = (rungs (val ls).1).1 := by
          unfold kindBehind num
          split <;> simp [evenK_opp, hk]
        rw [nm] at lt
        rw [val_even ls m k hk lt]
        simp [turnd]
    · have h3 : m = 1 := by
        rcases h with h | h | h
        · exact absurd h h1
        · exact absurd h h2
        · exact h
      subst h3
      simp only [beq_no h1, beq_no h2, Bool.false_eq_true, if_false, exL, List.cons_append, List.nil_append, val, turnd, pairsOn_num, List.replicate]
def told : List Layers → List Bool × Nat
  | [] => ([], 0)
  | l :: ls => toldStep l (told ls)
theorem told_val : ∀ (ls : List Layers) (k : Kind), chainedB k ls → told ls = val (ex ls)
  | [], k, _ => rfl
  | l :: ls, k, h => by
    obtain ⟨rfl, g, h⟩ := h
    simp only [told, ex]
    rw [val_step g (chained_ex ls _ h), told_val ls _ h]
def farIn (l : Layers) (far : Nat) (x : Nat × Nat) : Nat :=
  let b := partB l x
  if b.2 then pairsOn l.2.1 x - 1 - (far - b.1) else far - b.1
def layersAt (k : Kind) (far : Nat) (s : Strip) (x : Nat × Nat) : List Layers × Nat :=
  if s.1 == coin k k then ([(k, k, s.2)], far)
  else
    let inner := pairsOn k x
    let outer := x.1 + x.2 - inner
    let pairs := inner + 2 * s.2 * outer
    let middle := min (min (far / outer) ((pairs - 1 - far) / outer)) s.2
    let l0 : Layers := (k, opp k, middle)
    let far1 := farIn l0 far (climbs x s.1 (s.2 - middle))
    if middle == s.2 then ([l0], far1)
    else
      let left := s.2 - middle - 1
      let k1 := kindBehind l0
      let aside := if far1 < outer then near k1 else opp (near k1)
      let l1 : Layers := (k1, aside, 1)
      ([l0, l1, (aside, aside, left)], farIn l1 far1 (climbs x s.1 left))
theorem pairsOn_opp (k : Kind) (x : Nat × Nat) : pairsOn (opp k) x = pairsOn k x := by
  unfold pairsOn; rw [evenK_opp]
theorem pairsOn_near (k : Kind) (x : Nat × Nat) : pairsOn (near k) x = x.1 + x.2 - pairsOn k x := by
  obtain ⟨r, s⟩ := k
  cases r <;> cases s <;> simp [pairsOn, near, evenK]
theorem pairsOn_climbs {k : Kind} {c : Bool} (h : (c == coin k k) = false) (x : Nat × Nat) (m : Nat) :
    pairsOn k (climbs x c m) = pairsOn k x + 2 * m * pairsOn (near k) x ∧ pairsOn (near k) (climbs x c m) = pairsOn (near k) x := by
  rw [coin_self] at h
  obtain ⟨r, s⟩ := k
  cases r <;> cases s <;> cases c <;> simp [evenK] at h <;> simp [pairsOn, climbs, near, evenK]
def lastKind (k : Kind) (ls : List Layers) : Kind := ls.foldl (fun _ l => kindBehind l) k
theorem chainedB_app : ∀ (a b : List Layers) (k : Kind), chainedB k (a ++ b) ↔ chainedB k a ∧ chainedB (lastKind k a) b
  | [], b, k => by simp [chainedB, lastKind]
  | l :: a, b, k => by
    simp only [List.cons_append, chainedB, chainedB_app a b, lastKind, List.foldl_cons, and_assoc]
theorem step_farIn {l : Layers} {y : List Bool × Nat} {far : Nat} (h1 : (partB l (rungs y.1)).1 ≤ far) (h2 : far - (partB l (rungs y.1)).1 < pairsOn l.2.1 (rungs y.1))
    (hy : y.2 = farIn l far (rungs y.1)) : toldStep l y = (List.replicate l.2.2 (coin l.1 l.2.1) ++ y.1, far) := by
  unfold toldStep
  simp only [Prod.mk.injEq, true_and]
  rw [hy]
  unfold farIn
  simp only
  split <;> omega
end TL
namespace TL
theorem beq_no' {a b : Nat} (h : a ≠ b) : (a == b) = false := by simp [h]
theorem coin_of_no {k : Kind} {c : Bool} (h : (c == coin k k) = false) : coin k (opp k) = c ∧ evenK k = c := by
  rw [coin_self] at h
  rw [coin_opp']
  cases c <;> cases hk : evenK k <;> rw [hk] at h <;> simp_all
theorem partB_opp (k : Kind) (m : Nat) (x : Nat × Nat) : partB (k, opp k, m) x = (m * pairsOn (near k) x, evenK k && (m % 2 == 1)) := by
  unfold partB
  have e : (opp k == k) = false := by
    obtain ⟨r, s⟩ := k
    cases r <;> cases s <;> rfl
  simp only [e, Bool.false_eq_true, if_false, beq_self_eq_true, if_true]
  obtain ⟨r, s⟩ := k
  cases r <;> cases s <;> simp [evenK, pairsOn, near]
theorem partB_stay (k : Kind) (m : Nat) (x : Nat × Nat) : partB (k, k, m) x = (0, false) := by simp [partB]
theorem partB_near (k : Kind) (x : Nat × Nat) : partB (k, near k, 1) x = (0, contra k (near k)) := by
  unfold partB
  obtain ⟨r, s⟩ := k
  cases r <;> cases s <;> simp [near, opp, begins]
theorem partB_far (k : Kind) (x : Nat × Nat) : partB (k, opp (near k), 1) x = (x.1 + x.2, contra k (opp (near k))) := by
  unfold partB
  obtain ⟨r, s⟩ := k
  cases r <;> cases s <;> simp [near, opp, begins]
def toldAll (ls : List Layers) (y : List Bool × Nat) : List Bool × Nat := ls.foldr toldStep y
theorem told_app (a b : List Layers) : told (a ++ b) = toldAll a (told b) := by
  induction a with
  | nil => rfl
  | cons l a ih => simp [told, toldAll, ih]
theorem layersAt_ok (k : Kind) (far : Nat) (c : Bool) (m : Nat) (T : List Bool) (hf : far < num k (List.replicate m c ++ T)) :
    let r := layersAt k far (c, m) (rungs T)
    chainedB k r.1 ∧ r.2 < num (lastKind k r.1) T ∧ toldAll r.1 (T, r.2) = (List.replicate m c ++ T, far) := by
  intro r
  simp only [r]
  rw [← pairsOn_num, rungs_many] at hf
  unfold layersAt
  simp only
  cases hc : c == coin k k
  · simp only [Bool.false_eq_true, if_false]
    obtain ⟨ho, hev⟩ := coin_of_no hc
    generalize hx : rungs T = x at hf
    have pos : 1 ≤ x.1 ∧ 1 ≤ x.2 := by rw [← hx]; exact rungs_pos T
    rw [(pairsOn_climbs hc x m).1] at hf
    rw [← pairsOn_near]
    generalize hi : pairsOn k x = inner at hf
    generalize hou : pairsOn (near k) x = outer at hf
    have op : 1 ≤ outer := by
      rw [← hou]; unfold pairsOn; split <;> omega
    rw [show inner + 2 * m * outer = inner + 2 * (m * outer) by rw [Nat.mul_assoc]] at hf
    rw [show inner + 2 * m * outer = inner + 2 * (m * outer) by rw [Nat.mul_assoc]]
    generalize hmid : min (min (far / outer) ((inner + 2 * (m * outer) - 1 - far) / outer)) m = mid
    have m1 : mid * outer ≤ far := by
      have : mid ≤ far / outer := by omega
      exact Nat.le_trans (Nat.mul_le_mul_right _ this) (Nat.div_mul_le_self _ _)
    have m2 : mid * outer ≤ inner + 2 * (m * outer) - 1 - far := by
      have : mid ≤ (inner + 2 * (m * outer) - 1 - far) / outer := by omega
      exact Nat.le_trans (Nat.mul_le_mul_right _ this) (Nat.div_mul_le_self _ _)
    have mm : mid ≤ m := by omega
    -- the numbers below the middle
    have sp : m * outer = mid * outer + (m - mid) * outer := by rw [← Nat.add_mul]; congr 1; omega
    have P1 : pairsOn k (climbs x c (m - mid)) = inner + 2 * ((m - mid) * outer) := by
      rw [(pairsOn_climbs hc x (m - mid)).1, hi, hou, Nat.mul_assoc]
    have N1 : pairsOn (near k) (climbs x c (m - mid)) = outer := by rw [(pairsOn_climbs hc x (m - mid)).2, hou]
    have rT1 : rungs (List.replicate (m - mid) c ++ T) = climbs x c (m - mid) := by rw [rungs_many, hx]
    generalize hfar1 : farIn (k, opp k, mid) far (climbs x c (m - mid)) = far1
    have s0 : toldStep (k, opp k, mid) (List.replicate (m - mid) c ++ T, far1) = (List.replicate m c ++ T, far) := by
      have := step_farIn (l := (k, opp k, mid)) (y := (List.replicate (m - mid) c ++ T, far1)) (far := far)
        (by simp only; rw [rT1, partB_opp, N1]; exact m1)
        (by simp only; rw [rT1, partB_opp, N1, pairsOn_opp, P1]; simp only; omega)
        (by simp only; rw [rT1, hfar1])
      rw [this, ho, ← List.append_assoc]
      simp only [List.replicate_append_replicate]
      rw [show mid + (m - mid) = m by omega]
    have hfar1' : far1 = far - mid * outer ∨ far1 = inner + 2 * ((m - mid) * outer) - 1 - (far - mid * outer) := by
      rw [← hfar1]
      unfold farIn
      rw [partB_opp, N1]
      simp only
      split
      · right; rw [pairsOn_opp, P1]
      · left; rfl
    have kb : evenK (kindBehind (k, opp k, mid)) = evenK k := by
      unfold kindBehind
      split
      · exact evenK_opp k
      · rfl
    have pk : ∀ (k' : Kind) (x : Nat × Nat), evenK k' = evenK k → pairsOn k' x = pairsOn k x := fun k' x h => by unfold pairsOn; rw [h]
    have pn : ∀ (k' : Kind) (x : Nat × Nat), evenK k' = evenK k → pairsOn (near k') x = pairsOn (near k) x := fun k' x h => by
      rw [pairsOn_near, pairsOn_near, pk k' x h]
    by_cases hm : mid = m
    · subst hm
      simp only [beq_self_eq_true, if_true]
      refine ⟨⟨rfl, .inr (.inl rfl), trivial⟩, ?_, ?_⟩
      · simp only [lastKind, List.foldl_cons, List.foldl_nil]
        rw [← pairsOn_num, pk _ _ kb, hx, hi]
        have : (mid - mid) * outer = 0 := by rw [Nat.sub_self, Nat.zero_mul]
        rw [this] at hfar1'
        omega
      · simp only [toldAll, List.foldr_cons, List.foldr_nil]
        rw [Nat.sub_self] at s0
        simpa using s0
    · simp only [beq_no' hm, Bool.false_eq_true, if_false]
      generalize hk1 : kindBehind (k, opp k, mid) = k1 at kb
      generalize hleft : m - mid - 1 = left
      have hl1 : m - mid = left + 1 := by omega
      have spl : (m - mid) * outer = left * outer + outer := by rw [hl1, Nat.add_mul, Nat.one_mul]
      have hc1 : (c == coin k1 k1) = false := by rw [coin_self, kb, ← coin_self]; exact hc
      have ho1 := coin_of_no hc1
      have P2 : pairsOn k1 (climbs x c left) = inner + 2 * (left * outer) := by
        rw [(pairsOn_climbs hc1 x left).1, pk _ _ kb, pn _ _ kb, hi, hou, Nat.mul_assoc]
      have N2 : pairsOn (near k1) (climbs x c left) = outer := by rw [(pairsOn_climbs hc1 x left).2, pn _ _ kb, hou]
      have S2 : (climbs x c left).1 + (climbs x c left).2 = inner + 2 * (left * outer) + outer := by
        have := pairsOn_near k1 (climbs x c left)
        rw [P2, N2] at this
        have : inner + 2 * (left * outer) ≤ (climbs x c left).1 + (climbs x c left).2 := by
          rw [← P2]; unfold pairsOn; split <;> omega
        omega
      -- near an end
      have hend : far < (mid + 1) * outer ∨ inner + 2 * (m * outer) - 1 - far < (mid + 1) * outer := by
        have : far / outer < mid + 1 ∨ (inner + 2 * (m * outer) - 1 - far) / outer < mid + 1 := by omega
        rcases this with h | h
        · left; exact (Nat.div_lt_iff_lt_mul (by omega)).mp h
        · right; exact (Nat.div_lt_iff_lt_mul (by omega)).mp h
      rw [Nat.add_mul, Nat.one_mul] at hend
      have lt1 : far1 < inner + 2 * (left * outer + outer) := by
        rw [spl] at hfar1'; omega
      have near1 : far1 < outer ∨ inner + 2 * (left * outer + outer) - outer ≤ far1 := by
        rw [spl] at hfar1'
        omega
      have rT2 : rungs (List.replicate left c ++ T) = climbs x c left := by rw [rungs_many, hx]
      -- aside
      generalize has : (if far1 < outer then near k1 else opp (near k1)) = aside
      have asd : aside = near k1 ∨ aside = opp (near k1) := by
        rw [← has]; split <;> simp
      have cas : coin k1 aside = c ∧ coin aside aside = c ∧ ∀ y, pairsOn aside y = pairsOn (near k1) y := by
        have h1 : coin k1 (near k1) = c ∧ coin (near k1) (near k1) = c := by
          rw [← ho1.1]
          obtain ⟨r, s⟩ := k1
          cases r <;> cases s <;> decide
        have h2 : coin k1 (opp (near k1)) = c ∧ coin (opp (near k1)) (opp (near k1)) = c := by
          rw [← ho1.1]
          obtain ⟨r, s⟩ := k1
          cases r <;> cases s <;> decide
        rcases asd with rfl | rfl
        · exact ⟨h1.1, h1.2, fun y => rfl⟩
        · exact ⟨h2.1, h2.2, fun y => pairsOn_opp _ _⟩
      have pa : (partB (k1, aside, 1) (climbs x c left)).1 ≤ far1 ∧ far1 - (partB (k1, aside, 1) (climbs x c left)).1 < outer := by
        by_cases h : far1 < outer
        · rw [if_pos h] at has
          rw [← has, partB_near]
          simp only
          omega
        · rw [if_neg h] at has
          rw [← has, partB_far]
          simp only
          rw [S2]
          omega
      generalize hfar2 : farIn (k1, aside, 1) far1 (climbs x c left) = far2
      have lt2 : far2 < outer := by
        rw [← hfar2]
        unfold farIn
        simp only
        rw [cas.2.2, N2]
        split <;> omega
      have s1 : toldStep (k1, aside, 1) (List.replicate left c ++ T, far2) = (List.replicate (m - mid) c ++ T, far1) := by
        have := step_farIn (l := (k1, aside, 1)) (y := (List.replicate left c ++ T, far2)) (far := far1)
          (by simp only; rw [rT2]; exact pa.1)
          (by simp only; rw [rT2, cas.2.2, N2]; exact pa.2)
          (by simp only; rw [rT2, hfar2])
        rw [this, cas.1, hl1]
        simp [List.replicate_succ]
      refine ⟨⟨rfl, .inr (.inl rfl), by rw [hk1], .inr (.inr rfl), ?_, .inl rfl, trivial⟩, ?_, ?_⟩
      · simp [kindBehind]
      · simp only [lastKind, List.foldl_cons, List.foldl_nil]
        have : kindBehind (aside, aside, left) = aside := by unfold kindBehind; split <;> rfl
        rw [this, ← pairsOn_num, cas.2.2, hx, pn _ _ kb, hou]
        exact lt2
      · simp only [toldAll, List.foldr_cons, List.foldr_nil]
        have s2 : toldStep (aside, aside, left) (T, far2) = (List.replicate left c ++ T, far2) := by
          unfold toldStep
          simp only
          rw [partB_stay, cas.2.1]
          simp
        rw [s2, s1, s0]
  · simp only [if_true]
    have hcc := eq_of_beq hc
    refine ⟨⟨rfl, .inl rfl, trivial⟩, ?_, ?_⟩
    · simp only [lastKind, List.foldl_cons, List.foldl_nil]
      have : kindBehind (k, k, m) = k := by unfold kindBehind; split <;> rfl
      rw [this, ← pairsOn_num]
      rw [hcc, coin_self] at hf
      generalize rungs T = x at hf ⊢
      unfold pairsOn climbs at *
      cases hk : evenK k <;> rw [hk] at hf <;> simpa using hf
    · simp only [toldAll, List.foldr_cons, List.foldr_nil]
      unfold toldStep
      simp only
      rw [partB_stay, ← hcc]
      simp
def layersDown : Kind → Nat → List Strip → List Layers
  | _, _, [] => []
  | k, far, s :: D => let r := layersAt k far s (rungs (flat D)); r.1 ++ layersDown (lastKind k r.1) r.2 D
theorem layersDown_ok : ∀ (D : List Strip) (k : Kind) (far : Nat), far < num k (flat D) →
    chainedB k (layersDown k far D) ∧ told (layersDown k far D) = (flat D, far)
  | [], k, far, h => by
    have : far = 0 := by
      obtain ⟨r, s⟩ := k
      cases r <;> cases s <;> simp [num, evenK, rungs, flat] at h <;> omega
    subst this
    exact ⟨trivial, rfl⟩
  | (c, m) :: D, k, far, h => by
    rw [flat_cons] at h
    obtain ⟨a, b, t⟩ := layersAt_ok k far c m (flat D) h
    obtain ⟨ih1, ih2⟩ := layersDown_ok D _ _ b
    simp only [layersDown]
    refine ⟨(chainedB_app _ _ _).mpr ⟨a, ih1⟩, ?_⟩
    rw [told_app, ih2, t, flat_cons]
theorem layersDown_pair (D : List Strip) (k : Kind) (far : Nat) (h : far < num k (flat D)) :
    wrapAll (ex (layersDown k far D)) ([], []) = pairAt k (flat D) far := by
  obtain ⟨a, b⟩ := layersDown_ok D k far h
  have := pairAt_val (ex (layersDown k far D)) k (chained_ex _ k a)
  rw [← told_val _ k a, b] at this
  exact this.symm
def endsB (who r : Bool) (ls : List Layers) : List Strip :=
  (ls.flatMap oneWay).filterMap fun w => if (if who then w.1.1 else w.1.2) == r then some (if who then w.2.1.2 else w.2.1.1, w.2.2) else Option.none
theorem exL_stay_ends (r : Bool) : ∀ (m : Nat) (k : Kind), endsOf r (ones (exL k k m)) = (if k.1 == r then List.replicate m k.2 else []) ∧ endsOf r (others (exL k k m)) = (if k.2 == r then List.replicate m k.1 else [])
  | 0, k => by simp [exL, ones, others, endsOf]
  | m + 1, k => by
    have ih := exL_stay_ends r m k
    simp only [exL, ones, others, List.map_cons, endsOf] at ih ⊢
    rw [ih.1, ih.2]
    constructor <;> split <;> simp [List.replicate_succ]
theorem exL_opp_ends (r : Bool) : ∀ (m : Nat) (k : Kind), endsOf r (ones (exL k (opp k) m)) = (if k.1 == r then List.replicate ((m + 1) / 2) (!k.2) else List.replicate (m / 2) k.2) ∧
    endsOf r (others (exL k (opp k) m)) = (if k.2 == r then List.replicate ((m + 1) / 2) (!k.1) else List.replicate (m / 2) k.1)
  | 0, k => by simp [exL, ones, others, endsOf]
  | m + 1, k => by
    have ih := exL_opp_ends r m (opp k)
    rw [opp_opp] at ih
    have e1 : (m + 1 + 1) / 2 = m / 2 + 1 := by omega
    simp only [exL, ones, others, List.map_cons, endsOf] at ih ⊢
    rw [ih.1, ih.2, e1]
    obtain ⟨a, b⟩ := k
    constructor
    · cases a <;> cases b <;> cases r <;> simp [opp, List.replicate_succ]
    · cases a <;> cases b <;> cases r <;> simp [opp, List.replicate_succ]
theorem endsB_cons (who r : Bool) (l : Layers) (ls : List Layers) : endsB who r (l :: ls) = endsB who r [l] ++ endsB who r ls := by
  simp [endsB]
theorem endsB_one {l : Layers} (h : good l) (r : Bool) : flat (endsB true r [l]) = endsOf r (ones (exLs l)) ∧ flat (endsB false r [l]) = endsOf r (others (exLs l)) := by
  obtain ⟨k, f, m⟩ := l
  unfold good at h
  simp only at h
  by_cases h2 : f = opp k
  · subst h2
    have := exL_opp_ends r m k
    unfold exLs
    rw [this.1, this.2]
    obtain ⟨a, b⟩ := k
    by_cases m0 : m = 0
    · subst m0
      cases a <;> cases b <;> cases r <;> simp [endsB, oneWay, opp, flat]
    · by_cases m1 : m = 1
      · subst m1
        cases a <;> cases b <;> cases r <;> simp [endsB, oneWay, opp, flat]
      · have q1 : 0 < (m + 1) / 2 := by omega
        have q2 : 0 < m / 2 := by omega
        have q3 : 2 ≤ m := by omega
        have q4 : 1 ≤ m := by omega
        cases a <;> cases b <;> cases r <;> simp [endsB, oneWay, opp, flat, q1, q2, q3, q4]
  · have no : (f == opp k) = false := beq_no h2
    have ow : oneWay (k, f, m) = [(k, f, m)] := by simp [oneWay, no]
    rcases h with h | h | h
    · subst h
      have := exL_stay_ends r m f
      unfold exLs
      rw [this.1, this.2]
      obtain ⟨a, b⟩ := f
      simp only [endsB, List.flatMap_cons, List.flatMap_nil, ow, List.append_nil]
      cases a <;> cases b <;> cases r <;> simp [flat]
    · exact absurd h h2
    · subst h
      simp only [endsB, List.flatMap_cons, List.flatMap_nil, ow, List.append_nil, exLs, exL, ones, others, List.map_cons, List.map_nil, endsOf]
      obtain ⟨a, b⟩ := k
      cases a <;> cases b <;> cases r <;> simp [flat]
theorem ones_app (a b : List Layer) : ones (a ++ b) = ones a ++ ones b := by simp [ones]
theorem others_app (a b : List Layer) : others (a ++ b) = others a ++ others b := by simp [others]
theorem endsB_ok (r : Bool) : ∀ (ls : List Layers) (k : Kind), chainedB k ls → flat (endsB true r ls) = endsOf r (ones (ex ls)) ∧ flat (endsB false r ls) = endsOf r (others (ex ls))
  | [], k, _ => by simp [endsB, ex, ones, others, endsOf, flat]
  | l :: ls, k, h => by
    obtain ⟨_, g, h⟩ := h
    have ih := endsB_ok r ls _ h
    have one := endsB_one g r
    rw [endsB_cons true r l ls, endsB_cons false r l ls, flat_app, flat_app, ih.1, ih.2, one.1, one.2]
    simp only [ex]
    rw [ones_app, others_app, endsOf_app, endsOf_app]
    exact ⟨rfl, rfl⟩
theorem pairB {ls : List Layers} {k : Kind} (h : chainedB k ls) : wrapAll (ex ls) ([], []) =
    (flat (endsB true true ls ++ (endsB true false ls).reverse), flat (endsB false true ls ++ (endsB false false ls).reverse)) := by
  have t := endsB_ok true ls k h
  have f := endsB_ok false ls k h
  rw [wrapAll_ends, flat_app, flat_app, flat_rev, flat_rev, t.1, t.2, f.1, f.2]
  simp
end TL
namespace TLR
open Dn PR LB LA
open TL (Strip flat posS)
def stripsGo : Int → RowT → Int → List Strip
  | f, [], n => [(false, (n + 1 - f).toNat)]
  | f, q :: r, n => (false, (q.1 - f).toNat) :: (true, (q.2 - q.1 + 1).toNat) :: stripsGo (q.2 + 1) r n
def stripsR (r : RowT) (n : Int) : List Strip := (stripsGo 1 r n).filter fun s => decide (0 < s.2)
theorem flat_filter (S : List Strip) : flat (S.filter fun s => decide (0 < s.2)) = flat S := by
  induction S with
  | nil => rfl
  | cons s S ih =>
    obtain ⟨c, m⟩ := s
    rw [List.filter_cons]
    cases m with
    | zero => simp [ih, TL.flat_cons]
    | succ m => simp [ih, TL.flat_cons]
def bitsFrom (f : Int) (m : Nat) (r : RowT) : List Bool := (List.range m).map fun (i : Nat) => hasB r (f + i)
theorem bitsFrom_bits (n : Nat) (r : RowT) : bitsFrom 1 n r = bits n r := by
  unfold bitsFrom bits
  apply List.map_congr_left
  intro i _
  congr 1
  omega
theorem bitsFrom_add (f : Int) (a b : Nat) (r : RowT) : bitsFrom f (a + b) r = bitsFrom f a r ++ bitsFrom (f + a) b r := by
  unfold bitsFrom
  rw [List.range_add, List.map_append, List.map_map]
  congr 1
  apply List.map_congr_left
  intro i _
  simp only [Function.comp]
  congr 1
  push_cast
  omega
theorem bitsFrom_const {f : Int} {m : Nat} {r : RowT} {c : Bool} (h : ∀ i : Nat, i < m → hasB r (f + i) = c) : bitsFrom f m r = List.replicate m c := by
  apply List.ext_getElem?
  intro i
  unfold bitsFrom
  by_cases hi : i < m
  · simp [hi, h i hi]
  · simp [hi]
theorem bitsFrom_congr {f : Int} {m : Nat} {r s : RowT} (h : ∀ i : Nat, i < m → hasB r (f + i) = hasB s (f + i)) : bitsFrom f m r = bitsFrom f m s := by
  unfold bitsFrom
  apply List.map_congr_left
  intro i hi
  exact h i (List.mem_range.mp hi)
theorem strips_go : ∀ (r : RowT) (f : Int) (n : Int), okF f r = true → (∀ q ∈ r, q.2 ≤ n) → f ≤ n + 1 →
    flat (stripsGo f r n) = bitsFrom f (n + 1 - f).toNat r
  | [], f, n, _, _, h => by
    simp only [stripsGo, TL.flat_one]
    exact (bitsFrom_const fun i _ => by simp [hasB]).symm
  | q :: r, f, n, ok, hn, h => by
    have ok' := ok
    rw [okF_cons] at ok
    have hq := hn q List.mem_cons_self
    have ih := strips_go r (q.2 + 1) n (okF_mono (by omega) ok.2.2) (fun y hy => hn y (List.mem_cons_of_mem _ hy)) (by omega)
    simp only [stripsGo, TL.flat_cons]
    have e : (n + 1 - f).toNat = (q.1 - f).toNat + ((q.2 - q.1 + 1).toNat + (n + 1 - (q.2 + 1)).toNat) := by omega
    rw [e, bitsFrom_add, bitsFrom_add, ih]
    have e1 : f + ((q.1 - f).toNat : Int) = q.1 := by omega
    have e2 : q.1 + ((q.2 - q.1 + 1).toNat : Int) = q.2 + 1 := by omega
    rw [e1, e2]
    congr 1
    · refine (bitsFrom_const fun i hi => ?_).symm
      rw [hasB_cons]
      have : ¬ q.1 ≤ f + (i : Int) := by omega
      simp only [this, decide_false, Bool.false_and, Bool.false_or]
      exact hasB_not fun z => by have := mem_ge ok.2.2 z; omega
    · congr 1
      · refine (bitsFrom_const fun i hi => ?_).symm
        rw [hasB_cons]
        have h1 : q.1 ≤ q.1 + (i : Int) := by omega
        have h2 : q.1 + (i : Int) ≤ q.2 := by omega
        simp [h1, h2]
      · refine bitsFrom_congr fun i hi => ?_
        rw [hasB_cons]
        have : ¬ q.2 + 1 + (i : Int) ≤ q.2 := by omega
        simp [this]
theorem strips_flat {n : Nat} {r : RowT} (h : within n r) : flat (stripsR r n) = bits n r := by
  unfold stripsR
  rw [flat_filter, strips_go r 1 n h.1 h.2 (by omega), ← bitsFrom_bits]
  congr 1
  omega
def rowSt (x : RowT × Int) (s : Strip) : RowT × Int :=
  (if s.1 = true ∧ 0 < s.2 then
    (if x.1 ≠ [] ∧ lastE x.1 = x.2 then x.1.dropLast ++ [((x.1.getLastD (0, 0)).1, x.2 + s.2)] else x.1 ++ [(x.2 + 1, x.2 + s.2)])
   else x.1, x.2 + s.2)
def rowS (S : List Strip) : RowT := (S.foldl rowSt ([], 0)).1
theorem lastE_app (a : RowT) (q : Int × Int) : lastE (a ++ [q]) = q.2 := by simp [lastE]
theorem split_last {r : RowT} (h : r ≠ []) : ∃ a q, r = a ++ [q] := ⟨r.dropLast, r.getLast h, (List.dropLast_concat_getLast h).symm⟩
theorem nextF_last : ∀ (a : RowT) (f : Int) (q : Int × Int), nextF f (a ++ [q]) = q.2 + 2
  | [], f, q => rfl
  | p :: a, f, q => nextF_last a _ q
structure RowInv (x : RowT × Int) (A : List Bool) : Prop where
  ok : okF 1 x.1 = true
  top : ∀ q ∈ x.1, q.2 ≤ x.2
  place : x.2 = A.length
  bit : bits A.length x.1 = A
theorem bits_app {n m : Nat} {r : RowT} : bits (n + m) r = bits n r ++ bitsFrom ((n : Int) + 1) m r := by
  rw [← bitsFrom_bits, bitsFrom_add, bitsFrom_bits]
  congr 2
  omega
theorem hasB_out {r : RowT} {p m : Int} (h : ∀ q ∈ r, q.2 ≤ m) (hp : m < p) : hasB r p = false := by
  refine hasB_not ?_
  rintro ⟨q, hq, z1, z2⟩
  have := h q hq
  omega
theorem rowSt_inv {x : RowT × Int} {A : List Bool} (h : RowInv x A) (c : Bool) (m : Nat) : RowInv (rowSt x (c, m)) (A ++ List.replicate m c) := by
  obtain ⟨r, p⟩ := x
  obtain ⟨ok, top, place, bit⟩ := h
  simp only at ok top place bit
  by_cases h1 : c = true ∧ 0 < m
  · obtain ⟨rfl, hm⟩ := h1
    by_cases h2 : r ≠ [] ∧ lastE r = p
    · obtain ⟨hr, hl⟩ := h2
      obtain ⟨a, q, rfl⟩ := split_last hr
      rw [lastE_app] at hl
      have e : rowSt (a ++ [q], p) (true, m) = (a ++ [(q.1, p + m)], p + m) := by
        simp [rowSt, hm, lastE_app, hl]
      rw [e]
      rw [okF_app] at ok
      have okq := ok.2
      rw [okF_cons] at okq
      have qt := top q (by simp)
      refine ⟨?_, ?_, ?_, ?_⟩
      · rw [okF_app]
        refine ⟨ok.1, ?_⟩
        rw [okF_cons]
        exact ⟨okq.1, by (try simp only); omega, rfl⟩
      · intro y hy
        simp only [List.mem_append, List.mem_singleton] at hy ⊢
        rcases hy with hy | rfl
        · have := top y (by simp [hy]); (try simp only); omega
        · exact Int.le_refl _
      · simp only [List.length_append, List.length_replicate]; omega
      · simp only [List.length_append, List.length_replicate]
        rw [bits_app]
        congr 1
        · rw [← bit]
          simp only [bits_len]
          unfold bits
          apply List.map_congr_left
          intro i hi
          have hi' := List.mem_range.mp hi
          rw [hasB_app, hasB_app]
          congr 1
          simp only [hasB, List.any_cons, List.any_nil, Bool.or_false]
          have h3 : (i : Int) + 1 ≤ p := by omega
          have h4 : (i : Int) + 1 ≤ p + m := by omega
          have h5 : (i : Int) + 1 ≤ q.2 := by omega
          simp [h4, h5]
        · refine bitsFrom_const fun i hi => ?_
          rw [hasB_app]
          have h3 : q.1 ≤ (A.length : Int) + 1 + i := by omega
          have h4 : (A.length : Int) + 1 + i ≤ p + m := by omega
          have : hasB [(q.1, p + (m : Int))] ((A.length : Int) + 1 + i) = true := by simp [hasB, h3, h4]
          rw [this, Bool.or_true]
    · have e : rowSt (r, p) (true, m) = (r ++ [(p + 1, p + m)], p + m) := by
        simp only [rowSt, hm, and_self, if_true, if_neg h2]
      rw [e]
      refine ⟨?_, ?_, ?_, ?_⟩
      · rw [okF_app]
        refine ⟨ok, ?_⟩
        have : nextF 1 r ≤ p + 1 := by
          by_cases hr : r = []
          · subst hr; show (1 : Int) ≤ p + 1; omega
          · obtain ⟨a, q, rfl⟩ := split_last hr
            rw [nextF_last]
            have h3 := top q (by simp)
            have h4 : q.2 ≠ p := fun z => h2 ⟨hr, by rw [lastE_app]; exact z⟩
            omega
        rw [okF_cons]
        exact ⟨this, by (try simp only); omega, rfl⟩
      · intro y hy
        simp only [List.mem_append, List.mem_singleton] at hy ⊢
        rcases hy with hy | rfl
        · have := top y hy; (try simp only); omega
        · exact Int.le_refl _
      · simp only [List.length_append, List.length_replicate]; omega
      · simp only [List.length_append, List.length_replicate]
        rw [bits_app]
        congr 1
        · conv => rhs; rw [← bit]
          unfold bits
          apply List.map_congr_left
          intro i hi
          have hi' := List.mem_range.mp hi
          rw [hasB_app]
          have h3 : ¬ p + 1 ≤ (i : Int) + 1 := by omega
          have : hasB [(p + 1, p + (m : Int))] ((i : Int) + 1) = false := by simp [hasB, h3]
          rw [this, Bool.or_false]
        · refine bitsFrom_const fun i hi => ?_
          rw [hasB_app]
          have h3 : p + 1 ≤ (A.length : Int) + 1 + i := by omega
          have h4 : (A.length : Int) + 1 + i ≤ p + m := by omega
          have : hasB [(p + 1, p + (m : Int))] ((A.length : Int) + 1 + i) = true := by simp [hasB, h3, h4]
          rw [this, Bool.or_true]
  · have e : rowSt (r, p) (c, m) = (r, p + m) := by
      simp only [rowSt, if_neg h1]
    rw [e]
    refine ⟨ok, fun q hq => ?_, ?_, ?_⟩
    · have := top q hq; (try simp only); omega
    · simp only [List.length_append, List.length_replicate]; omega
    · simp only [List.length_append, List.length_replicate]
      rw [bits_app, bit]
      congr 1
      refine bitsFrom_const fun i hi => ?_
      have : c = false := by
        cases c with
        | false => rfl
        | true => exact absurd ⟨rfl, by omega⟩ h1
      rw [this]
      exact hasB_out (m := p) top (by omega)
theorem rowS_inv : ∀ (S : List Strip) (x : RowT × Int) (A : List Bool), RowInv x A → RowInv (S.foldl rowSt x) (A ++ flat S)
  | [], x, A, h => by simpa [TL.flat_nil] using h
  | (c, m) :: S, x, A, h => by
    rw [List.foldl_cons, TL.flat_cons, ← List.append_assoc]
    exact rowS_inv S _ _ (rowSt_inv h c m)
theorem rowS_ok (S : List Strip) : within (flat S).length (rowS S) ∧ bits (flat S).length (rowS S) = flat S := by
  have h0 : RowInv ([], 0) [] := ⟨rfl, fun q hq => (by cases hq), rfl, rfl⟩
  have h := rowS_inv S _ _ h0
  simp only [List.nil_append] at h
  refine ⟨⟨h.ok, fun q hq => ?_⟩, h.bit⟩
  have := h.top q hq
  have := h.place
  omega
def rises : Bool → List Bool → Nat
  | _, [] => 0
  | p, c :: A => (if c && !p then 1 else 0) + rises c A
theorem rises_head : ∀ A : List Bool, rises true A + (if A.headD false then 1 else 0) = rises false A
  | [] => rfl
  | c :: A => by cases c <;> simp [rises]; omega
theorem rises_app : ∀ (A : List Bool) (p c : Bool), rises p (A ++ [c]) = rises p A + (if c && !(A.getLastD p) then 1 else 0)
  | [], p, c => by simp [rises]
  | a :: A, p, c => by
    simp only [List.cons_append, rises, rises_app A a c]
    have : (a :: A).getLastD p = A.getLastD a := by
      simp [List.getLastD_eq_getLast?, List.getLast?_cons]
    rw [this]
    omega
theorem rises_rev : ∀ A : List Bool, rises false A.reverse = rises false A
  | [] => rfl
  | c :: A => by
    rw [List.reverse_cons, rises_app, rises_rev A]
    have h := rises_head A
    have e : A.reverse.getLastD false = A.headD false := by
      simp [List.getLastD_eq_getLast?]
    rw [e]
    cases c
    · simp [rises]
    · simp only [rises, Bool.true_and, Bool.not_false, if_true]
      generalize A.headD false = y at h ⊢
      cases y <;> simp at h ⊢ <;> omega
theorem rowB_len : ∀ (A : List Bool) (o : Nat), (rowB o A).length = rises false A
  | [], o => rfl
  | false :: A, o => by
    simp only [rowB, rises, rowB_len A]
    simp
  | true :: A, o => by
    have ih := rowB_len A (o + 1)
    have hh := rises_head A
    simp only [rowB, rises, Bool.not_false, Bool.and_self, if_true]
    cases e : rowB (o + 1) A with
    | nil =>
      rw [e] at ih
      simp only [List.length_nil, List.length_singleton] at ih ⊢
      omega
    | cons q r =>
      rw [e] at ih
      simp only [List.length_cons] at ih ⊢
      -- whether the next coin shows heads
      have hm := rowB_mem A (o + 1) ((o : Int) + 2)
      have okq := rowB_ok A (o + 1)
      rw [e, okF_cons] at okq
      rw [e] at hm
      have first : q.1 = (o : Int) + 2 ↔ A.headD false = true := by
        constructor
        · intro h
          obtain ⟨i, h1, h2⟩ := hm.mp (mem_cons.mpr (.inl ⟨by omega, by omega⟩))
          have : i = 0 := by push_cast at h1; omega
          subst this
          cases A with
          | nil => simp at h2
          | cons a A => simpa using h2
        · intro h
          have : memR (q :: r) ((o : Int) + 2) := hm.mpr ⟨0, by push_cast; omega, by cases A with
            | nil => simp at h
            | cons a A => simpa using h⟩
          rcases mem_cons.mp this with z | z
          · have := okq.1; push_cast at this; omega
          · have := mem_ge okq.2.2 z
            have := okq.1
            have := okq.2.1
            push_cast at *
            omega
      split
      · rename_i h
        rw [first.mp h] at hh
        simp only [List.length_cons, if_true] at hh ⊢
        omega
      · rename_i h
        have : A.headD false = false := by
          cases h' : A.headD false with
          | false => rfl
          | true => exact absurd (first.mpr h') h
        rw [this] at hh
        simp only [List.length_cons, Bool.false_eq_true, if_false] at hh ⊢
        omega
theorem row_rises {n : Nat} {r : RowT} (h : within n r) : r.length = rises false (bits n r) := by
  have := rowB_len (bits n r) 0
  rwa [rowB_bits h] at this
end TLR
namespace TLR
open TL (Row rowL runsL put)
theorem rises_cons (p c : Bool) (A : List Bool) : rises p (c :: A) = (if c && !p then 1 else 0) + rises c A := rfl
theorem last_head {r c : Bool} {T : List Bool} : (rowL false (c :: T)).getLastD false = c ∧ (rowL true (c :: T)).headD false = !c := by
  cases c <;> simp [rowL, put, List.getLastD_eq_getLast?]
theorem getLast_cons {a : Bool} {A : List Bool} (h : A ≠ []) (d : Bool) : (a :: A).getLastD d = A.getLastD d := by
  cases A with
  | nil => exact absurd rfl h
  | cons b A => simp [List.getLastD_eq_getLast?, List.getLast?_cons]
theorem rowL_ne {r : Bool} {T : List Bool} (h : T ≠ []) : rowL r T ≠ [] := fun e => by
  have := TL.rowL_len T r
  rw [e] at this
  exact h (List.eq_nil_of_length_eq_zero this.symm)
theorem rises_put (a : Bool) (A : List Bool) : rises false (a :: A) = rises false A + (if a && !(A.headD false) then 1 else 0) := by
  have h := rises_head A
  rw [rises_cons]
  cases a
  · simp
  · simp only [Bool.true_and, Bool.not_false, if_true]
    cases hh : A.headD false <;> rw [hh] at h <;> simp at h ⊢ <;> omega
theorem runs_rises : ∀ T : List Bool, rises false (rowL false T) = rises false T ∧
    rises false (rowL true T) + (if (rowL true T).getLastD false then 0 else 1) = 1 + rises true T
  | [] => by simp [rowL, rises]
  | c :: T => by
    obtain ⟨i1, i2⟩ := runs_rises T
    have hh := rises_head T
    cases c
    · refine ⟨?_, ?_⟩
      · show rises false (put false false (rowL false T)) = _
        rw [rises_cons]
        simp only [put, Bool.false_eq_true, if_false, Bool.false_and, Nat.zero_add]
        rw [rises_app]
        simpa using i1
      · show rises false (put true true (rowL true T)) + (if (put true true (rowL true T)).getLastD false then 0 else 1) = _
        simp only [put, if_true]
        by_cases hT : T = []
        · subst hT; simp [rowL, rises, List.getLastD_eq_getLast?]
        · rw [getLast_cons (rowL_ne hT), rises_put, rises_cons]
          obtain ⟨d, U, rfl⟩ : ∃ d U, T = d :: U := by
            cases T with
            | nil => exact absurd rfl hT
            | cons d U => exact ⟨d, U, rfl⟩
          have hd := (last_head (r := true) (c := d) (T := U)).2
          rw [hd]
          simp only [List.headD_cons] at hh
          generalize (if (rowL true (d :: U)).getLastD false = true then 0 else 1) = z at *
          generalize rises false (rowL true (d :: U)) = w at *
          generalize rises true (d :: U) = u at *
          generalize rises false (d :: U) = v at *
          cases d <;> simp at hh ⊢ <;> omega
    · refine ⟨?_, ?_⟩
      · show rises false (put false true (rowL true T)) = _
        rw [rises_cons]
        simp only [put, Bool.false_eq_true, if_false]
        rw [rises_app]
        cases hl : (rowL true T).getLastD false <;> rw [hl] at i2 <;> simp at i2 ⊢ <;> omega
      · show rises false (put true false (rowL false T)) + (if (put true false (rowL false T)).getLastD false then 0 else 1) = _
        simp only [put, if_true]
        by_cases hT : T = []
        · subst hT; simp [rowL, rises, List.getLastD_eq_getLast?]
        · rw [getLast_cons (rowL_ne hT), rises_put, rises_cons]
          obtain ⟨d, U, rfl⟩ : ∃ d U, T = d :: U := by
            cases T with
            | nil => exact absurd rfl hT
            | cons d U => exact ⟨d, U, rfl⟩
          have hd := (last_head (r := true) (c := d) (T := U)).1
          rw [hd]
          simp only [List.headD_cons] at hh
          cases d <;> simp at hh ⊢ <;> omega
theorem row_of_runs (T : List Bool) : rises false (rowL false T) = rises false T.reverse := by
  rw [(runs_rises T).1, rises_rev]
end TLR
namespace LC
open PySem L2 Dn PR LB
def BOK (m : Int) (j : List D) : Prop := ∃ a b c : Int, j = [.int a, .int b, .int c] ∧ 0 ≤ a ∧ 0 ≤ b ∧ b ≤ tenP 42 ∧ 0 ≤ c ∧ c ≤ m
theorem BOK.mono {m n : Int} {j : List D} (h : BOK m j) (hm : m ≤ n) : BOK n j := by
  obtain ⟨a, b, c, e, h1, h2, h3, h4, h5⟩ := h
  exact ⟨a, b, c, e, h1, h2, h3, h4, by omega⟩
theorem pw_ok {b : Int} {n : Int} (h : cPow b n = true) (ρ : List Sl) : mBin (fI cPow fun i j => i ^ j.toNat) (mC (.int b)) (mC (.int n)) ρ = some (.val (.int (b ^ n.toNat)), ρ) := by
  have e : fI cPow (fun i j => i ^ j.toNat) (.val (.int b)) (.val (.int n)) = some (.val (.int (b ^ n.toNat))) := if_pos h
  show (match fI cPow (fun i j => i ^ j.toNat) (.val (.int b)) (.val (.int n)) with | none => none | some z => some (z, ρ)) = _
  rw [e]
theorem pw41 : cPow 10 41 = true := by decide +kernel
theorem pw39 : cPow 10 39 = true := by decide +kernel
theorem pw37 : cPow 10 37 = true := by decide +kernel
theorem pw3 : cPow 73856093 3 = true := by decide +kernel
theorem pw4 : cPow 715827883 4 = true := by decide +kernel
theorem p41 : (0 : Int) < 10 ^ 41 + 63 := by decide +kernel
theorem p39 : (0 : Int) < 10 ^ 39 + 33 := by decide +kernel
theorem p37 : (0 : Int) < 10 ^ 37 + 43 := by decide +kernel
theorem s41 : Sm (10 ^ 41 + 63) := by unfold Sm; decide +kernel
theorem s39b : (10 : Int) ^ 39 + 33 + 10 ^ 16 * 19349663 ≤ 2 ^ 400 := by decide +kernel
theorem s65537 : Sm 65537 := by unfold Sm; decide +kernel
theorem sm_lit {n : Int} (h : n ≤ 10 ^ 8) : Sm n := Int.lt_of_le_of_lt h big8
theorem cPow5_ok {b : Int} (h0 : 0 ≤ b) (h : Sm b) : cPow b 5 = true := by
  have := log2_small h0 h (by decide)
  simp only [cPow, Bool.and_eq_true, decide_eq_true_eq]
  exact ⟨by decide, by decide, by omega⟩
theorem cMulR {a b : Int} (h : b.natAbs.log2 < 60) : cMul a b = true := by
  unfold cMul
  rw [decide_eq_true h, Bool.or_true, Bool.or_true]
theorem cMulL {a b : Int} (h : a.natAbs.log2 < 60) : cMul a b = true := by
  unfold cMul
  rw [decide_eq_true h, Bool.true_or, Bool.or_true]
theorem draw_a {n a b c : Int} (hn : 0 < n) (hn2 : Sm n) (ha : 1 < a) :
    mf__law_draw [.own [.int a, .int b, .int c], .val (.int n)] = some (.val (.int (a % n)), [.own [.int (a / n), .int b, .int c], .un]) := by
  simp [mf__law_draw, mb__law_draw, atI_0, ha, cMod_ok hn, cDiv_ok hn hn2, ix0, -cMod, -cDiv]
theorem draw_b {n a b c : Int} (hn : 0 < n) (ha : ¬ 1 < a) (N3 N1 X Y Z F : Int) (h1 : 19349663 = N1) (hF : 65537 = F)
    (M3 M41 M39 M37 : MX) (e3 : ∀ ρ, M3 ρ = some (.val (.int N3), ρ)) (e41 : ∀ ρ, M41 ρ = some (.val (.int X), ρ)) (e39 : ∀ ρ, M39 ρ = some (.val (.int Y), ρ)) (e37 : ∀ ρ, M37 ρ = some (.val (.int Z), ρ))
    (f3 : mBin (fI cPow fun i j => i ^ j.toNat) (mC (.int 73856093)) (mC (.int 3)) = M3) (f41 : mBin (fI cPow fun i j => i ^ j.toNat) (mC (.int 10)) (mC (.int 41)) = M41)
    (f39 : mBin (fI cPow fun i j => i ^ j.toNat) (mC (.int 10)) (mC (.int 39)) = M39) (f37 : mBin (fI cPow fun i j => i ^ j.toNat) (mC (.int 10)) (mC (.int 37)) = M37)
    (hc1 : cMul (c + 1) N3 = true) (hc2 : cMul (c + 1) N1 = true) (hmo : ∀ i, cMod i (X + 63) = true) (hmo2 : ∀ i, cMod i (Y + 33) = true) (hmo3 : ∀ i, cMod i (Z + 43) = true) (hdi : ∀ i, cDiv i F = true)
    (u : Int) (hu : (b + (c + 1) * N3) % (X + 63) = u) (hp1 : cPow u 3 = true) (v : Int) (hv : u ^ 3 % (Y + 33) + (c + 1) * N1 = v) (hp2 : cPow v 5 = true) :
    mf__law_draw [.own [.int a, .int b, .int c], .val (.int n)] = some (.val (.int (v ^ 5 % (Z + 43) / F % n)), [.own [.int a, .int b, .int (c + 1)], .un]) := by
  unfold mf__law_draw mb__law_draw
  rw [h1, hF, f3, f41, f39, f37]
  have t5 : (5 : Int).toNat = 5 := rfl
  simp [atI_0, atI_1', atI_2, ha, cMod_ok hn, hc1, hc2, hp1, hmo, hmo2, hmo3, hdi, hu, hv, hp2, ix0, ix1, ix2, e3, e41, e39, e37, -cMod, -cDiv, -cPow, -cMul, t3, t5]
theorem draw_ok {m n : Int} {j : List D} (hm : m < 10 ^ 15) (hn : 0 < n) (hn2 : Sm n) (h : BOK m j) :
    ∃ v j', mf__law_draw [.own j, .val (.int n)] = some (.val (.int v), [.own j', .un]) ∧ 0 ≤ v ∧ v < n ∧ BOK (m + 1) j' := by
  obtain ⟨a, b, c, rfl, h1, h2, h3, h4, h5⟩ := h
  by_cases ha : 1 < a
  · exact ⟨a % n, [.int (a / n), .int b, .int c], draw_a hn hn2 ha, Int.emod_nonneg _ (by omega), Int.emod_lt_of_pos _ hn, ⟨a / n, b, c, rfl, Int.ediv_nonneg h1 (by omega), h2, h3, h4, by omega⟩⟩
  · have hcs : Sm (c + 1) := Int.lt_of_lt_of_le (show c + 1 < 10 ^ 16 by omega) big16
    have s3 : Sm (73856093 ^ 3) := by unfold Sm; decide +kernel
    have p3 : (0 : Int) ≤ 73856093 ^ 3 := by decide +kernel
    have hc1 : cMul (c + 1) (73856093 ^ 3) = true := cMul_ok' (by omega) hcs p3 s3
    have hc2 : cMul (c + 1) 19349663 = true := cMul_ok' (by omega) hcs (by omega) (sm_lit (by omega))
    have hu0 : 0 ≤ (b + (c + 1) * 73856093 ^ 3) % (10 ^ 41 + 63) := Int.emod_nonneg _ (Int.ne_of_gt p41)
    have hu1 : (b + (c + 1) * 73856093 ^ 3) % (10 ^ 41 + 63) < 10 ^ 41 + 63 := Int.emod_lt_of_pos _ p41
    have hus : Sm ((b + (c + 1) * 73856093 ^ 3) % (10 ^ 41 + 63)) := Int.lt_trans hu1 s41
    generalize hu : (b + (c + 1) * 73856093 ^ 3) % (10 ^ 41 + 63) = u at hu0 hu1 hus
    have hv0 : 0 ≤ u ^ 3 % (10 ^ 39 + 33) := Int.emod_nonneg _ (Int.ne_of_gt p39)
    have hv1 : u ^ 3 % (10 ^ 39 + 33) < 10 ^ 39 + 33 := Int.emod_lt_of_pos _ p39
    have hv2 : (c + 1) * 19349663 ≤ 10 ^ 16 * 19349663 := Int.mul_le_mul_of_nonneg_right (by omega) (by omega)
    have hv3 : 0 ≤ (c + 1) * 19349663 := Int.mul_nonneg (by omega) (by omega)
    have hvs : Sm (u ^ 3 % (10 ^ 39 + 33) + (c + 1) * 19349663) := by
      have := s39b
      unfold Sm
      generalize u ^ 3 % (10 ^ 39 + 33) = y at *
      generalize (c + 1) * 19349663 = z at *
      generalize (10 : Int) ^ 39 = y2 at *
      generalize (10 : Int) ^ 16 * 19349663 = y3 at *
      generalize (2 : Int) ^ 400 = y4 at *
      omega
    have hvn : 0 ≤ u ^ 3 % (10 ^ 39 + 33) + (c + 1) * 19349663 := Int.add_nonneg hv0 hv3
    generalize hv : u ^ 3 % (10 ^ 39 + 33) + (c + 1) * 19349663 = v at hvs hvn
    have p := draw_b (a := a) (b := b) (c := c) hn ha _ 19349663 _ _ _ 65537 rfl rfl _ _ _ _ (pw_ok pw3) (pw_ok pw41) (pw_ok pw39) (pw_ok pw37) rfl rfl rfl rfl hc1 hc2 (fun i => cMod_ok p41) (fun i => cMod_ok p39) (fun i => cMod_ok p37) (fun i => cDiv_ok (by decide) s65537)
      u hu (cPow_ok hu0 hus) v hv (cPow5_ok hvn hvs)
    exact ⟨_, _, p, Int.emod_nonneg _ (by omega), Int.emod_lt_of_pos _ hn, ⟨a, b, c + 1, rfl, h1, h2, h3, by omega, by omega⟩⟩
theorem bag_ok (c : Int) (k : Nat) (hk : k ≤ 100) : ∃ j, mf__law_bag [.val (.int c), .val (.int (k : Int))] = some (.own j, [.un, .un]) ∧ BOK 0 j := by
  have hm : ∀ i, cMod i (10 ^ 41 + 63) = true := fun i => cMod_ok p41
  have s4 : Sm (715827883 ^ 4) := by unfold Sm; decide +kernel
  have q4 : (0 : Int) ≤ 715827883 ^ 4 := by decide +kernel
  have hmu : cMul (715827883 ^ 4) ((k : Int) + 1) = true := cMul_ok' q4 s4 (by omega) (sm_lit (by omega))
  have hmu2 : cMul c 633910099 = true := cMulR (by decide +kernel)
  have h0 : ∀ i : Int, 0 ≤ i % (10 ^ 41 + 63) := fun i => Int.emod_nonneg _ (Int.ne_of_gt p41)
  have h1 : ∀ i : Int, i % (10 ^ 41 + 63) < 10 ^ 41 + 63 := fun i => Int.emod_lt_of_pos _ p41
  have hbig : (10 : Int) ^ 41 + 63 ≤ tenP 42 := by unfold tenP; decide +kernel
  have e41 := fun ρ => pw_ok pw41 ρ
  have e4 := fun ρ => pw_ok pw4 ρ
  have e18 := fun ρ => ten18 ρ
  have t41 : (41 : Int).toNat = 41 := rfl
  have t4 : (4 : Int).toNat = 4 := rfl
  rw [t41] at e41
  rw [t4] at e4
  generalize tenP 18 = Y at e18
  refine ⟨_, ?_, ⟨max 0 (max c (0 - c) - Y), (c * 633910099 + 715827883 ^ 4 * ((k : Int) + 1)) % (10 ^ 41 + 63), 0, rfl, by omega, h0 _, Int.le_of_lt (Int.lt_of_lt_of_le (h1 _) hbig), by omega, by omega⟩⟩
  generalize (10 : Int) ^ 41 = X at e41 hm h0 h1 hbig
  generalize (715827883 : Int) ^ 4 = N4 at e4 hmu s4 q4
  unfold mf__law_bag mb__law_bag
  generalize mBin (fI cPow fun i j => i ^ j.toNat) (mC (.int 10)) (mC (.int 41)) = M41 at e41 ⊢
  generalize mBin (fI cPow fun i j => i ^ j.toNat) (mC (.int 10)) (mC (.int 18)) = M18 at e18 ⊢
  generalize mBin (fI cPow fun i j => i ^ j.toNat) (mC (.int 715827883)) (mC (.int 4)) = M4 at e4 ⊢
  simp [e41, e18, e4, hm, hmu, hmu2, -cMod, -cPow, -cMul, sizeN]
  have e : (if c < -c then -c else c) = max c (-c) := by split <;> omega
  rw [e]
  split <;> omega
end LC
namespace LB
open PySem L2 Dn PR
structure PO (r : RowT) : Prop where
  ok : okF 1 r = true
  len : r.length ≤ 32
  top : ∀ q ∈ r, q.2 ≤ tenP 40
theorem PO.nil : PO [] := ⟨rfl, by simp, fun q h => by cases h⟩
end LB
namespace LB
open PySem L2 Dn PR
theorem eqv_pairD (p q : Int × Int) : PyData.eqv (pairD p) (pairD q) = decide (p = q) := by
  have e : PyData.eqv (pairD p) (pairD q) = (p.1 == q.1 && p.2 == q.2) := by simp [pairD, PyData.eqv, PyData.eqvAll]
  rw [e]
  obtain ⟨a, b⟩ := p
  obtain ⟨c, d⟩ := q
  by_cases h1 : a = c <;> by_cases h2 : b = d <;> simp [h1, h2]
theorem eqvAll_rows : ∀ (a b : RowT), PyData.eqvAll (a.map pairD) (b.map pairD) = decide (a = b)
  | [], [] => by simp [PyData.eqvAll]
  | [], q :: b => by simp [PyData.eqvAll]
  | p :: a, [] => by simp [PyData.eqvAll]
  | p :: a, q :: b => by
    have h := eqvAll_rows a b
    have h2 := eqv_pairD p q
    simp only [List.map_cons, PyData.eqvAll, h, h2]
    by_cases c1 : p = q <;> by_cases c2 : a = b <;> simp [c1, c2]
theorem eqv_dRow (a b : RowT) : PyData.eqv (dRow a) (dRow b) = decide (a = b) := by
  simp only [dRow, PyData.eqv]
  exact eqvAll_rows a b
def whoL : List Str := ["one", "other"]
theorem str_ok (x : Str) (h : x ∈ whoL) : PyData.canLay0 (.str x) = true := by
  simp only [whoL, List.mem_cons, List.not_mem_nil, or_false] at h
  rcases h with rfl | rfl <;> decide +kernel
end LB
namespace Wd
open PySem L2 Dn PR LB
def sg (b : Bool) : Nat := if b then 50 else 49
def s1 (b : Bool) : Str := ⟨#[sg b]⟩
end Wd
namespace Wd
open PySem L2 Dn PR LB
def NE : List Bool → Prop
  | a :: b :: r => a ≠ b ∧ NE (b :: r)
  | _ => True
theorem NE.tail {a : Bool} {r : List Bool} (h : NE (a :: r)) : NE r := by
  cases r with
  | nil => trivial
  | cons b r => exact h.2
def stepT (p : Bool × Nat) (s : Bool) : Bool × Nat := if p.2 = 0 then (s, 1) else if (if p.2 % 2 = 1 then p.1 else !p.1) = s then (p.1, p.2 - 1) else (p.1, p.2 + 1)
end Wd
namespace Wd
open PySem L2 Dn PR LB
def nm (b : Bool) : Str := if b then "other" else "one"
def dS (b : Bool) : D := .str (s1 b)
def PK (n : Nat) (p : RowT × RowT) : Prop := okF 1 p.1 = true ∧ okF 1 p.2 = true ∧ p.1.length ≤ n ∧ p.2.length ≤ n
theorem PK.mono {n m : Nat} {p : RowT × RowT} (h : PK n p) (hm : n ≤ m) : PK m p := ⟨h.1, h.2.1, by have := h.2.2.1; omega, by have := h.2.2.2; omega⟩
end Wd
namespace Dn
open PySem L2 PR LB LA
theorem rep_true (n : Nat) : List.replicate n (PyData.bool true) = (List.range n).filterMap (fun _ => some (PyData.bool true)) := by
  rw [List.filterMap_eq_map', ]
  induction n with
  | zero => rfl
  | succ n ih => rw [List.range_succ, List.map_append, ← ih, List.replicate_succ']; rfl
theorem mSeq_rt {a b : MS} {ρ ρ1 : List Sl} {r : Sl} (h : a ρ = some (.rt r ρ1)) : mSeq a b ρ = some (.rt r ρ1) := by rw [mSeq_ap, h]
theorem same_range {self : MF} {ds : List D} (ih : ∀ d ∈ ds, self [.val d, .val d] = some (.val (.bool true), [.un, .un])) (hl : ds.length ≤ 100000) (s : D) (hs : s = .list ds ∨ s = .tuple ds) :
    mComp (miR1 (mCons (mFn fLen (mCons (mVar 1) (mNil))) (mNil))) (mgN (fun _ => false) 2) (mTYes) (mCall self [] (mCons (mBin fIx (mVar 0) (mVar 2)) (mCons (mBin fIx (mVar 1) (mVar 2)) (mNil)))) [2] [.val s, .val s, .un]
      = some (.own (List.replicate ds.length (PyData.bool true)), [.val s, .val s, .un]) := by
  rw [rep_true]
  have h62 : (ds.length : Int) < 2 ^ 62 ∧ -(2 ^ 62) ≤ (ds.length : Int) := by constructor <;> omega
  have hz : ds.length ≤ sizeLine := sizeN hl
  refine comp_map (fun i : Nat => PyData.int (0 + (i : Int))) _ (List.range ds.length) (ρ1 := [.val s, .val s, .un]) ?_ rfl rfl (fun i hi => ?_) (sizeN (by simpa using hl))
  · have e : mCons (mFn fLen (mCons (mVar 1) (mNil))) (mNil) [.val s, .val s, .un] = some ([.val (.int (ds.length : Int))], [.val s, .val s, .un]) := by
      rcases hs with rfl | rfl <;> simp [hz]
    simp only [miR1_ap, e, h62, and_self, if_true, Int.toNat_natCast]
    rfl
  · have hi' := List.mem_range.mp hi
    have h1 : atI ds (0 + (i : Int)) = some ds[i] := by
      rw [Int.zero_add]
      exact PR.atI_nat' (List.getElem?_eq_getElem hi')
    have h2 := ih ds[i] (List.getElem_mem hi')
    generalize (0 + (i : Int)) = k at h1 ⊢
    exact ⟨[.val s, .val s, .val (.int k)], true, _, by simp, rfl, .inr ⟨rfl, .val (.bool true), _, [.val s, .val s, .val (.int k)], by rcases hs with rfl | rfl <;> simp [h1, h2], rfl, rfl, rfl⟩⟩
end Dn
namespace LC
open PySem L2 Dn PR LB
open LA (Ex1)
theorem sm_and {C : MX} {ds : List D} (x : Sl) (s : D) (hx : x = .val s ∨ (s = .list ds ∧ x = .own ds)) (hs : s = .list ds ∨ s = .tuple ds) (key : C [.val s, .val s, .un] = some (.own (List.replicate ds.length (PyData.bool true)), [.val s, .val s, .un])) :
    (mAndV (mBin (fEq false) (mFn fLen (mCons (mVar 0) mNil)) (mFn fLen (mCons (mVar 1) mNil))) (mFn fAll (mCons C mNil))) [.val s, .val s, .un] = some (.val (.bool true), [.val s, .val s, .un]) := by
  rcases hs with rfl | rfl <;> simp [shaped_bool, shaped_int, eqv_bool, eqv_int, key, all_true]
theorem sm_t0 {ds : List D} (x : Sl) (s : D) (hs : s = .list ds ∨ s = .tuple ds) :
    (mTru (mUn (fIsi ["list", "tuple"]) (mVar 1))) [x, .val s, .un] = some (true, [x, .val s, .un]) := by
  rcases hs with rfl | rfl <;> simp
theorem sm_t1 {ds : List D} (x : Sl) (s : D) (hx : x = .val s ∨ (s = .list ds ∧ x = .own ds)) (hs : s = .list ds ∨ s = .tuple ds) :
    (mTOr (mTNot (mTru (mUn (fIsi ["list", "tuple"]) (mVar 0)))) (mB (mBin (fEq true) (mUn (fIsi ["list"]) (mVar 0)) (mUn (fIsi ["list"]) (mVar 1))))) [x, .val s, .un] = some (false, [.val s, .val s, .un]) := by
  rcases hs with rfl | rfl
  · rcases hx with rfl | ⟨_, rfl⟩ <;> simp [shaped_bool, shaped_int, eqv_bool, eqv_int]
  · rcases hx with rfl | ⟨e, _⟩
    · simp [shaped_bool, shaped_int, eqv_bool, eqv_int]
    · cases e
theorem ret_some {a : MX} {ρ ρ1 : List Sl} {x : Sl} (h1 : a ρ = some (x, ρ1)) : mRet a ρ = some (.rt x ρ1) := by rw [mRet_ap, h1]
theorem next_ap (ρ : List Sl) : mNext ρ = some (.nx ρ) := rfl
theorem sm_seq {C : MX} {ds : List D} {B : MS} (x : Sl) (s : D) (hx : x = .val s ∨ (s = .list ds ∧ x = .own ds)) (hs : s = .list ds ∨ s = .tuple ds) (key : C [.val s, .val s, .un] = some (.own (List.replicate ds.length (PyData.bool true)), [.val s, .val s, .un])) :
    mDef 2 3 (fun _ => false) (mSeq (mIfS (mTru (mUn (fIsi ["list", "tuple"]) (mVar 1))) (mSeq (mIfS (mTOr (mTNot (mTru (mUn (fIsi ["list", "tuple"]) (mVar 0)))) (mB (mBin (fEq true) (mUn (fIsi ["list"]) (mVar 0)) (mUn (fIsi ["list"]) (mVar 1))))) (mRet (mC (.bool false))) (mNext))
      (mRet (mAndV (mBin (fEq false) (mFn fLen (mCons (mVar 0) mNil)) (mFn fLen (mCons (mVar 1) mNil))) (mFn fAll (mCons C mNil))))) (mNext)) B) [x, .val s] = some (.val (.bool true), [.un, .un]) := by
  refine mDef_rt (ρ' := [.val s, .val s, .un]) rfl (mSeq_rt ?_)
  show mIfS _ _ _ [x, .val s, .un] = _
  rw [mIfS_t (sm_t0 (ds := ds) x s hs), mSeq_nx (by rw [mIfS_f (sm_t1 (ds := ds) x s hx hs)]; exact next_ap _)]
  exact ret_some (sm_and x s hx hs key)
theorem same_succ (n : Nat) : mf__law_same (n + 1) = mDef 2 3 (fun _ => false) (mb__law_same (mf__law_same n)) := mf__law_same_succ n
theorem same_step {n : Nat} (ih : ∀ {d : D}, Ex1 n d → mf__law_same n [.val d, .val d] = some (.val (.bool true), [.un, .un])) {d : D} (h : Ex1 (n + 1) d) (x : Sl) (hx : x = .val d ∨ ∃ ds, d = .list ds ∧ x = .own ds) :
    mf__law_same (n + 1) [x, .val d] = some (.val (.bool true), [.un, .un]) := by
  have key : ∀ (ds : List D), (∀ d ∈ ds, Ex1 n d) → ds.length ≤ 100000 → ∀ s, (s = .list ds ∨ s = .tuple ds) → mComp (miR1 (mCons (mFn fLen (mCons (mVar 1) (mNil))) (mNil))) (mgN (fun _ => false) 2) (mTYes) (mCall (mf__law_same n) [] (mCons (mBin fIx (mVar 0) (mVar 2)) (mCons (mBin fIx (mVar 1) (mVar 2)) (mNil)))) [2] [.val s, .val s, .un] = some (.own (List.replicate ds.length (PyData.bool true)), [.val s, .val s, .un]) :=
    fun ds hd hl s hs => same_range (self := mf__law_same n) (fun d hd' => ih (hd d hd')) hl s hs
  rw [same_succ]
  unfold mb__law_same
  generalize mComp (miR1 (mCons (mFn fLen (mCons (mVar 1) (mNil))) (mNil))) (mgN (fun _ => false) 2) (mTYes) (mCall (mf__law_same n) [] (mCons (mBin fIx (mVar 0) (mVar 2)) (mCons (mBin fIx (mVar 1) (mVar 2)) (mNil)))) [2] = C at key ⊢
  clear ih
  cases h with
  | int i =>
    rcases hx with rfl | ⟨_, e, _⟩
    · simp [shaped_bool, shaped_int, eqv_bool, eqv_int, PyData.eqv]
    · cases e
  | bl b =>
    rcases hx with rfl | ⟨_, e, _⟩
    · simp [shaped_bool, shaped_int, eqv_bool, eqv_int, PyData.eqv]
    · cases e
  | str hs0 =>
    rcases hx with rfl | ⟨_, e, _⟩
    · have hs : ∀ x : Str, PyData.canLay0 (.str x) = true → SeqAt.shaped (.str x) = true := fun x h => Shp.shaped (n := 0) ⟨h, by simp [PyData.depth]⟩ (by decide)
      simp [shaped_bool, shaped_int, eqv_bool, eqv_int, hs _ hs0, PyData.eqv]
    · cases e
  | @lst _ ds hd hl =>
    have key := key ds hd hl (.list ds) (.inl rfl)
    rcases hx with rfl | ⟨es, e, rfl⟩
    · exact sm_seq _ _ (.inl rfl) (.inl rfl) key
    · cases e
      exact sm_seq _ _ (.inr ⟨rfl, rfl⟩) (.inl rfl) key
  | @tup _ ds hd hl =>
    have key := key ds hd hl (.tuple ds) (.inr rfl)
    rcases hx with rfl | ⟨_, e, _⟩
    · exact sm_seq _ _ (.inl rfl) (.inr rfl) key
    · cases e
theorem same_ok : ∀ {n : Nat} {d : D}, Ex1 n d → mf__law_same n [.val d, .val d] = some (.val (.bool true), [.un, .un]) := by
  intro n
  induction n with
  | zero => intro d h; cases h
  | succ n ih => intro d h; exact same_step ih h _ (.inl rfl)
theorem ex_two (a b : Int) (n : Nat) : Ex1 (n + 2) (.tuple [.int a, .int b]) := .tup (fun d hd => by
  rcases List.mem_cons.mp hd with rfl | hd
  · exact .int _
  · rcases List.mem_cons.mp hd with rfl | hd
    · exact .int _
    · cases hd) (by simp)
theorem same_row (r : RowT) (hl : r.length ≤ 100000) : mf__law_same 6 [.val (dRow r), .val (dRow r)] = some (.val (.bool true), [.un, .un]) := same_ok (LA.ex1_row r 3 hl)
end LC
namespace LC
open PySem L2 Dn PR LB
def Rise (lo hi : Int) (xs : List Int) : Prop := xs.Pairwise (· < ·) ∧ ∀ x ∈ xs, lo ≤ x ∧ x ≤ hi
theorem Rise.snoc {lo hi x : Int} {xs : List Int} (h : Rise lo hi xs) (hx : hi < x) : Rise lo x (xs ++ [x]) ∨ x < lo := by
  by_cases c : x < lo
  · exact .inr c
  · refine .inl ⟨List.pairwise_append.mpr ⟨h.1, List.pairwise_singleton _ _, fun a ha b hb => ?_⟩, fun y hy => ?_⟩
    · simp at hb
      have := (h.2 a ha).2
      omega
    · rcases List.mem_append.mp hy with hy | hy
      · have := h.2 y hy; omega
      · simp at hy; omega
theorem Rise.mono {lo hi hi' : Int} {xs : List Int} (h : Rise lo hi xs) (hx : hi ≤ hi') : Rise lo hi' xs := ⟨h.1, fun y hy => by have := h.2 y hy; omega⟩
def stepT (s : RowT) (x : Int) : RowT := if s ≠ [] ∧ lastE s + 1 = x then s.dropLast ++ [((s.getLastD (0, 0)).1, x)] else s ++ [(x, x)]
def toldR (xs : List Int) : RowT := xs.foldl stepT []
theorem stepT_app (a : RowT) (q : Int × Int) (x : Int) : stepT (a ++ [q]) x = if q.2 + 1 = x then a ++ [(q.1, x)] else a ++ [q] ++ [(x, x)] := by
  simp [stepT, TLR.lastE_app]
theorem stepT_nil (x : Int) : stepT [] x = [(x, x)] := by simp [stepT]
theorem ixN_end (n : Nat) : ixN (n + 1) (-1) = some n := by
  unfold ixN
  have : ¬ (0 : Int) ≤ -1 := by omega
  simp
  omega
theorem stepT_len (s : RowT) (x : Int) : (stepT s x).length ≤ s.length + 1 := by
  by_cases hs : s = []
  · subst hs; rw [stepT_nil]; simp
  · obtain ⟨a, q, rfl⟩ := TLR.split_last hs
    rw [stepT_app]; split <;> simp
theorem toldR_len : ∀ (xs : List Int) (s : RowT), (xs.foldl stepT s).length ≤ s.length + xs.length
  | [], s => by simp
  | x :: xs, s => by
    have := toldR_len xs (stepT s x)
    have := stepT_len s x
    simp only [List.foldl_cons, List.length_cons]
    omega
theorem told_fact : ∀ (xs : List Int) (s : RowT) (hi : Int), okF 1 s = true → (∀ q ∈ s, q.2 ≤ hi) → (∀ q, s.getLast? = some q → q.2 = hi) → 0 ≤ hi → xs.Pairwise (· < ·) → (∀ x ∈ xs, hi < x) →
    okF 1 (xs.foldl stepT s) = true ∧ (∀ p, memR (xs.foldl stepT s) p ↔ memR s p ∨ p ∈ xs)
  | [], s, hi, ok, _, _, _, _, _ => by simp [ok]
  | x :: xs, s, hi, ok, top, last, h0, rise, lo => by
    obtain ⟨h1, h2⟩ := List.pairwise_cons.mp rise
    have hx := lo x List.mem_cons_self
    have st : okF 1 (stepT s x) = true ∧ (∀ q ∈ stepT s x, q.2 ≤ x) ∧ (∀ q, (stepT s x).getLast? = some q → q.2 = x) ∧ (∀ p, memR (stepT s x) p ↔ memR s p ∨ p = x) := by
      by_cases hs : s = []
      · subst hs
        rw [stepT_nil]
        refine ⟨by simp [okF]; omega, by simp, by simp, fun p => ?_⟩
        rw [mem_cons]
        have := @mem_nil p
        simp only [this, or_false, false_or]
        omega
      · obtain ⟨a, q, rfl⟩ := TLR.split_last hs
        have e : q.2 = hi := last q (by simp)
        rw [okF_app] at ok
        have okq := ok.2
        rw [okF_cons] at okq
        rw [stepT_app]
        split
        · rename_i c
          refine ⟨?_, fun y hy => ?_, by simp, fun p => ?_⟩
          · rw [okF_app]
            refine ⟨ok.1, ?_⟩
            rw [okF_cons]
            exact ⟨okq.1, by (try simp only); omega, rfl⟩
          · rcases List.mem_append.mp hy with hy | hy
            · have := top y (List.mem_append_left _ hy); omega
            · simp at hy; subst hy; (try simp only); omega
          · rw [mem_app, mem_app, mem_cons, mem_cons]
            have := @mem_nil p
            simp only [this, or_false]
            constructor
            · rintro (h | h)
              · exact .inl (.inl h)
              · by_cases c2 : p = x
                · exact .inr c2
                · exact .inl (.inr ⟨h.1, by omega⟩)
            · rintro ((h | h) | h)
              · exact .inl h
              · exact .inr ⟨h.1, by omega⟩
              · exact .inr ⟨by omega, by omega⟩
        · rename_i c
          refine ⟨?_, fun y hy => ?_, by simp, fun p => ?_⟩
          · rw [okF_app, okF_app]
            refine ⟨⟨ok.1, ok.2⟩, ?_⟩
            rw [TLR.nextF_last, okF_cons]
            exact ⟨by (try simp only); omega, by simp, rfl⟩
          · rcases List.mem_append.mp hy with hy | hy
            · have := top y hy; omega
            · simp at hy; subst hy; simp
          · rw [mem_app, mem_cons]
            have := @mem_nil p
            simp only [this, or_false]
            constructor
            · rintro (h | h)
              · exact .inl h
              · exact .inr (by omega)
            · rintro (h | h)
              · exact .inl h
              · exact .inr ⟨by omega, by omega⟩
    obtain ⟨s1, s2, s3, s4⟩ := st
    obtain ⟨a, b⟩ := told_fact xs (stepT s x) x s1 s2 s3 (by omega) h2 h1
    refine ⟨a, fun p => ?_⟩
    rw [List.foldl_cons, b, s4, List.mem_cons, or_assoc]
theorem toldR_ok {hi : Int} {xs : List Int} (h : Rise 1 hi xs) : okF 1 (toldR xs) = true ∧ (∀ p, memR (toldR xs) p ↔ p ∈ xs) ∧ (toldR xs).length ≤ xs.length := by
  obtain ⟨a, b⟩ := told_fact xs [] 0 rfl (fun q h => (by cases h)) (fun q h => (by cases h)) (by omega) h.1 (fun x hx => by have := (h.2 x hx).1; omega)
  have hl := toldR_len xs []
  refine ⟨a, fun p => ?_, by simpa [toldR] using hl⟩
  have := b p
  simp only [mem_nil, false_or] at this
  exact this
end LC
namespace LC
open PySem L2 Dn PR LB
theorem sm5 {n : Int} (h : n ≤ 10 ^ 8) : Sm n := sm_lit h
end LC
namespace TL
def climb (x : Nat × Nat) (c : Bool) : Nat × Nat := if c then (x.1 + 2 * x.2, x.2) else (x.1, x.2 + 2 * x.1)
def rungsF (x : Nat × Nat) : List Bool → Nat × Nat
  | [] => x
  | c :: R => rungsF (climb x c) R
theorem rungsF_app : ∀ (a b : List Bool) (x : Nat × Nat), rungsF x (a ++ b) = rungsF (rungsF x a) b
  | [], b, x => rfl
  | c :: a, b, x => rungsF_app a b _
theorem rungs_rev : ∀ T : List Bool, rungsF (1, 1) T.reverse = rungs T
  | [] => rfl
  | c :: T => by
    rw [List.reverse_cons, rungsF_app, rungs_rev T]
    simp [rungsF, rungs, climb]
def tot (x : Nat × Nat) : Nat → Nat
  | 0 => x.1
  | m + 1 => tot (climb x false) m + tot (climb x true) m
def before (x : Nat × Nat) : List Bool → Nat
  | [] => 0
  | c :: R => (if c then tot (climb x false) R.length else 0) + before (climb x c) R
def down (x : Nat × Nat) : Nat → Nat → List Bool × Nat
  | 0, N => ([], N)
  | m + 1, N => let t := tot (climb x false) m
    if N < t then let y := down (climb x false) m N; (false :: y.1, y.2)
    else let y := down (climb x true) m (N - t); (true :: y.1, y.2)
end TL
namespace Dn
open PySem L2 PR LB
theorem flat_ints : ∀ ns : List Int, flatDs (ns.map PyData.int) = some (ns.map V.int)
  | [] => rfl
  | n :: ns => by
    simp [flatDs, flatD, flat_ints ns]
theorem in_ints (x : Int) (ns : List Int) : fIn false (.val (.int x)) (.val (.list (ns.map PyData.int))) = some (.val (.bool (decide (x ∈ ns)))) := by
  have h : inV (.int x) (ns.map V.int) = decide (x ∈ ns) := by
    unfold inV
    rw [List.any_map, Bool.eq_iff_iff]
    simp [eqV]
  simp [flat_ints, flatD, h]
theorem miR2_one {M : Nat} {e : MA} {ρ ρ1 : List Sl} (h : e ρ = some ([.val (.int 1), .val (.int ((M : Int) + 1))], ρ1)) (hM : M ≤ 10 ^ 9) : miR2 e ρ = some ((List.range M).map (fun k : Nat => PyData.int (1 + (k : Int))), ρ1) := by
  rw [miR2_ap, h]
  have h62 : -(2 ^ 62) ≤ (1 : Int) ∧ (1 : Int) < 2 ^ 62 ∧ -(2 ^ 62) ≤ (M : Int) + 1 ∧ (M : Int) + 1 < 2 ^ 62 := by refine ⟨?_, ?_, ?_, ?_⟩ <;> omega
  show (if _ then _ else _) = _
  rw [if_pos h62]
  have : ((M : Int) + 1 - 1).toNat = M := by omega
  rw [this]
  rfl
theorem range_get {M i k : Nat} (h : (List.range M)[i]? = some k) : k = i ∧ i < M := by
  obtain ⟨h1, h2⟩ := List.getElem?_eq_some_iff.mp h
  exact ⟨by simpa using h2.symm, by simpa using h1⟩
end Dn
namespace PR
open PySem L2 Dn LB
open TL (Strip)
def dS (s : Strip) : D := .tuple [.int (if s.1 then 1 else 0), .int (s.2 : Int)]
def stepS (x : List Strip × Int) (q : Int × Int) : List Strip × Int := (x.1 ++ [(false, (q.1 - x.2).toNat), (true, (q.2 - q.1 + 1).toNat)], q.2 + 1)
theorem foldS (n : Int) : ∀ (r : RowT) (a : List Strip) (f : Int), (r.foldl stepS (a, f)).1 ++ [(false, (n + 1 - (r.foldl stepS (a, f)).2).toNat)] = a ++ TLR.stripsGo f r n
  | [], a, f => by simp [TLR.stripsGo]
  | q :: r, a, f => by
    rw [List.foldl_cons]
    show (r.foldl stepS (a ++ [(false, (q.1 - f).toNat), (true, (q.2 - q.1 + 1).toNat)], q.2 + 1)).1 ++ _ = _
    have := foldS n r (a ++ [(false, (q.1 - f).toNat), (true, (q.2 - q.1 + 1).toNat)]) (q.2 + 1)
    rw [show stepS (a, f) q = (a ++ [(false, (q.1 - f).toNat), (true, (q.2 - q.1 + 1).toNat)], q.2 + 1) from rfl, this]
    simp [TLR.stripsGo]
theorem foldS_len : ∀ (r : RowT) (x : List Strip × Int), (r.foldl stepS x).1.length = x.1.length + 2 * r.length
  | [], x => by simp
  | q :: r, x => by
    rw [List.foldl_cons, foldS_len r]
    simp [stepS]
    omega
theorem foldS_end : ∀ (r : RowT) (a : List Strip) (f : Int), (r.foldl stepS (a, f)).2 = lowR f r
  | [], a, f => rfl
  | q :: r, a, f => by
    rw [List.foldl_cons]
    exact foldS_end r _ _
theorem strips_turn (d0 d1 : Sl) (S : List Strip) (f : Int) (q : Int × Int) (s6 : Sl) (h1 : f ≤ q.1) (h2 : q.1 ≤ q.2) (hl : S.length ≤ 50000) :
    lb_strips_of_1 [d0, d1, .own (S.map dS), .val (.int f), .val (.int q.1), .val (.int q.2), s6] = some (.nx [d0, d1, .own ((stepS (S, f) q).1.map dS), .val (.int (stepS (S, f) q).2), .val (.int q.1), .val (.int q.2), s6]) := by
  have e1 : ((q.1 - f).toNat : Int) = q.1 - f := Int.toNat_of_nonneg (by omega)
  have e2 : ((q.2 - q.1 + 1).toNat : Int) = q.2 - q.1 + 1 := Int.toNat_of_nonneg (by omega)
  have hz : S.length + 2 ≤ sizeLine := sizeN (by omega)
  simp [lb_strips_of_1, stepS, dS, e1, e2, hz, sizeN]
theorem okF_drop : ∀ {r : RowT} {f : Int} (i : Nat) {q : Int × Int}, okF f r = true → r[i]? = some q → lowR f (r.take i) ≤ q.1 ∧ q.1 ≤ q.2
  | [], f, i, q, _, h => by simp at h
  | p :: r, f, 0, q, ok, h => by
    simp only [List.getElem?_cons_zero, Option.some.injEq] at h
    subst h
    rw [okF_cons] at ok
    exact ⟨ok.1, ok.2.1⟩
  | p :: r, f, i + 1, q, ok, h => by
    rw [okF_cons] at ok
    have := okF_drop (f := p.2 + 1) i (okF_mono (by omega) ok.2.2) (by simpa using h)
    simpa [lowR] using this
theorem filter_dS (S : List Strip) : (S.filter fun s => decide (0 < s.2)).map dS = (S.filterMap fun s => if 0 < s.2 then some (dS s) else none) := by
  induction S with
  | nil => rfl
  | cons s S ih =>
    by_cases h : 0 < s.2
    · simp only [List.filter_cons, h, decide_true, if_true, List.map_cons, List.filterMap_cons, ih]
    · simp only [List.filter_cons, h, decide_false, if_false, List.filterMap_cons, Bool.false_eq_true, ih]
theorem strips_of_ok {r : RowT} {n : Int} (ok : okF 1 r = true) (hl : r.length ≤ 10000) (hn : lastE r ≤ n) (h0 : 0 ≤ n) : mf_strips_of [.val (dRow r), .val (.int n)] = some (.own ((TLR.stripsR r n).map dS), [.un, .un]) := by
  have key := loop_count (g := mgL (fun _ => false) [4, 5]) (b := lb_strips_of_1) pairD
    (fun i ρ => ∃ t4 t5, ρ = [.val (dRow r), .val (.int n), .own (((r.take i).foldl stepS ([], 1)).1.map dS), .val (.int ((r.take i).foldl stepS ([], 1)).2), t4, t5, .un]) r 0
    [.val (dRow r), .val (.int n), .own [], .val (.int 1), .un, .un, .un] (fun i q ρ hq hW => by
      obtain ⟨t4, t5, rfl⟩ := hW
      simp only [Nat.zero_add]
      have hi := (List.getElem?_eq_some_iff.mp hq).1
      have et : r.take (i + 1) = r.take i ++ [q] := by rw [List.take_add_one, hq]; rfl
      have hlen := foldS_len (r.take i) ([], 1)
      rw [List.length_take] at hlen
      have hend := foldS_end (r.take i) [] 1
      have hk := okF_drop i ok hq
      rw [← hend] at hk
      rw [et, List.foldl_append]
      simp only [List.foldl_cons, List.foldl_nil]
      generalize (r.take i).foldl stepS ([], 1) = s at hlen hk ⊢
      obtain ⟨S, f⟩ := s
      have e := strips_turn (.val (dRow r)) (.val (.int n)) S f q .un hk.1 hk.2 (by simp at hlen; omega)
      exact ⟨[.val (dRow r), .val (.int n), .own (S.map dS), .val (.int f), .val (.int q.1), .val (.int q.2), .un], _, by simp [pairD], .inl e, _, _, rfl⟩) ⟨.un, .un, rfl⟩
  obtain ⟨ρ', e, t4, t5, rfl⟩ := key
  rw [Nat.zero_add, List.take_length] at e
  have hfold := foldS n r [] 1
  have hend := foldS_end r [] 1
  have hlen := foldS_len r ([], 1)
  have hlow := low_last ok
  have hge := (all_ok ok hn h0)
  have hlow2 : lowR 1 r ≤ n + 1 := low_le ok hn h0
  generalize r.foldl stepS ([], 1) = s at e hfold hend hlen
  obtain ⟨S, f⟩ := s
  simp only [List.nil_append] at e hfold hend hlen
  have hz : S.length < sizeLine := sizeL (by simp at hlen; omega)
  have e3 : ((n + 1 - f).toNat : Int) = n + 1 - f := Int.toNat_of_nonneg (by omega)
  have h1 : mFor (miS (mVar 0)) (mgL (fun _ => false) [4, 5]) (lb_strips_of_1) [.val (dRow r), .val (.int n), .own [], .val (.int 1), .un, .un, .un] = some (.nx [.val (dRow r), .val (.int n), .own (S.map dS), .val (.int f), t4, t5, .un]) := by
    rw [mFor_ap]
    have : miS (mVar 0) [.val (dRow r), .val (.int n), .own [], .val (.int 1), .un, .un, .un] = some (r.map pairD, [.val (dRow r), .val (.int n), .own [], .val (.int 1), .un, .un, .un]) := by simp [dRow]
    rw [this]
    exact e
  have h2 : mExpr (mMeth 2 fApp (mCons (mTup (mCons (mC (.int 0)) (mCons (mBin (fI (fun _ _ => true) fun i j => i - j) (mBin fAdd (mVar 1) (mC (.int 1))) (mVar 3)) (mNil)))) (mNil))) [.val (dRow r), .val (.int n), .own (S.map dS), .val (.int f), t4, t5, .un] = some (.nx [.val (dRow r), .val (.int n), .own ((TLR.stripsGo 1 r n).map dS), .val (.int f), t4, t5, .un]) := by
    rw [← hfold]
    generalize dRow r = R
    simp [hz, dS, e3, sizeN]
  have h3 : lc_strips_of_2 [.val (dRow r), .val (.int n), .own ((TLR.stripsGo 1 r n).map dS), .val (.int f), t4, t5, .un] = some (.own ((TLR.stripsR r n).map dS), [.val (dRow r), .val (.int n), .val (.list ((TLR.stripsGo 1 r n).map dS)), .val (.int f), t4, t5, .un]) := by
    have hl2 : (TLR.stripsGo 1 r n).length ≤ 30000 := by rw [← hfold]; simp at hlen; simp [hlen]; omega
    unfold TLR.stripsR
    rw [filter_dS]
    generalize TLR.stripsGo 1 r n = L at hl2
    unfold lc_strips_of_2
    refine comp_map dS _ L (ρ1 := [.val (dRow r), .val (.int n), .val (.list (L.map dS)), .val (.int f), t4, t5, .un]) (by generalize dRow r = R; simp) rfl rfl (fun s hs => ?_) (sizeN (by omega))
    generalize dRow r = R
    refine ⟨[.val R, .val (.int n), .val (.list (L.map dS)), .val (.int f), t4, t5, .val (dS s)], decide (0 < s.2), [.val R, .val (.int n), .val (.list (L.map dS)), .val (.int f), t4, t5, .val (dS s)], by simp, ?_, ?_⟩
    · have : (0 : Int) < (s.2 : Int) ↔ 0 < s.2 := by omega
      simp [dS, atI_1, this]
    · by_cases c : 0 < s.2
      · exact .inr ⟨by simp [c], .val (dS s), dS s, [.val R, .val (.int n), .val (.list (L.map dS)), .val (.int f), t4, t5, .val (dS s)], by simp, rfl, by simp [c], rfl⟩
      · exact .inl ⟨by simp [c], by simp [c], rfl⟩
  unfold mf_strips_of
  refine mDef_rt (np := 2) (nl := 7) (ρ' := [.val (dRow r), .val (.int n), .val (.list ((TLR.stripsGo 1 r n).map dS)), .val (.int f), t4, t5, .un]) rfl ?_
  show mb_strips_of [.val (dRow r), .val (.int n), .un, .un, .un, .un, .un] = _
  unfold mb_strips_of
  have h4 : mAsg (fun _ => false) 2 (mLst (mNil)) [.val (dRow r), .val (.int n), .un, .un, .un, .un, .un] = some (.nx [.val (dRow r), .val (.int n), .own [], .un, .un, .un, .un]) := by
    generalize dRow r = R
    simp [sizeN]
  have h5 : mAsg (fun _ => false) 3 (mC (.int 1)) [.val (dRow r), .val (.int n), .own [], .un, .un, .un, .un] = some (.nx [.val (dRow r), .val (.int n), .own [], .val (.int 1), .un, .un, .un]) := by
    generalize dRow r = R
    simp
  rw [mSeq_nx h4, mSeq_nx h5, mSeq_nx h1, mSeq_nx h2]
  exact LC.ret_some h3
end PR
namespace PR
open PySem L2 Dn LB
open TL (Strip)
def Bd (B : Nat) (x : Nat × Nat) : Prop := x.1 < 2 ^ B ∧ x.2 < 2 ^ B
theorem Bd.mono {B C : Nat} {x : Nat × Nat} (h : Bd B x) (hc : B ≤ C) : Bd C x :=
  ⟨Nat.lt_of_lt_of_le h.1 (Nat.pow_le_pow_right (by omega) hc), Nat.lt_of_lt_of_le h.2 (Nat.pow_le_pow_right (by omega) hc)⟩
theorem mul_lt_pow {a b A B : Nat} (ha : a < 2 ^ A) (hb : b < 2 ^ B) : a * b < 2 ^ (A + B) := by
  rw [Nat.pow_add]
  exact Nat.mul_lt_mul'' ha hb
theorem climbs_bd {B w m : Nat} {x : Nat × Nat} (h : Bd B x) (hm : m < 2 ^ w) (c : Bool) : Bd (B + w + 2) (TL.climbs x c m) := by
  have t : 2 * m < 2 ^ (w + 1) := by rw [Nat.pow_succ]; omega
  have p1 : 2 ^ B ≤ 2 ^ (B + w + 1) := Nat.pow_le_pow_right (by omega) (by omega)
  have p2 : 2 ^ (B + w + 2) = 2 * 2 ^ (B + w + 1) := by rw [Nat.pow_succ]; omega
  cases c
  · have := mul_lt_pow t h.1
    rw [show w + 1 + B = B + w + 1 by omega] at this
    refine ⟨?_, ?_⟩
    · show x.1 < _
      have := h.1; omega
    · show x.2 + 2 * m * x.1 < _
      have := h.2; omega
  · have := mul_lt_pow t h.2
    rw [show w + 1 + B = B + w + 1 by omega] at this
    refine ⟨?_, ?_⟩
    · show x.1 + 2 * m * x.2 < _
      have := h.1; omega
    · show x.2 < _
      have := h.2; omega
theorem log2_nat {n k : Nat} (h : n < 2 ^ k) (hk : 0 < k) : ((n : Int).natAbs).log2 < k := by
  rw [Int.natAbs_natCast]
  by_cases hz : n = 0
  · subst hz; rw [Nat.log2_zero]; exact hk
  · exact (Nat.log2_lt hz).mpr h
def dRung (x : Nat × Nat) : D := .tuple [.int (x.1 : Int), .int (x.2 : Int)]
theorem climbed_ok {B w : Nat} {x : Nat × Nat} (h : Bd B x) (c : Bool) (m : Nat) (hm : m < 2 ^ w) (hB : B + w ≤ 900000) :
    mf_climbed [.val (dRung x), .val (.int (if c then 1 else 0)), .val (.int (m : Int))] = some (.val (dRung (TL.climbs x c m)), [.un, .un, .un]) := by
  have h2 : ∀ i : Int, cMul 2 i = true := fun i => LC.cMulL (by decide +kernel)
  have t : 2 * m < 2 ^ (w + 1) := by rw [Nat.pow_succ]; omega
  have lm := log2_nat t (by omega)
  have e0 : ((2 * m : Nat) : Int) = 2 * (m : Int) := by push_cast; rfl
  rw [e0] at lm
  have hB1 := log2_nat (n := x.1) (k := B + 1) (Nat.lt_of_lt_of_le h.1 (Nat.pow_le_pow_right (by omega) (by omega))) (by omega)
  have hB2 := log2_nat (n := x.2) (k := B + 1) (Nat.lt_of_lt_of_le h.2 (Nat.pow_le_pow_right (by omega) (by omega))) (by omega)
  have c1 : cMul (2 * (m : Int)) (x.1 : Int) = true := by
    unfold cMul
    rw [decide_eq_true (by omega), Bool.true_or]
  have c2 : cMul (2 * (m : Int)) (x.2 : Int) = true := by
    unfold cMul
    rw [decide_eq_true (by omega), Bool.true_or]
  cases c
  · simp [mf_climbed, mb_climbed, dRung, TL.climbs, h2, c1, c2, -cMul, shaped_int, eqv_int, sizeN]
  · simp [mf_climbed, mb_climbed, dRung, TL.climbs, h2, c1, c2, -cMul, shaped_int, eqv_int, sizeN]
theorem rungsF_rep (c : Bool) : ∀ (m : Nat) (x : Nat × Nat), TL.rungsF x (List.replicate m c) = TL.climbs x c m
  | 0, x => by cases c <;> simp [TL.rungsF, TL.climbs]
  | m + 1, x => by
    rw [List.replicate_succ]
    show TL.rungsF (TL.climb x c) (List.replicate m c) = _
    rw [rungsF_rep c m]
    cases c
    · simp only [TL.climb, TL.climbs, Bool.false_eq_true, if_false, Prod.mk.injEq, true_and]
      rw [show 2 * (m + 1) * x.1 = 2 * m * x.1 + 2 * x.1 by rw [Nat.mul_add, Nat.add_mul]]
      omega
    · simp only [TL.climb, TL.climbs, if_true, Prod.mk.injEq, and_true]
      rw [show 2 * (m + 1) * x.2 = 2 * m * x.2 + 2 * x.2 by rw [Nat.mul_add, Nat.add_mul]]
      omega
def climbAll (x : Nat × Nat) (S : List Strip) : Nat × Nat := S.foldl (fun y s => TL.climbs y s.1 s.2) x
theorem climbAll_flat : ∀ (S : List Strip) (x : Nat × Nat), climbAll x S = TL.rungsF x (TL.flat S)
  | [], x => rfl
  | (c, m) :: S, x => by
    rw [TL.flat_cons, TL.rungsF_app, rungsF_rep]
    exact climbAll_flat S _
theorem climbAll_bd {w : Nat} : ∀ (S : List Strip) (B : Nat) (x : Nat × Nat), Bd B x → (∀ s ∈ S, s.2 < 2 ^ w) → Bd (B + S.length * (w + 2)) (climbAll x S)
  | [], B, x, h, _ => by simpa [climbAll] using h
  | (c, m) :: S, B, x, h, hs => by
    have h1 := climbs_bd h (hs (c, m) List.mem_cons_self) c
    have := climbAll_bd S _ _ h1 fun s hs' => hs s (List.mem_cons_of_mem _ hs')
    refine this.mono ?_
    rw [List.length_cons, Nat.add_mul]
    omega
theorem rungs_loop {w : Nat} {r0 r1 : Sl} (S : List Strip) (hw : ∀ s ∈ S, s.2 < 2 ^ w) (hB : 1 + S.length * (w + 2) + w ≤ 900000) (s3 s4 : Sl) :
    ∃ t3 t4, mLoop (mgL (fun _ => false) [3, 4]) lb_rungs_within_1 (S.map dS) [r0, r1, .val (dRung (1, 1)), s3, s4] = some (.nx [r0, r1, .val (dRung (climbAll (1, 1) S)), t3, t4]) := by
  have key := loop_count (g := mgL (fun _ => false) [3, 4]) (b := lb_rungs_within_1) dS
    (fun i ρ => ∃ t3 t4, ρ = [r0, r1, .val (dRung (climbAll (1, 1) (S.take i))), t3, t4]) S 0
    [r0, r1, .val (dRung (1, 1)), s3, s4] (fun i s ρ hs hW => by
      obtain ⟨t3, t4, rfl⟩ := hW
      simp only [Nat.zero_add]
      have hi := (List.getElem?_eq_some_iff.mp hs).1
      have et : S.take (i + 1) = S.take i ++ [s] := by rw [List.take_add_one, hs]; rfl
      have bd := climbAll_bd (w := w) (S.take i) 1 (1, 1) (by constructor <;> decide) fun s hs' => hw s (List.mem_of_mem_take hs')
      rw [List.length_take] at bd
      have hmin : min i S.length * (w + 2) ≤ S.length * (w + 2) := Nat.mul_le_mul_right _ (by omega)
      have e2 : climbAll (1, 1) (S.take (i + 1)) = TL.climbs (climbAll (1, 1) (S.take i)) s.1 s.2 := by
        rw [et]; unfold climbAll; rw [List.foldl_append]; rfl
      rw [e2]
      have e := climbed_ok bd s.1 s.2 (hw s (List.mem_of_getElem? hs)) (by omega)
      generalize climbAll (1, 1) (S.take i) = x at e ⊢
      generalize TL.climbs x s.1 s.2 = y at e ⊢
      have g : mgL (fun _ => false) [3, 4] (dS s) [r0, r1, .val (dRung x), t3, t4] = some [r0, r1, .val (dRung x), .val (.int (if s.1 then 1 else 0)), .val (.int (s.2 : Int))] := by
        generalize dRung x = X
        simp [dS]
      have tt : lb_rungs_within_1 [r0, r1, .val (dRung x), .val (.int (if s.1 then 1 else 0)), .val (.int (s.2 : Int))] = some (.nx [r0, r1, .val (dRung y), .val (.int (if s.1 then 1 else 0)), .val (.int (s.2 : Int))]) := by
        generalize (if s.1 then (1 : Int) else 0) = cI at e ⊢
        generalize dRung x = X at e ⊢
        generalize dRung y = Y at e ⊢
        simp [lb_rungs_within_1, e]
      exact ⟨_, _, g, .inl tt, _, _, rfl⟩) ⟨s3, s4, rfl⟩
  obtain ⟨ρ', e, t3, t4, rfl⟩ := key
  rw [Nat.zero_add, List.take_length] at e
  exact ⟨t3, t4, e⟩
theorem strip_le : ∀ (r : RowT) (f n : Int), okF f r = true → (∀ q ∈ r, q.2 ≤ n) → 1 ≤ f → f ≤ n + 1 → ∀ s ∈ TLR.stripsGo f r n, (s.2 : Int) ≤ n
  | [], f, n, _, _, h1, h2, s, hs => by
    simp only [TLR.stripsGo, List.mem_singleton] at hs
    subst hs
    simp only
    omega
  | q :: r, f, n, ok, hn, h1, h2, s, hs => by
    rw [okF_cons] at ok
    have hq := hn q List.mem_cons_self
    simp only [TLR.stripsGo, List.mem_cons] at hs
    rcases hs with rfl | rfl | hs
    · simp only; omega
    · simp only; omega
    · exact strip_le r (q.2 + 1) n (okF_mono (by omega) ok.2.2) (fun y hy => hn y (List.mem_cons_of_mem _ hy)) (by omega) (by omega) s hs
theorem stripsGo_len : ∀ (r : RowT) (f n : Int), (TLR.stripsGo f r n).length = 2 * r.length + 1
  | [], f, n => rfl
  | q :: r, f, n => by
    simp only [TLR.stripsGo, List.length_cons, stripsGo_len r]
    omega
def rungsR (r : RowT) (n : Nat) : Nat × Nat := TL.rungsF (1, 1) (TLR.bits n r)
theorem rungs_within_ok {w : Nat} {r : RowT} {n : Nat} (h : TLR.within n r) (hl : r.length ≤ 1000) (hn : lastE r ≤ n) (hw : n < 2 ^ w) (hB : w ≤ 400) :
    mf_rungs_within [.val (dRow r), .val (.int (n : Int))] = some (.val (dRung (rungsR r n)), [.un, .un]) := by
  have e1 := strips_of_ok h.1 (by omega) hn (by omega)
  have hle : ∀ s ∈ TLR.stripsR r n, s.2 < 2 ^ w := fun s hs => by
    have := strip_le r 1 n h.1 h.2 (by omega) (by omega) s (List.mem_filter.mp hs).1
    omega
  have hlen : (TLR.stripsR r n).length ≤ 2001 := by
    have h1 := stripsGo_len r 1 n
    have h2 : (TLR.stripsR r n).length ≤ (TLR.stripsGo 1 r n).length := List.length_filter_le _ _
    omega
  have hm : (TLR.stripsR r n).length * (w + 2) ≤ 2001 * 402 := Nat.mul_le_mul hlen (by omega)
  have e5 : climbAll (1, 1) (TLR.stripsR r n) = rungsR r n := by
    rw [climbAll_flat, TLR.strips_flat h]; rfl
  obtain ⟨t3, t4, e2⟩ := rungs_loop (r0 := .val (dRow r)) (r1 := .val (.int (n : Int))) (TLR.stripsR r n) hle (by omega) .un .un
  rw [e5] at e2
  generalize TLR.stripsR r n = S at e1 e2
  generalize rungsR r n = y at e2
  have h1 : mAsg (fun _ => false) 2 (mTup (mCons (mC (.int 1)) (mCons (mC (.int 1)) (mNil)))) [.val (dRow r), .val (.int (n : Int)), .un, .un, .un] = some (.nx [.val (dRow r), .val (.int (n : Int)), .val (dRung (1, 1)), .un, .un]) := by
    generalize dRow r = R
    simp [dRung, sizeN]
  have h2 : mFor (miN (mCall PR.mf_strips_of [] (mCons (mVar 0) (mCons (mVar 1) (mNil))))) (mgL (fun _ => false) [3, 4]) (lb_rungs_within_1) [.val (dRow r), .val (.int (n : Int)), .val (dRung (1, 1)), .un, .un] = some (.nx [.val (dRow r), .val (.int (n : Int)), .val (dRung y), t3, t4]) := by
    have : miN (mCall PR.mf_strips_of [] (mCons (mVar 0) (mCons (mVar 1) (mNil)))) [.val (dRow r), .val (.int (n : Int)), .val (dRung (1, 1)), .un, .un] = some (S.map dS, [.val (dRow r), .val (.int (n : Int)), .val (dRung (1, 1)), .un, .un]) := by
      generalize dRow r = R at e1 ⊢
      generalize dRung (1, 1) = O
      simp [e1]
    rw [mFor_ap, this]
    exact e2
  unfold mf_rungs_within
  refine mDef_rt (np := 2) (nl := 5) (ρ' := [.val (dRow r), .val (.int (n : Int)), .val (dRung y), t3, t4]) rfl ?_
  show mb_rungs_within [.val (dRow r), .val (.int (n : Int)), .un, .un, .un] = _
  unfold mb_rungs_within
  rw [mSeq_nx h1, mSeq_nx h2]
  generalize dRow r = R
  generalize dRung y = Y
  simp
end PR
namespace LC
open PySem L2 Dn
theorem mTNot_t {a : MT} {ρ ρ1 : List Sl} (h : a ρ = some (true, ρ1)) : mTNot a ρ = some (false, ρ1) := by
  unfold mTNot
  rw [h]
  rfl
theorem mTru_t {a : MX} {ρ ρ1 : List Sl} (h : a ρ = some (.val (.bool true), ρ1)) : mTru a ρ = some (true, ρ1) := by
  unfold mTru
  rw [h]
  rfl
theorem not_true {a : MX} {ρ ρ1 : List Sl} (h : a ρ = some (.val (.bool true), ρ1)) : mTNot (mTru a) ρ = some (false, ρ1) := mTNot_t (mTru_t h)
end LC
namespace Dn
open PySem L2
theorem h62of {n : Nat} (h : n ≤ 100000) : (n : Int) < 2 ^ 62 ∧ -(2 ^ 62) ≤ (n : Int) := by constructor <;> omega
theorem miR1_of {n : Nat} {e : MA} {ρ ρ1 : List Sl} (h : e ρ = some ([.val (.int (n : Int))], ρ1)) (hn : n ≤ 100000) : miR1 e ρ = some ((List.range n).map fun (i : Nat) => PyData.int (0 + (i : Int)), ρ1) := by
  have h62 := h62of hn
  rw [miR1_ap, h]
  show (if (n : Int) < 2 ^ 62 ∧ -(2 ^ 62) ≤ (n : Int) then some (rangeD 0 (n : Int).toNat, ρ1) else none) = _
  rw [if_pos h62, Int.toNat_natCast]
  rfl
end Dn
namespace LC
open PySem L2 Dn PR LB
open TL (Strip)
theorem climbed_ok {B w : Nat} {x : Nat × Nat} (h : Bd B x) (c : Bool) (m : Nat) (hm : m < 2 ^ w) (hB : B + w ≤ 900000) :
    mf__law_climbed [.val (.list [.int (x.1 : Int), .int (x.2 : Int)]), .val (.bool c), .val (.int (m : Int))] = some (.own [.int ((TL.climbs x c m).1 : Int), .int ((TL.climbs x c m).2 : Int)], [.un, .un, .un]) := by
  have h2 : ∀ i : Int, cMul 2 i = true := fun i => LC.cMulL (by decide +kernel)
  have t : 2 * m < 2 ^ (w + 1) := by rw [Nat.pow_succ]; omega
  have lm := log2_nat t (by omega)
  have e0 : ((2 * m : Nat) : Int) = 2 * (m : Int) := by push_cast; rfl
  rw [e0] at lm
  have hB1 := log2_nat (n := x.1) (k := B + 1) (Nat.lt_of_lt_of_le h.1 (Nat.pow_le_pow_right (by omega) (by omega))) (by omega)
  have hB2 := log2_nat (n := x.2) (k := B + 1) (Nat.lt_of_lt_of_le h.2 (Nat.pow_le_pow_right (by omega) (by omega))) (by omega)
  have c1 : cMul (2 * (m : Int)) (x.1 : Int) = true := by
    unfold cMul
    rw [decide_eq_true (by omega), Bool.true_or]
  have c2 : cMul (2 * (m : Int)) (x.2 : Int) = true := by
    unfold cMul
    rw [decide_eq_true (by omega), Bool.true_or]
  cases c
  · simp [mf__law_climbed, mb__law_climbed, TL.climbs, h2, c1, c2, -cMul, sizeN, atI_0, atI_1]
  · simp [mf__law_climbed, mb__law_climbed, TL.climbs, h2, c1, c2, -cMul, sizeN, atI_0, atI_1]
end LC
namespace TL
theorem exists_layers : ∀ (n : Nat) (k : Kind) (P : Row × Row), P.1.length = n → P.2.length = n → ∃ ls, chained k ls ∧ wrapAll ls ([], []) = P ∧ ls.length = n
  | 0, k, (A, B), h1, h2 => by
    have e1 : A = [] := List.eq_nil_of_length_eq_zero h1
    have e2 : B = [] := List.eq_nil_of_length_eq_zero h2
    subst e1 e2
    exact ⟨[], trivial, rfl, rfl⟩
  | n + 1, k, (A, B), h1, h2 => by
    have hA : A ≠ [] := fun e => by rw [e] at h1; simp at h1
    have hB : B ≠ [] := fun e => by rw [e] at h2; simp at h2
    simp only at h1 h2
    have l1 := take_len k.1 A
    have l2 := take_len k.2 B
    obtain ⟨ls, c, w, l⟩ := exists_layers n ((take k.2 B).1, (take k.1 A).1) ((take k.1 A).2, (take k.2 B).2) (by simp only; omega) (by simp only; omega)
    refine ⟨(k, ((take k.2 B).1, (take k.1 A).1)) :: ls, ⟨rfl, c⟩, ?_, by simp [l]⟩
    simp only [wrapAll, w, wrap]
    rw [put_take _ hA, put_take _ hB]
theorem loc_step {l : Layers} (g : good l) {n : Nat} {P : Row × Row} (h1 : P.1.length = n) (h2 : P.2.length = n) :
    loc (l.2.2 + n) l.1 (wrapAll (exLs l) P) = toldStep l (loc n (kindBehind l) P) := by
  obtain ⟨ls, c, w, len⟩ := exists_layers n (kindBehind l) P h1 h2
  have e1 := loc_val ls _ c
  rw [w, len] at e1
  have hc : chained l.1 (exLs l ++ ls) := by
    rw [chained_app]
    refine ⟨exL_chained _ _ _, ?_⟩
    rw [kindEnd_exLs]
    exact c
  have e2 := loc_val _ _ hc
  rw [wrapAll_app, w, val_step g c, List.length_append, len] at e2
  have e3 : (exLs l).length = l.2.2 := exL_len _ _ _
  rw [e3] at e2
  rw [e2, e1]
def putB (r c : Bool) (m : Nat) (S : List Strip) : List Strip := if m = 0 then S else if r then (c, m) :: S else S ++ [(c, m)]
theorem putB_flat (r c : Bool) (m : Nat) (S : List Strip) : flat (putB r c m S) = putMany r c m (flat S) := by
  unfold putB
  by_cases h : m = 0
  · subst h
    cases r <;> simp [putMany]
  · rw [if_neg h]
    cases r
    · simp [putMany, flat_app, flat_one]
    · simp [putMany, flat_cons]
structure Scene (n : Nat) (O U : List Strip) (k : Kind) (M : List Strip) (far : Nat) : Prop where
  lo : (flat O).length = n
  lu : (flat U).length = n
  at' : loc n k (flat O, flat U) = ((flat M).reverse, far)
theorem Scene.start (k : Kind) : Scene 0 [] [] k [] 0 := ⟨rfl, rfl, rfl⟩
theorem Scene.lt {n : Nat} {O U : List Strip} {k : Kind} {M : List Strip} {far : Nat} (h : Scene n O U k M far) : far < num k (flat M).reverse := by
  have := (pairAt_loc n k (flat O, flat U) h.lo h.lu).2
  rw [h.at'] at this
  exact this
theorem Scene.len {n : Nat} {O U : List Strip} {k : Kind} {M : List Strip} {far : Nat} (h : Scene n O U k M far) : (flat M).length = n := by
  have := loc_len n k (flat O, flat U)
  rw [h.at'] at this
  simpa using this
theorem rungs_flat (M : List Strip) : rungs (flat M).reverse = M.foldl (fun y s => climbs y s.1 s.2) (1, 1) := by
  have : ∀ (M : List Strip) (T : List Bool), rungs ((flat M).reverse ++ T) = M.foldl (fun y s => climbs y s.1 s.2) (rungs T) := by
    intro M
    induction M with
    | nil => intro T; rfl
    | cons s M ih =>
      intro T
      obtain ⟨c, m⟩ := s
      rw [flat_cons, List.reverse_append, List.append_assoc, ih, List.reverse_replicate, rungs_many]
      rfl
  have := this M []
  rw [List.append_nil] at this
  exact this
theorem putMany_len (r c : Bool) (m : Nat) (A : Row) : (putMany r c m A).length = A.length + m := by
  cases r <;> simp [putMany] <;> omega
theorem flat_snoc (M : List Strip) (c : Bool) (m : Nat) : (flat (M ++ [(c, m)])).reverse = List.replicate m c ++ (flat M).reverse := by
  rw [flat_app, flat_one, List.reverse_append, List.reverse_replicate]
theorem Scene.aside {n : Nat} {O U : List Strip} {k : Kind} {M : List Strip} {far : Nat} (h : Scene n O U k M far) (K : Kind) (h1 : K ≠ k) (h2 : K ≠ opp k) :
    Scene (1 + n) (putB K.1 k.2 1 O) (putB K.2 k.1 1 U) K (M ++ [(evenK K, 1)]) (begins K k (rungs (flat M).reverse) + turnd (contra K k) (num k (flat M).reverse) far) := by
  refine ⟨by rw [putB_flat, putMany_len, h.lo]; omega, by rw [putB_flat, putMany_len, h.lu]; omega, ?_⟩
  have e := loc_step (l := (K, k, 1)) (P := (flat O, flat U)) (.inr (.inr rfl)) h.lo h.lu
  have kb : kindBehind (K, k, 1) = k := by unfold kindBehind; rw [if_pos (by simp only)]
  simp only [exLs, exL, wrapAll] at e
  rw [kb, wrap_many, h.at'] at e
  rw [putB_flat, putB_flat]
  simp only at e
  rw [e]
  have hk : (k == K) = false := beq_no (Ne.symm h1)
  have hk2 : (k == opp K) = false := by
    refine beq_no fun h => h2 ?_
    rw [h, opp_opp]
  have hc : coin K k = evenK K := by
    unfold coin
    have : (K == k) = false := beq_no h1
    rw [this]
    cases evenK K <;> rfl
  unfold toldStep partB
  simp only [hk, hk2, Bool.false_eq_true, if_false]
  rw [hc, flat_snoc]
  unfold turnd
  rw [pairsOn_num]
end TL
namespace LC
open PySem L2 Dn PR LB
open TL (Strip)
def b2i (b : Bool) : Int := if b then 1 else 0
def dK (k : TL.Kind) : D := .tuple [.int (b2i k.1), .int (b2i k.2)]
def IsL (x : Sl) (ds : List D) : Prop := x = .val (.list ds) ∨ x = .own ds
theorem int_eq (i j : Int) : fEq false (.val (.int i)) (.val (.int j)) = some (.val (.bool (i == j))) := by
  simp [shaped_int, eqv_int]
end LC
namespace Ev
open PySem L2 Dn
variable {ρ ρ1 ρ2 ρ3 : List Sl} {x y z r : Sl} {xs : List Sl} {a b : MX} {c d : MT} {A B : MA} {s t : MS} {o : Option Out}
theorem defN {np nl : Nat} {mb : MS} {args ρ0 : List Sl} (h : ∃ ρ', mb ρ0 = some (.rt r ρ')) (hn : args.length = np := by rfl) (h0 : args ++ List.replicate (nl - np) .un = ρ0 := by rfl) : mDef np nl (fun _ => false) mb args = some (r, List.replicate np .un) := by
  obtain ⟨ρ', h⟩ := h
  rw [defR h hn h0]
  congr 2
  exact outA_no _ _
theorem varL (i : Nat) {ds : List D} (hx : LC.IsL x ds) (h : ρ[i]? = some x := by rfl) (h2 : ρ.set i (.val (.list ds)) = ρ1 := by rfl) : mVar i ρ = some (.val (.list ds), ρ1) := by
  rcases hx with rfl | rfl
  · unfold mVar; rw [h, ← h2]
    obtain ⟨h3, h4⟩ := List.getElem?_eq_some_iff.mp h
    simp only [Option.some.injEq, Prod.mk.injEq, true_and]
    rw [← h4, List.set_getElem_self]
  · exact varO i h h2
theorem fi {g : Int → Int → Bool} {f : Int → Int → Int} {i j : Int} (h : g i j = true) : fI g f (.val (.int i)) (.val (.int j)) = some (.val (.int (f i j))) := if_pos h
end Ev
namespace LC
open PySem L2 Dn PR LB
open TL (Strip posS)
theorem rowSt_len (x : RowT × Int) (s : Strip) : (TLR.rowSt x s).1.length ≤ x.1.length + 1 := by
  unfold TLR.rowSt
  simp only
  split
  · split
    · simp
    · simp
  · omega
theorem rowSf_len : ∀ (S : List Strip) (x : RowT × Int), (S.foldl TLR.rowSt x).1.length ≤ x.1.length + S.length
  | [], x => by simp
  | s :: S, x => by
    have := rowSf_len S (TLR.rowSt x s)
    have := rowSt_len x s
    simp only [List.foldl_cons, List.length_cons]
    omega
structure Sk (w i n : Nat) (O U : List Strip) (k : TL.Kind) (M : List Strip) (far : Nat) : Prop where
  sc : TL.Scene n O U k M far
  po : posS O
  pu : posS U
  pm : posS M
  lo : O.length ≤ 2 * i
  lu : U.length ≤ 2 * i
  lm : M.length ≤ i
  bm : ∀ s ∈ M, s.2 < 2 ^ w
theorem Sk.bd {w i n : Nat} {O U : List Strip} {k : TL.Kind} {M : List Strip} {far : Nat} (h : Sk w i n O U k M far) (hi : i ≤ 100) (hw : w ≤ 400) : Bd 50000 (TL.rungs (TL.flat M).reverse) := by
  have h1 := climbAll_bd (w := w) M 1 (1, 1) (by constructor <;> decide) h.bm
  have h2 : M.length * (w + 2) ≤ 100 * 402 := Nat.mul_le_mul (by have := h.lm; omega) (by omega)
  have e : climbAll (1, 1) M = TL.rungs (TL.flat M).reverse := (TL.rungs_flat M).symm
  rw [e] at h1
  exact h1.mono (by omega)
end LC
namespace PR
open PySem L2 Dn LB
theorem kept_bits {n : Nat} {r s : RowT} (hr : TLR.within n r) (hs : TLR.within n s) : TL.kept (TLR.bits n r, TLR.bits n s) = addR r + addR s - cnt r * cnt s := by
  unfold TL.kept
  simp only
  rw [TLR.sum_bits hr, TLR.sum_bits hs, TLR.hd_bits hr, TLR.hd_bits hs]
def turnR (one : Bool) (p : RowT × RowT) : RowT × RowT := if one then (flipR p.1 (cnt p.2), p.2) else (p.1, flipR p.2 (cnt p.1))
theorem cnt_nat {n : Nat} {r : RowT} (hr : TLR.within n r) : cnt r = (TL.hd (TLR.bits n r) : Int) ∧ TL.hd (TLR.bits n r) ≤ n := by
  refine ⟨(TLR.hd_bits hr).symm, ?_⟩
  have := TL.hd_le (TLR.bits n r)
  rwa [TLR.bits_len] at this
theorem turn_bits {n : Nat} {p : RowT × RowT} (h1 : TLR.within n p.1) (h2 : TLR.within n p.2) (one : Bool) :
    TLR.within n (turnR one p).1 ∧ TLR.within n (turnR one p).2 ∧ (TLR.bits n (turnR one p).1, TLR.bits n (turnR one p).2) = TL.turn one (false, false) (TLR.bits n p.1, TLR.bits n p.2) := by
  obtain ⟨r, s⟩ := p
  simp only at h1 h2
  obtain ⟨c1, l1⟩ := cnt_nat h1
  obtain ⟨c2, l2⟩ := cnt_nat h2
  cases one
  · simp only [turnR, Bool.false_eq_true, if_false]
    rw [c1]
    refine ⟨h1, TLR.flip_within h2 (by omega) (by omega), ?_⟩
    rw [TLR.bits_flip h2 l1]
    simp [TL.turn, TL.b2n]
  · simp only [turnR, if_true]
    rw [c2]
    refine ⟨TLR.flip_within h1 (by omega) (by omega), h2, ?_⟩
    rw [TLR.bits_flip h1 l2]
    simp [TL.turn, TL.b2n]
end PR
namespace PR
open PySem L2 Dn LB
open TL (Strip Layers)
def bI (c : Bool) : Int := if c then 1 else 0
def dK (k : TL.Kind) : D := .tuple [.int (bI k.1), .int (bI k.2)]
def dL (l : Layers) : D := .tuple [dK l.1, dK l.2.1, .int (l.2.2 : Int)]
theorem shaped_dK (k : TL.Kind) : SeqAt.shaped (dK k) = true := rfl
theorem eqv_dK (k f : TL.Kind) : PyData.eqv (dK k) (dK f) = (k == f) := by
  obtain ⟨a, b⟩ := k
  obtain ⟨c, d⟩ := f
  cases a <;> cases b <;> cases c <;> cases d <;> rfl
theorem fEq_dK (neg : Bool) (k f : TL.Kind) : fEq neg (.val (dK k)) (.val (dK f)) = some (.val (.bool (if neg then !(k == f) else (k == f)))) := by
  rw [← eqv_dK]
  simp [fEq, shaped_dK]
theorem fEq_bI (a b : Bool) : fEq false (.val (.int (bI a))) (.val (.int (bI b))) = some (.val (.bool (a == b))) := by
  cases a <;> cases b <;> rfl
theorem fEq_bool (neg a b : Bool) : fEq neg (.val (.bool a)) (.val (.bool b)) = some (.val (.bool (if neg then !(a == b) else a == b))) := by
  cases a <;> cases b <;> cases neg <;> rfl
theorem opposite_ok (k : TL.Kind) : mf_opposite [.val (dK k)] = some (.val (dK (TL.opp k)), [.un]) := by
  obtain ⟨a, b⟩ := k
  cases a <;> cases b <;> rfl
theorem even_kind_ok (k : TL.Kind) : mf_even_kind [.val (dK k)] = some (.val (.bool (TL.evenK k)), [.un]) := by
  obtain ⟨a, b⟩ := k
  cases a <;> cases b <;> rfl
theorem coin_told_ok (k f : TL.Kind) : mf_coin_told [.val (dK k), .val (dK f)] = some (.val (.int (bI (TL.coin k f))), [.un, .un]) := by
  obtain ⟨a, b⟩ := k
  obtain ⟨c, d⟩ := f
  cases a <;> cases b <;> cases c <;> cases d <;> rfl
theorem near_ok (k : TL.Kind) : fKTT [((0, 0), (0, 1)), ((1, 1), (1, 0)), ((0, 1), (0, 0)), ((1, 0), (0, 0))] (.val (dK k)) = some (.val (dK (TL.near k))) := by
  obtain ⟨a, b⟩ := k
  cases a <;> cases b <;> rfl
theorem contra_ok (k f : TL.Kind) : fInD false (.val (.tuple [.int 1, .int 0])) (.val (.tuple [dK k, dK f])) = some (.val (.bool ((k == (true, false)) || (f == (true, false))))) := by
  obtain ⟨a, b⟩ := k
  obtain ⟨c, d⟩ := f
  cases a <;> cases b <;> cases c <;> cases d <;> rfl
theorem and1_ok (m : Nat) : fAnd1 (.val (.int (m : Int))) (.val (.int 1)) = some (.val (.int ((m % 2 : Nat) : Int))) := by
  have h : (0 : Int) ≤ (m : Int) ∧ (1 : Int) = 1 := ⟨by omega, rfl⟩
  simp only [fAnd1, if_pos h]
  congr 3
theorem tru_par (m : Nat) : tru (.val (.int ((m % 2 : Nat) : Int))) = some (m % 2 == 1) := by
  have : m % 2 = 0 ∨ m % 2 = 1 := by omega
  rcases this with h | h <;> rw [h] <;> rfl
theorem gT3 {kp : Nat → Bool} {ρ ρ1 : List Sl} {i j k : Nat} {a b c : D} (h : (((ρ.set i (.val a)).set j (.val b)).set k (.val c)) = ρ1 := by rfl) (ki : kp i = false := by rfl) (kj : kp j = false := by rfl) (kk : kp k = false := by rfl) (hi : i < ρ.length := by simp) (hj : j < ρ.length := by simp) (hk : k < ρ.length := by simp) : mgL kp [i, j, k] (.tuple [a, b, c]) ρ = some ρ1 := by
  simp [ki, kj, kk, hi, hj, hk, h]
theorem gT2 {kp : Nat → Bool} {ρ ρ1 : List Sl} {i j : Nat} {a b : D} (h : ((ρ.set i (.val a)).set j (.val b)) = ρ1 := by rfl) (ki : kp i = false := by rfl) (kj : kp j = false := by rfl) (hi : i < ρ.length := by simp) (hj : j < ρ.length := by simp) : mgL kp [i, j] (.tuple [a, b]) ρ = some ρ1 := by
  simp [ki, kj, hi, hj, h]
theorem kind_behind_ok (l : Layers) : mf_kind_behind [.val (dL l)] = some (.val (dK (TL.kindBehind l)), [.un]) := by
  obtain ⟨k, f, m⟩ := l
  have h1 := and1_ok m
  have h2 := tru_par m
  have hT : mTru (mBin fAnd1 (mVar 3) (mC (.int 1))) [.val (dL (k, f, m)), .val (dK k), .val (dK f), .val (.int (m : Int))] = some (m % 2 == 1, [.val (dL (k, f, m)), .val (dK k), .val (dK f), .val (.int (m : Int))]) :=
    Ev.tTru (Ev.bin (Ev.var 3) (Ev.cst _) h1) h2
  unfold mf_kind_behind
  refine Ev.defR ?_ (ρ' := [.val (dL (k, f, m)), .val (dK k), .val (dK f), .val (.int (m : Int))])
  unfold mb_kind_behind
  refine Ev.seq (Ev.asgT (Ev.var 0) gT3) (Ev.ret ?_)
  unfold TL.kindBehind
  by_cases c : m % 2 = 1
  · rw [show (m % 2 == 1) = true by simp [c]] at hT
    rw [if_pos c]
    exact Ev.if_t hT (Ev.var 2)
  · rw [show (m % 2 == 1) = false by simpa using c] at hT
    rw [if_neg c]
    exact Ev.if_f hT (Ev.var 1)
theorem pairs_on_ok (k : TL.Kind) (x : Nat × Nat) : mf_pairs_on [.val (dK k), .val (dRung x)] = some (.val (.int (TL.pairsOn k x : Int)), [.un, .un]) := by
  have h1 := even_kind_ok k
  unfold mf_pairs_on
  refine Ev.defR ?_ (ρ' := [.val (dK k), .val (dRung x), .val (.int (x.1 : Int)), .val (.int (x.2 : Int))])
  unfold mb_pairs_on
  refine Ev.seq (Ev.asgT (Ev.var 1) gT2) (Ev.ret ?_)
  unfold TL.pairsOn
  cases hk : TL.evenK k
  · rw [hk] at h1
    exact Ev.if_f (Ev.tT (Ev.call (Ev.cons (Ev.var 0) Ev.nil) h1)) (Ev.var 3)
  · rw [hk] at h1
    exact Ev.if_t (Ev.tT (Ev.call (Ev.cons (Ev.var 0) Ev.nil) h1)) (Ev.var 2)
end PR
namespace PR
open PySem L2 Dn LB
open TL (Strip Layers)
theorem filter_dL (S : List Layers) : (S.filter fun s => decide (0 < s.2.2)).map dL = (S.filterMap fun s => if 0 < s.2.2 then some (dL s) else none) := by
  induction S with
  | nil => rfl
  | cons s S ih =>
    by_cases h : 0 < s.2.2
    · simp only [List.filter_cons, h, decide_true, if_true, List.map_cons, List.filterMap_cons, ih]
    · simp only [List.filter_cons, h, decide_false, if_false, List.filterMap_cons, Bool.false_eq_true, ih]
theorem half_nat (m : Nat) : (fI cDiv fun i j => i / j) (.val (.int (m : Int))) (.val (.int 2)) = some (.val (.int ((m / 2 : Nat) : Int))) := by
  have h : cDiv (m : Int) 2 = true := cDiv_ok (by decide) sm_two
  have e : ((m / 2 : Nat) : Int) = (m : Int) / 2 := by omega
  rw [e]
  simp only [fI, h, if_true]
theorem add1_nat (m : Nat) : fAdd (.val (.int (m : Int))) (.val (.int 1)) = some (.val (.int ((m + 1 : Nat) : Int))) := rfl
theorem one_way_ok (l : Layers) : mf_one_way [.val (dL l)] = some (.own ((TL.oneWay l).map dL), [.un]) := by
  obtain ⟨k, f, m⟩ := l
  have e5 := opposite_ok k
  have f1 := fEq_dK true f (TL.opp k)
  simp only [if_true] at f1
  unfold mf_one_way TL.oneWay
  simp only
  by_cases c : f = TL.opp k
  · rw [show (f == TL.opp k) = true by rw [beq_iff_eq]; exact c] at f1 ⊢
    simp only [Bool.not_true, if_true] at f1 ⊢
    have hl : dL (k, f, m) = .tuple [dK k, dK f, .int (m : Int)] := rfl
    rw [filter_dL]
    have key : ∀ R : D, lc_one_way_1 [.val R, .val (dK k), .val (dK f), .val (.int (m : Int)), .own [dL (k, f, (m + 1) / 2), dL (f, k, m / 2)], .un] = some (.own ([(k, f, (m + 1) / 2), (f, k, m / 2)].filterMap fun s => if 0 < s.2.2 then some (dL s) else none), [.val R, .val (dK k), .val (dK f), .val (.int (m : Int)), .val (.list [dL (k, f, (m + 1) / 2), dL (f, k, m / 2)]), .un]) := by
      intro R
      unfold lc_one_way_1
      refine comp_map dL _ [(k, f, (m + 1) / 2), (f, k, m / 2)] (ρ1 := [.val R, .val (dK k), .val (dK f), .val (.int (m : Int)), .val (.list [dL (k, f, (m + 1) / 2), dL (f, k, m / 2)]), .un]) (Ev.iS (Ev.varO 4)) rfl rfl (fun s hs => ?_) (sizeN (by simp))
      have hlt : mB (mBin (fB fun i j => decide (j < i)) (mBin fIx (mVar 5) (mC (.int 2))) (mC (.int 0))) [.val R, .val (dK k), .val (dK f), .val (.int (m : Int)), .val (.list [dL (k, f, (m + 1) / 2), dL (f, k, m / 2)]), .val (dL s)] = some (decide (0 < s.2.2), [.val R, .val (dK k), .val (dK f), .val (.int (m : Int)), .val (.list [dL (k, f, (m + 1) / 2), dL (f, k, m / 2)]), .val (dL s)]) := by
        refine Ev.tB (Ev.bin (Ev.ixT (Ev.var 5) (Ev.cst _) (dd := .int (s.2.2 : Int)) ?_) (Ev.cst _) ?_)
        · rfl
        · have : ((0 : Int) < (s.2.2 : Int)) ↔ 0 < s.2.2 := by omega
          simp only [fB, this]
      refine ⟨_, _, _, Ev.gN, hlt, ?_⟩
      by_cases c : 0 < s.2.2
      · exact .inr ⟨by simp [c], .val (dL s), dL s, _, Ev.var 5, rfl, by simp [c], rfl⟩
      · exact .inl ⟨by simp [c], by simp [c], rfl⟩
    refine Ev.defN ?_
    unfold mb_one_way
    apply Exists.intro
    exact Ev.seq (Ev.asgT (Ev.var 0) (by rw [hl]; exact Ev.gT3)) (Ev.seq (Ev.ifS_f (Ev.tB (Ev.bin (Ev.var 2) (Ev.call (Ev.cons (Ev.var 1) Ev.nil) e5) f1)) Ev.next) (Ev.seq (Ev.asg (Ev.lst (ds := [dL (k, f, (m + 1) / 2), dL (f, k, m / 2)]) (Ev.cons (Ev.tup (ds := [dK k, dK f, .int (((m + 1) / 2 : Nat) : Int)]) (Ev.cons (Ev.var 1) (Ev.cons (Ev.var 2) (Ev.cons (Ev.bin (Ev.bin (Ev.var 3) (Ev.cst _) (add1_nat m)) (Ev.cst _) (half_nat (m + 1))) Ev.nil)))) (Ev.cons (Ev.tup (ds := [dK f, dK k, .int ((m / 2 : Nat) : Int)]) (Ev.cons (Ev.var 2) (Ev.cons (Ev.var 1) (Ev.cons (Ev.bin (Ev.var 3) (Ev.cst _) (half_nat m)) Ev.nil)))) Ev.nil)))) (Ev.ret (key _))))
  · rw [show (f == TL.opp k) = false by simpa using c] at f1 ⊢
    simp only [Bool.not_false, Bool.false_eq_true, if_false] at f1 ⊢
    have hl : dL (k, f, m) = .tuple [dK k, dK f, .int (m : Int)] := rfl
    refine Ev.defN ?_
    unfold mb_one_way
    apply Exists.intro
    exact Ev.seq (Ev.asgT (Ev.var 0) (by rw [hl]; exact Ev.gT3)) (Ev.seq_rt (Ev.ifS_t (Ev.tB (Ev.bin (Ev.var 2) (Ev.call (Ev.cons (Ev.var 1) Ev.nil) e5) f1)) (Ev.ret (Ev.lst (Ev.cons (Ev.var 0) Ev.nil)))))
theorem mul_nat {B w : Nat} {m x : Nat} (hm : m < 2 ^ w) (hx : x < 2 ^ B) (hB : B + w ≤ 900000) : fMul (.val (.int (m : Int))) (.val (.int (x : Int))) = some (.val (.int ((m * x : Nat) : Int))) := by
  have l1 := log2_nat (n := m) (k := w + 1) (Nat.lt_of_lt_of_le hm (Nat.pow_le_pow_right (by omega) (by omega))) (by omega)
  have l2 := log2_nat (n := x) (k := B + 1) (Nat.lt_of_lt_of_le hx (Nat.pow_le_pow_right (by omega) (by omega))) (by omega)
  have c1 : cMul (m : Int) (x : Int) = true := by
    unfold cMul
    rw [decide_eq_true (by omega), Bool.true_or]
  rw [Ev.mul c1]
  push_cast
  rfl
theorem bool_par (m : Nat) : fBool1 [.val (.int ((m % 2 : Nat) : Int))] = some (.val (.bool (m % 2 == 1))) := by
  have : m % 2 = 0 ∨ m % 2 = 1 := by omega
  rcases this with h | h <;> rw [h] <;> rfl
theorem part_of_ok {B w : Nat} (l : Layers) {x : Nat × Nat} (hx : Bd B x) (hm : l.2.2 < 2 ^ w) (hB : B + w ≤ 900000) :
    mf_part_of [.val (dL l), .val (dRung x)] = some (.val (.tuple [.int ((TL.partB l x).1 : Int), .bool (TL.partB l x).2]), [.un, .un]) := by
  obtain ⟨k, f, m⟩ := l
  obtain ⟨x1, x2⟩ := x
  have e5 := opposite_ok k
  have e6 := even_kind_ok k
  have f0 := fEq_dK false f k
  have f1 := fEq_dK false f (TL.opp k)
  have f2 := fEq_dK false f (TL.near k)
  have n1 := near_ok k
  have n2 := contra_ok k f
  have hl : dL (k, f, m) = .tuple [dK k, dK f, .int (m : Int)] := rfl
  have hr : dRung (x1, x2) = .tuple [.int (x1 : Int), .int (x2 : Int)] := rfl
  have hm' : m < 2 ^ w := hm
  have m1 := mul_nat hm' hx.1 hB
  have m2 := mul_nat hm' hx.2 hB
  simp only at m1 m2
  have a1 := and1_ok m
  have b1 := bool_par m
  have ad : fAdd (.val (.int (x1 : Int))) (.val (.int (x2 : Int))) = some (.val (.int ((x1 + x2 : Nat) : Int))) := rfl
  simp only [Bool.false_eq_true, if_false] at f0 f1 f2
  unfold mf_part_of TL.partB
  simp only
  by_cases c0 : f = k
  · rw [show (f == k) = true by rw [beq_iff_eq]; exact c0] at f0 ⊢
    simp only [if_true]
    refine Ev.defN ?_
    unfold mb_part_of
    apply Exists.intro
    exact Ev.seq (Ev.asgT (Ev.var 0) (by rw [hl]; exact Ev.gT3)) (Ev.seq (Ev.asgT (Ev.var 1) (by rw [hr]; exact Ev.gT2)) (Ev.seq_rt (Ev.ifS_t (Ev.tB (Ev.bin (Ev.var 3) (Ev.var 2) f0)) (Ev.ret (Ev.tup (Ev.cons (Ev.cst _) (Ev.cons (Ev.cst _) Ev.nil)))))))
  · have d0 : (f == k) = false := by simpa using c0
    rw [d0] at f0 ⊢
    simp only [Bool.false_eq_true, if_false]
    by_cases c1 : f = TL.opp k
    · rw [show (f == TL.opp k) = true by rw [beq_iff_eq]; exact c1] at f1 ⊢
      simp only [if_true]
      cases he : TL.evenK k
      · rw [he] at e6
        simp only [Bool.false_eq_true, if_false]
        refine Ev.defN ?_
        unfold mb_part_of
        apply Exists.intro
        exact Ev.seq (Ev.asgT (Ev.var 0) (by rw [hl]; exact Ev.gT3)) (Ev.seq (Ev.asgT (Ev.var 1) (by rw [hr]; exact Ev.gT2)) (Ev.seq (Ev.ifS_f (Ev.tB (Ev.bin (Ev.var 3) (Ev.var 2) f0)) Ev.next) (Ev.seq_rt (Ev.ifS_t (Ev.tB (Ev.bin (Ev.var 3) (Ev.call (Ev.cons (Ev.var 2) Ev.nil) e5) f1)) (Ev.ret (Ev.if_f (Ev.tT (Ev.call (Ev.cons (Ev.var 2) Ev.nil) e6)) (Ev.tup (Ev.cons (Ev.bin (Ev.var 4) (Ev.var 5) m1) (Ev.cons (Ev.cst _) Ev.nil)))))))))
      · rw [he] at e6
        simp only [if_true]
        refine Ev.defN ?_
        unfold mb_part_of
        apply Exists.intro
        exact Ev.seq (Ev.asgT (Ev.var 0) (by rw [hl]; exact Ev.gT3)) (Ev.seq (Ev.asgT (Ev.var 1) (by rw [hr]; exact Ev.gT2)) (Ev.seq (Ev.ifS_f (Ev.tB (Ev.bin (Ev.var 3) (Ev.var 2) f0)) Ev.next) (Ev.seq_rt (Ev.ifS_t (Ev.tB (Ev.bin (Ev.var 3) (Ev.call (Ev.cons (Ev.var 2) Ev.nil) e5) f1)) (Ev.ret (Ev.if_t (Ev.tT (Ev.call (Ev.cons (Ev.var 2) Ev.nil) e6)) (Ev.tup (Ev.cons (Ev.bin (Ev.var 4) (Ev.var 6) m2) (Ev.cons (Ev.fn (Ev.cons (Ev.bin (Ev.var 4) (Ev.cst _) a1) Ev.nil) b1) Ev.nil)))))))))
    · have d1 : (f == TL.opp k) = false := by simpa using c1
      rw [d1] at f1 ⊢
      simp only [Bool.false_eq_true, if_false]
      have hb : TL.begins k f (x1, x2) = if f == TL.near k then 0 else x1 + x2 := by
        unfold TL.begins
        rw [d0, d1]
        rfl
      have hc : TL.contra k f = ((k == (true, false)) || (f == (true, false))) := by
        unfold TL.contra
        rw [d0, d1]
        rfl
      rw [hb, hc]
      by_cases c2 : f = TL.near k
      · rw [show (f == TL.near k) = true by rw [beq_iff_eq]; exact c2] at f2 ⊢
        simp only [if_true]
        refine Ev.defN ?_
        unfold mb_part_of
        apply Exists.intro
        exact Ev.seq (Ev.asgT (Ev.var 0) (by rw [hl]; exact Ev.gT3)) (Ev.seq (Ev.asgT (Ev.var 1) (by rw [hr]; exact Ev.gT2)) (Ev.seq (Ev.ifS_f (Ev.tB (Ev.bin (Ev.var 3) (Ev.var 2) f0)) Ev.next) (Ev.seq (Ev.ifS_f (Ev.tB (Ev.bin (Ev.var 3) (Ev.call (Ev.cons (Ev.var 2) Ev.nil) e5) f1)) Ev.next) (Ev.ret (Ev.tup (Ev.cons (Ev.if_t (Ev.tB (Ev.bin (Ev.var 3) (Ev.un (Ev.var 2) n1) f2)) (Ev.cst _)) (Ev.cons (Ev.bin (Ev.tup (Ev.cons (Ev.cst _) (Ev.cons (Ev.cst _) Ev.nil))) (Ev.tup (Ev.cons (Ev.var 2) (Ev.cons (Ev.var 3) Ev.nil))) n2) Ev.nil)))))))
      · rw [show (f == TL.near k) = false by simpa using c2] at f2 ⊢
        simp only [Bool.false_eq_true, if_false]
        refine Ev.defN ?_
        unfold mb_part_of
        apply Exists.intro
        exact Ev.seq (Ev.asgT (Ev.var 0) (by rw [hl]; exact Ev.gT3)) (Ev.seq (Ev.asgT (Ev.var 1) (by rw [hr]; exact Ev.gT2)) (Ev.seq (Ev.ifS_f (Ev.tB (Ev.bin (Ev.var 3) (Ev.var 2) f0)) Ev.next) (Ev.seq (Ev.ifS_f (Ev.tB (Ev.bin (Ev.var 3) (Ev.call (Ev.cons (Ev.var 2) Ev.nil) e5) f1)) Ev.next) (Ev.ret (Ev.tup (Ev.cons (Ev.if_f (Ev.tB (Ev.bin (Ev.var 3) (Ev.un (Ev.var 2) n1) f2)) (Ev.bin (Ev.var 5) (Ev.var 6) ad)) (Ev.cons (Ev.bin (Ev.tup (Ev.cons (Ev.cst _) (Ev.cons (Ev.cst _) Ev.nil))) (Ev.tup (Ev.cons (Ev.var 2) (Ev.cons (Ev.var 3) Ev.nil))) n2) Ev.nil)))))))
end PR
namespace PR
open PySem L2 Dn LB
open TL (Strip Layers)
theorem fEq_int (neg : Bool) (a b : Int) : fEq neg (.val (.int a)) (.val (.int b)) = some (.val (.bool (if neg then !(decide (a = b)) else decide (a = b)))) := by
  simp [fEq, shaped_int, eqv_int]
  rfl
theorem eq_one (c : Bool) : fEq false (.val (.int (bI c))) (.val (.int 1)) = some (.val (.bool c)) := by cases c <;> rfl
theorem rowst_turn (B : Sl) (r : RowT) (p : Int) (c : Bool) (m : Nat) (hl : r.length ≤ 10000) (s5 : Sl) :
    ∃ t5, lb_row_of_strips_1 [B, .own (r.map pairD), .val (.int p), .val (.int (bI c)), .val (.int (m : Int)), s5] =
      some (.nx [B, .own ((TLR.rowSt (r, p) (c, m)).1.map pairD), .val (.int (p + m)), .val (.int (bI c)), .val (.int (m : Int)), t5]) := by
  have hz : r.length < sizeLine := sizeL (by omega)
  have hzm : (r.map pairD).length < sizeLine := by rw [List.length_map]; exact hz
  have hm : (fB fun i j => decide (j < i)) (.val (.int (m : Int))) (.val (.int 0)) = some (.val (.bool (decide (0 < m)))) := by
    have : ((0 : Int) < (m : Int)) ↔ 0 < m := by omega
    simp only [fB, this]
  unfold lb_row_of_strips_1 TLR.rowSt
  simp only
  by_cases hc : c = true ∧ 0 < m
  · obtain ⟨rfl, h0⟩ := hc
    rw [decide_eq_true h0] at hm
    simp only [h0, and_self, if_true]
    have hlast := last_of_ok r
    have hd : dRow r = .list (r.map pairD) := rfl
    rw [hd] at hlast
    by_cases hs : r ≠ [] ∧ lastE r = p
    · rw [if_pos hs]
      obtain ⟨a, q, e⟩ := TLR.split_last hs.1
      have he : fEq false (.val (.int (lastE r))) (.val (.int p)) = some (.val (.bool true)) := by
        rw [fEq_int]; simp [hs.2]
      have hpop : fPop (r.map pairD) [] = some (pairD q, a.map pairD) := by
        rw [e]; simp
      have hgl : (r.getLastD (0, 0)) = q := by rw [e]; simp
      have hdl : r.dropLast = a := by rw [e]; simp
      have hzz : (a.map pairD).length < sizeLine := by rw [e] at hz; simp at hz ⊢; omega
      have hne : (!(r.map pairD).isEmpty) = true := by rw [e]; simp
      rw [hgl, hdl, List.map_append]
      have hq : pairD q = .tuple [.int q.1, .int q.2] := rfl
      refine ⟨.val (.int q.1), ?_⟩
      exact Ev.seq (Ev.ifS_t (Ev.tAnd_t (Ev.tB (Ev.bin (Ev.var 3) (Ev.cst _) (eq_one true))) (Ev.tB (Ev.bin (Ev.var 4) (Ev.cst _) hm)))
        (Ev.seq (Ev.asg (Ev.bin (Ev.var 2) (Ev.cst _) rfl)) (Ev.seq (Ev.ifS_t (Ev.tAnd_t (Ev.truO hne) (Ev.tB (Ev.bin (Ev.callN (Ev.consO 1 Ev.nilN) rfl hlast rfl) (Ev.var 2) he))) (Ev.asg (Ev.ixT (ds := [.int q.1, .int q.2]) (Ev.meth Ev.nil hpop) (Ev.cst _) rfl)))
          (Ev.expr (Ev.meth (Ev.cons (Ev.tup (Ev.cons (Ev.var 5) (Ev.cons (Ev.bin (Ev.var 2) (Ev.var 4) rfl) Ev.nil))) Ev.nil) (Ev.app hzz)))))) (Ev.aug (Ev.var 4))
    · rw [if_neg hs]
      rw [List.map_append]
      refine ⟨.val (.int (p + 1)), ?_⟩
      have hif : ∀ ρ : List Sl, ρ[1]? = some (.own (r.map pairD)) → ρ[2]? = some (.val (.int p)) → mTAnd (mTruO 1) (mB (mBin (fEq false) (mCallN PR.mf_last_of (mConsO 1 (mNilN))) (mVar 2))) ρ = some (false, ρ) := by
        intro ρ h1 h2
        by_cases hr : r = []
        · subst hr
          exact Ev.tAnd_f (Ev.truO (s0 := .own []) rfl h1 rfl)
        · have hne : (!(r.map pairD).isEmpty) = true := by cases r; exact absurd rfl hr; rfl
          have hne2 : lastE r ≠ p := fun z => hs ⟨hr, z⟩
          have he : fEq false (.val (.int (lastE r))) (.val (.int p)) = some (.val (.bool false)) := by
            rw [fEq_int]; simp [hne2]
          have hargs : argsN ρ [Sum.inr 1] = some [.val (.list (r.map pairD))] := by
            unfold argsN; rw [h1]; rfl
          exact Ev.tAnd_t (Ev.truO (s0 := .own (r.map pairD)) hne h1 rfl) (Ev.tB (Ev.bin (Ev.callN (Ev.consO 1 Ev.nilN h1) hargs hlast rfl) (Ev.var 2 h2) he))
      exact Ev.seq (Ev.ifS_t (Ev.tAnd_t (Ev.tB (Ev.bin (Ev.var 3) (Ev.cst _) (eq_one true))) (Ev.tB (Ev.bin (Ev.var 4) (Ev.cst _) hm)))
        (Ev.seq (Ev.asg (Ev.bin (Ev.var 2) (Ev.cst _) rfl)) (Ev.seq (Ev.ifS_f (hif _ rfl rfl) Ev.next)
          (Ev.expr (Ev.meth (Ev.cons (Ev.tup (Ev.cons (Ev.var 5) (Ev.cons (Ev.bin (Ev.var 2) (Ev.var 4) rfl) Ev.nil))) Ev.nil) (Ev.app hzm)))))) (Ev.aug (Ev.var 4))
  · rw [if_neg hc]
    refine ⟨s5, ?_⟩
    cases c
    · exact Ev.seq (Ev.ifS_f (Ev.tAnd_f (Ev.tB (Ev.bin (Ev.var 3) (Ev.cst _) (eq_one false)))) Ev.next) (Ev.aug (Ev.var 4))
    · have h0 : ¬ 0 < m := fun z => hc ⟨rfl, z⟩
      rw [decide_eq_false h0] at hm
      exact Ev.seq (Ev.ifS_f (Ev.tAnd_t (Ev.tB (Ev.bin (Ev.var 3) (Ev.cst _) (eq_one true))) (Ev.tB (Ev.bin (Ev.var 4) (Ev.cst _) hm))) Ev.next) (Ev.aug (Ev.var 4))
theorem row_of_strips_ok (S : List Strip) (hl : S.length ≤ 9000) {x : Sl} (hx : LC.IsL x (S.map dS)) : mf_row_of_strips [x] = some (.own ((TLR.rowS S).map pairD), [.un]) := by
  have key := loop_count (g := mgL (fun _ => false) [3, 4]) (b := lb_row_of_strips_1) dS
    (fun i ρ => ∃ t3 t4 t5, ρ = [.val (.list (S.map dS)), .own (((S.take i).foldl TLR.rowSt ([], 0)).1.map pairD), .val (.int ((S.take i).foldl TLR.rowSt ([], 0)).2), t3, t4, t5]) S 0
    [.val (.list (S.map dS)), .own [], .val (.int 0), .un, .un, .un] (fun i s ρ hs hW => by
      obtain ⟨t3, t4, t5, rfl⟩ := hW
      simp only [Nat.zero_add]
      have hi := (List.getElem?_eq_some_iff.mp hs).1
      have et : S.take (i + 1) = S.take i ++ [s] := by rw [List.take_add_one, hs]; rfl
      have hlen := LC.rowSf_len (S.take i) ([], 0)
      rw [List.length_take] at hlen
      rw [et, List.foldl_append]
      simp only [List.foldl_cons, List.foldl_nil]
      generalize (S.take i).foldl TLR.rowSt ([], 0) = y at hlen ⊢
      obtain ⟨r, p⟩ := y
      obtain ⟨c, m⟩ := s
      obtain ⟨u5, e⟩ := rowst_turn (.val (.list (S.map dS))) r p c m (by simp at hlen; omega) t5
      exact ⟨_, _, Ev.gT2, .inl e, _, _, _, rfl⟩) ⟨.un, .un, .un, rfl⟩
  obtain ⟨ρ', e, t3, t4, t5, rfl⟩ := key
  rw [Nat.zero_add, List.take_length] at e
  have hv : mVar 0 [x, .own [], .val (.int 0), .un, .un, .un] = some (.val (.list (S.map dS)), [.val (.list (S.map dS)), .own [], .val (.int 0), .un, .un, .un]) := Ev.varL 0 hx
  unfold mf_row_of_strips
  refine Ev.defN ?_
  unfold mb_row_of_strips
  apply Exists.intro
  exact Ev.seq (Ev.asg (Ev.lst Ev.nil)) (Ev.seq (Ev.asg (Ev.cst _)) (Ev.seq (Ev.forS (Ev.iS hv) e) (Ev.retO 1)))
end PR
namespace TL
def ec (r : Bool) (S : List Strip) : Bool := (endS r S).1
end TL
namespace PR
open PySem L2 Dn LB
open TL (Strip Layers)
def locR (n : Nat) (k : TL.Kind) (r s : RowT) : List Bool × Nat := TL.loc n k (TLR.bits n r, TLR.bits n s)
def lineR (n : Nat) (k : TL.Kind) (r s : RowT) : RowT := TLR.rowB 0 (locR n k r s).1.reverse
theorem line_within (n : Nat) (k : TL.Kind) (r s : RowT) : TLR.within n (lineR n k r s) ∧ TLR.bits n (lineR n k r s) = (locR n k r s).1.reverse := by
  have hl : (locR n k r s).1.reverse.length = n := by rw [List.length_reverse]; exact TL.loc_len _ _ _
  have h1 := TLR.rowB_within (locR n k r s).1.reverse
  have h2 := TLR.bits_rowB (locR n k r s).1.reverse
  rw [hl] at h1 h2
  exact ⟨h1, h2⟩
abbrev kO : TL.Kind := (false, false)
end PR
namespace PR
open PySem L2 Dn LB
open TL (Strip Layers)
theorem bits_up {n N : Nat} {r : RowT} (h : TLR.within n r) (hN : n ≤ N) : TLR.bits N r = TLR.bits n r ++ List.replicate (N - n) false := by
  obtain ⟨j, rfl⟩ : ∃ j, N = n + j := ⟨N - n, by omega⟩
  rw [TLR.bits_app, Nat.add_sub_cancel_left, TLR.bitsFrom_const (c := false)]
  intro i hi
  exact TLR.hasB_out (m := n) h.2 (by omega)
theorem within_up {n N : Nat} {r : RowT} (h : TLR.within n r) (hN : n ≤ N) : TLR.within N r := ⟨h.1, fun q hq => by have := h.2 q hq; omega⟩
theorem loc_up (j : Nat) : ∀ (n : Nat) (A B : List Bool), A.length = n → B.length = n → TL.loc (n + j) kO (A ++ List.replicate j false, B ++ List.replicate j false) = (List.replicate j false ++ (TL.loc n kO (A, B)).1, (TL.loc n kO (A, B)).2) := by
  induction j with
  | zero => intro n A B _ _; simp
  | succ j ih =>
    intro n A B ha hb
    have e : ∀ X : List Bool, X ++ List.replicate (j + 1) false = (X ++ List.replicate j false) ++ [false] := fun X => by rw [List.replicate_succ', List.append_assoc]
    rw [e, e, show n + (j + 1) = (n + j) + 1 by omega]
    have t : ∀ X : List Bool, TL.take false (X ++ [false]) = (false, X) := fun X => by simp [TL.take]
    have h := ih n A B ha hb
    have hl : TL.loc (n + j + 1) kO ((A ++ List.replicate j false) ++ [false], (B ++ List.replicate j false) ++ [false]) = (TL.coin kO kO :: (TL.loc (n + j) kO (A ++ List.replicate j false, B ++ List.replicate j false)).1, TL.begins kO kO (TL.rungs (TL.loc (n + j) kO (A ++ List.replicate j false, B ++ List.replicate j false)).1) + TL.turnd (TL.contra kO kO) (TL.num kO (TL.loc (n + j) kO (A ++ List.replicate j false, B ++ List.replicate j false)).1) (TL.loc (n + j) kO (A ++ List.replicate j false, B ++ List.replicate j false)).2) := by
      show TL.loc (n + j + 1) kO _ = _
      simp only [TL.loc, t]
    rw [hl, h]
    simp only [List.replicate_succ, List.cons_append]
    have c1 : TL.coin kO kO = false := rfl
    have c2 : TL.contra kO kO = false := rfl
    rw [c1, c2, TL.begins_self]
    simp [TL.turnd]
theorem locR_up {n N : Nat} {r s : RowT} (hr : TLR.within n r) (hs : TLR.within n s) (hN : n ≤ N) : locR N kO r s = (List.replicate (N - n) false ++ (locR n kO r s).1, (locR n kO r s).2) := by
  unfold locR
  rw [bits_up hr hN, bits_up hs hN]
  have := loc_up (N - n) n (TLR.bits n r) (TLR.bits n s) (by simp [TLR.bits_len]) (by simp [TLR.bits_len])
  rw [show n + (N - n) = N by omega] at this
  exact this
theorem lineR_up {n N : Nat} {r s : RowT} (hr : TLR.within n r) (hs : TLR.within n s) (hN : n ≤ N) : lineR N kO r s = lineR n kO r s := by
  obtain ⟨w1, b1⟩ := line_within N kO r s
  obtain ⟨w2, b2⟩ := line_within n kO r s
  refine TLR.bits_ext w1 (within_up w2 hN) ?_
  rw [b1, bits_up w2 hN, b2, locR_up hr hs hN]
  simp
theorem lastE_nn {n : Nat} {r : RowT} (h : TLR.within n r) : 0 ≤ lastE r ∧ lastE r ≤ n ∧ ∀ q ∈ r, q.2 ≤ lastE r := by
  refine ⟨?_, ?_, fun q hq => lastE_ge h.1 q hq⟩
  · unfold lastE
    cases e : r.getLast? with
    | none => simp
    | some p =>
      have := okF_posi h.1 (Int.le_refl 1) p (List.mem_of_getLast? e)
      simp only
      omega
  · unfold lastE
    cases e : r.getLast? with
    | none => simp
    | some p => simp only; exact h.2 p (List.mem_of_getLast? e)
theorem loc_line {n : Nat} {r s t : RowT} {far : Nat} (wt : TLR.within n t) (h : locR n kO r s = ((TLR.bits n t).reverse, far)) : lineR n kO r s = t ∧ (locR n kO r s).2 = far := by
  refine ⟨?_, by rw [h]⟩
  unfold lineR
  rw [h, List.reverse_reverse]
  exact TLR.rowB_bits wt
end PR
namespace PR
open PySem L2 Dn LB
open TL (Strip Layers)
def lineT (n : Nat) (t : RowT) : List Bool := (TLR.bits n t).reverse
theorem lineT_len (n : Nat) (t : RowT) : (lineT n t).length = n := by simp [lineT, TLR.bits_len]
structure OnL (n : Nat) (t : RowT) (i : Nat) (p : RowT × RowT) : Prop where
  wt : TLR.within n t
  w1 : TLR.within n p.1
  w2 : TLR.within n p.2
  lt : i < TL.num kO (lineT n t)
  at' : (TLR.bits n p.1, TLR.bits n p.2) = TL.pairAt kO (lineT n t) i
theorem OnL.loc {n : Nat} {t : RowT} {i : Nat} {p : RowT × RowT} (h : OnL n t i p) : locR n kO p.1 p.2 = (lineT n t, i) := by
  unfold locR
  rw [h.at']
  have := TL.loc_pairAt (lineT n t) kO i h.lt
  rw [lineT_len] at this
  exact this
theorem OnL.line {n : Nat} {t : RowT} {i : Nat} {p : RowT × RowT} (h : OnL n t i p) : lineR n kO p.1 p.2 = t ∧ (locR n kO p.1 p.2).2 = i := loc_line h.wt h.loc
theorem bits_pair {n : Nat} {p q : RowT × RowT} (h1 : TLR.within n p.1) (h2 : TLR.within n p.2) (g1 : TLR.within n q.1) (g2 : TLR.within n q.2) (h : (TLR.bits n p.1, TLR.bits n p.2) = (TLR.bits n q.1, TLR.bits n q.2)) : p = q :=
  Prod.ext (TLR.bits_ext h1 g1 (congrArg Prod.fst h)) (TLR.bits_ext h2 g2 (congrArg Prod.snd h))
theorem OnL.turn {n : Nat} {t : RowT} {i : Nat} {p : RowT × RowT} (h : OnL n t i p) (one : Bool) :
    (one = TL.lead kO i → (i + 1 < TL.num kO (lineT n t) → OnL n t (i + 1) (turnR one p)) ∧ (i + 1 = TL.num kO (lineT n t) → turnR one p = p)) ∧
    (one ≠ TL.lead kO i → (0 < i → OnL n t (i - 1) (turnR one p)) ∧ (i = 0 → turnR one p = p)) := by
  obtain ⟨u1, u2, u3⟩ := turn_bits h.w1 h.w2 one
  have on := TL.on_line (lineT n t) kO i h.lt
  have hl := TL.pairAt_len (lineT n t) kO i
  rw [h.at'] at u3
  refine ⟨fun e => ⟨fun hi => ?_, fun hi => ?_⟩, fun e => ⟨fun hi => ?_, fun hi => ?_⟩⟩
  · subst e
    exact ⟨h.wt, u1, u2, hi, by rw [u3]; exact (on.on hi).2⟩
  · subst e
    rw [TL.turn_stuck (hl.1.trans hl.2.symm) (on.out hi)] at u3
    exact bits_pair u1 u2 h.w1 h.w2 (by rw [u3, h.at'])
  · have e' : one = !TL.lead kO i := by cases one <;> cases hh : TL.lead kO i <;> simp_all
    subst e'
    have hlt := h.lt
    exact ⟨h.wt, u1, u2, by omega, by rw [u3]; exact (on.back hi).2⟩
  · have e' : one = !TL.lead kO i := by cases one <;> cases hh : TL.lead kO i <;> simp_all
    subst e'
    rw [TL.turn_stuck (hl.1.trans hl.2.symm) (on.first hi)] at u3
    exact bits_pair u1 u2 h.w1 h.w2 (by rw [u3, h.at'])
theorem OnL.of {n : Nat} {p : RowT × RowT} (h1 : TLR.within n p.1) (h2 : TLR.within n p.2) : OnL n (lineR n kO p.1 p.2) (locR n kO p.1 p.2).2 p := by
  obtain ⟨w, b⟩ := line_within n kO p.1 p.2
  have hl : lineT n (lineR n kO p.1 p.2) = (locR n kO p.1 p.2).1 := by unfold lineT; rw [b, List.reverse_reverse]
  have h := TL.pairAt_loc n kO (TLR.bits n p.1, TLR.bits n p.2) (by simp [TLR.bits_len]) (by simp [TLR.bits_len])
  refine ⟨w, h1, h2, ?_, ?_⟩
  · rw [hl]; exact h.2
  · rw [hl]; exact h.1.symm
end PR
namespace LC
open PySem L2 Dn LB PR
open TL (tog hd turn stuck)
def spF (s : Int) : List Bool → List Int
  | [] => []
  | true :: bs => s :: spF (s + 1) bs
  | false :: bs => spF (s + 1) bs
abbrev spB (bs : List Bool) : List Int := spF 1 bs
theorem spF_mem : ∀ (bs : List Bool) (s x : Int), x ∈ spF s bs ↔ ∃ i : Nat, bs[i]? = some true ∧ x = s + i
  | [], s, x => by simp [spF]
  | b :: bs, s, x => by
    have ih := spF_mem bs (s + 1) x
    have hs : (∃ i : Nat, (b :: bs)[i]? = some true ∧ x = s + i) ↔ (b = true ∧ x = s) ∨ ∃ i : Nat, bs[i]? = some true ∧ x = s + 1 + i := by
      constructor
      · rintro ⟨i, h, e⟩
        cases i with
        | zero => exact .inl ⟨by simpa using h, by simpa using e⟩
        | succ i => exact .inr ⟨i, by simpa using h, by rw [e]; push_cast; omega⟩
      · rintro (⟨h, e⟩ | ⟨i, h, e⟩)
        · exact ⟨0, by simp [h], by simp [e]⟩
        · exact ⟨i + 1, by simpa using h, by rw [e]; push_cast; omega⟩
    rw [hs]
    cases b
    · simp [spF, ih]
    · simp [spF, ih]
theorem spF_rise : ∀ (bs : List Bool) (s : Int), (spF s bs).Pairwise (· < ·)
  | [], s => List.Pairwise.nil
  | true :: bs, s => by
    refine List.Pairwise.cons (fun x hx => ?_) (spF_rise bs (s + 1))
    obtain ⟨i, _, e⟩ := (spF_mem bs (s + 1) x).mp hx
    omega
  | false :: bs, s => spF_rise bs (s + 1)
theorem spF_len : ∀ (bs : List Bool) (s : Int), (spF s bs).length = hd bs
  | [], s => rfl
  | true :: bs, s => by simp [spF, spF_len bs (s + 1), hd]
  | false :: bs, s => by simp [spF, spF_len bs (s + 1), hd]
theorem strict_ext {xs ys : List Int} (hx : xs.Pairwise (· < ·)) (hy : ys.Pairwise (· < ·)) (h : ∀ x, x ∈ xs ↔ x ∈ ys) : xs = ys := by
  have p : xs.Perm ys := (List.perm_ext_iff_of_nodup (hx.imp (fun h => by omega)) (hy.imp (fun h => by omega))).mpr h
  exact List.Perm.eq_of_pairwise (fun a b _ _ h1 h2 => by omega) hx hy p
theorem tog_get : ∀ (p : Nat) (bs : List Bool) (i : Nat), (tog p bs)[i]? = if i + 1 = p then (bs[i]?).map (!·) else bs[i]?
  | 0, bs, i => by simp [tog]
  | 1, [], i => by simp [tog]
  | 1, b :: bs, i => by
    cases i with
    | zero => simp [tog]
    | succ i => simp [tog]
  | p + 2, [], i => by simp [tog]
  | p + 2, b :: bs, i => by
    cases i with
    | zero => simp [tog]
    | succ i =>
      have := tog_get (p + 1) bs i
      simp [tog, this]
theorem spB_le {bs : List Bool} : (spB bs).length ≤ bs.length := by rw [spF_len]; exact TL.hd_le bs
theorem isL_dat {x : Sl} {ds : List D} (h : IsL x ds) : datOf x = some (.list ds) := by
  rcases h with rfl | rfl <;> rfl
end LC
namespace LC
open PySem L2 Dn LB PR
open TL (tog hd turn stuck)
theorem rise_spF {bs : List Bool} : Rise 1 bs.length (spB bs) := by
  refine ⟨spF_rise bs 1, fun x hx => ?_⟩
  obtain ⟨i, hi, e⟩ := (spF_mem bs 1 x).mp hx
  have : i < bs.length := by
    rcases Nat.lt_or_ge i bs.length with h | h
    · exact h
    · rw [List.getElem?_eq_none_iff.mpr h] at hi; cases hi
  omega
def rowOf (bs : List Bool) : RowT := toldR (spB bs)
theorem rise_within {n M : Nat} {xs : List Int} (h : Rise 1 M xs) (hM : M ≤ n) : TLR.within n (toldR xs) := by
  obtain ⟨ok, hm, _⟩ := toldR_ok h
  refine ⟨ok, fun q hq => ?_⟩
  have ho := (okF_ge ok hq).2
  have := (h.2 q.2 ((hm q.2).mp ⟨q, hq, ho, by omega⟩)).2
  omega
theorem rise_bits {n M : Nat} {xs : List Int} (h : Rise 1 M xs) (hM : M ≤ n) : spB (TLR.bits n (toldR xs)) = xs := by
  obtain ⟨ok, hm, _⟩ := toldR_ok h
  refine strict_ext (spF_rise _ 1) h.1 fun x => ?_
  rw [spF_mem]
  constructor
  · rintro ⟨i, hi, e⟩
    have hlt : i < n := by
      rcases Nat.lt_or_ge i n with h | h
      · exact h
      · rw [List.getElem?_eq_none_iff.mpr (by rw [TLR.bits_len]; exact h)] at hi; cases hi
    rw [TLR.bits_get hlt] at hi
    have : hasB (toldR xs) ((i : Int) + 1) = true := by simpa using hi
    have := (hm _).mp (hasB_iff.mp this)
    rw [e, Int.add_comm]; exact this
  · intro hx
    have := h.2 x hx
    refine ⟨(x - 1).toNat, ?_, by omega⟩
    rw [TLR.bits_get (by omega)]
    have e : (((x - 1).toNat : Nat) : Int) + 1 = x := by omega
    rw [e]
    have := hasB_iff.mpr ((hm x).mpr hx)
    rw [this]
theorem rowOf_within {bs : List Bool} {n : Nat} (h : bs.length = n) : TLR.within n (rowOf bs) := rise_within rise_spF (by omega)
theorem rowOf_bits {bs : List Bool} {n : Nat} (h : bs.length = n) : TLR.bits n (rowOf bs) = bs := by
  obtain ⟨ok, hm, _⟩ := toldR_ok (xs := spB bs) rise_spF
  refine List.ext_getElem? fun i => ?_
  rcases Nat.lt_or_ge i n with hi | hi
  · rw [TLR.bits_get hi]
    have h1 : hasB (rowOf bs) ((i : Int) + 1) = true ↔ bs[i]? = some true := by
      unfold rowOf
      rw [hasB_iff, hm, spF_mem]
      constructor
      · rintro ⟨j, hj, e⟩
        have : j = i := by omega
        subst this; exact hj
      · intro h
        exact ⟨i, h, by omega⟩
    obtain ⟨b, hb⟩ : ∃ b, bs[i]? = some b := ⟨_, List.getElem?_eq_getElem (by omega)⟩
    rw [hb] at h1 ⊢
    cases b <;> cases hh : hasB (rowOf bs) ((i : Int) + 1) <;> simp_all
  · rw [List.getElem?_eq_none_iff.mpr (by rw [TLR.bits_len]; exact hi), List.getElem?_eq_none_iff.mpr (by omega)]
theorem rowOf_told {n : Nat} {t : RowT} (h : TLR.within n t) : rowOf (TLR.bits n t) = t :=
  TLR.bits_ext (rowOf_within (TLR.bits_len n t)) h (rowOf_bits (TLR.bits_len n t))
theorem rowOf_len (bs : List Bool) : (rowOf bs).length ≤ bs.length := by
  have := toldR_len (spB bs) []
  have h2 := @spB_le bs
  have : (toldR (spB bs)).length ≤ (spB bs).length := by simpa [toldR] using this
  unfold rowOf; omega
theorem same_o2 (n : Nat) (x : Sl) (ds : List D) : mf__law_same (n + 1) [x, .own ds] = mf__law_same (n + 1) [x, .val (.list ds)] := by
  have h1 : ∀ s, (mTru (mUn (fIsi ["list", "tuple"]) (mVar 1)) : MT) [x, s, .un] = some (true, [x, .val (.list ds), .un]) → ∀ self, mb__law_same self [x, s, .un] = mb__law_same self [x, .val (.list ds), .un] := by
    intro s hs self
    have h2 : (mTru (mUn (fIsi ["list", "tuple"]) (mVar 1)) : MT) [x, .val (.list ds), .un] = some (true, [x, .val (.list ds), .un]) := Ev.tT (Ev.un (Ev.var 1) rfl)
    unfold mb__law_same
    rw [mSeq_ap, mSeq_ap, mIfS_t hs, mIfS_t h2]
  have hb := h1 (.own ds) (Ev.tT (Ev.un (Ev.varO 1) rfl)) (mf__law_same n)
  rw [same_succ]
  show (if _ then (match mb__law_same (mf__law_same n) [x, .own ds, .un] with | some (.rt r ρ') => some (r, outA (fun _ => false) 2 ρ') | some (.nx ρ') => some (.val .none, outA (fun _ => false) 2 ρ') | _ => none) else none) = (if _ then (match mb__law_same (mf__law_same n) [x, .val (.list ds), .un] with | some (.rt r ρ') => some (r, outA (fun _ => false) 2 ρ') | some (.nx ρ') => some (.val .none, outA (fun _ => false) 2 ρ') | _ => none) else none)
  rw [hb]
  rfl
theorem same_rowT (r : RowT) (hl : r.length ≤ 100000) : mf__law_same 6 [.val (dRow r), .own (r.map pairD)] = some (.val (.bool true), [.un, .un]) := by
  rw [same_o2 5]
  exact same_row r hl
end LC
namespace LC
open PySem L2 Dn PR LB
theorem varL {x : Sl} {ds : List D} {i : Nat} {ρ : List Sl} (h : IsL x ds) (h0 : ρ[i]? = some x) : mVar i ρ = some (.val (.list ds), ρ.set i (.val (.list ds))) := by
  rcases h with rfl | rfl
  · rw [Ev.var i h0]
    congr 2
    refine List.ext_getElem? fun j => ?_
    rw [List.getElem?_set]
    by_cases hj : i = j
    · subst hj
      have := (List.getElem?_eq_some_iff.mp h0).1
      rw [h0]
      simp [this]
    · simp [hj]
  · exact Ev.varO i h0 rfl
end LC
namespace PR
open PySem L2 Dn LB
open TL (Strip rungs flat)
theorem flat_app (a b : List Strip) : flat (a ++ b) = flat a ++ flat b := by simp [TL.flat]
theorem flat_one (c : Bool) (k : Nat) : flat [(c, k)] = List.replicate k c := by simp [TL.flat]
end PR
namespace TL
theorem layersAt_in (k : Kind) (far : Nat) (c : Bool) (m : Nat) (T : List Bool) (hf : far < num k (List.replicate m c ++ T)) (hc : (c == coin k k) = false) :
    1 ≤ (rungs T).1 + (rungs T).2 - pairsOn k (rungs T) ∧
    ∀ mid, mid = min (min (far / ((rungs T).1 + (rungs T).2 - pairsOn k (rungs T))) ((pairsOn k (rungs T) + 2 * m * ((rungs T).1 + (rungs T).2 - pairsOn k (rungs T)) - 1 - far) / ((rungs T).1 + (rungs T).2 - pairsOn k (rungs T)))) m →
    far + 1 ≤ pairsOn k (rungs T) + 2 * m * ((rungs T).1 + (rungs T).2 - pairsOn k (rungs T)) ∧
    ((partB (k, opp k, mid) (climbs (rungs T) c (m - mid))).1 ≤ far ∧ far - (partB (k, opp k, mid) (climbs (rungs T) c (m - mid))).1 < pairsOn (opp k) (climbs (rungs T) c (m - mid))) ∧
    (mid ≠ m → ∀ aside, aside = (if farIn (k, opp k, mid) far (climbs (rungs T) c (m - mid)) < (rungs T).1 + (rungs T).2 - pairsOn k (rungs T) then near (kindBehind (k, opp k, mid)) else opp (near (kindBehind (k, opp k, mid)))) →
      (partB (kindBehind (k, opp k, mid), aside, 1) (climbs (rungs T) c (m - mid - 1))).1 ≤ farIn (k, opp k, mid) far (climbs (rungs T) c (m - mid)) ∧
      farIn (k, opp k, mid) far (climbs (rungs T) c (m - mid)) - (partB (kindBehind (k, opp k, mid), aside, 1) (climbs (rungs T) c (m - mid - 1))).1 < pairsOn aside (climbs (rungs T) c (m - mid - 1))) := by
  rw [← pairsOn_num, rungs_many] at hf
  obtain ⟨ho, hev⟩ := coin_of_no hc
  generalize hx : rungs T = x at hf ⊢
  have pos : 1 ≤ x.1 ∧ 1 ≤ x.2 := by rw [← hx]; exact rungs_pos T
  rw [(pairsOn_climbs hc x m).1] at hf
  rw [← pairsOn_near]
  generalize hi : pairsOn k x = inner at hf ⊢
  generalize hou : pairsOn (near k) x = outer at hf ⊢
  have op : 1 ≤ outer := by
    rw [← hou]; unfold pairsOn; split <;> omega
  refine ⟨op, ?_⟩
  intro mid hmid
  rw [show inner + 2 * m * outer = inner + 2 * (m * outer) by rw [Nat.mul_assoc]] at hf hmid ⊢
  have m1 : mid * outer ≤ far := by
    have : mid ≤ far / outer := by omega
    exact Nat.le_trans (Nat.mul_le_mul_right _ this) (Nat.div_mul_le_self _ _)
  have m2 : mid * outer ≤ inner + 2 * (m * outer) - 1 - far := by
    have : mid ≤ (inner + 2 * (m * outer) - 1 - far) / outer := by omega
    exact Nat.le_trans (Nat.mul_le_mul_right _ this) (Nat.div_mul_le_self _ _)
  have mm : mid ≤ m := by omega
  have sp : m * outer = mid * outer + (m - mid) * outer := by rw [← Nat.add_mul]; congr 1; omega
  have P1 : pairsOn k (climbs x c (m - mid)) = inner + 2 * ((m - mid) * outer) := by
    rw [(pairsOn_climbs hc x (m - mid)).1, hi, hou, Nat.mul_assoc]
  have N1 : pairsOn (near k) (climbs x c (m - mid)) = outer := by rw [(pairsOn_climbs hc x (m - mid)).2, hou]
  have f1 : (partB (k, opp k, mid) (climbs x c (m - mid))).1 = mid * outer := by rw [partB_opp, N1]
  have f2 : pairsOn (opp k) (climbs x c (m - mid)) = inner + 2 * ((m - mid) * outer) := by rw [pairsOn_opp, P1]
  refine ⟨by omega, ⟨by rw [f1]; exact m1, by rw [f1, f2]; omega⟩, ?_⟩
  intro hm aside has
  generalize hfar1 : farIn (k, opp k, mid) far (climbs x c (m - mid)) = far1 at has ⊢
  have hfar1' : far1 = far - mid * outer ∨ far1 = inner + 2 * ((m - mid) * outer) - 1 - (far - mid * outer) := by
    rw [← hfar1]
    unfold farIn
    rw [partB_opp, N1]
    simp only
    split
    · right; rw [pairsOn_opp, P1]
    · left; rfl
  have kb : evenK (kindBehind (k, opp k, mid)) = evenK k := by
    unfold kindBehind
    split
    · exact evenK_opp k
    · rfl
  have pk : ∀ (k' : Kind) (x : Nat × Nat), evenK k' = evenK k → pairsOn k' x = pairsOn k x := fun k' x h => by unfold pairsOn; rw [h]
  have pn : ∀ (k' : Kind) (x : Nat × Nat), evenK k' = evenK k → pairsOn (near k') x = pairsOn (near k) x := fun k' x h => by
    rw [pairsOn_near, pairsOn_near, pk k' x h]
  generalize hk1 : kindBehind (k, opp k, mid) = k1 at kb has ⊢
  generalize hleft : m - mid - 1 = left
  have hl1 : m - mid = left + 1 := by omega
  have spl : (m - mid) * outer = left * outer + outer := by rw [hl1, Nat.add_mul, Nat.one_mul]
  have hc1 : (c == coin k1 k1) = false := by rw [coin_self, kb, ← coin_self]; exact hc
  have P2 : pairsOn k1 (climbs x c left) = inner + 2 * (left * outer) := by
    rw [(pairsOn_climbs hc1 x left).1, pk _ _ kb, pn _ _ kb, hi, hou, Nat.mul_assoc]
  have N2 : pairsOn (near k1) (climbs x c left) = outer := by rw [(pairsOn_climbs hc1 x left).2, pn _ _ kb, hou]
  have S2 : (climbs x c left).1 + (climbs x c left).2 = inner + 2 * (left * outer) + outer := by
    have := pairsOn_near k1 (climbs x c left)
    rw [P2, N2] at this
    have : inner + 2 * (left * outer) ≤ (climbs x c left).1 + (climbs x c left).2 := by
      rw [← P2]; unfold pairsOn; split <;> omega
    omega
  have hend : far < (mid + 1) * outer ∨ inner + 2 * (m * outer) - 1 - far < (mid + 1) * outer := by
    have : far / outer < mid + 1 ∨ (inner + 2 * (m * outer) - 1 - far) / outer < mid + 1 := by omega
    rcases this with h | h
    · left; exact (Nat.div_lt_iff_lt_mul (by omega)).mp h
    · right; exact (Nat.div_lt_iff_lt_mul (by omega)).mp h
  rw [Nat.add_mul, Nat.one_mul] at hend
  have lt1 : far1 < inner + 2 * (left * outer + outer) := by
    rw [spl] at hfar1'; omega
  have near1 : far1 < outer ∨ inner + 2 * (left * outer + outer) - outer ≤ far1 := by
    rw [spl] at hfar1'
    omega
  by_cases h : far1 < outer
  · rw [if_pos h] at has
    rw [has, partB_near]
    simp only
    rw [N2]
    omega
  · rw [if_neg h] at has
    rw [has, partB_far]
    simp only
    rw [S2, pairsOn_opp, N2]
    omega
end TL
namespace PR
open PySem L2 Dn LB
open TL (Strip Layers farIn partB pairsOn climbs)
theorem far_in_ok {B w : Nat} (l : Layers) (far : Nat) {x : Nat × Nat} (hx : Bd B x) (hm : l.2.2 < 2 ^ w) (hB : B + w ≤ 900000) (h1 : (partB l x).1 ≤ far) (h2 : far - (partB l x).1 < pairsOn l.2.1 x) :
    mf_far_in [.val (dL l), .val (.int (far : Int)), .val (dRung x)] = some (.val (.int ((farIn l far x : Nat) : Int)), [.un, .un, .un]) := by
  have e1 := part_of_ok l hx hm hB
  have e2 := pairs_on_ok l.2.1 x
  have hl : dL l = .tuple [dK l.1, dK l.2.1, .int (l.2.2 : Int)] := rfl
  have a1 : ∀ (a b c : D), atI [a, b, c] 1 = some b := fun _ _ _ => rfl
  unfold mf_far_in farIn
  cases hb : (partB l x).2
  · rw [hb] at e1
    simp only [hb, Bool.false_eq_true, if_false]
    have es : (fI (fun _ _ => true) fun i j => i - j) (.val (.int (far : Int))) (.val (.int ((partB l x).1 : Int))) = some (.val (.int ((far - (partB l x).1 : Nat) : Int))) := by
      show some (Sl.val (PyData.int ((far : Int) - ((partB l x).1 : Int)))) = _
      rw [show (far : Int) - ((partB l x).1 : Int) = ((far - (partB l x).1 : Nat) : Int) by omega]
    refine Ev.defR (ρ' := [.val (dL l), .val (.int (far : Int)), .val (dRung x), .val (.int ((partB l x).1 : Int)), .val (.bool false)]) ?_
    unfold mb_far_in
    generalize dL l = L at *
    generalize dRung x = X at *
    exact Ev.seq (Ev.asgT (Ev.call (Ev.cons (Ev.var 0) (Ev.cons (Ev.var 2) Ev.nil)) e1) Ev.gT2) (Ev.seq (Ev.ifS_f (Ev.tT (Ev.var 4)) Ev.next) (Ev.ret (Ev.bin (Ev.var 1) (Ev.var 3) es)))
  · rw [hb] at e1
    simp only [hb, if_true]
    have ev : ((pairsOn l.2.1 x : Nat) : Int) - 1 - ((far : Int) - ((partB l x).1 : Int)) = ((pairsOn l.2.1 x - 1 - (far - (partB l x).1) : Nat) : Int) := by omega
    rw [← ev]
    rw [hl] at e1 ⊢
    refine Ev.defR (ρ' := [.val (.tuple [dK l.1, dK l.2.1, .int (l.2.2 : Int)]), .val (.int (far : Int)), .val (dRung x), .val (.int ((partB l x).1 : Int)), .val (.bool true)]) ?_
    unfold mb_far_in
    generalize dK l.1 = K1 at *
    generalize dK l.2.1 = K2 at *
    generalize dRung x = X at *
    exact Ev.seq (Ev.asgT (Ev.call (Ev.cons (Ev.var 0) (Ev.cons (Ev.var 2) Ev.nil)) e1) Ev.gT2) (Ev.seq_rt (Ev.ifS_t (Ev.tT (Ev.var 4)) (Ev.ret (Ev.bin (Ev.bin (Ev.call (Ev.cons (Ev.ixT (Ev.var 0) (Ev.cst _) (a1 _ _ _)) (Ev.cons (Ev.var 2) Ev.nil)) e2) (Ev.cst _) Ev.sub) (Ev.bin (Ev.var 1) (Ev.var 3) Ev.sub) Ev.sub))))
theorem pairsOn_bd {B : Nat} {x : Nat × Nat} (h : Bd B x) (k : TL.Kind) : pairsOn k x < 2 ^ B := by
  unfold pairsOn
  split
  · exact h.1
  · exact h.2
theorem div_nat2 {a b B : Nat} (h0 : 1 ≤ b) (hb : b < 2 ^ B) (hB : B ≤ 8900) : (fI cDiv fun i j => i / j) (.val (.int (a : Int))) (.val (.int (b : Int))) = some (.val (.int ((a / b : Nat) : Int))) := by
  have hl := log2_nat (n := b) (k := B + 1) (Nat.lt_of_lt_of_le hb (Nat.pow_le_pow_right (by omega) (by omega))) (by omega)
  have h : cDiv (a : Int) (b : Int) = true := by
    unfold cDiv
    rw [decide_eq_true (by omega), decide_eq_true (by omega)]; rfl
  show (if cDiv (a : Int) (b : Int) = true then some (Sl.val (PyData.int ((a : Int) / (b : Int)))) else none) = _
  rw [if_pos h, ← Int.natCast_ediv]
theorem climbs_le {B w : Nat} {x : Nat × Nat} (h : Bd B x) {m : Nat} (hm : m < 2 ^ w) (c : Bool) : Bd (B + w + 2) (climbs x c m) := by
  have := climbs_bd h hm c
  exact this.mono (by omega)
theorem layers_at_ok {B w : Nat} (k : TL.Kind) (far : Nat) (c : Bool) (m : Nat) (T : List Bool) (hf : far < TL.num k (List.replicate m c ++ T)) (hx : Bd B (TL.rungs T)) (hm : m < 2 ^ w) (hB : B + w ≤ 8800) :
    mf_layers_at [.val (dK k), .val (.int (far : Int)), .val (dS (c, m)), .val (dRung (TL.rungs T))] =
      some (.val (.tuple [.list ((TL.layersAt k far (c, m) (TL.rungs T)).1.map dL), .int (((TL.layersAt k far (c, m) (TL.rungs T)).2 : Nat) : Int)]), [.un, .un, .un, .un]) := by
  have ed : dS (c, m) = .tuple [.int (bI c), .int (m : Int)] := rfl
  have e1 := coin_told_ok k k
  have e2 := fEq_bI c (TL.coin k k)
  unfold mf_layers_at
  rw [ed]
  cases hc : c == TL.coin k k
  · have hin := TL.layersAt_in k far c m T hf hc
    unfold TL.layersAt
    simp only [hc, Bool.false_eq_true, if_false]
    rw [hc] at e2
    generalize TL.rungs T = x at *
    obtain ⟨ho1, hin⟩ := hin
    have hpo := pairsOn_bd hx k
    have hx1 := hx.1
    have hx2 := hx.2
    have hsum : x.1 + x.2 < 2 ^ (B + 1) := by rw [Nat.pow_succ]; omega
    have hou : x.1 + x.2 - pairsOn k x < 2 ^ (B + 1) := by omega
    have e3 := pairs_on_ok k x
    have e4 : fSumT [.val (dRung x)] = some (.val (.int ((x.1 + x.2 : Nat) : Int))) := by
      unfold fSumT dRung
      simp [intsOf]
    have e5 : (fI (fun _ _ => true) fun i j => i - j) (.val (.int ((x.1 + x.2 : Nat) : Int))) (.val (.int ((pairsOn k x : Nat) : Int))) = some (.val (.int ((x.1 + x.2 - pairsOn k x : Nat) : Int))) := by
      show some (Sl.val (PyData.int (((x.1 + x.2 : Nat) : Int) - ((pairsOn k x : Nat) : Int)))) = _
      rw [show ((x.1 + x.2 : Nat) : Int) - ((pairsOn k x : Nat) : Int) = ((x.1 + x.2 - pairsOn k x : Nat) : Int) by omega]
    generalize hinner : pairsOn k x = inner at *
    generalize houter : x.1 + x.2 - inner = outer at *
    obtain ⟨hp, hq1, hq2⟩ := hin _ rfl
    generalize hmid : min (min (far / outer) ((inner + 2 * m * outer - 1 - far) / outer)) m = mid at *
    have mm : mid ≤ m := by omega
    have p2 : (2 : Nat) < 2 ^ 2 := by decide
    have e6 : fMul (.val (.int 2)) (.val (.int (m : Int))) = some (.val (.int ((2 * m : Nat) : Int))) := mul_nat (m := 2) p2 hm (by omega)
    have e7 : fMul (.val (.int ((2 * m : Nat) : Int))) (.val (.int (outer : Int))) = some (.val (.int ((2 * m * outer : Nat) : Int))) := mul_nat (w := w + 1) (B := B + 1) (by rw [Nat.pow_succ]; omega) hou (by omega)
    have e8 : fAdd (.val (.int (inner : Int))) (.val (.int ((2 * m * outer : Nat) : Int))) = some (.val (.int ((inner + 2 * m * outer : Nat) : Int))) := rfl
    have e9 : (fI cDiv fun i j => i / j) (.val (.int (far : Int))) (.val (.int (outer : Int))) = some (.val (.int ((far / outer : Nat) : Int))) := div_nat2 ho1 hou (by omega)
    have e10 : (fI cDiv fun i j => i / j) (.val (.int (((inner + 2 * m * outer : Nat) : Int) - 1 - (far : Int)))) (.val (.int (outer : Int))) = some (.val (.int (((inner + 2 * m * outer - 1 - far) / outer : Nat) : Int))) := by
      rw [show ((inner + 2 * m * outer : Nat) : Int) - 1 - (far : Int) = ((inner + 2 * m * outer - 1 - far : Nat) : Int) by omega]
      exact div_nat2 ho1 hou (by omega)
    have e11 : fMin3 [.val (.int ((far / outer : Nat) : Int)), .val (.int (((inner + 2 * m * outer - 1 - far) / outer : Nat) : Int)), .val (.int (m : Int))] = some (.val (.int (mid : Int))) := by
      unfold fMin3
      simp only
      rw [show min (min ((far / outer : Nat) : Int) (((inner + 2 * m * outer - 1 - far) / outer : Nat) : Int)) (m : Int) = (mid : Int) by omega]
    have e12 := opposite_ok k
    have hmidw : mid < 2 ^ w := by omega
    have e13 : (fI (fun _ _ => true) fun i j => i - j) (.val (.int (m : Int))) (.val (.int (mid : Int))) = some (.val (.int ((m - mid : Nat) : Int))) := by
      show some (Sl.val (PyData.int ((m : Int) - (mid : Int)))) = _
      rw [show (m : Int) - (mid : Int) = ((m - mid : Nat) : Int) by omega]
    have hm2 : m - mid < 2 ^ w := by omega
    have e14 : mf_climbed [.val (dRung x), .val (.int (bI c)), .val (.int ((m - mid : Nat) : Int))] = some (.val (dRung (climbs x c (m - mid))), [.un, .un, .un]) := climbed_ok hx c (m - mid) hm2 (by omega)
    have e15 := far_in_ok (k, TL.opp k, mid) far (climbs_le hx hm2 c) (w := w) hmidw (by omega) hq1.1 hq1.2
    have dl : dL (k, TL.opp k, mid) = .tuple [dK k, dK (TL.opp k), .int (mid : Int)] := rfl
    have e16 : fEq false (.val (.int (mid : Int))) (.val (.int (m : Int))) = some (.val (.bool (mid == m))) := by
      rw [LC.int_eq]
      have : ((mid : Int) == (m : Int)) = (mid == m) := by
        rw [Bool.eq_iff_iff]
        simp only [beq_iff_eq]
        omega
      rw [this]
    rw [dl] at e15
    have at0 : ∀ (a : D) (l : List D), atI (a :: l) 0 = some a := fun a l => by
      have e : ixN (l.length + 1) 0 = some 0 := by
        unfold ixN
        rw [if_pos (by omega), if_pos (by omega)]
        rfl
      unfold atI
      rw [List.length_cons, e]
      rfl
    by_cases hmm : mid = m
    · rw [show (mid == m) = true by simp [hmm]] at e16
      rw [show (mid == m) = true by simp [hmm]]
      simp only [if_true, List.map_cons, List.map_nil, dl]
      refine Ev.defR (ρ' := [.val (dK k), .val (.int ((farIn (k, TL.opp k, mid) far (climbs x c (m - mid)) : Nat) : Int)), .val (.tuple [.int (bI c), .int (m : Int)]), .val (dRung x), .val (.int (bI c)), .val (.int (m : Int)), .val (.int (inner : Int)), .val (.int (outer : Int)), .val (.int ((inner + 2 * m * outer : Nat) : Int)), .val (.int (mid : Int)), .val (.list [.tuple [dK k, dK (TL.opp k), .int (mid : Int)]]), .un, .un, .un]) ?_
      unfold mb_layers_at
      generalize ((farIn (k, TL.opp k, mid) far (climbs x c (m - mid)) : Nat) : Int) = F1 at *
      generalize ((inner + 2 * m * outer : Nat) : Int) = PP at *
      generalize ((2 * m * outer : Nat) : Int) = P2 at *
      generalize dRung (climbs x c (m - mid)) = R1 at *
      generalize dRung x = R at *
      generalize dK (TL.opp k) = KO at *
      generalize dK k = KK at *
      exact Ev.seq (Ev.asgT (Ev.var 2) Ev.gT2) (Ev.seq (Ev.ifS_f (Ev.tB (Ev.bin (Ev.var 4) (Ev.call (Ev.cons (Ev.var 0) (Ev.cons (Ev.var 0) Ev.nil)) e1) e2)) Ev.next)
        (Ev.seq (Ev.asg (Ev.call (Ev.cons (Ev.var 0) (Ev.cons (Ev.var 3) Ev.nil)) e3)) (Ev.seq (Ev.asg (Ev.bin (Ev.fn (Ev.cons (Ev.var 3) Ev.nil) e4) (Ev.var 6) e5))
        (Ev.seq (Ev.asg (Ev.bin (Ev.var 6) (Ev.bin (Ev.bin (Ev.cst _) (Ev.var 5) e6) (Ev.var 7) e7) e8))
        (Ev.seq (Ev.asg (Ev.fn (Ev.cons (Ev.bin (Ev.var 1) (Ev.var 7) e9) (Ev.cons (Ev.bin (Ev.bin (Ev.bin (Ev.var 8) (Ev.cst _) Ev.sub) (Ev.var 1) Ev.sub) (Ev.var 7) e10) (Ev.cons (Ev.var 5) Ev.nil))) e11))
        (Ev.seq (Ev.asg (Ev.lst (Ev.cons (Ev.tup (Ev.cons (Ev.var 0) (Ev.cons (Ev.call (Ev.cons (Ev.var 0) Ev.nil) e12) (Ev.cons (Ev.var 9) Ev.nil)))) Ev.nil)))
        (Ev.seq (Ev.asg (Ev.call (Ev.cons (Ev.ixO (Ev.cst _) (at0 _ _)) (Ev.cons (Ev.var 1) (Ev.cons (Ev.call (Ev.cons (Ev.var 3) (Ev.cons (Ev.var 4) (Ev.cons (Ev.bin (Ev.var 5) (Ev.var 9) e13) Ev.nil))) e14) Ev.nil))) e15))
        (Ev.seq_rt (Ev.ifS_t (Ev.tB (Ev.bin (Ev.var 9) (Ev.var 5) e16)) (Ev.ret (Ev.tup (Ev.cons (Ev.varO 10) (Ev.cons (Ev.var 1) Ev.nil)))))))))))))
    · rw [show (mid == m) = false by simp [hmm]] at e16
      rw [show (mid == m) = false by simp [hmm]]
      simp only [Bool.false_eq_true, if_false]
      have hq3 := hq2 hmm _ rfl
      have e17 : (fI (fun _ _ => true) fun i j => i - j) (.val (.int ((m - mid : Nat) : Int))) (.val (.int 1)) = some (.val (.int ((m - mid - 1 : Nat) : Int))) := by
        show some (Sl.val (PyData.int (((m - mid : Nat) : Int) - 1))) = _
        rw [show ((m - mid : Nat) : Int) - 1 = ((m - mid - 1 : Nat) : Int) by omega]
      have e20 := kind_behind_ok (k, TL.opp k, mid)
      rw [dl] at e20
      generalize TL.kindBehind (k, TL.opp k, mid) = k1 at *
      have e21 := near_ok k1
      have e22 := opposite_ok (TL.near k1)
      generalize hf1 : farIn (k, TL.opp k, mid) far (climbs x c (m - mid)) = far1 at *
      have e23 : (fB fun i j => decide (i < j)) (.val (.int (far1 : Int))) (.val (.int (outer : Int))) = some (.val (.bool (decide ((far1 : Int) < (outer : Int))))) := rfl
      have hm3 : m - mid - 1 < 2 ^ w := by omega
      have e24 : mf_climbed [.val (dRung x), .val (.int (bI c)), .val (.int ((m - mid - 1 : Nat) : Int))] = some (.val (dRung (climbs x c (m - mid - 1))), [.un, .un, .un]) := climbed_ok hx c (m - mid - 1) hm3 (by omega)
      have hbd := climbs_le hx hm3 c
      have hasd13 : ∀ ρ : List Sl, ρ[1]? = some (.val (.int (far1 : Int))) → ρ[7]? = some (.val (.int (outer : Int))) → ρ[12]? = some (.val (dK (TL.near k1))) →
          mIf (mB (mBin (fB fun i j => decide (i < j)) (mVar 1) (mVar 7))) (mVar 12) (mCall PR.mf_opposite [] (mCons (mVar 12) (mNil))) ρ = some (.val (dK (if far1 < outer then TL.near k1 else TL.opp (TL.near k1))), ρ) := by
        intro ρ q1 q7 q12
        by_cases h : far1 < outer
        · rw [if_pos h]
          rw [decide_eq_true (by omega)] at e23
          exact Ev.if_t (Ev.tB (Ev.bin (Ev.var 1 q1) (Ev.var 7 q7) e23)) (Ev.var 12 q12)
        · rw [if_neg h]
          rw [decide_eq_false (by omega)] at e23
          exact Ev.if_f (Ev.tB (Ev.bin (Ev.var 1 q1) (Ev.var 7 q7) e23)) (Ev.call (Ev.cons (Ev.var 12 q12) Ev.nil) e22)
      generalize hasd : (if far1 < outer then TL.near k1 else TL.opp (TL.near k1)) = aside at *
      have e25 := far_in_ok (k1, aside, 1) far1 hbd (w := w + 1) (show 1 < 2 ^ (w + 1) from Nat.one_lt_two_pow (by omega)) (by omega) hq3.1 hq3.2
      have dl1 : dL (k1, aside, 1) = .tuple [dK k1, dK aside, .int 1] := rfl
      have dl2 : dL (aside, aside, m - mid - 1) = .tuple [dK aside, dK aside, .int ((m - mid - 1 : Nat) : Int)] := rfl
      rw [dl1] at e25
      have hz : [PyData.tuple [dK k, dK (TL.opp k), .int (mid : Int)]].length + [PyData.tuple [dK k1, dK aside, .int 1], PyData.tuple [dK aside, dK aside, .int ((m - mid - 1 : Nat) : Int)]].length ≤ sizeLine := sizeN (by simp)
      have at1 : ∀ (a b c : D), atI [a, b, c] 1 = some b := fun _ _ _ => rfl
      simp only [List.map_cons, List.map_nil, dl, dl1, dl2]
      refine Ev.defR (ρ' := [.val (dK k1), .val (.int (far1 : Int)), .val (.tuple [.int (bI c), .int (m : Int)]), .val (dRung x), .val (.int (bI c)), .val (.int (m : Int)), .val (.int (inner : Int)), .val (.int (outer : Int)), .val (.int ((inner + 2 * m * outer : Nat) : Int)), .val (.int (mid : Int)),
        .val (.list [.tuple [dK k, dK (TL.opp k), .int (mid : Int)], .tuple [dK k1, dK aside, .int 1], .tuple [dK aside, dK aside, .int ((m - mid - 1 : Nat) : Int)]]), .val (.int ((m - mid - 1 : Nat) : Int)), .val (dK (TL.near k1)), .val (dK aside)]) ?_
      unfold mb_layers_at
      generalize ((farIn (k1, aside, 1) far1 (climbs x c (m - mid - 1)) : Nat) : Int) = F2 at *
      generalize ((inner + 2 * m * outer : Nat) : Int) = PP at *
      generalize ((2 * m * outer : Nat) : Int) = P2 at *
      generalize ((m - mid - 1 : Nat) : Int) = ML at *
      generalize dRung (climbs x c (m - mid - 1)) = R2 at *
      generalize dRung (climbs x c (m - mid)) = R1 at *
      generalize dRung x = R at *
      generalize dK (TL.opp k) = KO at *
      generalize dK (TL.opp (TL.near k1)) = KON at *
      generalize dK (TL.near k1) = KN at *
      generalize dK aside = KA at *
      generalize dK k = KK at *
      generalize dK k1 = KK1 at *
      exact Ev.seq (Ev.asgT (Ev.var 2) Ev.gT2) (Ev.seq (Ev.ifS_f (Ev.tB (Ev.bin (Ev.var 4) (Ev.call (Ev.cons (Ev.var 0) (Ev.cons (Ev.var 0) Ev.nil)) e1) e2)) Ev.next)
        (Ev.seq (Ev.asg (Ev.call (Ev.cons (Ev.var 0) (Ev.cons (Ev.var 3) Ev.nil)) e3)) (Ev.seq (Ev.asg (Ev.bin (Ev.fn (Ev.cons (Ev.var 3) Ev.nil) e4) (Ev.var 6) e5))
        (Ev.seq (Ev.asg (Ev.bin (Ev.var 6) (Ev.bin (Ev.bin (Ev.cst _) (Ev.var 5) e6) (Ev.var 7) e7) e8))
        (Ev.seq (Ev.asg (Ev.fn (Ev.cons (Ev.bin (Ev.var 1) (Ev.var 7) e9) (Ev.cons (Ev.bin (Ev.bin (Ev.bin (Ev.var 8) (Ev.cst _) Ev.sub) (Ev.var 1) Ev.sub) (Ev.var 7) e10) (Ev.cons (Ev.var 5) Ev.nil))) e11))
        (Ev.seq (Ev.asg (Ev.lst (Ev.cons (Ev.tup (Ev.cons (Ev.var 0) (Ev.cons (Ev.call (Ev.cons (Ev.var 0) Ev.nil) e12) (Ev.cons (Ev.var 9) Ev.nil)))) Ev.nil)))
        (Ev.seq (Ev.asg (Ev.call (Ev.cons (Ev.ixO (Ev.cst _) (at0 _ _)) (Ev.cons (Ev.var 1) (Ev.cons (Ev.call (Ev.cons (Ev.var 3) (Ev.cons (Ev.var 4) (Ev.cons (Ev.bin (Ev.var 5) (Ev.var 9) e13) Ev.nil))) e14) Ev.nil))) e15))
        (Ev.seq (Ev.ifS_f (Ev.tB (Ev.bin (Ev.var 9) (Ev.var 5) e16)) Ev.next)
        (Ev.seq (Ev.asg (Ev.bin (Ev.bin (Ev.var 5) (Ev.var 9) e13) (Ev.cst _) e17))
        (Ev.seq (Ev.asg (Ev.call (Ev.cons (Ev.ixO (Ev.cst _) (at0 _ _)) Ev.nil) e20))
        (Ev.seq (Ev.asg (Ev.un (Ev.var 0) e21)) (Ev.seq (Ev.asg (hasd13 _ rfl rfl rfl))
        (Ev.seq (Ev.augL (Ev.lst (Ev.cons (Ev.tup (Ev.cons (Ev.var 0) (Ev.cons (Ev.var 13) (Ev.cons (Ev.cst _) Ev.nil)))) (Ev.cons (Ev.tup (Ev.cons (Ev.var 13) (Ev.cons (Ev.var 13) (Ev.cons (Ev.var 11) Ev.nil)))) Ev.nil))) hz)
        (Ev.ret (Ev.tup (Ev.cons (Ev.varO 10) (Ev.cons (Ev.call (Ev.cons (Ev.ixO (Ev.cst _) (at1 _ _ _)) (Ev.cons (Ev.var 1) (Ev.cons (Ev.call (Ev.cons (Ev.var 3) (Ev.cons (Ev.var 4) (Ev.cons (Ev.var 11) Ev.nil))) e24) Ev.nil))) e25) Ev.nil)))))))))))))))))
  · unfold TL.layersAt
    simp only [hc, if_true, List.map_cons, List.map_nil]
    rw [hc] at e2
    have dl : dL (k, k, m) = .tuple [dK k, dK k, .int (m : Int)] := rfl
    rw [dl]
    refine Ev.defR (ρ' := [.val (dK k), .val (.int (far : Int)), .val (.tuple [.int (bI c), .int (m : Int)]), .val (dRung (TL.rungs T)), .val (.int (bI c)), .val (.int (m : Int)), .un, .un, .un, .un, .un, .un, .un, .un]) ?_
    unfold mb_layers_at
    generalize dRung (TL.rungs T) = R at *
    generalize dK k = KK at *
    exact Ev.seq (Ev.asgT (Ev.var 2) Ev.gT2) (Ev.seq_rt (Ev.ifS_t (Ev.tB (Ev.bin (Ev.var 4) (Ev.call (Ev.cons (Ev.var 0) (Ev.cons (Ev.var 0) Ev.nil)) e1) e2)) (Ev.ret (Ev.tup (Ev.cons (Ev.lst (Ev.cons (Ev.tup (Ev.cons (Ev.var 0) (Ev.cons (Ev.var 0) (Ev.cons (Ev.var 5) Ev.nil)))) Ev.nil)) (Ev.cons (Ev.var 1) Ev.nil))))))
end PR
namespace PR
open PySem L2 Dn LB
open TL (Strip Layers flat endsB oneWay)
theorem row_of_ends_ok (A B : List Strip) (hl : A.length + B.length ≤ 9000) : mf_row_of_ends [.val (.tuple [.list (A.map dS), .list (B.map dS)])] = some (.own ((TLR.rowS (B ++ A.reverse)).map pairD), [.un]) := by
  have er : fRevSl (.val (.list (A.map dS))) = some (.own (A.reverse.map dS)) := by simp
  have ea : fAdd (.val (.list (B.map dS))) (.own (A.reverse.map dS)) = some (.own ((B ++ A.reverse).map dS)) := by
    have hz : B.length + A.length ≤ sizeLine := sizeN (by omega)
    rw [List.map_append]
    simp [hz]
  have e := row_of_strips_ok (B ++ A.reverse) (by simp; omega) (x := .own ((B ++ A.reverse).map dS)) (.inr rfl)
  unfold mf_row_of_ends
  generalize (TLR.rowS (B ++ A.reverse)).map pairD = R at *
  generalize (B ++ A.reverse).map dS = BA at *
  generalize A.reverse.map dS = AR at *
  generalize A.map dS = A' at *
  generalize B.map dS = B' at *
  refine Ev.defR (ρ' := [.val (.tuple [.list A', .list B']), .val (.list A'), .val (.list B')]) ?_
  unfold mb_row_of_ends
  exact Ev.seq (Ev.asgT (Ev.var 0) Ev.gT2) (Ev.ret (Ev.call (Ev.cons (Ev.bin (Ev.var 2) (Ev.un (Ev.var 1) er) ea) Ev.nil) e))
def endsW (who r : Bool) (ws : List Layers) : List Strip := ws.filterMap fun w => if (if who then w.1.1 else w.1.2) == r then some (if who then w.2.1.2 else w.2.1.1, w.2.2) else Option.none
theorem endsB_W (who r : Bool) (ls : List Layers) : endsB who r ls = endsW who r (ls.flatMap oneWay) := rfl
theorem endsW_snoc (who r : Bool) (ws : List Layers) (w : Layers) : endsW who r (ws ++ [w]) = if ((if who then w.1.1 else w.1.2) == r) = true then endsW who r ws ++ [(if who then w.2.1.2 else w.2.1.1, w.2.2)] else endsW who r ws := by
  unfold endsW
  rw [List.filterMap_append]
  cases h : ((if who then w.1.1 else w.1.2) == r) <;> simp [List.filterMap, h]
theorem endsW_len (who r : Bool) (ws : List Layers) : (endsW who r ws).length ≤ ws.length := List.length_filterMap_le _ _
def ghE (ws : List Layers) : List (Bool × List GI) := [(true, [.l ((endsW true false ws).map dS), .l ((endsW true true ws).map dS)]), (true, [.l ((endsW false false ws).map dS), .l ((endsW false true ws).map dS)])]
theorem g_seq {a b : MSG} {ρ ρ1 : List Sl} {γ γ1 : List (Bool × List GI)} {o : Option OutG} (h : a ρ γ = some (.nx ρ1 γ1)) (h2 : b ρ1 γ1 = o) : mSeqG a b ρ γ = o := by
  unfold mSeqG; rw [h]; exact h2
theorem g_loop {g : MG} {b : MSG} {d : D} {ds : List D} {ρ ρ1 ρ2 : List Sl} {γ γ2 : List (Bool × List GI)} {o : Option OutG} (h1 : g d ρ = some ρ1) (h2 : b ρ1 γ = some (.nx ρ2 γ2)) (h3 : mLoopG g b ds ρ2 γ2 = o) : mLoopG g b (d :: ds) ρ γ = o := by
  rw [mLoopG, h1]; simp only; rw [h2]; exact h3
theorem g_meth {h0 : Nat} {k : MX} {f : List D → List D → Option (D × List D)} {a : MA} {ρ ρ1 ρ2 : List Sl} {γ γ2 : List (Bool × List GI)} {j : Int} {xs : List Sl} {es ds ds' : List D} {d : D} {b : Bool} {gs : List GI} {n : Nat}
    (h1 : k ρ = some (.val (.int j), ρ1)) (h2 : a ρ1 = some (xs, ρ2)) (h3 : datAll xs = some es) (h4 : γ[h0]? = some (b, gs)) (h5 : ixN gs.length j = some n) (h6 : gs[n]? = some (.l ds)) (h7 : f ds es = some (d, ds')) (h8 : γ.set h0 (b, gs.set n (.l ds')) = γ2) : mMethG h0 k f a ρ γ = some (.nx ρ2 γ2) := by
  unfold mMethG
  rw [h1]; simp only; rw [h2]; simp only; rw [h3]; simp only; rw [h4]; simp only; rw [h5]; simp only; rw [h6]; simp only; rw [h7, ← h8]
theorem pair_step (s0 s3 : Sl) (ws : List Layers) (w : Layers) (hl : ws.length < 90000) : lg_pair_of_1 [s0, .un, .un, s3, .val (.int (bI w.1.1)), .val (.int (bI w.1.2)), .val (.int (bI w.2.1.1)), .val (.int (bI w.2.1.2)), .val (.int (w.2.2 : Int))] (ghE ws) =
    some (.nx [s0, .un, .un, s3, .val (.int (bI w.1.1)), .val (.int (bI w.1.2)), .val (.int (bI w.2.1.1)), .val (.int (bI w.2.1.2)), .val (.int (w.2.2 : Int))] (ghE (ws ++ [w]))) := by
  obtain ⟨⟨r, s⟩, ⟨b, a⟩, m⟩ := w
  simp only
  have l1 := endsW_len true false ws
  have l2 := endsW_len true true ws
  have l3 := endsW_len false false ws
  have l4 := endsW_len false true ws
  have z : ∀ A : List Strip, A.length ≤ ws.length → (A.map dS).length < sizeLine := fun A h => by rw [List.length_map]; exact sizeL (by omega)
  have e1 := endsW_snoc true false ws ((r, s), (b, a), m)
  have e2 := endsW_snoc true true ws ((r, s), (b, a), m)
  have e3 := endsW_snoc false false ws ((r, s), (b, a), m)
  have e4 := endsW_snoc false true ws ((r, s), (b, a), m)
  simp only [if_true, Bool.false_eq_true, if_false] at e1 e2 e3 e4
  unfold ghE
  rw [e1, e2, e3, e4]
  generalize endsW true false ws = A at *
  generalize endsW true true ws = B at *
  generalize endsW false false ws = C at *
  generalize endsW false true ws = E at *
  have da : dS (a, m) = .tuple [.int (bI a), .int (m : Int)] := rfl
  have db : dS (b, m) = .tuple [.int (bI b), .int (m : Int)] := rfl
  have i0 : ∀ x y : GI, ixN [x, y].length 0 = some 0 := fun _ _ => rfl
  have i1 : ∀ x y : GI, ixN [x, y].length 1 = some 1 := fun _ _ => rfl
  unfold lg_pair_of_1
  cases r <;> cases s <;>
    refine g_seq (g_meth (Ev.var 4) (Ev.cons (Ev.tup (Ev.cons (Ev.var 7) (Ev.cons (Ev.var 8) Ev.nil))) Ev.nil) rfl rfl rfl rfl (Ev.app (z _ (by assumption))) rfl) (g_meth (Ev.var 5) (Ev.cons (Ev.tup (Ev.cons (Ev.var 6) (Ev.cons (Ev.var 8) Ev.nil))) Ev.nil) rfl rfl rfl rfl (Ev.app (z _ (by assumption))) ?_) <;>
    simp [da, db, show (bI false).toNat = 0 from rfl, show (bI true).toNat = 1 from rfl]
theorem pair_inner (s0 s3 : Sl) : ∀ (vs ws : List Layers) (t4 t5 t6 t7 t8 : Sl), ws.length + vs.length < 90000 → ∃ u4 u5 u6 u7 u8 : Sl,
    mLoopG (mgPL (fun j => j == 1 || j == 2) [.t [4, 5], .t [6, 7], .n 8]) lg_pair_of_1 (vs.map dL) [s0, .un, .un, s3, t4, t5, t6, t7, t8] (ghE ws) = some (.nx [s0, .un, .un, s3, u4, u5, u6, u7, u8] (ghE (ws ++ vs)))
  | [], ws, t4, t5, t6, t7, t8, _ => ⟨t4, t5, t6, t7, t8, by rw [List.append_nil]; rfl⟩
  | v :: vs, ws, t4, t5, t6, t7, t8, h => by
    rw [List.length_cons] at h
    obtain ⟨u4, u5, u6, u7, u8, e⟩ := pair_inner s0 s3 vs (ws ++ [v]) (.val (.int (bI v.1.1))) (.val (.int (bI v.1.2))) (.val (.int (bI v.2.1.1))) (.val (.int (bI v.2.1.2))) (.val (.int (v.2.2 : Int))) (by simp; omega)
    refine ⟨u4, u5, u6, u7, u8, ?_⟩
    rw [List.append_assoc] at e
    rw [List.map_cons]
    refine g_loop ?_ (pair_step s0 s3 ws v (by omega)) e
    have hd : dL v = .tuple [.tuple [.int (bI v.1.1), .int (bI v.1.2)], .tuple [.int (bI v.2.1.1), .int (bI v.2.1.2)], .int (v.2.2 : Int)] := rfl
    rw [hd]
    rfl
theorem pair_outer (s0 : Sl) : ∀ (ls : List Layers) (ws : List Layers) (t3 t4 t5 t6 t7 t8 : Sl), ws.length + (ls.flatMap oneWay).length < 90000 → ∃ u3 u4 u5 u6 u7 u8 : Sl,
    mLoopG (mgN (fun j => j == 1 || j == 2) 3) lg_pair_of_2 (ls.map dL) [s0, .un, .un, t3, t4, t5, t6, t7, t8] (ghE ws) = some (.nx [s0, .un, .un, u3, u4, u5, u6, u7, u8] (ghE (ws ++ ls.flatMap oneWay)))
  | [], ws, t3, t4, t5, t6, t7, t8, _ => ⟨t3, t4, t5, t6, t7, t8, by rw [List.flatMap_nil, List.append_nil]; rfl⟩
  | l :: ls, ws, t3, t4, t5, t6, t7, t8, h => by
    rw [List.flatMap_cons, List.length_append] at h
    have eo := one_way_ok l
    obtain ⟨v4, v5, v6, v7, v8, e1⟩ := pair_inner s0 (.val (dL l)) (oneWay l) ws t4 t5 t6 t7 t8 (by omega)
    obtain ⟨u3, u4, u5, u6, u7, u8, e2⟩ := pair_outer s0 ls (ws ++ oneWay l) (.val (dL l)) v4 v5 v6 v7 v8 (by rw [List.length_append]; omega)
    refine ⟨u3, u4, u5, u6, u7, u8, ?_⟩
    rw [List.append_assoc] at e2
    rw [List.map_cons, List.flatMap_cons]
    refine g_loop (ρ1 := [s0, .un, .un, .val (dL l), t4, t5, t6, t7, t8]) ?_ (ρ2 := [s0, .un, .un, .val (dL l), v4, v5, v6, v7, v8]) ?_ e2
    · generalize dL l = L
      exact Ev.gN
    · unfold lg_pair_of_2
      generalize dL l = L at *
      have hi : miN (mCall PR.mf_one_way [] (mCons (mVar 3) (mNil))) [s0, .un, .un, .val L, t4, t5, t6, t7, t8] = some ((oneWay l).map dL, [s0, .un, .un, .val L, t4, t5, t6, t7, t8]) := Ev.iN (Ev.call (Ev.cons (Ev.var 3) Ev.nil) eo)
      unfold mForG
      rw [hi]
      exact e1
theorem oneWay_len (ls : List Layers) : (ls.flatMap oneWay).length ≤ 2 * ls.length := by
  induction ls with
  | nil => simp
  | cons l ls ih =>
    rw [List.flatMap_cons, List.length_append, List.length_cons]
    have : (oneWay l).length ≤ 2 := by
      unfold oneWay
      split
      · exact Nat.le_trans (List.length_filter_le _ _) (by simp)
      · simp
    omega
def pairL (ls : List Layers) : RowT × RowT := (TLR.rowS (endsB true true ls ++ (endsB true false ls).reverse), TLR.rowS (endsB false true ls ++ (endsB false false ls).reverse))
theorem pair_of_ok (ls : List Layers) (hl : ls.length ≤ 2000) {x : Sl} (hx : LC.IsL x (ls.map dL)) (hv : x = .val (.list (ls.map dL))) : mf_pair_of [x] = some (.val (dPair (pairL ls).1 (pairL ls).2), [.un]) := by
  subst hv
  have hw := oneWay_len ls
  obtain ⟨u3, u4, u5, u6, u7, u8, e⟩ := pair_outer (.val (.list (ls.map dL))) ls [] .un .un .un .un .un .un (by rw [List.length_nil]; omega)
  rw [List.nil_append] at e
  have l1 : (endsB true false ls).length + (endsB true true ls).length ≤ 9000 := by
    have h1 := endsW_len true false (ls.flatMap oneWay)
    have h2 := endsW_len true true (ls.flatMap oneWay)
    rw [endsB_W, endsB_W]; omega
  have l2 : (endsB false false ls).length + (endsB false true ls).length ≤ 9000 := by
    have h1 := endsW_len false false (ls.flatMap oneWay)
    have h2 := endsW_len false true (ls.flatMap oneWay)
    rw [endsB_W, endsB_W]; omega
  have r1 := row_of_ends_ok (endsB true false ls) (endsB true true ls) l1
  have r2 := row_of_ends_ok (endsB false false ls) (endsB false true ls) l2
  have hth : ∀ L, thaw [L, .un, .un, u3, u4, u5, u6, u7, u8] [1, 2] (ghE (ls.flatMap oneWay)) = [L, .val (.tuple [.list ((endsB true false ls).map dS), .list ((endsB true true ls).map dS)]), .val (.tuple [.list ((endsB false false ls).map dS), .list ((endsB false true ls).map dS)]), u3, u4, u5, u6, u7, u8] := fun _ => rfl
  have h0 : ghE [] = [(true, [.l [], .l []]), (true, [.l [], .l []])] := rfl
  rw [h0] at e
  have dp : dPair (pairL ls).1 (pairL ls).2 = .tuple [.list ((pairL ls).1.map pairD), .list ((pairL ls).2.map pairD)] := rfl
  rw [dp]
  unfold pairL
  simp only
  generalize (TLR.rowS (endsB true true ls ++ (endsB true false ls).reverse)).map pairD = RA at *
  generalize (TLR.rowS (endsB false true ls ++ (endsB false false ls).reverse)).map pairD = RB at *
  unfold mf_pair_of
  generalize ghE (ls.flatMap oneWay) = GH at *
  generalize (endsB true false ls).map dS = E1 at *
  generalize (endsB true true ls).map dS = E2 at *
  generalize (endsB false false ls).map dS = E3 at *
  generalize (endsB false true ls).map dS = E4 at *
  generalize ls.map dL = LS at *
  refine Ev.defR (ρ' := [.val (.list LS), .val (.tuple [.list E1, .list E2]), .val (.tuple [.list E3, .list E4]), u3, u4, u5, u6, u7, u8]) ?_
  unfold mb_pair_of mGh
  have hn : mNewP (fun _ => false) 1 2 ([.val (.list LS)] ++ List.replicate (9 - 1) .un) = some ([.val (.list LS), .un, .un, .un, .un, .un, .un, .un, .un], [(true, [.l [], .l []]), (true, [.l [], .l []])]) := rfl
  rw [hn]
  simp only
  have hf : mForG (miS (mVar 0)) (mgN (fun j => j == 1 || j == 2) 3) lg_pair_of_2 [.val (.list LS), .un, .un, .un, .un, .un, .un, .un, .un] [(true, [.l [], .l []]), (true, [.l [], .l []])] = some (.nx [.val (.list LS), .un, .un, u3, u4, u5, u6, u7, u8] GH) := by
    unfold mForG
    rw [Ev.iS (Ev.var 0)]
    exact e
  rw [hf]
  simp only
  rw [hth]
  exact Ev.ret (Ev.tup (Ev.cons (Ev.call (Ev.cons (Ev.var 1) Ev.nil) r1) (Ev.cons (Ev.call (Ev.cons (Ev.var 2) Ev.nil) r2) Ev.nil)))
end PR
namespace PR
open PySem L2 Dn LB
open TL (Strip Layers flat layersAt layersDown lastKind)
def ladL (S : List Strip) (i : Nat) : List D := (List.range (i + 1)).map fun j => dRung (climbAll (1, 1) (S.take j))
theorem ladL_snoc (S : List Strip) (i : Nat) : ladL S (i + 1) = ladL S i ++ [dRung (climbAll (1, 1) (S.take (i + 1)))] := by simp [ladL, List.range_succ]
theorem ladL_last (S : List Strip) (i : Nat) : atI (ladL S i) (-1) = some (dRung (climbAll (1, 1) (S.take i))) := atI_end (by simp [ladL, List.range_succ])
theorem ladL_len (S : List Strip) (i : Nat) : (ladL S i).length = i + 1 := by simp [ladL]
theorem ladL_at {S : List Strip} {i j : Nat} (h : j ≤ i) : atI (ladL S i) (j : Int) = some (dRung (climbAll (1, 1) (S.take j))) := atI_nat' (by unfold ladL; rw [List.getElem?_map, List.getElem?_range (by omega)]; rfl)
theorem take_bd {w : Nat} {S : List Strip} (hw : ∀ s ∈ S, s.2 < 2 ^ w) (i : Nat) : Bd (1 + S.length * (w + 2)) (climbAll (1, 1) (S.take i)) := by
  have h := climbAll_bd (S.take i) 1 (1, 1) ⟨by decide, by decide⟩ (fun s hs => hw s (List.mem_of_mem_take hs))
  refine h.mono ?_
  have : (S.take i).length * (w + 2) ≤ S.length * (w + 2) := Nat.mul_le_mul_right _ (by rw [List.length_take]; omega)
  omega
theorem lad_turn {w : Nat} {S : List Strip} (hw : ∀ s ∈ S, s.2 < 2 ^ w) (hB : 1 + S.length * (w + 2) + w ≤ 8800) {i : Nat} {s : Strip} (hs : S[i]? = some s) (s0 s1 s2 s3 s4 s8 s9 s10 s11 s12 : Sl) :
    lb_pair_on_within_1 [s0, s1, s2, s3, s4, .own (ladL S i), .val (.int (bI s.1)), .val (.int (s.2 : Int)), s8, s9, s10, s11, s12] = some (.nx [s0, s1, s2, s3, s4, .own (ladL S (i + 1)), .val (.int (bI s.1)), .val (.int (s.2 : Int)), s8, s9, s10, s11, s12]) := by
  have hi := (List.getElem?_eq_some_iff.mp hs).1
  have hlen : S.length ≤ 8800 := by
    have := Nat.le_mul_of_pos_right S.length (show 0 < w + 2 by omega)
    omega
  have hm : s.2 < 2 ^ w := hw s (List.mem_of_getElem? hs)
  have e1 : mf_climbed [.val (dRung (climbAll (1, 1) (S.take i))), .val (.int (bI s.1)), .val (.int (s.2 : Int))] = some (.val (dRung (TL.climbs (climbAll (1, 1) (S.take i)) s.1 s.2)), [.un, .un, .un]) := climbed_ok (take_bd hw i) s.1 s.2 hm (by omega)
  have et : S.take (i + 1) = S.take i ++ [s] := by rw [List.take_add_one, hs]; rfl
  have e2 : TL.climbs (climbAll (1, 1) (S.take i)) s.1 s.2 = climbAll (1, 1) (S.take (i + 1)) := by
    rw [et]
    unfold climbAll
    rw [List.foldl_append]
    rfl
  rw [e2] at e1
  have el := ladL_last S i
  have hz : (ladL S i).length < sizeLine := by rw [ladL_len]; exact sizeL (by omega)
  rw [ladL_snoc]
  unfold lb_pair_on_within_1
  generalize ladL S i = L at *
  generalize dRung (climbAll (1, 1) (S.take i)) = R at *
  generalize dRung (climbAll (1, 1) (S.take (i + 1))) = R2 at *
  exact Ev.expr (Ev.meth (Ev.cons (Ev.call (Ev.cons (Ev.ixO (Ev.un (Ev.cst _) rfl) el) (Ev.cons (Ev.var 6) (Ev.cons (Ev.var 7) Ev.nil))) e1) Ev.nil) (Ev.app hz))
theorem layersAt_ne (k : TL.Kind) (far : Nat) (s : Strip) (x : Nat × Nat) : ∃ (a : List Layers) (l : Layers), (layersAt k far s x).1 = a ++ [l] := by
  unfold layersAt
  split
  · exact ⟨[], _, rfl⟩
  · simp only
    split
    · exact ⟨[], _, rfl⟩
    · exact ⟨[_, _], _, rfl⟩
theorem layersAt_len (k : TL.Kind) (far : Nat) (s : Strip) (x : Nat × Nat) : (layersAt k far s x).1.length ≤ 3 := by
  unfold layersAt
  split
  · simp
  · simp only
    split <;> simp
theorem rungs_take (S : List Strip) (i : Nat) : TL.rungs (flat (S.take i).reverse) = climbAll (1, 1) (S.take i) := by
  rw [climbAll_flat]
  have := TL.rungs_rev (flat (S.take i).reverse)
  rw [← this, TL.flat_rev, List.reverse_reverse]
theorem down_loop2 {w : Nat} {S : List Strip} (hw : ∀ s ∈ S, s.2 < 2 ^ w) (hB : 1 + S.length * (w + 2) + w ≤ 8800) (s0 s1 s2 s3 s6 s7 : Sl) : ∀ (k : Nat), k ≤ S.length → ∀ (kk : TL.Kind) (ff : Nat) (Ls : List Layers) (s11 s12 : Sl),
    ff < TL.num kk (flat (S.take k).reverse) → Ls.length + 3 * k ≤ 90000 → ∃ t8 t9 t11 t12 : Sl,
      mLoop (mgN (fun _ => false) 11) lb_pair_on_within_2 ((List.range k).reverse.map fun i : Nat => PyData.int (0 + (i : Int))) [s0, s1, s2, s3, .val (.list (S.map dS)), .own (ladL S S.length), s6, s7, .val (dK kk), .val (.int (ff : Int)), .own (Ls.map dL), s11, s12] =
        some (.nx [s0, s1, s2, s3, .val (.list (S.map dS)), .own (ladL S S.length), s6, s7, t8, t9, .own ((Ls ++ layersDown kk ff (S.take k).reverse).map dL), t11, t12]) := by
  intro k
  induction k with
  | zero =>
    intro _ kk ff Ls s11 s12 _ _
    refine ⟨.val (dK kk), .val (.int (ff : Int)), s11, s12, ?_⟩
    simp [layersDown, mLoop]
  | succ k ih =>
    intro hk kk ff Ls s11 s12 hf hl
    obtain ⟨⟨c, m⟩, hs⟩ : ∃ s, S[k]? = some s := ⟨_, List.getElem?_eq_getElem (by omega)⟩
    have et : (S.take (k + 1)).reverse = (c, m) :: (S.take k).reverse := by rw [List.take_add_one, hs]; simp
    rw [et] at hf ⊢
    have hf' : ff < TL.num kk (List.replicate m c ++ flat (S.take k).reverse) := hf
    have hm : m < 2 ^ w := hw (c, m) (List.mem_of_getElem? hs)
    have hx : Bd (1 + S.length * (w + 2)) (TL.rungs (flat (S.take k).reverse)) := by rw [rungs_take]; exact take_bd hw k
    have e1 := layers_at_ok kk ff c m (flat (S.take k).reverse) hf' hx hm (by omega)
    obtain ⟨ch, hnum, _⟩ := TL.layersAt_ok kk ff c m (flat (S.take k).reverse) hf'
    rw [rungs_take] at e1 ch hnum
    have hdown : layersDown kk ff ((c, m) :: (S.take k).reverse) = (layersAt kk ff (c, m) (climbAll (1, 1) (S.take k))).1 ++ layersDown (lastKind kk (layersAt kk ff (c, m) (climbAll (1, 1) (S.take k))).1) (layersAt kk ff (c, m) (climbAll (1, 1) (S.take k))).2 (S.take k).reverse := by
      rw [← rungs_take]; rfl
    rw [hdown, ← List.append_assoc]
    obtain ⟨a, l, ha⟩ := layersAt_ne kk ff (c, m) (climbAll (1, 1) (S.take k))
    have h3 := layersAt_len kk ff (c, m) (climbAll (1, 1) (S.take k))
    generalize (layersAt kk ff (c, m) (climbAll (1, 1) (S.take k))).1 = found at *
    generalize (layersAt kk ff (c, m) (climbAll (1, 1) (S.take k))).2 = far2 at *
    have hlk : lastKind kk found = TL.kindBehind l := by rw [ha]; simp [lastKind]
    rw [hlk] at hnum ⊢
    obtain ⟨t8, t9, t11, t12, e⟩ := ih (by omega) (TL.kindBehind l) far2 (Ls ++ found) (.val (.int (0 + (k : Int)))) (.val (.list (found.map dL))) hnum (by rw [List.length_append]; omega)
    refine ⟨t8, t9, t11, t12, ?_⟩
    rw [List.range_succ, List.reverse_append, List.reverse_singleton, List.singleton_append, List.map_cons]
    have h0k : (0 : Int) + (k : Int) = (k : Int) := by omega
    have ei : atI (S.map dS) (0 + (k : Int)) = some (dS (c, m)) := by rw [h0k]; exact atI_nat' (by rw [List.getElem?_map, hs]; rfl)
    have el : atI (ladL S S.length) (0 + (k : Int)) = some (dRung (climbAll (1, 1) (S.take k))) := by rw [h0k]; exact ladL_at (by omega)
    have ek := kind_behind_ok l
    have elast : atI ((Ls ++ found).map dL) (-1) = some (dL l) := atI_end (by rw [ha]; simp)
    have hz : (Ls.map dL).length + (found.map dL).length ≤ sizeLine := by rw [List.length_map, List.length_map]; exact sizeN (by omega)
    have hap : Ls.map dL ++ found.map dL = (Ls ++ found).map dL := by rw [List.map_append]
    refine Ev.loop_nx (ρ1 := [s0, s1, s2, s3, .val (.list (S.map dS)), .own (ladL S S.length), s6, s7, .val (dK kk), .val (.int (ff : Int)), .own (Ls.map dL), .val (.int (0 + (k : Int))), s12])
      (ρ2 := [s0, s1, s2, s3, .val (.list (S.map dS)), .own (ladL S S.length), s6, s7, .val (dK (TL.kindBehind l)), .val (.int (far2 : Int)), .own ((Ls ++ found).map dL), .val (.int (0 + (k : Int))), .val (.list (found.map dL))]) ?_ ?_ e
    · generalize dK kk = KK
      exact Ev.gN
    · unfold lb_pair_on_within_2
      generalize dK kk = KK at *
      generalize dK (TL.kindBehind l) = KB at *
      generalize dL l = DL at *
      generalize dRung (climbAll (1, 1) (S.take k)) = R at *
      generalize dS (c, m) = DS at *
      generalize ladL S S.length = LD at *
      generalize S.map dS = SS at *
      rw [← hap] at elast ⊢
      generalize found.map dL = FD at *
      generalize Ls.map dL = LS at *
      exact Ev.seq (Ev.asgT (Ev.call (Ev.cons (Ev.var 8) (Ev.cons (Ev.var 9) (Ev.cons (Ev.ixL (Ev.var 4) (Ev.var 11) ei) (Ev.cons (Ev.ixO (Ev.var 11) el) Ev.nil)))) e1) Ev.gT2)
        (Ev.seq (Ev.augV (Ev.var 12) hz) (Ev.asg (Ev.call (Ev.cons (Ev.ixO (Ev.un (Ev.cst _) rfl) elast) Ev.nil) ek)))
theorem endsW_cons (who r : Bool) (w : Layers) (ws : List Layers) : (endsW who r (w :: ws)).length = (if ((if who then w.1.1 else w.1.2) == r) = true then 1 else 0) + (endsW who r ws).length := by
  unfold endsW
  rw [List.filterMap_cons]
  by_cases h : ((if who then w.1.1 else w.1.2) == r) = true
  · rw [if_pos h, if_pos h]
    simp only [List.length_cons]
    omega
  · rw [if_neg h, if_neg h]
    simp only [Nat.zero_add]
theorem endsW_both (who : Bool) : ∀ ws : List Layers, (endsW who true ws).length + (endsW who false ws).length ≤ ws.length
  | [] => by simp [endsW]
  | w :: ws => by
    have ih := endsW_both who ws
    rw [endsW_cons, endsW_cons, List.length_cons]
    cases h : (if who then w.1.1 else w.1.2) <;> simp <;> omega
theorem pair_on_within_ok {n w : Nat} (k : TL.Kind) {t : RowT} (wt : TLR.within n t) (hn : lastE t ≤ n) (hw : n < 2 ^ w) (hB : (2 * t.length + 2) * (w + 2) ≤ 8800) (ht : t.length ≤ 100) {far : Nat} (hf : far < TL.num k (lineT n t)) :
    ∃ p : RowT × RowT, mf_pair_on_within [.val (.int (n : Int)), .val (dK k), .val (dRow t), .val (.int (far : Int))] = some (.val (dPair p.1 p.2), [.un, .un, .un, .un]) ∧
      TLR.within n p.1 ∧ TLR.within n p.2 ∧ (TLR.bits n p.1, TLR.bits n p.2) = TL.pairAt k (lineT n t) far ∧ p.1.length ≤ 6 * (2 * t.length + 1) ∧ p.2.length ≤ 6 * (2 * t.length + 1) := by
  have hpos : 1 ≤ w + 2 := by omega
  have hlt : 2 * t.length + 2 ≤ 8800 := Nat.le_trans (Nat.le_mul_of_pos_right _ (by omega)) hB
  have e1 := strips_of_ok wt.1 (by omega) hn (by omega)
  have hle : ∀ s ∈ TLR.stripsR t n, s.2 < 2 ^ w := fun s hs => by
    have := strip_le t 1 n wt.1 wt.2 (by omega) (by omega) s (List.mem_filter.mp hs).1
    omega
  have hlen : (TLR.stripsR t n).length ≤ 2 * t.length + 1 := by
    have h1 := stripsGo_len t 1 n
    have h2 : (TLR.stripsR t n).length ≤ (TLR.stripsGo 1 t n).length := List.length_filter_le _ _
    omega
  have hflat : flat (TLR.stripsR t n) = TLR.bits n t := TLR.strips_flat wt
  have hB2 : 1 + (TLR.stripsR t n).length * (w + 2) + w ≤ 8800 := by
    have h1 : (TLR.stripsR t n).length * (w + 2) ≤ (2 * t.length + 1) * (w + 2) := Nat.mul_le_mul_right _ hlen
    have h2 : (2 * t.length + 2) * (w + 2) = (2 * t.length + 1) * (w + 2) + (w + 2) := by rw [show 2 * t.length + 2 = (2 * t.length + 1) + 1 from rfl, Nat.add_mul, Nat.one_mul]
    omega
  generalize TLR.stripsR t n = S at *
  have hfS : flat S.reverse = lineT n t := by rw [TL.flat_rev, hflat]; rfl
  rw [← hfS] at hf
  have hf' : far < TL.num k (flat (S.take S.length).reverse) := by rw [List.take_length]; exact hf
  have key := loop_count (g := mgL (fun _ => false) [6, 7]) (b := lb_pair_on_within_1) dS
    (fun i ρ => ∃ t6 t7 : Sl, ρ = [.val (.int (n : Int)), .val (dK k), .val (dRow t), .val (.int (far : Int)), .val (.list (S.map dS)), .own (ladL S i), t6, t7, .un, .un, .un, .un, .un]) S 0
    [.val (.int (n : Int)), .val (dK k), .val (dRow t), .val (.int (far : Int)), .val (.list (S.map dS)), .own (ladL S 0), .un, .un, .un, .un, .un, .un, .un] (fun i s ρ hs hX => by
      obtain ⟨t6, t7, rfl⟩ := hX
      rw [Nat.zero_add]
      have e := lad_turn hle hB2 hs (.val (.int (n : Int))) (.val (dK k)) (.val (dRow t)) (.val (.int (far : Int))) (.val (.list (S.map dS))) .un .un .un .un .un
      refine ⟨[.val (.int (n : Int)), .val (dK k), .val (dRow t), .val (.int (far : Int)), .val (.list (S.map dS)), .own (ladL S i), .val (.int (bI s.1)), .val (.int (s.2 : Int)), .un, .un, .un, .un, .un], _, ?_, .inl e, _, _, rfl⟩
      have hd : dS s = .tuple [.int (bI s.1), .int (s.2 : Int)] := rfl
      rw [hd]
      generalize dK k = KK
      generalize dRow t = R
      exact Ev.gT2) ⟨.un, .un, rfl⟩
  obtain ⟨ρ', e2, t6, t7, rfl⟩ := key
  rw [Nat.zero_add] at e2
  have hSl : S.length ≤ 8800 := by omega
  obtain ⟨t8, t9, t11, t12, e3⟩ := down_loop2 hle hB2 (.val (.int (n : Int))) (.val (dK k)) (.val (dRow t)) (.val (.int (far : Int))) t6 t7 S.length (Nat.le_refl _) k far [] .un .un hf' (by simp; omega)
  rw [List.take_length, List.nil_append] at e3
  obtain ⟨ch, _⟩ := TL.layersDown_ok S.reverse k far hf
  have hpair := TL.layersDown_pair S.reverse k far hf
  rw [TL.pairB ch] at hpair
  have hLl : (layersDown k far S.reverse).length ≤ 3 * S.length := by
    have : ∀ (D : List Strip) (k : TL.Kind) (far : Nat), (layersDown k far D).length ≤ 3 * D.length := by
      intro D
      induction D with
      | nil => intro k far; simp [layersDown]
      | cons s D ih =>
        intro k far
        have h1 := layersAt_len k far s (TL.rungs (flat D))
        have h2 := ih (lastKind k (layersAt k far s (TL.rungs (flat D))).1) (layersAt k far s (TL.rungs (flat D))).2
        simp only [layersDown, List.length_append, List.length_cons]
        omega
    have h := this S.reverse k far
    rw [List.length_reverse] at h
    exact h
  rw [hfS] at hpair
  generalize hLs : layersDown k far S.reverse = Ls at *
  have e4 := pair_of_ok Ls (by omega) (x := .val (.list (Ls.map dL))) (.inl rfl) rfl
  have hlenP := TL.pairAt_len (lineT n t) k far
  rw [lineT_len, ← hpair] at hlenP
  simp only at hlenP
  have r1 := TLR.rowS_ok (TL.endsB true true Ls ++ (TL.endsB true false Ls).reverse)
  have r2 := TLR.rowS_ok (TL.endsB false true Ls ++ (TL.endsB false false Ls).reverse)
  rw [hlenP.1] at r1
  rw [hlenP.2] at r2
  have hwl := oneWay_len Ls
  have lens : ∀ A B : List Strip, A.length + B.length ≤ 2 * Ls.length → (TLR.rowS (A ++ B.reverse)).length ≤ 6 * (2 * t.length + 1) := fun A B hA => by
    have h := LC.rowSf_len (A ++ B.reverse) ([], 0)
    have h' : (TLR.rowS (A ++ B.reverse)).length ≤ (A ++ B.reverse).length := by simpa [TLR.rowS] using h
    rw [List.length_append, List.length_reverse] at h'
    omega
  have le : ∀ who, (TL.endsB who true Ls).length + (TL.endsB who false Ls).length ≤ 2 * Ls.length := fun who => by
    rw [endsB_W, endsB_W]
    have := endsW_both who (Ls.flatMap TL.oneWay)
    omega
  refine ⟨pairL Ls, ?_, r1.1, r2.1, ?_, lens _ _ (le _), lens _ _ (le _)⟩
  · have el : fLen [.val (.list (S.map dS))] = some (.val (.int ((S.length : Nat) : Int))) := by simp
    have hrev : ∀ ρ : List Sl, ρ[4]? = some (.val (.list (S.map dS))) → miRevR1 (mFn fLen (mCons (mVar 4) (mNil))) ρ = some ((List.range S.length).reverse.map fun i : Nat => PyData.int (0 + (i : Int)), ρ) := fun ρ h4 => by
      unfold miRevR1
      rw [Ev.fn (Ev.cons (Ev.var 4 h4) Ev.nil) el]
      have h62 : ((S.length : Nat) : Int) < 2 ^ 62 ∧ -(2 ^ 62) ≤ ((S.length : Nat) : Int) := by constructor <;> omega
      simp only
      rw [if_pos h62, rangeD_map, ← List.map_reverse]
      rfl
    have h0 : ladL S 0 = [.tuple [.int 1, .int 1]] := rfl
    rw [h0] at e2
    have hap : (Ls.map dL).length = (Ls.map dL).length := rfl
    unfold mf_pair_on_within
    generalize dPair (pairL Ls).1 (pairL Ls).2 = P at *
    generalize ladL S S.length = LD at *
    generalize dK k = KK at *
    generalize dRow t = R at *
    generalize S.map dS = SS at *
    generalize Ls.map dL = LS at *
    refine Ev.defR (ρ' := [.val (.int (n : Int)), .val KK, .val R, .val (.int (far : Int)), .val (.list SS), .own LD, t6, t7, t8, t9, .val (.list LS), t11, t12]) ?_
    unfold mb_pair_on_within
    exact Ev.seq (Ev.asg (Ev.call (Ev.cons (Ev.var 2) (Ev.cons (Ev.var 0) Ev.nil)) e1)) (Ev.seq (Ev.asg (Ev.lst (Ev.cons (Ev.tup (Ev.cons (Ev.cst _) (Ev.cons (Ev.cst _) Ev.nil))) Ev.nil)))
      (Ev.seq (Ev.forS' (Ev.iS (Ev.varO 4)) e2) (Ev.seq (Ev.par (Ev.var 1) (Ev.var 3)) (Ev.seq (Ev.asg (Ev.lst Ev.nil)) (Ev.seq (Ev.forS' (hrev _ rfl) e3) (Ev.ret (Ev.call (Ev.cons (Ev.varO 10) Ev.nil) e4)))))))
  · have q1 := r1.2
    have q2 := r2.2
    rw [← hpair]
    unfold pairL
    simp only
    rw [q1, q2]
end PR
namespace Hs
open PySem L2 Dn PR LB
def sg (b : Bool) : Nat := if b then 104 else 116
def s1 (b : Bool) : Str := ⟨#[sg b]⟩
end Hs
namespace PR
open PySem L2 Dn LB
open TL (Strip flat rungsF climb climbs tot before down)
theorem rungsF_tails (x : Nat × Nat) : ∀ k : Nat, (rungsF x (List.replicate k false)).1 = x.1
  | 0 => rfl
  | k + 1 => by
    rw [List.replicate_succ]
    show (rungsF (climb x false) _).1 = _
    rw [rungsF_tails _ k]
    rfl
theorem num_up {n m : Nat} {t : RowT} (h : TLR.within n t) (hm : n ≤ m) : TL.num kO (lineT m t) = TL.num kO (lineT n t) := by
  have e : ∀ j, TL.num kO (lineT j t) = (rungsF (1, 1) (TLR.bits j t)).1 := fun j => by
    unfold lineT
    have := TL.rungs_rev (TLR.bits j t).reverse
    rw [List.reverse_reverse] at this
    rw [this]
    rfl
  rw [e, e, bits_up h hm, TL.rungsF_app, rungsF_tails]
theorem OnL.up {n m : Nat} {t : RowT} {i : Nat} {p : RowT × RowT} (h : OnL n t i p) (hm : n ≤ m) : OnL m t i p := by
  have w1 := within_up h.w1 hm
  have w2 := within_up h.w2 hm
  have o := OnL.of (p := p) w1 w2
  obtain ⟨e1, e2⟩ := h.line
  rw [lineR_up h.w1 h.w2 hm, e1] at o
  have e3 : (locR m kO p.1 p.2).2 = (locR n kO p.1 p.2).2 := by rw [locR_up h.w1 h.w2 hm]
  rw [e3, e2] at o
  exact o
theorem pair_on_ok {n w : Nat} {t : RowT} (wt : TLR.within n t) (hw : n < 2 ^ w) (hB : (2 * t.length + 2) * (w + 2) ≤ 8800) (ht : t.length ≤ 100) {far : Nat} (hf : far < TL.num kO (lineT n t)) :
    ∃ p : RowT × RowT, mf_pair_on [.val (dRow t), .val (.int (far : Int))] = some (.val (dPair p.1 p.2), [.un, .un]) ∧ OnL n t far p ∧ p.1.length ≤ 6 * (2 * t.length + 1) ∧ p.2.length ≤ 6 * (2 * t.length + 1) := by
  obtain ⟨h0, h1, h2⟩ := lastE_nn wt
  obtain ⟨l, hl⟩ : ∃ l : Nat, lastE t = (l : Int) := ⟨(lastE t).toNat, by omega⟩
  have hln : l ≤ n := by omega
  have wl : TLR.within l t := ⟨wt.1, fun q hq => by have := h2 q hq; omega⟩
  obtain ⟨p, e, w1, w2, hat, l1, l2⟩ := pair_on_within_ok (n := l) (w := w) kO wl (by omega) (Nat.lt_of_le_of_lt hln hw) hB ht (far := far) (by rw [← num_up wl hln]; exact hf)
  have on : OnL l t far p := ⟨wl, w1, w2, by rw [← num_up wl hln]; exact hf, hat⟩
  refine ⟨p, ?_, on.up hln, l1, l2⟩
  have el := last_of_ok t
  rw [hl] at el
  have dk : dK kO = .tuple [.int 0, .int 0] := rfl
  rw [dk] at e
  unfold mf_pair_on
  generalize dPair p.1 p.2 = P at *
  generalize dRow t = R at *
  refine Ev.defR (ρ' := [.val R, .val (.int (far : Int))]) ?_
  unfold mb_pair_on
  exact Ev.ret (Ev.call (Ev.cons (Ev.call (Ev.cons (Ev.var 0) Ev.nil) el) (Ev.cons (Ev.cst _) (Ev.cons (Ev.var 0) (Ev.cons (Ev.var 1) Ev.nil)))) e)
end PR
namespace LG
open PySem L2 Dn PR LB Hs
open TL (rungsF climb tot)
def grow (L : List (Nat × Nat)) : List (Nat × Nat) := L.map (climb · true) ++ L.map (climb · false)
def growN : Nat → List (Nat × Nat) → List (Nat × Nat)
  | 0, L => L
  | k + 1, L => grow (growN k L)
def totL (L : List (Nat × Nat)) (m : Nat) : Nat := (L.map fun x => tot x m).sum
theorem range_getL {M i k : Nat} (h : (List.range M)[i]? = some k) : k = i ∧ i < M := by
  obtain ⟨h1, h2⟩ := List.getElem?_eq_some_iff.mp h
  simp at h1 h2
  exact ⟨h2.symm, h1⟩
theorem totL_grow (L : List (Nat × Nat)) (m : Nat) : totL (grow L) m = totL L (m + 1) := by
  unfold totL grow
  induction L with
  | nil => rfl
  | cons x L ih =>
    simp only [List.map_append, List.map_map, List.map_cons, List.sum_append, List.sum_cons] at ih ⊢
    have : tot x (m + 1) = tot (climb x false) m + tot (climb x true) m := rfl
    have hc : ∀ (f : Nat × Nat → Nat × Nat), (List.map ((fun x => tot x m) ∘ f) L) = List.map (fun x => tot (f x) m) L := fun f => rfl
    rw [hc, hc] at ih ⊢
    omega
theorem totL_growN : ∀ (k : Nat) (L : List (Nat × Nat)) (m : Nat), totL (growN k L) m = totL L (m + k)
  | 0, L, m => rfl
  | k + 1, L, m => by
    show totL (grow (growN k L)) m = _
    rw [totL_grow, totL_growN k]
    congr 1
    omega
theorem growN_len (k : Nat) (L : List (Nat × Nat)) : (growN k L).length = 2 ^ k * L.length := by
  induction k with
  | zero => simp [growN]
  | succ k ih =>
    simp only [growN, grow, List.length_append, List.length_map, ih, Nat.pow_succ, Nat.mul_assoc]
    rw [Nat.mul_left_comm, ← Nat.two_mul]
theorem all_step (s0 s1 s2 s4 : Sl) (L : List (Nat × Nat)) (c : Bool) {x : Sl} (hx : LC.IsL x (L.map dRung)) (hl : L.length ≤ 50000) :
    (if c then lc__law_all_1 else lc__law_all_2) [s0, s1, s2, x, s4, .un, .un] = some (.own ((L.map (climb · c)).map dRung), [s0, s1, s2, .val (.list (L.map dRung)), s4, .un, .un]) := by
  have hc : (L.map (climb · c)).map dRung = L.filterMap fun x => some (dRung (climb x c)) := by simp [List.map_map]
  rw [hc]
  have h2 : ∀ i : Int, cMul 2 i = true := fun i => LC.cMulL (by decide +kernel)
  have hv : mVar 3 [s0, s1, s2, x, s4, .un, .un] = some (.val (.list (L.map dRung)), [s0, s1, s2, .val (.list (L.map dRung)), s4, .un, .un]) := LC.varL hx rfl
  cases c
  · simp only [Bool.false_eq_true, if_false]
    unfold lc__law_all_2
    refine comp_map dRung _ L (ρ1 := [s0, s1, s2, .val (.list (L.map dRung)), s4, .un, .un]) (Ev.iS hv) rfl rfl (fun p hp => ?_) (sizeN (by omega))
    have e : dRung (climb p false) = .tuple [.int (p.1 : Int), .int ((p.2 : Int) + 2 * (p.1 : Int))] := by unfold dRung climb; simp
    rw [e]
    exact ⟨[s0, s1, s2, .val (.list (L.map dRung)), s4, .val (.int (p.1 : Int)), .val (.int (p.2 : Int))], true, [s0, s1, s2, .val (.list (L.map dRung)), s4, .val (.int (p.1 : Int)), .val (.int (p.2 : Int))], Ev.gT2, rfl, .inr ⟨rfl, .val (.tuple [.int (p.1 : Int), .int ((p.2 : Int) + 2 * (p.1 : Int))]), _, _, Ev.tup (Ev.cons (Ev.var 5) (Ev.cons (Ev.bin (Ev.var 6) (Ev.bin (Ev.cst _) (Ev.var 5) (Ev.mul (h2 _))) rfl) Ev.nil)), rfl, rfl, rfl⟩⟩
  · simp only [if_true]
    unfold lc__law_all_1
    refine comp_map dRung _ L (ρ1 := [s0, s1, s2, .val (.list (L.map dRung)), s4, .un, .un]) (Ev.iS hv) rfl rfl (fun p hp => ?_) (sizeN (by omega))
    have e : dRung (climb p true) = .tuple [.int ((p.1 : Int) + 2 * (p.2 : Int)), .int (p.2 : Int)] := by unfold dRung climb; simp
    rw [e]
    exact ⟨[s0, s1, s2, .val (.list (L.map dRung)), s4, .val (.int (p.1 : Int)), .val (.int (p.2 : Int))], true, [s0, s1, s2, .val (.list (L.map dRung)), s4, .val (.int (p.1 : Int)), .val (.int (p.2 : Int))], Ev.gT2, rfl, .inr ⟨rfl, .val (.tuple [.int ((p.1 : Int) + 2 * (p.2 : Int)), .int (p.2 : Int)]), _, _, Ev.tup (Ev.cons (Ev.bin (Ev.var 5) (Ev.bin (Ev.cst _) (Ev.var 6) (Ev.mul (h2 _))) rfl) (Ev.cons (Ev.var 6) Ev.nil)), rfl, rfl, rfl⟩⟩
theorem all_ok (x : Nat × Nat) (m : Nat) (hm : m ≤ 8) : mf__law_all [.val (.int (x.1 : Int)), .val (.int (x.2 : Int)), .val (.int (m : Int))] = some (.val (.int ((tot x m : Nat) : Int)), [.un, .un, .un]) := by
  have h8 : ∀ k, k ≤ 8 → (growN k [x]).length ≤ 256 := fun k hk => by
    rw [growN_len]
    have : 2 ^ k ≤ 2 ^ 8 := Nat.pow_le_pow_right (by omega) hk
    simp; omega
  have key := loop_count (g := mgN (fun _ => false) 4) (b := lb__law_all_3) (fun k : Nat => PyData.int (0 + (k : Int)))
    (fun i ρ => ∃ (y t4 : Sl), ρ = [.val (.int (x.1 : Int)), .val (.int (x.2 : Int)), .val (.int (m : Int)), y, t4, .un, .un] ∧ LC.IsL y ((growN i [x]).map dRung)) (List.range m) 0
    [.val (.int (x.1 : Int)), .val (.int (x.2 : Int)), .val (.int (m : Int)), .own [dRung x], .un, .un, .un] (fun i k ρ hk hW => by
      obtain ⟨y, t4, rfl, hy⟩ := hW
      obtain ⟨rfl, hi⟩ := range_getL hk
      rw [Nat.zero_add] at hy ⊢
      have hl := h8 k (by omega)
      have a1 := all_step (.val (.int (x.1 : Int))) (.val (.int (x.2 : Int))) (.val (.int (m : Int))) (.val (.int (0 + (k : Int)))) (growN k [x]) true hy (by omega)
      have a2 := all_step (.val (.int (x.1 : Int))) (.val (.int (x.2 : Int))) (.val (.int (m : Int))) (.val (.int (0 + (k : Int)))) (growN k [x]) false (.inl rfl) (by omega)
      simp only [if_true, Bool.false_eq_true, if_false] at a1 a2
      have eA : fAdd (.own (((growN k [x]).map (climb · true)).map dRung)) (.own (((growN k [x]).map (climb · false)).map dRung)) = some (.own ((growN (k + 1) [x]).map dRung)) := by
        have hz : (growN k [x]).length + (growN k [x]).length ≤ sizeLine := sizeN (by omega)
        show _ = some (Sl.own ((grow (growN k [x])).map dRung))
        unfold grow
        rw [List.map_append]
        simp [hz]
      refine ⟨_, [.val (.int (x.1 : Int)), .val (.int (x.2 : Int)), .val (.int (m : Int)), .own ((growN (k + 1) [x]).map dRung), .val (.int (0 + (k : Int))), .un, .un], Ev.gN (h := rfl), .inl ?_, _, _, rfl, .inr rfl⟩
      unfold lb__law_all_3
      exact Ev.asg (Ev.bin a1 a2 eA)) ⟨.own [dRung x], .un, rfl, .inr rfl⟩
  obtain ⟨ρ', e, y, t4, rfl, hy⟩ := key
  rw [Nat.zero_add, List.length_range] at hy
  have hl := h8 m hm
  have hsum : totL (growN m [x]) 0 = tot x m := by
    rw [totL_growN]
    simp [totL]
  have ec : lc__law_all_4 [.val (.int (x.1 : Int)), .val (.int (x.2 : Int)), .val (.int (m : Int)), y, t4, .un, .un] = some (.own ((growN m [x]).map fun p => PyData.int (p.1 : Int)), [.val (.int (x.1 : Int)), .val (.int (x.2 : Int)), .val (.int (m : Int)), .val (.list ((growN m [x]).map dRung)), t4, .un, .un]) := by
    have hx : (growN m [x]).map (fun p => PyData.int (p.1 : Int)) = (growN m [x]).filterMap fun p => some (PyData.int (p.1 : Int)) := by simp
    rw [hx]
    have hv : mVar 3 [.val (.int (x.1 : Int)), .val (.int (x.2 : Int)), .val (.int (m : Int)), y, t4, .un, .un] = some (.val (.list ((growN m [x]).map dRung)), [.val (.int (x.1 : Int)), .val (.int (x.2 : Int)), .val (.int (m : Int)), .val (.list ((growN m [x]).map dRung)), t4, .un, .un]) := LC.varL hy rfl
    unfold lc__law_all_4
    refine comp_map dRung _ (growN m [x]) (ρ1 := [.val (.int (x.1 : Int)), .val (.int (x.2 : Int)), .val (.int (m : Int)), .val (.list ((growN m [x]).map dRung)), t4, .un, .un]) (Ev.iS hv) rfl rfl (fun p hp => ?_) (sizeN (by omega))
    exact ⟨[.val (.int (x.1 : Int)), .val (.int (x.2 : Int)), .val (.int (m : Int)), .val (.list ((growN m [x]).map dRung)), t4, .val (.int (p.1 : Int)), .val (.int (p.2 : Int))], true, [.val (.int (x.1 : Int)), .val (.int (x.2 : Int)), .val (.int (m : Int)), .val (.list ((growN m [x]).map dRung)), t4, .val (.int (p.1 : Int)), .val (.int (p.2 : Int))], Ev.gT2, rfl, .inr ⟨rfl, .val (.int (p.1 : Int)), _, _, Ev.var 5, rfl, rfl, rfl⟩⟩
  have es : fSum [.own ((growN m [x]).map fun p => PyData.int (p.1 : Int))] = some (.val (.int ((tot x m : Nat) : Int))) := by
    have h := intsOf_map ((growN m [x]).map fun p => (p.1 : Int))
    rw [List.map_map] at h
    have h' : lstI (.own ((growN m [x]).map fun p => PyData.int (p.1 : Int))) = some ((growN m [x]).map fun p => (p.1 : Int)) := h
    show (lstI (.own ((growN m [x]).map fun p => PyData.int (p.1 : Int)))).map _ = _
    rw [h']
    have hc : ∀ L : List (Nat × Nat), (L.map fun p => (p.1 : Int)).sum = ((totL L 0 : Nat) : Int) := by
      intro L
      induction L with
      | nil => rfl
      | cons p L ih =>
        have : totL (p :: L) 0 = p.1 + totL L 0 := by simp [totL, tot]
        rw [this, List.map_cons, List.sum_cons, ih]
        push_cast; rfl
    rw [← hsum, ← hc]
    rfl
  have ed : dRung x = .tuple [.int (x.1 : Int), .int (x.2 : Int)] := rfl
  unfold mf__law_all
  refine Ev.defR (ρ' := [.val (.int (x.1 : Int)), .val (.int (x.2 : Int)), .val (.int (m : Int)), .val (.list ((growN m [x]).map dRung)), t4, .un, .un]) ?_
  unfold mb__law_all
  refine Ev.seq (Ev.asg (Ev.lst (Ev.cons (Ev.tup (Ev.cons (Ev.var 0) (Ev.cons (Ev.var 1) Ev.nil))) Ev.nil))) (Ev.seq (Ev.forS' (miR1_of (n := m) (Ev.cons (Ev.var 2) Ev.nil) (by omega)) e) (Ev.ret (Ev.fn (Ev.cons ec Ev.nil) es)))
end LG
namespace LF
open PySem L2 Dn PR LB
def JF (m : Int) (j : List D) : Prop := ∃ a b c : Int, j = [.int a, .int b, .int c] ∧ 0 ≤ a ∧ 0 ≤ b ∧ b ≤ 10 ^ 63 ∧ 0 ≤ c ∧ c ≤ m
theorem JF.mono {m n : Int} {j : List D} (h : JF m j) (hm : m ≤ n) : JF n j := by
  obtain ⟨a, b, c, e, h1, h2, h3, h4, h5⟩ := h
  exact ⟨a, b, c, e, h1, h2, h3, h4, by omega⟩
theorem smB {b : Int} (h : b ≤ 10 ^ 64) : Sm b := by
  unfold Sm
  have : (10 : Int) ^ 64 < 2 ^ 400 := by decide +kernel
  omega
theorem modI {a n : Int} (h : 0 < n) : (fI cMod fun i j => i % j) (.val (.int a)) (.val (.int n)) = some (.val (.int (a % n))) := if_pos (cMod_ok h)
theorem divI {a n : Int} (h : 0 < n) (h2 : Sm n) : (fI cDiv fun i j => i / j) (.val (.int a)) (.val (.int n)) = some (.val (.int (a / n))) := if_pos (cDiv_ok h h2)
theorem cMulR {a b : Int} (h : b.natAbs.log2 < 60) : cMul a b = true := by
  unfold cMul
  rw [decide_eq_true h, Bool.or_true, Bool.or_true]
end LF
namespace PR
open PySem L2 Dn LB
theorem OnL.kept {n : Nat} {t : RowT} {i : Nat} {p : RowT × RowT} (h : OnL n t i p) : addR p.1 + addR p.2 - cnt p.1 * cnt p.2 = addR t := by
  rw [← kept_bits h.w1 h.w2, h.at']
  have h2 : TL.kept (TL.pairAt kO (lineT n t) i) = TL.sumA 0 (lineT n t).reverse := TL.kept_line (lineT n t) i h.lt
  rw [h2]
  unfold lineT
  rw [List.reverse_reverse]
  exact TLR.sum_bits h.wt
theorem rungsR_num (n : Nat) (t : RowT) : (rungsR t n).1 = TL.num kO (lineT n t) := by
  unfold rungsR lineT
  have := TL.rungs_rev (TLR.bits n t).reverse
  rw [List.reverse_reverse] at this
  rw [this]
  rfl
theorem least_n {n : Nat} {t : RowT} (wt : TLR.within n t) : ∃ l : Nat, lastE t = (l : Int) ∧ l ≤ n ∧ TLR.within l t := by
  obtain ⟨h0, h1, h2⟩ := lastE_nn wt
  exact ⟨(lastE t).toNat, by omega, by omega, ⟨wt.1, fun q hq => by have := h2 q hq; omega⟩⟩
theorem way_up_ok {w n : Nat} {t : RowT} (wt : TLR.within n t) (hl : t.length ≤ 1000) (hw : n < 2 ^ w) (hB : w ≤ 400) : mf_way_up [.val (dRow t)] = some (.val (.int ((TL.num kO (lineT n t) : Nat) - 1 : Int)), [.un]) := by
  obtain ⟨l, hlE, hln, wl⟩ := least_n wt
  have e1 := last_of_ok t
  have e2 := rungs_within_ok wl hl (by omega) (Nat.lt_of_le_of_lt hln hw) hB
  rw [hlE] at e1
  have hn : (rungsR t l).1 = TL.num kO (lineT n t) := by rw [rungsR_num, num_up wl hln]
  have ed : dRung (rungsR t l) = .tuple [.int ((TL.num kO (lineT n t) : Nat) : Int), .int ((rungsR t l).2 : Int)] := by unfold dRung; rw [hn]
  rw [ed] at e2
  have a0 : ∀ (a b : D), atI [a, b] 0 = some a := fun _ _ => rfl
  unfold mf_way_up
  generalize dRow t = T at *
  refine Ev.defR (ρ' := [.val T]) ?_
  unfold mb_way_up
  exact Ev.ret (Ev.bin (Ev.ixT (Ev.call (Ev.cons (Ev.var 0) (Ev.cons (Ev.call (Ev.cons (Ev.var 0) Ev.nil) e1) Ev.nil)) e2) (Ev.cst _) (a0 _ _)) (Ev.cst _) Ev.sub)
end PR
namespace Ev
open PySem L2 Dn
variable {ρ ρ1 ρ2 ρ3 : List Sl} {x y z r : Sl} {xs : List Sl} {a b : MX} {c d : MT} {A B : MA} {s t : MS} {o : Option Out}
theorem sl {l h : MO} {lo hi : Option Int} (ha : a ρ = some (x, ρ1)) (hl : l ρ1 = some (lo, ρ2)) (hh : h ρ2 = some (hi, ρ3)) (hf : fSl x lo hi = some z) : mSl a l h ρ = some (z, ρ3) := by
  unfold mSl; rw [ha]; simp only; rw [hl]; simp only; rw [hh]; simp only; rw [hf]
theorem oN : mON ρ = some (none, ρ) := rfl
theorem oS {k : Int} (h : b ρ = some (.val (.int k), ρ1)) : mOS b ρ = some (some k, ρ1) := by
  unfold mOS; rw [h]
end Ev
namespace Ev
open PySem L2 Dn
variable {ρ ρ1 ρ2 ρ3 : List Sl} {a b c : MX}
theorem ch {p p' : Int → Int → Bool} {i j k : Int} (ha : a ρ = some (.val (.int i), ρ1)) (hb : b ρ1 = some (.val (.int j), ρ2)) (hc : c ρ2 = some (.val (.int k), ρ3)) (hp : p i j = true) {z : Bool} (hz : p' j k = z) : mChain p p' a b c ρ = some (.val (.bool z), ρ3) := by
  unfold mChain; rw [ha]; simp only; rw [hb]; simp only; rw [if_pos hp, hc]; simp only; rw [hz]
end Ev
namespace Ev
open PySem L2 Dn
variable {ρ ρ1 : List Sl} {c : MT}
theorem tNot_f (h : c ρ = some (true, ρ1)) : mTNot c ρ = some (false, ρ1) := tNot h
end Ev
namespace Ev
open PySem L2 Dn
variable {ρ ρ1 ρ2 ρ3 : List Sl} {a b c : MX}
end Ev
namespace PR
open PySem L2 Dn LB LF
open TL (Strip Layers)
def numK (n : Nat) (k : TL.Kind) (t : RowT) : Nat := TL.num k (lineT n t)
structure OnK (n : Nat) (k : TL.Kind) (t : RowT) (i : Nat) (p : RowT × RowT) : Prop where
  wt : TLR.within n t
  w1 : TLR.within n p.1
  w2 : TLR.within n p.2
  lt : i < numK n k t
  at' : (TLR.bits n p.1, TLR.bits n p.2) = TL.pairAt k (lineT n t) i
theorem loc_lineK {n : Nat} {k : TL.Kind} {r s t : RowT} {far : Nat} (wt : TLR.within n t) (h : locR n k r s = (lineT n t, far)) : lineR n k r s = t ∧ (locR n k r s).2 = far := by
  refine ⟨?_, by rw [h]⟩
  unfold lineR
  rw [h]
  show TLR.rowB 0 ((TLR.bits n t).reverse).reverse = t
  rw [List.reverse_reverse]
  exact TLR.rowB_bits wt
theorem OnK.loc {n : Nat} {k : TL.Kind} {t : RowT} {i : Nat} {p : RowT × RowT} (h : OnK n k t i p) : locR n k p.1 p.2 = (lineT n t, i) := by
  unfold locR
  rw [h.at']
  have := TL.loc_pairAt (lineT n t) k i h.lt
  rw [lineT_len] at this
  exact this
theorem OnK.line {n : Nat} {k : TL.Kind} {t : RowT} {i : Nat} {p : RowT × RowT} (h : OnK n k t i p) : lineR n k p.1 p.2 = t ∧ (locR n k p.1 p.2).2 = i := loc_lineK h.wt h.loc
theorem OnK.of {n : Nat} (k : TL.Kind) {p : RowT × RowT} (h1 : TLR.within n p.1) (h2 : TLR.within n p.2) : OnK n k (lineR n k p.1 p.2) (locR n k p.1 p.2).2 p := by
  obtain ⟨w, b⟩ := line_within n k p.1 p.2
  have hl : lineT n (lineR n k p.1 p.2) = (locR n k p.1 p.2).1 := by unfold lineT; rw [b, List.reverse_reverse]
  have h := TL.pairAt_loc n k (TLR.bits n p.1, TLR.bits n p.2) (by simp [TLR.bits_len]) (by simp [TLR.bits_len])
  refine ⟨w, h1, h2, ?_, ?_⟩
  · unfold numK; rw [hl]; exact h.2
  · rw [hl]; exact h.1.symm
theorem OnK.eq {n : Nat} {k : TL.Kind} {t : RowT} {i : Nat} {p q : RowT × RowT} (h : OnK n k t i p) (g : OnK n k t i q) : p = q := bits_pair h.w1 h.w2 g.w1 g.w2 (by rw [h.at', g.at'])
def pwR (n : Nat) (x : Int) : Int := if x ≤ n then x else 0
def turnK (n : Nat) (k : TL.Kind) (one : Bool) (p : RowT × RowT) : RowT × RowT := if one then (flipR p.1 (pwR n (cnt p.2 + bI k.1)), p.2) else (p.1, flipR p.2 (pwR n (cnt p.1 + bI k.2)))
theorem bI_n (c : Bool) : bI c = ((TL.b2n c : Nat) : Int) := by cases c <;> rfl
theorem tog_out (p : Nat) (A : List Bool) (h : A.length < p) : TL.tog p A = A := by
  apply List.ext_getElem?
  intro i
  rw [TLR.tog_get p A i (by omega)]
  split
  · rw [List.getElem?_eq_none (by omega)]; rfl
  · rfl
theorem flip_pw {n : Nat} {r s : RowT} (hr : TLR.within n r) (hs : TLR.within n s) (c : Bool) :
    TLR.within n (flipR r (pwR n (cnt s + bI c))) ∧ TLR.bits n (flipR r (pwR n (cnt s + bI c))) = TL.tog (TL.hd (TLR.bits n s) + TL.b2n c) (TLR.bits n r) := by
  obtain ⟨c1, l1⟩ := cnt_nat hs
  rw [c1, bI_n]
  unfold pwR
  by_cases h : ((TL.hd (TLR.bits n s) : Nat) : Int) + ((TL.b2n c : Nat) : Int) ≤ n
  · rw [if_pos h]
    have e : ((TL.hd (TLR.bits n s) : Nat) : Int) + ((TL.b2n c : Nat) : Int) = ((TL.hd (TLR.bits n s) + TL.b2n c : Nat) : Int) := by omega
    rw [e]
    exact ⟨TLR.flip_within hr (by omega) (by omega), TLR.bits_flip hr (by omega)⟩
  · rw [if_neg h, TLR.flip_zero r hr.1]
    refine ⟨hr, (tog_out _ _ ?_).symm⟩
    rw [TLR.bits_len]
    omega
theorem turnK_bits {n : Nat} {p : RowT × RowT} (k : TL.Kind) (h1 : TLR.within n p.1) (h2 : TLR.within n p.2) (one : Bool) :
    TLR.within n (turnK n k one p).1 ∧ TLR.within n (turnK n k one p).2 ∧ (TLR.bits n (turnK n k one p).1, TLR.bits n (turnK n k one p).2) = TL.turn one k (TLR.bits n p.1, TLR.bits n p.2) := by
  cases one
  · obtain ⟨a, b⟩ := flip_pw h2 h1 k.2
    exact ⟨h1, a, by simp only [turnK, Bool.false_eq_true, if_false]; rw [b]; rfl⟩
  · obtain ⟨a, b⟩ := flip_pw h1 h2 k.1
    exact ⟨a, h2, by simp only [turnK, if_true]; rw [b]; rfl⟩
theorem OnK.turn {n : Nat} {k : TL.Kind} {t : RowT} {i : Nat} {p : RowT × RowT} (h : OnK n k t i p) (one : Bool) :
    (one = TL.lead k i → (i + 1 < numK n k t → OnK n k t (i + 1) (turnK n k one p)) ∧ (i + 1 = numK n k t → turnK n k one p = p)) ∧
    (one ≠ TL.lead k i → (0 < i → OnK n k t (i - 1) (turnK n k one p)) ∧ (i = 0 → turnK n k one p = p)) := by
  obtain ⟨u1, u2, u3⟩ := turnK_bits k h.w1 h.w2 one
  have on := TL.on_line (lineT n t) k i h.lt
  have hl := TL.pairAt_len (lineT n t) k i
  rw [h.at'] at u3
  refine ⟨fun e => ⟨fun hi => ?_, fun hi => ?_⟩, fun e => ⟨fun hi => ?_, fun hi => ?_⟩⟩
  · subst e
    exact ⟨h.wt, u1, u2, hi, by rw [u3]; exact (on.on hi).2⟩
  · subst e
    rw [TL.turn_stuck (hl.1.trans hl.2.symm) (on.out hi)] at u3
    exact bits_pair u1 u2 h.w1 h.w2 (by rw [u3, h.at'])
  · have e' : one = !TL.lead k i := by cases one <;> cases hh : TL.lead k i <;> simp_all
    subst e'
    have hlt := h.lt
    exact ⟨h.wt, u1, u2, by omega, by rw [u3]; exact (on.back hi).2⟩
  · have e' : one = !TL.lead k i := by cases one <;> cases hh : TL.lead k i <;> simp_all
    subst e'
    rw [TL.turn_stuck (hl.1.trans hl.2.symm) (on.first hi)] at u3
    exact bits_pair u1 u2 h.w1 h.w2 (by rw [u3, h.at'])
end PR
namespace LG
open PySem L2 Dn PR LB LF
def single (E : List Int) : List Int := sortI (E.filter fun e => E.count e == 1)
end LG
namespace LG
open PySem L2 Dn PR LB Hs
def POK (m : Int) (j : List D) : Prop := ∃ a b c : Int, j = [.int a, .int b, .int c] ∧ 0 ≤ a ∧ 0 ≤ b ∧ b < 2147483629 ∧ 0 ≤ c ∧ c ≤ m
theorem POK.mono {m n : Int} {j : List D} (h : POK m j) (hm : m ≤ n) : POK n j := by
  obtain ⟨a, b, c, e, h1, h2, h3, h4, h5⟩ := h
  exact ⟨a, b, c, e, h1, h2, h3, h4, by omega⟩
theorem cPow2_ok {b : Int} (h0 : 0 ≤ b) (h : Sm b) : cPow b 2 = true := by
  have := log2_small h0 h (by decide)
  simp only [cPow, Bool.and_eq_true, decide_eq_true_eq]
  refine ⟨by omega, by decide, by omega⟩
theorem sm13 {b : Int} (h : b ≤ 10 ^ 13) : Sm b := by
  unfold Sm
  have : (10 : Int) ^ 13 < 2 ^ 400 := by decide +kernel
  omega
theorem modI {a n : Int} (h : 0 < n) : (fI cMod fun i j => i % j) (.val (.int a)) (.val (.int n)) = some (.val (.int (a % n))) := if_pos (cMod_ok h)
theorem divI {a n : Int} (h : 0 < n) (h2 : Sm n) : (fI cDiv fun i j => i / j) (.val (.int a)) (.val (.int n)) = some (.val (.int (a / n))) := if_pos (cDiv_ok h h2)
theorem powI {a : Int} (h0 : 0 ≤ a) (h : Sm a) : (fI cPow fun i j => i ^ j.toNat) (.val (.int a)) (.val (.int 2)) = some (.val (.int (a ^ 2))) := if_pos (cPow2_ok h0 h)
theorem draw_ok {m n : Int} {j : List D} (hm : m < 10 ^ 5) (hn : 0 < n) (hn2 : n ≤ 10 ^ 8) (h : POK m j) :
    ∃ v j', mf__law_draw [.own j, .val (.int n)] = some (.val (.int v), [.own j', .un]) ∧ 0 ≤ v ∧ v < n ∧ POK (m + 1) j' := by
  obtain ⟨a, b, c, rfl, h1, h2, h3, h4, h5⟩ := h
  have hsq : (c + 1) * (c + 1) ≤ 10 ^ 5 * 10 ^ 5 := Int.mul_le_mul (by omega) (by omega) (by omega) (by decide)
  have hsq0 : 0 ≤ (c + 1) * (c + 1) := Int.mul_nonneg (by omega) (by omega)
  have h7 : 7 * (c + 1) * (c + 1) = 7 * ((c + 1) * (c + 1)) := Int.mul_assoc _ _ _
  have m1 : fMul (.val (.int 7)) (.val (.int (c + 1))) = some (.val (.int (7 * (c + 1)))) := Ev.mul (cMul_ok' (by omega) (sm13 (by omega)) (by omega) (sm13 (by omega)))
  have m2 : fMul (.val (.int (7 * (c + 1)))) (.val (.int (c + 1))) = some (.val (.int (7 * (c + 1) * (c + 1)))) := Ev.mul (cMul_ok' (by omega) (sm13 (by omega)) (by omega) (sm13 (by omega)))
  have hb0 : 0 ≤ b + 7 * (c + 1) * (c + 1) + 1 := by omega
  have hb1 : b + 7 * (c + 1) * (c + 1) + 1 ≤ 10 ^ 13 := by omega
  have p1 := powI hb0 (sm13 hb1)
  have st0 : 0 ≤ (b + 7 * (c + 1) * (c + 1) + 1) ^ 2 % 2147483587 := Int.emod_nonneg _ (by omega)
  have st1 : (b + 7 * (c + 1) * (c + 1) + 1) ^ 2 % 2147483587 < 2147483587 := Int.emod_lt_of_pos _ (by omega)
  have q1 : (fI cMod fun i j => i % j) (.val (.int ((b + 7 * (c + 1) * (c + 1) + 1) ^ 2))) (.val (.int 2147483587)) = some (.val (.int ((b + 7 * (c + 1) * (c + 1) + 1) ^ 2 % 2147483587))) := modI (by omega)
  have a1 : fAdd (.val (.int b)) (.val (.int (7 * (c + 1) * (c + 1)))) = some (.val (.int (b + 7 * (c + 1) * (c + 1)))) := rfl
  generalize (b + 7 * (c + 1) * (c + 1) + 1) ^ 2 % 2147483587 = s at *
  have m3 : fMul (.val (.int s)) (.val (.int 69621)) = some (.val (.int (s * 69621))) := Ev.mul (cMul_ok' st0 (sm13 (by omega)) (by omega) (sm13 (by omega)))
  have m4 : fMul (.val (.int 40692)) (.val (.int (c + 1))) = some (.val (.int (40692 * (c + 1)))) := Ev.mul (cMul_ok' (by omega) (sm13 (by omega)) (by omega) (sm13 (by omega)))
  have q2 : (fI cMod fun i j => i % j) (.val (.int (s * 69621 + 40692 * (c + 1)))) (.val (.int 2147483629)) = some (.val (.int ((s * 69621 + 40692 * (c + 1)) % 2147483629))) := modI (by omega)
  have u0 : 0 ≤ (s * 69621 + 40692 * (c + 1)) % 2147483629 := Int.emod_nonneg _ (by omega)
  have u1 : (s * 69621 + 40692 * (c + 1)) % 2147483629 < 2147483629 := Int.emod_lt_of_pos _ (by omega)
  generalize (s * 69621 + 40692 * (c + 1)) % 2147483629 = u at *
  have q3 : (fI cDiv fun i j => i / j) (.val (.int u)) (.val (.int 64)) = some (.val (.int (u / 64))) := divI (by omega) (sm13 (by omega))
  have q4 : (fI cMod fun i j => i % j) (.val (.int (u / 64))) (.val (.int n)) = some (.val (.int (u / 64 % n))) := modI hn
  have q5 : (fI cMod fun i j => i % j) (.val (.int a)) (.val (.int n)) = some (.val (.int (a % n))) := modI hn
  have q6 : (fI cDiv fun i j => i / j) (.val (.int a)) (.val (.int n)) = some (.val (.int (a / n))) := divI hn (sm13 (by omega))
  have bb : (fB fun i j => decide (j < i)) (.val (.int a)) (.val (.int 0)) = some (.val (.bool (decide (0 < a)))) := rfl
  have i0 : ∀ x y z : D, atI [x, y, z] 0 = some x := fun _ _ _ => rfl
  have i1 : ∀ x y z : D, atI [x, y, z] 1 = some y := fun _ _ _ => rfl
  have i2 : ∀ x y z : D, atI [x, y, z] 2 = some z := fun _ _ _ => rfl
  have n0 : ∀ x y z : D, ixN [x, y, z].length 0 = some 0 := fun _ _ _ => rfl
  have n1 : ∀ x y z : D, ixN [x, y, z].length 1 = some 1 := fun _ _ _ => rfl
  have n2 : ∀ x y z : D, ixN [x, y, z].length 2 = some 2 := fun _ _ _ => rfl
  unfold mf__law_draw
  by_cases ha : 0 < a
  · rw [decide_eq_true ha] at bb
    refine ⟨a % n, [.int (a / n), .int u, .int (c + 1)], ?_, Int.emod_nonneg _ (by omega), Int.emod_lt_of_pos _ hn, ⟨a / n, u, c + 1, rfl, Int.ediv_nonneg h1 (by omega), u0, u1, by omega, by omega⟩⟩
    refine Ev.defR (ρ' := [.own [.int (a / n), .int u, .int (c + 1)], .val (.int n), .val (.int s), .val (.int (a % n))]) ?_
    unfold mb__law_draw
    exact Ev.seq (Ev.setO (Ev.bin (Ev.ixO (Ev.cst _) (i2 _ _ _)) (Ev.cst _) rfl) (Ev.cst _) (n2 _ _ _))
      (Ev.seq (Ev.asg (Ev.bin (Ev.bin (Ev.bin (Ev.bin (Ev.ixO (Ev.cst _) (i1 _ _ _)) (Ev.bin (Ev.bin (Ev.cst _) (Ev.ixO (Ev.cst _) (i2 _ _ _)) m1) (Ev.ixO (Ev.cst _) (i2 _ _ _)) m2) a1) (Ev.cst _) rfl) (Ev.cst _) p1) (Ev.cst _) q1))
      (Ev.seq (Ev.setO (Ev.bin (Ev.bin (Ev.bin (Ev.var 2) (Ev.cst _) m3) (Ev.bin (Ev.cst _) (Ev.ixO (Ev.cst _) (i2 _ _ _)) m4) rfl) (Ev.cst _) q2) (Ev.cst _) (n1 _ _ _))
      (Ev.seq (Ev.asg (Ev.bin (Ev.bin (Ev.ixO (Ev.cst _) (i1 _ _ _)) (Ev.cst _) q3) (Ev.var 1) q4))
      (Ev.seq (Ev.ifS_t (Ev.tB (Ev.bin (Ev.ixO (Ev.cst _) (i0 _ _ _)) (Ev.cst _) bb)) (Ev.seq (Ev.asg (Ev.bin (Ev.ixO (Ev.cst _) (i0 _ _ _)) (Ev.var 1) q5)) (Ev.setO (Ev.bin (Ev.ixO (Ev.cst _) (i0 _ _ _)) (Ev.var 1) q6) (Ev.cst _) (n0 _ _ _))))
      (Ev.ret (Ev.var 3))))))
  · rw [decide_eq_false ha] at bb
    refine ⟨u / 64 % n, [.int a, .int u, .int (c + 1)], ?_, Int.emod_nonneg _ (by omega), Int.emod_lt_of_pos _ hn, ⟨a, u, c + 1, rfl, h1, u0, u1, by omega, by omega⟩⟩
    refine Ev.defR (ρ' := [.own [.int a, .int u, .int (c + 1)], .val (.int n), .val (.int s), .val (.int (u / 64 % n))]) ?_
    unfold mb__law_draw
    exact Ev.seq (Ev.setO (Ev.bin (Ev.ixO (Ev.cst _) (i2 _ _ _)) (Ev.cst _) rfl) (Ev.cst _) (n2 _ _ _))
      (Ev.seq (Ev.asg (Ev.bin (Ev.bin (Ev.bin (Ev.bin (Ev.ixO (Ev.cst _) (i1 _ _ _)) (Ev.bin (Ev.bin (Ev.cst _) (Ev.ixO (Ev.cst _) (i2 _ _ _)) m1) (Ev.ixO (Ev.cst _) (i2 _ _ _)) m2) a1) (Ev.cst _) rfl) (Ev.cst _) p1) (Ev.cst _) q1))
      (Ev.seq (Ev.setO (Ev.bin (Ev.bin (Ev.bin (Ev.var 2) (Ev.cst _) m3) (Ev.bin (Ev.cst _) (Ev.ixO (Ev.cst _) (i2 _ _ _)) m4) rfl) (Ev.cst _) q2) (Ev.cst _) (n1 _ _ _))
      (Ev.seq (Ev.asg (Ev.bin (Ev.bin (Ev.ixO (Ev.cst _) (i1 _ _ _)) (Ev.cst _) q3) (Ev.var 1) q4))
      (Ev.seq (Ev.ifS_f (Ev.tB (Ev.bin (Ev.ixO (Ev.cst _) (i0 _ _ _)) (Ev.cst _) bb)) Ev.next)
      (Ev.ret (Ev.var 3))))))
end LG
namespace LE
open PySem L2 Dn PR LB
open LC (pw_ok pw37 p37 sm_lit cMulR cMulL)
def BOK (m : Int) (j : List D) : Prop := ∃ a b c : Int, j = [.int a, .int b, .int c] ∧ 0 ≤ a ∧ 0 ≤ b ∧ b ≤ tenP 38 ∧ 0 ≤ c ∧ c ≤ m
theorem BOK.mono {m n : Int} {j : List D} (h : BOK m j) (hm : m ≤ n) : BOK n j := by
  obtain ⟨a, b, c, e, h1, h2, h3, h4, h5⟩ := h
  exact ⟨a, b, c, e, h1, h2, h3, h4, by omega⟩
theorem s38 : Sm (tenP 38) := by unfold Sm tenP; decide +kernel
theorem l37 : (10 : Int) ^ 37 + 43 ≤ tenP 38 := by unfold tenP; decide +kernel
theorem mix_ok (a b c : Int) (hb : 0 ≤ b) (hb2 : b ≤ tenP 38) : mf__law_mix [.own [.int a, .int b, .int c]] = some (.val .none, [.own [.int a, .int ((b * b + 69069 * b + c) % (10 ^ 37 + 43)), .int (c + 2)]]) := by
  have hs : Sm b := Int.lt_of_le_of_lt hb2 s38
  have hc1 : cMul b b = true := cMul_ok' hb hs hb hs
  have hc2 : cMul 69069 b = true := cMulL (by decide +kernel)
  have hmo : ∀ i, cMod i (10 ^ 37 + 43) = true := fun i => cMod_ok p37
  have e37 := fun ρ => pw_ok pw37 ρ
  have t37 : (37 : Int).toNat = 37 := rfl
  rw [t37] at e37
  unfold mf__law_mix mb__law_mix
  generalize (10 : Int) ^ 37 = X at e37 hmo ⊢
  generalize mBin (fI cPow fun i j => i ^ j.toNat) (mC (.int 10)) (mC (.int 37)) = M37 at e37 ⊢
  simp [atI_0, atI_1', atI_2, hc1, hc2, hmo, e37, ix0, ix1, ix2, -cMod, -cMul]
theorem draw_ok {m n : Int} {j : List D} (hm : m < 10 ^ 15) (hn : 0 < n) (hn2 : Sm n) (h : BOK m j) :
    ∃ v j', mf__law_draw [.own j, .val (.int n)] = some (.val (.int v), [.own j', .un]) ∧ 0 ≤ v ∧ v < n ∧ BOK (m + 2) j' := by
  obtain ⟨a, b, c, rfl, h1, h2, h3, h4, h5⟩ := h
  by_cases ha : 0 < a
  · refine ⟨a % n, [.int (a / n), .int b, .int c], ?_, Int.emod_nonneg _ (by omega), Int.emod_lt_of_pos _ hn, ⟨a / n, b, c, rfl, Int.ediv_nonneg h1 (by omega), h2, h3, h4, by omega⟩⟩
    simp [mf__law_draw, mb__law_draw, atI_0, ha, cMod_ok hn, cDiv_ok hn hn2, ix0, -cMod, -cDiv]
  · have e := mix_ok a b c h2 h3
    have hu0 : 0 ≤ (b * b + 69069 * b + c) % (10 ^ 37 + 43) := Int.emod_nonneg _ (Int.ne_of_gt p37)
    have hu1 : (b * b + 69069 * b + c) % (10 ^ 37 + 43) < 10 ^ 37 + 43 := Int.emod_lt_of_pos _ p37
    have hl := l37
    have e9 : ∀ ρ, mBin (fI cPow fun i j => i ^ j.toNat) (mC (.int 10)) (mC (.int 9)) ρ = some (.val (.int (10 ^ 9)), ρ) := fun ρ => pw_ok (by decide +kernel) ρ
    have hdi : ∀ i : Int, cDiv i (10 ^ 9) = true := fun i => cDiv_ok (by decide) (by unfold Sm; decide +kernel)
    have hmo : ∀ i : Int, cMod i n = true := fun i => cMod_ok hn
    generalize (b * b + 69069 * b + c) % (10 ^ 37 + 43) = u at e hu0 hu1
    refine ⟨u / 10 ^ 9 % n, [.int a, .int u, .int (c + 2)], ?_, Int.emod_nonneg _ (by omega), Int.emod_lt_of_pos _ hn, ⟨a, u, c + 2, rfl, h1, hu0, by omega, by omega, by omega⟩⟩
    unfold mf__law_draw mb__law_draw
    generalize mBin (fI cPow fun i j => i ^ j.toNat) (mC (.int 10)) (mC (.int 9)) = M9 at e9 ⊢
    generalize (10 : Int) ^ 9 = X at e9 hdi ⊢
    simp [atI_0, atI_1', ha, e, e9, hdi, hmo, -cMod, -cDiv]
theorem bag_ok (c : Int) : ∃ j, mf__law_bag [.val (.int c)] = some (.own j, [.un]) ∧ BOK 11 j := by
  have p24 : (0 : Int) < 10 ^ 24 := by decide +kernel
  have e24 : ∀ ρ, mBin (fI cPow fun i j => i ^ j.toNat) (mC (.int 10)) (mC (.int 24)) ρ = some (.val (.int (10 ^ 24)), ρ) := fun ρ => pw_ok (by decide +kernel) ρ
  have e30 : ∀ ρ, mBin (fI cPow fun i j => i ^ j.toNat) (mC (.int 10)) (mC (.int 30)) ρ = some (.val (.int (10 ^ 30)), ρ) := fun ρ => pw_ok (by decide +kernel) ρ
  have e18 := fun ρ => ten18 ρ
  have hmo : ∀ i : Int, cMod i (10 ^ 24) = true := fun i => cMod_ok p24
  have h0 : 0 ≤ c % 10 ^ 24 := Int.emod_nonneg _ (Int.ne_of_gt p24)
  have h1 : c % 10 ^ 24 < 10 ^ 24 := Int.emod_lt_of_pos _ p24
  have hb : (10 : Int) ^ 24 * 30011 + 10 ^ 30 + 33 ≤ tenP 38 := by unfold tenP; decide +kernel
  have hp30 : (0 : Int) ≤ 10 ^ 30 := by decide +kernel
  generalize tenP 18 = Y at e18
  generalize hr : c % 10 ^ 24 = r at h0 h1
  have hcm : cMul r 30011 = true := cMulR (by decide +kernel)
  have hu : 0 ≤ r * 30011 + 10 ^ 30 + 33 ∧ r * 30011 + 10 ^ 30 + 33 ≤ tenP 38 := by
    generalize (10 : Int) ^ 30 = Z at hb hp30 ⊢
    generalize (10 : Int) ^ 24 = Z2 at hb h1
    omega
  have hv0 : ∀ i : Int, 0 ≤ i % (10 ^ 37 + 43) := fun i => Int.emod_nonneg _ (Int.ne_of_gt p37)
  have hv1 : ∀ i : Int, i % (10 ^ 37 + 43) ≤ tenP 38 := fun i => Int.le_trans (Int.le_of_lt (Int.emod_lt_of_pos _ p37)) l37
  generalize (10 : Int) ^ 30 = Z at e30 hb hp30 hu
  have m1 := mix_ok (max 0 (c - Y)) (r * 30011 + Z + 33) 7 hu.1 hu.2
  have q0 := hv0 ((r * 30011 + Z + 33) * (r * 30011 + Z + 33) + 69069 * (r * 30011 + Z + 33) + 7)
  have q1 := hv1 ((r * 30011 + Z + 33) * (r * 30011 + Z + 33) + 69069 * (r * 30011 + Z + 33) + 7)
  generalize ((r * 30011 + Z + 33) * (r * 30011 + Z + 33) + 69069 * (r * 30011 + Z + 33) + 7) % (10 ^ 37 + 43) = b1 at m1 q0 q1
  have m2 := mix_ok (max 0 (c - Y)) b1 (7 + 2) q0 q1
  have r0 := hv0 (b1 * b1 + 69069 * b1 + (7 + 2))
  have r1 := hv1 (b1 * b1 + 69069 * b1 + (7 + 2))
  generalize (b1 * b1 + 69069 * b1 + (7 + 2)) % (10 ^ 37 + 43) = b2 at m2 r0 r1
  refine ⟨[.int (max 0 (c - Y)), .int b2, .int (7 + 2 + 2)], ?_, ⟨max 0 (c - Y), b2, 7 + 2 + 2, rfl, by omega, r0, r1, by omega, by omega⟩⟩
  have emax : (if 0 < c - Y then c - Y else 0) = max 0 (c - Y) := by split <;> omega
  have g1 : mAsg (fun _ => false) 1 (mLst (mCons (mFn fMax2 (mCons (mC (.int 0)) (mCons (mBin (fI (fun _ _ => true) fun i j => i - j) (mVar 0) (mBin (fI cPow fun i j => i ^ j.toNat) (mC (.int 10)) (mC (.int 18)))) (mNil)))) (mCons (mBin fAdd (mBin fAdd (mBin fMul (mBin (fI cMod fun i j => i % j) (mVar 0) (mBin (fI cPow fun i j => i ^ j.toNat) (mC (.int 10)) (mC (.int 24)))) (mC (.int 30011))) (mBin (fI cPow fun i j => i ^ j.toNat) (mC (.int 10)) (mC (.int 30)))) (mC (.int 33))) (mCons (mC (.int 7)) (mNil))))) [.val (.int c), .un] = some (.nx [.val (.int c), .own [.int (max 0 (c - Y)), .int (r * 30011 + Z + 33), .int 7]]) := by
    have hf : fMax2 [.val (.int 0), .val (.int (c - Y))] = some (.val (.int (max 0 (c - Y)))) := by rw [← emax]; simp
    have hfm : fI cMod (fun i j => i % j) (.val (.int c)) (.val (.int (10 ^ 24))) = some (.val (.int r)) := by rw [← hr]; exact Ev.fi (hmo c)
    exact Ev.asg (Ev.lst (Ev.cons (Ev.fn (Ev.cons (Ev.cst _) (Ev.cons (Ev.bin (Ev.var 0) (e18 _) rfl) Ev.nil)) hf) (Ev.cons (Ev.bin (Ev.bin (Ev.bin (Ev.bin (Ev.var 0) (e24 _) hfm) (Ev.cst _) (Ev.mul hcm)) (e30 _) rfl) (Ev.cst _) rfl) (Ev.cons (Ev.cst _) Ev.nil))))
  unfold mf__law_bag
  refine Ev.defN (r := .own _) ?_
  unfold mb__law_bag
  apply Exists.intro
  exact Ev.seq g1 (Ev.seq (Ev.expr (Ev.callM Ev.nil m1)) (Ev.seq (Ev.expr (Ev.callM Ev.nil m2)) (Ev.retO 1)))
end LE
namespace LE
open PySem L2 Dn PR LB
open LC (sm_and sm_t0 ret_some next_ap stepT toldR stepT_app stepT_nil ixN_end stepT_len toldR_len)
inductive Ex1 : Nat → D → Prop
  | int {n : Nat} (i : Int) : Ex1 (n + 1) (.int i)
  | lst {n : Nat} {ds : List D} : (∀ d ∈ ds, Ex1 n d) → ds.length ≤ 100000 → Ex1 (n + 1) (.list ds)
  | tup {n : Nat} {ds : List D} : (∀ d ∈ ds, Ex1 n d) → ds.length ≤ 100000 → Ex1 (n + 1) (.tuple ds)
theorem sm_t1 {ds : List D} (x : Sl) (s : D) (hx : x = .val s ∨ (s = .list ds ∧ x = .own ds)) (hs : s = .list ds ∨ s = .tuple ds) :
    (mTOr (mB (mBin (fEq true) (mUn (fIsi ["list"]) (mVar 0)) (mUn (fIsi ["list"]) (mVar 1)))) (mTNot (mTru (mUn (fIsi ["list", "tuple"]) (mVar 0))))) [x, .val s, .un] = some (false, [.val s, .val s, .un]) := by
  rcases hs with rfl | rfl
  · rcases hx with rfl | ⟨_, rfl⟩ <;> simp [shaped_bool, shaped_int, eqv_bool, eqv_int]
  · rcases hx with rfl | ⟨e, _⟩
    · simp [shaped_bool, shaped_int, eqv_bool, eqv_int]
    · cases e
theorem sm_seq {C : MX} {ds : List D} {B : MS} (x : Sl) (s : D) (hx : x = .val s ∨ (s = .list ds ∧ x = .own ds)) (hs : s = .list ds ∨ s = .tuple ds) (key : C [.val s, .val s, .un] = some (.own (List.replicate ds.length (PyData.bool true)), [.val s, .val s, .un])) :
    mDef 2 3 (fun _ => false) (mSeq (mIfS (mTru (mUn (fIsi ["list", "tuple"]) (mVar 1))) (mSeq (mIfS (mTOr (mB (mBin (fEq true) (mUn (fIsi ["list"]) (mVar 0)) (mUn (fIsi ["list"]) (mVar 1)))) (mTNot (mTru (mUn (fIsi ["list", "tuple"]) (mVar 0))))) (mRet (mC (.bool false))) (mNext))
      (mRet (mAndV (mBin (fEq false) (mFn fLen (mCons (mVar 0) mNil)) (mFn fLen (mCons (mVar 1) mNil))) (mFn fAll (mCons C mNil))))) (mNext)) B) [x, .val s] = some (.val (.bool true), [.un, .un]) := by
  refine mDef_rt (ρ' := [.val s, .val s, .un]) rfl (mSeq_rt ?_)
  show mIfS _ _ _ [x, .val s, .un] = _
  rw [mIfS_t (sm_t0 (ds := ds) x s hs), mSeq_nx (by rw [mIfS_f (sm_t1 (ds := ds) x s hx hs)]; exact next_ap _)]
  exact ret_some (sm_and x s hx hs key)
theorem same_succ (n : Nat) : mf__law_same (n + 1) = mDef 2 3 (fun _ => false) (mb__law_same (mf__law_same n)) := mf__law_same_succ n
theorem same_step {n : Nat} (ih : ∀ {d : D}, Ex1 n d → mf__law_same n [.val d, .val d] = some (.val (.bool true), [.un, .un])) {d : D} (h : Ex1 (n + 1) d) (x : Sl) (hx : x = .val d ∨ ∃ ds, d = .list ds ∧ x = .own ds) :
    mf__law_same (n + 1) [x, .val d] = some (.val (.bool true), [.un, .un]) := by
  have key : ∀ (ds : List D), (∀ d ∈ ds, Ex1 n d) → ds.length ≤ 100000 → ∀ s, (s = .list ds ∨ s = .tuple ds) → mComp (miR1 (mCons (mFn fLen (mCons (mVar 1) (mNil))) (mNil))) (mgN (fun _ => false) 2) (mTYes) (mCall (mf__law_same n) [] (mCons (mBin fIx (mVar 0) (mVar 2)) (mCons (mBin fIx (mVar 1) (mVar 2)) (mNil)))) [2] [.val s, .val s, .un] = some (.own (List.replicate ds.length (PyData.bool true)), [.val s, .val s, .un]) :=
    fun ds hd hl s hs => same_range (self := mf__law_same n) (fun d hd' => ih (hd d hd')) hl s hs
  rw [same_succ]
  unfold mb__law_same
  generalize mComp (miR1 (mCons (mFn fLen (mCons (mVar 1) (mNil))) (mNil))) (mgN (fun _ => false) 2) (mTYes) (mCall (mf__law_same n) [] (mCons (mBin fIx (mVar 0) (mVar 2)) (mCons (mBin fIx (mVar 1) (mVar 2)) (mNil)))) [2] = C at key ⊢
  clear ih
  cases h with
  | int i =>
    rcases hx with rfl | ⟨_, e, _⟩
    · simp [shaped_bool, shaped_int, eqv_bool, eqv_int, PyData.eqv]
    · cases e
  | @lst _ ds hd hl =>
    have key := key ds hd hl (.list ds) (.inl rfl)
    rcases hx with rfl | ⟨es, e, rfl⟩
    · exact sm_seq _ _ (.inl rfl) (.inl rfl) key
    · cases e
      exact sm_seq _ _ (.inr ⟨rfl, rfl⟩) (.inl rfl) key
  | @tup _ ds hd hl =>
    have key := key ds hd hl (.tuple ds) (.inr rfl)
    rcases hx with rfl | ⟨_, e, _⟩
    · exact sm_seq _ _ (.inl rfl) (.inr rfl) key
    · cases e
theorem same_ok : ∀ {n : Nat} {d : D}, Ex1 n d → mf__law_same n [.val d, .val d] = some (.val (.bool true), [.un, .un]) := by
  intro n
  induction n with
  | zero => intro d h; cases h
  | succ n ih => intro d h; exact same_step ih h _ (.inl rfl)
theorem ex_two (a b : Int) (n : Nat) : Ex1 (n + 2) (.tuple [.int a, .int b]) := .tup (fun d hd => by
  rcases List.mem_cons.mp hd with rfl | hd
  · exact .int _
  · rcases List.mem_cons.mp hd with rfl | hd
    · exact .int _
    · cases hd) (by simp)
theorem ex_row (r : RowT) (n : Nat) (hl : r.length ≤ 100000) : Ex1 (n + 3) (dRow r) := .lst (fun d hd => by
  obtain ⟨p, _, rfl⟩ := List.mem_map.mp hd
  exact ex_two p.1 p.2 n) (by simpa using hl)
theorem same_row (r : RowT) (hl : r.length ≤ 100000) : mf__law_same 6 [.val (dRow r), .val (dRow r)] = some (.val (.bool true), [.un, .un]) := same_ok (ex_row r 3 hl)
theorem str_turn (ds : D) (s : RowT) (x : Int) (hl : s.length ≤ 10000) : lb__law_stretched_1 [.val ds, .own (s.map pairD), .val (.int x)] = some (.nx [.val ds, .own ((stepT s x).map pairD), .val (.int x)]) := by
  have hz : s.length < sizeLine := sizeL (by omega)
  have z0 : 0 < sizeLine := sizeL (by omega)
  by_cases hs : s = []
  · subst hs
    rw [stepT_nil]
    simp [lb__law_stretched_1, shaped_nil, eqv_nil, sizeN, pairD, z0]
  · obtain ⟨a, q, rfl⟩ := TLR.split_last hs
    have h1 : atI (a.map pairD ++ [pairD q]) (-1) = some (pairD q) := atI_end (by simp)
    have h2 : SeqAt.shaped (.list (a.map pairD ++ [pairD q])) = true := by
      have := shaped_row (a ++ [q])
      simpa [dRow] using this
    have hne : PyData.eqv (.list (a.map pairD ++ [pairD q])) (.list []) = false := by rw [eqv_nil]; simp
    have hix : ixN (a.length + 1) (-1) = some a.length := ixN_end _
    have hz2 : a.length + 1 < sizeLine := by simpa using hz
    rw [stepT_app]
    simp only [pairD] at h1 h2 hne
    by_cases c : q.2 + 1 = x
    · rw [if_pos c]
      rw [← c] at *
      have c' : q.2 = q.2 + 1 - 1 := by omega
      clear c
      have c : (q.2 = q.2 + 1 - 1) = True := eq_true c'
      simp [lb__law_stretched_1, h1, h2, shaped_nil, hne, pairD, atI_1, atI_0, shaped_int, eqv_int, c, hix, sizeN]
    · rw [if_neg c]
      have c : ¬ q.2 = x - 1 := by omega
      simp [lb__law_stretched_1, h1, h2, shaped_nil, hne, pairD, atI_1, atI_0, shaped_int, eqv_int, c, hix, hz2, sizeN]
theorem str_ok {xs : List Int} (hl : xs.length ≤ 5000) : mf__law_stretched [.val (.list (xs.map PyData.int))] = some (.own ((toldR xs).map pairD), [.un]) := by
  have key := loop_count (g := mgN (fun _ => false) 2) (b := lb__law_stretched_1) PyData.int
    (fun i ρ => ∃ t, ρ = [.val (.list (xs.map PyData.int)), .own (((xs.take i).foldl stepT []).map pairD), t]) xs 0
    [.val (.list (xs.map PyData.int)), .own [], .un] (fun i x ρ hx hW => by
      obtain ⟨t, rfl⟩ := hW
      simp only [Nat.zero_add]
      have hi := (List.getElem?_eq_some_iff.mp hx).1
      have et : xs.take (i + 1) = xs.take i ++ [x] := by rw [List.take_add_one, hx]; rfl
      have hlen := toldR_len (xs.take i) []
      rw [List.length_take] at hlen
      rw [et, List.foldl_append]
      exact ⟨[.val (.list (xs.map PyData.int)), .own (((xs.take i).foldl stepT []).map pairD), .val (.int x)], _, by simp, .inl (str_turn _ _ x (by simp at hlen; omega)), _, rfl⟩) ⟨.un, rfl⟩
  obtain ⟨ρ', e, t, rfl⟩ := key
  rw [Nat.zero_add, List.take_length] at e
  simp [mf__law_stretched, mb__law_stretched, sizeN, e, -mLoop, toldR]
end LE
namespace LE
open PySem L2 Dn PR LB
open LC (sm_lit sm5 Rise Rise.mono Rise.snoc)
theorem compL_inv {α : Type} {g : MG} {t : MT} {e : MX} {vs : List Nat} (q : α → D) (P : Nat → List D → List Sl → Prop) :
    ∀ (l : List α) (i : Nat) (acc : List D) (ρ : List Sl),
    (∀ (k : Nat) (a : α) (acc : List D) (ρ : List Sl), l[k]? = some a → P (i + k) acc ρ →
      ∃ ρ1 ρ2, g (q a) (wipeD ρ vs) = some ρ1 ∧ ((t ρ1 = some (false, ρ2) ∧ P (i + k + 1) acc ρ2) ∨
        ∃ ρ3 r y, t ρ1 = some (true, ρ2) ∧ e ρ2 = some (r, ρ3) ∧ datOf r = some y ∧ acc.length < sizeLine ∧ P (i + k + 1) (acc ++ [y]) ρ3)) →
    P i acc ρ → ∃ acc' ρ', mCompL g t e vs (l.map q) acc ρ = some (acc', ρ') ∧ P (i + l.length) acc' ρ'
  | [], i, acc, ρ, _, h => ⟨acc, ρ, rfl, h⟩
  | a :: l, i, acc, ρ, st, h => by
    obtain ⟨ρ1, ρ2, h1, h2⟩ := st 0 a acc ρ rfl h
    have st' : ∀ (k : Nat) (b : α) (acc : List D) (ρ : List Sl), l[k]? = some b → P (i + 1 + k) acc ρ →
      ∃ ρ1 ρ2, g (q b) (wipeD ρ vs) = some ρ1 ∧ ((t ρ1 = some (false, ρ2) ∧ P (i + 1 + k + 1) acc ρ2) ∨
        ∃ ρ3 r y, t ρ1 = some (true, ρ2) ∧ e ρ2 = some (r, ρ3) ∧ datOf r = some y ∧ acc.length < sizeLine ∧ P (i + 1 + k + 1) (acc ++ [y]) ρ3) := fun k b acc ρ hk hP => by
      have := st (k + 1) b acc ρ (by simpa using hk)
      rw [show i + (k + 1) = i + 1 + k by omega] at this
      exact this hP
    have el : i + (a :: l).length = i + 1 + l.length := by simp; omega
    rw [el]
    rcases h2 with ⟨h2, h3⟩ | ⟨ρ3, r, y, h2, h3, h4, h5, h6⟩
    · obtain ⟨acc', ρ', h7, h8⟩ := compL_inv q P l (i + 1) acc ρ2 st' h3
      refine ⟨acc', ρ', ?_, h8⟩
      simp only [List.map_cons, mCompL, h1, h2]
      exact h7
    · obtain ⟨acc', ρ', h7, h8⟩ := compL_inv q P l (i + 1) (acc ++ [y]) ρ3 st' h6
      refine ⟨acc', ρ', ?_, h8⟩
      simp only [List.map_cons, mCompL, h1, h2, h3, h4, h5, if_true]
      exact h7
theorem places_ok {m : Int} {j : List D} {M : Nat} (hj : BOK m j) (hm : m < 10 ^ 11) (hM : M ≤ 1000) :
    ∃ (xs : List Int) (j' : List D), mf__law_places [.own j, .val (.int (M : Int))] = some (.own (xs.map PyData.int), [.own j', .un]) ∧ BOK (m + 4000) j' ∧ Rise 1 M xs ∧ xs.length ≤ M := by
  obtain ⟨v1, j1, e1, a1, b1, J1⟩ := draw_ok (n := 3) (by omega) (by omega) (sm5 (by omega)) hj
  obtain ⟨v2, j2, e2, a2, b2, J2⟩ := draw_ok (n := (M : Int) + 1) (by omega) (by omega) (sm5 (by omega)) J1
  obtain ⟨N, rfl⟩ : ∃ N : Nat, v2 = (N : Int) := ⟨v2.toNat, by omega⟩
  have key := compL_inv (g := mgN (fun _ => false) 3) (t := mB (mBin (fB fun i j => decide (i < j)) (mCallM LE.mf__law_draw 0 [] (mCons (mC (.int 4)) (mNil))) (mVar 2))) (e := mVar 3) (vs := [3]) (fun k : Nat => PyData.int (1 + (k : Int)))
    (fun i acc ρ => ∃ (j' : List D) (xs : List Int) (t : Sl), acc = xs.map PyData.int ∧ ρ = [.own j', .val (.int (M : Int)), .val (.int (1 + v1)), t] ∧ BOK (m + 4 + 2 * i) j' ∧ Rise 1 i xs ∧ xs.length ≤ i) (List.range N) 0 []
    [.own j2, .val (.int (M : Int)), .val (.int (1 + v1)), .un] (fun k a acc ρ hk hP => by
      obtain ⟨j', xs, t, rfl, rfl, hJ, hR, hlen⟩ := hP
      simp only [Nat.zero_add] at hJ hR hlen ⊢
      have hik : a = k := by
        obtain ⟨h1, h2⟩ := List.getElem?_eq_some_iff.mp hk
        simpa using h2.symm
      have hi : k < N := by simpa using (List.getElem?_eq_some_iff.mp hk).1
      subst hik
      obtain ⟨v, j3, e3, a3, b3, J3⟩ := draw_ok (n := 4) (by omega) (by omega) (sm5 (by omega)) hJ
      have hz : xs.length < sizeLine := sizeL (by omega)
      refine ⟨[.own j', .val (.int (M : Int)), .val (.int (1 + v1)), .val (.int (1 + (a : Int)))], [.own j3, .val (.int (M : Int)), .val (.int (1 + v1)), .val (.int (1 + (a : Int)))], by simp, ?_⟩
      by_cases c : v < 1 + v1
      · refine .inr ⟨_, .val (.int (1 + (a : Int))), .int (1 + (a : Int)), by simp [e3, c], by simp; rfl, rfl, by simpa using hz, j3, xs ++ [1 + (a : Int)], _, by simp, rfl, J3.mono (by push_cast; omega), ?_, by simp; omega⟩
        rcases hR.snoc (x := 1 + (a : Int)) (by omega) with h | h
        · exact h.mono (by push_cast; omega)
        · omega
      · exact .inl ⟨by simp [e3, c], j3, xs, _, rfl, rfl, J3.mono (by push_cast; omega), hR.mono (by push_cast; omega), by omega⟩) ⟨j2, [], .un, rfl, rfl, J2.mono (by omega), ⟨List.Pairwise.nil, fun x hx => (by cases hx)⟩, by simp⟩
  obtain ⟨acc, ρ', e, j', xs, t, rfl, rfl, hJ, hR, hlen⟩ := key
  simp only [Nat.zero_add, List.length_range] at hJ hR hlen
  refine ⟨xs, j', ?_, hJ.mono (by omega), hR.mono (by omega), by omega⟩
  have h1 : mAsg (fun j => j == 0) 2 (mBin fAdd (mC (.int 1)) (mCallM LE.mf__law_draw 0 [] (mCons (mC (.int 3)) (mNil)))) [.own j, .val (.int (M : Int)), .un, .un] = some (.nx [.own j1, .val (.int (M : Int)), .val (.int (1 + v1)), .un]) := by
    simp [e1]
  have hi : miR2 (mCons (mC (.int 1)) (mCons (mBin fAdd (mC (.int 1)) (mCallM LE.mf__law_draw 0 [] (mCons (mBin fAdd (mVar 1) (mC (.int 1))) (mNil)))) (mNil))) [.own j1, .val (.int (M : Int)), .val (.int (1 + v1)), .un] = some ((List.range N).map (fun k : Nat => PyData.int (1 + (k : Int))), [.own j2, .val (.int (M : Int)), .val (.int (1 + v1)), .un]) := by
    have e0 : mCons (mC (.int 1)) (mCons (mBin fAdd (mC (.int 1)) (mCallM LE.mf__law_draw 0 [] (mCons (mBin fAdd (mVar 1) (mC (.int 1))) (mNil)))) (mNil)) [.own j1, .val (.int (M : Int)), .val (.int (1 + v1)), .un] = some ([.val (.int 1), .val (.int (1 + (N : Int)))], [.own j2, .val (.int (M : Int)), .val (.int (1 + v1)), .un]) := by simp [e2]
    rw [miR2_ap, e0]
    have h62 : -(2 ^ 62) ≤ (1 : Int) ∧ (1 : Int) < 2 ^ 62 ∧ -(2 ^ 62) ≤ 1 + (N : Int) ∧ 1 + (N : Int) < 2 ^ 62 := by refine ⟨?_, ?_, ?_, ?_⟩ <;> omega
    show (if _ then _ else _) = _
    rw [if_pos h62]
    have : (1 + (N : Int) - 1).toNat = N := by omega
    rw [this]
    rfl
  have h2 : lc__law_places_1 [.own j1, .val (.int (M : Int)), .val (.int (1 + v1)), .un] = some (.own (xs.map PyData.int), [.own j', .val (.int (M : Int)), .val (.int (1 + v1)), .un]) := by
    unfold lc__law_places_1
    rw [mComp_ap, hi]
    have e : mCompL (mgN (fun _ => false) 3) (mB (mBin (fB fun i j => decide (i < j)) (mCallM LE.mf__law_draw 0 [] (mCons (mC (.int 4)) (mNil))) (mVar 2))) (mVar 3) [3] ((List.range N).map (fun k : Nat => PyData.int (1 + (k : Int)))) [] (wipeD [.own j2, .val (.int (M : Int)), .val (.int (1 + v1)), .un] [3]) = some (xs.map PyData.int, [.own j', .val (.int (M : Int)), .val (.int (1 + v1)), t]) := e
    show (match mCompL _ _ _ _ _ _ _ with | none => none | some (acc, ρ2) => some (Sl.own acc, wipeD ρ2 [3])) = _
    rw [e]
    rfl
  exact Ev.defR (kp := fun j => j == 0) (mb := mb__law_places) (ρ0 := [.own j, .val (.int (M : Int)), .un, .un]) (Ev.seq h1 (Ev.ret h2))
end LE
namespace PR
open PySem L2 Dn LB LF
def pr (n : Nat) (t : RowT) (i : Nat) : RowT × RowT := (TLR.rowB 0 (TL.pairAt kO (lineT n t) i).1, TLR.rowB 0 (TL.pairAt kO (lineT n t) i).2)
theorem OnL.pr {n : Nat} {t : RowT} {i : Nat} {p : RowT × RowT} (h : OnL n t i p) : p = pr n t i := by
  unfold PR.pr
  rw [← h.at']
  exact Prod.ext (TLR.rowB_bits h.w1).symm (TLR.rowB_bits h.w2).symm
@[irreducible] def NN : Nat := 100 * (2 * 10 ^ 38 + 2)
def PP (t : RowT) : Nat := TL.num kO (lineT NN t)
end PR
namespace LF
open PySem L2 Dn PR LB
theorem cMulL {a b : Int} (h : a.natAbs.log2 < 60) : cMul a b = true := by
  unfold cMul
  rw [decide_eq_true h, Bool.true_or, Bool.or_true]
theorem for_times {lb : MS} {ρ : List Sl} {W : Nat → List Sl → Prop} (i : Nat) (kp : Nat → Bool) (M : Nat) (h0 : W 0 ρ)
    (h : ∀ (n : Nat) (ρ : List Sl), n < M → W n ρ → ∃ ρ1 ρ2, mgN kp i (.int (n : Int)) ρ = some ρ1 ∧ lb ρ1 = some (.nx ρ2) ∧ W (n + 1) ρ2) :
    ∃ ρ', mLoop (mgN kp i) lb ((List.range M).map fun k : Nat => PyData.int (0 + (k : Int))) ρ = some (.nx ρ') ∧ W M ρ' := by
  have key := loop_count (g := mgN kp i) (b := lb) (fun k : Nat => PyData.int (0 + (k : Int))) W (List.range M) 0 ρ (fun n k ρ hk hW => by
    obtain ⟨hki, hi⟩ := LG.range_getL hk
    subst hki
    rw [Nat.zero_add] at hW ⊢
    have hz : (0 : Int) + (k : Int) = (k : Int) := by omega
    rw [hz]
    obtain ⟨ρ1, ρ2, e1, e2, e3⟩ := h k ρ hi hW
    exact ⟨ρ1, ρ2, e1, .inl e2, e3⟩) h0
  obtain ⟨ρ', e, w⟩ := key
  rw [Nat.zero_add, List.length_range] at w
  exact ⟨ρ', e, w⟩
end LF
namespace PR
open PySem L2 Dn LB LF
open TL (rowL runsL)
def runsR (n : Nat) (r : RowT) : RowT := lineR n kO r r
def madeR (n : Nat) (t : RowT) : RowT := TLR.rowB 0 (rowL false (lineT n t))
theorem runs_bits (n : Nat) (r : RowT) : TLR.within n (runsR n r) ∧ lineT n (runsR n r) = runsL n false (TLR.bits n r) := by
  obtain ⟨w, b⟩ := line_within n kO r r
  refine ⟨w, ?_⟩
  unfold lineT runsR
  rw [b, List.reverse_reverse]
  unfold locR
  rw [TL.loc_twin]
theorem made_bits (n : Nat) (t : RowT) : TLR.within n (madeR n t) ∧ TLR.bits n (madeR n t) = rowL false (lineT n t) := by
  have hl : (rowL false (lineT n t)).length = n := by rw [TL.rowL_len, lineT_len]
  have h1 := TLR.rowB_within (rowL false (lineT n t))
  have h2 := TLR.bits_rowB (rowL false (lineT n t))
  rw [hl] at h1 h2
  exact ⟨h1, h2⟩
theorem lineT_inj {n : Nat} {r s : RowT} (h1 : TLR.within n r) (h2 : TLR.within n s) (h : lineT n r = lineT n s) : r = s :=
  TLR.bits_ext h1 h2 (List.reverse_inj.mp h)
theorem runs_made {n : Nat} {t : RowT} (h : TLR.within n t) : runsR n (madeR n t) = t := by
  obtain ⟨a1, a2⟩ := runs_bits n (madeR n t)
  refine lineT_inj a1 h ?_
  rw [a2, (made_bits n t).2]
  have := TL.runs_row (lineT n t) false
  rw [lineT_len] at this
  exact this
theorem made_len {n : Nat} {t : RowT} (h : TLR.within n t) : (madeR n t).length = t.length := by
  obtain ⟨a1, a2⟩ := made_bits n t
  rw [TLR.row_rises a1, TLR.row_rises h, a2, TLR.row_of_runs]
  unfold lineT
  rw [List.reverse_reverse]
theorem half_ok {w n : Nat} {t : RowT} {x : Sl} (h : TLR.within n t) (hl : t.length ≤ 60) (hw : n < 2 ^ w) (hB : (2 * t.length + 2) * (w + 2) ≤ 8800) (hw2 : w ≤ 150) (hx : LC.IsL x (t.map pairD)) : mf_pair_halfway [x] = some (.val (dPair (madeR n t) (madeR n t)), [.un]) := by
  have e1 := way_up_ok h (by omega) hw (by omega)
  have hpos := TL.num_pos kO (lineT n t)
  have hodd := TL.num_odd kO (lineT n t)
  have f2 : (fI cDiv fun i j => i / j) (.val (.int (((TL.num kO (lineT n t) : Nat) : Int) - 1))) (.val (.int 2)) = some (.val (.int (((TL.num kO (lineT n t) - 1) / 2 : Nat) : Int))) := by
    have := LF.divI (a := ((TL.num kO (lineT n t) : Nat) : Int) - 1) (n := 2) (by omega) (smB (by omega))
    rw [this]
    congr 3
    omega
  obtain ⟨p, e3, on, _, _⟩ := pair_on_ok h hw hB (by omega) (show (TL.num kO (lineT n t) - 1) / 2 < TL.num kO (lineT n t) by omega)
  have hp : p = (madeR n t, madeR n t) := by
    obtain ⟨a1, a2⟩ := made_bits n t
    refine bits_pair on.w1 on.w2 a1 a1 ?_
    rw [on.at', a2]
    exact TL.twin_at (lineT n t)
  subst hp
  have er : dRow t = .list (t.map pairD) := rfl
  rw [er] at e1 e3
  obtain ⟨y, hv⟩ : ∃ y, mVar 0 [x] = some (.val (.list (t.map pairD)), [y]) := ⟨_, LC.varL hx rfl⟩
  have hy : y = .val (.list (t.map pairD)) := by
    rcases hx with rfl | rfl
    · simp [mVar] at hv
      exact hv.symm
    · simp [mVar] at hv
      exact hv.symm
  subst hy
  simp only at e3
  generalize dPair (madeR n t) (madeR n t) = P at *
  generalize t.map pairD = TP at *
  unfold mf_pair_halfway
  refine Ev.defR (ρ' := [.val (.list TP)]) ?_
  unfold mb_pair_halfway
  exact Ev.ret (Ev.call (Ev.cons hv (Ev.cons (Ev.bin (Ev.call (Ev.cons (Ev.var 0) Ev.nil) e1) (Ev.cst _) f2) Ev.nil)) e3)
theorem row_with_ok {w n : Nat} {t : RowT} {d : D} (hd : HR d t) (h : TLR.within n t) (hl : t.length ≤ 60) (hw : n < 2 ^ w) (hB : (2 * t.length + 2) * (w + 2) ≤ 8800) (hw2 : w ≤ 150) : mf_row_with [.val d] = some (.val (dRow (madeR n t)), [.un]) := by
  have e1 := given_row_ok hd h.1 (by omega)
  have e2 := half_ok h hl hw hB hw2 (x := .own (t.map pairD)) (.inr rfl)
  have ed : ∀ a b : RowT, dPair a b = .tuple [dRow a, dRow b] := fun _ _ => rfl
  rw [ed] at e2
  generalize dRow (madeR n t) = M at *
  generalize t.map pairD = TP at *
  unfold mf_row_with
  refine Ev.defR (ρ' := [.val d, .val M, .val M]) ?_
  unfold mb_row_with
  exact Ev.seq (Ev.asgT (Ev.call (Ev.cons (Ev.call (Ev.cons (Ev.var 0) Ev.nil) e1) Ev.nil) e2) Ev.gT2) (Ev.ret (Ev.var 1))
end PR
namespace PR
open PySem L2 Dn LB LF
theorem ne_row (r s : RowT) : fEq true (.val (dRow r)) (.val (dRow s)) = some (.val (.bool (!decide (r = s)))) := by
  have h1 : SeqAt.shaped (dRow r) = true := shaped_row r
  have h2 : SeqAt.shaped (dRow s) = true := shaped_row s
  have h3 := eqv_dRow r s
  generalize dRow r = R at *
  generalize dRow s = S at *
  simp [fEq, h1, h2, h3]
end PR
namespace LE
open PySem L2 Dn PR LB
theorem edge_turn (s0 s1 s2 : Sl) (x : Int) : lb__law_is_row_1 [s0, s1, s2, .val (.int x)] = some (.nx [s0, s1, s2, .val (.int x)]) := by
  have f1 : fIsi ["bool"] (.val (.int x)) = some (.val (.bool false)) := by simp [fIsi]
  have f2 : fIsi ["int"] (.val (.int x)) = some (.val (.bool true)) := by simp [fIsi]
  unfold lb__law_is_row_1
  exact Ev.ifS_f (Ev.tOr_f (Ev.tT (Ev.un (Ev.var 3) f1)) (Ev.tNot_f (Ev.tT (Ev.un (Ev.var 3) f2)))) Ev.next
theorem stretch_turn (s0 s3 : Sl) (place a b : Int) (h1 : place + 2 ≤ a) (h2 : a ≤ b) : lb__law_is_row_2 [s0, .val (.int place), .val (.tuple [.int a, .int b]), s3] = some (.nx [s0, .val (.int b), .val (.tuple [.int a, .int b]), .val (.int b)]) := by
  have f1 : fIsi ["tuple"] (.val (.tuple [.int a, .int b])) = some (.val (.bool true)) := by simp [fIsi]
  have f2 : fLen [.val (.tuple [.int a, .int b])] = some (.val (.int 2)) := by simp
  have f3 : fEq true (.val (.int 2)) (.val (.int 2)) = some (.val (.bool false)) := by simp [fEq, shaped_int, eqv_int]
  have f4 : mLoop (mgN (fun _ => false) 3) lb__law_is_row_1 [.int a, .int b] [s0, .val (.int place), .val (.tuple [.int a, .int b]), s3] = some (.nx [s0, .val (.int place), .val (.tuple [.int a, .int b]), .val (.int b)]) :=
    Ev.loop_nx (Ev.gN (h := rfl)) (edge_turn _ _ _ _) (Ev.loop_nx (Ev.gN (h := rfl)) (edge_turn _ _ _ _) Ev.loop_nil)
  have f5 : atI [PyData.int a, PyData.int b] 0 = some (.int a) := rfl
  have f6 : (fB fun i j => decide (i < j)) (.val (.int a)) (.val (.int (place + 2))) = some (.val (.bool false)) := by
    show some (Sl.val (PyData.bool (decide _))) = _
    rw [decide_eq_false (by omega)]
  have f7 : atI [PyData.int a, PyData.int b] 1 = some (.int b) := rfl
  have f8 : (fB fun i j => decide (i < j)) (.val (.int b)) (.val (.int a)) = some (.val (.bool false)) := by
    show some (Sl.val (PyData.bool (decide _))) = _
    rw [decide_eq_false (by omega)]
  unfold lb__law_is_row_2
  exact Ev.seq (Ev.ifS_f (Ev.tOr_f (Ev.tNot_f (Ev.tT (Ev.un (Ev.var 2) f1))) (Ev.tB (Ev.bin (Ev.fn (Ev.cons (Ev.var 2) Ev.nil) f2) (Ev.cst _) f3))) Ev.next)
          (Ev.seq (Ev.forS' (Ev.iT (Ev.var 2)) f4)
          (Ev.seq (Ev.ifS_f (Ev.tOr_f (Ev.tB (Ev.bin (Ev.ixT (Ev.var 2) (Ev.cst _) f5) (Ev.bin (Ev.var 1) (Ev.cst _) rfl) f6)) (Ev.tB (Ev.bin (Ev.ixT (Ev.var 2) (Ev.cst _) f7) (Ev.ixT (Ev.var 2) (Ev.cst _) f5) f8))) Ev.next)
          (Ev.asg (Ev.ixT (Ev.var 2) (Ev.cst _) f7))))
theorem is_row_loop (s0 : Sl) : ∀ (r : RowT) (f : Int) (s2 s3 : Sl), okF f r = true → ∃ (p : Int) (t2 t3 : Sl), mLoop (mgN (fun _ => false) 2) lb__law_is_row_2 (r.map pairD) [s0, .val (.int (f - 2)), s2, s3] = some (.nx [s0, .val (.int p), t2, t3])
  | [], f, s2, s3, _ => ⟨_, _, _, rfl⟩
  | q :: r, f, s2, s3, h => by
    obtain ⟨h1, h2, h3⟩ := okF_cons.mp h
    obtain ⟨p, t2, t3, e⟩ := is_row_loop s0 r (q.2 + 2) (.val (.tuple [.int q.1, .int q.2])) (.val (.int q.2)) h3
    rw [show q.2 + 2 - 2 = q.2 by omega] at e
    refine ⟨p, t2, t3, ?_⟩
    rw [← e]
    exact Ev.loop_nx (ρ1 := [s0, .val (.int (f - 2)), .val (.tuple [.int q.1, .int q.2]), s3]) (dd := .tuple [.int q.1, .int q.2]) Ev.gN (stretch_turn s0 s3 (f - 2) q.1 q.2 (by omega) h2) rfl
theorem is_row_ok {r : RowT} (ok : okF 1 r = true) : mf__law_is_row [.val (dRow r)] = some (.val (.bool true), [.un]) := by
  obtain ⟨p, t2, t3, e⟩ := is_row_loop (.val (dRow r)) r 1 .un .un ok
  have f1 : fIsi ["list"] (.val (.list (r.map pairD))) = some (.val (.bool true)) := by simp [fIsi]
  have f2 : fNeg (.val (.int 1)) = some (.val (.int (-1))) := rfl
  have er : dRow r = .list (r.map pairD) := rfl
  rw [er] at e ⊢
  rw [show (1 : Int) - 2 = -1 by omega] at e
  generalize r.map pairD = R at *
  unfold mf__law_is_row
  refine Ev.defR (ρ' := [.val (.list R), .val (.int p), t2, t3]) ?_
  unfold mb__law_is_row
  exact Ev.seq (Ev.ifS_f (Ev.tNot_f (Ev.tT (Ev.un (Ev.var 0) f1))) Ev.next) (Ev.seq (Ev.asg (Ev.un (Ev.cst _) f2)) (Ev.seq (Ev.forS' (Ev.iS (Ev.var 0)) e) (Ev.ret (Ev.cst _))))
end LE
namespace LE
open PySem L2 Dn PR LB
open LC
def dI (s : List Int) : D := .list (s.map PyData.int)
def setsI : Nat → List (List Int)
  | 0 => [[]]
  | n + 1 => setsI n ++ (setsI n).map (· ++ [1 + (n : Int)])
theorem setsI_len : ∀ n, (setsI n).length = 2 ^ n
  | 0 => rfl
  | n + 1 => by simp [setsI, setsI_len n, Nat.pow_succ]; omega
theorem setsI_in : ∀ (n : Nat) (s : List Int), s ∈ setsI n → s.length ≤ n
  | 0, s, h => by simp [setsI] at h; simp [h]
  | n + 1, s, h => by
    rcases List.mem_append.mp h with h | h
    · have := setsI_in n s h; omega
    · obtain ⟨t, ht, rfl⟩ := List.mem_map.mp h
      have := setsI_in n t ht
      simp; omega
theorem sets_turn (L : List (List Int)) (M : D) (x : Int) (t : Sl) (hl : L.length ≤ 10000) (hs : ∀ s ∈ L, s.length ≤ 10000) :
    ∃ t', lb__law_sets_2 [.val M, .own (L.map dI), .val (.int x), t] = some (.nx [.val M, .own ((L ++ L.map (· ++ [x])).map dI), .val (.int x), t']) := by
  have hc : lc__law_sets_1 [.val M, .val (.list (L.map dI)), .val (.int x), t] = some (.own (L.filterMap fun s => some (dI (s ++ [x]))), [.val M, .val (.list (L.map dI)), .val (.int x), .un]) := by
    unfold lc__law_sets_1
    refine comp_map dI _ L (ρ1 := [.val M, .val (.list (L.map dI)), .val (.int x), t]) (by simp) rfl rfl (fun s hs' => ?_) (Nat.le_of_lt (sizeL (by omega)))
    have h1 := hs s hs'
    have hz : s.length + 1 ≤ sizeLine := Nat.le_of_lt (sizeL (by omega))
    have e : mBin fAdd (mVar 3) (mLst (mCons (mVar 2) (mNil))) [.val M, .val (.list (L.map dI)), .val (.int x), .val (dI s)] = some (.own ((s ++ [x]).map PyData.int), [.val M, .val (.list (L.map dI)), .val (.int x), .val (dI s)]) := by
      simp [dI, sizeN, hz]
    exact ⟨[.val M, .val (.list (L.map dI)), .val (.int x), .val (dI s)], true, _, rfl, rfl, .inr ⟨rfl, _, _, _, e, rfl, rfl, rfl⟩⟩
  refine ⟨.un, ?_⟩
  have hz : L.length + L.length ≤ sizeLine := Nat.le_of_lt (sizeL (by omega))
  unfold lb__law_sets_2
  generalize lc__law_sets_1 = C at hc ⊢
  simp [hc, hz, List.filterMap_eq_map', Function.comp_def]
theorem sets_ok (M : Nat) (hM : M ≤ 12) : mf__law_sets [.val (.int (M : Int))] = some (.own ((setsI M).map dI), [.un]) := by
  have key := loop_count (g := mgN (fun _ => false) 2) (b := lb__law_sets_2) (fun k : Nat => PyData.int (1 + (k : Int)))
    (fun i ρ => i ≤ M ∧ ∃ t u, ρ = [.val (.int (M : Int)), .own ((setsI i).map dI), t, u]) (List.range M) 0
    [.val (.int (M : Int)), .own [.list []], .un, .un] (fun i k ρ hk hW => by
      obtain ⟨hi, t, u, rfl⟩ := hW
      simp only [Nat.zero_add] at hi ⊢
      obtain ⟨rfl, hk⟩ := range_get hk
      have h2 : 2 ^ k ≤ 2 ^ 12 := Nat.pow_le_pow_right (by omega) (by omega)
      have hlen := setsI_len k
      obtain ⟨t', e⟩ := sets_turn (setsI k) (.int (M : Int)) (1 + (k : Int)) u (by omega) (fun s hs => by have := setsI_in k s hs; omega)
      exact ⟨[.val (.int (M : Int)), .own ((setsI k).map dI), .val (.int (1 + (k : Int))), u], _, by simp, .inl e, by omega, _, _, rfl⟩) ⟨by omega, .un, .un, rfl⟩
  obtain ⟨ρ', e, _, t, u, rfl⟩ := key
  simp only [Nat.zero_add, List.length_range] at e
  have hi : miR2 (mCons (mC (.int 1)) (mCons (mBin fAdd (mVar 0) (mC (.int 1))) (mNil))) [.val (.int (M : Int)), .own [.list []], .un, .un] = some ((List.range M).map (fun k : Nat => PyData.int (1 + (k : Int))), [.val (.int (M : Int)), .own [.list []], .un, .un]) :=
    miR2_one (by simp) (by omega)
  have h1 : mAsg (fun _ => false) 1 (mLst (mCons (mLst (mNil)) (mNil))) [.val (.int (M : Int)), .un, .un, .un] = some (.nx [.val (.int (M : Int)), .own [.list []], .un, .un]) := by simp [sizeN]
  have h2 : mFor (miR2 (mCons (mC (.int 1)) (mCons (mBin fAdd (mVar 0) (mC (.int 1))) (mNil)))) (mgN (fun _ => false) 2) (lb__law_sets_2) [.val (.int (M : Int)), .own [.list []], .un, .un] = some (.nx [.val (.int (M : Int)), .own ((setsI M).map dI), t, u]) := by
    rw [mFor_ap, hi]
    exact e
  exact Ev.defR (np := 1) (nl := 4) (args := [.val (.int (M : Int))]) (kp := fun _ => false) (mb := mb__law_sets) (ρ0 := [.val (.int (M : Int)), .un, .un, .un]) (Ev.seq h1 (Ev.seq h2 (Ev.retO 1)))
def nextI (xs : List Int) : List Int := if xs = [] then [] else if (xs.length : Int) ∈ xs then xs.filter (fun x => decide (x ≠ (xs.length : Int))) else sortI (xs ++ [(xs.length : Int)])
theorem next_ok (xs : List Int) (hl : xs.length ≤ 10000) : ∃ r, mf__law_next [.val (.list (xs.map PyData.int))] = some (r, [.un]) ∧ datOf r = some (dI (nextI xs)) := by
  have hz : xs.length + 1 ≤ sizeLine := Nat.le_of_lt (sizeL (by omega))
  have h1 : mAsg (fun _ => false) 1 (mFn fLen (mCons (mVar 0) (mNil))) [.val (.list (xs.map PyData.int)), .un, .un] = some (.nx [.val (.list (xs.map PyData.int)), .val (.int (xs.length : Int)), .un]) := by simp
  by_cases h0 : xs = []
  · subst h0
    refine ⟨.own [], ?_, rfl⟩
    exact Ev.defR (np := 1) (nl := 3) (args := [.val (.list [])]) (kp := fun _ => false) (mb := mb__law_next) (ρ0 := [.val (.list []), .un, .un]) (ρ' := [.val (.list []), .val (.int 0), .un]) (Ev.seq h1 (mSeq_rt (by simp [sizeN, shaped_int, eqv_int])))
  · have hne : ¬ (xs.length : Int) = 0 := by
      have := List.length_pos_iff.mpr h0; omega
    have h2 : mIfS (mB (mBin (fEq false) (mVar 1) (mC (.int 0)))) (mRet (mLst (mNil))) (mNext) [.val (.list (xs.map PyData.int)), .val (.int (xs.length : Int)), .un] = some (.nx [.val (.list (xs.map PyData.int)), .val (.int (xs.length : Int)), .un]) := by
      simp [shaped_int, eqv_int, h0]
    have h3 : mB (mBin (fIn false) (mVar 1) (mVar 0)) [.val (.list (xs.map PyData.int)), .val (.int (xs.length : Int)), .un] = some (decide ((xs.length : Int) ∈ xs), [.val (.list (xs.map PyData.int)), .val (.int (xs.length : Int)), .un]) := by
      have := in_ints (xs.length : Int) xs
      simp [this, -fIn]
    by_cases c : (xs.length : Int) ∈ xs
    · have h4 : lc__law_next_1 [.val (.list (xs.map PyData.int)), .val (.int (xs.length : Int)), .un] = some (.own (xs.filterMap fun x => if x ≠ (xs.length : Int) then some (PyData.int x) else none), [.val (.list (xs.map PyData.int)), .val (.int (xs.length : Int)), .un]) := by
        unfold lc__law_next_1
        refine comp_map PyData.int _ xs (ρ1 := [.val (.list (xs.map PyData.int)), .val (.int (xs.length : Int)), .un]) (by simp) rfl rfl (fun x hx => ?_) (by omega)
        refine ⟨[.val (.list (xs.map PyData.int)), .val (.int (xs.length : Int)), .val (.int x)], decide (x ≠ (xs.length : Int)), [.val (.list (xs.map PyData.int)), .val (.int (xs.length : Int)), .val (.int x)], rfl, by by_cases d : x = (xs.length : Int) <;> simp [shaped_int, eqv_int, d], ?_⟩
        by_cases d : x = (xs.length : Int)
        · exact .inl ⟨by simp [d], by simp [d], rfl⟩
        · exact .inr ⟨by simp [d], _, _, _, rfl, rfl, by simp [d], rfl⟩
      refine ⟨_, Ev.defR (np := 1) (nl := 3) (args := [.val (.list (xs.map PyData.int))]) (kp := fun _ => false) (mb := mb__law_next) (ρ0 := [.val (.list (xs.map PyData.int)), .un, .un]) (Ev.seq h1 (Ev.seq h2 (Ev.ret (Ev.if_t (by rw [h3]; simp [c]) h4)))), ?_⟩
      have e : (xs.filterMap fun x => if x ≠ (xs.length : Int) then some (PyData.int x) else none) = (xs.filter (fun x => decide (x ≠ (xs.length : Int)))).map PyData.int := by
        rw [← List.filterMap_eq_map', ← List.filterMap_eq_filter, List.filterMap_filterMap]
        congr 1
        funext x
        by_cases d : x = (xs.length : Int) <;> simp [d, Option.guard]
      simp only [nextI, h0, c, if_true, if_false, dI, datOf, e]
    · have h4 : mFn fSortA (mCons (mBin fAdd (mVar 0) (mLst (mCons (mVar 1) (mNil)))) (mNil)) [.val (.list (xs.map PyData.int)), .val (.int (xs.length : Int)), .un] = some (.own ((sortI (xs ++ [(xs.length : Int)])).map PyData.int), [.val (.list (xs.map PyData.int)), .val (.int (xs.length : Int)), .un]) := by
        have e := intsOf_map (xs ++ [(xs.length : Int)])
        simp only [List.map_append, List.map_cons, List.map_nil] at e
        simp [sizeN, hz, e]
      refine ⟨_, Ev.defR (np := 1) (nl := 3) (args := [.val (.list (xs.map PyData.int))]) (kp := fun _ => false) (mb := mb__law_next) (ρ0 := [.val (.list (xs.map PyData.int)), .un, .un]) (Ev.seq h1 (Ev.seq h2 (Ev.ret (Ev.if_f (by rw [h3]; simp [c]) h4)))), ?_⟩
      simp only [nextI, h0, c, if_false, dI, datOf]
end LE
namespace LE
open PySem L2 Dn PR LB LC
theorem setsI_rise : ∀ (n : Nat) (s : List Int), s ∈ setsI n → Rise 1 n s
  | 0, s, h => by simp [setsI] at h; subst h; exact ⟨List.Pairwise.nil, fun x hx => (by cases hx)⟩
  | n + 1, s, h => by
    rcases List.mem_append.mp h with h | h
    · exact (setsI_rise n s h).mono (by push_cast; omega)
    · obtain ⟨t, ht, rfl⟩ := List.mem_map.mp h
      rcases (setsI_rise n t ht).snoc (x := 1 + (n : Int)) (by omega) with h | h
      · exact h.mono (by push_cast; omega)
      · omega
end LE
namespace PR
open PySem L2 Dn LB LE
theorem dec_app : ∀ (P Q : List Bool), Q.contains true = true → TL.dec (P ++ Q) = P ++ TL.dec Q
  | [], Q, _ => rfl
  | c :: P, Q, h => by
    have h2 : (P ++ Q).contains true = true := by
      rw [List.contains_iff_mem] at h ⊢
      exact List.mem_append_right _ h
    show (if (P ++ Q).contains true = true then c :: TL.dec (P ++ Q) else _) = c :: (P ++ TL.dec Q)
    rw [if_pos h2, dec_app P Q h]
theorem tog_at : ∀ (P : List Bool) (c : Bool) (Q : List Bool), TL.tog (P.length + 1) (P ++ c :: Q) = P ++ (!c) :: Q
  | [], c, Q => by simp [TL.tog]
  | a :: P, c, Q => by
    have := tog_at P c Q
    simp only [List.cons_append, List.length_cons, TL.tog]
    rw [this]
theorem dec_low (k : Nat) (B : List Bool) : TL.dec (List.replicate k false ++ true :: B).reverse = (TL.tog k (TL.tog (k + 1) (List.replicate k false ++ true :: B))).reverse := by
  have h1 := tog_at (List.replicate k false) true B
  rw [List.length_replicate] at h1
  rw [h1, List.reverse_append, List.reverse_cons, List.append_assoc, dec_app _ _ (by simp)]
  cases k with
  | zero => simp [TL.dec, TL.tog]
  | succ k =>
    have h2 := tog_at (List.replicate k false) false (false :: B)
    rw [List.length_replicate] at h2
    have e : List.replicate (k + 1) false ++ (!true) :: B = List.replicate k false ++ false :: false :: B := by
      rw [List.replicate_succ', List.append_assoc]; rfl
    rw [e, h2]
    simp only [List.reverse_append, List.reverse_cons, List.reverse_replicate, List.append_assoc, List.cons_append, List.nil_append, Bool.not_false]
    congr 1
    rw [List.replicate_succ]
    have hn : (false :: List.replicate k false).contains true = false := by
      rw [← Bool.not_eq_true, List.contains_iff_mem]
      simp
    show TL.dec (true :: false :: List.replicate k false) = _
    unfold TL.dec
    rw [if_neg (by rw [hn]; decide)]
    rfl
end PR
namespace Ev
open PySem L2 Dn
variable {ρ ρ1 ρ2 ρ3 : List Sl} {x y z r : Sl} {xs : List Sl} {a b : MX} {c d : MT} {A B : MA} {s t : MS} {o : Option Out}
theorem ixA {ds : List D} {dd : D} {k : Int} (h : a ρ = some (x, ρ1)) (h2 : b ρ1 = some (.val (.int k), ρ2)) (hk : atI ds k = some dd) (hx : seqOf x = some ds := by rfl) : mBin fIx a b ρ = some (.val dd, ρ2) := by
  refine bin h h2 ?_
  unfold fIx
  simp only
  split
  · simp at hx
  · rw [hx]
    simp only [hk, Option.map_some]
end Ev
namespace Ev
open PySem L2 Dn
variable {ρ ρ1 ρ2 ρ3 : List Sl} {x y z r : Sl} {xs : List Sl} {a b : MX} {c d : MT} {A B : MA} {s t : MS} {o : Option Out}
theorem extN {i : Nat} {ds0 ds es : List D} (h : a ρ = some (.own es, ρ1)) (hz : ds.length + es.length ≤ sizeLine) (h0 : ρ[i]? = some (.own ds0) := by rfl) (h1 : ρ1[i]? = some (.own ds) := by rfl) (h3 : ρ1.set i (.own (ds ++ es)) = ρ2 := by rfl) : mExtN i a ρ = some (.val .none, ρ2) := by
  unfold mExtN; rw [h0]; simp only; rw [h]; simp only; rw [h1]; simp only; rw [if_pos hz, h3]
end Ev
namespace Ev
open PySem L2 Dn
variable {ρ ρ1 ρ2 ρ3 : List Sl} {x y z r : Sl} {xs : List Sl} {a b : MX} {c d : MT} {A B : MA} {s t : MS} {o : Option Out}
theorem lrg {i j : Int} (h : a ρ = some (.val (.int i), ρ1)) (h2 : b ρ1 = some (.val (.int j), ρ2)) (hc : -(2 ^ 62) ≤ i ∧ i < 2 ^ 62 ∧ -(2 ^ 62) ≤ j ∧ j < 2 ^ 62 ∧ (j - i).toNat ≤ 2 ^ 24) : mLRg a b ρ = some (.own (rangeD i (j - i).toNat), ρ2) := by
  unfold mLRg; rw [h]; simp only; rw [h2]; simp only; rw [if_pos hc]
end Ev
namespace LE
open PySem L2 Dn PR LB LC
open TL (hd tog stepK rowL runsL dec put b2n Row)
def togI (xs : List Int) (p : Int) : List Int := if p ∈ xs then xs.filter (fun x => decide (x ≠ p)) else sortI (xs ++ [p])
theorem togI_spB (bs : List Bool) {p : Nat} (h1 : 1 ≤ p) (hp : p ≤ bs.length) : togI (spB bs) (p : Int) = spB (tog p bs) := by
  have hm : ∀ (cs : List Bool) (x : Int), x ∈ spB cs ↔ ∃ i : Nat, cs[i]? = some true ∧ x = 1 + i := fun cs x => spF_mem cs 1 x
  have key : ∀ x : Int, x ∈ spB (tog p bs) ↔ ((x ∈ spB bs ∧ x ≠ p) ∨ (x = p ∧ (p : Int) ∉ spB bs)) := fun x => by
    rw [hm, hm]
    constructor
    · rintro ⟨i, hi, rfl⟩
      rw [tog_get] at hi
      by_cases c : i + 1 = p
      · rw [if_pos c] at hi
        refine .inr ⟨by omega, fun hh => ?_⟩
        obtain ⟨j, hj, e⟩ := (hm bs _).mp hh
        have : j = i := by omega
        subst this
        rw [hj] at hi
        cases hi
      · rw [if_neg c] at hi
        exact .inl ⟨⟨i, hi, rfl⟩, by omega⟩
    · rintro (⟨⟨i, hi, rfl⟩, hne⟩ | ⟨rfl, hn⟩)
      · refine ⟨i, ?_, rfl⟩
        rw [tog_get, if_neg (by omega)]
        exact hi
      · refine ⟨p - 1, ?_, by omega⟩
        rw [tog_get, if_pos (by omega)]
        have hlt : p - 1 < bs.length := by omega
        rw [List.getElem?_eq_getElem hlt]
        cases hb : bs[p - 1] with
        | false => rfl
        | true =>
          exact absurd ((hm bs _).mpr ⟨p - 1, by rw [List.getElem?_eq_getElem hlt, hb], by omega⟩) hn
  have hr := spF_rise bs 1
  unfold togI
  split
  · rename_i h
    refine strict_ext (hr.sublist List.filter_sublist) (spF_rise _ 1) fun x => ?_
    rw [List.mem_filter, key]
    simp only [decide_eq_true_eq]
    constructor
    · rintro ⟨a, b⟩; exact .inl ⟨a, b⟩
    · rintro (⟨a, b⟩ | ⟨_, b⟩)
      · exact ⟨a, b⟩
      · exact absurd h b
  · rename_i h
    have hp2 := sortI_perm (spB bs ++ [(p : Int)])
    have hnd : (spB bs ++ [(p : Int)]).Nodup := by
      refine List.nodup_append.mpr ⟨hr.imp fun h => by omega, List.nodup_cons.mpr ⟨by simp, List.nodup_nil⟩, fun a ha b hb e => ?_⟩
      rw [List.mem_singleton] at hb
      subst hb e
      exact h ha
    have hs : (sortI (spB bs ++ [(p : Int)])).Pairwise (· ≤ ·) := by
      have := List.pairwise_mergeSort (le := fun a b : Int => decide (a ≤ b)) (fun a b c h1 h2 => by simp at *; omega) (fun a b => by simp; omega) (spB bs ++ [(p : Int)])
      exact this.imp fun h => by simpa using h
    have hst : (sortI (spB bs ++ [(p : Int)])).Pairwise (· < ·) := by
      have hnd2 : (sortI (spB bs ++ [(p : Int)])).Nodup := hp2.symm.nodup hnd
      exact (hs.and hnd2).imp fun ⟨h1, h2⟩ => by omega
    refine strict_ext hst (spF_rise _ 1) fun x => ?_
    rw [hp2.mem_iff, key, List.mem_append, List.mem_singleton]
    constructor
    · rintro (a | a)
      · by_cases c : x = p
        · subst c; exact absurd a h
        · exact .inl ⟨a, c⟩
      · exact .inr ⟨a, h⟩
    · rintro (⟨a, _⟩ | ⟨a, _⟩)
      · exact .inl a
      · exact .inr a
theorem next_step (X : Row) : nextI (spB X) = spB (stepK false X) := by
  have hl : (spB X).length = hd X := spF_len X 1
  have hh := TL.hd_le X
  unfold nextI
  by_cases h0 : spB X = []
  · rw [if_pos h0]
    have : hd X = 0 := by rw [← hl, h0]; rfl
    unfold TL.stepK
    rw [this]
    show [] = spB (tog 0 X)
    rw [TL.tog, h0]
  · rw [if_neg h0]
    have hp : 1 ≤ hd X := by rw [← hl]; exact List.length_pos_iff.mpr h0
    rw [hl]
    exact togI_spB X hp hh
theorem hd_tog {X : Row} {p : Nat} (h1 : 1 ≤ p) (hp : p ≤ X.length) : ((hd (tog p X) : Nat) : Int) = hd X + (if (p : Int) ∈ spB X then -1 else 1) := by
  have e := togI_spB X h1 hp
  have hl : (spB (tog p X)).length = hd (tog p X) := spF_len _ 1
  have hl0 : (spB X).length = hd X := spF_len _ 1
  rw [← hl, ← e, ← hl0]
  unfold togI
  split
  · rename_i h
    have hnd : (spB X).Nodup := (spF_rise X 1).imp fun h => by omega
    have : ∀ (l : List Int), l.Nodup → (p : Int) ∈ l → (l.filter fun x => decide (x ≠ (p : Int))).length + 1 = l.length := by
      intro l
      induction l with
      | nil => intro _ h; cases h
      | cons a l ih =>
        intro hn hm
        rw [List.nodup_cons] at hn
        by_cases c : a = p
        · have hf : (l.filter fun x => decide (x ≠ (p : Int))) = l := List.filter_eq_self.mpr fun x hx => by
            simp only [decide_eq_true_eq]
            intro e; rw [e, ← c] at hx; exact hn.1 hx
          rw [List.filter_cons_of_neg (by simp [c]), hf, List.length_cons]
        · rw [List.filter_cons_of_pos (by simp [c]), List.length_cons, List.length_cons, ih hn.2 (by
            rcases List.mem_cons.mp hm with e | e
            · exact absurd e.symm c
            · exact e)]
    have := this _ hnd h
    omega
  · rw [(sortI_perm _).length_eq, List.length_append]
    simp
theorem hd_rep (m : Nat) (b : Bool) : hd (List.replicate m b) = if b then m else 0 := by
  induction m with
  | zero => cases b <;> rfl
  | succ m ih =>
    rw [List.replicate_succ]
    cases b
    · simp only [Bool.false_eq_true, if_false] at ih ⊢
      exact ih
    · simp only [if_true] at ih ⊢
      show hd (true :: _) = _
      simp [hd, ih]
theorem way_dec : ∀ (T : List Bool) (r : Bool), T.contains true = true → ((hd (rowL r (dec T)) : Nat) : Int) = hd (rowL r T) + (if (decide (hd T % 2 = 1) != r) = true then -1 else 1)
  | [], r, h => by simp at h
  | c :: T, r, h => by
    cases hT : T.contains true
    · have hTf := TL.all_false hT
      have hc : c = true := by
        rw [List.contains_cons, hT] at h
        simpa using h
      subst hc
      have h1 : hd (true :: T) = 1 := by
        rw [hTf]
        simp [hd, List.count_replicate]
      rw [h1]
      cases T with
      | nil => cases r <;> decide
      | cons d U =>
        have hd' : d = false ∧ U = List.replicate U.length false := by
          simp only [List.length_cons, List.replicate_succ, List.cons.injEq] at hTf
          exact hTf
        obtain ⟨rfl, hU⟩ := hd'
        have hdec : dec (true :: false :: U) = false :: true :: U := by
          unfold dec
          rw [hT]
          rfl
        rw [hdec]
        have e1 : hd (rowL r (false :: true :: U)) = hd (List.replicate U.length (!r)) + b2n (!r) + b2n r := by
          show hd (put r (false != r) (put (false != r) (true != (false != r)) (rowL (true != (false != r)) U))) = _
          rw [TL.hd_put, TL.hd_put, hU, TL.row_none]
          cases r <;> simp
        have e2 : hd (rowL r (true :: false :: U)) = hd (List.replicate (U.length + 1) (!r)) + b2n (!r) := by
          show hd (put r (true != r) (put (true != r) (false != (true != r)) (rowL (false != (true != r)) U))) = _
          rw [TL.hd_put, TL.hd_put, hU, TL.row_none, hd_rep, hd_rep]
          cases r <;> simp [b2n]
        rw [e1, e2, hd_rep, hd_rep]
        cases r <;> simp [b2n] <;> omega
    · have ih := way_dec T (c != r) hT
      have hdec : dec (c :: T) = c :: dec T := by
        show (if T.contains true = true then c :: dec T else _) = _
        rw [if_pos hT]
      have e1 : ∀ U, hd (rowL r (c :: U)) = hd (rowL (c != r) U) + b2n (c != r) := fun U => by
        show hd (put r (c != r) (rowL (c != r) U)) = _
        rw [TL.hd_put]
      have e2 : hd (c :: T) = hd T + b2n c := by cases c <;> simp [hd, b2n]
      rw [hdec, e1, e1, e2]
      have hp : (decide ((hd T + b2n c) % 2 = 1) != r) = (decide (hd T % 2 = 1) != (c != r)) := by
        rcases Nat.mod_two_eq_zero_or_one (hd T) with hh | hh <;> cases c <;> cases r <;> simp [b2n, hh, Nat.add_mod]
      rw [hp]
      push_cast
      omega
theorem way_row {X : Row} (h : spB X ≠ []) : ((hd X : Nat) : Int) ∈ spB X ↔ hd (runsL X.length false X) % 2 = 1 := by
  have hl : (spB X).length = hd X := spF_len X 1
  have hp : 1 ≤ hd X := by rw [← hl]; exact List.length_pos_iff.mpr h
  have hst : (runsL X.length false X).contains true = true := by
    cases hc : (runsL X.length false X).contains true with
    | true => rfl
    | false =>
      have := (TL.runs_stuck X.length false X rfl).mpr hc
      unfold TL.stuckR at this
      simp at this
      omega
  have e1 := way_dec (runsL X.length false X) false hst
  have e2 : rowL false (dec (runsL X.length false X)) = stepK false X := by
    rw [← TL.step_row, TL.row_runs X.length false X rfl]
  rw [e2, TL.row_runs X.length false X rfl] at e1
  have e3 : stepK false X = tog (hd X) X := rfl
  have e4 := hd_tog hp (TL.hd_le X)
  rw [← e3, e1] at e4
  simp only [Bool.bne_false, decide_eq_true_eq] at e4
  by_cases c : ((hd X : Nat) : Int) ∈ spB X
  · rw [if_pos c] at e4
    constructor
    · intro _
      by_cases d : hd (runsL X.length false X) % 2 = 1
      · exact d
      · rw [if_neg d] at e4; omega
    · exact fun _ => c
  · rw [if_neg c] at e4
    constructor
    · exact fun d => absurd d c
    · intro d
      rw [if_pos d] at e4; omega
end LE
namespace LE
open PySem L2 Dn PR LB LC
open TL (hd tog rowL runsL dec put b2n Row)
theorem spF_rep (s : Int) : ∀ (k : Nat) (Y : List Bool), LC.spF s (List.replicate k false ++ Y) = LC.spF (s + k) Y
  | 0, Y => by simp
  | k + 1, Y => by
    have ih := spF_rep (s + 1) k Y
    rw [List.replicate_succ, List.cons_append]
    show LC.spF (s + 1) (List.replicate k false ++ Y) = _
    rw [ih]
    congr 1
    push_cast
    omega
theorem spF_split : ∀ (A : List Bool) (s m : Int) (R : List Int), LC.spF s A = m :: R → ∃ (k : Nat) (B : List Bool), A = List.replicate k false ++ true :: B ∧ m = s + k ∧ R = LC.spF (m + 1) B
  | [], s, m, R, h => by simp [LC.spF] at h
  | true :: A, s, m, R, h => by
    have h' : s :: LC.spF (s + 1) A = m :: R := h
    obtain ⟨rfl, rfl⟩ := List.cons.inj h'
    exact ⟨0, A, rfl, by simp, rfl⟩
  | false :: A, s, m, R, h => by
    have h' : LC.spF (s + 1) A = m :: R := h
    obtain ⟨k, B, e1, e2, e3⟩ := spF_split A (s + 1) m R h'
    exact ⟨k + 1, B, by rw [e1]; rfl, by rw [e2]; push_cast; omega, e3⟩
def less (P : List Int) : List Int := match P with
  | m :: R => if m = 1 then R else (m - 1) :: R
  | [] => []
theorem dec_spB {A : List Bool} (h : spB A ≠ []) : spB (dec A.reverse).reverse = less (spB A) := by
  obtain ⟨m, R, e⟩ : ∃ m R, spB A = m :: R := List.exists_cons_of_ne_nil h
  obtain ⟨k, B, rfl, hm, hR⟩ := spF_split A 1 m R e
  rw [e, dec_low, List.reverse_reverse]
  have h1 := tog_at (List.replicate k false) true B
  rw [List.length_replicate] at h1
  rw [h1]
  unfold less
  simp only
  cases k with
  | zero =>
    rw [if_pos (by omega)]
    rw [TL.tog]
    show LC.spF 2 B = R
    rw [hR, hm]
    rfl
  | succ j =>
    rw [if_neg (by push_cast at hm; omega)]
    have h2 := tog_at (List.replicate j false) false (false :: B)
    rw [List.length_replicate] at h2
    have e2 : List.replicate (j + 1) false ++ (!true) :: B = List.replicate j false ++ false :: false :: B := by
      rw [List.replicate_succ', List.append_assoc]; rfl
    rw [e2, h2]
    show LC.spF 1 (List.replicate j false ++ true :: false :: B) = _
    rw [spF_rep]
    show (1 + (j : Int)) :: LC.spF (1 + (j : Int) + 1 + 1) B = _
    rw [hR, hm]
    have e3 : (1 : Int) + ((j + 1 : Nat) : Int) - 1 = 1 + (j : Int) := by push_cast; omega
    have e4 : (1 : Int) + ((j + 1 : Nat) : Int) + 1 = 1 + (j : Int) + 1 + 1 := by push_cast; omega
    rw [e3, e4]
theorem spF_ge : ∀ (A : List Bool) (s x : Int), x ∈ LC.spF s A → s ≤ x := fun A s x h => by
  obtain ⟨i, _, e⟩ := (spF_mem A s x).mp h
  omega
def waysL (P : List Int) : List Bool := match P with
  | m :: R => List.replicate m.toNat (decide ((R.length + 1) % 2 = 1)) ++ waysL R
  | [] => []
theorem ways_less {P : List Int} (h : P ≠ []) (hp : ∀ x ∈ P, 1 ≤ x) : waysL P = decide (P.length % 2 = 1) :: waysL (less P) := by
  cases P with
  | nil => exact absurd rfl h
  | cons m R =>
    have hm := hp m (List.mem_cons_self ..)
    unfold less
    simp only [waysL]
    by_cases c : m = 1
    · subst c
      rw [if_pos rfl]
      rfl
    · rw [if_neg c]
      obtain ⟨k, hk⟩ : ∃ k : Nat, m.toNat = k + 1 := ⟨m.toNat - 1, by omega⟩
      have hk2 : (m - 1).toNat = k := by omega
      simp only [waysL]
      rw [hk, hk2, List.replicate_succ]
      rfl
theorem less_sum {P : List Int} (h : P ≠ []) : (less P).sum = P.sum - 1 := by
  cases P with
  | nil => exact absurd rfl h
  | cons m R =>
    unfold less
    simp only
    by_cases c : m = 1
    · subst c; rw [if_pos rfl]; simp; omega
    · rw [if_neg c]; simp; omega
def runsP (X : Row) : List Int := spB (runsL X.length false X).reverse
theorem hd_rev (X : List Bool) : hd X.reverse = hd X := by simp [hd]
theorem runsP_len (X : Row) : (runsP X).length = hd (runsL X.length false X) := by
  unfold runsP
  rw [spF_len, hd_rev]
theorem runsP_ge {X : Row} {x : Int} (h : x ∈ runsP X) : 1 ≤ x := spF_ge _ 1 x h
theorem runsP_nil (X : Row) : runsP X = [] ↔ spB X = [] := by
  have h1 := TL.runs_stuck X.length false X rfl
  have h2 : (spB X).length = hd X := spF_len X 1
  have h3 := runsP_len X
  have h4 : (runsL X.length false X).contains true = false ↔ hd (runsL X.length false X) = 0 := by
    rw [← Bool.not_eq_true, List.contains_iff_mem]
    simp [hd, List.count_eq_zero]
  rw [← List.length_eq_zero_iff, ← List.length_eq_zero_iff, h2, h3, ← h4, ← h1]
  simp [TL.stuckR]
theorem runsP_step {X : Row} (h : spB X ≠ []) : runsP (TL.stepK false X) = less (runsP X) ∧ (TL.stepK false X).length = X.length := by
  have hl : (TL.stepK false X).length = X.length := TL.tog_len _ _
  refine ⟨?_, hl⟩
  unfold runsP
  rw [hl, TL.runs_step rfl]
  have := dec_spB (A := (runsL X.length false X).reverse) (fun e => h ((runsP_nil X).mp e))
  rw [List.reverse_reverse] at this
  exact this
theorem runsP_way {X : Row} (h : spB X ≠ []) : decide (((hd X : Nat) : Int) ∈ spB X) = decide ((runsP X).length % 2 = 1) := by
  rw [runsP_len]
  exact decide_eq_decide.mpr (way_row h)
theorem sum_pos : ∀ (P : List Int), (∀ x ∈ P, 1 ≤ x) → 0 ≤ P.sum ∧ (P ≠ [] → 1 ≤ P.sum)
  | [], _ => ⟨by simp, fun h => absurd rfl h⟩
  | m :: R, h => by
    have := sum_pos R fun x hx => h x (List.mem_cons_of_mem _ hx)
    have hm := h m (List.mem_cons_self ..)
    simp
    omega
theorem ways_len : ∀ (P : List Int), (∀ x ∈ P, 1 ≤ x) → ((waysL P).length : Int) = P.sum
  | [], _ => by simp [waysL]
  | m :: R, h => by
    have := ways_len R fun x hx => h x (List.mem_cons_of_mem _ hx)
    have hm := h m (List.mem_cons_self ..)
    simp [waysL]
    omega
def stepG (a : List Int × Option Bool) (b : Bool) : List Int × Option Bool := if a.2 = some b then (a.1.dropLast ++ [a.1.getLastD 0 + 1], some b) else (a.1 ++ [1], some b)
def gl (w : List Bool) : List Int × Option Bool := w.foldl stepG ([], none)
theorem stepG_rep (b : Bool) : ∀ (m : Nat) (f : List Int) (z : Int), (List.replicate m b).foldl stepG (f ++ [z], some b) = (f ++ [z + m], some b)
  | 0, f, z => by simp
  | m + 1, f, z => by
    rw [List.replicate_succ, List.foldl_cons]
    have : stepG (f ++ [z], some b) b = (f ++ [z + 1], some b) := by
      unfold stepG
      simp
    rw [this, stepG_rep b m f (z + 1)]
    congr 3
    push_cast
    omega
theorem gl_ways : ∀ (P f : List Int) (o : Option Bool), (∀ x ∈ P, 1 ≤ x) → (o = none ∨ o = some (decide ((P.length + 1) % 2 = 1))) → ((waysL P).foldl stepG (f, o)).1 = f ++ P
  | [], f, o, _, _ => by simp [waysL]
  | m :: R, f, o, h, ho => by
    have hm := h m (List.mem_cons_self ..)
    obtain ⟨k, hk⟩ : ∃ k : Nat, m.toNat = k + 1 := ⟨m.toNat - 1, by omega⟩
    simp only [waysL]
    rw [List.foldl_append, hk, List.replicate_succ, List.foldl_cons]
    have hne : o ≠ some (decide ((R.length + 1) % 2 = 1)) := by
      rcases ho with rfl | rfl
      · simp
      · intro e
        have e := Option.some.inj e
        rw [List.length_cons] at e
        rcases Nat.mod_two_eq_zero_or_one R.length with c | c <;> simp [c, Nat.add_mod] at e
    have h1 : stepG (f, o) (decide ((R.length + 1) % 2 = 1)) = (f ++ [1], some (decide ((R.length + 1) % 2 = 1))) := by
      unfold stepG
      simp only
      rw [if_neg hne]
    rw [h1, stepG_rep, gl_ways R _ _ (fun x hx => h x (List.mem_cons_of_mem _ hx)) (.inr rfl), List.append_assoc]
    rw [show (1 : Int) + (k : Int) = m by omega]
    rfl
theorem gl_last (w : List Bool) : (gl w).2 = w.getLast? := by
  rcases List.eq_nil_or_concat w with rfl | ⟨v, b, rfl⟩
  · rfl
  · unfold gl
    rw [List.concat_eq_append, List.foldl_append, List.foldl_cons, List.foldl_nil]
    unfold stepG
    split <;> simp
theorem gl_runs (P : List Int) (h : ∀ x ∈ P, 1 ≤ x) : (gl (waysL P)).1 = P := gl_ways P [] none h (.inl rfl)
end LE
namespace LE
open PySem L2 Dn PR LB LC
open TL (hd tog rowL runsL dec put b2n Row)
theorem isL_dat {r : Sl} {ds : List D} (h : datOf r = some (.list ds)) : IsL r ds := by
  cases r with
  | val d => exact .inl (by simp at h; rw [h])
  | own es => exact .inr (by simp at h; rw [h])
  | un => cases h
  | ex c => cases h
theorem runs_while : ∀ (k : Nat) (X : Row) (x s1' s3 : Sl) (acc : List D), X.length ≤ 2000 → (runsP X).sum ≤ k → acc.length + k ≤ 50000 → IsL x ((spB X).map PyData.int) →
    ∃ f, mIter lt__law_runs_1 lb__law_runs_2 f [x, s1', .own acc, s3] = some (.nx [.val (.list []), s1', .own (acc ++ (waysL (runsP X)).map PyData.bool), s3]) := by
  intro k
  induction k with
  | zero =>
    intro X x s1' s3 acc hX hs ha hx
    have hP := sum_pos (runsP X) fun y hy => runsP_ge hy
    have hP0 : runsP X = [] := by
      by_cases c : runsP X = []
      · exact c
      · have := hP.2 c; omega
    have hS := (runsP_nil X).mp hP0
    rw [hP0]
    rw [hS] at hx
    have hv := varL hx (i := 0) (ρ := [x, s1', .own acc, s3]) rfl
    have f1 : fEq true (.val (.list [])) (.own []) = some (.val (.bool false)) := ne_row [] []
    refine ⟨1, ?_⟩
    have e : lt__law_runs_1 [x, s1', .own acc, s3] = some (false, [.val (.list []), s1', .own acc, s3]) := by
      unfold lt__law_runs_1
      exact Ev.tB (Ev.bin hv (Ev.lst Ev.nil) f1)
    rw [mIter_end e]
    simp [waysL]
  | succ k ih =>
    intro X x s1' s3 acc hX hs ha hx
    by_cases hS : spB X = []
    · have hP0 := (runsP_nil X).mpr hS
      rw [hP0]
      rw [hS] at hx
      have hv := varL hx (i := 0) (ρ := [x, s1', .own acc, s3]) rfl
      have f1 : fEq true (.val (.list [])) (.own []) = some (.val (.bool false)) := ne_row [] []
      refine ⟨1, ?_⟩
      have e : lt__law_runs_1 [x, s1', .own acc, s3] = some (false, [.val (.list []), s1', .own acc, s3]) := by
        unfold lt__law_runs_1
        exact Ev.tB (Ev.bin hv (Ev.lst Ev.nil) f1)
      rw [mIter_end e]
      simp [waysL]
    · have hv := varL hx (i := 0) (ρ := [x, s1', .own acc, s3]) rfl
      have hl : (spB X).length = hd X := spF_len X 1
      have hle := TL.hd_le X
      have f0 : fEq true (.val (.list ((spB X).map PyData.int))) (.own []) = some (.val (.bool true)) := by
        have h1 := shaped_ints (spB X)
        have h2 := eqv_nil ((spB X).map PyData.int)
        have h3 : ((spB X).map PyData.int).isEmpty = false := by
          cases h : spB X with
          | nil => exact absurd h hS
          | cons a b => rfl
        rw [h3] at h2
        generalize (spB X).map PyData.int = NS at *
        unfold fEq
        simp only [datOf]
        rw [h1, h2]
        rfl
      have et : lt__law_runs_1 [x, s1', .own acc, s3] = some (true, [.val (.list ((spB X).map PyData.int)), s1', .own acc, s3]) := by
        unfold lt__law_runs_1
        exact Ev.tB (Ev.bin hv (Ev.lst Ev.nil) f0)
      have f1 : fLen [.val (.list ((spB X).map PyData.int))] = some (.val (.int ((hd X : Nat) : Int))) := by simp [hl]
      have f2 := in_ints ((hd X : Nat) : Int) (spB X)
      rw [runsP_way hS] at f2
      obtain ⟨r, f3, hr⟩ := next_ok (spB X) (by omega)
      rw [next_step] at hr
      have hz : acc.length < sizeLine := sizeL (by omega)
      obtain ⟨hstep, hlen⟩ := runsP_step hS
      have hPne : runsP X ≠ [] := fun e => hS ((runsP_nil X).mp e)
      have eb : lb__law_runs_2 [.val (.list ((spB X).map PyData.int)), s1', .own acc, s3] = some (.nx [r, s1', .own (acc ++ [PyData.bool (decide ((runsP X).length % 2 = 1))]), s3]) := by
        generalize (spB X).map PyData.int = NS at *
        generalize decide ((runsP X).length % 2 = 1) = w at *
        unfold lb__law_runs_2
        exact Ev.seq (Ev.expr (Ev.meth (Ev.cons (Ev.bin (Ev.fn (Ev.cons (Ev.var 0) Ev.nil) f1) (Ev.var 0) f2) Ev.nil) (Ev.app hz)))
          (Ev.asg (Ev.call (Ev.cons (Ev.var 0) Ev.nil) f3))
      obtain ⟨f, ef⟩ := ih (TL.stepK false X) r s1' s3 (acc ++ [PyData.bool (decide ((runsP X).length % 2 = 1))]) (by omega) (by rw [hstep, less_sum hPne]; omega) (by rw [List.length_append, List.length_singleton]; omega) (isL_dat hr)
      refine ⟨f + 1, mIter_step et eb ?_⟩
      rw [ef, hstep, ways_less hPne fun y hy => runsP_ge hy]
      simp
theorem gl_take {w : List Bool} {i : Nat} (hi : i < w.length) : gl (w.take (i + 1)) = stepG (gl (w.take i)) w[i] := by
  unfold gl
  rw [List.take_succ_eq_append_getElem hi, List.foldl_append]
  rfl
theorem gl_ne {w : List Bool} (h : w ≠ []) : (gl w).1 ≠ [] := by
  rcases List.eq_nil_or_concat w with rfl | ⟨v, b, rfl⟩
  · exact absurd rfl h
  · unfold gl
    rw [List.concat_eq_append, List.foldl_append, List.foldl_cons, List.foldl_nil]
    unfold stepG
    split <;> simp
theorem gl_len : ∀ (w : List Bool), (gl w).1.length ≤ w.length := by
  intro w
  have key : ∀ (w : List Bool) (a : List Int × Option Bool), (w.foldl stepG a).1.length ≤ a.1.length + w.length := by
    intro w
    induction w with
    | nil => intro a; simp
    | cons b w ih =>
      intro a
      rw [List.foldl_cons]
      have h1 := ih (stepG a b)
      have h2 : (stepG a b).1.length ≤ a.1.length + 1 := by
        unfold stepG
        split <;> simp <;> omega
      simp
      omega
  have := key w ([], none)
  simpa [gl] using this
theorem runs_turn3 {w : List Bool} {i : Nat} (hi : i < w.length) (hw : w.length ≤ 50000) (s0 : Sl) : lb__law_runs_3 [s0, .own ((gl (w.take i)).1.map PyData.int), .own (w.map PyData.bool), .val (.int (i : Int))] = some (.nx [s0, .own ((gl (w.take (i + 1))).1.map PyData.int), .own (w.map PyData.bool), .val (.int (i : Int))]) := by
  rw [gl_take hi]
  have hl := gl_len (w.take i)
  have hlt := List.length_take_le i w
  have hz : ((gl (w.take i)).1.map PyData.int).length < sizeLine := by rw [List.length_map]; exact sizeL (by omega)
  have hlast := gl_last (w.take i)
  by_cases h0 : i = 0
  · subst h0
    have f1 : (fB fun i j => decide (j < i)) (.val (.int ((0 : Nat) : Int))) (.val (.int 0)) = some (.val (.bool false)) := rfl
    have e : stepG (gl (w.take 0)) w[0] = (([] : List Int) ++ [1], some w[0]) := by
      rw [List.take_zero]
      rfl
    rw [e]
    show lb__law_runs_3 [s0, .own [], .own (w.map PyData.bool), .val (.int ((0 : Nat) : Int))] = some (.nx [s0, .own ([] ++ [PyData.int 1]), .own (w.map PyData.bool), .val (.int ((0 : Nat) : Int))])
    have hz : ([] : List D).length < sizeLine := sizeL (by simp)
    generalize w.map PyData.bool = WD at *
    unfold lb__law_runs_3
    exact Ev.ifS_f (Ev.tAnd_f (Ev.tB (Ev.bin (Ev.var 3) (Ev.cst _) f1))) (Ev.expr (Ev.meth (Ev.cons (Ev.cst _) Ev.nil) (Ev.app hz)))
  · have f1 : (fB fun i j => decide (j < i)) (.val (.int (i : Int))) (.val (.int 0)) = some (.val (.bool true)) := by
      show some (Sl.val (PyData.bool (decide _))) = _
      rw [decide_eq_true (by omega)]
    have f2 : atI (w.map PyData.bool) (i : Int) = some (.bool w[i]) := atI_nat' (by rw [List.getElem?_map, List.getElem?_eq_getElem hi]; rfl)
    have f3 : atI (w.map PyData.bool) ((i : Int) - 1) = some (.bool (w[i - 1]'(by omega))) := by
      rw [show (i : Int) - 1 = ((i - 1 : Nat) : Int) by omega]
      exact atI_nat' (by rw [List.getElem?_map, List.getElem?_eq_getElem (by omega)]; rfl)
    have f4 := fEq_bool false w[i] (w[i - 1]'(by omega))
    have hl2 : (gl (w.take i)).2 = some (w[i - 1]'(by omega)) := by
      rw [hlast, List.getLast?_take, if_neg (by omega), List.getElem?_eq_getElem (by omega)]
      rfl
    by_cases c : w[i] = w[i - 1]'(by omega)
    · have hb : (w[i] == w[i - 1]'(by omega)) = true := by rw [c]; simp
      simp only [Bool.false_eq_true, if_false] at f4
      rw [hb] at f4
      have hne := gl_ne (w := w.take i) (fun e => by
        rcases List.take_eq_nil_iff.mp e with h | h
        · exact h0 h
        · rw [h] at hi; simp at hi)
      obtain ⟨g, z, hg⟩ : ∃ g z, (gl (w.take i)).1 = g ++ [z] := by
        rcases List.eq_nil_or_concat (gl (w.take i)).1 with e | ⟨g, z, e⟩
        · exact absurd e hne
        · exact ⟨g, z, by rw [e, List.concat_eq_append]⟩
      have e : (stepG (gl (w.take i)) w[i]).1 = g ++ [z + 1] := by
        unfold stepG
        rw [hl2, if_pos (by rw [c]), hg]
        simp
      rw [e, hg, List.map_append, List.map_append]
      have f5 : fNeg (.val (.int 1)) = some (.val (.int (-1))) := rfl
      have f6 : atI (g.map PyData.int ++ [z].map PyData.int) (-1) = some (.int z) := atI_end (by simp)
      have f7 : ixN (g.map PyData.int ++ [z].map PyData.int).length (-1) = some (g.map PyData.int).length := by
        rw [List.length_append]
        exact ixN_end _
      have es : (g.map PyData.int ++ [z].map PyData.int).set (g.map PyData.int).length (.int (z + 1)) = g.map PyData.int ++ [z + 1].map PyData.int := by
        rw [List.set_append_right _ _ (Nat.le_refl _), Nat.sub_self]
        rfl
      rw [← es]
      clear es e hg hne hl2
      generalize w.map PyData.bool = WD at *
      generalize g.map PyData.int ++ [z].map PyData.int = GZ at *
      generalize (g.map PyData.int).length = gln at *
      unfold lb__law_runs_3
      exact Ev.ifS_t (Ev.tAnd_t (Ev.tB (Ev.bin (Ev.var 3) (Ev.cst _) f1)) (Ev.tB (Ev.bin (Ev.ixO (Ev.var 3) f2) (Ev.ixO (Ev.bin (Ev.var 3) (Ev.cst _) Ev.sub) f3) f4))) (Ev.setO (Ev.bin (Ev.ixO (Ev.un (Ev.cst _) f5) f6) (Ev.cst _) rfl) (Ev.un (Ev.cst _) f5) f7)
    · have hb : (w[i] == w[i - 1]'(by omega)) = false := by
        cases h1 : w[i] <;> cases h2 : w[i - 1]'(by omega) <;> simp [h1, h2] at c ⊢
      simp only [Bool.false_eq_true, if_false] at f4
      rw [hb] at f4
      have e : (stepG (gl (w.take i)) w[i]).1 = (gl (w.take i)).1 ++ [1] := by
        unfold stepG
        rw [hl2, if_neg (fun e => c (Option.some.inj e).symm)]
      rw [e, List.map_append]
      show lb__law_runs_3 _ = some (.nx [s0, .own ((gl (w.take i)).1.map PyData.int ++ [PyData.int 1]), .own (w.map PyData.bool), .val (.int (i : Int))])
      clear e hl2
      generalize w.map PyData.bool = WD at *
      generalize (gl (w.take i)).1.map PyData.int = GZ at *
      unfold lb__law_runs_3
      exact Ev.ifS_f (Ev.tAnd_t (Ev.tB (Ev.bin (Ev.var 3) (Ev.cst _) f1)) (Ev.tB (Ev.bin (Ev.ixO (Ev.var 3) f2) (Ev.ixO (Ev.bin (Ev.var 3) (Ev.cst _) Ev.sub) f3) f4))) (Ev.expr (Ev.meth (Ev.cons (Ev.cst _) Ev.nil) (Ev.app hz)))
theorem runs_law {X : Row} (hX : X.length ≤ 200) (hs : (runsP X).sum ≤ 40000) (x : Sl) (hx : IsL x ((spB X).map PyData.int)) : mf__law_runs [x] = some (.own ((runsP X).map PyData.int), [.un]) := by
  obtain ⟨k, hk⟩ : ∃ k : Nat, (runsP X).sum = (k : Int) := ⟨(runsP X).sum.toNat, by have := (sum_pos (runsP X) fun y hy => runsP_ge hy).1; omega⟩
  obtain ⟨f, ef⟩ := runs_while k X x (.own []) .un [] (by omega) (by omega) (by simp; omega) hx
  have f1 := mWhile_of ef
  rw [List.nil_append] at f1
  have hwl := ways_len (runsP X) fun y hy => runsP_ge hy
  have hg := gl_runs (runsP X) fun y hy => runsP_ge hy
  generalize waysL (runsP X) = w at *
  obtain ⟨ρ', f2, t, rfl⟩ := LF.for_times (lb := lb__law_runs_3) (W := fun i ρ => ∃ t : Sl, ρ = [.val (.list []), .own ((gl (w.take i)).1.map PyData.int), .own (w.map PyData.bool), t]) 3 (fun _ => false) w.length (ρ := [.val (.list []), .own [], .own (w.map PyData.bool), .un]) ⟨_, by rw [List.take_zero]; rfl⟩ (fun i ρ hi hW => by
    obtain ⟨t, rfl⟩ := hW
    have e := runs_turn3 hi (by omega) (.val (.list []))
    refine ⟨[.val (.list []), .own ((gl (w.take i)).1.map PyData.int), .own (w.map PyData.bool), .val (.int (i : Int))], _, ?_, e, _, rfl⟩
    generalize (gl (w.take i)).1.map PyData.int = G
    generalize w.map PyData.bool = WD
    exact Ev.gN)
  rw [List.take_length, hg] at f2
  have hlen : (w.map PyData.bool).length = w.length := by simp
  rw [← hlen] at f2
  have hb : (w.map PyData.bool).length ≤ 50000 := by omega
  generalize w.map PyData.bool = WD at *
  generalize (runsP X).map PyData.int = P at *
  unfold mf__law_runs
  refine Ev.defR (ρ' := [.val (.list []), .un, .own WD, t]) ?_
  unfold mb__law_runs
  exact Ev.seq (Ev.asg (Ev.lst (Ev.nil)))
          (Ev.seq (Ev.asg (Ev.lst (Ev.nil)))
          (Ev.seq (f1)
          (Ev.seq (Ev.forS' (miR1_of (n := WD.length) (Ev.cons (Ev.lenO) Ev.nil) (by omega)) f2)
          (Ev.retO 1))))
end LE
namespace LE
open PySem L2 Dn PR LB LC
def spreadR (r : RowT) : List Int := r.flatMap fun q => (List.range (q.2 + 1 - q.1).toNat).map fun k : Nat => q.1 + (k : Int)
theorem spreadR_mem (r : RowT) (x : Int) : x ∈ spreadR r ↔ memR r x := by
  unfold spreadR memR
  rw [List.mem_flatMap]
  constructor
  · rintro ⟨q, hq, hx⟩
    obtain ⟨k, hk, rfl⟩ := List.mem_map.mp hx
    rw [List.mem_range] at hk
    exact ⟨q, hq, by omega, by omega⟩
  · rintro ⟨q, hq, h1, h2⟩
    exact ⟨q, hq, List.mem_map.mpr ⟨(x - q.1).toNat, List.mem_range.mpr (by omega), by omega⟩⟩
theorem spreadR_rise : ∀ {r : RowT} {f : Int}, okF f r = true → (spreadR r).Pairwise (· < ·)
  | [], _, _ => .nil
  | q :: r, f, h => by
    rw [okF_cons] at h
    have ih := spreadR_rise h.2.2
    show (((List.range (q.2 + 1 - q.1).toNat).map fun k : Nat => q.1 + (k : Int)) ++ spreadR r).Pairwise (· < ·)
    rw [List.pairwise_append]
    refine ⟨?_, ih, fun a ha b hb => ?_⟩
    · rw [List.pairwise_map]
      exact List.pairwise_lt_range.imp fun h => by omega
    · obtain ⟨k, hk, rfl⟩ := List.mem_map.mp ha
      rw [List.mem_range] at hk
      obtain ⟨p, hp, h1, h2⟩ := (spreadR_mem r b).mp hb
      have := okF_ge h.2.2 hp
      omega
theorem spread_bits {n : Nat} {r : RowT} (w : TLR.within n r) : spreadR r = spB (TLR.bits n r) := by
  refine strict_ext (spreadR_rise w.1) (spF_rise _ 1) fun x => ?_
  rw [spreadR_mem, spF_mem]
  constructor
  · intro h
    have hx := TLR.within_mem w h
    refine ⟨(x - 1).toNat, ?_, by omega⟩
    rw [TLR.bits_get (by omega)]
    congr 1
    rw [show (((x - 1).toNat : Nat) : Int) + 1 = x by omega]
    exact hasB_iff.mpr h
  · rintro ⟨i, hi, rfl⟩
    have hin : i < n := by
      have := (List.getElem?_eq_some_iff.mp hi).1
      rwa [TLR.bits_len] at this
    rw [TLR.bits_get hin] at hi
    have := hasB_iff.mp (Option.some.inj hi)
    rwa [Int.add_comm] at this
abbrev spreadB : MS := mExpr (mExtN 1 (mLRg (mVar 2) (mBin fAdd (mVar 3) (mC (.int 1)))))
theorem spread_loop (s0 : Sl) : ∀ (r : RowT) (acc : List D) (s2 s3 : Sl), (∀ q ∈ r, 0 ≤ q.1 ∧ q.1 ≤ q.2 ∧ q.2 ≤ 5000) → acc.length + (spreadR r).length ≤ 90000 →
    ∃ t2 t3 : Sl, mLoop (mgL (fun _ => false) [2, 3]) spreadB (r.map pairD) [s0, .own acc, s2, s3] = some (.nx [s0, .own (acc ++ (spreadR r).map PyData.int), t2, t3])
  | [], acc, s2, s3, _, _ => ⟨s2, s3, by simp [spreadR, mLoop]⟩
  | q :: r, acc, s2, s3, hq, hl => by
    have h := hq q (List.mem_cons_self ..)
    have es : spreadR (q :: r) = ((List.range (q.2 + 1 - q.1).toNat).map fun k : Nat => q.1 + (k : Int)) ++ spreadR r := rfl
    rw [es, List.length_append, List.length_map, List.length_range] at hl
    have er : rangeD q.1 (q.2 + 1 - q.1).toNat = ((List.range (q.2 + 1 - q.1).toNat).map fun k : Nat => q.1 + (k : Int)).map PyData.int := by
      unfold rangeD
      rw [List.map_map]
      rfl
    have hz : acc.length + (rangeD q.1 (q.2 + 1 - q.1).toNat).length ≤ sizeLine := by
      rw [er, List.length_map, List.length_map, List.length_range]
      exact sizeN (by omega)
    have hc : -(2 ^ 62) ≤ q.1 ∧ q.1 < 2 ^ 62 ∧ -(2 ^ 62) ≤ q.2 + 1 ∧ q.2 + 1 < 2 ^ 62 ∧ (q.2 + 1 - q.1).toNat ≤ 2 ^ 24 := by omega
    obtain ⟨t2, t3, e⟩ := spread_loop s0 r (acc ++ rangeD q.1 (q.2 + 1 - q.1).toNat) (.val (.int q.1)) (.val (.int q.2)) (fun x hx => hq x (List.mem_cons_of_mem _ hx)) (by
      rw [List.length_append, er, List.length_map, List.length_map, List.length_range]; omega)
    refine ⟨t2, t3, ?_⟩
    rw [es, List.map_append, ← er, ← List.append_assoc]
    rw [List.map_cons]
    exact Ev.loop_nx (ρ1 := [s0, .own acc, .val (.int q.1), .val (.int q.2)]) Ev.gT2 (Ev.expr (Ev.extN (Ev.lrg (Ev.var 2) (Ev.bin (Ev.var 3) (Ev.cst _) rfl) hc) hz)) e
theorem spread_def {r : RowT} {x : Sl} (hx : IsL x (r.map pairD)) (hq : ∀ q ∈ r, 0 ≤ q.1 ∧ q.1 ≤ q.2 ∧ q.2 ≤ 5000) (hl : (spreadR r).length ≤ 90000) :
    mDef 1 4 (fun _ => false) (mSeq (mAsg (fun _ => false) 1 (mLst (mNil))) (mSeq (mFor (miS (mVar 0)) (mgL (fun _ => false) [2, 3]) spreadB) (mRetO 1))) [x] = some (.own ((spreadR r).map PyData.int), [.un]) := by
  have hv := varL hx (i := 0) (ρ := [x, .own [], .un, .un]) rfl
  obtain ⟨t2, t3, e⟩ := spread_loop (.val (.list (r.map pairD))) r [] .un .un hq (by simpa using hl)
  rw [List.nil_append] at e
  generalize (spreadR r).map PyData.int = SR at *
  generalize r.map pairD = R at *
  refine Ev.defR (ρ' := [.val (.list R), .un, t2, t3]) ?_
  exact Ev.seq (Ev.asg (Ev.lst Ev.nil)) (Ev.seq (Ev.forS' (Ev.iS hv) e) (Ev.retO 1))
theorem within_small {n : Nat} {r : RowT} (w : TLR.within n r) (hn : n ≤ 5000) : (∀ q ∈ r, 0 ≤ q.1 ∧ q.1 ≤ q.2 ∧ q.2 ≤ 5000) ∧ (spreadR r).length ≤ 90000 := by
  refine ⟨fun q hq => ?_, ?_⟩
  · have h1 := okF_ge w.1 hq
    have h2 := w.2 q hq
    omega
  · rw [spread_bits w]
    have := spB_le (bs := TLR.bits n r)
    rw [TLR.bits_len] at this
    omega
theorem all_places_ok {n : Nat} {r : RowT} {x : Sl} (w : TLR.within n r) (hn : n ≤ 5000) (hx : IsL x (r.map pairD)) : mf__law_all_places [x] = some (.own ((spB (TLR.bits n r)).map PyData.int), [.un]) := by
  have h := within_small w hn
  have e := spread_def hx h.1 h.2
  rw [spread_bits w] at e
  exact e
theorem toks_ints : ∀ xs ys : List Int, PySem.W.keyToksAll (xs.map PyData.int) = PySem.W.keyToksAll (ys.map PyData.int) → xs = ys
  | [], [], _ => rfl
  | [], q :: s, h => by simp [PySem.W.keyToksAll] at h
  | p :: r, [], h => by simp [PySem.W.keyToksAll] at h
  | p :: r, q :: s, h => by
    have h' : PySem.W.keyToksAll (PyData.int p :: r.map PyData.int) = PySem.W.keyToksAll (PyData.int q :: s.map PyData.int) := h
    simp only [PySem.W.keyToksAll, PySem.W.keyToks, List.cons_append, List.nil_append, List.cons.injEq, Sum.inl.injEq, true_and] at h'
    rw [toks_ints r s h'.2, h'.1]
theorem shp_dI (xs : List Int) : Shp 1 (dI xs) := Shp.list fun d hd => by
  obtain ⟨x, _, rfl⟩ := List.mem_map.mp hd
  exact Shp.int x 0
theorem shp_dIs (L : List (List Int)) : Shp 2 (.list (L.map dI)) := Shp.list fun d hd => by
  obtain ⟨r, _, rfl⟩ := List.mem_map.mp hd
  exact shp_dI r
theorem sortOk_dI (L : List (List Int)) (hl : L.length ≤ 1000) : sortDOk (L.map dI) = true := by
  unfold sortDOk
  rw [Bool.and_eq_true, List.all_eq_true]
  refine ⟨fun d hd => ?_, decide_eq_true (by rw [List.length_map]; exact sizeN (by omega))⟩
  obtain ⟨r, _, rfl⟩ := List.mem_map.mp hd
  obtain ⟨h1, h2⟩ := shp_dI r
  rw [Bool.and_eq_true, Bool.and_eq_true, Bool.and_eq_true, List.all_eq_true]
  refine ⟨⟨⟨rfl, h1⟩, decide_eq_true (by omega)⟩, fun e he => ?_⟩
  obtain ⟨s, _, rfl⟩ := List.mem_map.mp he
  unfold dI
  rw [PySem.W.alike]
  exact PySem.W.alike_ints r s
theorem sort_dI (L : List (List Int)) : ∃ L' : List (List Int), sortDs (L.map dI) = L'.map dI ∧ L'.Perm L :=
  ⟨L.mergeSort fun a b => dLe (dI a) (dI b), (List.map_mergeSort (r := fun a b => dLe (dI a) (dI b)) (s := PySem.W.dataLe false id) (f := dI) (l := L) (fun a _ b _ => rfl)).symm, List.mergeSort_perm _ _⟩
theorem sort_dI_eq {A B : List (List Int)} (h : A.Perm B) : sortDs (A.map dI) = sortDs (B.map dI) := sortDs_perm (h.map dI) fun a ha b hb e => by
  obtain ⟨r, _, rfl⟩ := List.mem_map.mp ha
  obtain ⟨s, _, rfl⟩ := List.mem_map.mp hb
  rw [toks_ints r s e]
theorem fEq_dIs {neg : Bool} {x y : Sl} (L : List (List Int)) (hx : datOf x = some (.list (L.map dI))) (hy : datOf y = some (.list (L.map dI))) : fEq neg x y = some (.val (.bool (!neg))) := by
  have h := shp_dIs L
  have h1 := h.shaped (by decide)
  have h2 := eqv_refl _ h.1
  unfold fEq
  simp only [hx, hy, h1, h2]
  cases neg <;> rfl
theorem fEq_dI {neg : Bool} {x y : Sl} (L : List Int) (hx : datOf x = some (dI L)) (hy : datOf y = some (dI L)) : fEq neg x y = some (.val (.bool (!neg))) := by
  have h := shp_dI L
  have h1 := h.shaped (by decide)
  have h2 := eqv_refl _ h.1
  unfold fEq
  simp only [hx, hy, h1, h2]
  cases neg <;> rfl
theorem fEq_rowR {neg : Bool} {x y : Sl} (r : RowT) (hx : datOf x = some (dRow r)) (hy : datOf y = some (dRow r)) : fEq neg x y = some (.val (.bool (!neg))) := by
  have h := Shp.row r
  have h1 := h.shaped (by decide)
  have h2 := eqv_refl _ h.1
  unfold fEq
  simp only [hx, hy, h1, h2]
  cases neg <;> rfl
theorem same_o2 (n : Nat) (x : Sl) (ds : List D) : mf__law_same (n + 1) [x, .own ds] = mf__law_same (n + 1) [x, .val (.list ds)] := by
  have h1 : ∀ s, (mTru (mUn (fIsi ["list", "tuple"]) (mVar 1)) : MT) [x, s, .un] = some (true, [x, .val (.list ds), .un]) → ∀ self, mb__law_same self [x, s, .un] = mb__law_same self [x, .val (.list ds), .un] := by
    intro s hs self
    have h2 : (mTru (mUn (fIsi ["list", "tuple"]) (mVar 1)) : MT) [x, .val (.list ds), .un] = some (true, [x, .val (.list ds), .un]) := Ev.tT (Ev.un (Ev.var 1) rfl)
    unfold mb__law_same
    rw [mSeq_ap, mSeq_ap, mIfS_t hs, mIfS_t h2]
  have hb := h1 (.own ds) (Ev.tT (Ev.un (Ev.varO 1) rfl)) (mf__law_same n)
  rw [same_succ]
  show (if _ then (match mb__law_same (mf__law_same n) [x, .own ds, .un] with | some (.rt r ρ') => some (r, outA (fun _ => false) 2 ρ') | some (.nx ρ') => some (.val .none, outA (fun _ => false) 2 ρ') | _ => none) else none) = (if _ then (match mb__law_same (mf__law_same n) [x, .val (.list ds), .un] with | some (.rt r ρ') => some (r, outA (fun _ => false) 2 ρ') | some (.nx ρ') => some (.val .none, outA (fun _ => false) 2 ρ') | _ => none) else none)
  rw [hb]
  rfl
theorem same_rowT (r : RowT) (hl : r.length ≤ 100000) : mf__law_same 6 [.val (dRow r), .own (r.map pairD)] = some (.val (.bool true), [.un, .un]) := by
  rw [same_o2 5]
  exact same_row r hl
theorem runsP_bits {n : Nat} (r : RowT) : runsP (TLR.bits n r) = spB (TLR.bits n (runsR n r)) := by
  unfold runsP
  rw [TLR.bits_len, ← (runs_bits n r).2]
  unfold lineT
  rw [List.reverse_reverse]
end LE
namespace K61
open PySem L2 Dn PR LB LE
open LC (spB toldR spF_len spB_le Rise rise_within rise_bits rowOf rowOf_len rowOf_told IsL varL)
theorem fTuple_own (ds : List D) : fTuple [.own ds] = some (.val (.tuple ds)) := rfl
theorem hA_lists : ∀ r : RowT, HA (r.map fun q => PyData.list [.int q.1, .int q.2]) r
  | [] => .nil
  | (a, b) :: r => .cons (.l a b) (hA_lists r)
theorem turn_ok {m : Int} {j : List D} (hj : BOK m j) (hm : m < 10 ^ 10) (s0 s1' s3 s4 s5 s6 s7 s8 s9 : Sl) :
    ∃ (j' : List D) (t4 t5 t6 t7 t8 t9 : Sl), lb_law_3 [s0, s1', .own j, s3, s4, s5, s6, s7, s8, s9] = some (.nx [s0, s1', .own j', s3, t4, t5, t6, t7, t8, t9]) ∧ BOK (m + 4000) j' := by
  obtain ⟨xs, j1, f1, J1, hR, hl⟩ := places_ok (M := 14) hj (by omega) (by omega)
  have wt := rise_within hR (Nat.le_refl 14)
  have hb := rise_bits hR (Nat.le_refl 14)
  have f2 := str_ok (xs := xs) (by omega)
  generalize ht : toldR xs = t at *
  have hlt : t.length ≤ 14 := by
    have := rowOf_len (TLR.bits 14 t)
    rw [rowOf_told wt, TLR.bits_len] at this
    exact this
  have wM := (made_bits 14 t).1
  have hB : (2 * t.length + 2) * (4 + 2) ≤ 8800 := by
    have : (2 * t.length + 2) * (4 + 2) ≤ 30 * 6 := Nat.mul_le_mul_right _ (by omega)
    omega
  have f5 := row_with_ok (HR.of_row t) wt (by omega) (show 14 < 2 ^ 4 by decide) hB (by omega)
  have f13 := row_with_ok (.t (hA_lists t)) wt (by omega) (show 14 < 2 ^ 4 by decide) hB (by omega)
  have f8 := all_places_ok (x := .val (dRow (madeR 14 t))) wM (by omega) (.inl rfl)
  have hrm : runsP (TLR.bits 14 (madeR 14 t)) = xs := by
    rw [runsP_bits, runs_made wt, hb]
  have hsum : xs.sum ≤ 40000 := by
    have key : ∀ (l : List Int), (∀ x ∈ l, x ≤ 14) → l.sum ≤ 14 * l.length := by
      intro l
      induction l with
      | nil => intro _; simp
      | cons a l ih =>
        intro h
        have h1 := ih fun x hx => h x (List.mem_cons_of_mem _ hx)
        have h2 := h a (List.mem_cons_self ..)
        simp only [List.sum_cons, List.length_cons]
        push_cast
        omega
    have := key xs fun x hx => (hR.2 x hx).2
    omega
  have f9 := runs_law (X := TLR.bits 14 (madeR 14 t)) (by rw [TLR.bits_len]; omega) (by rw [hrm]; exact hsum) (.val (.list ((spB (TLR.bits 14 (madeR 14 t))).map PyData.int))) (.inl rfl)
  rw [hrm] at f9
  have f10 := fEq_dI (neg := true) (x := .own (xs.map PyData.int)) (y := .val (.list (xs.map PyData.int))) xs rfl rfl
  have f11 := str_ok (xs := spB (TLR.bits 14 (madeR 14 t))) (by have := spB_le (bs := TLR.bits 14 (madeR 14 t)); rw [TLR.bits_len] at this; omega)
  have hback : toldR (spB (TLR.bits 14 (madeR 14 t))) = madeR 14 t := rowOf_told wM
  rw [hback] at f11
  have hml : (madeR 14 t).length ≤ 14 := by rw [made_len wt]; exact hlt
  have f12 := same_rowT (madeR 14 t) (by omega)
  have f14 := same_row (madeR 14 t) (by omega)
  have f15 := fEq_rowR (neg := true) (x := .val (.list (t.map pairD))) (y := .own (t.map pairD)) t rfl rfl
  have f7 : fEq true (.own []) (.own []) = some (.val (.bool false)) := ne_row [] []
  have er : ∀ r : RowT, dRow r = .list (r.map pairD) := fun _ => rfl
  have f3 : ∀ s7 s8 : Sl, lc_law_1 [s0, s1', .own j1, s3, .val (.list (xs.map PyData.int)), .own (t.map pairD), s6, s7, s8, s9] = some (.own (t.map fun q => PyData.list [.int q.1, .int q.2]), [s0, s1', .own j1, s3, .val (.list (xs.map PyData.int)), .val (.list (t.map pairD)), s6, s7, s8, .un]) := fun s7 s8 => by
    have hx : (t.map fun q => PyData.list [.int q.1, .int q.2]) = t.filterMap fun q => some (PyData.list [.int q.1, .int q.2]) := by simp
    rw [hx]
    unfold lc_law_1
    refine comp_map pairD _ t (ρ1 := [s0, s1', .own j1, s3, .val (.list (xs.map PyData.int)), .val (.list (t.map pairD)), s6, s7, s8, s9]) (Ev.iS (Ev.varO 5)) rfl rfl (fun q hq => ?_) (sizeN (by omega))
    generalize t.map pairD = T at *
    generalize xs.map PyData.int = XD at *
    exact ⟨[s0, s1', .own j1, s3, .val (.list XD), .val (.list T), s6, s7, s8, .val (pairD q)], true, [s0, s1', .own j1, s3, .val (.list XD), .val (.list T), s6, s7, s8, .val (pairD q)], Ev.gN, rfl, .inr ⟨rfl, .own [.int q.1, .int q.2], _, _, Ev.fn (Ev.cons (Ev.var 9) Ev.nil) rfl, rfl, rfl, rfl⟩⟩
  have f4 := fTuple_own (t.map fun q => PyData.list [.int q.1, .int q.2])
  have f6 : ∀ s6 s8 : Sl, lc_law_2 [s0, s1', .own j1, s3, .val (.list (xs.map PyData.int)), .val (.list (t.map pairD)), s6, .val (dRow (madeR 14 t)), s8, .un] = some (.own [], [s0, s1', .own j1, s3, .val (.list (xs.map PyData.int)), .val (.list (t.map pairD)), s6, .val (dRow (madeR 14 t)), s8, .un]) := fun s6 s8 => by
    have hx : (madeR 14 t).filterMap (fun _ => (none : Option D)) = [] := by simp
    rw [← hx]
    unfold lc_law_2
    refine comp_map pairD _ (madeR 14 t) (ρ1 := [s0, s1', .own j1, s3, .val (.list (xs.map PyData.int)), .val (.list (t.map pairD)), s6, .val (dRow (madeR 14 t)), s8, .un]) (Ev.iS (Ev.var 7)) rfl rfl (fun q hq => ?_) (sizeN (by omega))
    have h2 := wM.2 q hq
    have g1 : atI [PyData.int q.1, PyData.int q.2] 1 = some (.int q.2) := rfl
    have g2 : (fB fun i j => decide (j < i)) (.val (.int q.2)) (.val (.int 14)) = some (.val (.bool false)) := by
      show some (Sl.val (PyData.bool (decide _))) = _
      rw [decide_eq_false (by omega)]
    generalize t.map pairD = T at *
    generalize xs.map PyData.int = XD at *
    generalize dRow (madeR 14 t) = M at *
    exact ⟨[s0, s1', .own j1, s3, .val (.list XD), .val (.list T), s6, .val M, s8, .val (.tuple [.int q.1, .int q.2])], false, [s0, s1', .own j1, s3, .val (.list XD), .val (.list T), s6, .val M, s8, .val (.tuple [.int q.1, .int q.2])], Ev.gN, Ev.tB (Ev.bin (Ev.ixA (Ev.var 9) (Ev.cst _) g1) (Ev.cst _) g2), .inl ⟨rfl, rfl, rfl⟩⟩
  simp only [er] at f5 f13 f8 f12 f14 f6
  clear hback hrm hb wt wM hml hlt hB hsum hR hl ht er
  generalize t.map (fun q => PyData.list [.int q.1, .int q.2]) = TL at *
  generalize t.map pairD = T at *
  generalize (madeR 14 t).map pairD = M at *
  generalize (spB (TLR.bits 14 (madeR 14 t))).map PyData.int = Y at *
  generalize xs.map PyData.int = XD at *
  refine ⟨j1, .val (.list XD), .val (.list T), .val (.tuple TL), .val (.list M), .val (.list Y), .un, ?_, J1⟩
  unfold lb_law_3
  exact Ev.seq (Ev.asg (Ev.callM (Ev.cons (Ev.cst _) Ev.nil) f1))
          (Ev.seq (Ev.asg (Ev.call (Ev.cons (Ev.varO 4) Ev.nil) f2))
          (Ev.seq (Ev.asg (Ev.fn (Ev.cons (f3 _ _) Ev.nil) f4))
          (Ev.seq (Ev.asg (Ev.call (Ev.cons (Ev.var 5) Ev.nil) f5))
          (Ev.seq (Ev.ifS_f (Ev.tB (Ev.bin (f6 _ _) (Ev.lst (Ev.nil)) f7)) (Ev.next))
          (Ev.seq (Ev.asg (Ev.call (Ev.cons (Ev.var 7) Ev.nil) f8))
          (Ev.seq (Ev.ifS_f (Ev.tOr_f (Ev.tB (Ev.bin (Ev.call (Ev.cons (Ev.varO 8) Ev.nil) f9) (Ev.var 4) f10)) (Ev.tNot_f (Ev.tT (Ev.call (Ev.cons (Ev.var 7) (Ev.cons (Ev.call (Ev.cons (Ev.var 8) Ev.nil) f11) Ev.nil)) f12)))) (Ev.next))
          (Ev.ifS_f (Ev.tOr_f (Ev.tNot_f (Ev.tT (Ev.call (Ev.cons (Ev.call (Ev.cons (Ev.var 6) Ev.nil) f13) (Ev.cons (Ev.var 7) Ev.nil)) f14))) (Ev.tB (Ev.bin (Ev.var 5) (Ev.call (Ev.cons (Ev.var 4) Ev.nil) f2) f15))) (Ev.next))))))))
theorem cell_ok (ns : D) (c : Int) (s2 s3 s4 s5 s6 s7 s8 s9 : Sl) : ∃ t2 t3 t4 t5 t6 t7 t8 t9 : Sl, lb_law_4 [.val ns, .val (.int c), s2, s3, s4, s5, s6, s7, s8, s9] = some (.nx [.val ns, .val (.int c), t2, t3, t4, t5, t6, t7, t8, t9]) := by
  obtain ⟨j0, f1, J0⟩ := bag_ok c
  obtain ⟨ρ', f2, j', t3, t4, t5, t6, t7, t8, t9, rfl, _⟩ := LF.for_times (W := fun q ρ => ∃ (j' : List D) (t3 t4 t5 t6 t7 t8 t9 : Sl), ρ = [.val ns, .val (.int c), .own j', t3, t4, t5, t6, t7, t8, t9] ∧ BOK (11 + 4000 * q) j')
    (lb := lb_law_3) 3 (fun _ => false) 3 ⟨j0, s3, s4, s5, s6, s7, s8, s9, rfl, J0.mono (by omega)⟩ (fun q ρ hq hW => by
      obtain ⟨j', t3, t4, t5, t6, t7, t8, t9, rfl, hJ⟩ := hW
      obtain ⟨j2, u4, u5, u6, u7, u8, u9, e, J2⟩ := turn_ok hJ (by omega) (.val ns) (.val (.int c)) (.val (.int (q : Int))) t4 t5 t6 t7 t8 t9
      exact ⟨_, _, Ev.gN, e, j2, _, u4, u5, u6, u7, u8, u9, rfl, J2.mono (by push_cast; omega)⟩)
  refine ⟨.own j', t3, t4, t5, t6, t7, t8, t9, ?_⟩
  unfold lb_law_4
  exact Ev.seq (Ev.asg (Ev.call (Ev.cons (Ev.var 1) Ev.nil) f1))
          (Ev.forS' (miR1_of (n := 3) (Ev.cons (Ev.cst _) Ev.nil) (by omega)) f2)
theorem sets_made : ((setsI 6).map fun s => spB (TLR.bits 6 (madeR 6 (toldR s)))).Perm (setsI 6) := by decide +kernel
theorem end_ok (ns : D) (s1' s2 s3 s4 s5 s6 s7 s8 s9 : Sl) (h5 : s5 = .un ∨ True) : ∃ T : List D,
    lc_law_5 [.val ns, s1', s2, s3, s4, s5, s6, s7, s8, s9] = some (.own T, [.val ns, s1', s2, s3, s4, .un, s6, s7, s8, s9]) ∧
    lc_law_6 [.val ns, s1', s2, s3, s4, .un, s6, .own T, s8, s9] = some (.own [], [.val ns, s1', s2, s3, s4, .un, s6, .val (.list T), s8, s9]) ∧
    lc_law_7 [.val ns, s1', s2, s3, s4, .un, s6, .val (.list T), s8, s9] = some (.own (((setsI 6).map fun s => spB (TLR.bits 6 (madeR 6 (toldR s)))).map dI), [.val ns, s1', s2, s3, s4, .un, s6, .val (.list T), s8, s9]) := by
  have hw : ∀ s ∈ setsI 6, TLR.within 6 (toldR s) ∧ TLR.within 6 (madeR 6 (toldR s)) ∧ s.length ≤ 6 ∧ (toldR s).length ≤ 6 := fun s hs => by
    have hR := setsI_rise 6 s hs
    have w := rise_within hR (Nat.le_refl 6)
    refine ⟨w, (made_bits 6 _).1, setsI_in 6 s hs, ?_⟩
    have := rowOf_len (TLR.bits 6 (toldR s))
    rw [rowOf_told w, TLR.bits_len] at this
    exact this
  have hl64 : (setsI 6).length = 64 := by rw [setsI_len]
  have e10 := sets_ok 6 (by omega)
  refine ⟨(setsI 6).map fun s => dRow (madeR 6 (toldR s)), ?_, ?_, ?_⟩
  · have hx : ((setsI 6).map fun s => dRow (madeR 6 (toldR s))) = (setsI 6).filterMap fun s => some (dRow (madeR 6 (toldR s))) := by simp
    rw [hx]
    unfold lc_law_5
    refine comp_map dI _ (setsI 6) (ρ1 := [.val ns, s1', s2, s3, s4, s5, s6, s7, s8, s9]) (Ev.iN (Ev.call (Ev.cons (Ev.cst _) Ev.nil) e10)) rfl rfl (fun s hs => ?_) (sizeN (by omega))
    obtain ⟨w1, w2, l1, l2⟩ := hw s hs
    have g1 := str_ok (xs := s) (by omega)
    have hB : (2 * (toldR s).length + 2) * (3 + 2) ≤ 8800 := by
      have : (2 * (toldR s).length + 2) * (3 + 2) ≤ 14 * 5 := Nat.mul_le_mul_right _ (by omega)
      omega
    have e0 := half_ok w1 (by omega) (show 6 < 2 ^ 3 by decide) hB (by omega) (x := .own ((toldR s).map pairD)) (.inr rfl)
    have g2 : mf_row_with [.own ((toldR s).map pairD)] = some (.val (dRow (madeR 6 (toldR s))), [.un]) := by
      have e1 := given_row_ok (HR.of_row (toldR s)) w1.1 (by omega)
      have er : dRow (toldR s) = .list ((toldR s).map pairD) := rfl
      rw [er] at e1
      have ed : ∀ a b : RowT, dPair a b = .tuple [dRow a, dRow b] := fun _ _ => rfl
      rw [ed] at e0
      generalize dRow (madeR 6 (toldR s)) = M at *
      generalize (toldR s).map pairD = TP at *
      unfold mf_row_with
      refine Ev.defR (ρ' := [.val (.list TP), .val M, .val M]) ?_
      unfold mb_row_with
      exact Ev.seq (Ev.asgT (Ev.call (Ev.cons (Ev.call (Ev.cons (Ev.varO 0) Ev.nil) e1) Ev.nil) e0) Ev.gT2) (Ev.ret (Ev.var 1))
    have ei : dI s = .list (s.map PyData.int) := rfl
    rw [ei]
    generalize dRow (madeR 6 (toldR s)) = M at *
    generalize (toldR s).map pairD = TP at *
    generalize s.map PyData.int = SD at *
    exact ⟨[.val ns, s1', s2, s3, s4, .val (.list SD), s6, s7, s8, s9], true, [.val ns, s1', s2, s3, s4, .val (.list SD), s6, s7, s8, s9], Ev.gN, rfl, .inr ⟨rfl, .val M, _, _, Ev.call (Ev.cons (Ev.call (Ev.cons (Ev.var 5) Ev.nil) g1) Ev.nil) g2, rfl, rfl, rfl⟩⟩
  · have hx : (setsI 6).filterMap (fun _ => (none : Option D)) = [] := by simp
    rw [← hx]
    unfold lc_law_6
    refine comp_map (fun s => dRow (madeR 6 (toldR s))) _ (setsI 6) (ρ1 := [.val ns, s1', s2, s3, s4, .un, s6, .val (.list ((setsI 6).map fun s => dRow (madeR 6 (toldR s)))), s8, s9]) (Ev.iS (Ev.varO 7)) rfl rfl (fun s hs => ?_) (sizeN (by omega))
    obtain ⟨w1, w2, l1, l2⟩ := hw s hs
    generalize (setsI 6).map (fun s => dRow (madeR 6 (toldR s))) = ALL at *
    have g1 : fEq true (.val (dRow (madeR 6 (toldR s)))) (.own []) = some (.val (.bool (!decide (madeR 6 (toldR s) = [])))) := ne_row _ []
    generalize hM : madeR 6 (toldR s) = M at *
    by_cases hr : M = []
    · rw [decide_eq_true hr] at g1
      generalize dRow M = MD at *
      exact ⟨[.val ns, s1', s2, s3, s4, .val MD, s6, .val (.list ALL), s8, s9], false, [.val ns, s1', s2, s3, s4, .val MD, s6, .val (.list ALL), s8, s9], Ev.gN, Ev.tAnd_f (Ev.tB (Ev.bin (Ev.var 5) (Ev.lst Ev.nil) g1)), .inl ⟨rfl, rfl, rfl⟩⟩
    · rw [decide_eq_false hr] at g1
      obtain ⟨a, q, e⟩ := TLR.split_last hr
      have hq : q ∈ M := by rw [e]; simp
      have h2 := w2.2 q hq
      have g2 : atI (M.map pairD) (-1) = some (.tuple [.int q.1, .int q.2]) := by
        rw [e]
        exact atI_end (by rw [List.map_append]; simp [pairD])
      have g3 : atI [PyData.int q.1, PyData.int q.2] 1 = some (.int q.2) := rfl
      have g4 : (fB fun i j => decide (j < i)) (.val (.int q.2)) (.val (.int 6)) = some (.val (.bool false)) := by
        show some (Sl.val (PyData.bool (decide _))) = _
        rw [decide_eq_false (by omega)]
      have g5 : fNeg (.val (.int 1)) = some (.val (.int (-1))) := rfl
      have er : dRow M = .list (M.map pairD) := rfl
      rw [er] at g1 ⊢
      clear e
      generalize M.map pairD = MD at *
      exact ⟨[.val ns, s1', s2, s3, s4, .val (.list MD), s6, .val (.list ALL), s8, s9], false, [.val ns, s1', s2, s3, s4, .val (.list MD), s6, .val (.list ALL), s8, s9], Ev.gN, Ev.tAnd_t (Ev.tB (Ev.bin (Ev.var 5) (Ev.lst Ev.nil) g1)) (Ev.tB (Ev.bin (Ev.ixA (Ev.ixA (Ev.var 5) (Ev.un (Ev.cst _) g5) g2) (Ev.cst _) g3) (Ev.cst _) g4)), .inl ⟨rfl, rfl, rfl⟩⟩
  · have hx : ((setsI 6).map fun s => spB (TLR.bits 6 (madeR 6 (toldR s)))).map dI = (setsI 6).filterMap fun s => some (dI (spB (TLR.bits 6 (madeR 6 (toldR s))))) := by simp
    rw [hx]
    unfold lc_law_7
    refine comp_map (fun s => dRow (madeR 6 (toldR s))) _ (setsI 6) (ρ1 := [.val ns, s1', s2, s3, s4, .un, s6, .val (.list ((setsI 6).map fun s => dRow (madeR 6 (toldR s)))), s8, s9]) (Ev.iS (Ev.var 7)) rfl rfl (fun s hs => ?_) (sizeN (by omega))
    obtain ⟨w1, w2, l1, l2⟩ := hw s hs
    have g1 := all_places_ok (x := .val (dRow (madeR 6 (toldR s)))) w2 (by omega) (.inl rfl)
    generalize (setsI 6).map (fun s => dRow (madeR 6 (toldR s))) = ALL at *
    have ei : ∀ xs : List Int, dI xs = .list (xs.map PyData.int) := fun _ => rfl
    rw [ei]
    generalize (spB (TLR.bits 6 (madeR 6 (toldR s)))).map PyData.int = Y at *
    generalize dRow (madeR 6 (toldR s)) = MD at *
    exact ⟨[.val ns, s1', s2, s3, s4, .val MD, s6, .val (.list ALL), s8, s9], true, [.val ns, s1', s2, s3, s4, .val MD, s6, .val (.list ALL), s8, s9], Ev.gN, rfl, .inr ⟨rfl, .own Y, _, _, Ev.call (Ev.cons (Ev.var 5) Ev.nil) g1, rfl, rfl, rfl⟩⟩
theorem math : ∀ ns : List Int, ns.length ≤ 63 → ∃ a', mf_law [.val (.list (ns.map PyData.int))] = some (.val (.bool true), a') := fun ns hns => by
  have f1 : fSl (.val (.list (ns.map PyData.int))) none (some 6) = some (.own ((ns.take 6).map PyData.int)) := by
    have hc : cutL (ns.map PyData.int) none (some ((6 : Nat) : Int)) = (ns.take 6).map PyData.int := by
      unfold cutL
      rw [show HT.sIx (ns.map PyData.int).length (ns.map PyData.int).length (some ((6 : Nat) : Int)) = min 6 (ns.map PyData.int).length from HT.sIx_nat _ _ 6, HT.sIx_none, List.drop_zero, Nat.sub_zero, List.map_take, ← List.take_eq_take_min]
    show some (Sl.own (cutL (ns.map PyData.int) none (some 6))) = _
    rw [show (6 : Int) = ((6 : Nat) : Int) from rfl, hc]
  have f2 : fLen [.val (.list (ns.map PyData.int))] = some (.val (.int ((ns.length : Nat) : Int))) := by simp
  have f3 : fAdd (.own ((ns.take 6).map PyData.int)) (.own [.int ((ns.length : Nat) : Int)]) = some (.own ((ns.take 6 ++ [((ns.length : Nat) : Int)]).map PyData.int)) := by
    have hz : ((ns.take 6).map PyData.int).length + 1 ≤ sizeLine := by
      rw [List.length_map]
      have := List.length_take_le 6 ns
      exact sizeN (by omega)
    rw [List.map_append]
    generalize (ns.take 6).map PyData.int = A at *
    simp [hz]
  obtain ⟨ρ', f4, t1, t2, t3, t4, t5, t6, t7, t8, t9, rfl⟩ := loop_count (g := mgN (fun _ => false) 1) (b := lb_law_4) PyData.int (fun _ ρ => ∃ t1 t2 t3 t4 t5 t6 t7 t8 t9 : Sl, ρ = [.val (.list (ns.map PyData.int)), t1, t2, t3, t4, t5, t6, t7, t8, t9]) (ns.take 6 ++ [((ns.length : Nat) : Int)]) 0
    [.val (.list (ns.map PyData.int)), .un, .un, .un, .un, .un, .un, .un, .un, .un] (fun i c ρ hk hW => by
      obtain ⟨t1, t2, t3, t4, t5, t6, t7, t8, t9, rfl⟩ := hW
      obtain ⟨u2, u3, u4, u5, u6, u7, u8, u9, e⟩ := cell_ok (.list (ns.map PyData.int)) c t2 t3 t4 t5 t6 t7 t8 t9
      refine ⟨_, _, ?_, .inl e, _, _, _, _, _, _, _, _, _, rfl⟩
      generalize ns.map PyData.int = NS
      exact Ev.gN) ⟨_, _, _, _, _, _, _, _, _, rfl⟩
  obtain ⟨T, f5, f6, f8⟩ := end_ok (.list (ns.map PyData.int)) t1 t2 t3 t4 t5 t6 t7 t8 t9 (.inr trivial)
  obtain ⟨T2, f5b, f6, f8⟩ : ∃ T2, lc_law_5 [.val (.list (ns.map PyData.int)), t1, t2, t3, t4, t5, t6, t7, t8, t9] = some (.own T2, [.val (.list (ns.map PyData.int)), t1, t2, t3, t4, .un, t6, t7, t8, t9]) ∧ _ ∧ _ := ⟨T, f5, f6, f8⟩
  have f7 : fEq true (.own []) (.own []) = some (.val (.bool false)) := ne_row [] []
  have hl64 : (setsI 6).length = 64 := by rw [setsI_len]
  have f9 : fSortN [.own (((setsI 6).map fun s => spB (TLR.bits 6 (madeR 6 (toldR s)))).map dI)] = some (.own (sortDs ((setsI 6).map dI))) := by
    rw [fSortN_of (x := .own (((setsI 6).map fun s => spB (TLR.bits 6 (madeR 6 (toldR s)))).map dI)) rfl (sortOk_dI _ (by rw [List.length_map]; omega)), sort_dI_eq sets_made]
  have f10 := sets_ok 6 (by omega)
  have f11 : fSortN [.own ((setsI 6).map dI)] = some (.own (sortDs ((setsI 6).map dI))) := fSortN_of (x := .own ((setsI 6).map dI)) rfl (sortOk_dI _ (by omega))
  obtain ⟨L', hL', _⟩ := sort_dI (setsI 6)
  have f12 : fEq false (.own (sortDs ((setsI 6).map dI))) (.own (sortDs ((setsI 6).map dI))) = some (.val (.bool true)) := by
    rw [hL']
    exact fEq_dIs (neg := false) L' rfl rfl
  clear hl64 hL'
  generalize sortDs ((setsI 6).map dI) = S0 at *
  generalize ((setsI 6).map fun s => spB (TLR.bits 6 (madeR 6 (toldR s)))).map dI = S1 at *
  generalize (setsI 6).map dI = S2 at *
  generalize (ns.take 6 ++ [((ns.length : Nat) : Int)]).map PyData.int = CL at *
  generalize (ns.take 6).map PyData.int = A at *
  generalize ns.map PyData.int = NS at *
  unfold mf_law
  refine ⟨_, Ev.defR (ρ' := [.val (.list NS), t1, t2, t3, t4, .un, t6, .val (.list T), t8, t9]) ?_⟩
  unfold mb_law
  exact Ev.seq (Ev.forS' (Ev.iN (Ev.bin (Ev.sl (Ev.var 0) (Ev.oN) (Ev.oS (Ev.cst _)) f1) (Ev.lst (Ev.cons (Ev.fn (Ev.cons (Ev.var 0) Ev.nil) f2) Ev.nil)) f3)) f4)
          (Ev.seq (Ev.asg (f5))
          (Ev.seq (Ev.ifS_f (Ev.tB (Ev.bin (f6) (Ev.lst (Ev.nil)) f7)) (Ev.next))
          (Ev.ret (Ev.bin (Ev.fn (Ev.cons (f8) Ev.nil) f9) (Ev.fn (Ev.cons (Ev.call (Ev.cons (Ev.cst _) Ev.nil) f10) Ev.nil) f11) f12))))
end K61
open PySem PySem.W PyProof.Rows
set_option maxHeartbeats 0 in
theorem PySem.Challenge.cw_turntell_k61_rows_by_runs_holds : PySem.Challenge.rw_turntell_k61_rows_by_runs.Holds := by
  w_on; o_law; k_head; (case hw => w_witness2)
  k_fill
  refine L2.walk_of (l := PySem.Challenge.rw_turntell_k61_rows_by_runs) (n := 63) (k := 9) (x := "script") (CX := fun _ => L2.CX0) (sp := fun w => Dn.spD _ K61.mf_law) rfl (by decide) rfl ⟨rfl, by decide, by decide⟩ (fun w h Y => PySem.W.kIn_of Y) ?F (fun _ H a ns hl _ hS => Dn.law_ends (n := 63) K61.math H a ns hl hS) (fun _ _ _ _ _ h => h)
  case F =>
    intro w mg fa h KX G hmg
    refine' K61.all_mk KX G hmg ?a0 ?l0 ?c0 ?k0 ?a1 ?l1 ?c1 ?k1 ?a2 ?l2 ?c2 ?k2 ?a3 ?l3 ?c3 ?k3 ?a4 ?l4 ?c4 ?k4 ?a5 ?l5 ?c5 ?k5 ?a6 ?l6 ?c6 ?k6 ?a7 ?l7 ?c7 ?k7 ?a8 ?l8 ?c8 ?k8 ?a9 ?l9 ?c9 ?k9 ?a10 ?l10 ?c10 ?k10 ?a11 ?l11 ?c11 ?k11 ?a12 ?l12 ?c12 ?k12 ?a13 ?l13 ?c13 ?k13 ?a14 ?l14 ?c14 ?k14 ?a15 ?l15 ?c15 ?k15 ?a16 ?l16 ?c16 ?k16 ?a17 ?l17 ?c17 ?k17 ?a18 ?l18 ?c18 ?k18 ?a19 ?l19 ?c19 ?k19 ?a20 ?l20 ?c20 ?k20 ?a21 ?l21 ?c21 ?k21 ?a22 ?l22 ?c22 ?k22 ?a23 ?l23 ?c23 ?k23 ?a24 ?l24 ?c24 ?k24 ?a25 ?l25 ?c25 ?k25 ?a26 ?l26 ?c26 ?k26 ?a27 ?l27 ?c27 ?k27 ?a28 ?l28 ?c28 ?k28 ?a29 ?l29 ?c29 ?k29 ?a30 ?l30 ?c30 ?k30 ?a31 ?l31 ?c31 ?k31 ?a32 ?l32 ?c32 ?k32 ?a33 ?l33 ?c33 ?k33 ?a34 ?l34 ?c34 ?k34 ?a35 ?l35 ?c35 ?k35 ?z_all ?z_bool ?z_int ?z_isinstance ?z_len ?z_list ?z_max ?z_min ?z_range ?z_reversed ?z_sorted ?z_sum ?z_tuple ?dP0 ?eP0 ?dU0 ?eU0
    (case a0 => k_is); (case l0 => k_is); (case c0 => k_is); (case k0 => k_is); (case a1 => k_is); (case l1 => k_is); (case c1 => k_is); (case k1 => k_is); (case a2 => k_is); (case l2 => k_is); (case c2 => k_is); (case k2 => k_is); (case a3 => k_is); (case l3 => k_is); (case c3 => k_is); (case k3 => k_is); (case a4 => k_is); (case l4 => k_is); (case c4 => k_is); (case k4 => k_is); (case a5 => k_is); (case l5 => k_is); (case c5 => k_is); (case k5 => k_is); (case a6 => k_is); (case l6 => k_is); (case c6 => k_is); (case k6 => k_is); (case a7 => k_is); (case l7 => k_is); (case c7 => k_is); (case k7 => k_is); (case a8 => k_is); (case l8 => k_is); (case c8 => k_is); (case k8 => k_is); (case a9 => k_is); (case l9 => k_is); (case c9 => k_is); (case k9 => k_is); (case a10 => k_is); (case l10 => k_is); (case c10 => k_is); (case k10 => k_is); (case a11 => k_is); (case l11 => k_is); (case c11 => k_is); (case k11 => k_is); (case a12 => k_is); (case l12 => k_is); (case c12 => k_is); (case k12 => k_is); (case a13 => k_is); (case l13 => k_is); (case c13 => k_is); (case k13 => k_is); (case a14 => k_is); (case l14 => k_is); (case c14 => k_is); (case k14 => k_is); (case a15 => k_is); (case l15 => k_is); (case c15 => k_is); (case k15 => k_is); (case a16 => k_is); (case l16 => k_is); (case c16 => k_is); (case k16 => k_is); (case a17 => k_is); (case l17 => k_is); (case c17 => k_is); (case k17 => k_is); (case a18 => k_is); (case l18 => k_is); (case c18 => k_is); (case k18 => k_is); (case a19 => k_is); (case l19 => k_is); (case c19 => k_is); (case k19 => k_is); (case a20 => k_is); (case l20 => k_is); (case c20 => k_is); (case k20 => k_is); (case a21 => k_is); (case l21 => k_is); (case c21 => k_is); (case k21 => k_is); (case a22 => k_is); (case l22 => k_is); (case c22 => k_is); (case k22 => k_is); (case a23 => k_is); (case l23 => k_is); (case c23 => k_is); (case k23 => k_is); (case a24 => k_is); (case l24 => k_is); (case c24 => k_is); (case k24 => k_is); (case a25 => k_is); (case l25 => k_is); (case c25 => k_is); (case k25 => k_is); (case a26 => k_is); (case l26 => k_is); (case c26 => k_is); (case k26 => k_is); (case a27 => k_is); (case l27 => k_is); (case c27 => k_is); (case k27 => k_is); (case a28 => k_is); (case l28 => k_is); (case c28 => k_is); (case k28 => k_is); (case a29 => k_is); (case l29 => k_is); (case c29 => k_is); (case k29 => k_is); (case a30 => k_is); (case l30 => k_is); (case c30 => k_is); (case k30 => k_is); (case a31 => k_is); (case l31 => k_is); (case c31 => k_is); (case k31 => k_is); (case a32 => k_is); (case l32 => k_is); (case c32 => k_is); (case k32 => k_is); (case a33 => k_is); (case l33 => k_is); (case c33 => k_is); (case k33 => k_is); (case a34 => k_is); (case l34 => k_is); (case c34 => k_is); (case k34 => k_is); (case a35 => k_is); (case l35 => k_is); (case c35 => k_is); (case k35 => k_is); (case z_all => k_is); (case z_bool => k_is); (case z_int => k_is); (case z_isinstance => k_is); (case z_len => k_is); (case z_list => k_is); (case z_max => k_is); (case z_min => k_is); (case z_range => k_is); (case z_reversed => k_is); (case z_sorted => k_is); (case z_sum => k_is); (case z_tuple => k_is); (case dP0 => k_is); (case eP0 => (refine' Dn.KTT.four ?low ?nd ?at_ ?h1 ?h2 ?h3 ?h4 (Dn.KeyK.mk' ?k1) (Dn.KeyK.mk' ?k2) (Dn.KeyK.mk' ?k3) (Dn.KeyK.mk' ?k4) (Dn.TupK.mk' ?v1 ?z1) (Dn.TupK.mk' ?v2 ?z2) (Dn.TupK.mk' ?v3 ?z3) (Dn.TupK.mk' ?v4 ?z4); (case at_ => k_is); (case low => decide +kernel); (case nd => decide); (case h1 => decide +kernel); (case h2 => decide +kernel); (case h3 => decide +kernel); (case h4 => decide +kernel); (case k1 => k_is); (case k2 => k_is); (case k3 => k_is); (case k4 => k_is); (case v1 => k_is); (case v2 => k_is); (case v3 => k_is); (case v4 => k_is); (case z1 => decide); (case z2 => decide); (case z3 => decide); (case z4 => decide))); (case dU0 => k_is); (case eU0 => (refine' Dn.TupK.mk' ?at_ ?z; (case at_ => k_is); (case z => decide)))

