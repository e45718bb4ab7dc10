import PyProof.Rows.All
import Wide.All
import OpenK.AllK
import Wide.FinOn
import HandS.ForMost
import HandS.Deep
import HandS.Zip
import HandS.Evl
import HandS.Exc
import HandS.WordsExc
import KE.KExcSuper
import KE.KSuper
import HandS.ExcField
import HandS.ExcIs
import HandS.ExcOwn
import HandS.CallLocal
import HandS.IsInst
import KE.KExcIs
import KE.KStateDown
import HandS.Head0
import HandS.Head1
import HandS.Head2
import HandS.HeadEnd
import HandS.HeadHook1
import HandS.HeadHook2
import PySem.Challenge.RW_larderdays_k05_oldest_first
set_option Elab.async false
set_option linter.all false
set_option maxRecDepth 100000
set_option maxHeartbeats 4000000
/-! Plain data over the hand layer: what slots and values hold, told without addresses. -/
namespace DL
open PySem PySem.Spec PyProof.Rows L2
open Evl (Ex)

inductive D where
  | non | bl (b : Bool) | int (i : Int) | str (x : Str) | tup (l : List D) | lst (l : List D) | obj (C : Addr) (fs : List (Str × D)) | opq (a : Addr)

mutual
inductive Rp (K : PySem.W.Frag) (H : Hp) : V → D → Prop
  | non : Rp K H .non .non
  | bl (b : Bool) : Rp K H (.bl b) (.bl b)
  | int (i : Int) : Rp K H (.int i) (.int i)
  | str (x : Str) : Rp K H (.str x) (.str x)
  | tup {a : Addr} {xs : List V} {ds : List D} : SqT K H a xs → RpL K H xs ds → Rp K H (.ref a) (.tup ds)
  | lst {a : Addr} {xs : List V} {ds : List D} : SqL K H a xs → RpL K H xs ds → Rp K H (.ref a) (.lst ds)
  | obj {a C dx : Addr} {fvs : List (Str × V)} {fs : List (Str × D)} : H a = some (.ins C dx fvs) → RpF K H fvs fs → Rp K H (.ref a) (.obj C fs)
  | opq (a : Addr) : Rp K H (.ref a) (.opq a)
inductive RpL (K : PySem.W.Frag) (H : Hp) : List V → List D → Prop
  | nil : RpL K H [] []
  | cons {v : V} {vs : List V} {d : D} {ds : List D} : Rp K H v d → RpL K H vs ds → RpL K H (v :: vs) (d :: ds)
inductive RpF (K : PySem.W.Frag) (H : Hp) : List (Str × V) → List (Str × D) → Prop
  | nil : RpF K H [] []
  | cons {x : Str} {v : V} {vs : List (Str × V)} {d : D} {ds : List (Str × D)} : Rp K H v d → RpF K H vs ds → RpF K H ((x, v) :: vs) ((x, d) :: ds)
end

section
variable {K : PySem.W.Frag} {H H' : Hp}
mutual
theorem Rp.mono (e : Ex H H') : ∀ {v : V} {d : D}, Rp K H v d → Rp K H' v d
  | _, _, .non => .non
  | _, _, .bl b => .bl b
  | _, _, .int i => .int i
  | _, _, .str x => .str x
  | _, _, .tup h r => .tup (Evl.ex_t e h) (RpL.mono e r)
  | _, _, .lst h r => .lst (Evl.ex_l e h) (RpL.mono e r)
  | _, _, .obj h r => .obj (e _ _ h) (RpF.mono e r)
  | _, _, .opq a => .opq a
theorem RpL.mono (e : Ex H H') : ∀ {vs : List V} {ds : List D}, RpL K H vs ds → RpL K H' vs ds
  | _, _, .nil => .nil
  | _, _, .cons h r => .cons (Rp.mono e h) (RpL.mono e r)
theorem RpF.mono (e : Ex H H') : ∀ {vs : List (Str × V)} {ds : List (Str × D)}, RpF K H vs ds → RpF K H' vs ds
  | _, _, .nil => .nil
  | _, _, .cons h r => .cons (Rp.mono e h) (RpF.mono e r)
end
theorem RpL.len : ∀ {vs : List V} {ds : List D}, RpL K H vs ds → vs.length = ds.length
  | _, _, .nil => rfl
  | _, _, .cons _ r => congrArg (· + 1) (RpL.len r)
theorem RpL.get : ∀ {vs : List V} {ds : List D} {i : Nat} {v : V}, RpL K H vs ds → vs[i]? = some v → ∃ d, ds[i]? = some d ∧ Rp K H v d
  | _, _, 0, _, .cons h _, e => ⟨_, rfl, by cases e; exact h⟩
  | _, _, i + 1, v, .cons _ r, e => by
    obtain ⟨d, h1, h2⟩ := RpL.get (i := i) (v := v) r (by simpa using e)
    exact ⟨d, by simpa using h1, h2⟩
theorem RpL.getD : ∀ {vs : List V} {ds : List D} {i : Nat} {d : D}, RpL K H vs ds → ds[i]? = some d → ∃ v, vs[i]? = some v ∧ Rp K H v d
  | _, _, 0, _, .cons h _, e => ⟨_, rfl, by cases e; exact h⟩
  | _, _, i + 1, d, .cons _ r, e => by
    obtain ⟨v, h1, h2⟩ := RpL.getD (i := i) (d := d) r (by simpa using e)
    exact ⟨v, by simpa using h1, h2⟩
theorem RpL.app : ∀ {vs ws : List V} {ds es : List D}, RpL K H vs ds → RpL K H ws es → RpL K H (vs ++ ws) (ds ++ es)
  | _, _, _, _, .nil, r => r
  | _, _, _, _, .cons h t, r => .cons h (t.app r)
theorem RpL.setAt {v : V} {d : D} (h : Rp K H v d) : ∀ {vs : List V} {ds : List D} (i : Nat), RpL K H vs ds → RpL K H (vs.set i v) (ds.set i d)
  | _, _, _, .nil => .nil
  | _, _, 0, .cons _ t => .cons h t
  | _, _, i + 1, .cons q t => .cons q (RpL.setAt h i t)
theorem RpL.one {v : V} {d : D} (h : Rp K H v d) : RpL K H [v] [d] := .cons h .nil
theorem RpL.ints : ∀ (ns : List Int), RpL K H (ns.map V.int) (ns.map D.int)
  | [] => .nil
  | n :: ns => .cons (.int n) (RpL.ints ns)
theorem RpL.ints_of : ∀ {vs : List V} {ns : List Int}, RpL K H vs (ns.map D.int) → vs = ns.map V.int
  | [], [], _ => rfl
  | [], _ :: _, h => by cases h
  | _ :: _, [], h => by cases h
  | v :: vs, n :: ns, h => by
    cases h with
    | cons h r =>
      cases h
      rw [RpL.ints_of r]
      rfl
theorem RpL.take : ∀ {vs : List V} {ds : List D} (n : Nat), RpL K H vs ds → RpL K H (vs.take n) (ds.take n)
  | _, _, 0, _ => .nil
  | _, _, _ + 1, .nil => .nil
  | _, _, n + 1, .cons h r => .cons h (RpL.take n r)
theorem RpL.drop : ∀ {vs : List V} {ds : List D} (n : Nat), RpL K H vs ds → RpL K H (vs.drop n) (ds.drop n)
  | _, _, 0, r => r
  | _, _, _ + 1, .nil => .nil
  | _, _, n + 1, .cons _ r => RpL.drop n r
theorem RpL.rev : ∀ {vs : List V} {ds : List D}, RpL K H vs ds → RpL K H vs.reverse ds.reverse
  | _, _, .nil => .nil
  | _, _, .cons h r => by
    rw [List.reverse_cons, List.reverse_cons]
    exact (RpL.rev r).app (.one h)
end

/-! ### slots -/
/-- nothing known | data that nobody changes | a list that this slot alone holds (b: lent by the caller) -/
inductive Sl where
  | non | dat (d : D) | own (b : Bool) (l : List D)
abbrev Gm := List Sl
/-- a value: data, or the list of a slot -/
inductive Wv where
  | dat (d : D) | slot (i : Nat)
abbrev Xd := Addr → List (Str × D) → Prop

/-- what stays the same through a def's run -/
structure Par where
  K : PySem.W.Frag
  F : Hp
  pin : List (Nat × Addr)
  B0 : Hp
  Ed : Xd
  E : XK
  xok : ∀ (C : Addr) (fs : List (Str × D)) (d : Addr) (fvs : List (Str × V)) (H' B' : Hp), Ed C fs → Ex B0 B' → Ex B' H' → Ex F H' → (∀ b, F b ≠ none → B' b = none) → H' d = some (.xd fvs) → RpF K B' fvs fs → E (.ref C) (some d) H'
structure En (P : Par) (Bv : Hp) (Γ : Gm) (σ : L2.St) (H : Hp) : Prop where
  len : Γ.length = σ.length
  base : Ex P.B0 Bv
  sub : Ex Bv H
  frm : Ex P.F H
  dj : ∀ b, P.F b ≠ none → Bv b = none
  dat : ∀ (i : Nat) (d : D), Γ[i]? = some (.dat d) → ∃ v, σ[i]? = some (some v) ∧ Rp P.K Bv v d
  own : ∀ (i : Nat) (p : Bool) (l : List D), Γ[i]? = some (.own p l) → ∃ a vs, σ[i]? = some (some (.ref a)) ∧ H a = some (.lst vs) ∧ RpL P.K Bv vs l ∧ Bv a = none ∧ P.F a = none
  inj : ∀ (i j : Nat) (p p' : Bool) (l l' : List D) (a : Addr), Γ[i]? = some (.own p l) → Γ[j]? = some (.own p' l') → σ[i]? = some (some (.ref a)) → σ[j]? = some (some (.ref a)) → i = j
  pin : ∀ q ∈ P.pin, ∃ l, Γ[q.1]? = some (.own true l) ∧ σ[q.1]? = some (some (.ref q.2))

def RpW (K : PySem.W.Frag) (Bv : Hp) (σ : L2.St) (v : V) : Wv → Prop
  | .dat d => Rp K Bv v d
  | .slot i => σ[i]? = some (some v)
def asD (Γ : Gm) : Wv → Option D
  | .dat d => some d
  | .slot i => match Γ[i]? with
    | some (.own _ l) => some (.lst l)
    | _ => none
theorem RpW.mono {K : PySem.W.Frag} {Bv Bv' : Hp} {σ : L2.St} {v : V} {w : Wv} (e : Ex Bv Bv') (h : RpW K Bv σ v w) : RpW K Bv' σ v w := by
  cases w with
  | dat d => exact Rp.mono e h
  | slot i => exact h

/-- new objects, all of them to be seen -/
structure Grow (Bv H Bv' H' : Hp) : Prop where
  vis : Ex Bv Bv'
  all : Ex H H'
  sub : Ex Bv' H'
  new : ∀ b, Bv' b ≠ none → Bv b ≠ none ∨ H b = none
theorem Grow.refl {Bv H : Hp} (h : Ex Bv H) : Grow Bv H Bv H := ⟨Ex.refl _, Ex.refl _, h, fun _ z => .inl z⟩
theorem Grow.trans {Bv H Bv1 H1 Bv2 H2 : Hp} (a : Grow Bv H Bv1 H1) (b : Grow Bv1 H1 Bv2 H2) : Grow Bv H Bv2 H2 :=
  ⟨a.vis.trans b.vis, a.all.trans b.all, b.sub, fun c z => by
    rcases b.new c z with y | y
    · exact a.new c y
    · refine .inr ?_
      cases q : H c with
      | none => rfl
      | some o => rw [a.all c o q] at y; cases y⟩
theorem Grow.one {Bv H : Hp} {p : Addr} {o : HO} (h : Ex Bv H) (hp : H p = none) : Grow Bv H (upd Bv p o) (upd H p o) := by
  have hb : Bv p = none := Evl.fresh_back h hp
  refine ⟨Ex.new hb, Ex.new hp, fun b u e => ?_, fun b z => ?_⟩
  · by_cases q : b = p
    · subst q; rw [upd_same] at e ⊢; exact e
    · rw [upd_ne q] at e ⊢; exact h b u e
  · by_cases q : b = p
    · exact .inr (q ▸ hp)
    · rw [upd_ne q] at z; exact .inl z
/-- a new object that is not to be seen -/
theorem Grow.hid {Bv H : Hp} {p : Addr} {o : HO} (h : Ex Bv H) (hp : H p = none) : Grow Bv H Bv (upd H p o) :=
  ⟨Ex.refl _, Ex.new hp, h.trans (Ex.new hp), fun _ z => .inl z⟩

section
variable {P : Par} {Bv Bv' : Hp} {Γ : Gm} {σ : L2.St} {H H' : Hp}
theorem En.grow (n : En P Bv Γ σ H) (g : Grow Bv H Bv' H') : En P Bv' Γ σ H' where
  len := n.len
  base := n.base.trans g.vis
  sub := g.sub
  frm := n.frm.trans g.all
  dj := fun b z => by
    cases q : Bv' b with
    | none => rfl
    | some o =>
      rcases g.new b (by rw [q]; exact fun z => nomatch z) with y | y
      · exact absurd (n.dj b z) y
      · cases q2 : P.F b with
        | none => exact absurd q2 z
        | some u => rw [n.frm b u q2] at y; cases y
  dat := fun i d h => let ⟨v, a, b⟩ := n.dat i d h; ⟨v, a, b.mono g.vis⟩
  own := fun i p l h => by
    obtain ⟨a, vs, h1, h2, h3, h4, h5⟩ := n.own i p l h
    refine ⟨a, vs, h1, g.all _ _ h2, h3.mono g.vis, ?_, h5⟩
    cases q : Bv' a with
    | none => rfl
    | some o =>
      rcases g.new a (by rw [q]; exact fun z => nomatch z) with y | y
      · exact absurd h4 y
      · rw [h2] at y; cases y
  inj := n.inj
  pin := n.pin
theorem get_set {α : Type} {l : List α} {i j : Nat} {x y : α} (h : (l.set i x)[j]? = some y) : (j = i ∧ y = x) ∨ (j ≠ i ∧ l[j]? = some y) := by
  by_cases e : j = i
  · subst e
    rw [List.getElem?_set] at h
    split at h
    · split at h
      · exact .inl ⟨rfl, (Option.some.inj h).symm⟩
      · cases h
    · rename_i z; exact absurd rfl z
  · rw [List.getElem?_set_ne (Ne.symm e)] at h
    exact .inr ⟨e, h⟩
/-- a slot that may be stored to -/
def soft : Sl → Bool
  | .own _ _ => false
  | _ => true
def notOwn (Γ : Gm) (i : Nat) : Bool := match Γ[i]? with
  | some s => soft s
  | none => false
theorem notOwn_lt {i : Nat} (h : notOwn Γ i = true) : i < Γ.length := by
  unfold notOwn at h
  cases q : Γ[i]? with
  | none => rw [q] at h; cases h
  | some s => exact (List.getElem?_eq_some_iff.mp q).1
theorem notOwn_no {i : Nat} {p : Bool} {l : List D} (h : notOwn Γ i = true) (e : Γ[i]? = some (.own p l)) : False := by
  unfold notOwn at h
  rw [e] at h
  cases h
/-- a slot gets data -/
theorem En.put {i : Nat} {v : V} {d : D} (n : En P Bv Γ σ H) (hi : notOwn Γ i = true) (hv : Rp P.K Bv v d) : En P Bv (Γ.set i (.dat d)) (σ.set i (some v)) H where
  len := by rw [List.length_set, List.length_set]; exact n.len
  base := n.base
  sub := n.sub
  frm := n.frm
  dj := n.dj
  dat := fun j e h => by
    rcases get_set h with ⟨rfl, q⟩ | ⟨q, h⟩
    · cases q
      exact ⟨v, List.getElem?_set_self (by rw [← n.len]; exact notOwn_lt hi), hv⟩
    · rw [List.getElem?_set_ne (Ne.symm q)]
      exact n.dat j e h
  own := fun j p l h => by
    rcases get_set h with ⟨rfl, q⟩ | ⟨q, h⟩
    · cases q
    · rw [List.getElem?_set_ne (Ne.symm q)]
      exact n.own j p l h
  inj := fun j k p p' l l' a h1 h2 => by
    rcases get_set h1 with ⟨rfl, q⟩ | ⟨q1, h1⟩
    · cases q
    · rcases get_set h2 with ⟨rfl, q⟩ | ⟨q2, h2⟩
      · cases q
      · rw [List.getElem?_set_ne (Ne.symm q1), List.getElem?_set_ne (Ne.symm q2)]
        exact n.inj j k p p' l l' a h1 h2
  pin := fun q hq => by
    obtain ⟨l, h1, h2⟩ := n.pin q hq
    have ne : q.1 ≠ i := fun z => by rw [z] at h1; exact notOwn_no hi h1
    exact ⟨l, by rw [List.getElem?_set_ne (Ne.symm ne)]; exact h1, by rw [List.getElem?_set_ne (Ne.symm ne)]; exact h2⟩
/-- a slot gets a new list of its own -/
theorem En.putOwn {i : Nat} {p : Addr} {vs : List V} {l : List D} (n : En P Bv Γ σ H) (hi : notOwn Γ i = true) (hp : H p = some (.lst vs)) (hb : Bv p = none) (hf : P.F p = none) (hr : RpL P.K Bv vs l)
    (no : ∀ (j : Nat) (q : Bool) (m : List D), Γ[j]? = some (.own q m) → σ[j]? ≠ some (some (.ref p))) : En P Bv (Γ.set i (.own false l)) (σ.set i (some (.ref p))) H where
  len := by rw [List.length_set, List.length_set]; exact n.len
  base := n.base
  sub := n.sub
  frm := n.frm
  dj := n.dj
  dat := fun j e h => by
    rcases get_set h with ⟨rfl, q⟩ | ⟨q, h⟩
    · cases q
    · rw [List.getElem?_set_ne (Ne.symm q)]
      exact n.dat j e h
  own := fun j b m h => by
    rcases get_set h with ⟨rfl, q⟩ | ⟨q, h⟩
    · cases q
      exact ⟨p, vs, List.getElem?_set_self (by rw [← n.len]; exact notOwn_lt hi), hp, hr, hb, hf⟩
    · rw [List.getElem?_set_ne (Ne.symm q)]
      exact n.own j b m h
  inj := fun j k b b' m m' a h1 h2 => by
    rcases get_set h1 with ⟨e1, z1⟩ | ⟨q1, g1⟩
    · rcases get_set h2 with ⟨e2, z2⟩ | ⟨q2, g2⟩
      · exact fun _ _ => e1.trans e2.symm
      · intro s1 s2
        rw [List.getElem?_set_ne (Ne.symm q2)] at s2
        rw [e1, List.getElem?_set_self (by rw [← n.len]; exact notOwn_lt hi)] at s1
        cases s1
        exact absurd s2 (no k b' m' g2)
    · rcases get_set h2 with ⟨e2, z2⟩ | ⟨q2, g2⟩
      · intro s1 s2
        rw [List.getElem?_set_ne (Ne.symm q1)] at s1
        rw [e2, List.getElem?_set_self (by rw [← n.len]; exact notOwn_lt hi)] at s2
        cases s2
        exact absurd s1 (no j b m g1)
      · rw [List.getElem?_set_ne (Ne.symm q1), List.getElem?_set_ne (Ne.symm q2)]
        exact n.inj j k b b' m m' a g1 g2
  pin := fun q hq => by
    obtain ⟨l, h1, h2⟩ := n.pin q hq
    have ne : q.1 ≠ i := fun z => by rw [z] at h1; exact notOwn_no hi h1
    exact ⟨l, by rw [List.getElem?_set_ne (Ne.symm ne)]; exact h1, by rw [List.getElem?_set_ne (Ne.symm ne)]; exact h2⟩
/-- a slot is forgotten -/
theorem En.drop {i : Nat} (n : En P Bv Γ σ H) (hi : notOwn Γ i = true) : En P Bv (Γ.set i .non) σ H where
  len := by rw [List.length_set]; exact n.len
  base := n.base
  sub := n.sub
  frm := n.frm
  dj := n.dj
  dat := fun j e h => by
    rcases get_set h with ⟨rfl, q⟩ | ⟨q, h⟩
    · cases q
    · exact n.dat j e h
  own := fun j p l h => by
    rcases get_set h with ⟨rfl, q⟩ | ⟨q, h⟩
    · cases q
    · exact n.own j p l h
  inj := fun j k p p' l l' a h1 h2 => by
    rcases get_set h1 with ⟨rfl, q⟩ | ⟨q1, h1⟩
    · cases q
    · rcases get_set h2 with ⟨rfl, q⟩ | ⟨q2, h2⟩
      · cases q
      · exact n.inj j k p p' l l' a h1 h2
  pin := fun q hq => by
    obtain ⟨l, h1, h2⟩ := n.pin q hq
    have ne : q.1 ≠ i := fun z => by rw [z] at h1; exact notOwn_no hi h1
    exact ⟨l, by rw [List.getElem?_set_ne (Ne.symm ne)]; exact h1, h2⟩
/-- the values of forgotten slots do not matter -/
theorem En.slots {σ' : L2.St} (n : En P Bv Γ σ H) (hl : σ'.length = σ.length) (h : ∀ (i : Nat) (s : Sl), Γ[i]? = some s → s ≠ .non → σ'[i]? = σ[i]?) : En P Bv Γ σ' H where
  len := n.len.trans hl.symm
  base := n.base
  sub := n.sub
  frm := n.frm
  dj := n.dj
  dat := fun i d e => by rw [h i _ e (fun z => nomatch z)]; exact n.dat i d e
  own := fun i p l e => by rw [h i _ e (fun z => nomatch z)]; exact n.own i p l e
  inj := fun i j p p' l l' a e1 e2 => by rw [h i _ e1 (fun z => nomatch z), h j _ e2 (fun z => nomatch z)]; exact n.inj i j p p' l l' a e1 e2
  pin := fun q hq => by
    obtain ⟨l, h1, h2⟩ := n.pin q hq
    exact ⟨l, h1, by rw [h q.1 _ h1 (fun z => nomatch z)]; exact h2⟩
/-- a slot's own list is written -/
theorem En.write {i : Nat} {b : Bool} {l l' : List D} {a : Addr} {vs' : List V} (n : En P Bv Γ σ H) (hi : Γ[i]? = some (.own b l)) (ha : σ[i]? = some (some (.ref a))) (hr : RpL P.K Bv vs' l') :
    En P Bv (Γ.set i (.own b l')) σ (upd H a (.lst vs')) := by
  obtain ⟨a', vs, h1, h2, h3, h4, h5⟩ := n.own i b l hi
  rw [ha] at h1
  cases h1
  have lt : i < Γ.length := (List.getElem?_eq_some_iff.mp hi).1
  have ne : ∀ {c : Addr} {u : HO}, Bv c = some u → c ≠ a := fun {c u} e z => by rw [z, h4] at e; cases e
  exact {
    len := by rw [List.length_set]; exact n.len
    base := n.base
    sub := fun c u e => by rw [upd_ne (ne e)]; exact n.sub c u e
    frm := fun c u e => by
      have : c ≠ a := fun z => by rw [z, h5] at e; cases e
      rw [upd_ne this]; exact n.frm c u e
    dj := n.dj
    dat := fun j e h => by
      rcases get_set h with ⟨rfl, q⟩ | ⟨q, h⟩
      · cases q
      · exact n.dat j e h
    own := fun j p m h => by
      rcases get_set h with ⟨rfl, q⟩ | ⟨q, h⟩
      · cases q
        exact ⟨a, vs', ha, upd_same, hr, h4, h5⟩
      · obtain ⟨c, ws, e1, e2, e3, e4, e5⟩ := n.own j p m h
        have : c ≠ a := fun z => q (n.inj j i p b m l a h hi (by rw [e1, z]) ha)
        exact ⟨c, ws, e1, by rw [upd_ne this]; exact e2, e3, e4, e5⟩
    inj := fun j k p p' m m' c g1 g2 => by
      have f : ∀ {j : Nat} {p : Bool} {m : List D}, (Γ.set i (.own b l'))[j]? = some (.own p m) → ∃ p m, Γ[j]? = some (.own p m) := fun {j p m} g => by
        rcases get_set g with ⟨rfl, q⟩ | ⟨q, g⟩
        · exact ⟨b, l, hi⟩
        · exact ⟨p, m, g⟩
      obtain ⟨_, _, k1⟩ := f g1
      obtain ⟨_, _, k2⟩ := f g2
      exact n.inj j k _ _ _ _ c k1 k2
    pin := fun q hq => by
      obtain ⟨m, g1, g2⟩ := n.pin q hq
      by_cases e : q.1 = i
      · refine ⟨l', ?_, g2⟩
        rw [e] at g1 ⊢
        rw [hi] at g1
        cases g1
        rw [List.getElem?_set_self lt]
      · exact ⟨m, by rw [List.getElem?_set_ne (Ne.symm e)]; exact g1, g2⟩ }
/-- a slot's own list is to be seen from now on -/
theorem En.freeze {i : Nat} {l : List D} (n : En P Bv Γ σ H) (hi : Γ[i]? = some (.own false l)) :
    ∃ a vs, σ[i]? = some (some (.ref a)) ∧ Ex Bv (upd Bv a (.lst vs)) ∧ En P (upd Bv a (.lst vs)) (Γ.set i (.dat (.lst l))) σ H ∧ Rp P.K (upd Bv a (.lst vs)) (.ref a) (.lst l) := by
  obtain ⟨a, vs, h1, h2, h3, h4, h5⟩ := n.own i false l hi
  have ex : Ex Bv (upd Bv a (.lst vs)) := Ex.new h4
  have rp : Rp P.K (upd Bv a (.lst vs)) (.ref a) (.lst l) := .lst (.inl (.inl upd_same)) (h3.mono ex)
  have lt : i < Γ.length := (List.getElem?_eq_some_iff.mp hi).1
  refine ⟨a, vs, h1, ex, ?_, rp⟩
  exact {
    len := by rw [List.length_set]; exact n.len
    base := n.base.trans ex
    sub := fun c u e => by
      by_cases q : c = a
      · subst q; rw [upd_same] at e; cases e; exact h2
      · rw [upd_ne q] at e; exact n.sub c u e
    frm := n.frm
    dj := fun c z => by
      have : c ≠ a := fun e => by rw [e] at z; exact z h5
      rw [upd_ne this]; exact n.dj c z
    dat := fun j e h => by
      rcases get_set h with ⟨rfl, q⟩ | ⟨q, h⟩
      · cases q
        exact ⟨_, h1, rp⟩
      · obtain ⟨v, g1, g2⟩ := n.dat j e h
        exact ⟨v, g1, g2.mono ex⟩
    own := fun j p m h => by
      rcases get_set h with ⟨rfl, q⟩ | ⟨q, h⟩
      · cases q
      · obtain ⟨c, ws, e1, e2, e3, e4, e5⟩ := n.own j p m h
        have : c ≠ a := fun z => q (n.inj j i p false m l a h hi (by rw [e1, z]) h1)
        exact ⟨c, ws, e1, e2, e3.mono ex, by rw [upd_ne this]; exact e4, e5⟩
    inj := fun j k p p' m m' c g1 g2 => by
      rcases get_set g1 with ⟨rfl, q⟩ | ⟨q1, g1⟩
      · cases q
      · rcases get_set g2 with ⟨rfl, q⟩ | ⟨q2, g2⟩
        · cases q
        · exact n.inj j k _ _ _ _ c g1 g2
    pin := fun q hq => by
      obtain ⟨m, g1, g2⟩ := n.pin q hq
      have : q.1 ≠ i := fun e => by rw [e, hi] at g1; cases g1
      exact ⟨m, by rw [List.getElem?_set_ne (Ne.symm this)]; exact g1, g2⟩ }

/-! what a value is read as -/
theorem En.list {v : V} {w : Wv} {l : List D} (n : En P Bv Γ σ H) (h : RpW P.K Bv σ v w) (e : asD Γ w = some (.lst l)) : ∃ a vs, v = .ref a ∧ SqL P.K H a vs ∧ RpL P.K Bv vs l := by
  cases w with
  | dat d =>
    cases e
    cases h with
    | lst h1 h2 => exact ⟨_, _, rfl, Evl.ex_l n.sub h1, h2⟩
  | slot i =>
    dsimp only [asD] at e
    cases q : Γ[i]? with
    | none => rw [q] at e; cases e
    | some s =>
      rw [q] at e
      cases s with
      | non => cases e
      | dat d => cases e
      | own p m =>
        cases e
        obtain ⟨a, vs, h1, h2, h3, h4, h5⟩ := n.own i p _ q
        have h' : σ[i]? = some (some v) := h
        rw [h1] at h'
        cases h'
        exact ⟨a, vs, rfl, .inl (.inl h2), h3⟩
theorem En.tuple {v : V} {w : Wv} {l : List D} (n : En P Bv Γ σ H) (h : RpW P.K Bv σ v w) (e : asD Γ w = some (.tup l)) : ∃ a vs, v = .ref a ∧ SqT P.K H a vs ∧ RpL P.K Bv vs l := by
  cases w with
  | dat d =>
    cases e
    cases h with
    | tup h1 h2 => exact ⟨_, _, rfl, Evl.ex_t n.sub h1, h2⟩
  | slot i =>
    dsimp only [asD] at e
    cases q : Γ[i]? with
    | none => rw [q] at e; cases e
    | some s =>
      rw [q] at e
      cases s <;> cases e
theorem En.full {v : V} {w : Wv} {d : D} (n : En P Bv Γ σ H) (h : RpW P.K Bv σ v w) (e : asD Γ w = some d) : Rp P.K H v d := by
  cases w with
  | dat d' =>
    cases e
    exact Rp.mono n.sub h
  | slot i =>
    have e' := e
    dsimp only [asD] at e
    cases q : Γ[i]? with
    | none => rw [q] at e; cases e
    | some s =>
      rw [q] at e
      cases s with
      | non => cases e
      | dat d => cases e
      | own p m =>
        cases e
        obtain ⟨a, vs, rfl, h1, h2⟩ := n.list h e'
        exact .lst h1 (h2.mono n.sub)
/-- a value that is to stay: the list of a slot is let go -/
def fix (Γ : Gm) : Wv → Option (D × Gm)
  | .dat d => some (d, Γ)
  | .slot i => match Γ[i]? with
    | some (.own false l) => some (.lst l, Γ.set i (.dat (.lst l)))
    | _ => none
theorem En.fixed {v : V} {w : Wv} {d : D} {Γ' : Gm} (n : En P Bv Γ σ H) (h : RpW P.K Bv σ v w) (e : fix Γ w = some (d, Γ')) : ∃ Bv', Ex Bv Bv' ∧ En P Bv' Γ' σ H ∧ Rp P.K Bv' v d := by
  cases w with
  | dat d' =>
    cases e
    exact ⟨Bv, Ex.refl _, n, h⟩
  | slot i =>
    dsimp only [fix] at e
    cases q : Γ[i]? with
    | none => rw [q] at e; cases e
    | some s =>
      rw [q] at e
      cases s with
      | non => cases e
      | dat d => cases e
      | own p m =>
        cases p with
        | true => cases e
        | false =>
          cases e
          obtain ⟨a, vs, h1, h2, h3, h4⟩ := n.freeze q
          have h' : σ[i]? = some (some v) := h
          rw [h1] at h'
          cases h'
          exact ⟨_, h2, h3, h4⟩
end
end DL

set_option Elab.async false
set_option linter.all false
set_option maxRecDepth 100000
set_option maxHeartbeats 4000000
namespace DL
open PySem PySem.Spec PyProof.Rows L2
open Evl (Ex)

/-! ### data without bools and objects: equality -/
mutual
def toPy : D → PyData
  | .non => .none
  | .bl b => .bool b
  | .int i => .int i
  | .str x => .str x
  | .tup l => .tuple (toPyL l)
  | .lst l => .list (toPyL l)
  | .obj _ _ => .none
  | .opq _ => .none
def toPyL : List D → List PyData
  | [] => []
  | d :: l => toPy d :: toPyL l
end
mutual
def plain : D → Bool
  | .non => true
  | .bl _ => false
  | .int _ => true
  | .str x => PyData.strOk x
  | .tup l => plainL l
  | .lst l => plainL l
  | .obj _ _ => false
  | .opq _ => false
def plainL : List D → Bool
  | [] => true
  | d :: l => plain d && plainL l
end
mutual
def dep : D → Nat
  | .tup l => depL l + 1
  | .lst l => depL l + 1
  | _ => 0
def depL : List D → Nat
  | [] => 0
  | d :: l => max (dep d) (depL l)
end
mutual
theorem toPy_lay : ∀ d : D, plain d = true → (toPy d).canLay0 = true
  | .non, _ => rfl
  | .bl _, h => by simp [plain] at h
  | .int _, _ => rfl
  | .str x, h => by simpa [toPy, PyData.canLay0, plain] using h
  | .tup l, h => by
    simp only [toPy, PyData.canLay0]
    exact toPyL_lay l (by simpa [plain] using h)
  | .lst l, h => by
    simp only [toPy, PyData.canLay0]
    exact toPyL_lay l (by simpa [plain] using h)
  | .obj _ _, h => by simp [plain] at h
  | .opq _, h => by simp [plain] at h
theorem toPyL_lay : ∀ l : List D, plainL l = true → PyData.canLayAll0 (toPyL l) = true
  | [], _ => rfl
  | d :: l, h => by
    simp only [plainL, Bool.and_eq_true] at h
    simp only [toPyL, PyData.canLayAll0, Bool.and_eq_true]
    exact ⟨toPy_lay d h.1, toPyL_lay l h.2⟩
end
mutual
theorem toPy_dep : ∀ d : D, (toPy d).depth = dep d
  | .non => rfl
  | .bl _ => rfl
  | .int _ => rfl
  | .str x => rfl
  | .tup l => by simp only [toPy, PyData.depth, dep, toPyL_dep l]
  | .lst l => by simp only [toPy, PyData.depth, dep, toPyL_dep l]
  | .obj _ _ => rfl
  | .opq _ => rfl
theorem toPyL_dep : ∀ l : List D, PyData.depthAll (toPyL l) = depL l
  | [] => rfl
  | d :: l => by simp only [toPyL, PyData.depthAll, depL, toPy_dep d, toPyL_dep l]
end
mutual
theorem eqv_iff : ∀ d e : D, plain d = true → plain e = true → (PyData.eqv (toPy d) (toPy e) = true ↔ d = e)
  | .non, e, _, he => by cases e <;> simp [toPy, PyData.eqv, plain] at he ⊢
  | .bl _, _, h, _ => by simp [plain] at h
  | .int i, e, _, he => by cases e <;> simp [toPy, PyData.eqv, plain] at he ⊢
  | .str x, e, _, he => by cases e <;> simp [toPy, PyData.eqv, plain] at he ⊢
  | .tup l, e, h, he => by
    cases e with
    | tup m =>
      simp only [toPy, PyData.eqv, D.tup.injEq]
      exact eqvL_iff l m (by simpa [plain] using h) (by simpa [plain] using he)
    | _ => simp [toPy, PyData.eqv, plain] at he ⊢
  | .lst l, e, h, he => by
    cases e with
    | lst m =>
      simp only [toPy, PyData.eqv, D.lst.injEq]
      exact eqvL_iff l m (by simpa [plain] using h) (by simpa [plain] using he)
    | _ => simp [toPy, PyData.eqv, plain] at he ⊢
  | .obj _ _, _, h, _ => by simp [plain] at h
  | .opq _, _, h, _ => by simp [plain] at h
theorem eqvL_iff : ∀ l m : List D, plainL l = true → plainL m = true → (PyData.eqvAll (toPyL l) (toPyL m) = true ↔ l = m)
  | [], [], _, _ => by simp [toPyL, PyData.eqvAll]
  | [], _ :: _, _, _ => by simp [toPyL, PyData.eqvAll]
  | _ :: _, [], _, _ => by simp [toPyL, PyData.eqvAll]
  | d :: l, e :: m, h, g => by
    simp only [plainL, Bool.and_eq_true] at h g
    simp only [toPyL, PyData.eqvAll, Bool.and_eq_true, List.cons.injEq, eqv_iff d e h.1 g.1, eqvL_iff l m h.2 g.2]
end
def okD (d : D) : Bool := plain d && decide (dep d ≤ 60)
theorem okD_shaped {d : D} (h : okD d = true) : SeqAt.shaped (toPy d) = true := by
  unfold okD at h
  rw [Bool.and_eq_true] at h
  have h2 : dep d ≤ 60 := of_decide_eq_true h.2
  show ((toPy d).canLay0 && decide ((toPy d).depth ≤ 64)) = true
  rw [Bool.and_eq_true]
  exact ⟨toPy_lay d h.1, decide_eq_true (by rw [toPy_dep]; omega)⟩
theorem okD_plain {d : D} (h : okD d = true) : plain d = true := by
  unfold okD at h
  rw [Bool.and_eq_true] at h
  exact h.1
section
variable {K : PySem.W.Frag} {H : Hp}
mutual
theorem Rp.dp : ∀ {v : V} {d : D}, Rp K H v d → plain d = true → Dp K H v (toPy d)
  | _, _, .non, _ => .non
  | _, _, .bl b, h => .bl b
  | _, _, .int i, _ => .int i
  | _, _, .str x, _ => .str x
  | _, _, .tup h r, q => by
    simp only [toPy]
    exact .tup h (RpL.dp r (by simpa [plain] using q))
  | _, _, .lst h r, q => by
    simp only [toPy]
    exact .lst h (RpL.dp r (by simpa [plain] using q))
  | _, _, .obj _ _, q => by simp [plain] at q
  | _, _, .opq _, q => by simp [plain] at q
theorem RpL.dp : ∀ {vs : List V} {ds : List D}, RpL K H vs ds → plainL ds = true → DpAll K H vs (toPyL ds)
  | _, _, .nil, _ => .nil
  | _, _, .cons h r, q => by
    simp only [plainL, Bool.and_eq_true] at q
    exact .cons (Rp.dp h q.1) (RpL.dp r q.2)
end
end

/-! ### readings over data -/
abbrev DE := Xd → Gm → (Wv → Gm → Prop) → Prop
abbrev DA := Xd → Gm → (List Wv → Gm → Prop) → Prop
abbrev DT := Xd → Gm → (Bool → Gm → Prop) → Prop
abbrev DO := Xd → Gm → (List D → Gm → Prop) → Prop
structure DEnds where
  nx : Gm → Prop
  rt : D → Gm → Prop
  bk : Gm → Prop := fun _ => False
  ct : Gm → Prop := fun _ => False
abbrev DS := Xd → DEnds → Gm → Prop

def RpWL (K : PySem.W.Frag) (Bv : Hp) (σ : L2.St) : List V → List Wv → Prop
  | [], [] => True
  | v :: vs, w :: ws => RpW K Bv σ v w ∧ RpWL K Bv σ vs ws
  | _, _ => False
theorem RpWL.mono {K : PySem.W.Frag} {Bv Bv' : Hp} {σ : L2.St} (e : Ex Bv Bv') : ∀ {vs : List V} {ws : List Wv}, RpWL K Bv σ vs ws → RpWL K Bv' σ vs ws
  | [], [], _ => trivial
  | _ :: _, _ :: _, h => ⟨h.1.mono e, RpWL.mono e h.2⟩
  | [], _ :: _, h => h.elim
  | _ :: _, [], h => h.elim
theorem RpWL.one {K : PySem.W.Frag} {Bv : Hp} {σ : L2.St} {vs : List V} {w : Wv} (h : RpWL K Bv σ vs [w]) : ∃ v, vs = [v] ∧ RpW K Bv σ v w := by
  match vs, h with
  | [v], h => exact ⟨v, rfl, h.1⟩
theorem RpWL.two {K : PySem.W.Frag} {Bv : Hp} {σ : L2.St} {vs : List V} {w u : Wv} (h : RpWL K Bv σ vs [w, u]) : ∃ v x, vs = [v, x] ∧ RpW K Bv σ v w ∧ RpW K Bv σ x u := by
  match vs, h with
  | [v, x], h => exact ⟨v, x, rfl, h.1, h.2.1⟩

abbrev FinW (P : Par) (Bv : Hp) (σ : L2.St) (Qd : Wv → Gm → Prop) (Q : VK) : Prop :=
  ∀ (w : Wv) (Γ' : Gm) (v : V) (H' Bv' : Hp), Ex Bv Bv' → En P Bv' Γ' σ H' → RpW P.K Bv' σ v w → Qd w Γ' → Q v H'
abbrev FinL (P : Par) (Bv : Hp) (σ : L2.St) (Qd : List Wv → Gm → Prop) (Q : List V → Hp → Prop) : Prop :=
  ∀ (ws : List Wv) (Γ' : Gm) (vs : List V) (H' Bv' : Hp), Ex Bv Bv' → En P Bv' Γ' σ H' → RpWL P.K Bv' σ vs ws → Qd ws Γ' → Q vs H'
abbrev FinB (P : Par) (Bv : Hp) (σ : L2.St) (Qd : Bool → Gm → Prop) (Q : Bool → Hp → Prop) : Prop :=
  ∀ (b : Bool) (Γ' : Gm) (H' Bv' : Hp), Ex Bv Bv' → En P Bv' Γ' σ H' → Qd b Γ' → Q b H'
/-- a list at p that nobody knows yet -/
structure NewL (P : Par) (Bv : Hp) (Γ : Gm) (σ : L2.St) (H : Hp) (p : Addr) (vs : List V) (l : List D) : Prop where
  at_ : H p = some (.lst vs)
  bv : Bv p = none
  f : P.F p = none
  no : ∀ (j : Nat) (q : Bool) (m : List D), Γ[j]? = some (.own q m) → σ[j]? ≠ some (some (.ref p))
  rp : RpL P.K Bv vs l
abbrev FinO (P : Par) (Bv : Hp) (σ : L2.St) (Qd : List D → Gm → Prop) (Q : VK) : Prop :=
  ∀ (l : List D) (Γ' : Gm) (p : Addr) (vs : List V) (H' Bv' : Hp), Ex Bv Bv' → En P Bv' Γ' σ H' → NewL P Bv' Γ' σ H' p vs l → Qd l Γ' → Q (.ref p) H'

theorem finD {P : Par} {Bv : Hp} {σ : L2.St} {Qd : Wv → Gm → Prop} {Q : VK} (k : FinW P Bv σ Qd Q) {d : D} {Γ' : Gm} {v : V} {H' Bv' : Hp} (e : Ex Bv Bv') (n : En P Bv' Γ' σ H') (r : Rp P.K Bv' v d) (q : Qd (.dat d) Γ') : Q v H' :=
  k (.dat d) Γ' v H' Bv' e n r q
def LE (P : Par) (t : TE) (T : DE) : Prop := ∀ (Bv : Hp) (Γ : Gm) (σ : L2.St) (H : Hp) (Qd : Wv → Gm → Prop) (Q : VK), En P Bv Γ σ H → T P.Ed Γ Qd → FinW P Bv σ Qd Q → t σ H Q
def LA (P : Par) (t : TA) (T : DA) : Prop := ∀ (Bv : Hp) (Γ : Gm) (σ : L2.St) (H : Hp) (Qd : List Wv → Gm → Prop) (Q : List V → Hp → Prop), En P Bv Γ σ H → T P.Ed Γ Qd → FinL P Bv σ Qd Q → t σ H Q
def LT (P : Par) (t : TT) (T : DT) : Prop := ∀ (Bv : Hp) (Γ : Gm) (σ : L2.St) (H : Hp) (Qd : Bool → Gm → Prop) (Q : Bool → Hp → Prop), En P Bv Γ σ H → T P.Ed Γ Qd → FinB P Bv σ Qd Q → t σ H Q
def LO (P : Par) (t : TE) (T : DO) : Prop := ∀ (Bv : Hp) (Γ : Gm) (σ : L2.St) (H : Hp) (Qd : List D → Gm → Prop) (Q : VK), En P Bv Γ σ H → T P.Ed Γ Qd → FinO P Bv σ Qd Q → t σ H Q

/-- a def's body, a block in it: contexts that read alike -/
structure Fam where
  ι : Type
  X : ι → Cx
  K : PySem.W.Frag
  k : ∀ j, (X j).K = K
def PD (F : Fam) (E : XK) (e : Expr) (T : DE) : Prop := ∃ t, (∀ j, PE (F.X j) e t) ∧ ∀ P : Par, P.K = F.K → P.E = E → LE P t T
def PDA (F : Fam) (E : XK) (es : List Expr) (T : DA) : Prop := ∃ t, (∀ j, PA (F.X j) es t) ∧ ∀ P : Par, P.K = F.K → P.E = E → LA P t T
def PDT (F : Fam) (E : XK) (e : Expr) (T : DT) : Prop := ∃ t, (∀ j, PT (F.X j) e t) ∧ ∀ P : Par, P.K = F.K → P.E = E → LT P t T
/-- a test whatever its whole is -/
def PDW (F : Fam) (E : XK) (e : Expr) (T : DT) : Prop := ∃ t, (∀ j, PW (F.X j) e t) ∧ ∀ P : Par, P.K = F.K → P.E = E → LT P t T
def PDO (F : Fam) (E : XK) (e : Expr) (T : DO) : Prop := ∃ t, (∀ j, PE (F.X j) e t) ∧ ∀ P : Par, P.K = F.K → P.E = E → LO P t T

section
variable {F : Fam} {E : XK}
/-! names, constants -/
def dVar (i : Nat) : DE := fun _ Γ Q => match Γ[i]? with
  | some (.dat d) => Q (.dat d) Γ
  | some (.own _ _) => Q (.slot i) Γ
  | _ => False
theorem le_var {P : Par} {i : Nat} : LE P (tVar i) (dVar i) := by
  intro Bv Γ σ H Qd Q n h k
  unfold dVar at h
  cases q : Γ[i]? with
  | none => rw [q] at h; exact h.elim
  | some s =>
    rw [q] at h
    cases s with
    | non => exact h.elim
    | dat d =>
      obtain ⟨v, h1, h2⟩ := n.dat i d q
      exact ⟨v, h1, k (.dat d) Γ v H Bv (Ex.refl _) n h2 h⟩
    | own p l =>
      obtain ⟨a, vs, h1, h2, h3, h4, h5⟩ := n.own i p l q
      exact ⟨.ref a, h1, k (.slot i) Γ (.ref a) H Bv (Ex.refl _) n h1 h⟩
theorem pd_var (i : Nat) {x : Str} {pos : Pos} (hN : ∀ j, (F.X j).N[i]? = some x := by intro _; rfl) (hv : ∀ j, Vis (F.X j).env.scope x := by first | exact fun _ => Or.inl rfl | exact fun _ => Or.inr (Or.inl rfl) | exact fun _ => Or.inr (Or.inr rfl)) (hd : (x == ("__debug__" : Str)) = false := by decide)
    (hcd : (x == ("__classdict__" : Str)) = false := by decide) : PD F E (.Name x pos) (dVar i) := ⟨_, fun j => pe_var (hN j) (hv j) hd hcd, fun _ _ _ => le_var⟩
def dC (d : D) : DE := fun _ Γ Q => Q (.dat d) Γ
theorem le_c {P : Par} {v : V} {d : D} (h : ∀ Bv, Rp P.K Bv v d) : LE P (tC v) (dC d) := fun Bv Γ σ H Qd Q n q k => k (.dat d) Γ v H Bv (Ex.refl _) n (h Bv) q
theorem pd_int {i : Int} {j pos} : PD F E (.Constant (.int i) j pos) (dC (.int i)) := ⟨_, fun j => pe_int, fun _ _ _ => le_c fun _ => .int i⟩
theorem pd_bl {b : Bool} {j pos} : PD F E (.Constant (.bool b) j pos) (dC (.bl b)) := ⟨_, fun j => pe_bl, fun _ _ _ => le_c fun _ => .bl b⟩
theorem pd_non {j pos} : PD F E (.Constant .none j pos) (dC .non) := ⟨_, fun j => pe_non, fun _ _ _ => le_c fun _ => .non⟩
theorem pd_str {x : Str} {j pos} : PD F E (.Constant (.str x) j pos) (dC (.str x)) := ⟨_, fun j => pe_str, fun _ _ _ => le_c fun _ => .str x⟩
theorem pd_globI {x : Str} {i : Int} {t : Tok} {pos : Pos} (hg : ∀ j, Gl (F.X j) x) (hm : ∀ j, (F.X j).mg x = some (.int i t)) (hd : (x == ("__debug__" : Str)) = false := by decide) : PD F E (.Name x pos) (dC (.int i)) :=
  ⟨_, fun j => pe_glob (hg j) (hm j) (v := .int i) ⟨t, rfl⟩ hd, fun _ _ _ => le_c fun _ => .int i⟩
theorem pd_globR {x : Str} {a : Addr} {pos : Pos} (hg : ∀ j, Gl (F.X j) x) (hm : ∀ j, (F.X j).mg x = some (.ref a)) (hd : (x == ("__debug__" : Str)) = false := by decide) : PD F E (.Name x pos) (dC (.opq a)) :=
  ⟨_, fun j => pe_glob (hg j) (hm j) (v := .ref a) rfl hd, fun _ _ _ => le_c fun _ => .opq a⟩

/-! operators -/
abbrev D2 := Gm → Wv → Wv → (Wv → Gm → Prop) → Prop
def RL (P : Par) (r : R2) (rd : D2) : Prop := ∀ (Bv : Hp) (Γ : Gm) (σ : L2.St) (H : Hp) (x y : V) (wx wy : Wv) (Qd : Wv → Gm → Prop) (Q : VK), En P Bv Γ σ H → RpW P.K Bv σ x wx → RpW P.K Bv σ y wy → rd Γ wx wy Qd → FinW P Bv σ Qd Q → r x y H Q
def dOp (rd : D2) (A B : DE) : DE := fun xd Γ Q => A xd Γ fun x Γ1 => B xd Γ1 fun y Γ2 => rd Γ2 x y Q
theorem le_op {P : Par} {r : R2} {rd : D2} {ta tb : TE} {A B : DE} (hr : RL P r rd) (ha : LE P ta A) (hb : LE P tb B) : LE P (tOp r ta tb) (dOp rd A B) := fun Bv Γ σ H Qd Q n h k =>
  ha Bv Γ σ H _ _ n h fun w Γ1 v H1 B1 e1 n1 r1 h1 => hb B1 Γ1 σ H1 _ _ n1 h1 fun w2 Γ2 v2 H2 B2 e2 n2 r2 h2 =>
    hr B2 Γ2 σ H2 v v2 w w2 Qd Q n2 (r1.mono e2) r2 h2 fun w3 Γ3 v3 H3 B3 e3 n3 r3 h3 => k w3 Γ3 v3 H3 B3 ((e1.trans e2).trans e3) n3 r3 h3
/-- two ints -/
def rdI (C : Int → Int → Prop) (g : Int → Int → D) : D2 := fun Γ x y Q => ∃ i j, x = .dat (.int i) ∧ y = .dat (.int j) ∧ C i j ∧ Q (.dat (g i j)) Γ
def rdI0 (g : Int → Int → D) : D2 := fun Γ x y Q => ∃ i j, x = .dat (.int i) ∧ y = .dat (.int j) ∧ Q (.dat (g i j)) Γ
theorem rl_I {P : Par} {C : Int → Int → Prop} {g : Int → Int → V} {gd : Int → Int → D} (hg : ∀ i j Bv, Rp P.K Bv (g i j) (gd i j)) : RL P (rI C g) (rdI C gd) := by
  intro Bv Γ σ H x y wx wy Qd Q n rx ry h k
  obtain ⟨i, j, rfl, rfl, hc, h⟩ := h
  cases rx
  cases ry
  exact ⟨i, j, rfl, rfl, hc, finD k (Ex.refl _) n (hg i j Bv) h⟩
theorem rl_I0 {P : Par} {g : Int → Int → V} {gd : Int → Int → D} (hg : ∀ i j Bv, Rp P.K Bv (g i j) (gd i j)) : RL P (rI0 g) (rdI0 gd) := by
  intro Bv Γ σ H x y wx wy Qd Q n rx ry h k
  obtain ⟨i, j, rfl, rfl, h⟩ := h
  cases rx
  cases ry
  exact ⟨i, j, rfl, rfl, finD k (Ex.refl _) n (hg i j Bv) h⟩
variable {a b c : Expr} {A B T : DE} {pos : Pos}
theorem pd_op {op : Operator} {r : R2} {rd : D2} (ho : ∀ j, OpR (F.X j) (binaryOp op) r) (hl : ∀ P : Par, P.K = F.K → RL P r rd) (ha : PD F E a A) (hb : PD F E b B) : PD F E (.BinOp a op b pos) (dOp rd A B) :=
  let ⟨_, pa, la⟩ := ha; let ⟨_, pb, lb⟩ := hb
  ⟨_, fun j => pe_op (ho j) (pa j) (pb j), fun P hK hE => le_op (hl P hK) (la P hK hE) (lb P hK hE)⟩
abbrev gAdd : Int → Int → D := fun i j => .int (i + j)
abbrev gSub : Int → Int → D := fun i j => .int (i - j)
abbrev gMul : Int → Int → D := fun i j => .int (i * j)
abbrev gMod : Int → Int → D := fun i j => .int (i % j)
abbrev gDiv : Int → Int → D := fun i j => .int (i / j)
abbrev gPow : Int → Int → D := fun i j => .int (i ^ j.toNat)
theorem pd_add (ha : PD F E a A) (hb : PD F E b B) : PD F E (.BinOp a .Add b pos) (dOp (rdI0 gAdd) A B) := pd_op (fun _ => op_add) (fun _ _ => rl_I0 fun _ _ _ => .int _) ha hb
theorem pd_sub (ha : PD F E a A) (hb : PD F E b B) : PD F E (.BinOp a .Sub b pos) (dOp (rdI0 gSub) A B) := pd_op (fun _ => op_sub) (fun _ _ => rl_I0 fun _ _ _ => .int _) ha hb
theorem pd_mul (ha : PD F E a A) (hb : PD F E b B) : PD F E (.BinOp a .Mult b pos) (dOp (rdI CMul gMul) A B) := pd_op (fun _ => op_mul) (fun _ _ => rl_I fun _ _ _ => .int _) ha hb
theorem pd_mod (ha : PD F E a A) (hb : PD F E b B) : PD F E (.BinOp a .Mod b pos) (dOp (rdI (fun _ j => 0 < j) gMod) A B) := pd_op (fun _ => op_mod) (fun _ _ => rl_I fun _ _ _ => .int _) ha hb
theorem pd_fdiv (ha : PD F E a A) (hb : PD F E b B) : PD F E (.BinOp a .FloorDiv b pos) (dOp (rdI CDiv gDiv) A B) := pd_op (fun _ => op_fdiv) (fun _ _ => rl_I fun _ _ _ => .int _) ha hb
theorem pd_pow (ha : PD F E a A) (hb : PD F E b B) : PD F E (.BinOp a .Pow b pos) (dOp (rdI CPow gPow) A B) := pd_op (fun _ => op_pow) (fun _ _ => rl_I fun _ _ _ => .int _) ha hb
def dUn (g : Int → D) (A : DE) : DE := fun xd Γ Q => A xd Γ fun x Γ1 => ∃ i, x = .dat (.int i) ∧ Q (.dat (g i)) Γ1
theorem pd_neg (ha : PD F E a A) : PD F E (.UnaryOp .USub a pos) (dUn (fun i => .int (-i)) A) :=
  let ⟨_, pa, la⟩ := ha
  ⟨_, fun j => pe_un un_neg (pa j), fun P hK hE Bv Γ σ H Qd Q n h k => la P hK hE Bv Γ σ H _ _ n h fun w Γ1 v H1 B1 e1 n1 r1 h1 => by
    obtain ⟨i, rfl, h1⟩ := h1
    cases r1
    exact ⟨i, rfl, finD k e1 n1 (.int _) h1⟩⟩
/-! comparisons -/
def dCmp (op : CmpOp) (rd : D2) (A B : DE) : DE := dOp rd A B
theorem pd_cmp {op : CmpOp} {r : R2} {rd : D2} (ho : ∀ j, OpR (F.X j) (compareOp op) r) (hl : ∀ P : Par, P.K = F.K → RL P r rd) (ha : PD F E a A) (hb : PD F E b B) (h1 : behindInMarks op b = false := by first | exact nomark _ | rfl) : PD F E (.Compare a [op] [b] pos) (dOp rd A B) :=
  let ⟨_, pa, la⟩ := ha; let ⟨_, pb, lb⟩ := hb
  ⟨_, fun j => pe_cmpR (ho j) (pa j) (pb j) h1, fun P hK hE => le_op (hl P hK) (la P hK hE) (lb P hK hE)⟩
abbrev gLt : Int → Int → D := fun i j => .bl (decide (i < j))
abbrev gLe : Int → Int → D := fun i j => .bl (decide (i ≤ j))
abbrev gGt : Int → Int → D := fun i j => .bl (decide (j < i))
abbrev gGe : Int → Int → D := fun i j => .bl (decide (j ≤ i))
theorem pd_lt (ha : PD F E a A) (hb : PD F E b B) : PD F E (.Compare a [.Lt] [b] pos) (dOp (rdI0 gLt) A B) := pd_cmp (fun _ => op_lt) (fun _ _ => rl_I0 fun _ _ _ => .bl _) ha hb
theorem pd_le (ha : PD F E a A) (hb : PD F E b B) : PD F E (.Compare a [.LtE] [b] pos) (dOp (rdI0 gLe) A B) := pd_cmp (fun _ => op_le) (fun _ _ => rl_I0 fun _ _ _ => .bl _) ha hb
theorem pd_gt (ha : PD F E a A) (hb : PD F E b B) : PD F E (.Compare a [.Gt] [b] pos) (dOp (rdI0 gGt) A B) := pd_cmp (fun _ => op_gt) (fun _ _ => rl_I0 fun _ _ _ => .bl _) ha hb
theorem pd_ge (ha : PD F E a A) (hb : PD F E b B) : PD F E (.Compare a [.GtE] [b] pos) (dOp (rdI0 gGe) A B) := pd_cmp (fun _ => op_ge) (fun _ _ => rl_I0 fun _ _ _ => .bl _) ha hb
/-- == | !=, of plain data -/
def rdEq (neg : Bool) : D2 := fun Γ x y Q => ∃ d e, asD Γ x = some d ∧ asD Γ y = some e ∧ okD d = true ∧ okD e = true ∧ ∀ q : Bool, (q = true ↔ d = e) → Q (.dat (.bl (if neg then !q else q))) Γ
theorem rl_eq {P : Par} : RL P (rEqD P.K) (rdEq false) := by
  intro Bv Γ σ H x y wx wy Qd Q n rx ry h k
  obtain ⟨d, e, hd, he, od, oe, h⟩ := h
  exact ⟨toPy d, toPy e, (n.full rx hd).dp (okD_plain od), (n.full ry he).dp (okD_plain oe), okD_shaped od, okD_shaped oe, finD k (Ex.refl _) n (.bl _) (h _ (eqv_iff d e (okD_plain od) (okD_plain oe)))⟩
theorem rl_ne {P : Par} : RL P (rNeD P.K) (rdEq true) := by
  intro Bv Γ σ H x y wx wy Qd Q n rx ry h k
  obtain ⟨d, e, hd, he, od, oe, h⟩ := h
  exact ⟨toPy d, toPy e, (n.full rx hd).dp (okD_plain od), (n.full ry he).dp (okD_plain oe), okD_shaped od, okD_shaped oe, finD k (Ex.refl _) n (.bl _) (h _ (eqv_iff d e (okD_plain od) (okD_plain oe)))⟩
theorem pd_eq (hu : ∀ j, (F.X j).A.units + 64 < cLine) (ha : PD F E a A) (hb : PD F E b B) : PD F E (.Compare a [.Eq] [b] pos) (dOp (rdEq false) A B) := pd_cmp (fun j => F.k j ▸ op_eqD (hu j)) (fun P hK => by rw [← hK]; exact rl_eq) ha hb
theorem pd_ne (hu : ∀ j, (F.X j).A.units + 64 < cLine) (ha : PD F E a A) (hb : PD F E b B) : PD F E (.Compare a [.NotEq] [b] pos) (dOp (rdEq true) A B) := pd_cmp (fun j => F.k j ▸ op_neD (hu j)) (fun P hK => by rw [← hK]; exact rl_ne) ha hb
/-- in | not in, a list of plain data -/
def rdIn (neg : Bool) : D2 := fun Γ x y Q => ∃ d l, asD Γ x = some d ∧ asD Γ y = some (.lst l) ∧ okD d = true ∧ okD (.lst l) = true ∧ ∀ q : Bool, (q = true ↔ d ∈ l) → Q (.dat (.bl (if neg then !q else q))) Γ
theorem any_in : ∀ (l : List D) (d : D), plainL l = true → plain d = true → (((toPyL l).any fun z => PyData.eqv z (toPy d)) = true ↔ d ∈ l)
  | [], d, _, _ => by simp [toPyL]
  | e :: l, d, h, hd => by
    simp only [plainL, Bool.and_eq_true] at h
    simp only [toPyL, List.any_cons, Bool.or_eq_true, List.mem_cons, eqv_iff e d h.1 hd, any_in l d h.2 hd]
    constructor
    · rintro (q | q)
      · exact .inl q.symm
      · exact .inr q
    · rintro (q | q)
      · exact .inl q.symm
      · exact .inr q
theorem rl_in {P : Par} : RL P (rInD P.K) (rdIn false) := by
  intro Bv Γ σ H x y wx wy Qd Q n rx ry h k
  obtain ⟨d, l, hd, he, od, oe, h⟩ := h
  have z := (n.full ry he).dp (okD_plain oe)
  have s := okD_shaped oe
  have pl : plainL l = true := by simpa [plain] using okD_plain oe
  simp only [toPy] at z s
  exact ⟨toPy d, toPyL l, (n.full rx hd).dp (okD_plain od), z, okD_shaped od, s, finD k (Ex.refl _) n (.bl _) (h _ (any_in l d pl (okD_plain od)))⟩
theorem rl_notIn {P : Par} : RL P (rNotInD P.K) (rdIn true) := by
  intro Bv Γ σ H x y wx wy Qd Q n rx ry h k
  obtain ⟨d, l, hd, he, od, oe, h⟩ := h
  have z := (n.full ry he).dp (okD_plain oe)
  have s := okD_shaped oe
  have pl : plainL l = true := by simpa [plain] using okD_plain oe
  simp only [toPy] at z s
  exact ⟨toPy d, toPyL l, (n.full rx hd).dp (okD_plain od), z, okD_shaped od, s, finD k (Ex.refl _) n (.bl _) (h _ (any_in l d pl (okD_plain od)))⟩
theorem pd_in (hu : ∀ j, (F.X j).A.units + 65 < cLine) (ha : PD F E a A) (hb : PD F E b B) (h1 : behindInMarks .In b = false := by rfl) : PD F E (.Compare a [.In] [b] pos) (dOp (rdIn false) A B) := pd_cmp (fun j => F.k j ▸ op_inD (hu j)) (fun P hK => by rw [← hK]; exact rl_in) ha hb h1
theorem pd_notIn (hu : ∀ j, (F.X j).A.units + 65 < cLine) (ha : PD F E a A) (hb : PD F E b B) (h1 : behindInMarks .NotIn b = false := by rfl) : PD F E (.Compare a [.NotIn] [b] pos) (dOp (rdIn true) A B) := pd_cmp (fun j => F.k j ▸ op_notInD (hu j)) (fun P hK => by rw [← hK]; exact rl_notIn) ha hb h1
/-! is None -/
def dIsN (neg : Bool) (A : DE) : DE := fun xd Γ Q => A xd Γ fun x Γ1 => ∃ d, asD Γ1 x = some d ∧ Q (.dat (.bl (match d with | .non => !neg | _ => neg))) Γ1
theorem Rp.isN {K : PySem.W.Frag} {H : Hp} {v : V} {d : D} (h : Rp K H v d) : decide (v = .non) = (match d with | .non => true | _ => false) := by cases h <;> rfl
theorem pd_isN {j pos'} (ha : PD F E a A) : PD F E (.Compare a [.Is] [.Constant .none j pos'] pos) (dIsN false A) :=
  let ⟨_, pa, la⟩ := ha
  ⟨_, fun j => pe_cmp (pc_isN (pa j)), fun P hK hE Bv Γ σ H Qd Q n h k => la P hK hE Bv Γ σ H _ _ n h fun w Γ1 v H1 B1 e1 n1 r1 h1 => by
    obtain ⟨d, hd, h1⟩ := h1
    rw [(n1.full r1 hd).isN]
    refine finD k (d := .bl _) e1 n1 (.bl _) ?_
    cases d <;> exact h1⟩
theorem pd_notN {j pos'} (ha : PD F E a A) : PD F E (.Compare a [.IsNot] [.Constant .none j pos'] pos) (dIsN true A) :=
  let ⟨_, pa, la⟩ := ha
  ⟨_, fun j => pe_cmp (pc_notN (pa j)), fun P hK hE Bv Γ σ H Qd Q n h k => la P hK hE Bv Γ σ H _ _ n h fun w Γ1 v H1 B1 e1 n1 r1 h1 => by
    obtain ⟨d, hd, h1⟩ := h1
    rw [(n1.full r1 hd).isN]
    refine finD k (d := .bl _) e1 n1 (.bl _) ?_
    cases d <;> exact h1⟩

/-! tests -/
def dB (A : DE) : DT := fun xd Γ Q => A xd Γ fun x Γ1 => ∃ q, x = .dat (.bl q) ∧ Q q Γ1
theorem lt_B {P : Par} {t : TE} (h : LE P t A) : LT P (tB t) (dB A) := fun Bv Γ σ H Qd Q n q k => h Bv Γ σ H _ _ n q fun w Γ1 v H1 B1 e1 n1 r1 h1 => by
  obtain ⟨b, rfl, h1⟩ := h1
  cases r1
  exact ⟨b, rfl, k b Γ1 H1 B1 e1 n1 h1⟩
/-- a comparison (or another thing that gives a bool) as a test -/
theorem pdt_val {e : Expr} (h : PD F E e A) (he : ∀ j whole, isTrue e (F.X j).env whole = (do let v ← whole; standAt e.pos; holding [v] (truthy v)) := by intro _ _; rfl) : PDT F E e (dB A) :=
  let ⟨_, pa, la⟩ := h
  ⟨_, fun j => pt_val (pa j) (he j), fun P hK hE => lt_B (la P hK hE)⟩
theorem pdt_cmp {op : CmpOp} {r : R2} {rd : D2} (ho : ∀ j, OpR (F.X j) (compareOp op) r) (hl : ∀ P : Par, P.K = F.K → RL P r rd) (ha : PD F E a A) (hb : PD F E b B) (h1 : behindInMarks op b = false := by first | exact nomark _ | rfl) : PDT F E (.Compare a [op] [b] pos) (dB (dOp rd A B)) := by
  obtain ⟨_, pa, la⟩ := ha
  obtain ⟨_, pb, lb⟩ := hb
  exact ⟨_, fun j => pt_cmpR (ho j) (pa j) (pb j) h1, fun P hK hE => lt_B (le_op (hl P hK) (la P hK hE) (lb P hK hE))⟩
def dAnd (t u : DT) : DT := fun xd Γ Q => t xd Γ fun q Γ1 => if q = true then u xd Γ1 Q else Q false Γ1
def dOr (t u : DT) : DT := fun xd Γ Q => t xd Γ fun q Γ1 => if q = true then Q true Γ1 else u xd Γ1 Q
def dNot (t : DT) : DT := fun xd Γ Q => t xd Γ fun q Γ1 => Q (!q) Γ1
variable {tA tB' : DT} {rest : List Expr}
theorem pdw_and1 (ha : PDT F E a tA) : PDW F E (.BoolOp .And [a] pos) tA := let ⟨_, p, l⟩ := ha; ⟨_, fun j => pw_and1 (p j), l⟩
theorem pdw_or1 (ha : PDT F E a tA) : PDW F E (.BoolOp .Or [a] pos) tA := let ⟨_, p, l⟩ := ha; ⟨_, fun j => pw_or1 (p j), l⟩
theorem pdw_and (ha : PDT F E a tA) (hb : PDW F E (.BoolOp .And (b :: rest) pos) tB') : PDW F E (.BoolOp .And (a :: b :: rest) pos) (dAnd tA tB') := by
  obtain ⟨t, p, l⟩ := ha
  obtain ⟨u, p', l'⟩ := hb
  refine ⟨_, fun j => pw_and (p j) (p' j), fun P hK hE Bv Γ σ H Qd Q n h k => l P hK hE Bv Γ σ H _ _ n h fun q Γ1 H1 B1 e1 n1 h1 => ?_⟩
  cases q with
  | true => exact l' P hK hE B1 Γ1 σ H1 _ _ n1 h1 fun q Γ2 H2 B2 e2 n2 h2 => k q Γ2 H2 B2 (e1.trans e2) n2 h2
  | false => exact k false Γ1 H1 B1 e1 n1 h1
theorem pdw_or (ha : PDT F E a tA) (hb : PDW F E (.BoolOp .Or (b :: rest) pos) tB') : PDW F E (.BoolOp .Or (a :: b :: rest) pos) (dOr tA tB') := by
  obtain ⟨t, p, l⟩ := ha
  obtain ⟨u, p', l'⟩ := hb
  refine ⟨_, fun j => pw_or (p j) (p' j), fun P hK hE Bv Γ σ H Qd Q n h k => l P hK hE Bv Γ σ H _ _ n h fun q Γ1 H1 B1 e1 n1 h1 => ?_⟩
  cases q with
  | false => exact l' P hK hE B1 Γ1 σ H1 _ _ n1 h1 fun q Γ2 H2 B2 e2 n2 h2 => k q Γ2 H2 B2 (e1.trans e2) n2 h2
  | true => exact k true Γ1 H1 B1 e1 n1 h1
theorem pdw_pt {e : Expr} (h : PDW F E e tA) : PDT F E e tA := let ⟨_, p, l⟩ := h; ⟨_, fun j => (p j).pt, l⟩
theorem pdt_not (ha : PDT F E a tA) : PDT F E (.UnaryOp .Not a pos) (dNot tA) :=
  let ⟨_, p, l⟩ := ha
  ⟨_, fun j => pt_not (p j), fun P hK hE Bv Γ σ H Qd Q n h k => l P hK hE Bv Γ σ H _ _ n h fun q Γ1 H1 B1 e1 n1 h1 => k (!q) Γ1 H1 B1 e1 n1 h1⟩
/-- .. as values -/
def dAndV (A B : DE) : DE := fun xd Γ Q => A xd Γ fun x Γ1 => ∃ q, x = .dat (.bl q) ∧ if q = true then B xd Γ1 Q else Q (.dat (.bl false)) Γ1
def dOrV (A B : DE) : DE := fun xd Γ Q => A xd Γ fun x Γ1 => ∃ q, x = .dat (.bl q) ∧ if q = true then Q (.dat (.bl true)) Γ1 else B xd Γ1 Q
theorem pd_one {op} (h : PD F E a A) : PD F E (.BoolOp op [a] pos) A := let ⟨_, p, l⟩ := h; ⟨_, fun j => pe_one (p j), l⟩
theorem pd_and (ha : PD F E a A) (hb : PD F E (.BoolOp .And (b :: rest) pos) B) : PD F E (.BoolOp .And (a :: b :: rest) pos) (dAndV A B) := by
  obtain ⟨t, p, l⟩ := ha
  obtain ⟨u, p', l'⟩ := hb
  refine ⟨_, fun j => pe_and (p j) (p' j), fun P hK hE Bv Γ σ H Qd Q n h k => l P hK hE Bv Γ σ H _ _ n h fun w Γ1 v H1 B1 e1 n1 r1 h1 => ?_⟩
  obtain ⟨q, rfl, h1⟩ := h1
  cases r1
  refine ⟨q, rfl, ?_⟩
  cases q with
  | true => exact l' P hK hE B1 Γ1 σ H1 _ _ n1 h1 fun w Γ2 v H2 B2 e2 n2 r2 h2 => k w Γ2 v H2 B2 (e1.trans e2) n2 r2 h2
  | false => exact finD k e1 n1 (.bl false) h1
theorem pd_or (ha : PD F E a A) (hb : PD F E (.BoolOp .Or (b :: rest) pos) B) : PD F E (.BoolOp .Or (a :: b :: rest) pos) (dOrV A B) := by
  obtain ⟨t, p, l⟩ := ha
  obtain ⟨u, p', l'⟩ := hb
  refine ⟨_, fun j => pe_or (p j) (p' j), fun P hK hE Bv Γ σ H Qd Q n h k => l P hK hE Bv Γ σ H _ _ n h fun w Γ1 v H1 B1 e1 n1 r1 h1 => ?_⟩
  obtain ⟨q, rfl, h1⟩ := h1
  cases r1
  refine ⟨q, rfl, ?_⟩
  cases q with
  | false => exact l' P hK hE B1 Γ1 σ H1 _ _ n1 h1 fun w Γ2 v H2 B2 e2 n2 r2 h2 => k w Γ2 v H2 B2 (e1.trans e2) n2 r2 h2
  | true => exact finD k e1 n1 (.bl true) h1
def dIfE (t : DT) (A B : DE) : DE := fun xd Γ Q => t xd Γ fun q Γ1 => if q = true then A xd Γ1 Q else B xd Γ1 Q
theorem pd_ifE (hc : PDT F E c tA) (ha : PD F E a A) (hb : PD F E b B) : PD F E (.IfExp c a b pos) (dIfE tA A B) := by
  obtain ⟨t, p, l⟩ := hc
  obtain ⟨u, p1, l1⟩ := ha
  obtain ⟨v, p2, l2⟩ := hb
  refine ⟨_, fun j => pe_ifExp (p j) (p1 j) (p2 j), fun P hK hE Bv Γ σ H Qd Q n h k => l P hK hE Bv Γ σ H _ _ n h fun q Γ1 H1 B1 e1 n1 h1 => ?_⟩
  cases q with
  | true => exact l1 P hK hE B1 Γ1 σ H1 _ _ n1 h1 fun w Γ2 v H2 B2 e2 n2 r2 h2 => k w Γ2 v H2 B2 (e1.trans e2) n2 r2 h2
  | false => exact l2 P hK hE B1 Γ1 σ H1 _ _ n1 h1 fun w Γ2 v H2 B2 e2 n2 r2 h2 => k w Γ2 v H2 B2 (e1.trans e2) n2 r2 h2
end
end DL

set_option Elab.async false
set_option linter.all false
set_option maxRecDepth 100000
set_option maxHeartbeats 4000000
namespace DL
open PySem PySem.Spec PyProof.Rows L2
open Evl (Ex)

section
variable {F : Fam} {E : XK} {e a b : Expr} {es : List Expr} {A B : DE} {R : DA} {pos p : Pos}
/-! ### argument lists, displays -/
def dANil : DA := fun _ Γ Q => Q [] Γ
def dACons (A : DE) (R : DA) : DA := fun xd Γ Q => A xd Γ fun w Γ1 => R xd Γ1 fun ws Γ2 => Q (w :: ws) Γ2
theorem pda_nil : PDA F E [] dANil := ⟨_, fun j => pa_nil, fun P hK hE Bv Γ σ H Qd Q n h k => k [] Γ [] H Bv (Ex.refl _) n trivial h⟩
theorem pda_cons (ha : PD F E e A) (hr : PDA F E es R) (hs : ∀ j, starEach (e :: es) (F.X j).env = (false, eval e (F.X j).env) :: starEach es (F.X j).env := by intro _; rfl) : PDA F E (e :: es) (dACons A R) :=
  let ⟨_, pe, le⟩ := ha; let ⟨_, pr, lr⟩ := hr
  ⟨_, fun j => pa_cons (pe j) (pr j) (hs j), fun P hK hE Bv Γ σ H Qd Q n h k => le P hK hE Bv Γ σ H _ _ n h fun w Γ1 v H1 B1 e1 n1 r1 h1 =>
    lr P hK hE B1 Γ1 σ H1 _ _ n1 h1 fun ws Γ2 vs H2 B2 e2 n2 r2 h2 => k (w :: ws) Γ2 (v :: vs) H2 B2 (e1.trans e2) n2 ⟨r1.mono e2, r2⟩ h2⟩
/-- all of them are to stay -/
def fixL : Gm → List Wv → Option (List D × Gm)
  | Γ, [] => some ([], Γ)
  | Γ, w :: ws => match fix Γ w with
    | some (d, Γ1) => match fixL Γ1 ws with
      | some (ds, Γ2) => some (d :: ds, Γ2)
      | none => none
    | none => none
theorem En.fixedL {P : Par} : ∀ {ws : List Wv} {Bv : Hp} {Γ Γ' : Gm} {σ : L2.St} {H : Hp} {vs : List V} {ds : List D}, En P Bv Γ σ H → RpWL P.K Bv σ vs ws → fixL Γ ws = some (ds, Γ') → ∃ Bv', Ex Bv Bv' ∧ En P Bv' Γ' σ H ∧ RpL P.K Bv' vs ds
  | [], Bv, Γ, Γ', σ, H, vs, ds, n, r, e => by
    cases e
    match vs, r with
    | [], _ => exact ⟨Bv, Ex.refl _, n, .nil⟩
  | w :: ws, Bv, Γ, Γ', σ, H, vs, ds, n, r, e => by
    match vs, r with
    | v :: vs, r =>
      unfold fixL at e
      cases q : fix Γ w with
      | none => rw [q] at e; cases e
      | some z =>
        obtain ⟨d, Γ1⟩ := z
        rw [q] at e
        dsimp only at e
        cases q2 : fixL Γ1 ws with
        | none => rw [q2] at e; cases e
        | some z =>
          obtain ⟨ds', Γ2⟩ := z
          rw [q2] at e
          cases e
          obtain ⟨B1, e1, n1, r1⟩ := n.fixed r.1 q
          obtain ⟨B2, e2, n2, r2⟩ := En.fixedL n1 (r.2.mono e1) q2
          exact ⟨B2, e1.trans e2, n2, .cons (r1.mono e2) r2⟩
theorem En.noAt {P : Par} {Bv : Hp} {Γ : Gm} {σ : L2.St} {H : Hp} (n : En P Bv Γ σ H) {p : Addr} (hp : H p = none) : P.F p = none ∧ Bv p = none ∧ ∀ (j : Nat) (q : Bool) (m : List D), Γ[j]? = some (.own q m) → σ[j]? ≠ some (some (.ref p)) := by
  refine ⟨?_, Evl.fresh_back n.sub hp, fun j q m h z => ?_⟩
  · exact Evl.fresh_back n.frm hp
  · obtain ⟨a, vs, h1, h2, _⟩ := n.own j q m h
    rw [h1] at z
    cases z
    rw [hp] at h2
    cases h2
/-- a new tuple -/
theorem En.newT {P : Par} {Bv : Hp} {Γ : Gm} {σ : L2.St} {H : Hp} {vs : List V} {ds : List D} {Qd : Wv → Gm → Prop} {Q : VK} {B0 : Hp} (n : En P Bv Γ σ H) (r : RpL P.K Bv vs ds) (e : Ex B0 Bv) (h : Qd (.dat (.tup ds)) Γ) (k : FinW P B0 σ Qd Q) {p : Addr} (hp : H p = none) : Q (.ref p) (upd H p (.tup vs)) := by
  have g : Grow Bv H (upd Bv p (.tup vs)) (upd H p (.tup vs)) := Grow.one n.sub hp
  exact finD k (e.trans g.vis) (n.grow g) (.tup (.inl (.inl upd_same)) (r.mono g.vis)) h
theorem En.newL {P : Par} {Bv : Hp} {Γ : Gm} {σ : L2.St} {H : Hp} {vs : List V} {ds : List D} {Qd : List D → Gm → Prop} {Q : VK} {B0 : Hp} (n : En P Bv Γ σ H) (r : RpL P.K Bv vs ds) (e : Ex B0 Bv) (h : Qd ds Γ) (k : FinO P B0 σ Qd Q) {p : Addr} (hp : H p = none) : Q (.ref p) (upd H p (.lst vs)) := by
  have g : Grow Bv H Bv (upd H p (.lst vs)) := Grow.hid n.sub hp
  obtain ⟨z1, z2, z3⟩ := n.noAt hp
  exact k ds Γ p vs _ Bv e (n.grow g) ⟨upd_same, z2, z1, z3, r⟩ h
def dTup (R : DA) : DE := fun xd Γ Q => R xd Γ fun ws Γ1 => ∃ ds Γ2, fixL Γ1 ws = some (ds, Γ2) ∧ ds.length ≤ 100000 ∧ Q (.dat (.tup ds)) Γ2
theorem pd_tup {x1} (h : PDA F E es R) : PD F E (.Tuple es x1 pos) (dTup R) :=
  let ⟨_, pr, lr⟩ := h
  ⟨_, fun j => pe_tup (pr j), fun P hK hE Bv Γ σ H Qd Q n h k => lr P hK hE Bv Γ σ H _ _ n h fun ws Γ1 vs H1 B1 e1 n1 r1 h1 => by
    obtain ⟨ds, Γ2, f, hl, h1⟩ := h1
    obtain ⟨B2, e2, n2, r2⟩ := n1.fixedL r1 f
    exact ⟨by rw [r2.len]; exact Evl.sz_of hl, fun p hp => n2.newT r2 (e1.trans e2) h1 k hp⟩⟩
def dLst (R : DA) : DO := fun xd Γ Q => R xd Γ fun ws Γ1 => ∃ ds Γ2, fixL Γ1 ws = some (ds, Γ2) ∧ ds.length ≤ 100000 ∧ Q ds Γ2
theorem pdo_lst (h : PDA F E es R) : PDO F E (.List es pos) (dLst R) :=
  let ⟨_, pr, lr⟩ := h
  ⟨_, fun j => pe_lst (pr j), fun P hK hE Bv Γ σ H Qd Q n h k => lr P hK hE Bv Γ σ H _ _ n h fun ws Γ1 vs H1 B1 e1 n1 r1 h1 => by
    obtain ⟨ds, Γ2, f, hl, h1⟩ := h1
    obtain ⟨B2, e2, n2, r2⟩ := n1.fixedL r1 f
    exact ⟨by rw [r2.len]; exact Evl.sz_of hl, fun p hp => n2.newL r2 (e1.trans e2) h1 k hp⟩⟩
/-- a new list as data -/
def dOf (T : DO) : DE := fun xd Γ Q => T xd Γ fun l Γ1 => Q (.dat (.lst l)) Γ1
theorem En.show {P : Par} {Bv : Hp} {Γ : Gm} {σ : L2.St} {H : Hp} {p : Addr} {vs : List V} {l : List D} (n : En P Bv Γ σ H) (z : NewL P Bv Γ σ H p vs l) : Ex Bv (upd Bv p (.lst vs)) ∧ En P (upd Bv p (.lst vs)) Γ σ H ∧ Rp P.K (upd Bv p (.lst vs)) (.ref p) (.lst l) := by
  have ex : Ex Bv (upd Bv p (.lst vs)) := Ex.new z.bv
  refine ⟨ex, ?_, .lst (.inl (.inl upd_same)) (z.rp.mono ex)⟩
  exact {
    len := n.len
    base := n.base.trans ex
    sub := fun c u e => by
      by_cases q : c = p
      · subst q; rw [upd_same] at e; cases e; exact z.at_
      · rw [upd_ne q] at e; exact n.sub c u e
    frm := n.frm
    dj := fun c y => by
      have : c ≠ p := fun e => by rw [e] at y; exact y z.f
      rw [upd_ne this]; exact n.dj c y
    dat := fun j d h => let ⟨v, g1, g2⟩ := n.dat j d h; ⟨v, g1, g2.mono ex⟩
    own := fun j q m h => by
      obtain ⟨c, ws, e1, e2, e3, e4, e5⟩ := n.own j q m h
      have : c ≠ p := fun y => z.no j q m h (by rw [e1, y])
      exact ⟨c, ws, e1, e2, e3.mono ex, by rw [upd_ne this]; exact e4, e5⟩
    inj := n.inj
    pin := n.pin }
theorem pd_of {T : DO} (h : PDO F E e T) : PD F E e (dOf T) :=
  let ⟨_, p, l⟩ := h
  ⟨_, p, fun P hK hE Bv Γ σ H Qd Q n h k => l P hK hE Bv Γ σ H _ _ n h fun l Γ1 p vs H1 B1 e1 n1 z h1 => by
    obtain ⟨ex, n2, r2⟩ := n1.show z
    exact finD k (e1.trans ex) n2 r2 h1⟩

/-! ### built-ins -/
abbrev D1 := Gm → List Wv → (Wv → Gm → Prop) → Prop
def CL (P : Par) (r : List V → Hp → VK → Prop) (rd : D1) : Prop := ∀ (Bv : Hp) (Γ : Gm) (σ : L2.St) (H : Hp) (vs : List V) (ws : List Wv) (Qd : Wv → Gm → Prop) (Q : VK), En P Bv Γ σ H → RpWL P.K Bv σ vs ws → rd Γ ws Qd → FinW P Bv σ Qd Q → r vs H Q
def CLO (P : Par) (r : List V → Hp → VK → Prop) (rd : Gm → List Wv → (List D → Gm → Prop) → Prop) : Prop := ∀ (Bv : Hp) (Γ : Gm) (σ : L2.St) (H : Hp) (vs : List V) (ws : List Wv) (Qd : List D → Gm → Prop) (Q : VK), En P Bv Γ σ H → RpWL P.K Bv σ vs ws → rd Γ ws Qd → FinO P Bv σ Qd Q → r vs H Q
def dCB (rd : D1) (R : DA) : DE := fun xd Γ Q => R xd Γ fun ws Γ1 => rd Γ1 ws Q
def dCO (rd : Gm → List Wv → (List D → Gm → Prop) → Prop) (R : DA) : DO := fun xd Γ Q => R xd Γ fun ws Γ1 => rd Γ1 ws Q
theorem le_CB {P : Par} {r : List V → Hp → VK → Prop} {rd : D1} {ta : TA} (hc : CL P r rd) (ha : LA P ta R) : LE P (tCB r ta) (dCB rd R) := fun Bv Γ σ H Qd Q n h k =>
  ha Bv Γ σ H _ _ n h fun ws Γ1 vs H1 B1 e1 n1 r1 h1 => hc B1 Γ1 σ H1 vs ws Qd Q n1 r1 h1 fun w Γ2 v H2 B2 e2 n2 r2 h2 => k w Γ2 v H2 B2 (e1.trans e2) n2 r2 h2
theorem lo_CB {P : Par} {r : List V → Hp → VK → Prop} {rd : Gm → List Wv → (List D → Gm → Prop) → Prop} {ta : TA} (hc : CLO P r rd) (ha : LA P ta R) : LO P (tCB r ta) (dCO rd R) := fun Bv Γ σ H Qd Q n h k =>
  ha Bv Γ σ H _ _ n h fun ws Γ1 vs H1 B1 e1 n1 r1 h1 => hc B1 Γ1 σ H1 vs ws Qd Q n1 r1 h1 fun l Γ2 p vs H2 B2 e2 n2 r2 h2 => k l Γ2 p vs H2 B2 (e1.trans e2) n2 r2 h2
variable {x : Str} {id T : String}
theorem pd_callB {r : List V → Hp → VK → Prop} {rd : D1} (hc : ∀ j, CallR (F.X j) (.builtin id) r) (hl : ∀ P : Par, P.K = F.K → CL P r rd) (hg : ∀ j, Gl (F.X j) x) (hm : ∀ j, (F.X j).mg x = none) (hv : bootBuiltins x = some (.builtin id)) (ha : PDA F E (e :: es) R) (hn : x ≠ "__name__" := by decide) (hdb : (x == ("__debug__" : Str)) = false := by decide)
    (he : ∀ j, starEach (e :: es) (F.X j).env = (false, eval e (F.X j).env) :: starEach es (F.X j).env := by intro _; rfl) (hpl : ∀ j, (backTo pos (starEach es (F.X j).env)).any (·.1) = false := by intro _; rfl) : PD F E (.Call (.Name x p) (e :: es) [] pos) (dCB rd R) :=
  let ⟨_, pa, la⟩ := ha
  ⟨_, fun j => pe_callB (hc j) (hg j) (hm j) hv (pa j) hn hdb (he j) (hpl j), fun P hK hE => le_CB (hl P hK) (la P hK hE)⟩
theorem pd_callTy {r : List V → Hp → VK → Prop} {rd : D1} (hc : ∀ j, CallR (F.X j) (.type T) r) (hl : ∀ P : Par, P.K = F.K → CL P r rd) (hg : ∀ j, Gl (F.X j) x) (hm : ∀ j, (F.X j).mg x = none) (hv : bootBuiltins x = some (.type T)) (ha : PDA F E (e :: es) R) (hn : x ≠ "__name__" := by decide) (hdb : (x == ("__debug__" : Str)) = false := by decide)
    (he : ∀ j, starEach (e :: es) (F.X j).env = (false, eval e (F.X j).env) :: starEach es (F.X j).env := by intro _; rfl) (hpl : ∀ j, (backTo pos (starEach es (F.X j).env)).any (·.1) = false := by intro _; rfl) : PD F E (.Call (.Name x p) (e :: es) [] pos) (dCB rd R) :=
  let ⟨_, pa, la⟩ := ha
  ⟨_, fun j => pe_callTy (hc j) (hg j) (hm j) hv (pa j) hn hdb (he j) (hpl j), fun P hK hE => le_CB (hl P hK) (la P hK hE)⟩
theorem pdo_callTy {r : List V → Hp → VK → Prop} {rd : Gm → List Wv → (List D → Gm → Prop) → Prop} (hc : ∀ j, CallR (F.X j) (.type T) r) (hl : ∀ P : Par, P.K = F.K → CLO P r rd) (hg : ∀ j, Gl (F.X j) x) (hm : ∀ j, (F.X j).mg x = none) (hv : bootBuiltins x = some (.type T)) (ha : PDA F E (e :: es) R) (hn : x ≠ "__name__" := by decide) (hdb : (x == ("__debug__" : Str)) = false := by decide)
    (he : ∀ j, starEach (e :: es) (F.X j).env = (false, eval e (F.X j).env) :: starEach es (F.X j).env := by intro _; rfl) (hpl : ∀ j, (backTo pos (starEach es (F.X j).env)).any (·.1) = false := by intro _; rfl) : PDO F E (.Call (.Name x p) (e :: es) [] pos) (dCO rd R) :=
  let ⟨_, pa, la⟩ := ha
  ⟨_, fun j => pe_callTy (hc j) (hg j) (hm j) hv (pa j) hn hdb (he j) (hpl j), fun P hK hE => lo_CB (hl P hK) (la P hK hE)⟩
/-- the items of a list or tuple -/
def itemsOf : D → Option (List D)
  | .lst l => some l
  | .tup l => some l
  | _ => none
def rdLen : D1 := fun Γ ws Q => ∃ w d l, ws = [w] ∧ asD Γ w = some d ∧ itemsOf d = some l ∧ Q (.dat (.int l.length)) Γ
theorem En.seq {P : Par} {Bv : Hp} {Γ : Gm} {σ : L2.St} {H : Hp} {v : V} {w : Wv} {d : D} {l : List D} (n : En P Bv Γ σ H) (h : RpW P.K Bv σ v w) (e : asD Γ w = some d) (q : itemsOf d = some l) : ∃ a vs, v = .ref a ∧ (SqL P.K H a vs ∨ SqT P.K H a vs) ∧ RpL P.K Bv vs l := by
  cases d <;> cases q
  · obtain ⟨a, vs, h1, h2, h3⟩ := n.tuple h e
    exact ⟨a, vs, h1, .inr h2, h3⟩
  · obtain ⟨a, vs, h1, h2, h3⟩ := n.list h e
    exact ⟨a, vs, h1, .inl h2, h3⟩
theorem pd_len (hg : ∀ j, Gl (F.X j) "len") (hm : ∀ j, (F.X j).mg "len" = none) (ha : PDA F E [a] R) (he : ∀ j, starEach [a] (F.X j).env = (false, eval a (F.X j).env) :: starEach [] (F.X j).env := by intro _; rfl) : PD F E (.Call (.Name "len" p) [a] [] pos) (dCB rdLen R) :=
  pd_callB (fun j => F.k j ▸ call_len_seq) (fun P hK => by
    intro Bv Γ σ H vs ws Qd Q n r h k
    obtain ⟨w, d, l, rfl, h1, h2, h⟩ := h
    obtain ⟨v, rfl, rr⟩ := r.one
    obtain ⟨a, us, rfl, hs, hr⟩ := n.seq rr h1 h2
    rw [← hK]
    refine ⟨a, us, rfl, hs, ?_⟩
    rw [hr.len]
    exact finD k (Ex.refl _) n (.int _) h) hg hm PySem.boot_len ha (by decide) (by decide) he
def rdInt : D1 := fun Γ ws Q => (∃ i, ws = [.dat (.int i)] ∧ Q (.dat (.int i)) Γ) ∨ ∃ q : Bool, ws = [.dat (.bl q)] ∧ Q (.dat (.int (if q then 1 else 0))) Γ
theorem pd_intOf (hg : ∀ j, Gl (F.X j) "int") (hm : ∀ j, (F.X j).mg "int" = none) (ha : PDA F E [a] R) (he : ∀ j, starEach [a] (F.X j).env = (false, eval a (F.X j).env) :: starEach [] (F.X j).env := by intro _; rfl) : PD F E (.Call (.Name "int" p) [a] [] pos) (dCB rdInt R) :=
  pd_callTy (fun _ => call_int1) (fun P hK => by
    intro Bv Γ σ H vs ws Qd Q n r h k
    rcases h with ⟨i, rfl, h⟩ | ⟨q, rfl, h⟩
    · obtain ⟨v, rfl, rr⟩ := r.one
      cases rr
      exact .inl ⟨i, rfl, finD k (Ex.refl _) n (.int _) h⟩
    · obtain ⟨v, rfl, rr⟩ := r.one
      cases rr
      exact .inr ⟨q, rfl, finD k (Ex.refl _) n (.int _) h⟩) hg hm (by decide +kernel) ha (by decide) (by decide) he
def rdMM (g : Int → Int → Int) : D1 := fun Γ ws Q => ∃ i j, ws = [.dat (.int i), .dat (.int j)] ∧ Q (.dat (.int (g i j))) Γ
theorem pd_max2 (hc : ∀ j, (F.X j).calm = true := by intro _; rfl) (hg : ∀ j, Gl (F.X j) "max") (hm : ∀ j, (F.X j).mg "max" = none) (ha : PDA F E [a, b] R) (he : ∀ j, starEach [a, b] (F.X j).env = (false, eval a (F.X j).env) :: starEach [b] (F.X j).env := by intro _; rfl) (hpl : ∀ j, (backTo pos (starEach [b] (F.X j).env)).any (·.1) = false := by intro _; rfl) :
    PD F E (.Call (.Name "max" p) [a, b] [] pos) (dCB (rdMM fun i j => if j > i then j else i) R) :=
  pd_callB (fun j => call_max2 (hc j)) (fun P hK => by
    intro Bv Γ σ H vs ws Qd Q n r h k
    obtain ⟨i, j, rfl, h⟩ := h
    obtain ⟨v, u, rfl, r1, r2⟩ := r.two
    cases r1
    cases r2
    exact ⟨i, j, rfl, finD k (Ex.refl _) n (.int _) h⟩) hg hm (by decide +kernel) ha (by decide) (by decide) he hpl
theorem pd_min2 (hc : ∀ j, (F.X j).calm = true := by intro _; rfl) (hg : ∀ j, Gl (F.X j) "min") (hm : ∀ j, (F.X j).mg "min" = none) (ha : PDA F E [a, b] R) (he : ∀ j, starEach [a, b] (F.X j).env = (false, eval a (F.X j).env) :: starEach [b] (F.X j).env := by intro _; rfl) (hpl : ∀ j, (backTo pos (starEach [b] (F.X j).env)).any (·.1) = false := by intro _; rfl) :
    PD F E (.Call (.Name "min" p) [a, b] [] pos) (dCB (rdMM fun i j => if j < i then j else i) R) :=
  pd_callB (fun j => call_min2 (hc j)) (fun P hK => by
    intro Bv Γ σ H vs ws Qd Q n r h k
    obtain ⟨i, j, rfl, h⟩ := h
    obtain ⟨v, u, rfl, r1, r2⟩ := r.two
    cases r1
    cases r2
    exact ⟨i, j, rfl, finD k (Ex.refl _) n (.int _) h⟩) hg hm (by decide +kernel) ha (by decide) (by decide) he hpl
/-- tuple(a list or tuple) -/
def rdTup : D1 := fun Γ ws Q => ∃ w d l, ws = [w] ∧ asD Γ w = some d ∧ itemsOf d = some l ∧ Q (.dat (.tup l)) Γ
theorem pd_tupOf (hg : ∀ j, Gl (F.X j) "tuple") (hm : ∀ j, (F.X j).mg "tuple" = none) (ha : PDA F E [a] R) (he : ∀ j, starEach [a] (F.X j).env = (false, eval a (F.X j).env) :: starEach [] (F.X j).env := by intro _; rfl) : PD F E (.Call (.Name "tuple" p) [a] [] pos) (dCB rdTup R) :=
  pd_callTy (fun j => F.k j ▸ call_tuple_of) (fun P hK => by
    intro Bv Γ σ H vs ws Qd Q n r h k
    obtain ⟨w, d, l, rfl, h1, h2, h⟩ := h
    obtain ⟨v, rfl, rr⟩ := r.one
    rw [← hK]
    cases d <;> cases h2
    · have f := n.full rr h1
      obtain ⟨a, us, rfl, hs, hr⟩ := n.tuple rr h1
      refine ⟨a, us, rfl, .inr ⟨hs, ?_⟩⟩
      cases w with
      | dat d' =>
        cases h1
        exact finD k (Ex.refl _) n rr h
      | slot i =>
        dsimp only [asD] at h1
        split at h1 <;> cases h1
    · obtain ⟨a, us, rfl, hs, hr⟩ := n.list rr h1
      exact ⟨a, us, rfl, .inl ⟨hs, fun q hq => n.newT hr (Ex.refl _) h k hq⟩⟩) hg hm (by decide +kernel) ha (by decide) (by decide) he
/-- list(a list or tuple) -/
def rdLstOf : Gm → List Wv → (List D → Gm → Prop) → Prop := fun Γ ws Q => ∃ w d l, ws = [w] ∧ asD Γ w = some d ∧ itemsOf d = some l ∧ Q l Γ
theorem pdo_lstOf (hg : ∀ j, Gl (F.X j) "list") (hm : ∀ j, (F.X j).mg "list" = none) (ha : PDA F E [a] R) (he : ∀ j, starEach [a] (F.X j).env = (false, eval a (F.X j).env) :: starEach [] (F.X j).env := by intro _; rfl) : PDO F E (.Call (.Name "list" p) [a] [] pos) (dCO rdLstOf R) :=
  pdo_callTy (fun j => F.k j ▸ call_list_of) (fun P hK => by
    intro Bv Γ σ H vs ws Qd Q n r h k
    obtain ⟨w, d, l, rfl, h1, h2, h⟩ := h
    obtain ⟨v, rfl, rr⟩ := r.one
    rw [← hK]
    obtain ⟨a, us, rfl, hs, hr⟩ := n.seq rr h1 h2
    exact ⟨a, us, rfl, hs, fun q hq => n.newL hr (Ex.refl _) h k hq⟩) hg hm (by decide +kernel) ha (by decide) (by decide) he
/-! sum of a list or tuple of ints -/
section
variable {prog : Program} {w : World} {A : Around} {Ex0 : Value → Shared → Prop} {s : Shared} {l : Addr} {its : List Value} {ns : List Int} {Q : Value → Shared → Prop}
theorem sumT_raw (hh : A.handled = none) (hl : s.heap.IsTuple l its.toArray) (hi : IntsAre its ns)
    (h : ∀ h' tk t', (∀ b o, s.heap.get? b = some o → h'.get? b = some o) → Q (.int ns.sum t') { s with heap := h', toks := tk }) : wpAny (model prog w) A (call (.builtin "sum") [.ref l]) Q Ex0 s := by
  obtain ⟨xs, e⟩ := hi.allInts.items
  have hn : numsOf (intItems xs).toList = ns := by rw [← e]; exact hi.numsOf
  rw [nums_intItems] at hn
  rw [e] at hl
  have lt : l < s.heap.objs.size := by obtain ⟨_, z, _⟩ := hl; exact Heap.lt_size z
  refine call_sum_walkG (wpAny_pyIter_tuple hl ?_)
  refine ⟨s.heap.objs.size, [s.heap.objs.size, l], [s.heap.objs.size], (intItems xs).size, _, _, numAt xs, rfl, Walks.tuple (A := A.in1) hh _ l (Nat.ne_of_lt lt) (intItems xs), ⟨⟨_, Heap.get?_push_size _ rfl, rfl, rfl⟩, hl.push _⟩, fun b hb => ?_, (fun _ _ => intItems_at), fun h' tk t' hk => ?_⟩
  · show b < (s.heap.push _).objs.size
    rw [Heap.size_push]
    rcases List.mem_cons.mp hb with z | hb
    · rw [z]; exact Nat.lt_succ_self _
    · rcases List.mem_cons.mp hb with z | hb
      · rw [z]; exact Nat.lt_succ_of_lt lt
      · cases hb
  · have := h h' tk t' fun b o z => hk b o (fun hm => by
      rcases List.mem_cons.mp hm with e1 | hm
      · exact absurd (e1 ▸ Heap.lt_size z) (Nat.lt_irrefl _)
      · cases hm) (Heap.get?_push_of_some _ z)
    rw [preSum_eq, List.take_of_length_le (by simp [intItems]), hn]
    exact this
end
def rSumA (K : PySem.W.Frag) : List V → Hp → VK → Prop := fun vs H Q => ∃ (a : Addr) (ns : List Int), vs = [V.ref a] ∧ (SqL K H a (ns.map V.int) ∨ SqT K H a (ns.map V.int)) ∧ Q (.int ns.sum) H
theorem cr_sumA {X : Cx} (hc : X.calm = true) : CallR X (.builtin "sum") (rSumA X.K) := by
  intro pins s σ H vs us Q I r h
  obtain ⟨a, ns, rfl, hs, q⟩ := h
  rcases hs with hs | hs
  · exact cr_sum hc pins s σ H _ us Q I r ⟨a, ns, rfl, hs, q⟩
  · obtain ⟨its, rv, ht, _⟩ := I.tuple hs
    rw [Vals.ref1 r]
    exact sumT_raw (I.ok.hd hc) ht (RZ.intsAre_vals rv) fun h' tk t' hk => ⟨.int ns.sum, H, I.kept (t' := tk) hk, ⟨t', rfl⟩, q⟩
def rdSum : D1 := fun Γ ws Q => ∃ (w : Wv) (d : D) (ns : List Int), ws = [w] ∧ asD Γ w = some d ∧ itemsOf d = some (ns.map D.int) ∧ Q (.dat (.int ns.sum)) Γ
theorem pd_sum (hc : ∀ j, (F.X j).calm = true := by intro _; rfl) (hg : ∀ j, Gl (F.X j) "sum") (hm : ∀ j, (F.X j).mg "sum" = none) (ha : PDA F E [a] R) (he : ∀ j, starEach [a] (F.X j).env = (false, eval a (F.X j).env) :: starEach [] (F.X j).env := by intro _; rfl) : PD F E (.Call (.Name "sum" p) [a] [] pos) (dCB rdSum R) :=
  pd_callB (fun j => F.k j ▸ cr_sumA (hc j)) (fun P hK => by
    intro Bv Γ σ H vs ws Qd Q n r h k
    obtain ⟨w, d, ns, rfl, h1, h2, h⟩ := h
    obtain ⟨v, rfl, rr⟩ := r.one
    rw [← hK]
    obtain ⟨a, us, rfl, hs, hr⟩ := n.seq rr h1 h2
    rw [hr.ints_of] at hs
    exact ⟨a, ns, rfl, hs, finD k (Ex.refl _) n (.int _) h⟩) hg hm (by decide +kernel) ha (by decide) (by decide) he

/-! ### an item -/
def rdIx : D2 := fun Γ x y Q => ∃ d l i e, asD Γ x = some d ∧ itemsOf d = some l ∧ y = .dat (.int i) ∧ atI l i = some e ∧ Q (.dat e) Γ
theorem RpL.at_ {K : PySem.W.Frag} {H : Hp} {vs : List V} {l : List D} {i : Int} {e : D} (h : RpL K H vs l) (q : atI l i = some e) : ∃ v, atI vs i = some v ∧ Rp K H v e := by
  unfold atI at q ⊢
  rw [h.len]
  cases z : ixN l.length i with
  | none => rw [z] at q; cases q
  | some j =>
    rw [z] at q
    exact h.getD q
theorem pd_ix (ha : PD F E a A) (hb : PD F E b B) (hs : PlainIx b := by exact fun _ _ => rfl) : PD F E (.Subscript a b pos) (dOp rdIx A B) :=
  let ⟨_, pa, la⟩ := ha; let ⟨_, pb, lb⟩ := hb
  ⟨_, fun j => F.k j ▸ pe_ix ix_seq (pa j) (pb j) hs, fun P hK hE => by
    refine le_op (fun Bv Γ σ H x y wx wy Qd Q n rx ry h k => ?_) (la P hK hE) (lb P hK hE)
    obtain ⟨d, l, i, e, h1, h2, rfl, h3, h⟩ := h
    cases ry
    obtain ⟨a, us, rfl, hs, hr⟩ := n.seq rx h1 h2
    obtain ⟨v, h4, h5⟩ := hr.at_ h3
    rw [← hK]
    rcases hs with hs | hs
    · exact .inl ⟨a, us, i, v, rfl, rfl, hs, h4, finD k (Ex.refl _) n h5 h⟩
    · exact .inr (.inl ⟨a, us, i, v, rfl, rfl, hs, h4, finD k (Ex.refl _) n h5 h⟩)⟩
end
end DL

set_option Elab.async false
set_option linter.all false
set_option maxRecDepth 100000
set_option maxHeartbeats 4000000
namespace DL
open PySem PySem.Spec PyProof.Rows L2
open Evl (Ex)

abbrev no : Xd := fun _ _ => False
/-! ### statements -/
structure EndsOk (P : Par) (Bv : Hp) (Dd : DEnds) (D : Ends) : Prop where
  nx : ∀ (Γ' : Gm) (σ' : L2.St) (H' Bv' : Hp), Ex Bv Bv' → En P Bv' Γ' σ' H' → Dd.nx Γ' → D.nx σ' H'
  rt : ∀ (d : DL.D) (Γ' : Gm) (σ' : L2.St) (v : V) (H' Bv' : Hp), Ex Bv Bv' → En P Bv' Γ' σ' H' → Rp P.K Bv' v d → Dd.rt d Γ' → D.rt v H'
  bk : ∀ (Γ' : Gm) (σ' : L2.St) (H' Bv' : Hp), Ex Bv Bv' → En P Bv' Γ' σ' H' → Dd.bk Γ' → D.bk σ' H'
  ct : ∀ (Γ' : Gm) (σ' : L2.St) (H' Bv' : Hp), Ex Bv Bv' → En P Bv' Γ' σ' H' → Dd.ct Γ' → D.ct σ' H'
theorem EndsOk.mono {P : Par} {Bv Bv' : Hp} {Dd : DEnds} {D : Ends} (e : Ex Bv Bv') (k : EndsOk P Bv Dd D) : EndsOk P Bv' Dd D :=
  ⟨fun Γ σ H B x => k.nx Γ σ H B (e.trans x), fun d Γ σ v H B x => k.rt d Γ σ v H B (e.trans x), fun Γ σ H B x => k.bk Γ σ H B (e.trans x), fun Γ σ H B x => k.ct Γ σ H B (e.trans x)⟩
def LS (P : Par) (t : TS) (T : DS) : Prop := ∀ (Bv : Hp) (Γ : Gm) (σ : L2.St) (H : Hp) (Dd : DEnds) (D : Ends), En P Bv Γ σ H → T P.Ed Dd Γ → EndsOk P Bv Dd D → t D σ H
def PDS (F : Fam) (E : XK) (st : Stmt) (T : DS) : Prop := ∃ t, (∀ j, PS (F.X j) st t) ∧ ∀ P : Par, P.K = F.K → P.E = E → LS P t T
def PDSs (F : Fam) (E : XK) (st : List Stmt) (T : DS) : Prop := ∃ t, (∀ j, PSs (F.X j) st t) ∧ ∀ P : Par, P.K = F.K → P.E = E → LS P t T
section
variable {F : Fam} {E : XK} {e a b c : Expr} {es : List Expr} {A B : DE} {R : DA} {pos p : Pos} {st : Stmt} {rest : List Stmt} {T U : DS}
def dNext : DS := fun _ D Γ => D.nx Γ
def dSeq (T U : DS) : DS := fun xd D Γ => T xd { D with nx := U xd D } Γ
def dBreak : DS := fun _ D Γ => D.bk Γ
def dCont : DS := fun _ D Γ => D.ct Γ
theorem pds_nil : PDSs F E [] dNext := ⟨_, fun j => pss_nil, fun P hK hE Bv Γ σ H Dd D n h k => k.nx Γ σ H Bv (Ex.refl _) n h⟩
theorem pds_cons (h1 : PDS F E st T) (h2 : PDSs F E rest U) : PDSs F E (st :: rest) (dSeq T U) :=
  let ⟨_, p1, l1⟩ := h1; let ⟨_, p2, l2⟩ := h2
  ⟨_, fun j => pss_cons (p1 j) (p2 j), fun P hK hE Bv Γ σ H Dd D n h k => l1 P hK hE Bv Γ σ H _ _ n h ⟨fun Γ' σ' H' B' e n' q => l2 P hK hE B' Γ' σ' H' Dd D n' q (k.mono e), k.rt, k.bk, k.ct⟩⟩
theorem pds_one (h1 : PDS F E st T) : PDSs F E [st] T := let ⟨_, p1, l1⟩ := h1; ⟨_, fun j => pss_one (p1 j), l1⟩
theorem pds_never : PDSs F E rest (fun _ _ _ => False) := ⟨_, fun j => pss_never, fun P hK hE Bv Γ σ H Dd D n h k => h.elim⟩
theorem pd_s_never : PDS F E st (fun _ _ _ => False) := ⟨_, fun j => ps_never, fun P hK hE Bv Γ σ H Dd D n h k => h.elim⟩
theorem pd_pass : PDS F E (.Pass pos) dNext := ⟨_, fun j => ps_pass, fun P hK hE Bv Γ σ H Dd D n h k => k.nx Γ σ H Bv (Ex.refl _) n h⟩
theorem pd_break : PDS F E (.Break pos) dBreak := ⟨_, fun j => ps_break, fun P hK hE Bv Γ σ H Dd D n h k => k.bk Γ σ H Bv (Ex.refl _) n h⟩
theorem pd_continue : PDS F E (.Continue pos) dCont := ⟨_, fun j => ps_continue, fun P hK hE Bv Γ σ H Dd D n h k => k.ct Γ σ H Bv (Ex.refl _) n h⟩
def dRet (A : DE) : DS := fun xd D Γ => A xd Γ fun w Γ1 => ∃ d Γ2, fix Γ1 w = some (d, Γ2) ∧ D.rt d Γ2
theorem pd_ret (h : PD F E e A) : PDS F E (.Return (some e) pos) (dRet A) :=
  let ⟨_, p, l⟩ := h
  ⟨_, fun j => ps_ret (p j), fun P hK hE Bv Γ σ H Dd D n h k => l P hK hE Bv Γ σ H _ _ n h fun w Γ1 v H1 B1 e1 n1 r1 h1 => by
    obtain ⟨d, Γ2, f, h1⟩ := h1
    obtain ⟨B2, e2, n2, r2⟩ := n1.fixed r1 f
    exact k.rt d Γ2 σ v H1 B2 (e1.trans e2) n2 r2 h1⟩
def dRetN : DS := fun _ D Γ => D.rt .non Γ
theorem pd_retN : PDS F E (.Return none pos) dRetN := ⟨_, fun j => ps_retN, fun P hK hE Bv Γ σ H Dd D n h k => k.rt .non Γ σ .non H Bv (Ex.refl _) n .non h⟩
/-- return of a new list, of a lent or own list told as data -/
def dIfS (t : DT) (T U : DS) : DS := fun xd D Γ => t xd Γ fun q Γ1 => if q = true then T xd D Γ1 else U xd D Γ1
theorem pd_if {t : DT} {s1 s2 : List Stmt} (hc : PDT F E c t) (h1 : PDSs F E s1 T) (h2 : PDSs F E s2 U) : PDS F E (.If c s1 s2 pos) (dIfS t T U) := by
  obtain ⟨_, p, l⟩ := hc
  obtain ⟨_, p1, l1⟩ := h1
  obtain ⟨_, p2, l2⟩ := h2
  refine ⟨_, fun j => ps_if (p j) (p1 j) (p2 j), fun P hK hE Bv Γ σ H Dd D n h k => l P hK hE Bv Γ σ H _ _ n h fun q Γ1 H1 B1 e1 n1 h1 => ?_⟩
  cases q with
  | true => exact l1 P hK hE B1 Γ1 σ H1 Dd D n1 h1 (k.mono e1)
  | false => exact l2 P hK hE B1 Γ1 σ H1 Dd D n1 h1 (k.mono e1)
def dExpr (A : DE) : DS := fun xd D Γ => A xd Γ fun _ Γ1 => D.nx Γ1
theorem pd_expr (h : PD F E e A) (hs : ∀ j, swapsWith e none pos.line (F.X j).env = pure false := by intro _; rfl) : PDS F E (.Expr e pos) (dExpr A) :=
  let ⟨_, p, l⟩ := h
  ⟨_, fun j => ps_expr (p j) (hs j), fun P hK hE Bv Γ σ H Dd D n h k => l P hK hE Bv Γ σ H _ _ n h fun w Γ1 v H1 B1 e1 n1 r1 h1 => k.nx Γ1 σ H1 B1 e1 n1 h1⟩
/-- x = e -/
def dAsg (i : Nat) (A : DE) : DS := fun xd D Γ => A xd Γ fun w Γ1 => ∃ d Γ2, fix Γ1 w = some (d, Γ2) ∧ notOwn Γ2 i = true ∧ D.nx (Γ2.set i (.dat d))
theorem ls_asg {P : Par} {te : TE} {i : Nat} (l : LE P te A) : LS P (tAsg te (gName i)) (dAsg i A) := fun Bv Γ σ H Dd D n h k =>
  l Bv Γ σ H _ _ n h fun w Γ1 v H1 B1 e1 n1 r1 h1 => by
    obtain ⟨d, Γ2, f, hi, h1⟩ := h1
    obtain ⟨B2, e2, n2, r2⟩ := n1.fixed r1 f
    exact k.nx _ _ H1 B2 (e1.trans e2) (n2.put hi r2) h1
theorem pd_asg (i : Nat) {x : Str} {pos' : Pos} (hN : ∀ j, (F.X j).N.Nodup) (he : PD F E e A) (hi : ∀ j, (F.X j).N[i]? = some x := by intro _; rfl) (hx : ∀ j, Loc (F.X j).env.scope x := by first | exact fun _ => .inl rfl | exact fun _ => .inr rfl) (hs : ∀ j, swapsWith e (some (.Name x pos')) pos.line (F.X j).env = pure false := by intro _; rfl)
    (hf : ∀ j, (F.X j).fn x = true ∨ (F.X j).env.scope.names.lookup x = some .local := by first | exact fun _ => .inl rfl | exact fun _ => .inr rfl | assumption) : PDS F E (.Assign [.Name x pos'] e pos) (dAsg i A) :=
  let ⟨_, p, l⟩ := he
  ⟨_, fun j => ps_set (hN j) (hi j) (hx j) (p j) (hs j) (hf j), fun P hK hE => ls_asg (l P hK hE)⟩
/-- x = a new list, x's own -/
def dAsgO (i : Nat) (A : DO) : DS := fun xd D Γ => A xd Γ fun l Γ1 => notOwn Γ1 i = true ∧ D.nx (Γ1.set i (.own false l))
theorem ls_asgO {P : Par} {te : TE} {i : Nat} {A : DO} (l : LO P te A) : LS P (tAsg te (gName i)) (dAsgO i A) := fun Bv Γ σ H Dd D n h k =>
  l Bv Γ σ H _ _ n h fun l Γ1 p vs H1 B1 e1 n1 z h1 => k.nx _ _ H1 B1 e1 (n1.putOwn h1.1 z.at_ z.bv z.f z.rp z.no) h1.2
theorem pd_asgO (i : Nat) {x : Str} {pos' : Pos} {A : DO} (hN : ∀ j, (F.X j).N.Nodup) (he : PDO F E e A) (hi : ∀ j, (F.X j).N[i]? = some x := by intro _; rfl) (hx : ∀ j, Loc (F.X j).env.scope x := by first | exact fun _ => .inl rfl | exact fun _ => .inr rfl) (hs : ∀ j, swapsWith e (some (.Name x pos')) pos.line (F.X j).env = pure false := by intro _; rfl)
    (hf : ∀ j, (F.X j).fn x = true ∨ (F.X j).env.scope.names.lookup x = some .local := by first | exact fun _ => .inl rfl | exact fun _ => .inr rfl | assumption) : PDS F E (.Assign [.Name x pos'] e pos) (dAsgO i A) :=
  let ⟨_, p, l⟩ := he
  ⟨_, fun j => ps_set (hN j) (hi j) (hx j) (p j) (hs j) (hf j), fun P hK hE => ls_asgO (l P hK hE)⟩
/-- x op= e, ints -/
def dAug (i : Nat) (f : Int → Int → Int) (A : DE) : DS := fun xd D Γ => ∃ u, Γ[i]? = some (.dat (.int u)) ∧ A xd Γ fun w Γ1 => ∃ j, w = .dat (.int j) ∧ notOwn Γ1 i = true ∧ D.nx (Γ1.set i (.dat (.int (f u j))))
theorem ls_aug {P : Par} {te : TE} {i : Nat} {f : Int → Int → Int} (l : LE P te A) : LS P (tAug i te (ipI f)) (dAug i f A) := fun Bv Γ σ H Dd D n h k => by
  obtain ⟨u, hu, h⟩ := h
  obtain ⟨v, h1, h2⟩ := n.dat i _ hu
  cases h2
  refine ⟨.int u, h1, l Bv Γ σ H _ _ n h fun w Γ1 v H1 B1 e1 n1 r1 h1 => ?_⟩
  obtain ⟨j, rfl, hi, h1⟩ := h1
  cases r1
  exact ⟨u, j, rfl, rfl, k.nx _ _ H1 B1 e1 (n1.put hi (.int _)) h1⟩
theorem pd_augSub (i : Nat) {x : Str} {pos' : Pos} (hN : ∀ j, (F.X j).N.Nodup) (he : PD F E e A) (hi : ∀ j, (F.X j).N[i]? = some x := by intro _; rfl) (hx : ∀ j, Loc (F.X j).env.scope x := by first | exact fun _ => .inl rfl | exact fun _ => .inr rfl)
    (hf : ∀ j, (F.X j).fn x = true ∨ (F.X j).env.scope.names.lookup x = some .local := by first | exact fun _ => .inl rfl | exact fun _ => .inr rfl | assumption) : PDS F E (.AugAssign (.Name x pos') .Sub e pos) (dAug i (fun a b => a - b) A) :=
  let ⟨_, p, l⟩ := he
  ⟨_, fun j => ps_aug (hN j) (hi j) (hx j) (p j) ip_sub (hf j), fun P hK hE => ls_aug (l P hK hE)⟩
theorem pd_augAdd (i : Nat) {x : Str} {pos' : Pos} (hN : ∀ j, (F.X j).N.Nodup) (he : PD F E e A) (hi : ∀ j, (F.X j).N[i]? = some x := by intro _; rfl) (hx : ∀ j, Loc (F.X j).env.scope x := by first | exact fun _ => .inl rfl | exact fun _ => .inr rfl)
    (hf : ∀ j, (F.X j).fn x = true ∨ (F.X j).env.scope.names.lookup x = some .local := by first | exact fun _ => .inl rfl | exact fun _ => .inr rfl | assumption) : PDS F E (.AugAssign (.Name x pos') .Add e pos) (dAug i (fun a b => a + b) A) :=
  let ⟨_, p, l⟩ := he
  ⟨_, fun j => ps_aug (hN j) (hi j) (hx j) (p j) ip_add (hf j), fun P hK hE => ls_aug (l P hK hE)⟩
/-- x[k] = e, x a list of its own -/
def dSetIx (i : Nat) (A B : DE) : DS := fun xd D Γ => A xd Γ fun w Γ1 => ∃ d Γ2, fix Γ1 w = some (d, Γ2) ∧ dVar i xd Γ2 fun u Γ3 => u = .slot i ∧ B xd Γ3 fun wk Γ4 => ∃ k p l j, wk = .dat (.int k) ∧ Γ4[i]? = some (.own p l) ∧ ixN l.length k = some j ∧ D.nx (Γ4.set i (.own p (l.set j d)))
theorem pd_setIx (i : Nat) {x : Str} {px pt : Pos} (he : PD F E e A) (hb : PD F E b B) (hN : ∀ j, (F.X j).N[i]? = some x := by intro _; rfl) (hv : ∀ j, Vis (F.X j).env.scope x := by first | exact fun _ => Or.inl rfl | exact fun _ => Or.inr (Or.inl rfl) | exact fun _ => Or.inr (Or.inr rfl)) (hd : (x == ("__debug__" : Str)) = false := by decide)
    (hcd : (x == ("__classdict__" : Str)) = false := by decide)
    (hs : ∀ j, swapsWithSole [.Subscript (.Name x px) b pt] e pos.line (F.X j).env = pure false := by intro _; rfl) (hw : ∀ j, swappedStores [.Subscript (.Name x px) b pt] e (F.X j).env = pure none := by intro _; rfl) (h1 : ∀ j, (assignEach [.Subscript (.Name x px) b pt] (F.X j).env).map (·.2) = [assign (.Subscript (.Name x px) b pt) (F.X j).env] := by intro _; rfl)
    (hass : ∀ j v, assign (.Subscript (.Name x px) b pt) (F.X j).env v = (do
      let ov ← holding [v] (eval (.Name x px) (F.X j).env)
      let iv ← holding [v, ov] (eval b (F.X j).env)
      standAt pt
      holding [v, ov, iv] (setItem ov iv v)
      release [v, ov, iv] []) := by intro _ _; rfl) : PDS F E (.Assign [.Subscript (.Name x px) b pt] e pos) (dSetIx i A B) :=
  let ⟨_, pe, le⟩ := he; let ⟨_, pb, lb⟩ := hb
  ⟨_, fun j => ps_asg (pe j) (pg_sub (pe_var (hN j) (hv j) hd hcd) (pb j) set_list (hass j)) (hs j) (hw j) (h1 j), fun P hK hE Bv Γ σ H Dd D n h k => le P hK hE Bv Γ σ H _ _ n h fun w Γ1 v H1 B1 e1 n1 r1 h1 => by
    obtain ⟨d, Γ2, f, h1⟩ := h1
    obtain ⟨B2, e2, n2, r2⟩ := n1.fixed r1 f
    refine le_var B2 Γ2 σ H1 _ _ n2 h1 fun u Γ3 o H3 B3 e3 n3 r3 h3 => ?_
    obtain ⟨rfl, h3⟩ := h3
    refine lb P hK hE B3 Γ3 σ H3 _ _ n3 h3 fun wk Γ4 vk H4 B4 e4 n4 r4 h4 => ?_
    obtain ⟨kk, q, l, j, rfl, hl, hj, h4⟩ := h4
    cases r4
    obtain ⟨a', vs, g1, g2, g3, g4, g5⟩ := n4.own i q l hl
    have g1' : σ[i]? = some (some o) := r3
    rw [g1] at g1'
    cases g1'
    exact ⟨a', vs, kk, j, rfl, rfl, g2, by rw [g3.len]; exact hj, k.nx _ σ _ B4 (((e1.trans e2).trans e3).trans e4) (n4.write hl g1 (g3.setAt (r2.mono (e3.trans e4)) j)) h4⟩⟩
/-- x.append(e), x a list of its own -/
def dApp (i : Nat) (A : DE) : DS := fun xd D Γ => (∃ p l, Γ[i]? = some (.own p l)) ∧ A xd Γ fun w Γ1 => ∃ d Γ2 p l, fix Γ1 w = some (d, Γ2) ∧ Γ2[i]? = some (.own p l) ∧ l.length < 100000 ∧ D.nx (Γ2.set i (.own p (l ++ [d])))
theorem pd_app (i : Nat) {x : Str} {px pa pc : Pos} (he : PD F E e A) (hN : ∀ j, (F.X j).N[i]? = some x := by intro _; rfl) (hv : ∀ j, Vis (F.X j).env.scope x := by first | exact fun _ => Or.inl rfl | exact fun _ => Or.inr (Or.inl rfl) | exact fun _ => Or.inr (Or.inr rfl)) (hd : (x == ("__debug__" : Str)) = false := by decide)
    (hcd : (x == ("__classdict__" : Str)) = false := by decide) (hst : ∀ j, starEach [e] (F.X j).env = (false, eval e (F.X j).env) :: starEach [] (F.X j).env := by intro _; rfl)
    (hbase : ∀ j, attributeBase (.Name x px) "append" (F.X j).env (eval (.Name x px) (F.X j).env) = eval (.Name x px) (F.X j).env := by intro _; rfl) (hline : (pa.endLine == pc.line) = true := by rfl)
    (hfew : ∀ j, ((((backTo pc (starEach [e] (F.X j).env)).all fun x => !x.fst) && (backToKw pc (keywordEach [] (F.X j).env)).all fun x => x.fst.isSome) && decide (([e].length + ([] : List Keyword).length + if ([] : List Keyword).isEmpty = true then 0 else 1) < 30)) = true := by intro _; rfl)
    (hs : ∀ j, swapsWith (.Call (.Attribute (.Name x px) "append" pa) [e] [] pc) none pos.line (F.X j).env = pure false := by intro _; rfl) : PDS F E (.Expr (.Call (.Attribute (.Name x px) "append" pa) [e] [] pc) pos) (dApp i A) :=
  let ⟨_, pe, le⟩ := he
  ⟨tDrop (tBM F.K "list" rAppend (tVar i) (tCons _ tNil)), fun j => F.k j ▸ ps_expr (pe_bm PySem.F.plainAttrs_list PySem.F.slot_list_append PySem.F.type_list_append mt_append (pe_var (hN j) (hv j) hd hcd) (pa_cons (pe j) pa_nil (hst j)) (hbase j) (hfew j) hline (hst j)) (hs j), fun P hK hE Bv Γ σ H Dd D n h k => by
    obtain ⟨⟨p0, l0, h0⟩, h⟩ := h
    obtain ⟨a, vs0, g1, g2, _⟩ := n.own i p0 l0 h0
    refine ⟨.ref a, g1, .inl ⟨rfl, vs0, .inl (.inl g2)⟩, ?_⟩
    refine le P hK hE Bv Γ σ H _ _ n h fun w Γ1 v H1 B1 e1 n1 r1 h1 => ?_
    obtain ⟨d, Γ2, p, l, f, hl, hz, h1⟩ := h1
    obtain ⟨B2, e2, n2, r2⟩ := n1.fixed r1 f
    obtain ⟨a', vs, g1', g2', g3, g4, g5⟩ := n2.own i p l hl
    rw [g1] at g1'
    cases g1'
    exact ⟨a, vs, v, rfl, rfl, g2', by rw [g3.len]; exact Evl.sz_lt hz, k.nx _ σ _ B2 (e1.trans e2) (n2.write hl g1 (g3.app (.one r2))) h1⟩⟩
end
end DL

set_option Elab.async false
set_option linter.all false
set_option maxRecDepth 100000
set_option maxHeartbeats 4000000
namespace DL
open PySem PySem.Spec PyProof.Rows L2
open Evl (Ex)

/-! ### what is walked, as data -/
/-- while what is known stands, the items come one by one, new ones seen -/
structure ItD (K : PySem.W.Frag) (J : It) (B0 : Hp) (xs : List D) : Prop where
  go : ∀ (B H : Hp), Ex B0 B → Ex B H → ∀ i, i < xs.length → J.go i H
  stop : ∀ (B H : Hp), Ex B0 B → Ex B H → J.stop xs.length H
  yld : ∀ (B H : Hp), Ex B0 B → Ex B H → ∀ (i : Nat) (x : V) (H' : Hp), i < xs.length → J.yld i H x H' → ∃ (B' : Hp) (d : D), xs[i]? = some d ∧ Grow B H B' H' ∧ Rp K B' x d
abbrev DI := Xd → Gm → (List D → Gm → Prop) → Prop
def LI (P : Par) (wi : TI) (T : DI) : Prop := ∀ (Bv : Hp) (Γ : Gm) (σ : L2.St) (H : Hp) (Rd : List D → Gm → Prop) (R : It → Hp → Prop), En P Bv Γ σ H → T P.Ed Γ Rd →
  (∀ (xs : List D) (Γ' : Gm) (J : It) (H' Bv' : Hp), Ex Bv Bv' → En P Bv' Γ' σ H' → ItD P.K J Bv' xs → Rd xs Γ' → R J H') → wi σ H R
def PDI (F : Fam) (E : XK) (tg iter : Expr) (T : DI) : Prop := ∃ wi, (∀ j, PI (F.X j) tg iter wi) ∧ ∀ P : Par, P.K = F.K → P.E = E → LI P wi T
theorem itd_list {K : PySem.W.Frag} {a : Addr} {B0 : Hp} {vs : List V} {l : List D} (h : SqL K B0 a vs) (r : RpL K B0 vs l) : ItD K (Itl K a) B0 l where
  go := fun B H e1 e2 i hi => by
    rw [← r.len] at hi
    exact ⟨vs, vs[i], Evl.ex_l (e1.trans e2) h, by simp [hi]⟩
  stop := fun B H e1 e2 => ⟨vs, Evl.ex_l (e1.trans e2) h, by rw [r.len]; exact Nat.le_refl _⟩
  yld := fun B H e1 e2 i x H' hi y => by
    obtain ⟨rfl, y⟩ := y
    obtain ⟨d, h1, h2⟩ := r.get (y vs (Evl.ex_l (e1.trans e2) h))
    exact ⟨B, d, h1, Grow.refl e2, h2.mono e1⟩
theorem itd_tup {K : PySem.W.Frag} {a : Addr} {B0 : Hp} {vs : List V} {l : List D} (h : SqT K B0 a vs) (r : RpL K B0 vs l) : ItD K (Itt K a) B0 l where
  go := fun B H e1 e2 i hi => by
    rw [← r.len] at hi
    exact ⟨vs, vs[i], Evl.ex_t (e1.trans e2) h, by simp [hi]⟩
  stop := fun B H e1 e2 => ⟨vs, Evl.ex_t (e1.trans e2) h, by rw [r.len]; exact Nat.le_refl _⟩
  yld := fun B H e1 e2 i x H' hi y => by
    obtain ⟨rfl, y⟩ := y
    obtain ⟨d, h1, h2⟩ := r.get (y vs (Evl.ex_t (e1.trans e2) h))
    exact ⟨B, d, h1, Grow.refl e2, h2.mono e1⟩
def rangeD (lo : Int) (n : Nat) : List D := (List.range n).map fun (i : Nat) => D.int (lo + (i : Int))
theorem rangeD_len (lo : Int) (n : Nat) : (rangeD lo n).length = n := by simp [rangeD]
theorem itd_range {K : PySem.W.Frag} {B0 : Hp} {lo : Int} {n : Nat} : ItD K (Itr lo n) B0 (rangeD lo n) where
  go := fun B H e1 e2 i hi => by rw [rangeD_len] at hi; exact hi
  stop := fun B H e1 e2 => by rw [rangeD_len]; exact Nat.le_refl _
  yld := fun B H e1 e2 i x H' hi y => by
    obtain ⟨rfl, rfl⟩ := y
    rw [rangeD_len] at hi
    exact ⟨B, .int (lo + i), by simp [rangeD, hi], Grow.refl e2, .int _⟩
def pairD (a b : D) : D := .tup [a, b]
def zipD (l m : List D) : List D := List.zipWith pairD l m
theorem zipD_len (l m : List D) : (zipD l m).length = min l.length m.length := by simp [zipD]
theorem pair_yld {K : PySem.W.Frag} {B H : Hp} {T : Addr} {x y : V} {d e : D} (e2 : Ex B H) (hT : H T = none) (h1 : Rp K B x d) (h2 : Rp K B y e) : Grow B H (upd B T (.tup [x, y])) (upd H T (.tup [x, y])) ∧ Rp K (upd B T (.tup [x, y])) (.ref T) (pairD d e) := by
  have g : Grow B H (upd B T (.tup [x, y])) (upd H T (.tup [x, y])) := Grow.one e2 hT
  exact ⟨g, .tup (.inl (.inl upd_same)) (.cons (h1.mono g.vis) (.cons (h2.mono g.vis) .nil))⟩
theorem itd_zipL {K : PySem.W.Frag} {a b : Addr} {B0 : Hp} {vs ws : List V} {l m : List D} (h : SqL K B0 a vs) (r : RpL K B0 vs l) (h' : SqL K B0 b ws) (r' : RpL K B0 ws m) : ItD K (Itz K a b) B0 (zipD l m) where
  go := fun B H e1 e2 i hi => by
    rw [zipD_len, ← r.len, ← r'.len] at hi
    exact ⟨vs, ws, vs[i], ws[i], Evl.ex_l (e1.trans e2) h, Evl.ex_l (e1.trans e2) h', by simp [show i < vs.length by omega], by simp [show i < ws.length by omega]⟩
  stop := fun B H e1 e2 => ⟨vs, ws, Evl.ex_l (e1.trans e2) h, Evl.ex_l (e1.trans e2) h', by rw [zipD_len, r.len, r'.len]; omega⟩
  yld := fun B H e1 e2 i x H' hi y => by
    obtain ⟨T, x1, y1, rfl, hT, rfl, f1, f2⟩ := y
    obtain ⟨d, g1, g2⟩ := r.get (f1 vs (Evl.ex_l (e1.trans e2) h))
    obtain ⟨e, g3, g4⟩ := r'.get (f2 ws (Evl.ex_l (e1.trans e2) h'))
    obtain ⟨g, q⟩ := pair_yld e2 hT (g2.mono e1) (g4.mono e1)
    exact ⟨_, pairD d e, by simp [zipD, List.getElem?_zipWith, g1, g3], g, q⟩
theorem itd_zipT {K : PySem.W.Frag} {a b : Addr} {B0 : Hp} {vs ws : List V} {l m : List D} (h : SqT K B0 a vs) (r : RpL K B0 vs l) (h' : SqT K B0 b ws) (r' : RpL K B0 ws m) : ItD K (RZ.ItzT K a b) B0 (zipD l m) where
  go := fun B H e1 e2 i hi => by
    rw [zipD_len, ← r.len, ← r'.len] at hi
    exact ⟨vs, ws, vs[i], ws[i], Evl.ex_t (e1.trans e2) h, Evl.ex_t (e1.trans e2) h', by simp [show i < vs.length by omega], by simp [show i < ws.length by omega]⟩
  stop := fun B H e1 e2 => ⟨vs, ws, Evl.ex_t (e1.trans e2) h, Evl.ex_t (e1.trans e2) h', by rw [zipD_len, r.len, r'.len]; omega⟩
  yld := fun B H e1 e2 i x H' hi y => by
    obtain ⟨T, x1, y1, rfl, hT, rfl, f1, f2⟩ := y
    obtain ⟨d, g1, g2⟩ := r.get (f1 vs (Evl.ex_t (e1.trans e2) h))
    obtain ⟨e, g3, g4⟩ := r'.get (f2 ws (Evl.ex_t (e1.trans e2) h'))
    obtain ⟨g, q⟩ := pair_yld e2 hT (g2.mono e1) (g4.mono e1)
    exact ⟨_, pairD d e, by simp [zipD, List.getElem?_zipWith, g1, g3], g, q⟩
section
variable {F : Fam} {E : XK} {e a b c tg : Expr} {es : List Expr} {A B : DE} {R : DA} {pos p : Pos}
def dItL (A : DE) : DI := fun xd Γ Rd => A xd Γ fun w Γ1 => ∃ l Γ2, fix Γ1 w = some (.lst l, Γ2) ∧ Rd l Γ2
def dItT (A : DE) : DI := fun xd Γ Rd => A xd Γ fun w Γ1 => ∃ l Γ2, fix Γ1 w = some (.tup l, Γ2) ∧ Rd l Γ2
theorem pdi_list (h : PD F E a A) : PDI F E tg a (dItL A) :=
  let ⟨_, p, l⟩ := h
  ⟨iList F.K _, fun j => F.k j ▸ pi_list (p j), fun P hK hE Bv Γ σ H Rd R n h k => l P hK hE Bv Γ σ H _ _ n h fun w Γ1 v H1 B1 e1 n1 r1 h1 => by
    obtain ⟨l, Γ2, f, h1⟩ := h1
    obtain ⟨B2, e2, n2, r2⟩ := n1.fixed r1 f
    cases r2 with
    | lst hs hr =>
      rename_i a' vs
      rw [hK] at hs hr
      refine ⟨a', rfl, ⟨vs, Evl.ex_l n2.sub hs⟩, ?_⟩
      exact k l Γ2 _ H1 B2 (e1.trans e2) n2 (by rw [hK]; exact itd_list hs hr) h1⟩
theorem pdi_tup (h : PD F E a A) : PDI F E tg a (dItT A) :=
  let ⟨_, p, l⟩ := h
  ⟨iTup F.K _, fun j => F.k j ▸ pi_tup (p j), fun P hK hE Bv Γ σ H Rd R n h k => l P hK hE Bv Γ σ H _ _ n h fun w Γ1 v H1 B1 e1 n1 r1 h1 => by
    obtain ⟨l, Γ2, f, h1⟩ := h1
    obtain ⟨B2, e2, n2, r2⟩ := n1.fixed r1 f
    cases r2 with
    | tup hs hr =>
      rename_i a' vs
      rw [hK] at hs hr
      refine ⟨a', rfl, ⟨vs, Evl.ex_t n2.sub hs⟩, ?_⟩
      exact k l Γ2 _ H1 B2 (e1.trans e2) n2 (by rw [hK]; exact itd_tup hs hr) h1⟩
def dRng1 (R : DA) : DI := fun xd Γ Rd => R xd Γ fun ws Γ1 => ∃ j : Int, ws = [.dat (.int j)] ∧ -(2 ^ 62) ≤ j ∧ j < 2 ^ 62 ∧ Rd (rangeD 0 j.toNat) Γ1
def dRng2 (R : DA) : DI := fun xd Γ Rd => R xd Γ fun ws Γ1 => ∃ i j : Int, ws = [.dat (.int i), .dat (.int j)] ∧ (-(2 ^ 62) ≤ i ∧ i < 2 ^ 62 ∧ -(2 ^ 62) ≤ j ∧ j < 2 ^ 62) ∧ Rd (rangeD i (j - i).toNat) Γ1
theorem pdi_range1 (hg : ∀ j, Gl (F.X j) "range") (hm : ∀ j, (F.X j).mg "range" = none) (ha : PDA F E [a] R) (hs : ∀ j, starEach [a] (F.X j).env = [(false, eval a (F.X j).env)] := by intro _; rfl) : PDI F E tg (.Call (.Name "range" p) [a] [] pos) (dRng1 R) :=
  let ⟨_, pa, la⟩ := ha
  ⟨_, fun j => pi_range1 (hg j) (hm j) (pa j) (hs j), fun P hK hE Bv Γ σ H Rd R n h k => la P hK hE Bv Γ σ H _ _ n h fun ws Γ1 vs H1 B1 e1 n1 r1 h1 => by
    obtain ⟨j, rfl, b1, b2, h1⟩ := h1
    obtain ⟨v, rfl, rr⟩ := r1.one
    cases rr
    exact ⟨j, rfl, b1, b2, k _ Γ1 _ H1 B1 e1 n1 itd_range h1⟩⟩
theorem pdi_range2 (hg : ∀ j, Gl (F.X j) "range") (hm : ∀ j, (F.X j).mg "range" = none) (ha : PDA F E [a, b] R) (hs : ∀ j, starEach [a, b] (F.X j).env = [(false, eval a (F.X j).env), (false, eval b (F.X j).env)] := by intro _; rfl) (hs2 : ∀ j, starEach [b] (F.X j).env = [(false, eval b (F.X j).env)] := by intro _; rfl) : PDI F E tg (.Call (.Name "range" p) [a, b] [] pos) (dRng2 R) :=
  let ⟨_, pa, la⟩ := ha
  ⟨_, fun j => pi_range2 (hg j) (hm j) (pa j) (hs j) (hs2 j), fun P hK hE Bv Γ σ H Rd R n h k => la P hK hE Bv Γ σ H _ _ n h fun ws Γ1 vs H1 B1 e1 n1 r1 h1 => by
    obtain ⟨i, j, rfl, b1, h1⟩ := h1
    obtain ⟨v, u, rfl, r1, r2⟩ := r1.two
    cases r1
    cases r2
    exact ⟨i, j, rfl, b1, k _ Γ1 _ H1 B1 e1 n1 itd_range h1⟩⟩
/-- zip of two lists | of two tuples -/
def dZip (R : DA) : DI := fun xd Γ Rd => R xd Γ fun ws Γ1 => ∃ l m Γ2, (fixL Γ1 ws = some ([.lst l, .lst m], Γ2) ∨ fixL Γ1 ws = some ([.tup l, .tup m], Γ2)) ∧ Rd (zipD l m) Γ2
theorem pdi_zip {elts : List Expr} {kk : Nat} {tpos : Pos} (hg : ∀ j, Gl (F.X j) "zip") (hm : ∀ j, (F.X j).mg "zip" = none) (ha : PDA F E [a, b] R)
    (hs : ∀ j, starEach [a, b] (F.X j).env = (false, eval a (F.X j).env) :: starEach [b] (F.X j).env := by intro _; rfl) (hpl : ∀ j, (backTo pos (starEach [b] (F.X j).env)).any (·.1) = false := by intro _; rfl) : PDI F E (.Tuple elts kk tpos) (.Call (.Name "zip" p) [a, b] [] pos) (dZip R) :=
  let ⟨_, pa, la⟩ := ha
  ⟨RZ.iZipA F.K _, fun j => F.k j ▸ RZ.pi_zipA (hg j) (hm j) (pa j) (hs j) (hpl j), fun P hK hE Bv Γ σ H Rd R n h k => la P hK hE Bv Γ σ H _ _ n h fun ws Γ1 vs H1 B1 e1 n1 r1 h1 => by
    obtain ⟨l, m, Γ2, f, h1⟩ := h1
    rcases f with f | f
    · obtain ⟨B2, e2, n2, r2⟩ := n1.fixedL r1 f
      cases r2 with
      | cons ra rr =>
        cases rr with
        | cons rb rr =>
          cases rr
          cases ra with
          | lst hs hr =>
            cases rb with
            | lst hs' hr' =>
              rename_i a1 v1 a2 v2
              rw [hK] at hs hr hs' hr'
              exact ⟨a1, a2, v1, v2, rfl, .inl ⟨Evl.ex_l n2.sub hs, Evl.ex_l n2.sub hs', k _ Γ2 _ H1 B2 (e1.trans e2) n2 (by rw [hK]; exact itd_zipL hs hr hs' hr') h1⟩⟩
    · obtain ⟨B2, e2, n2, r2⟩ := n1.fixedL r1 f
      cases r2 with
      | cons ra rr =>
        cases rr with
        | cons rb rr =>
          cases rr
          cases ra with
          | tup hs hr =>
            cases rb with
            | tup hs' hr' =>
              rename_i a1 v1 a2 v2
              rw [hK] at hs hr hs' hr'
              exact ⟨a1, a2, v1, v2, rfl, .inr ⟨Evl.ex_t n2.sub hs, Evl.ex_t n2.sub hs', k _ Γ2 _ H1 B2 (e1.trans e2) n2 (by rw [hK]; exact itd_zipT hs hr hs' hr') h1⟩⟩⟩

/-! ### targets -/
theorem wipe_set {σ : L2.St} {i : Nat} {x : Option V} : ∀ {vs : List Nat}, i ∈ vs → wipe (σ.set i x) vs = wipe σ vs
  | v :: vs, h => by
    show (wipe (σ.set i x) vs).set v none = (wipe σ vs).set v none
    by_cases e : i ∈ vs
    · rw [wipe_set e]
    · have ev : i = v := by
        rcases List.mem_cons.mp h with z | z
        · exact z
        · exact absurd z e
      subst ev
      apply List.ext_getElem?
      intro j
      by_cases q : j = i
      · subst q
        rw [List.getElem?_set, List.getElem?_set]
        simp [wipe_length]
      · rw [List.getElem?_set_ne (Ne.symm q), List.getElem?_set_ne (Ne.symm q)]
        have : ∀ {us : List Nat} {τ : L2.St}, (wipe (τ.set i x) us)[j]? = (wipe τ us)[j]? := by
          intro us
          induction us with
          | nil => intro τ; show (τ.set i x)[j]? = τ[j]?; rw [List.getElem?_set_ne (Ne.symm q)]
          | cons u us ih =>
            intro τ
            show ((wipe (τ.set i x) us).set u none)[j]? = ((wipe τ us).set u none)[j]?
            by_cases w : j = u
            · subst w
              rw [List.getElem?_set, List.getElem?_set]
              simp [wipe_length]
            · rw [List.getElem?_set_ne (Ne.symm w), List.getElem?_set_ne (Ne.symm w), ih]
        exact this
theorem wipe_get {σ : L2.St} {j : Nat} : ∀ {vs : List Nat}, j ∉ vs → (wipe σ vs)[j]? = σ[j]?
  | [], _ => rfl
  | v :: vs, h => by
    show ((wipe σ vs).set v none)[j]? = σ[j]?
    rw [List.getElem?_set_ne (fun z => h (by rw [z]; exact List.mem_cons_self)), wipe_get fun z => h (List.mem_cons_of_mem _ z)]
theorem wipe_in {σ : L2.St} {j : Nat} : ∀ {vs : List Nat}, j ∈ vs → j < σ.length → (wipe σ vs)[j]? = some none
  | v :: vs, h, hl => by
    show ((wipe σ vs).set v none)[j]? = some none
    by_cases e : j = v
    · subst e
      rw [List.getElem?_set_self (by rw [wipe_length]; exact hl)]
    · rw [List.getElem?_set_ne (Ne.symm e)]
      exact wipe_in ((List.mem_cons.mp h).resolve_left e) hl
theorem wipe_wipe {σ : L2.St} {vs : List Nat} : wipe (wipe σ vs) vs = wipe σ vs := by
  apply List.ext_getElem?
  intro j
  by_cases e : j ∈ vs
  · by_cases hl : j < σ.length
    · rw [wipe_in e (by rw [wipe_length]; exact hl), wipe_in e hl]
    · rw [List.getElem?_eq_none (by rw [wipe_length, wipe_length]; omega), List.getElem?_eq_none (by rw [wipe_length]; omega)]
  · rw [wipe_get e]
abbrev DG := D → Gm → Option Gm
abbrev DGs := List D → Gm → Option Gm
abbrev GEnd (P : Par) (Bv : Hp) (Γ' : Gm) (σ : L2.St) (H : Hp) (ix : List Nat) (Q : L2.St → Hp → Prop) : Prop := ∀ σ' : L2.St, En P Bv Γ' σ' H → (∀ vs : List Nat, (∀ i ∈ ix, i ∈ vs) → wipe σ' vs = wipe σ vs) → Q σ' H
def LG (P : Par) (g : TG) (G : DG) (ix : List Nat) : Prop := ∀ (Bv : Hp) (Γ : Gm) (σ : L2.St) (H : Hp) (v : V) (d : D) (Γ' : Gm) (Q : L2.St → Hp → Prop), En P Bv Γ σ H → Rp P.K Bv v d → G d Γ = some Γ' → GEnd P Bv Γ' σ H ix Q → g v σ H Q
def LGs (P : Par) (g : TGs) (G : DGs) (ix : List Nat) : Prop := ∀ (Bv : Hp) (Γ : Gm) (σ : L2.St) (H : Hp) (vs : List V) (ds : List D) (Γ' : Gm) (Q : L2.St → Hp → Prop), En P Bv Γ σ H → RpL P.K Bv vs ds → G ds Γ = some Γ' → GEnd P Bv Γ' σ H ix Q → g vs σ H Q
def PDG (F : Fam) (tg : Expr) (G : DG) (ix : List Nat) : Prop := ∃ g, (∀ j, PG (F.X j) tg g) ∧ ∀ P : Par, P.K = F.K → LG P g G ix
def PDGs (F : Fam) (tgs : List Expr) (G : DGs) (ix : List Nat) : Prop := ∃ g, (∀ j, PGs (F.X j) tgs g) ∧ ∀ P : Par, P.K = F.K → LGs P g G ix
def dgName (i : Nat) : DG := fun d Γ => if notOwn Γ i = true then some (Γ.set i (.dat d)) else none
theorem pdg_name (i : Nat) {x : Str} (hN : ∀ j, (F.X j).N.Nodup) (hi : ∀ j, (F.X j).N[i]? = some x := by intro _; rfl) (hx : ∀ j, Loc (F.X j).env.scope x := by first | exact fun _ => .inl rfl | exact fun _ => .inr rfl) (hf : ∀ j, (F.X j).fn x = true ∨ (F.X j).env.scope.names.lookup x = some .local := by first | exact fun _ => .inl rfl | exact fun _ => .inr rfl | assumption) : PDG F (.Name x pos) (dgName i) [i] :=
  ⟨_, fun j => pg_name (hN j) (hi j) (hx j) (hf j), fun P hK Bv Γ σ H v d Γ' Q n r h k => by
    unfold dgName at h
    split at h
    · rename_i hi
      cases h
      exact k _ (n.put hi r) fun vs hv => wipe_set (hv i (List.mem_singleton.mpr rfl))
    · cases h⟩
def dgsNil : DGs := fun ds Γ => match ds with | [] => some Γ | _ => none
def dgsCons (G : DG) (Gs : DGs) : DGs := fun ds Γ => match ds with
  | d :: r => (G d Γ).bind (Gs r)
  | [] => none
theorem pdgs_nil : PDGs F [] dgsNil [] := ⟨_, fun j => pgs_nil, fun P hK Bv Γ σ H vs ds Γ' Q n r h k => by
  cases r with
  | nil => cases h; exact ⟨rfl, k σ n fun _ _ => rfl⟩
  | cons _ _ => cases h⟩
theorem pdgs_cons {e : Expr} {es : List Expr} {G : DG} {Gs : DGs} {ix iy : List Nat} (h1 : PDG F e G ix) (h2 : PDGs F es Gs iy) (hs : ∀ j, (assignEach (e :: es) (F.X j).env).map (·.2) = assign e (F.X j).env :: (assignEach es (F.X j).env).map (·.2) := by intro _; rfl) : PDGs F (e :: es) (dgsCons G Gs) (ix ++ iy) :=
  let ⟨_, p1, l1⟩ := h1; let ⟨_, p2, l2⟩ := h2
  ⟨_, fun j => pgs_cons (p1 j) (p2 j) (hs j), fun P hK Bv Γ σ H vs ds Γ' Q n r h k => by
    cases r with
    | nil => cases h
    | @cons v vs d ds r rr =>
      have h' : (G d Γ).bind (Gs ds) = some Γ' := h
      cases q : G d Γ with
      | none => rw [q] at h'; cases h'
      | some Γ1 =>
        rw [q] at h'
        exact ⟨v, vs, rfl, l1 P hK Bv Γ σ H v d Γ1 _ n r q fun σ1 n1 w1 => l2 P hK Bv Γ1 σ1 H vs ds Γ' Q n1 rr h' fun σ2 n2 w2 => k σ2 n2 fun us hu => (w2 us fun i hi => hu i (List.mem_append_right _ hi)).trans (w1 us fun i hi => hu i (List.mem_append_left _ hi))⟩⟩
def dgTup (m : Nat) (Gs : DGs) : DG := fun d Γ => match d with
  | .tup l => if l.length = m then Gs l Γ else none
  | _ => none
theorem pdg_tup {es : List Expr} {k : Nat} {m : Nat} {Gs : DGs} {ix : List Nat} (hc : ∀ j, (F.X j).calm = true := by intro _; rfl) (h : PDGs F es Gs ix) (hn : ∀ j, (assignEach es (F.X j).env).length = m := by intro _; rfl) (hst : ∀ j, (assignEach es (F.X j).env).findIdx? (·.1) = none := by intro _; rfl) : PDG F (.Tuple es k pos) (dgTup m Gs) ix :=
  let ⟨_, p, l⟩ := h
  ⟨gTup F.K m _, fun j => F.k j ▸ pg_tup (hc j) (p j) (hn j) (hst j), fun P hK Bv Γ σ H v d Γ' Q n r h k => by
    cases r with
    | tup hs hr =>
      rename_i a vs ds
      have h' : (if ds.length = m then Gs ds Γ else none) = some Γ' := h
      split at h'
      · rename_i hm
        rw [hK] at hs
        exact ⟨a, vs, rfl, Evl.ex_t n.sub hs, by rw [hr.len]; exact hm, l P hK Bv Γ σ H vs ds Γ' Q n hr h' k⟩
      · cases h'
    | _ => cases h⟩

/-! ### loops -/
variable {T : DS} {G : DG} {ix : List Nat} {I : DI}
def dLoop (G : DG) (T : DS) (xd : Xd) (D : DEnds) : List DL.D → Gm → Prop
  | [], Γ => D.nx Γ
  | x :: r, Γ => ∃ Γ', G x Γ = some Γ' ∧ T xd { nx := dLoop G T xd D r, ct := dLoop G T xd D r, bk := D.nx, rt := D.rt } Γ'
def dFor (I : DI) (G : DG) (T : DS) : DS := fun xd D Γ => I xd Γ fun xs Γ1 => dLoop G T xd D xs Γ1
theorem ls_for {P : Par} {wi : TI} {g : TG} {tb : TS} (hi : LI P wi I) (hg : LG P g G ix) (hb : LS P tb T) : LS P (tFor wi g tb) (dFor I G T) := by
  intro Bv Γ σ H Dd D n h k
  refine hi Bv Γ σ H _ _ n h fun xs Γ1 J H1 B1 e1 n1 it h1 => ?_
  refine ⟨fun i m σ' H' => m = xs.length - i ∧ i ≤ xs.length ∧ ∃ B' Γ', Ex B1 B' ∧ En P B' Γ' σ' H' ∧ dLoop G T P.Ed Dd (xs.drop i) Γ', ⟨_, rfl, Nat.zero_le _, B1, Γ1, Ex.refl _, n1, h1⟩, ?_⟩
  rintro i m σ' H' ⟨rfl, hle, B', Γ', e2, n2, h2⟩
  by_cases hlt : i < xs.length
  · refine .inr ⟨it.go B' H' e2 n2.sub i hlt, fun σ3 H3 => ∃ B3 Γ3, Ex B1 B3 ∧ En P B3 Γ3 σ3 H3 ∧ dLoop G T P.Ed Dd (xs.drop (i + 1)) Γ3, fun σ3 H3 z => ⟨xs.length - (i + 1), by omega, rfl, hlt, z⟩, fun x H3 y => ?_⟩
    obtain ⟨B3, d, hd, gr, rp⟩ := it.yld B' H' e2 n2.sub i x H3 hlt y
    have hdrop : xs.drop i = d :: xs.drop (i + 1) := by
      obtain ⟨hl, e⟩ := List.getElem?_eq_some_iff.mp hd
      rw [List.drop_eq_getElem_cons hl, e]
    rw [hdrop] at h2
    obtain ⟨Γ3, q3, h3⟩ := h2
    refine hg B3 Γ' σ' H3 x d Γ3 _ (n2.grow gr) rp q3 fun σ4 n4 _ => ?_
    have e3 : Ex B1 B3 := e2.trans gr.vis
    exact hb B3 Γ3 σ4 H3 _ _ n4 h3 ⟨fun Γ5 σ5 H5 B5 x5 n5 q5 => ⟨B5, Γ5, e3.trans x5, n5, q5⟩, fun d Γ5 σ5 v H5 B5 x5 n5 r5 q5 => k.rt d Γ5 σ5 v H5 B5 ((e1.trans e3).trans x5) n5 r5 q5,
      fun Γ5 σ5 H5 B5 x5 n5 q5 => k.nx Γ5 σ5 H5 B5 ((e1.trans e3).trans x5) n5 q5, fun Γ5 σ5 H5 B5 x5 n5 q5 => ⟨B5, Γ5, e3.trans x5, n5, q5⟩⟩
  · have e : i = xs.length := by omega
    subst e
    rw [List.drop_length] at h2
    exact .inl ⟨it.stop B' H' e2 n2.sub, k.nx Γ' σ' H' B' (e1.trans e2) n2 h2⟩
theorem pd_for {iter : Expr} {body : List Stmt} (hp : ∀ j, PassesOwn (model (F.X j).prog (F.X j).w) (F.X j).A (F.X j).env (F.X j).xe) (hc : ∀ j, (F.X j).calm = true := by intro _; rfl) (hi : PDI F E tg iter I) (hg : PDG F tg G ix) (hb : PDSs F E body T) (hs : ∀ j x, foldedSetIterable iter (F.X j).env x = pure x := by intro _ _; rfl) : PDS F E (.For tg iter body [] pos) (dFor I G T) :=
  let ⟨_, p1, l1⟩ := hi; let ⟨_, p2, l2⟩ := hg; let ⟨_, p3, l3⟩ := hb
  ⟨_, fun j => ps_for (hp j) (hc j) (p1 j) (p2 j) (p3 j) (hs j), fun P hK hE => ls_for (l1 P hK hE) (l2 P hK) (l3 P hK hE)⟩
def dWh (t : DT) (T : DS) (xd : Xd) (D : DEnds) : Nat → Gm → Prop
  | 0, _ => False
  | n + 1, Γ => t xd Γ fun q Γ1 => if q = true then T xd { nx := dWh t T xd D n, ct := dWh t T xd D n, bk := D.nx, rt := D.rt } Γ1 else D.nx Γ1
def dWhile (t : DT) (T : DS) : DS := fun xd D Γ => ∃ n, dWh t T xd D n Γ
theorem pd_while {t : DT} {body : List Stmt} (hp : ∀ j, PassesOwn (model (F.X j).prog (F.X j).w) (F.X j).A (F.X j).env (F.X j).xe) (hc : PDT F E c t) (hb : PDSs F E body T) : PDS F E (.While c body [] pos) (dWhile t T) := by
  obtain ⟨_, p1, l1⟩ := hc
  obtain ⟨_, p2, l2⟩ := hb
  refine ⟨_, fun j => ps_while (hp j) (p1 j) (p2 j), fun P hK hE Bv Γ σ H Dd D n h k => ?_⟩
  obtain ⟨m0, h⟩ := h
  refine ⟨fun m σ' H' => ∃ B' Γ', Ex Bv B' ∧ En P B' Γ' σ' H' ∧ dWh t T P.Ed Dd m Γ', ⟨m0, Bv, Γ, Ex.refl _, n, h⟩, ?_⟩
  rintro m σ1 H1 ⟨B1, Γ1, e1, n1, h1⟩
  cases m with
  | zero => exact h1.elim
  | succ m =>
    refine l1 P hK hE B1 Γ1 σ1 H1 _ _ n1 h1 fun q Γ2 H2 B2 e2 n2 h2 => ?_
    cases q with
    | true =>
      refine ⟨fun σ' H' => ∃ B' Γ', Ex Bv B' ∧ En P B' Γ' σ' H' ∧ dWh t T P.Ed Dd m Γ', fun σ' H' z => ⟨m, Nat.lt_succ_self _, z⟩, ?_⟩
      have e3 := e1.trans e2
      exact l2 P hK hE B2 Γ2 σ1 H2 _ _ n2 h2 ⟨fun Γ5 σ5 H5 B5 x5 n5 q5 => ⟨B5, Γ5, e3.trans x5, n5, q5⟩, fun d Γ5 σ5 v H5 B5 x5 n5 r5 q5 => k.rt d Γ5 σ5 v H5 B5 (e3.trans x5) n5 r5 q5,
        fun Γ5 σ5 H5 B5 x5 n5 q5 => k.nx Γ5 σ5 H5 B5 (e3.trans x5) n5 q5, fun Γ5 σ5 H5 B5 x5 n5 q5 => ⟨B5, Γ5, e3.trans x5, n5, q5⟩⟩
    | false => exact k.nx Γ2 σ1 H2 B2 (e1.trans e2) n2 h2
end
end DL

set_option Elab.async false
set_option linter.all false
set_option maxRecDepth 100000
set_option maxHeartbeats 4000000
namespace DL
open PySem PySem.Spec PyProof.Rows L2
open Evl (Ex)

/-! ### comprehensions -/
def okW (Γ : Gm) (vs : List Nat) : Bool := vs.all (notOwn Γ)
def wipeG (Γ : Gm) : List Nat → Gm
  | [] => Γ
  | v :: vs => (wipeG Γ vs).set v .non
theorem wipeG_len (Γ : Gm) : ∀ vs : List Nat, (wipeG Γ vs).length = Γ.length
  | [] => rfl
  | v :: vs => by
    show ((wipeG Γ vs).set v .non).length = Γ.length
    rw [List.length_set, wipeG_len Γ vs]
theorem wipeG_get {Γ : Gm} {j : Nat} {s : Sl} : ∀ {vs : List Nat}, (wipeG Γ vs)[j]? = some s → (s = .non) ∨ (j ∉ vs ∧ Γ[j]? = some s)
  | [], h => .inr ⟨by simp, h⟩
  | v :: vs, h => by
    rcases get_set (l := wipeG Γ vs) h with ⟨rfl, q⟩ | ⟨q, h⟩
    · exact .inl q
    · rcases wipeG_get h with z | ⟨z1, z2⟩
      · exact .inl z
      · exact .inr ⟨fun e => (List.mem_cons.mp e).elim q z1, z2⟩
section
variable {P : Par} {Bv : Hp} {Γ : Gm} {σ σ' : L2.St} {H : Hp} {vs : List Nat}
theorem En.wipe (n : En P Bv Γ σ H) (hw : okW Γ vs = true) (hl : σ'.length = σ.length) (h : ∀ j, j ∉ vs → σ'[j]? = σ[j]?) : En P Bv (wipeG Γ vs) σ' H where
  len := by rw [wipeG_len, hl]; exact n.len
  base := n.base
  sub := n.sub
  frm := n.frm
  dj := n.dj
  dat := fun i d e => by
    rcases wipeG_get e with z | ⟨z1, z2⟩
    · cases z
    · rw [h i z1]; exact n.dat i d z2
  own := fun i p l e => by
    rcases wipeG_get e with z | ⟨z1, z2⟩
    · cases z
    · rw [h i z1]; exact n.own i p l z2
  inj := fun i j p p' l l' a e1 e2 => by
    rcases wipeG_get e1 with z | ⟨z1, z2⟩
    · cases z
    · rcases wipeG_get e2 with y | ⟨y1, y2⟩
      · cases y
      · rw [h i z1, h j y1]; exact n.inj i j p p' l l' a z2 y2
  pin := fun q hq => by
    obtain ⟨l, h1, h2⟩ := n.pin q hq
    have nv : q.1 ∉ vs := fun z => notOwn_no (List.all_eq_true.mp hw _ z) h1
    refine ⟨l, ?_, by rw [h _ nv]; exact h2⟩
    have : ∀ us : List Nat, q.1 ∉ us → (wipeG Γ us)[q.1]? = Γ[q.1]? := by
      intro us
      induction us with
      | nil => intro _; rfl
      | cons u us ih =>
        intro hu
        show ((wipeG Γ us).set u .non)[q.1]? = Γ[q.1]?
        rw [List.getElem?_set_ne (fun z => hu (by rw [z]; exact List.mem_cons_self)), ih fun z => hu (List.mem_cons_of_mem _ z)]
    rw [this vs nv]
    exact h1
end
/-- P while the list at p is being made -/
def Par.lc (P : Par) (p : Addr) (acc : List V) : Par where
  K := P.K
  F := upd P.F p (.lst acc)
  pin := P.pin
  B0 := P.B0
  Ed := no
  E := E0
  xok := fun _ _ _ _ _ _ z => z.elim
theorem En.lc {P : Par} {Bv : Hp} {Γ : Gm} {σ : L2.St} {H : Hp} {p : Addr} {acc : List V} (n : En P Bv Γ σ H) (hp : H p = some (.lst acc)) (h1 : Bv p = none) (h2 : ∀ (j : Nat) (q : Bool) (m : List D), Γ[j]? = some (.own q m) → σ[j]? ≠ some (some (.ref p))) : En (P.lc p acc) Bv Γ σ H where
  len := n.len
  base := n.base
  sub := n.sub
  frm := fun b o e => by
    have e' : upd P.F p (.lst acc) b = some o := e
    by_cases q : b = p
    · subst q; rw [upd_same] at e'; cases e'; exact hp
    · rw [upd_ne q] at e'; exact n.frm b o e'
  dj := fun b z => by
    have z' : upd P.F p (.lst acc) b ≠ none := z
    by_cases q : b = p
    · subst q; exact h1
    · rw [upd_ne q] at z'; exact n.dj b z'
  dat := n.dat
  own := fun i q l h => by
    obtain ⟨a, vs, g1, g2, g3, g4, g5⟩ := n.own i q l h
    have : a ≠ p := fun z => h2 i q l h (by rw [g1, z])
    refine ⟨a, vs, g1, g2, g3, g4, ?_⟩
    show upd P.F p (.lst acc) a = none
    rw [upd_ne this]; exact g5
  inj := n.inj
  pin := n.pin
/-- one item more -/
theorem En.lcMore {P : Par} {Bv : Hp} {Γ : Gm} {σ : L2.St} {H : Hp} {p : Addr} {acc acc' : List V} (n : En (P.lc p acc) Bv Γ σ H) : En (P.lc p acc') Bv Γ σ (upd H p (.lst acc')) where
  len := n.len
  base := n.base
  sub := fun b o e => by
    have : b ≠ p := fun z => by
      have : Bv p = none := n.dj p (by show upd P.F p (.lst acc) p ≠ none; rw [upd_same]; exact fun z => nomatch z)
      rw [z, this] at e; cases e
    rw [upd_ne this]; exact n.sub b o e
  frm := fun b o e => by
    have e' : upd P.F p (.lst acc') b = some o := e
    by_cases q : b = p
    · subst q; rw [upd_same] at e' ⊢; exact e'
    · rw [upd_ne q] at e' ⊢
      exact n.frm b o (by show upd P.F p (.lst acc) b = some o; rw [upd_ne q]; exact e')
  dj := fun b z => by
    refine n.dj b fun y => z ?_
    have y' : upd P.F p (.lst acc) b = none := y
    show upd P.F p (.lst acc') b = none
    by_cases q : b = p
    · subst q; rw [upd_same] at y'; cases y'
    · rw [upd_ne q] at y' ⊢; exact y'
  dat := n.dat
  own := fun i q l h => by
    obtain ⟨a, vs, g1, g2, g3, g4, g5⟩ := n.own i q l h
    have g5' : upd P.F p (.lst acc) a = none := g5
    have ne : a ≠ p := fun z => by rw [z, upd_same] at g5'; cases g5'
    rw [upd_ne ne] at g5'
    refine ⟨a, vs, g1, by rw [upd_ne ne]; exact g2, g3, g4, ?_⟩
    show upd P.F p (.lst acc') a = none
    rw [upd_ne ne]; exact g5'
  inj := n.inj
  pin := n.pin
/-- it is made -/
theorem En.lcEnd {P : Par} {Bv : Hp} {Γ : Gm} {σ : L2.St} {H : Hp} {p : Addr} {acc : List V} {l : List D} (hF : P.F p = none) (n : En (P.lc p acc) Bv Γ σ H) (r : RpL P.K Bv acc l) : En P Bv Γ σ H ∧ NewL P Bv Γ σ H p acc l := by
  have fp : upd P.F p (.lst acc) p = some (.lst acc) := upd_same
  have e1 : H p = some (.lst acc) := n.frm p _ fp
  have e2 : Bv p = none := n.dj p (by show upd P.F p (.lst acc) p ≠ none; rw [upd_same]; exact fun z => nomatch z)
  have ow : ∀ (i : Nat) (q : Bool) (l : List D), Γ[i]? = some (.own q l) → ∃ a vs, σ[i]? = some (some (.ref a)) ∧ H a = some (.lst vs) ∧ RpL P.K Bv vs l ∧ Bv a = none ∧ P.F a = none ∧ a ≠ p := fun i q l h => by
    obtain ⟨a, vs, g1, g2, g3, g4, g5⟩ := n.own i q l h
    have g5' : upd P.F p (.lst acc) a = none := g5
    have ne : a ≠ p := fun z => by rw [z, upd_same] at g5'; cases g5'
    rw [upd_ne ne] at g5'
    exact ⟨a, vs, g1, g2, g3, g4, g5', ne⟩
  refine ⟨⟨n.len, n.base, n.sub, fun b o e => ?_, fun b z => ?_, n.dat, fun i q l h => ?_, n.inj, n.pin⟩, ⟨e1, e2, hF, fun i q l h z => ?_, r⟩⟩
  · have : b ≠ p := fun z => by rw [z, hF] at e; cases e
    exact n.frm b o (by show upd P.F p (.lst acc) b = some o; rw [upd_ne this]; exact e)
  · refine n.dj b fun y => z ?_
    have y' : upd P.F p (.lst acc) b = none := y
    by_cases q : b = p
    · subst q; exact hF
    · rw [upd_ne q] at y'; exact y'
  · obtain ⟨a, vs, g1, g2, g3, g4, g5, _⟩ := ow i q l h
    exact ⟨a, vs, g1, g2, g3, g4, g5⟩
  · obtain ⟨a, vs, g1, _, _, _, _, ne⟩ := ow i q l h
    rw [g1] at z
    cases z
    exact ne rfl
def dYes : DT := fun _ Γ Q => Q true Γ
theorem lt_yes {P : Par} : LT P tYes dYes := fun Bv Γ σ H Qd Q n h k => k true Γ H Bv (Ex.refl _) n h
def PDTs (F : Fam) (E : XK) (ifs : List Expr) (T : DT) : Prop := ∃ t, (∀ j, PTs (F.X j) ifs t) ∧ ∀ P : Par, P.K = F.K → P.E = E → LT P t T
theorem pdts_nil {F : Fam} {E : XK} : PDTs F E [] dYes := ⟨_, fun _ => pts_nil, fun _ _ _ => lt_yes⟩
theorem pdts_one {F : Fam} {E : XK} {c : Expr} {T : DT} (h : PDT F E c T) : PDTs F E [c] T := let ⟨_, p, l⟩ := h; ⟨_, fun j => pts_one (p j), l⟩
def dLcR (G : DG) (tt : DT) (A : DE) (vs : List Nat) (K : List D → Gm → Prop) : List D → List D → Gm → Prop
  | [], acc, Γ => K acc Γ
  | x :: r, acc, Γ => ∃ Γ1, G x Γ = some Γ1 ∧ tt no Γ1 fun q Γ2 => if q = true then A no Γ2 fun w Γ3 => ∃ d Γ4, fix Γ3 w = some (d, Γ4) ∧ okW Γ4 vs = true ∧ dLcR G tt A vs K r (acc ++ [d]) (wipeG Γ4 vs) else okW Γ2 vs = true ∧ dLcR G tt A vs K r acc (wipeG Γ2 vs)
def dLc (I : DI) (G : DG) (tt : DT) (A : DE) (vs : List Nat) : DO := fun xd Γ Q => I xd Γ fun xs Γ1 => okW Γ1 vs = true ∧ xs.length ≤ 100000 ∧ dLcR G tt A vs Q xs [] (wipeG Γ1 vs)
theorem lo_lc {P : Par} {wi : TI} {I : DI} {g : TG} {G : DG} {ix : List Nat} {tt : TT} {tD : DT} {te : TE} {A : DE} {vs : List Nat} (hi : LI P wi I) (hg : ∀ p acc, LG (P.lc p acc) g G ix) (ht : ∀ p acc, LT (P.lc p acc) tt tD) (he : ∀ p acc, LE (P.lc p acc) te A) (hix : ∀ i ∈ ix, i ∈ vs) : LO P (tLc wi g tt te vs) (dLc I G tD A vs) := by
  intro Bv Γ σ H Qd Q n h k
  refine hi Bv Γ σ H _ _ n h fun xs Γ1 J H1 B1 e1 n1 it h1 => ?_
  obtain ⟨hw, hx, h1⟩ := h1
  intro p hp
  obtain ⟨pF, pB, pO⟩ := n1.noAt hp
  have n1' : En P B1 Γ1 σ (upd H1 p (.lst [])) := n1.grow (Grow.hid n1.sub hp)
  have n2 : En (P.lc p []) B1 (wipeG Γ1 vs) (wipe σ vs) (upd H1 p (.lst [])) := (n1'.lc upd_same pB pO).wipe hw (wipe_length σ vs) fun j hj => wipe_get hj
  refine ⟨fun i m H' => m = xs.length - i ∧ i ≤ xs.length ∧ ∃ B' Γ' acc ds, Ex B1 B' ∧ En (P.lc p acc) B' Γ' (wipe σ vs) H' ∧ RpL P.K B' acc ds ∧ acc.length ≤ i ∧ (∀ (j : Nat) (s : Sl), j ∈ vs → Γ'[j]? = some s → s = .non) ∧ dLcR G tD A vs Qd (xs.drop i) ds Γ', ⟨_, rfl, Nat.zero_le _, B1, _, [], [], Ex.refl _, n2, .nil, Nat.le_refl _, fun j s hj hs => (wipeG_get hs).resolve_right fun z => z.1 hj, h1⟩, ?_⟩
  rintro i m H' ⟨rfl, hle, B', Γ', acc, ds, e2, n3, ra, hal, hnon, h3⟩
  by_cases hlt : i < xs.length
  · refine .inr ⟨it.go B' H' e2 n3.sub i hlt, fun H5 => ∃ B' Γ' acc ds, Ex B1 B' ∧ En (P.lc p acc) B' Γ' (wipe σ vs) H5 ∧ RpL P.K B' acc ds ∧ acc.length ≤ i + 1 ∧ (∀ (j : Nat) (s : Sl), j ∈ vs → Γ'[j]? = some s → s = .non) ∧ dLcR G tD A vs Qd (xs.drop (i + 1)) ds Γ', fun H5 z => ⟨xs.length - (i + 1), by omega, rfl, hlt, z⟩, fun x H4 y => ?_⟩
    obtain ⟨B4, d, hd, gr, rp⟩ := it.yld B' H' e2 n3.sub i x H4 hlt y
    have hdrop : xs.drop i = d :: xs.drop (i + 1) := by
      obtain ⟨hl, e⟩ := List.getElem?_eq_some_iff.mp hd
      rw [List.drop_eq_getElem_cons hl, e]
    rw [hdrop] at h3
    obtain ⟨Γ4, q4, h4⟩ := h3
    refine hg p acc B4 Γ' (wipe σ vs) H4 x d Γ4 _ (n3.grow gr) rp q4 fun σ2 n4 w4 => ?_
    have w5 : wipe σ2 vs = wipe σ vs := (w4 vs hix).trans wipe_wipe
    refine ⟨w5, ?_⟩
    have hlen : (wipe σ vs).length = σ2.length := by rw [← w5, wipe_length]
    have hoth : ∀ j, j ∉ vs → (wipe σ vs)[j]? = σ2[j]? := fun j hj => by rw [← w5, wipe_get hj]
    refine ht p acc B4 Γ4 σ2 H4 _ _ n4 h4 fun q Γ5 H5 B5 e5 n5 h5 => ?_
    have e5' : Ex B' B5 := gr.vis.trans e5
    cases q with
    | true =>
      have h5' : A no Γ5 fun w Γ3 => ∃ d Γ4, fix Γ3 w = some (d, Γ4) ∧ okW Γ4 vs = true ∧ dLcR G tD A vs Qd (xs.drop (i + 1)) (ds ++ [d]) (wipeG Γ4 vs) := h5
      show te σ2 H5 _
      refine he p acc B5 Γ5 σ2 H5 _ _ n5 h5' fun w Γ6 v H6 B6 e6 n6 r6 h6 => ?_
      obtain ⟨d6, Γ7, f6, hw6, h7⟩ := h6
      obtain ⟨B7, e7, n7, r7⟩ := n6.fixed r6 f6
      have g7 : H6 p = some (.lst acc) := n7.frm p _ upd_same
      have ee : Ex B' B7 := (e5'.trans e6).trans e7
      refine ⟨acc, g7, Evl.sz_lt (by omega), B7, wipeG Γ7 vs, acc ++ [v], ds ++ [d6], e2.trans ee, (n7.lcMore).wipe hw6 hlen hoth, (ra.mono ee).app (.one r7), ?_, fun j s hj hs => (wipeG_get hs).resolve_right fun z => z.1 hj, h7⟩
      rw [List.length_append, List.length_singleton]
      omega
    | false =>
      obtain ⟨hw5, h6⟩ : okW Γ5 vs = true ∧ dLcR G tD A vs Qd (xs.drop (i + 1)) ds (wipeG Γ5 vs) := h5
      exact ⟨B5, wipeG Γ5 vs, acc, ds, e2.trans e5', n5.wipe hw5 hlen hoth, ra.mono e5', by omega, fun j s hj hs => (wipeG_get hs).resolve_right fun z => z.1 hj, h6⟩
  · have e : i = xs.length := by omega
    subst e
    rw [List.drop_length] at h3
    have n4 : En (P.lc p acc) B' Γ' σ H' := n3.slots (wipe_length σ vs).symm fun j s hj hs => by
      by_cases q : j ∈ vs
      · exact absurd (hnon j s q hj) hs
      · rw [wipe_get q]
    obtain ⟨n5, z⟩ := n4.lcEnd pF ra
    exact .inl ⟨it.stop B' H' e2 n3.sub, k ds Γ' p acc H' B' (e1.trans e2) n5 z h3⟩
/-- the blocks of a comprehension -/
def Fam.blk (F : Fam) (scope : Scope) : Fam where
  ι := F.ι × Shared × Hp × Addr × List (Str × Addr) × List Addr
  X := fun z => (F.X z.1).blk z.2.1 z.2.2.1 scope (compEnvC scope z.2.2.2.2.1 z.2.2.2.1 (F.X z.1).env) z.2.2.2.2.2
  K := F.K
  k := fun z => F.k z.1
section
variable {F : Fam} {E : XK} {elt tg iter : Expr} {ifs : List Expr} {scope : Scope} {pos : Pos} {I : DI} {G : DG} {ix : List Nat} {tD : DT} {A : DE}
theorem pdo_lc (own : List (Str × Nat)) (hc : ∀ j, (F.X j).calm = true) (hN : ∀ j, (F.X j).N.Nodup) (hi : PDI F E tg iter I) (ok : ∀ j, BlkOk (F.X j).N (F.X j).env.scope scope own)
    (hg : PDG (F.blk scope) tg G ix) (ht : PDTs (F.blk scope) E0 ifs tD) (he : PD (F.blk scope) E0 elt A)
    (hix : ∀ i ∈ ix, i ∈ own.map (·.2) := by decide) (hs : ∀ j x, foldedSetIterable iter (F.X j).env x = pure x := by intro _ _; rfl) : PDO F E (.ListComp elt [⟨tg, iter, ifs, 0⟩] scope pos) (dLc I G tD A (own.map (·.2))) :=
  let ⟨_, p1, l1⟩ := hi; let ⟨_, p2, l2⟩ := hg; let ⟨_, p3, l3⟩ := ht; let ⟨_, p4, l4⟩ := he
  ⟨_, fun j => pe_lc (hc j) (hN j) (p1 j) (ok j) (fun s H C cl fp => p2 (j, s, H, C, cl, fp)) (fun s H C cl fp => p3 (j, s, H, C, cl, fp)) (fun s H C cl fp => p4 (j, s, H, C, cl, fp)) (hs j),
    fun P hK hE => lo_lc (l1 P hK hE) (fun p acc => l2 (P.lc p acc) hK) (fun p acc => l3 (P.lc p acc) hK rfl) (fun p acc => l4 (P.lc p acc) hK rfl) hix⟩
theorem pd_setLc (i : Nat) (own : List (Str × Nat)) {y : Str} {py spos : Pos} (hc : ∀ j, (F.X j).calm = true) (hN : ∀ j, (F.X j).N.Nodup) (hi : PDI F E tg iter I)
    (hsw : ∀ j, swapsWith (.ListComp elt [⟨tg, iter, ifs, 0⟩] scope pos) (some (.Name y py)) spos.line (F.X j).env = pure true) (ok : ∀ j, BlkOk (F.X j).N (F.X j).env.scope scope own)
    (hg : PDG (F.blk scope) tg G ix) (ht : PDTs (F.blk scope) E0 ifs tD) (he : PD (F.blk scope) E0 elt A)
    (hy : ∀ j, (F.X j).N[i]? = some y := by intro _; rfl) (hyl : ∀ j, (F.X j).env.scope.names.lookup y = some .local := by intro _; rfl)
    (hix : ∀ i ∈ ix, i ∈ own.map (·.2) := by decide) (hs : ∀ j x, foldedSetIterable iter (F.X j).env x = pure x := by intro _ _; rfl) : PDS F E (.Assign [.Name y py] (.ListComp elt [⟨tg, iter, ifs, 0⟩] scope pos) spos) (dAsgO i (dLc I G tD A (own.map (·.2)))) :=
  let ⟨_, p1, l1⟩ := hi; let ⟨_, p2, l2⟩ := hg; let ⟨_, p3, l3⟩ := ht; let ⟨_, p4, l4⟩ := he
  ⟨_, fun j => ps_setLc (hc j) (hN j) (hy j) (hyl j) (hsw j) (p1 j) (ok j) (fun s H C cl fp => p2 (j, s, H, C, cl, fp)) (fun s H C cl fp => p3 (j, s, H, C, cl, fp)) (fun s H C cl fp => p4 (j, s, H, C, cl, fp)) (hs j),
    fun P hK hE => ls_asgO (lo_lc (l1 P hK hE) (fun p acc => l2 (P.lc p acc) hK) (fun p acc => l3 (P.lc p acc) hK rfl) (fun p acc => l4 (P.lc p acc) hK rfl) hix)⟩
end
end DL

set_option Elab.async false
set_option linter.all false
set_option maxRecDepth 100000
set_option maxHeartbeats 4000000
namespace DL
open PySem PySem.Spec PyProof.Rows L2
open Evl (Ex)

/-! ### what a def promises of data -/
/-- by the arguments: what is wanted of the result, of an exception -/
abbrev Sd := List D → (D → Prop) → Xd → Prop
/-- .. of a def whose first argument is a list that it may write: by the list, the arguments -/
abbrev SdB := List D → List D → (D → List D → Prop) → Prop
def Dj (B F : Hp) : Prop := ∀ b, F b ≠ none → B b = none
def XkD (K : PySem.W.Frag) (B F : Hp) (E : XK) : Xd := fun C fs => ∀ (d : Addr) (fvs : List (Str × V)) (H' B' : Hp), Ex B B' → Ex B' H' → Ex F H' → Dj B' F → H' d = some (.xd fvs) → RpF K B' fvs fs → E (.ref C) (some d) H'
def spD (K : PySem.W.Frag) (sd : Sd) : Sp := fun vs H Q E => ∃ (ds : List D) (F B : Hp), RpL K B vs ds ∧ Ex B H ∧ Ex F H ∧ Dj B F ∧
  sd ds (fun r => ∀ (v : V) (H' B' : Hp), Ex B B' → Ex B' H' → Ex F H' → Dj B' F → Rp K B' v r → Q v H') (XkD K B F E)
def spB (K : PySem.W.Frag) (sd : SdB) : Sp := fun vs H Q E => ∃ (a : Addr) (us xs : List V) (l ds : List D) (F B : Hp), vs = .ref a :: us ∧ H a = some (.lst xs) ∧ RpL K B xs l ∧ RpL K B us ds ∧ Ex B H ∧ Ex F H ∧ Dj B F ∧ B a = none ∧ F a = none ∧
  sd l ds (fun r l' => ∀ (v : V) (xs' : List V) (H' B' : Hp), Ex B B' → Ex B' H' → Ex F H' → Dj B' F → B' a = none → H' a = some (.lst xs') → RpL K B' xs' l' → Rp K B' v r → Q v H')
def startD (n : Nat) (ss : List Sl) : Gm := ss ++ List.replicate (n - ss.length) .non
theorem startD_get {n : Nat} {ss : List Sl} {i : Nat} {s : Sl} (h : (startD n ss)[i]? = some s) : ss[i]? = some s ∨ s = .non := by
  unfold startD at h
  rw [List.getElem?_append] at h
  split at h
  · exact .inl h
  · rw [List.getElem?_replicate] at h
    split at h
    · cases h; exact .inr rfl
    · cases h
theorem start_get {N : List Str} {vs : List V} {i : Nat} {v : V} (h : vs[i]? = some v) : (L2.start N vs)[i]? = some (some v) := by
  unfold L2.start
  rw [List.getElem?_append]
  have hl : i < vs.length := (List.getElem?_eq_some_iff.mp h).1
  rw [if_pos (by rw [List.length_map]; exact hl), List.getElem?_map, h]
  rfl
theorem start_len {N : List Str} {vs : List V} (h : vs.length ≤ N.length) : (L2.start N vs).length = N.length := by
  unfold L2.start
  rw [List.length_append, List.length_map, List.length_replicate]
  omega
theorem startD_len {n : Nat} {ss : List Sl} (h : ss.length ≤ n) : (startD n ss).length = n := by
  unfold startD
  rw [List.length_append, List.length_replicate]
  omega
theorem En.begin0 {P : Par} {N : List Str} {vs : List V} {ds : List D} {H : Hp} (hp : P.pin = []) (r : RpL P.K P.B0 vs ds) (hN : vs.length ≤ N.length) (e : Ex P.B0 H) (f : Ex P.F H) (dj : Dj P.B0 P.F) : En P P.B0 (startD N.length (ds.map .dat)) (L2.start N vs) H where
  len := by rw [start_len hN, startD_len (by rw [List.length_map, ← r.len]; exact hN)]
  base := Ex.refl _
  sub := e
  frm := f
  dj := dj
  dat := fun i d h => by
    rcases startD_get h with h | h
    · rw [List.getElem?_map] at h
      cases q : ds[i]? with
      | none => rw [q] at h; cases h
      | some d' =>
        rw [q] at h
        cases h
        obtain ⟨v, h1, h2⟩ := r.getD q
        exact ⟨v, start_get h1, h2⟩
    · cases h
  own := fun i p l h => by
    rcases startD_get h with h | h
    · rw [List.getElem?_map] at h
      cases q : ds[i]? with
      | none => rw [q] at h; cases h
      | some d' => rw [q] at h; cases h
    · cases h
  inj := fun i j p p' l l' a h => by
    rcases startD_get h with h | h
    · rw [List.getElem?_map] at h
      cases q : ds[i]? with
      | none => rw [q] at h; cases h
      | some d' => rw [q] at h; cases h
    · cases h
  pin := fun q hq => by rw [hp] at hq; cases hq
theorem En.beginB {P : Par} {N : List Str} {a : Addr} {us xs : List V} {l ds : List D} {H : Hp} (hp : P.pin = [(0, a)]) (ha : H a = some (.lst xs)) (rl : RpL P.K P.B0 xs l) (r : RpL P.K P.B0 us ds) (hN : us.length + 1 ≤ N.length) (e : Ex P.B0 H) (f : Ex P.F H) (dj : Dj P.B0 P.F) (ba : P.B0 a = none) (fa : P.F a = none) :
    En P P.B0 (startD N.length (.own true l :: ds.map .dat)) (L2.start N (.ref a :: us)) H where
  len := by rw [start_len (by simpa using hN), startD_len (by rw [List.length_cons, List.length_map, ← r.len]; exact hN)]
  base := Ex.refl _
  sub := e
  frm := f
  dj := dj
  dat := fun i d h => by
    rcases startD_get h with h | h
    · cases i with
      | zero => cases h
      | succ i =>
        rw [List.getElem?_cons_succ, List.getElem?_map] at h
        cases q : ds[i]? with
        | none => rw [q] at h; cases h
        | some d' =>
          rw [q] at h
          cases h
          obtain ⟨v, h1, h2⟩ := r.getD q
          exact ⟨v, start_get (vs := .ref a :: us) (i := i + 1) (by rw [List.getElem?_cons_succ]; exact h1), h2⟩
    · cases h
  own := fun i p l' h => by
    rcases startD_get h with h | h
    · cases i with
      | zero =>
        cases h
        exact ⟨a, xs, start_get rfl, ha, rl, ba, fa⟩
      | succ i =>
        rw [List.getElem?_cons_succ, List.getElem?_map] at h
        cases q : ds[i]? with
        | none => rw [q] at h; cases h
        | some d' => rw [q] at h; cases h
    · cases h
  inj := fun i j p p' m m' c h h' _ _ => by
    have z : ∀ {i : Nat} {p : Bool} {m : List D}, (startD N.length (.own true l :: ds.map .dat))[i]? = some (.own p m) → i = 0 := fun {i p m} h => by
      rcases startD_get h with h | h
      · cases i with
        | zero => rfl
        | succ i =>
          rw [List.getElem?_cons_succ, List.getElem?_map] at h
          cases q : ds[i]? with
          | none => rw [q] at h; cases h
          | some d' => rw [q] at h; cases h
      · cases h
    exact (z h).trans (z h').symm
  pin := fun q hq => by
    rw [hp] at hq
    rw [List.mem_singleton.mp hq]
    exact ⟨l, by unfold startD; rfl, start_get rfl⟩
/-- a def's body as a family of one -/
def Fam.of (X : Cx) : Fam := ⟨Unit, fun _ => X, X.K, fun _ => rfl⟩
section
variable {P : Program} {w : World} {K : PySem.W.Frag} {mg : Str → Option Value} {base : Heap}
/-- a def that raises nothing -/
theorem okDef {x qual : Str} {st : Stmt} {f : Addr} {fd : FuncData} {N ps : List Str} {k : Nat} {sd : Sd} {T : DS} (F : Fun K x qual st f fd) (S : FnScope N ps (defScope st)) (hps : ps.length ≤ N.length)
    (hl : ∀ ds Q E, sd ds Q E → ds.length = ps.length)
    (hb : ∀ (cdv : Value) (A : Around) (outer : List Env) (s : Shared) (H : Hp) (E : XK), Room k (A.deeper (envOfC qual (defScope st) s.heap.objs.size f cdv)) → PDSs (Fam.of (cxOf CX0 P w K mg base N qual (defScope st) f cdv A outer s H E).nox) E0 (defBody st) T)
    (hr : ∀ ds Q E, sd ds Q E → T no { nx := fun _ => Q .non, rt := fun d _ => Q d } (startD N.length (ds.map .dat))) : FnOk P w K mg base CX0 (k + 1) f fd ps (spD K sd) := by
  refine F.ok S (fun vs H Q E h => ?_) (fun cdv A outer s H vs Q E hroom h => ?_)
  · obtain ⟨ds, F, B, r, _, _, _, h⟩ := h
    rw [r.len]
    exact hl _ _ _ h
  · obtain ⟨ds, F, B, r, e, f', dj, h⟩ := h
    obtain ⟨t, pt, lt⟩ := hb cdv A outer s H E hroom
    refine ⟨t, pt (), ?_⟩
    have hlen : vs.length ≤ N.length := by rw [r.len, hl _ _ _ h]; exact hps
    let Q' : Par := ⟨K, F, [], B, no, E0, fun _ _ _ _ _ _ z => z.elim⟩
    have n : En Q' B (startD N.length (ds.map .dat)) (L2.start N vs) H := En.begin0 (P := Q') rfl r hlen e f' dj
    exact lt Q' rfl rfl B _ _ H _ _ n (hr _ _ _ h) ⟨fun Γ' σ' H' B' x n' q => q .non H' B' x n'.sub n'.frm n'.dj .non, fun d Γ' σ' v H' B' x n' rp q => q v H' B' x n'.sub n'.frm n'.dj rp, fun _ _ _ _ _ _ z => z.elim, fun _ _ _ _ _ _ z => z.elim⟩
/-- .. whose first argument it may write -/
theorem okDefB {x qual : Str} {st : Stmt} {f : Addr} {fd : FuncData} {N ps : List Str} {k : Nat} {sd : SdB} {T : DS} (F : Fun K x qual st f fd) (S : FnScope N ps (defScope st)) (hps : ps.length ≤ N.length)
    (hl : ∀ l ds Q, sd l ds Q → ds.length + 1 = ps.length)
    (hb : ∀ (cdv : Value) (A : Around) (outer : List Env) (s : Shared) (H : Hp) (E : XK), Room k (A.deeper (envOfC qual (defScope st) s.heap.objs.size f cdv)) → PDSs (Fam.of (cxOf CX0 P w K mg base N qual (defScope st) f cdv A outer s H E).nox) E0 (defBody st) T)
    (hr : ∀ l ds Q, sd l ds Q → T no { nx := fun Γ => ∀ l', Γ[0]? = some (.own true l') → Q .non l', rt := fun d Γ => ∀ l', Γ[0]? = some (.own true l') → Q d l' } (startD N.length (.own true l :: ds.map .dat))) : FnOk P w K mg base CX0 (k + 1) f fd ps (spB K sd) := by
  refine F.ok S (fun vs H Q E h => ?_) (fun cdv A outer s H vs Q E hroom h => ?_)
  · obtain ⟨a, us, xs, l, ds, F, B, rfl, _, _, r, _, _, _, _, _, h⟩ := h
    rw [List.length_cons, r.len]
    exact hl _ _ _ h
  · obtain ⟨a, us, xs, l, ds, F, B, rfl, ha, rl, r, e, f', dj, ba, fa, h⟩ := h
    obtain ⟨t, pt, lt⟩ := hb cdv A outer s H E hroom
    refine ⟨t, pt (), ?_⟩
    have hlen : us.length + 1 ≤ N.length := by rw [r.len, hl _ _ _ h]; exact hps
    let Q' : Par := ⟨K, F, [(0, a)], B, no, E0, fun _ _ _ _ _ _ z => z.elim⟩
    have n : En Q' B (startD N.length (.own true l :: ds.map .dat)) (L2.start N (.ref a :: us)) H := En.beginB (P := Q') rfl ha rl r hlen e f' dj ba fa
    have fin : ∀ {Γ' : Gm} {σ' : L2.St} {H' B' : Hp}, En Q' B' Γ' σ' H' → ∃ l' xs', Γ'[0]? = some (.own true l') ∧ H' a = some (.lst xs') ∧ RpL K B' xs' l' ∧ B' a = none := fun {Γ' σ' H' B'} n' => by
      obtain ⟨l', g1, g2⟩ := n'.pin (0, a) (List.mem_singleton.mpr rfl)
      obtain ⟨c, xs', h1, h2, h3, h4, _⟩ := n'.own 0 true l' g1
      rw [g2] at h1
      cases h1
      exact ⟨l', xs', g1, h2, h3, h4⟩
    refine lt Q' rfl rfl B _ _ H _ _ n (hr _ _ _ h) ⟨fun Γ' σ' H' B' x n' q => ?_, fun d Γ' σ' v H' B' x n' rp q => ?_, fun _ _ _ _ _ _ z => z.elim, fun _ _ _ _ _ _ z => z.elim⟩
    · obtain ⟨l', xs', g1, g2, g3, g4⟩ := fin n'
      exact q l' g1 .non xs' H' B' x n'.sub n'.frm n'.dj g4 g2 g3 .non
    · obtain ⟨l', xs', g1, g2, g3, g4⟩ := fin n'
      exact q l' g1 v xs' H' B' x n'.sub n'.frm n'.dj g4 g2 g3 rp
end
/-! ### calls -/
open Classical in
/-- what a call may not see: what this def hides, and its own lists -/
noncomputable def hidF (P : Par) (Γ : Gm) (σ : L2.St) (H : Hp) : Hp := fun b => if ∃ (i : Nat) (p : Bool) (l : List D), Γ[i]? = some (.own p l) ∧ σ[i]? = some (some (.ref b)) then H b else P.F b
section
variable {P : Par} {Bv : Hp} {Γ : Gm} {σ : L2.St} {H : Hp}
theorem hidF_own {i : Nat} {p : Bool} {l : List D} {b : Addr} (h1 : Γ[i]? = some (.own p l)) (h2 : σ[i]? = some (some (.ref b))) : hidF P Γ σ H b = H b := if_pos ⟨i, p, l, h1, h2⟩
theorem hidF_F (n : En P Bv Γ σ H) {b : Addr} {o : HO} (h : P.F b = some o) : hidF P Γ σ H b = some o := by
  unfold hidF
  split
  · exact n.frm b o h
  · exact h
theorem hidF_ex (n : En P Bv Γ σ H) : Ex (hidF P Γ σ H) H := fun b o h => by
  unfold hidF at h
  split at h
  · exact h
  · exact n.frm b o h
theorem hidF_dj (n : En P Bv Γ σ H) : Dj Bv (hidF P Γ σ H) := fun b h => by
  unfold hidF at h
  split at h
  · rename_i z
    obtain ⟨i, p, l, h1, h2⟩ := z
    obtain ⟨a, vs, g1, _, _, g4, _⟩ := n.own i p l h1
    rw [h2] at g1
    cases g1
    exact g4
  · exact n.dj b h
/-- behind a call that wrote nothing of ours -/
theorem En.called {B' H' : Hp} (n : En P Bv Γ σ H) (e : Ex Bv B') (e1 : Ex B' H') (e2 : Ex (hidF P Γ σ H) H') (dj : Dj B' (hidF P Γ σ H)) : En P B' Γ σ H' where
  len := n.len
  base := n.base.trans e
  sub := e1
  frm := fun b o h => e2 b o (hidF_F n h)
  dj := fun b h => by
    cases q : P.F b with
    | none => exact absurd q h
    | some o => exact dj b (by rw [hidF_F n q]; exact fun z => nomatch z)
  dat := fun i d h => let ⟨v, a, b⟩ := n.dat i d h; ⟨v, a, b.mono e⟩
  own := fun i p l h => by
    obtain ⟨a, vs, g1, g2, g3, g4, g5⟩ := n.own i p l h
    have z : hidF P Γ σ H a = some (.lst vs) := by rw [hidF_own h g1]; exact g2
    exact ⟨a, vs, g1, e2 a _ z, g3.mono e, dj a (by rw [z]; exact fun z => nomatch z), g5⟩
  inj := n.inj
  pin := n.pin
end
/-- without one address -/
def but (F : Hp) (a : Addr) : Hp := fun b => if b = a then none else F b
theorem but_same {F : Hp} {a : Addr} : but F a a = none := if_pos rfl
theorem but_ne {F : Hp} {a b : Addr} (h : b ≠ a) : but F a b = F b := if_neg h
section
variable {P : Par} {Bv : Hp} {Γ : Gm} {σ : L2.St} {H : Hp}
/-- behind a call that may have written the list of slot i -/
theorem En.calledB {B' H' : Hp} {i : Nat} {p : Bool} {l l' : List D} {a : Addr} {xs' : List V} (n : En P Bv Γ σ H) (hi : Γ[i]? = some (.own p l)) (ha : σ[i]? = some (some (.ref a))) (e : Ex Bv B') (e1 : Ex B' H') (e2 : Ex (but (hidF P Γ σ H) a) H') (dj : Dj B' (but (hidF P Γ σ H) a))
    (ba : B' a = none) (h' : H' a = some (.lst xs')) (r : RpL P.K B' xs' l') : En P B' (Γ.set i (.own p l')) σ H' := by
  obtain ⟨a0, vs0, g1, g2, g3, g4, g5⟩ := n.own i p l hi
  rw [ha] at g1
  cases g1
  have lt : i < Γ.length := (List.getElem?_eq_some_iff.mp hi).1
  exact {
    len := by rw [List.length_set]; exact n.len
    base := n.base.trans e
    sub := e1
    frm := fun b o h => by
      have : b ≠ a := fun z => by rw [z, g5] at h; cases h
      exact e2 b o (by rw [but_ne this]; exact hidF_F n h)
    dj := fun b h => by
      cases q : P.F b with
      | none => exact absurd q h
      | some o =>
        have : b ≠ a := fun z => by rw [z, g5] at q; cases q
        exact dj b (by rw [but_ne this, hidF_F n q]; exact fun z => nomatch z)
    dat := fun j d h => by
      rcases get_set h with ⟨rfl, q⟩ | ⟨q, h⟩
      · cases q
      · obtain ⟨v, k1, k2⟩ := n.dat j d h
        exact ⟨v, k1, k2.mono e⟩
    own := fun j q m h => by
      rcases get_set h with ⟨rfl, z⟩ | ⟨z, h⟩
      · cases z
        exact ⟨a, xs', ha, h', r, ba, g5⟩
      · obtain ⟨c, vs, k1, k2, k3, k4, k5⟩ := n.own j q m h
        have ne : c ≠ a := fun y => z (n.inj j i q p m l a h hi (by rw [k1, y]) ha)
        have y : but (hidF P Γ σ H) a c = some (.lst vs) := by rw [but_ne ne, hidF_own h k1]; exact k2
        exact ⟨c, vs, k1, e2 c _ y, k3.mono e, dj c (by rw [y]; exact fun z => nomatch z), k5⟩
    inj := fun j k q q' m m' c h1 h2 => by
      have f : ∀ {j : Nat} {q : Bool} {m : List D}, (Γ.set i (.own p l'))[j]? = some (.own q m) → ∃ q m, Γ[j]? = some (.own q m) := fun {j q m} g => by
        rcases get_set g with ⟨rfl, _⟩ | ⟨_, g⟩
        · exact ⟨p, l, hi⟩
        · exact ⟨q, m, g⟩
      obtain ⟨_, _, k1⟩ := f h1
      obtain ⟨_, _, k2⟩ := f h2
      exact n.inj j k _ _ _ _ c k1 k2
    pin := fun q hq => by
      obtain ⟨m, k1, k2⟩ := n.pin q hq
      by_cases y : q.1 = i
      · refine ⟨l', ?_, k2⟩
        rw [y] at k1 ⊢
        rw [hi] at k1
        cases k1
        rw [List.getElem?_set_self lt]
      · exact ⟨m, by rw [List.getElem?_set_ne (Ne.symm y)]; exact k1, k2⟩ }
end
section
variable {F : Fam} {E : XK} {e : Expr} {es : List Expr} {R : DA} {pos p : Pos} {x : Str} {k : Nat} {f : Addr} {fd : FuncData} {ps : List Str} {sd : Sd} {sb : SdB}
/-- a call of a def that raises nothing -/
def dCall (sd : Sd) (R : DA) : DE := fun xd Γ Q => R xd Γ fun ws Γ1 => ∃ ds Γ2, fixL Γ1 ws = some (ds, Γ2) ∧ sd ds (fun r => Q (.dat r) Γ2) no
theorem le_call {P : Par} {t : TA} {sd : Sd} (hm : ∀ ds Q Q' E E', (∀ r, Q r → Q' r) → (∀ C fs, E C fs → E' C fs) → sd ds Q E → sd ds Q' E') (l : LA P t R) : LE P (tCall (spD P.K sd) [] E0 t) (dCall sd R) := fun Bv Γ σ H Qd Q n h k =>
  l Bv Γ σ H _ _ n h fun ws Γ1 vs H1 B1 e1 n1 r1 h1 => by
    obtain ⟨ds, Γ2, f, h1⟩ := h1
    obtain ⟨B2, e2, n2, r2⟩ := n1.fixedL r1 f
    refine ⟨ds, hidF P Γ2 σ H1, B2, by rw [List.append_nil]; exact r2, n2.sub, hidF_ex n2, hidF_dj n2, hm _ _ _ _ _ (fun r q v H' B' x1 x2 x3 x4 rp => ?_) (fun C fs z => z.elim) h1⟩
    exact finD k ((e1.trans e2).trans x1) (n2.called x1 x2 x3 x4) rp q
theorem pd_call (hF : ∀ j, FnOk (F.X j).prog (F.X j).w (F.X j).K (F.X j).mg (F.X j).base CX0 k f fd ps (spD (F.X j).K sd)) (hm : ∀ ds Q Q' E E', (∀ r, Q r → Q' r) → (∀ C fs, E C fs → E' C fs) → sd ds Q E → sd ds Q' E') (hr : ∀ j, Room k (F.X j).A) (hmg : ∀ j, (F.X j).mg x = some (.ref f)) (hk : ∀ j, PySem.W.keepIn (F.X j).K (.ref f) = true) (hb : ∀ j, Binds (F.X j).K fd ps [])
    (ha : PDA F E (e :: es) R) (hg : ∀ j, Gl (F.X j) x := by intro _; rfl) (hdb : (x == ("__debug__" : Str)) = false := by decide) (he : ∀ j, starEach (e :: es) (F.X j).env = (false, eval e (F.X j).env) :: starEach es (F.X j).env := by intro _; rfl) (hpl : ∀ j, (backTo pos (starEach es (F.X j).env)).any (·.1) = false := by intro _; rfl) :
    PD F E (.Call (.Name x p) (e :: es) [] pos) (dCall sd R) :=
  let ⟨t, pa, la⟩ := ha
  ⟨tCall (spD F.K sd) [] E0 t, fun j => F.k j ▸ pe_call (hF j) (hr j) (hg j) (hmg j) (hk j) (hb j) .nil pass0 (pa j) hdb (he j) (hpl j), fun P hK hE => hK ▸ le_call hm (la P hK hE)⟩
/-- .. that may write the list of slot i, its first argument -/
def dCallB (i : Nat) (sb : SdB) (R : DA) : DE := fun xd Γ Q => R xd Γ fun ws Γ1 => ∃ us ds Γ2 p l, ws = .slot i :: us ∧ fixL Γ1 us = some (ds, Γ2) ∧ Γ2[i]? = some (.own p l) ∧ sb l ds (fun r l' => Q (.dat r) (Γ2.set i (.own p l')))
theorem le_callB {P : Par} {t : TA} {i : Nat} (hm : ∀ l ds Q Q', (∀ r l', Q r l' → Q' r l') → sb l ds Q → sb l ds Q') (l : LA P t R) : LE P (tCall (spB P.K sb) [] E0 t) (dCallB i sb R) := fun Bv Γ σ H Qd Q n h k =>
  l Bv Γ σ H _ _ n h fun ws Γ1 vs H1 B1 e1 n1 r1 h1 => by
    obtain ⟨us, ds, Γ2, p, l, rfl, f, hi, h1⟩ := h1
    match vs, r1 with
    | v :: vs, r1 =>
      obtain ⟨B2, e2, n2, r2⟩ := n1.fixedL r1.2 f
      obtain ⟨a, xs, g1, g2, g3, g4, g5⟩ := n2.own i p l hi
      have hv : σ[i]? = some (some v) := r1.1
      rw [g1] at hv
      cases hv
      have ex : Ex (but (hidF P Γ2 σ H1) a) H1 := fun b o z => by
        by_cases q : b = a
        · rw [q, but_same] at z; cases z
        · rw [but_ne q] at z; exact hidF_ex n2 b o z
      have dj : Dj B2 (but (hidF P Γ2 σ H1) a) := fun b z => by
        by_cases q : b = a
        · rw [q]; exact g4
        · rw [but_ne q] at z; exact hidF_dj n2 b z
      refine ⟨a, vs, xs, l, ds, but (hidF P Γ2 σ H1) a, B2, by rw [List.append_nil], g2, g3, r2, n2.sub, ex, dj, g4, but_same, hm _ _ _ _ (fun r l' q v xs' H' B' x1 x2 x3 x4 x5 x6 x7 rp => ?_) h1⟩
      exact finD k ((e1.trans e2).trans x1) (n2.calledB hi g1 x1 x2 x3 x4 x5 x6 x7) rp q
theorem pd_callB1 (i : Nat) (hF : ∀ j, FnOk (F.X j).prog (F.X j).w (F.X j).K (F.X j).mg (F.X j).base CX0 k f fd ps (spB (F.X j).K sb)) (hm : ∀ l ds Q Q', (∀ r l', Q r l' → Q' r l') → sb l ds Q → sb l ds Q') (hr : ∀ j, Room k (F.X j).A) (hmg : ∀ j, (F.X j).mg x = some (.ref f)) (hk : ∀ j, PySem.W.keepIn (F.X j).K (.ref f) = true) (hb : ∀ j, Binds (F.X j).K fd ps [])
    (ha : PDA F E (e :: es) R) (hg : ∀ j, Gl (F.X j) x := by intro _; rfl) (hdb : (x == ("__debug__" : Str)) = false := by decide) (he : ∀ j, starEach (e :: es) (F.X j).env = (false, eval e (F.X j).env) :: starEach es (F.X j).env := by intro _; rfl) (hpl : ∀ j, (backTo pos (starEach es (F.X j).env)).any (·.1) = false := by intro _; rfl) :
    PD F E (.Call (.Name x p) (e :: es) [] pos) (dCallB i sb R) :=
  let ⟨t, pa, la⟩ := ha
  ⟨tCall (spB F.K sb) [] E0 t, fun j => F.k j ▸ pe_call (hF j) (hr j) (hg j) (hmg j) (hk j) (hb j) .nil pass0 (pa j) hdb (he j) (hpl j), fun P hK hE => hK ▸ le_callB hm (la P hK hE)⟩
end
end DL

set_option Elab.async false
set_option linter.all false
set_option maxRecDepth 100000
set_option maxHeartbeats 4000000
namespace DL
open PySem PySem.Spec PyProof.Rows L2
open Evl (Ex)

/-! ### promises by what is asked and what is told -/
def sdR (pre : List D → Prop) (post : List D → D → Prop) : Sd := fun ds Q _ => pre ds ∧ ∀ r, post ds r → Q r
def sdBR (pre : List D → List D → Prop) (post : List D → List D → D → List D → Prop) : SdB := fun l ds Q => pre l ds ∧ ∀ r l', post l ds r l' → Q r l'
/-- a def of the text that keeps its promise -/
structure Dn (P : Program) (w : World) (K : PySem.W.Frag) (mg : Str → Option Value) (base : Heap) (x : Str) (k : Nat) (ps : List Str) (sp : Sp) : Prop where
  ex : ∃ (f : Addr) (fd : FuncData), FnOk P w K mg base CX0 k f fd ps sp ∧ mg x = some (.ref f) ∧ PySem.W.keepIn K (.ref f) = true ∧ Binds K fd ps []
section
variable {F : Fam} {E : XK} {e : Expr} {es : List Expr} {R : DA} {pos p : Pos} {x : Str} {k : Nat} {ps : List Str}
theorem pd_callN {pre : List D → Prop} {post : List D → D → Prop} (hD : ∀ j, Dn (F.X j).prog (F.X j).w (F.X j).K (F.X j).mg (F.X j).base x k ps (spD (F.X j).K (sdR pre post))) (hr : ∀ j, Room k (F.X j).A)
    (ha : PDA F E (e :: es) R) (hg : ∀ j, Gl (F.X j) x := by intro _; rfl) (hdb : (x == ("__debug__" : Str)) = false := by decide) (he : ∀ j, starEach (e :: es) (F.X j).env = (false, eval e (F.X j).env) :: starEach es (F.X j).env := by intro _; rfl) (hpl : ∀ j, (backTo pos (starEach es (F.X j).env)).any (·.1) = false := by intro _; rfl) :
    PD F E (.Call (.Name x p) (e :: es) [] pos) (dCall (sdR pre post) R) :=
  let ⟨t, pa, la⟩ := ha
  ⟨tCall (spD F.K (sdR pre post)) [] E0 t, fun j => by
    obtain ⟨f, fd, G, hmg, hk, hb⟩ := (hD j).ex
    exact F.k j ▸ pe_call G (hr j) (hg j) hmg hk hb .nil pass0 (pa j) hdb (he j) (hpl j), fun P hK hE => hK ▸ le_call (fun ds Q Q' E E' h1 _ z => ⟨z.1, fun r q => h1 r (z.2 r q)⟩) (la P hK hE)⟩
theorem pd_callBN (i : Nat) {pre : List D → List D → Prop} {post : List D → List D → D → List D → Prop} (hD : ∀ j, Dn (F.X j).prog (F.X j).w (F.X j).K (F.X j).mg (F.X j).base x k ps (spB (F.X j).K (sdBR pre post))) (hr : ∀ j, Room k (F.X j).A)
    (ha : PDA F E (e :: es) R) (hg : ∀ j, Gl (F.X j) x := by intro _; rfl) (hdb : (x == ("__debug__" : Str)) = false := by decide) (he : ∀ j, starEach (e :: es) (F.X j).env = (false, eval e (F.X j).env) :: starEach es (F.X j).env := by intro _; rfl) (hpl : ∀ j, (backTo pos (starEach es (F.X j).env)).any (·.1) = false := by intro _; rfl) :
    PD F E (.Call (.Name x p) (e :: es) [] pos) (dCallB i (sdBR pre post) R) :=
  let ⟨t, pa, la⟩ := ha
  ⟨tCall (spB F.K (sdBR pre post)) [] E0 t, fun j => by
    obtain ⟨f, fd, G, hmg, hk, hb⟩ := (hD j).ex
    exact F.k j ▸ pe_call G (hr j) (hg j) hmg hk hb .nil pass0 (pa j) hdb (he j) (hpl j), fun P hK hE => hK ▸ le_callB (fun l ds Q Q' h1 z => ⟨z.1, fun r l' q => h1 r l' (z.2 r l' q)⟩) (la P hK hE)⟩
end
theorem hu64 {k : Nat} {A : Around} (hr : Room k A) : A.units + 64 < cLine := by have := hr.un; omega
theorem hu65 {k : Nat} {A : Around} (hr : Room k A) : A.units + 65 < cLine := by have := hr.un; omega
/-- what a def of the text is known by -/
structure Df (K : PySem.W.Frag) (mg : Str → Option Value) (x : Str) (st : Stmt) (ps : List Str) : Prop where
  ex : ∃ (f : Addr) (fd : FuncData), Fun K x x st f fd ∧ mg x = some (.ref f) ∧ Binds K fd ps []
theorem Df.dn {P : Program} {w : World} {K : PySem.W.Frag} {mg : Str → Option Value} {base : Heap} {x : Str} {k : Nat} {ps : List Str} {st : Stmt} {sp : Sp} (d : Df K mg x st ps) (h : ∀ (f : Addr) (fd : FuncData), Fun K x x st f fd → FnOk P w K mg base CX0 k f fd ps sp) : Dn P w K mg base x k ps sp := by
  obtain ⟨f, fd, hF, hm, hb⟩ := d.ex
  exact ⟨f, fd, h f fd hF, hm, hF.kp, hb⟩
end DL
namespace DL
open PySem PySem.Spec PyProof.Rows L2
/-! ### readings of loops -/
theorem dLoop_by {G : DG} {T : DS} {xd : Xd} {D : DEnds} (I : List DL.D → Gm → Prop) (h0 : ∀ Γ, I [] Γ → D.nx Γ)
    (hs : ∀ x r Γ, I (x :: r) Γ → ∃ Γ', G x Γ = some Γ' ∧ ∀ L : Gm → Prop, (∀ Γ, I r Γ → L Γ) → T xd { nx := L, ct := L, bk := D.nx, rt := D.rt } Γ') : ∀ xs Γ, I xs Γ → dLoop G T xd D xs Γ
  | [], Γ, h => h0 Γ h
  | x :: r, Γ, h => by
    obtain ⟨Γ', h1, h2⟩ := hs x r Γ h
    exact ⟨Γ', h1, h2 _ fun Γ q => dLoop_by I h0 hs r Γ q⟩
theorem dLcR_by {G : DG} {tt : DT} {A : DE} {vs : List Nat} {K : List D → Gm → Prop} (I : List D → List D → Gm → Prop) (h0 : ∀ acc Γ, I [] acc Γ → K acc Γ)
    (hs : ∀ x r acc Γ, I (x :: r) acc Γ → ∃ Γ1, G x Γ = some Γ1 ∧ ∀ L : List D → Gm → Prop, (∀ acc Γ, I r acc Γ → L acc Γ) → tt no Γ1 fun q Γ2 => if q = true then A no Γ2 fun w Γ3 => ∃ d Γ4, fix Γ3 w = some (d, Γ4) ∧ okW Γ4 vs = true ∧ L (acc ++ [d]) (wipeG Γ4 vs) else okW Γ2 vs = true ∧ L acc (wipeG Γ2 vs)) :
    ∀ xs acc Γ, I xs acc Γ → dLcR G tt A vs K xs acc Γ
  | [], acc, Γ, h => h0 acc Γ h
  | x :: r, acc, Γ, h => by
    obtain ⟨Γ1, h1, h2⟩ := hs x r acc Γ h
    exact ⟨Γ1, h1, h2 _ fun acc Γ q => dLcR_by I h0 hs r acc Γ q⟩
theorem dWh_by {t : DT} {T : DS} {xd : Xd} {D : DEnds} (I : Nat → Gm → Prop)
    (hs : ∀ m Γ, I m Γ → ∀ L : Gm → Prop, (∀ m' Γ', m' < m → I m' Γ' → L Γ') → t xd Γ fun q Γ1 => if q = true then T xd { nx := L, ct := L, bk := D.nx, rt := D.rt } Γ1 else D.nx Γ1) : ∀ m Γ, I m Γ → dWhile t T xd D Γ := by
  have key : ∀ n m Γ, m < n → I m Γ → dWh t T xd D n Γ := by
    intro n
    induction n with
    | zero => intro m Γ h; omega
    | succ n ih => exact fun m Γ h q => hs m Γ q _ fun m' Γ' h' q' => ih m' Γ' (by omega) q'
  exact fun m Γ h => ⟨m + 1, key (m + 1) m Γ (Nat.lt_succ_self _) h⟩
end DL
namespace DL
open PySem PySem.Spec PyProof.Rows L2
section
variable {F : Fam} {E : XK} {a b c : Expr} {A B C : DE} {pos : Pos}
theorem pdt_cmp2 {op : CmpOp} {r : R2} {rd : D2} (ho : ∀ j, OpR (F.X j) (compareOp op) r) (hl : ∀ P : Par, P.K = F.K → RL P r rd) (ha : PD F E a A) (hb : PD F E b B) (h1 : behindInMarks op b = false := by first | exact nomark _ | rfl) : PDT F E (.Compare a [op] [b] pos) (dB (dOp rd A B)) := by
  obtain ⟨_, pa, la⟩ := ha
  obtain ⟨_, pb, lb⟩ := hb
  exact ⟨_, fun j => pt_cmpR (ho j) (pa j) (pb j) h1, fun P hK hE => lt_B (le_op (hl P hK) (la P hK hE) (lb P hK hE))⟩
theorem pdt_lt (ha : PD F E a A) (hb : PD F E b B) : PDT F E (.Compare a [.Lt] [b] pos) (dB (dOp (rdI0 gLt) A B)) := pdt_cmp2 (fun _ => op_lt) (fun _ _ => rl_I0 fun _ _ _ => .bl _) ha hb
theorem pdt_le (ha : PD F E a A) (hb : PD F E b B) : PDT F E (.Compare a [.LtE] [b] pos) (dB (dOp (rdI0 gLe) A B)) := pdt_cmp2 (fun _ => op_le) (fun _ _ => rl_I0 fun _ _ _ => .bl _) ha hb
theorem pdt_gt (ha : PD F E a A) (hb : PD F E b B) : PDT F E (.Compare a [.Gt] [b] pos) (dB (dOp (rdI0 gGt) A B)) := pdt_cmp2 (fun _ => op_gt) (fun _ _ => rl_I0 fun _ _ _ => .bl _) ha hb
theorem pdt_ge (ha : PD F E a A) (hb : PD F E b B) : PDT F E (.Compare a [.GtE] [b] pos) (dB (dOp (rdI0 gGe) A B)) := pdt_cmp2 (fun _ => op_ge) (fun _ _ => rl_I0 fun _ _ _ => .bl _) ha hb
theorem pdt_eq (hu : ∀ j, (F.X j).A.units + 64 < cLine) (ha : PD F E a A) (hb : PD F E b B) : PDT F E (.Compare a [.Eq] [b] pos) (dB (dOp (rdEq false) A B)) := pdt_cmp2 (fun j => F.k j ▸ op_eqD (hu j)) (fun P hK => by rw [← hK]; exact rl_eq) ha hb
theorem pdt_ne (hu : ∀ j, (F.X j).A.units + 64 < cLine) (ha : PD F E a A) (hb : PD F E b B) : PDT F E (.Compare a [.NotEq] [b] pos) (dB (dOp (rdEq true) A B)) := pdt_cmp2 (fun j => F.k j ▸ op_neD (hu j)) (fun P hK => by rw [← hK]; exact rl_ne) ha hb
theorem pdt_in (hu : ∀ j, (F.X j).A.units + 65 < cLine) (ha : PD F E a A) (hb : PD F E b B) (h1 : behindInMarks .In b = false := by rfl) : PDT F E (.Compare a [.In] [b] pos) (dB (dOp (rdIn false) A B)) := pdt_cmp2 (fun j => F.k j ▸ op_inD (hu j)) (fun P hK => by rw [← hK]; exact rl_in) ha hb h1
theorem pdt_notIn (hu : ∀ j, (F.X j).A.units + 65 < cLine) (ha : PD F E a A) (hb : PD F E b B) (h1 : behindInMarks .NotIn b = false := by rfl) : PDT F E (.Compare a [.NotIn] [b] pos) (dB (dOp (rdIn true) A B)) := pdt_cmp2 (fun j => F.k j ▸ op_notInD (hu j)) (fun P hK => by rw [← hK]; exact rl_notIn) ha hb h1
theorem pdt_isN {j pos'} (ha : PD F E a A) : PDT F E (.Compare a [.Is] [.Constant .none j pos'] pos) (dB (dIsN false A)) := by
  obtain ⟨_, p, l⟩ := ha
  refine ⟨_, fun j => pt_cmp (pc_isN (p j)), fun P hK hE => lt_B fun Bv Γ σ H Qd Q n h k => l P hK hE Bv Γ σ H _ _ n h fun w Γ1 v H1 B1 e1 n1 r1 h1 => ?_⟩
  obtain ⟨d, hd, h1⟩ := h1
  rw [(n1.full r1 hd).isN]
  refine finD k (d := .bl _) e1 n1 (.bl _) ?_
  cases d <;> exact h1
theorem pdt_notN {j pos'} (ha : PD F E a A) : PDT F E (.Compare a [.IsNot] [.Constant .none j pos'] pos) (dB (dIsN true A)) := by
  obtain ⟨_, p, l⟩ := ha
  refine ⟨_, fun j => pt_cmp (pc_notN (p j)), fun P hK hE => lt_B fun Bv Γ σ H Qd Q n h k => l P hK hE Bv Γ σ H _ _ n h fun w Γ1 v H1 B1 e1 n1 r1 h1 => ?_⟩
  obtain ⟨d, hd, h1⟩ := h1
  rw [(n1.full r1 hd).isN]
  refine finD k (d := .bl _) e1 n1 (.bl _) ?_
  cases d <;> exact h1
end
end DL
namespace DL
open PySem PySem.Spec PyProof.Rows L2
theorem seq_go {T U : DS} {xd : Xd} {D : DEnds} {Γ : Gm} : dSeq T U xd D Γ = T xd { D with nx := U xd D } Γ := rfl
theorem seq_cut {T U : DS} {xd : Xd} {D : DEnds} {Γ : Gm} (M : Gm → Prop) (h2 : ∀ Γ, M Γ → U xd D Γ) (h1 : ∀ L : Gm → Prop, (∀ Γ, M Γ → L Γ) → T xd { D with nx := L } Γ) : dSeq T U xd D Γ := h1 _ h2
theorem itemsOf_lst (l : List D) : itemsOf (.lst l) = some l := rfl
theorem itemsOf_tup (l : List D) : itemsOf (.tup l) = some l := rfl
theorem atI_c0 {α : Type} (a : α) (l : List α) : atI (a :: l) 0 = some a := atI_nat (j := 0) rfl
theorem atI_c1 {α : Type} (a b : α) (l : List α) : atI (a :: b :: l) 1 = some b := atI_nat (j := 1) rfl
theorem atI_c2 {α : Type} (a b c : α) (l : List α) : atI (a :: b :: c :: l) 2 = some c := atI_nat (j := 2) rfl
theorem atI_c3 {α : Type} (a b c d : α) (l : List α) : atI (a :: b :: c :: d :: l) 3 = some d := atI_nat (j := 3) rfl
theorem atI_c4 {α : Type} (a b c d e : α) (l : List α) : atI (a :: b :: c :: d :: e :: l) 4 = some e := atI_nat (j := 4) rfl
theorem ixN_21 : ixN 2 1 = some 1 := rfl
theorem ixN_20 : ixN 2 0 = some 0 := rfl
theorem atI_at {l : List D} {k : Nat} {d : D} (h : l[k]? = some d) : atI l (k : Int) = some d := atI_nat h
theorem atI_int (ns : List Int) {k : Nat} (h : k < ns.length) : atI (ns.map D.int) (k : Int) = some (.int ns[k]) := atI_nat (by rw [List.getElem?_map, List.getElem?_eq_getElem h]; rfl)
theorem mem_rangeD {lo : Int} {n : Nat} {d : D} (h : d ∈ rangeD lo n) : ∃ i : Nat, i < n ∧ d = .int (lo + i) := by
  unfold rangeD at h
  obtain ⟨i, hi, rfl⟩ := List.mem_map.mp h
  exact ⟨i, List.mem_range.mp hi, rfl⟩
theorem soft_dat (d : D) : soft (.dat d) = true := rfl
theorem soft_non : soft .non = true := rfl
theorem soft_own (b : Bool) (l : List D) : soft (.own b l) = false := rfl
theorem map_snoc (ns : List Int) (i : Int) : ns.map D.int ++ [.int i] = (ns ++ [i]).map D.int := by rw [List.map_append]; rfl
end DL
namespace DL
open PySem PySem.Spec PyProof.Rows L2
/-! ### ints, rows of ints, as data -/
abbrev tI (ns : List Int) : D := .tup (ns.map D.int)
abbrev lI (ns : List Int) : D := .lst (ns.map D.int)
theorem plain_ints : ∀ ns : List Int, plainL (ns.map D.int) = true
  | [] => rfl
  | n :: ns => by simp only [List.map_cons, plainL, plain, plain_ints ns, Bool.and_self]
theorem dep_ints : ∀ ns : List Int, depL (ns.map D.int) = 0
  | [] => rfl
  | n :: ns => by simp only [List.map_cons, depL, dep, dep_ints ns, Nat.max_self]
theorem okD_tI (ns : List Int) : okD (tI ns) = true := by
  unfold okD
  simp only [plain, plain_ints, dep, dep_ints, Bool.true_and, decide_eq_true_eq]
  omega
theorem okD_lI (ns : List Int) : okD (lI ns) = true := by
  unfold okD
  simp only [plain, plain_ints, dep, dep_ints, Bool.true_and, decide_eq_true_eq]
  omega
theorem plainL_map {α : Type} (f : α → D) (h : ∀ a, plain (f a) = true) : ∀ l : List α, plainL (l.map f) = true
  | [] => rfl
  | a :: l => by simp only [List.map_cons, plainL, h a, plainL_map f h l, Bool.and_self]
theorem depL_map {α : Type} (f : α → D) (m : Nat) (h : ∀ a, dep (f a) ≤ m) : ∀ l : List α, depL (l.map f) ≤ m
  | [] => Nat.zero_le _
  | a :: l => by
    simp only [List.map_cons, depL]
    have h1 := h a
    have h2 := depL_map f m h l
    omega
theorem plain_tI (ns : List Int) : plain (tI ns) = true := by simp only [plain, plain_ints]
theorem dep_tI (ns : List Int) : dep (tI ns) ≤ 1 := by simp only [dep, dep_ints]; omega
abbrev ltI (os : List (List Int)) : D := .lst (os.map tI)
abbrev ttI (os : List (List Int)) : D := .tup (os.map tI)
theorem okD_ltI (os : List (List Int)) : okD (ltI os) = true := by
  have h := depL_map tI 1 dep_tI os
  have h1 : plain (ltI os) = true := by show plain (.lst _) = true; simp only [plain]; exact plainL_map tI plain_tI os
  have h2 : dep (ltI os) = depL (os.map tI) + 1 := by show dep (.lst _) = _; simp only [dep]
  unfold okD
  rw [h1, Bool.true_and, decide_eq_true_eq]
  omega
theorem okD_ttI (os : List (List Int)) : okD (ttI os) = true := by
  have h := depL_map tI 1 dep_tI os
  have h1 : plain (ttI os) = true := by show plain (.tup _) = true; simp only [plain]; exact plainL_map tI plain_tI os
  have h2 : dep (ttI os) = depL (os.map tI) + 1 := by show dep (.tup _) = _; simp only [dep]
  unfold okD
  rw [h1, Bool.true_and, decide_eq_true_eq]
  omega
theorem int_inj : ∀ {a b : List Int}, a.map D.int = b.map D.int → a = b
  | [], [], _ => rfl
  | [], _ :: _, h => by cases h
  | _ :: _, [], h => by cases h
  | x :: a, y :: b, h => by
    rw [List.map_cons, List.map_cons] at h
    injection h with h1 h2
    injection h1 with h1
    rw [h1, int_inj h2]
theorem tI_inj {a b : List Int} (h : tI a = tI b) : a = b := by
  injection h with h
  exact int_inj h
theorem tI_mem {o : List Int} {os : List (List Int)} : tI o ∈ os.map tI ↔ o ∈ os := by
  constructor
  · intro h
    obtain ⟨x, hx, e⟩ := List.mem_map.mp h
    rw [← tI_inj e]
    exact hx
  · exact fun h => List.mem_map_of_mem h
theorem ttI_inj : ∀ {a b : List (List Int)}, a.map tI = b.map tI → a = b
  | [], [], _ => rfl
  | [], _ :: _, h => by cases h
  | _ :: _, [], h => by cases h
  | x :: a, y :: b, h => by
    rw [List.map_cons, List.map_cons] at h
    injection h with h1 h2
    rw [tI_inj h1, ttI_inj h2]
theorem map_snoc' {α : Type} (f : α → D) (l : List α) (a : α) : l.map f ++ [f a] = (l ++ [a]).map f := by rw [List.map_append]; rfl
theorem atI_map {α : Type} (f : α → D) (l : List α) {k : Nat} (h : k < l.length) : atI (l.map f) (k : Int) = some (f l[k]) := atI_nat (by rw [List.getElem?_map, List.getElem?_eq_getElem h]; rfl)
end DL

set_option Elab.async false
set_option linter.all false
set_option maxRecDepth 100000
set_option maxHeartbeats 4000000
/-! An own exception over ValueError whose __init__ says super().__init__(a text) and self.f = its argument. -/
namespace PySem
namespace SupX
open PySem.W PySem.Calls PyProof.Rows PySem.HandSPX
def iA (b : Str) (p1 p2 : Pos) : Arguments := { posonlyargs := [], args := [{ arg := "self", annotation := none, pos := p1 }, { arg := b, annotation := none, pos := p2 }], vararg := none, kwonlyargs := [], kw_defaults := [], kwarg := none, defaults := [] }
def iB (b : Str) (e : Expr) (p0 p1 p2 p3 p4 p5 p6 p7 p8 : Pos) : List Stmt := [.Expr (.Call (.Attribute (.Call (.Name "super" p0) [] [] p1) "__init__" p2) [e] [] p3) p4, .Assign [.Attribute (.Name "self" p5) b p6] (.Name b p7) p8]
def iS (b : Str) : Scope := { kind := .function, names := [(PySem.Str.ofString "self", .local), (b, .local), (PySem.Str.ofString "__class__", .free), (PySem.Str.ofString "super", .globalImplicit)], isGenerator := false, isCoroutine := false, more := [] }
/-- what the written part says of the class x, at C, and of its __init__, at fI -/
structure XTxt (P : Program) (K : Frag) (mg : Str → Option Value) (x q : Str) (b : Str) (e : Expr) (C fI cc cda : Addr) : Prop where
  gC : mg x = some (.ref C)
  noSuper : mg "super" = none
  cls : ∃ nm q N bs bm sn sub ab col dd k0 k1 k2 k3 k5, K.lookup C = some (excClassObj nm q C N bs bm true sn sub ab col dd k0 k1 k2 k3 k5 "ValueError.__new__") ∧ refsVE bm = true
  sa : findIn K (.ref C) "__setattr__" = some (some (.builtin "object.__setattr__"))
  noN : findIn K (.ref C) b = some none
  iC : findIn K (.ref C) "__init__" = some (some (.ref fI))
  tC : typeIn K (.ref fI) = some (.type "function")
  kC : keepIn K (.ref C) = true
  exC : subIn K (.ref C) (.type "BaseException") = some true
  veC : subIn K (.ref C) (.type "ValueError") = some true
  tyC : typeIn K (.ref C) = some (.type "type")
  hdC : hasDictIn K C = true
  sup : ks_superIn K C C "__init__" = some (some (.builtin "ValueError.__init__"))
  sub : mroIn K C (.ref C) = some true
  opq : nsIn K cStatics "thirdparty.any" = some none
  cell : ∃ cl cld csl, K.lookup cc = some ⟨cl, cld, .cell (some (.ref C)), csl⟩
  code : ∃ ccl cdd vs ccs file tf, K.lookup cda = some ⟨ccl, cdd, .fields vs, ccs⟩ ∧ vs[2]? = some (.str file tf) ∧ ((P.main.file : Str) == file) = true
  top : (P.main.scope.names.lookup ("super" : Str)).isSome = false
  fn : ∃ (oc : Value) (od : Option Addr) (doc pm : Value) (an : Option Addr) (ct : Value) (osl : Array (Option Value)) (p1 p2 q0 q1 q2 q3 q4 q5 q6 q7 q8 : Pos),
    K.lookup fI = some ⟨oc, od, .func (ksFn "__init__" q (iA b p1 p2) (iB b e q0 q1 q2 q3 q4 q5 q6 q7 q8) (iS b) .none .none doc pm an (.ref cda) ct cc), osl⟩ ∧ codeIn K (.ref cda) q = true ∧ (q2.endLine == q3.line) = true
/-- the argument's form -/
structure Fm (e : Expr) : Prop where
  call : ∀ (q0 q1 q2 q3 : Pos) (env : Env), (q2.endLine == q3.line) = true → ∃ pl : Sem Bool, eval (.Call (.Attribute (.Call (.Name "super" q0) [] [] q1) "__init__" q2) [e] [] q3) env = (do
      let ov ← attributeBase (.Call (.Name "super" q0) [] [] q1) "__init__" env (eval (.Call (.Name "super" q0) [] [] q1) env)
      standAt q2.atName
      let (f, first) ← holding [ov] (getMethod ov "__init__" pl)
      callWith q3 f first (backTo q3 (starEach [e] env)) [])
  star : ∀ env : Env, starEach [e] env = [(false, eval e env)]
/-- the text that is told is made without a trace -/
def Told (P : Program) (w : World) (b : Str) (e : Expr) (v : Value) : Prop := ∀ (A : Around) (E : Value → Shared → Prop) (s : Shared) (env : Env) (m : Str → Option Value) (Q : Value → Shared → Prop), s.heap.Ns env.locals m → m b = some v → env.scope.kind = .function → env.kindOf b = some .local →
  (∀ u tk, Q u { s with toks := tk }) → wpAny (model P w) A (eval e env) Q E s
section
variable {prog : Program} {w : World} {A : Around} {E : Value → Shared → Prop} {R : Result → Shared → Prop} {s : Shared} {K : Frag} {mg mb : Str → Option Value} {C fI cc cda : Addr} {x q b : Str} {e : Expr}
/-- ValueError.__init__ bound to e, called -/
theorem call_mw {nm q : Str} {C N : Addr} {bs bm : List Value} {hdct : Bool} {sn : List Str} {sub : List Value} {ab : Bool} {col : Option Bool} {dd : Option Addr} {k0 k1 k2 k3 k5 : Option Value} {h : Heap} {g : Array GenState} {d : Drawn} {t : Nat} {os : OsState}
    {u e t0 : Addr} {rest : List Value} {Q : Value → Shared → Prop}
    (hC : h.get? C = some (excClassObj nm q C N bs bm hdct sn sub ab col dd k0 k1 k2 k3 k5 "ValueError.__new__")) (he : h.get? e = some (excO C t0)) (hu : h.get? u = some (kxs_mw "ValueError.__init__" e)) (hrest : rest.length ≤ sizeLine)
    (hq : ∀ h' t1, (∀ b o, b ≠ e → h.get? b = some o → h'.get? b = some o) → h'.get? e = some (excO C t1) → Q .none ⟨h', g, d, t, os⟩) :
    wpAny (model prog w) A (call (.ref u) rest) Q E ⟨h, g, d, t, os⟩ := by
  refine wpAny_call (codeAny_of_tree ?_)
  show wpAny _ A.in1 (callAny (.ref u) ⟨rest, []⟩) _ _ _
  simp only [callAny]
  refine wpAny_bind (wpAny_load hu ?_)
  simp only [kxs_mw, show (Value.type "method-wrapper" == Value.type "method" || Value.type "method-wrapper" == Value.type "builtin_function_or_method" || Value.type "method-wrapper" == Value.type "method-wrapper") = true by decide, if_true]
  refine KFB.if_so (by decide) ?_
  refine wpAny_bind (check_bound_init F.excBase_ValueError.toExcCallFacts hC he rfl ?_)
  refine wpAny_bind (wpAny_pure (wpAny_pure ?_))
  refine ⟨plainId_quiet F.excBase_ValueError.init.plain _, codeAny_builtin F.excBase_ValueError.initEntry ?_⟩
  rw [Around.under_plainId F.excBase_ValueError.init.plain _]
  wp_walk
  refine hq _ h.objs.size (fun b o hb ho => ?_) ?_
  · rw [Heap.get?_update_other _ _ (Ne.symm hb)]
    exact Heap.get?_push_of_some _ ho
  · rw [Heap.get?_update_self _ (Heap.get?_push_of_some _ he) rfl]
    rfl
/-- what __init__ leaves of a fresh exception at x -/
structure InitEnd (h h' : Heap) (x C dx t1 : Addr) (b : Str) (v : Value) : Prop where
  keep : ∀ a o, a ≠ x → h.get? a = some o → h'.get? a = some o
  obj : h'.get? x = some { cls := .ref C, dict := some dx, data := .fields #[.ref t1, .none, .none, .none, .bool false, .none] }
  dbig : h.objs.size ≤ dx
  dne : dx ≠ x
  ns : h'.Ns1 dx (fun y => if y = b then some v else none)
structure OwnMade (h h' : Heap) (e C d : Addr) (b : Str) (v : Value) : Prop where
  keep : ∀ b o, h.get? b = some o → h'.get? b = some o
  new : h.objs.size ≤ e
  obj : ∃ oe vs, h'.get? e = some oe ∧ oe.cls = .ref C ∧ oe.dict = some d ∧ oe.data = .fields vs ∧ vs[1]? = some .none
  dbig : h.objs.size ≤ d
  dne : d ≠ e
  ns : h'.Ns1 d (fun y => if y = b then some v else none)
theorem ldC {M : Model} {s : Shared} {name : Str} {scope : Scope} {L a : Addr} {cd : Value} {cl : List (Str × Addr)} {m : Str → Option Value} {x : Str} {pos : Pos} {v : Value} {Q : Value → Shared → Prop} {A : Around} {E : Value → Shared → Prop} (hn : s.heap.Ns L m) (hv : m x = some v) (h : Q v s)
    (hk : scope.kind = .function) (hl : (envX name scope L a cd cl).kindOf x = some .local) (hd : (x == ("__debug__" : Str)) = false) : wpAny M A (eval (.Name x pos) (envX name scope L a cd cl)) Q E s := wpAny_Name (wpAny_loadName_local hk hl hn hv h) hd
/-- the names of the scope -/
structure Nm (b : Str) : Prop where
  nself : (b == ("self" : Str)) = false
  nclass : (("__class__" : Str) == b) = false
  nsuper : (("super" : Str) == b) = false
  ndebug : (b == ("__debug__" : Str)) = false
  bl : (iS b).names.lookup b = some .local
  sl : (iS b).names.lookup ("self" : Str) = some .local
  cl : (iS b).names.lookup ("__class__" : Str) = some .free
  su : (iS b).names.lookup ("super" : Str) = some .globalImplicit
  bind : ∀ (q : Str) (p1 p2 : Pos) (body : List Stmt) (doc pm : Value) (an : Option Addr) (cdv ct : Value) (cc : Addr) (a v : Value) (s : Shared), BindsTo s (ksFn "__init__" q (iA b p1 p2) body (iS b) .none .none doc pm an cdv ct cc) ⟨[a, v], []⟩ [("self", a), (b, v)]
theorem init (T : XTxt prog K mg x q b e C fI cc cda) (Nb : Nm b) (Fe : Fm e) {a t0 : Addr} {v : Value} (Te : Told prog w b e v) (X : K.In s.heap) (hG : s.heap.Ns mainGlobals mg) (hB : s.heap.Ns builtinsNs mb) (hmb : mb "super" = bootBuiltins "super") (hlim : s.heap.NoLimit) (hx : s.heap.get? a = some (excO C t0)) (hnx : K.lookup a = none) (hroom : A.depth < recursionLimit)
    (hq : ∀ h' tk dx t1, InitEnd s.heap h' a C dx t1 b v → R (.ok (.ret .none)) { s with heap := h', toks := tk }) :
    codeAny (model prog w) A (.call (.ref fI) ⟨[.ref a, v], []⟩) R s := by
  obtain ⟨oc, od, doc, pm, an, ct, osl, p1, p2, q0, q1, q2, q3, q4, q5, q6, q7, q8, ho, hcd, hline⟩ := T.fn
  obtain ⟨nm, qn, N, bs, bm, sn, sub, ab, col, dd, k0, k1, k2, k3, k5, hC, hbm⟩ := T.cls
  obtain ⟨cl, cld, csl, hcell⟩ := T.cell
  obtain ⟨ccl, cdd, vs, ccs, file, tf, hcode, hvs, hfile⟩ := T.code
  have hcl : clsIn K C = some { name := nm, bases := bs, mro := .ref C :: bm, ns := N, qualname := qn, hasDict := true, slotNames := sn, subclasses := sub, abstract := ab, collection := col, hasDel := false } := by unfold clsIn; rw [hC] <;> rfl
  refine ks_codeAny_call_defAt (fd := ksFn "__init__" q (iA b p1 p2) (iB b e q0 q1 q2 q3 q4 q5 q6 q7 q8) (iS b) .none .none doc pm an (.ref cda) ct cc) (body := iB b e q0 q1 q2 q3 q4 q5 q6 q7 q8) (binds := [("self", .ref a), (b, v)]) hroom (X _ _ ho) rfl hlim (codeRec_of X hcd) rfl
    (Nb.bind _ _ _ _ _ _ _ _ _ _ _ _ _) ?hc (fun y hy => ?hb) (fun h₁ hns hk₁ => ?_) rfl rfl rfl
  case hc =>
    intro y hy
    show y.2 ≠ .cell
    have : y ∈ (iS b).names := hy
    unfold iS at this
    simp only [List.mem_cons, List.not_mem_nil, or_false] at this
    rcases this with rfl | rfl | rfl | rfl <;> exact fun z => nomatch z
  case hb =>
    simp only [List.mem_cons, List.not_mem_nil, or_false] at hy
    rcases hy with rfl | rfl
    · exact Nb.sl
    · exact Nb.bl
  have mself : ∀ y : Str, (y == b) = false → (y == ("self" : Str)) = true → ([("self", Value.ref a), (b, v)] : List (Str × Value)).reverse.lookup y = some (.ref a) := fun y h1 h2 => by
    show List.lookup y [(b, v), ("self", Value.ref a)] = _
    rw [List.lookup_cons, h1]
    show List.lookup y [("self", Value.ref a)] = _
    rw [List.lookup_cons, h2]
  have mb' : ([("self", Value.ref a), (b, v)] : List (Str × Value)).reverse.lookup b = some v := by
    show List.lookup b [(b, v), ("self", Value.ref a)] = _
    rw [List.lookup_cons, beq_self_eq_true]
  have nsb : (("self" : Str) == b) = false := by
    cases z : (("self" : Str) == b) with
    | false => rfl
    | true => rw [← beq_iff_eq.mp z] at Nb; exact absurd Nb.nself (by decide)
  have ms := mself "self" nsb (beq_self_eq_true _)
  have k : ∀ b o, s.heap.get? b = some o → h₁.get? b = some o := hk₁
  have X₁ : K.In h₁ := X.keeps k
  have hx₁ := k _ _ hx
  have hG₁ := hG.keeps k
  have hB₁ := hB.keeps k
  obtain ⟨hh, g, d, tk, os⟩ := s
  obtain ⟨pl, hev⟩ := Fe.call q0 q1 q2 q3 (ksEnv q (iS b) hh.objs.size fI (.ref cda) cc) hline
  refine ks_wpAt_execs_cons (ks_wpAt_Expr_any (ks_wpAt_MethodCall (pl := pl) ?_ hev))
  refine ks_wpAt_super_base (f := fI) (cc := cda) (ar := { arg := "self", annotation := none, pos := p1 }) Nb.su Nb.cl (by decide) rfl (X₁ _ _ ho) rfl rfl rfl (X₁ _ _ hcode) rfl hvs hfile T.top ?_
  refine ks_loadName_global rfl Nb.su (loadGlobal_builtin hG₁ T.noSuper hB₁ (hmb.trans (by decide +kernel)) ⟨rfl, ?_⟩)
  refine wpAny_loadName_free rfl Nb.cl rfl ⟨_, X₁ _ _ hcell, rfl⟩ ?_
  refine wpAny_loadName_local rfl Nb.sl hns ms ?_
  refine ks_wpAny_isType_cls (X₁ _ _ hC) rfl ⟨rfl, ?_⟩
  refine ks_wpAny_call_super (X₁ _ _ hC) rfl hx₁ rfl (fun c z => nomatch z) (looks_mroIn X₁ T.sub) (fun h2 hso kk2 => ?_)
  have X2 : K.In h2 := X₁.keeps kk2
  have hx2 := kk2 _ _ hx₁
  have hns2 := hns.keeps kk2
  have I2 : InstAt h2 a (excO C t0) C none := ⟨hx2, rfl, rfl, trivial⟩
  have hI : Looks (model prog w) h2 (isInstance (.ref a) (.type "ValueError")) true := I2.type.andThen (looks_subIn X2 T.veC)
  have hsup := T.sup
  unfold ks_superIn at hsup
  rw [hcl] at hsup
  refine kxs_getMethod kxs_ValueError hso (looks_opaque X2 T.opq) (l₀ := .ref C :: bm) (fun A Q E s k q => wpAny_bind ((looks_clsIn X2 hcl) A _ E s k (wpAny_pure q))) rfl X2 hsup hI (ks_ne X2 I2 hcl) (by decide) ?_
  have k3 : ∀ b o, h2.get? b = some o → (h2.push (kxs_mw "ValueError.__init__" a)).get? b = some o := fun b o e => Heap.get?_push_of_some _ e
  have hst : backTo q3 (starEach [e] (ksEnv q (iS b) hh.objs.size fI (.ref cda) cc)) = backTo q3 [(false, eval e (ksEnv q (iS b) hh.objs.size fI (.ref cda) cc))] := by rw [Fe.star]
  show wpAny _ _ (callWith q3 _ _ (backTo q3 (starEach [e] (ksEnv q (iS b) hh.objs.size fI (.ref cda) cc))) []) _ _ _
  rw [hst]
  have hrec : backTo q3 [(false, eval e (ksEnv q (iS b) hh.objs.size fI (.ref cda) cc))] = [(false, eval e (ksEnv q (iS b) hh.objs.size fI (.ref cda) cc))] := rfl
  rw [hrec]
  refine kxs_callWith (i := "ValueError.__init__") (x := a) rfl (evalArgs_plain (spliced_cons ?_))
  refine Te _ _ _ _ _ _ (hns2.keeps k3) mb' rfl Nb.bl fun u tk' => spliced_nil ⟨Heap.get?_push_at rfl rfl, ?_⟩
  show wpAny _ _ (call _ [u]) _ _ _
  refine call_mw (k3 _ _ ((X2 _ _ hC))) (k3 _ _ hx2) (Heap.get?_push_at rfl rfl) (by rw [sizeLine_eq]; show 1 ≤ _; omega) fun h3 t1 kk3 hx3 => ?_
  show wpAt _ _ _ (execs _ _) _ _ _
  have X3 : K.In h3 := fun b o z => kk3 b o (fun y => by rw [y, hnx] at z; cases z) (k3 _ _ (X2 _ _ z))
  have hxL : hh.objs.size ≠ a := Nat.ne_of_gt (Heap.lt_size hx)
  have hns3 : h3.Ns hh.objs.size (fun y => ([("self", Value.ref a), (b, v)] : List (Str × Value)).reverse.lookup y) := (hns2.keeps k3).at fun o y => kk3 _ _ hxL y
  refine wpAt_of_wpAny (wpAny_execs_cons (plainObj_wpAny_Assign_Attribute ?_))
  refine ldC hns3 mb' (ldC hns3 ms ?_ rfl Nb.sl (by decide)) rfl Nb.bl Nb.ndebug
  refine set_plain X3 (ox := excO C t1) (od := none) ⟨hx3, rfl, rfl, trivial⟩ T.sa ?_
  refine exc_osa X3 hx3 hcl (show refsVE (.ref C :: bm) = true from hbm) rfl T.noN (fun h₃ tk₃ dx k₃ dn dne hx₃ hn₃ => ?_)
  show wpAny _ _ (execs _ _) _ _ _
  have z : hh.objs.size < h3.objs.size := hns3.lt
  exact wpAny_execs_nil (hq h₃ tk₃ dx t1 ⟨fun b o hb e => k₃ b o hb (kk3 b o hb (k3 _ _ (kk2 _ _ (k b o e)))), hx₃, Nat.le_of_lt (Nat.lt_of_lt_of_le z dn), dne, hn₃⟩)
theorem made (T : XTxt prog K mg x q b e C fI cc cda) (Nb : Nm b) (Fe : Fm e) {v : Value} (Te : Told prog w b e v) (X : K.In s.heap) (hG : s.heap.Ns mainGlobals mg) (hB : s.heap.Ns builtinsNs mb) (hmb : mb "super" = bootBuiltins "super") (hlim : s.heap.NoLimit) (hroom : A.depth + 1 < recursionLimit)
    (hq : ∀ h' tk a d, OwnMade s.heap h' a C d b v → R (.ok (.ret (.ref a))) { s with heap := h', toks := tk }) :
    codeAny (model prog w) A (.call (.ref C) ⟨[v], []⟩) R s := by
  obtain ⟨nm, qn, N, bs, bm, sn, sub, ab, col, dd, k0, k1, k2, k3, k5, hC, hbm⟩ := T.cls
  obtain ⟨hp, g, dr, tk, os⟩ := s
  have k : ∀ b o, hp.get? b = some o → ((hp.push (kdv_tup [v])).push (excO C hp.objs.size)).get? b = some o := fun b o e => Heap.get?_push_of_some _ (Heap.get?_push_of_some _ e)
  have hget : ((hp.push (kdv_tup [v])).push (excO C hp.objs.size)).get? (hp.objs.size + 1) = some (excO C hp.objs.size) := by heap_get
  have hnx : K.lookup (hp.objs.size + 1) = none := by
    cases e : K.lookup (hp.objs.size + 1) with
    | none => rfl
    | some o =>
      have z : hp.get? (hp.objs.size + 1) = some o := X _ _ e
      exact absurd (Nat.lt_of_succ_lt (Heap.lt_size z)) (Nat.lt_irrefl _)
  refine call_own F.excBase_ValueError (fun X => refsVE_contains X bm hbm) (X _ _ hC) (looks_findIn X T.iC) (fun self => bind_fn X self T.tC) (by rw [sizeLine_eq]; show 1 ≤ _; omega) ?_
  refine init (s := ⟨(hp.push (kdv_tup [v])).push (excO C hp.objs.size), g, dr, tk, os⟩) T Nb Fe Te (X.keeps k) (hG.keeps k) (hB.keeps k) hmb (hlim.keeps k) hget hnx ?_ fun h' tk' dx t1 ⟨k', hx, dn, dne, hns⟩ => ?_
  · show A.depth + 1 < recursionLimit
    exact hroom
  · have old : ∀ b o, hp.get? b = some o → h'.get? b = some o := fun b o e => k' b o (Nat.ne_of_lt (Nat.lt_succ_of_lt (Heap.lt_size e))) (k b o e)
    have z : hp.objs.size + 1 + 1 ≤ dx := by
      first
        | (simpa only [Heap.size_push] using dn)
        | exact dn
        | (have q := dn; rw [Heap.size_push, Heap.size_push] at q; exact q)
    exact ⟨rfl, hq h' tk' (hp.objs.size + 1) dx ⟨old, Nat.le_succ _, ⟨_, _, hx, rfl, rfl, rfl, rfl⟩, Nat.le_trans (Nat.le_trans (Nat.le_succ _) (Nat.le_succ _)) z, dne, hns⟩⟩
end
end SupX
end PySem
namespace L2
open PySem PySem.Spec PyProof.Rows
theorem relO_own {b : Str} {v : V} {v' : Value} (r : RelV v v') (f : Str) : RelO (List.lookup f [(b, v)]) (if f = b then some v' else none) := by
  by_cases hw : f = b
  · subst hw
    rw [if_pos rfl]
    have q : List.lookup f [(f, v)] = some v := by simp [List.lookup]
    rw [q]
    exact r
  · rw [if_neg hw]
    have qw : (f == b) = false := by simpa using hw
    have q2 : List.lookup f [(b, v)] = none := by simp [List.lookup, qw]
    rw [q2]
    trivial
section
variable {X : Cx} {C fI cc cda : Addr} {x q b : Str} {e : Expr}
/-- x(a) -/
def tMkSup (b : Str) (C : Addr) (ok : V → Prop) (ta : TA) : St → Hp → XK → Prop := fun σ H Q => ta σ H fun vs H1 => ∃ v, vs = [v] ∧ ok v ∧ ∀ d, H1 d = none → Q (.ref C) (some d) (upd H1 d (.xd [(b, v)]))
theorem pmk_sup {a : Expr} {ta : TA} {ok : V → Prop} {p pos : Pos} {k : Nat} (T : PySem.SupX.XTxt X.prog X.K X.mg x q b e C fI cc cda) (Nb : PySem.SupX.Nm b) (Fe : PySem.SupX.Fm e) (Te : ∀ v u, ok v → RelV v u → PySem.SupX.Told X.prog X.w b e u) (hr : Room k X.A) (ha : PA X [a] ta) (hg : Gl X x)
    (hd : (x == ("__debug__" : Str)) = false := by decide)
    (he : starEach (a :: []) X.env = (false, eval a X.env) :: starEach [] X.env := by rfl) (hpl : (backTo pos (starEach [] X.env)).any (·.1) = false := by rfl) :
    PMk X (.Call (.Name x p) [a] [] pos) (tMkSup b C ok ta) := by
  intro pins s σ H Q I h
  refine wpAny_Call_Name_kw (ld_glob I hg T.gC ?_ hd)
  refine PySem.W.callWith_K (h₀ := X.base) I.ok.mod.kin T.kC (thn (ha.run pos pins s σ H _ I h) fun us s1 hh => ?_) he hpl
  obtain ⟨vs, H1, I1, r1, v, ev, hok, q1⟩ := hh
  subst ev
  refine ⟨I1.kIn, ?_⟩
  cases r1 with
  | cons rv rn =>
    rename_i v' us'
    cases rn
    show wpAny _ _ (call (.ref C) [v']) _ _ _
    have hlim := I1.nolimit
    obtain ⟨mb, hb1, hb2⟩ := I1.mod.blt
    have hG := I1.mod.glob.keeps I1.bk
    have hB := hb1.keeps I1.bk
    have kIn := I1.kIn
    obtain ⟨hp, g, dr, tk, os⟩ := s1
    refine wpAny_call (PySem.SupX.made T Nb Fe (Te v v' hok rv) kIn hG hB (hb2 _ (by decide)) hlim (by have := hr.dp; omega) fun h' tk' e d M => ?_)
    show MkP X pins σ Q (.ref e) ⟨h', g, dr, tk', os⟩
    obtain ⟨oe, fv, hoe, hc, hd, hdat, h1⟩ := M.obj
    have hns := M.ns
    obtain ⟨G', g1, g2⟩ := restrict h' fun b => decide (b ≠ e)
    have gk : ∀ b, b ≠ e → G'.get? b = h'.get? b := fun b hb => g1 b (decide_eq_true hb)
    have ge : G'.get? e = none := g2 e (by simp)
    have old : ∀ b o, hp.get? b = some o → G'.get? b = some o := fun b o q => (gk b (Nat.ne_of_lt (Nat.lt_of_lt_of_le (Heap.lt_size q) M.new))).trans (M.keep b o q)
    have ob : ObjOk X.prog X.w (upd H1 d (.xd [(b, v)])) G' d (.xd [(b, v)]) :=
      ⟨_, hns.at (fun o q => (gk d M.dne).trans q), fun f => relO_own rv f⟩
    have J : Inv X pins σ (upd H1 d (.xd [(b, v)])) ⟨G', g, dr, tk', os⟩ := I1.laid (t' := tk') old M.dbig ob
    refine ⟨e, oe, fv, ⟨G', g, dr, tk', os⟩, _, .ref C, some d, rfl, J, fun b o q => ?_, ge, hoe, ⟨hc, hd⟩, hdat, h1, ?_, rfl, I1.bare, raises_own T.exC T.tyC, q1 d (I1.hok.fresh M.dbig)⟩
    · by_cases hb : b = e
      · have q' : G'.get? b = some o := q
        rw [hb, ge] at q'; cases q'
      · exact (gk b hb).symm.trans q
    · rw [upd_ne (Ne.symm M.dne)]
      exact I1.hok.fresh M.new
theorem ps_raiseSup {a : Expr} {ta : TA} {ok : V → Prop} {W : WX} {p pos pos2 : Pos} {k : Nat} (hc : X.calm = true) (T : PySem.SupX.XTxt X.prog X.K X.mg x q b e C fI cc cda) (Nb : PySem.SupX.Nm b) (Fe : PySem.SupX.Fm e) (Te : ∀ v u, ok v → RelV v u → PySem.SupX.Told X.prog X.w b e u) (hr : Room k X.A) (tk : Takes X W) (ha : PA X [a] ta) (hg : Gl X x)
    (hd : (x == ("__debug__" : Str)) = false := by decide)
    (he : starEach (a :: []) X.env = (false, eval a X.env) :: starEach [] X.env := by rfl) (hpl : (backTo pos (starEach [] X.env)).any (·.1) = false := by rfl) :
    PS X (.Raise (some (.Call (.Name x p) [a] [] pos)) none pos2) (fun _ σ H => tMkSup b C ok ta σ H fun cls d H' => W cls d σ H') := ps_raise hc tk (pmk_sup T Nb Fe Te hr ha hg hd he hpl)
end
end L2

set_option Elab.async false
set_option linter.all false
set_option maxRecDepth 100000
set_option maxHeartbeats 4000000
/-! enumerate(zip(a, b)), two tuples: a zip's pair stays out between the turns (the enumerate's pair holds it), so each turn asks whether it is still there. -/
namespace PySem
namespace EZ
open Sem (wp)
open AutoSeq1 (wpAny_loadPart')
abbrev IsZs (h : Heap) (z TI TO : Addr) (f0 : Value) (f : Bool) : Prop :=
  h.get? z = some { cls := .type "zip", dict := none, data := .fields #[f0, .bool f, .bool false, .ref TI, .ref TO], slots := #[] }
def F0 (f0 : Value) : Prop := f0 = .none ∨ ∃ T : Addr, f0 = rawInt T
section
variable {prog : Program} {w : World} {A : Around} {E : Value → Shared → Prop} {s : Shared}
theorem alive_any {a : Addr} {Q : Option Obj → Shared → Prop} (h : Q (s.heap.get? a) s) : wpAny (model prog w) A (loadIfAlive a) Q E s := fun _ _ _ => h
theorem own_free {z TI TO : Addr} {f0 : Value} {f : Bool} {Q : Bool → Shared → Prop} (hz : IsZs s.heap z TI TO f0 f) (h0 : F0 f0) (h1 : Q true s) (h2 : ∀ h', IsZs h' z TI TO f0 true → Heap.SameBut z s.heap h' → Q false { s with heap := h' }) :
    wpAny (model prog w) A (Builtin.SmallTypes.ownedTupleIsFree (.ref z)) Q E s := by
  unfold Builtin.SmallTypes.ownedTupleIsFree
  rcases h0 with rfl | ⟨T, rfl⟩
  · exact wpAny_bind (wpAny_field hz rfl (x := .none) rfl (wpAny_pure h1))
  refine wpAny_bind (wpAny_field hz rfl (x := rawInt T) rfl (wpAny_bind (alive_any ?_)))
  generalize s.heap.get? (Int.toNat T) = o
  cases o with
  | none => exact wpAny_pure h1
  | some oT =>
    refine wpAny_bind (wpAny_field hz rfl (x := .bool f) rfl ?_)
    cases f with
    | true => exact wpAny_pure (h2 s.heap hz (Heap.SameBut.refl _ _))
    | false => exact wpAny_bind (wpAny_setField_rec hz (by simp) fun h₁ hz₁ hs₁ => wpAny_pure (h2 h₁ hz₁ hs₁))
/-- nothing is out yet -/
theorem first_free {e : Addr} {c : String} {vs : Array Value} {Q : Bool → Shared → Prop} (he : s.heap.get? e = some { cls := .type c, dict := none, data := .fields vs, slots := #[] }) (h0 : vs[0]? = some .none) (h : Q true s) : wpAny (model prog w) A (Builtin.SmallTypes.ownedTupleIsFree (.ref e)) Q E s :=
  wpAny_bind (wpAny_field he rfl (x := .none) h0 (wpAny_pure h))
/-- T goes out -/
theorem out_to {e T : Addr} {c : String} {vs : Array Value} {Q : Unit → Shared → Prop} (he : s.heap.get? e = some { cls := .type c, dict := none, data := .fields vs, slots := #[] }) (h0 : 1 < vs.size)
    (h : ∀ h', h'.get? e = some { cls := .type c, dict := none, data := .fields ((vs.setIfInBounds 0 (rawInt T)).setIfInBounds 1 (.bool false)), slots := #[] } → Heap.SameBut e s.heap h' → Q () { s with heap := h' }) : wpAny (model prog w) A (Builtin.SmallTypes.ownedTupleHandOut (.ref e) (.ref T)) Q E s :=
  wpAny_bind (wpAny_setField_rec he (by omega) fun ha ea ka => wpAny_setField_rec ea (by rw [Array.size_setIfInBounds]; exact h0) fun hb eb kb => h hb eb ⟨kb.1.trans ka.1, fun b q => (kb.2 b q).trans (ka.2 b q)⟩)
/-- the next of what is enumerated may make new objects -/
theorem enum_item {e it : Addr} {i : Nat} {old : Value} {Q : Value → Shared → Prop} (he : IsEnum s.heap e it i old)
    (hn : wpAny (model prog w) A (Builtin.SmallTypes.nextOf (.ref it)) (fun x s1 => IsEnum s1.heap e it i old ∧ ∀ h' tk, IsEnumOut h' e it ((i : Int) + 1) x s1.heap.objs.size →
      h'.get? s1.heap.objs.size = some { cls := .type "tuple", data := .seq #[.int i tk, x] } → h'.objs.size = s1.heap.objs.size + 1 →
      (∀ b o, b ≠ e → s1.heap.get? b = some o → h'.get? b = some o) → Q (.ref s1.heap.objs.size) { s1 with heap := h', toks := tk + 1 }) E s) :
    wpAny (model prog w) A (Builtin.«enumerate.__next__» ⟨[.ref e], []⟩) (fun fin s' => ∃ v, fin = .done (.ret v) ∧ Q v s') E s := by
  show wpAny _ _ (field (.ref e) 2 >>= _) _ _ s
  refine wpAny_bind (wpAny_field he rfl (x := .ref it) rfl (wpAny_bind (wpAny_mono hn (fun x s1 y => ?_) fun _ _ z => z)))
  obtain ⟨hp, g, d, tk, os⟩ := s1
  obtain ⟨he1 : IsEnum hp e it i old, hQ⟩ := y
  refine wpAny_bind (wpAny_field he1 rfl (x := rawInt i) rfl (wpAny_bind (wpAny_field he1 rfl (x := .none) rfl (wpAny_bind (wpAny_mkInt ?_)))))
  refine wpAny_bind (wpAny_setField_rec he1 (by simp) fun ha ea ka => wpAny_bind (wpAny_setField_rec ea (by simp) fun hb eb kb => wpAny_bind (wpAny_newTuple ?_)))
  have sz : hb.objs.size = hp.objs.size := kb.1.trans ka.1
  have lt : e < hp.objs.size := Heap.lt_size he1
  have up : ∀ b o, b ≠ e → hp.get? b = some o → hb.get? b = some o := fun b o q z => (kb.2 b q).trans ((ka.2 b q).trans z)
  have ec : IsEnum (hb.push { cls := .type "tuple", data := .seq #[.int i tk, x] }) e it ((i : Int) + 1) old := Heap.get?_push_of_some _ eb
  refine wpAny_bind (first_free ec rfl (wpAny_bind (wpAny_rule (wpAny_bind (wpAny_field ec rfl (x := old) rfl (wpAny_bind (wpAny_setField_rec ec (by simp) fun hd ed kd => ?_)))))))
  refine wpAny_bind (out_to (T := hb.objs.size) ed (by simp) fun hf ef kf => wpAny_bind (wpAny_letGo (wpAny_pure ⟨_, rfl, ?_⟩)))
  have up2 : ∀ b o, b ≠ e → (hb.push { cls := .type "tuple", data := .seq #[.int i tk, x] }).get? b = some o → hf.get? b = some o := fun b o q z => (kf.2 b q).trans ((kd.2 b q).trans z)
  show Q (.ref hb.objs.size) _
  rw [sz] at ef ⊢
  refine hQ hf tk ef (up2 _ _ (Nat.ne_of_gt lt) (by rw [← sz]; exact Heap.get?_push_size _ rfl)) ?_ fun b o q z => up2 b o q (Heap.get?_push_of_some _ (up b o q z))
  show hf.objs.size = hp.objs.size + 1
  rw [kf.1, kd.1, Heap.size_push, sz]
/-- where a zip of two tuples is, k turns done -/
structure Zt (h : Heap) (z TI TO i1 i2 l1 l2 : Addr) (k : Nat) (xs ys : Array Value) : Prop where
  its : IsPair h TI (.ref i1) (.ref i2)
  kept : ∃ a b, IsPair h TO a b
  one : h.IsTupleIter i1 l1 k
  two : h.IsTupleIter i2 l2 k
  tx : h.IsTuple l1 xs
  ty : h.IsTuple l2 ys
theorem Zt.up {h h' : Heap} {z TI TO i1 i2 l1 l2 : Addr} {k : Nat} {xs ys : Array Value} (Z : Zt h z TI TO i1 i2 l1 l2 k xs ys) (D : ZipApart z TI TO i1 i2 l1 l2) (u : ∀ b o, b ≠ z → h.get? b = some o → h'.get? b = some o) : Zt h' z TI TO i1 i2 l1 l2 k xs ys :=
  let ⟨a, b, q⟩ := Z.kept
  ⟨u _ _ D.TIz Z.its, ⟨a, b, u _ _ D.TOz q⟩, Z.one.at fun o y => u _ o D.i1z y, Z.two.at fun o y => u _ o D.i2z y, Z.tx.at fun o y => u _ o D.l1z y, Z.ty.at fun o y => u _ o D.l2z y⟩
/-- two draws -/
theorem zip_item {z TI TO i1 i2 l1 l2 : Addr} {f0 : Value} {f : Bool} {k : Nat} {xs ys : Array Value} {x y : Value} {Q : Value → Shared → Prop} (D : ZipApart z TI TO i1 i2 l1 l2) (hz : IsZs s.heap z TI TO f0 f) (h0 : F0 f0) (Z : Zt s.heap z TI TO i1 i2 l1 l2 k xs ys) (hx : xs[k]? = some x) (hy : ys[k]? = some y)
    (hQ : ∀ h' f0' f', IsZs h' z TI TO f0' f' → F0 f0' → Zt h' z TI TO i1 i2 l1 l2 (k + 1) xs ys → IsPair h' s.heap.objs.size x y → h'.objs.size = s.heap.objs.size + 1 → (∀ c o, c ≠ z → c ≠ TO → c ≠ i1 → c ≠ i2 → s.heap.get? c = some o → h'.get? c = some o) → Q (.ref s.heap.objs.size) { s with heap := h' }) :
    wpAny (model prog w) A (Builtin.«zip.__next__» ⟨[.ref z], []⟩) (fun fin s' => ∃ v, fin = .done (.ret v) ∧ Q v s') E s := by
  obtain ⟨va, vb, hTO⟩ := Z.kept
  show wpAny _ _ (field (.ref z) 2 >>= _) _ _ s
  refine wpAny_bind (wpAny_field hz rfl (x := .bool false) rfl ?_)
  show wpAny _ _ (field (.ref z) 3 >>= _) _ _ s
  refine wpAny_bind (wpAny_field hz rfl (x := .ref TI) rfl (wpAny_bind (wpAny_seqItems Z.its rfl ?_)))
  show wpAny _ _ (Builtin.SmallTypes.ownedTupleIsFree (.ref z) >>= _) _ _ s
  refine wpAny_bind (own_free hz h0 ?_ fun ha za ka => ?_)
  · refine wpAny_bind (wpAny_rule (wpAny_bind (wpAny_field hz rfl (x := .ref TO) rfl (wpAny_bind (wpAny_setField_rec hz (by simp) fun ha za ka => wpAny_bind ?_)))))
    replace za : IsZs ha z TI TO .ellipsis f := za
    have Za := Z.up D fun b o q e => (ka.2 b q).trans e
    simp only [List.zipIdx_cons, List.zipIdx_nil, List.forIn_cons, List.forIn_nil]
    refine wpAny_bind (wpAny_bind (wpAny_onRaise (wpAny_bind (RZ.nextOf_tuple_item (s := { s with heap := ha }) Za.one Za.tx hx fun hb nb kb => wpAny_pure ?_))))
    have Tb : IsPair hb TO va vb := (kb.2 _ D.TOi1).trans ((ka.2 _ D.TOz).trans hTO)
    refine wpAny_bind (wpAny_seqItems (s := { s with heap := hb }) Tb rfl (wpAny_bind (wpAny_updateSeq_pair (s := { s with heap := hb }) Tb fun hc Tc kc => wpAny_bind (wpAny_letGo (wpAny_pure ?_)))))
    replace Tc : IsPair hc TO x vb := Tc
    have up1 : ∀ b o, b ≠ z → b ≠ TO → b ≠ i1 → s.heap.get? b = some o → hc.get? b = some o := fun b o q1 q2 q3 e => (kc.2 b q2).trans ((kb.2 b q3).trans ((ka.2 b q1).trans e))
    refine wpAny_bind (wpAny_bind (wpAny_onRaise (wpAny_bind (RZ.nextOf_tuple_item (s := { s with heap := hc }) (Z.two.at fun o e => up1 _ o D.i2z (Ne.symm D.TOi2) (Ne.symm D.i12) e) (Z.ty.at fun o e => up1 _ o D.l2z D.l2TO D.l2i1 e) hy fun hd nd kd => wpAny_pure ?_))))
    have Td : IsPair hd TO x vb := (kd.2 _ D.TOi2).trans Tc
    refine wpAny_bind (wpAny_seqItems (s := { s with heap := hd }) Td rfl (wpAny_bind (wpAny_updateSeq_pair (s := { s with heap := hd }) Td fun he Te ke => wpAny_bind (wpAny_letGo (wpAny_pure (wpAny_pure ?_))))))
    replace Te : IsPair he TO x y := Te
    refine wpAny_bind (wpAny_seqItems (s := { s with heap := he }) Te rfl (wpAny_bind (wpAny_newTuple ?_)))
    have sz : he.objs.size = s.heap.objs.size := ke.1.trans (kd.1.trans (kc.1.trans (kb.1.trans ka.1)))
    have ze : IsZs (he.push { cls := .type "tuple", data := .seq #[x, y] }) z TI TO .ellipsis f := Heap.get?_push_of_some _ ((ke.2 _ (Ne.symm D.TOz)).trans ((kd.2 _ (Ne.symm D.i2z)).trans ((kc.2 _ (Ne.symm D.TOz)).trans ((kb.2 _ (Ne.symm D.i1z)).trans za))))
    refine wpAny_bind (out_to (T := he.objs.size) ze (by simp) fun hg zg kg => wpAny_pure ⟨_, rfl, ?_⟩)
    have upz : ∀ b o, b ≠ z → he.get? b = some o → hg.get? b = some o := fun b o q e => (kg.2 b q).trans (Heap.get?_push_of_some _ e)
    have lz : z < he.objs.size := by rw [sz]; exact Heap.lt_size hz
    have all : ∀ b o, b ≠ z → b ≠ TO → b ≠ i1 → b ≠ i2 → s.heap.get? b = some o → hg.get? b = some o := fun b o q1 q2 q3 q4 e => upz b o q1 ((ke.2 b q2).trans ((kd.2 b q4).trans (up1 b o q1 q2 q3 e)))
    have np : IsPair hg he.objs.size x y := (kg.2 _ (Ne.symm (Nat.ne_of_lt lz))).trans (Heap.get?_push_size _ rfl)
    show Q (.ref he.objs.size) _
    rw [sz] at zg np ⊢
    exact hQ hg _ _ zg (.inr ⟨_, rfl⟩) ⟨all _ _ D.TIz D.TITO D.TIi1 D.TIi2 Z.its, ⟨x, y, upz _ _ D.TOz Te⟩, nb.at fun o e => upz _ o D.i1z ((ke.2 _ (Ne.symm D.TOi1)).trans ((kd.2 _ D.i12).trans ((kc.2 _ (Ne.symm D.TOi1)).trans e))),
      nd.at fun o e => upz _ o D.i2z ((ke.2 _ (Ne.symm D.TOi2)).trans e), Z.tx.at fun o e => all _ o D.l1z D.l1TO D.l1i1 D.l1i2 e, Z.ty.at fun o e => all _ o D.l2z D.l2TO D.l2i1 D.l2i2 e⟩ np (by show hg.objs.size = _; rw [kg.1, Heap.size_push, sz]) all
  · have Za := Z.up D fun b o q e => (ka.2 b q).trans e
    refine wpAny_bind ?_
    rw [← Array.forIn_toList]
    simp only [List.forIn_cons, List.forIn_nil]
    refine wpAny_bind (wpAny_bind (wpAny_holding (wpAny_bind (RZ.nextOf_tuple_item (s := { s with heap := ha }) Za.one Za.tx hx fun hb nb kb => wpAny_pure (wpAny_pure ?_)))))
    have up1 : ∀ b o, b ≠ z → b ≠ i1 → s.heap.get? b = some o → hb.get? b = some o := fun b o q1 q3 e => (kb.2 b q3).trans ((ka.2 b q1).trans e)
    refine wpAny_bind (wpAny_bind (wpAny_holding (wpAny_bind (RZ.nextOf_tuple_item (s := { s with heap := hb }) (Z.two.at fun o e => up1 _ o D.i2z (Ne.symm D.i12) e) (Z.ty.at fun o e => up1 _ o D.l2z D.l2i1 e) hy fun hc nc kc => wpAny_pure (wpAny_pure (wpAny_pure ?_))))))
    show wpAny _ _ (newTuple [x, y] >>= _) _ _ _
    refine wpAny_bind (wpAny_newTuple (wpAny_pure ⟨_, rfl, ?_⟩))
    have sz : hc.objs.size = s.heap.objs.size := kc.1.trans (kb.1.trans ka.1)
    have all : ∀ b o, b ≠ z → b ≠ TO → b ≠ i1 → b ≠ i2 → s.heap.get? b = some o → (hc.push { cls := .type "tuple", data := .seq #[x, y] }).get? b = some o := fun b o q1 _ q3 q4 e => Heap.get?_push_of_some _ ((kc.2 b q4).trans (up1 b o q1 q3 e))
    have np : IsPair (hc.push { cls := .type "tuple", data := .seq #[x, y] }) hc.objs.size x y := Heap.get?_push_size _ rfl
    have zc : IsZs (hc.push { cls := .type "tuple", data := .seq #[x, y] }) z TI TO f0 true := Heap.get?_push_of_some _ ((kc.2 _ (Ne.symm D.i2z)).trans ((kb.2 _ (Ne.symm D.i1z)).trans za))
    have Tc : IsPair (hc.push { cls := .type "tuple", data := .seq #[x, y] }) TO va vb := Heap.get?_push_of_some _ ((kc.2 _ D.TOi2).trans (up1 _ _ D.TOz D.TOi1 hTO))
    have n1 : (hc.push { cls := .type "tuple", data := .seq #[x, y] }).IsTupleIter i1 l1 (k + 1) := nb.at fun o e => Heap.get?_push_of_some _ ((kc.2 _ D.i12).trans e)
    have n2 : (hc.push { cls := .type "tuple", data := .seq #[x, y] }).IsTupleIter i2 l2 (k + 1) := nc.at fun o e => Heap.get?_push_of_some _ e
    have szn : (hc.push { cls := .type "tuple", data := .seq #[x, y] }).objs.size = s.heap.objs.size + 1 := by rw [Heap.size_push, sz]
    show Q (.ref hc.objs.size) _
    rw [sz] at np ⊢
    exact hQ _ _ _ zc h0 ⟨all _ _ D.TIz D.TITO D.TIi1 D.TIi2 Z.its, ⟨va, vb, Tc⟩, n1, n2, Z.tx.at fun o e => all _ o D.l1z D.l1TO D.l1i1 D.l1i2 e, Z.ty.at fun o e => all _ o D.l2z D.l2TO D.l2i1 D.l2i2 e⟩ np szn all
theorem zip_end {z TI TO i1 i2 l1 l2 : Addr} {f0 : Value} {f : Bool} {k : Nat} {xs ys : Array Value} {Q : Fin → Shared → Prop} (hh : A.handled = none) (D : ZipApart z TI TO i1 i2 l1 l2) (hz : IsZs s.heap z TI TO f0 f) (h0 : F0 f0) (Z : Zt s.heap z TI TO i1 i2 l1 l2 k xs ys) (hend : xs[k]? = none ∨ ys[k]? = none)
    (hE : ∀ h' e, (∀ c o, c ≠ z → c ≠ TO → c ≠ i1 → c ≠ i2 → s.heap.get? c = some o → h'.get? c = some o) → (∃ o, h'.get? e = some o ∧ o.cls = .type "StopIteration") → E (.ref e) { s with heap := h' }) : wpAny (model prog w) A (Builtin.«zip.__next__» ⟨[.ref z], []⟩) Q E s := by
  obtain ⟨va, vb, hTO⟩ := Z.kept
  show wpAny _ _ (field (.ref z) 2 >>= _) _ _ s
  refine wpAny_bind (wpAny_field hz rfl (x := .bool false) rfl ?_)
  show wpAny _ _ (field (.ref z) 3 >>= _) _ _ s
  refine wpAny_bind (wpAny_field hz rfl (x := .ref TI) rfl (wpAny_bind (wpAny_seqItems Z.its rfl ?_)))
  show wpAny _ _ (Builtin.SmallTypes.ownedTupleIsFree (.ref z) >>= _) _ _ s
  refine wpAny_bind (own_free hz h0 ?_ fun ha za ka => ?_)
  · refine wpAny_bind (wpAny_rule (wpAny_bind (wpAny_field hz rfl (x := .ref TO) rfl (wpAny_bind (wpAny_setField_rec hz (by simp) fun ha za ka => wpAny_bind ?_)))))
    replace za : IsZs ha z TI TO .ellipsis f := za
    have Za := Z.up D fun b o q e => (ka.2 b q).trans e
    have stop : ∀ (hm hr : Heap) (e : Addr), IsZs hm z TI TO .ellipsis f → (∃ o, hm.get? e = some o ∧ o.cls = .type "StopIteration") → Heap.SameBut z hm hr → (∃ o, hr.get? e = some o ∧ o.cls = .type "StopIteration") := fun hm hr e zm ⟨o, q1, q2⟩ kr => ⟨o, (kr.2 e fun y => by rw [y, zm] at q1; cases q1; simp at q2).trans q1, q2⟩
    simp only [List.zipIdx_cons, List.zipIdx_nil, List.forIn_cons, List.forIn_nil]
    cases hx : xs[k]? with
    | none =>
      refine wpAny_bind (wpAny_bind (wpAny_onRaise (wpAny_bind (RZ.nextOf_tuple_end (s := { s with heap := ha }) hh Za.one Za.tx hx fun hb e kb eb => ?_))))
      have zb : IsZs hb z TI TO .ellipsis f := kb _ _ (Ne.symm D.i1z) za
      exact wpAny_setField_rec (s := { s with heap := hb }) zb (by simp) fun hc _ kc => hE hc e (fun c o q1 _ q3 _ y => (kc.2 c q1).trans (kb _ _ q3 ((ka.2 c q1).trans y))) (stop hb hc e zb eb kc)
    | some x =>
      have hy : ys[k]? = none := hend.resolve_left (by rw [hx]; exact Option.some_ne_none x)
      refine wpAny_bind (wpAny_bind (wpAny_onRaise (wpAny_bind (RZ.nextOf_tuple_item (s := { s with heap := ha }) Za.one Za.tx hx fun hb nb kb => wpAny_pure ?_))))
      have Tb : IsPair hb TO va vb := (kb.2 _ D.TOi1).trans ((ka.2 _ D.TOz).trans hTO)
      refine wpAny_bind (wpAny_seqItems (s := { s with heap := hb }) Tb rfl (wpAny_bind (wpAny_updateSeq_pair (s := { s with heap := hb }) Tb fun hc Tc kc => wpAny_bind (wpAny_letGo (wpAny_pure ?_)))))
      have up1 : ∀ b o, b ≠ z → b ≠ TO → b ≠ i1 → s.heap.get? b = some o → hc.get? b = some o := fun b o q1 q2 q3 e => (kc.2 b q2).trans ((kb.2 b q3).trans ((ka.2 b q1).trans e))
      refine wpAny_bind (wpAny_bind (wpAny_onRaise (wpAny_bind (RZ.nextOf_tuple_end (s := { s with heap := hc }) hh (Z.two.at fun o e => up1 _ o D.i2z (Ne.symm D.TOi2) (Ne.symm D.i12) e) (Z.ty.at fun o e => up1 _ o D.l2z D.l2TO D.l2i1 e) hy fun hd e kd ed => ?_))))
      have zd : IsZs hd z TI TO .ellipsis f := kd _ _ (Ne.symm D.i2z) ((kc.2 _ (Ne.symm D.TOz)).trans ((kb.2 _ (Ne.symm D.i1z)).trans za))
      exact wpAny_setField_rec (s := { s with heap := hd }) zd (by simp) fun hf _ kf => hE hf e (fun c o q1 q2 q3 q4 y => (kf.2 c q1).trans (kd _ _ q4 (up1 c o q1 q2 q3 y))) (stop hd hf e zd ed kf)
  · have Za := Z.up D fun b o q e => (ka.2 b q).trans e
    refine wpAny_bind ?_
    rw [← Array.forIn_toList]
    simp only [List.forIn_cons, List.forIn_nil]
    cases hx : xs[k]? with
    | none => exact wpAny_bind (wpAny_bind (wpAny_holding (wpAny_bind (RZ.nextOf_tuple_end (s := { s with heap := ha }) hh Za.one Za.tx hx fun hb e kb eb => hE hb e (fun c o q1 _ q3 _ y => kb _ _ q3 ((ka.2 c q1).trans y)) eb))))
    | some x =>
      have hy : ys[k]? = none := hend.resolve_left (by rw [hx]; exact Option.some_ne_none x)
      refine wpAny_bind (wpAny_bind (wpAny_holding (wpAny_bind (RZ.nextOf_tuple_item (s := { s with heap := ha }) Za.one Za.tx hx fun hb nb kb => wpAny_pure (wpAny_pure ?_)))))
      have up1 : ∀ b o, b ≠ z → b ≠ i1 → s.heap.get? b = some o → hb.get? b = some o := fun b o q1 q3 e => (kb.2 b q3).trans ((ka.2 b q1).trans e)
      exact wpAny_bind (wpAny_bind (wpAny_holding (wpAny_bind (RZ.nextOf_tuple_end (s := { s with heap := hb }) hh (Z.two.at fun o e => up1 _ o D.i2z (Ne.symm D.i12) e) (Z.ty.at fun o e => up1 _ o D.l2z D.l2i1 e) hy fun hd e kd ed => hE hd e (fun c o q1 _ q3 q4 y => kd _ _ q4 (up1 c o q1 q3 y)) ed))))
theorem pyNext_enum {e it : Addr} {i : Nat} {old : Value} {Q : Option Value → Shared → Prop} (he : IsEnum s.heap e it i old)
    (hn : wpAny (model prog w) A.in1 (Builtin.SmallTypes.nextOf (.ref it)) (fun x s1 => IsEnum s1.heap e it i old ∧ ∀ h' tk, IsEnumOut h' e it ((i : Int) + 1) x s1.heap.objs.size →
      h'.get? s1.heap.objs.size = some { cls := .type "tuple", data := .seq #[.int i tk, x] } → h'.objs.size = s1.heap.objs.size + 1 →
      (∀ b o, b ≠ e → s1.heap.get? b = some o → h'.get? b = some o) → Q (some (.ref s1.heap.objs.size)) { s1 with heap := h', toks := tk + 1 }) (fun _ _ => False) s) : wpAny (model prog w) A (pyNext (.ref e)) Q E s := by
  have hT : s.TypeIs (.ref e) "enumerate" := ⟨_, he, rfl⟩
  unfold pyNext
  refine wpAny_bind (wpAny_attempt (wpAny_callSpecial?_slot (name := Str.ofString "__next__") hT F.slot_enumerate_next
    (wpAny_call_entry F.slot_enumerate_next hT F.entry_enumerate_next ?_ (F.args_enumerate_next_1 _))))
  refine enum_item he (wpAny_mono hn (fun x s1 hx => ⟨hx.1, fun h' tk a b c d => ?_⟩) fun _ _ z => z.elim)
  exact wpAny_pure (hx.2 h' tk a b c d)
theorem pyNext_enum_end {e it : Addr} {i : Int} {old : Value} {Q : Option Value → Shared → Prop} (he : IsEnum s.heap e it i old)
    (hn : wpAny (model prog w) A.in1 (Builtin.SmallTypes.nextOf (.ref it)) (fun _ _ => False) (fun u s1 => ∃ x, u = .ref x ∧ (∃ o, s1.heap.get? x = some o ∧ o.cls = .type "StopIteration") ∧ Q none s1) s) : wpAny (model prog w) A (pyNext (.ref e)) Q E s := by
  have hT : s.TypeIs (.ref e) "enumerate" := ⟨_, he, rfl⟩
  unfold pyNext
  refine wpAny_bind (wpAny_attempt (wpAny_callSpecial?_slot (name := Str.ofString "__next__") hT F.slot_enumerate_next
    (wpAny_call_entry F.slot_enumerate_next hT F.entry_enumerate_next ?_ (F.args_enumerate_next_1 _))))
  show wpAny _ _ (field (.ref e) 2 >>= _) _ _ _
  refine wpAny_bind (wpAny_field he rfl (x := .ref it) rfl ?_)
  refine wpAny_bind (wpAny_mono hn (fun _ _ z => z.elim) fun u s1 hu => ?_)
  obtain ⟨x, rfl, ⟨o, ho, hc⟩, q⟩ := hu
  exact wpAny_bind (wpAny_isInstance (T := "StopIteration") (b := true) ⟨o, ho, hc⟩ isSubtype_stop (wpAny_pure q))
theorem nextOf_zip {z TI TO i1 i2 l1 l2 : Addr} {f0 : Value} {f : Bool} {k : Nat} {xs ys : Array Value} {x y : Value} {Q : Value → Shared → Prop} (D : ZipApart z TI TO i1 i2 l1 l2) (hz : IsZs s.heap z TI TO f0 f) (h0 : F0 f0) (Z : Zt s.heap z TI TO i1 i2 l1 l2 k xs ys) (hx : xs[k]? = some x) (hy : ys[k]? = some y)
    (hQ : ∀ h' f0' f', IsZs h' z TI TO f0' f' → F0 f0' → Zt h' z TI TO i1 i2 l1 l2 (k + 1) xs ys → IsPair h' s.heap.objs.size x y → h'.objs.size = s.heap.objs.size + 1 → (∀ c o, c ≠ z → c ≠ TO → c ≠ i1 → c ≠ i2 → s.heap.get? c = some o → h'.get? c = some o) → Q (.ref s.heap.objs.size) { s with heap := h' }) :
    wpAny (model prog w) A (Builtin.SmallTypes.nextOf (.ref z)) Q E s :=
  have hT : s.TypeIs (.ref z) "zip" := ⟨_, hz, rfl⟩
  wpAny_bind (wpAny_callSpecial?_slot (name := Str.ofString "__next__") hT F.slot_zip_next (wpAny_call_entry F.slot_zip_next hT F.entry_zip_next (zip_item D hz h0 Z hx hy fun h' f0' f' q1 q2 q3 q4 q5 q6 => wpAny_pure (hQ h' f0' f' q1 q2 q3 q4 q5 q6)) (F.args_zip_next_1 _)))
theorem nextOf_zip_end {z TI TO i1 i2 l1 l2 : Addr} {f0 : Value} {f : Bool} {k : Nat} {xs ys : Array Value} {Q : Value → Shared → Prop} (hh : A.handled = none) (D : ZipApart z TI TO i1 i2 l1 l2) (hz : IsZs s.heap z TI TO f0 f) (h0 : F0 f0) (Z : Zt s.heap z TI TO i1 i2 l1 l2 k xs ys) (hend : xs[k]? = none ∨ ys[k]? = none)
    (hE : ∀ h' e, (∀ c o, c ≠ z → c ≠ TO → c ≠ i1 → c ≠ i2 → s.heap.get? c = some o → h'.get? c = some o) → (∃ o, h'.get? e = some o ∧ o.cls = .type "StopIteration") → E (.ref e) { s with heap := h' }) : wpAny (model prog w) A (Builtin.SmallTypes.nextOf (.ref z)) Q E s :=
  have hT : s.TypeIs (.ref z) "zip" := ⟨_, hz, rfl⟩
  wpAny_bind (wpAny_callSpecial?_slot (name := Str.ofString "__next__") hT F.slot_zip_next (wpAny_call_entry F.slot_zip_next hT F.entry_zip_next (zip_end hh D hz h0 Z hend hE) (F.args_zip_next_1 _)))
theorem meets_enumerate_newZ (z : Addr) (TI TO : Addr) :
    Meets (Builtin.«enumerate.__new__» ⟨[.type "enumerate", .ref z], []⟩) (fun _ R s => IsZip s.heap z TI TO .none ∧
      R (.ok (.ret (.ref s.heap.objs.size))) { s with heap := s.heap.push { cls := .type "enumerate", data := .fields #[.none, .bool false, .ref z, rawInt 0, .none, .none] } }) :=
  .of_wp fun prog w A R s h => by
    obtain ⟨hp, g, d, tk, os⟩ := s; obtain ⟨hl, h⟩ := h
    have hsub := sub_enumerate
    wp_walk using wpAny_loadPart' hl
    refine wpAny_stack_any fun st => wpAny_pure ?_
    split
    · rename_i c _ _ _ _ _
      cases (c == Value.type "enumerate")
      · wp_walk using wpAny_loadPart' hl, wpAny_pyIter_zip hl
        exact ⟨_, rfl, h⟩
      · wp_walk using wpAny_loadPart' hl, wpAny_pyIter_zip hl
        exact ⟨_, rfl, h⟩
    · wp_walk using wpAny_loadPart' hl, wpAny_pyIter_zip hl
      exact ⟨_, rfl, h⟩
theorem call_enumerate_zip {z TI TO : Addr} {Q : Value → Shared → Prop} (hz : IsZip s.heap z TI TO .none)
    (h : ∀ h', IsEnum h' s.heap.objs.size z 0 .none → (∀ b o, s.heap.get? b = some o → h'.get? b = some o) → Q (.ref s.heap.objs.size) { s with heap := h' }) :
    wpAny (model prog w) A (call (.type "enumerate") [.ref z]) Q E s := by
  refine callType_new F.called_enumerate (by decide) (F.typeCall_enumerate_1 _) (F.newCall_enumerate_1 _) (fun obj => F.args_object_init_2 obj _) F.entry_enumerate_new
    (meets_enumerate_newZ z TI TO) ⟨hz, ?_⟩
  have he : IsEnum (s.heap.push { cls := .type "enumerate", data := .fields #[.none, .bool false, .ref z, rawInt 0, .none, .none] }) s.heap.objs.size z 0 .none := Heap.get?_push_size _ rfl
  exact ⟨⟨_, he, rfl⟩, h _ he fun b o x => Heap.get?_push_of_some _ x⟩
end
end EZ
end PySem

set_option Elab.async false
set_option linter.all false
set_option maxRecDepth 100000
set_option maxHeartbeats 4000000
namespace EZ
open PySem PySem.Spec PyProof.Rows L2 PySem.EZ
/-- the tuples at a and b, the items in new pairs, numbered -/
def Itez (K : PySem.W.Frag) (a b : Addr) : It :=
  ⟨fun i H => ∃ (xs ys : List V) (x y : V), SqT K H a xs ∧ SqT K H b ys ∧ xs[i]? = some x ∧ ys[i]? = some y,
    fun i H v H' => ∃ T T' x y, v = .ref T' ∧ H T = none ∧ H T' = none ∧ T' ≠ T ∧ H' = upd (upd H T (.tup [x, y])) T' (.tup [.int (i : Nat), .ref T]) ∧ (∀ xs, SqT K H a xs → xs[i]? = some x) ∧ ∀ ys, SqT K H b ys → ys[i]? = some y,
    fun i H => ∃ xs ys : List V, SqT K H a xs ∧ SqT K H b ys ∧ (xs.length ≤ i ∨ ys.length ≤ i)⟩
theorem turn_ez {P : Program} {w : World} {K : PySem.W.Frag} {elts : List Expr} {kk : Nat} {tpos : Pos} {a b e z TI TO i1 i2 : Addr} (D : ZipApart z TI TO i1 i2 a b) (he0 : e ∉ [z, TI, TO, i1, i2]) :
    Turn P w K (.Tuple elts kk tpos) (Itez K a b) [e, z, TI, TO, i1, i2] e (fun i h => (∃ old, IsEnum h e z ((i : Nat) : Int) old) ∧ (∃ f0 f, IsZs h z TI TO f0 f ∧ F0 f0) ∧ IsPair h TI (.ref i1) (.ref i2) ∧ (∃ x y, IsPair h TO x y) ∧ h.IsTupleIter i1 a i ∧ h.IsTupleIter i2 b i) where
  mem := by simp
  obj := fun i h st c hc => by
    obtain ⟨⟨old, he⟩, ⟨f0, f, hz, _⟩, hTI, ⟨x, y, hTO⟩, ⟨o1, e1, _, d1⟩, ⟨o2, e2, _, d2⟩⟩ := st
    have e' : c = e ∨ c = z ∨ c = TI ∨ c = TO ∨ c = i1 ∨ c = i2 := by simpa using hc
    rcases e' with q | q | q | q | q | q
    · rw [q]; exact ⟨_, he, fun v q => nomatch q⟩
    · rw [q]; exact ⟨_, hz, fun v q => nomatch q⟩
    · rw [q]; exact ⟨_, hTI, fun v q => nomatch q⟩
    · rw [q]; exact ⟨_, hTO, fun v q => nomatch q⟩
    · rw [q]; exact ⟨o1, e1, fun v q => by rw [d1] at q; cases q⟩
    · rw [q]; exact ⟨o2, e2, fun v q => by rw [d2] at q; cases q⟩
  keep := fun i h h' st k => by
    obtain ⟨⟨old, he⟩, ⟨f0, f, hz, h0⟩, hTI, ⟨x, y, hTO⟩, h1, h2⟩ := st
    exact ⟨⟨old, k e (by simp) _ he⟩, ⟨f0, f, k z (by simp) _ hz, h0⟩, k TI (by simp) _ hTI, ⟨x, y, k TO (by simp) _ hTO⟩, h1.at fun o q => k i1 (by simp) o q, h2.at fun o q => k i2 (by simp) o q⟩
  item := by
    intro X hP hw hK hc i pins s σ H E I hf st hg
    subst hP hw hK
    obtain ⟨⟨old, he⟩, ⟨f0, f, hz, h0⟩, hTI, ⟨x0, y0, hTO⟩, h1, h2⟩ := st
    obtain ⟨xs, ys, x, y, hqx, hqy, hx, hy⟩ := hg
    obtain ⟨its, rv, p, _⟩ := I.tuple hqx
    obtain ⟨its2, rv2, p2, _⟩ := I.tuple hqy
    obtain ⟨u, hu, ru⟩ := rv.get hx
    obtain ⟨u2, hu2, ru2⟩ := rv2.get hy
    simp only [List.mem_cons, List.not_mem_nil, or_false, not_or] at he0
    obtain ⟨ez, eTI, eTO, ei1, ei2⟩ := he0
    have hel : e < s.heap.objs.size := Heap.lt_size he
    refine pyNext_enum he (nextOf_zip D hz h0 (xs := its.toArray) (ys := its2.toArray) ⟨hTI, ⟨x0, y0, hTO⟩, h1, h2, p, p2⟩ (x := u) (y := u2) (by simpa using hu) (by simpa using hu2) fun h' f0' f' z' h0' Z' hT hsz hk => ⟨hk e _ ez eTO ei1 ei2 he, fun h'' tk ho hT' hsz' hk' => ?_⟩)
    obtain ⟨TI', ⟨a', b', TO'⟩, h1', h2', _, _⟩ := Z'
    refine ⟨_, rfl, wpAny_letOwnedTupleGo_enum (s := { s with heap := h'', toks := tk + 1 }) ho fun h3 he3 sb => ?_⟩
    have upz : ∀ b o, b ≠ e → h'.get? b = some o → h3.get? b = some o := fun b o hb q => (sb.2 b hb).trans (hk' b o hb q)
    have new1 : ObjOk X.prog X.w (upd H s.heap.objs.size (.tup [x, y])) h' s.heap.objs.size (.tup [x, y]) := ⟨by show 2 ≤ sizeLine; decide, [u, u2], .cons ru (.cons ru2 .nil), ⟨_, hT, rfl, _, rfl⟩⟩
    have I1 : Inv X pins σ (upd H s.heap.objs.size (.tup [x, y])) { s with heap := h' } :=
      I.turnedNew (t' := s.toks) (ch := [z, TI, TO, i1, i2]) (fun c o hb q => hk c o (fun q' => hb (by simp [q'])) (fun q' => hb (by simp [q'])) (fun q' => hb (by simp [q'])) (fun q' => hb (by simp [q'])) q) (fun b hb => hf b (List.mem_cons_of_mem _ hb)) (Nat.le_refl _) new1
    have hsz2 : h'.objs.size = s.heap.objs.size + 1 := hsz
    have hle2 : s.heap.objs.size ≤ h'.objs.size := by rw [hsz2]; exact Nat.le_succ _
    have hel' : e < h'.objs.size := Nat.lt_of_lt_of_le hel hle2
    have hT2 : h3.get? h'.objs.size = some { cls := .type "tuple", data := .seq #[.int i tk, .ref s.heap.objs.size] } := (sb.2 _ (Nat.ne_of_gt hel')).trans hT'
    have new2 : ObjOk X.prog X.w (upd (upd H s.heap.objs.size (.tup [x, y])) h'.objs.size (.tup [.int (i : Nat), .ref s.heap.objs.size])) h3 h'.objs.size (.tup [.int (i : Nat), .ref s.heap.objs.size]) :=
      ⟨by show 2 ≤ sizeLine; decide, [.int i tk, .ref s.heap.objs.size], .cons ⟨_, rfl⟩ (.cons rfl .nil), ⟨_, hT2, rfl, _, rfl⟩⟩
    have fe : FpOk X pins (upd H s.heap.objs.size (.tup [x, y])) e := by
      have q := hf e (by simp)
      exact ⟨by rw [upd_ne (Nat.ne_of_lt hel)]; exact q.1, q.2⟩
    have I2 : Inv X pins σ (upd (upd H s.heap.objs.size (.tup [x, y])) h'.objs.size (.tup [.int (i : Nat), .ref s.heap.objs.size])) { s with heap := h3, toks := tk + 1 } :=
      I1.turnedNew (t' := tk + 1) (ch := [e]) (fun c o hb q => upz c o (fun q' => hb (by simp [q'])) q) (fun b hb => by rw [List.mem_singleton.mp hb]; exact fe) (Nat.le_refl _) new2
    refine ⟨.ref h'.objs.size, _, I2, rfl, ⟨s.heap.objs.size, h'.objs.size, x, y, rfl, I.hok.fresh (Nat.le_refl _), I.hok.fresh hle2, by rw [hsz2]; exact Nat.succ_ne_self _, rfl, fun l hl => by rw [I.tuple_inj hl hqx]; exact hx, fun l hl => by rw [I.tuple_inj hl hqy]; exact hy⟩,
      ⟨⟨.ref s.heap.objs.size, ?_⟩, ⟨f0', f', upz _ _ (Ne.symm ez) z', h0'⟩, upz _ _ (Ne.symm eTI) TI', ⟨a', b', upz _ _ (Ne.symm eTO) TO'⟩, h1'.at fun o q => upz _ _ (Ne.symm ei1) q, h2'.at fun o q => upz _ _ (Ne.symm ei2) q⟩, fun c hcm => ?_⟩
    · have e1 : ((i + 1 : Nat) : Int) = (i : Int) + 1 := by omega
      rw [e1]; exact he3
    · have hlt : c < s.heap.objs.size := by
        have e' : c = e ∨ c = z ∨ c = TI ∨ c = TO ∨ c = i1 ∨ c = i2 := by simpa using hcm
        rcases e' with q | q | q | q | q | q
        · rw [q]; exact hel
        · rw [q]; exact Heap.lt_size hz
        · rw [q]; exact Heap.lt_size hTI
        · rw [q]; exact Heap.lt_size hTO
        · rw [q]; obtain ⟨_, e1, _⟩ := h1; exact Heap.lt_size e1
        · rw [q]; obtain ⟨_, e2, _⟩ := h2; exact Heap.lt_size e2
      rw [upd_ne (Nat.ne_of_lt (Nat.lt_of_lt_of_le hlt hle2)), upd_ne (Nat.ne_of_lt hlt)]
      exact (hf c hcm).1
  done := by
    intro X hP hw hK hc i pins s σ H E I hf st hg
    subst hP hw hK
    obtain ⟨⟨old, he⟩, ⟨f0, f, hz, h0⟩, hTI, ⟨x0, y0, hTO⟩, h1, h2⟩ := st
    obtain ⟨xs, ys, hqx, hqy, hend⟩ := hg
    obtain ⟨its, rv, p, _⟩ := I.tuple hqx
    obtain ⟨its2, rv2, p2, _⟩ := I.tuple hqy
    have l1 := rv.length
    have l2 := rv2.length
    have hq : its.toArray[i]? = none ∨ its2.toArray[i]? = none := by
      rcases hend with q | q
      · exact .inl (by simp; omega)
      · exact .inr (by simp; omega)
    exact pyNext_enum_end he (nextOf_zip_end (I.ok.hd hc) D hz h0 (xs := its.toArray) (ys := its2.toArray) ⟨hTI, ⟨x0, y0, hTO⟩, h1, h2, p, p2⟩ hq fun h' x hk hx => ⟨x, rfl, hx, rfl, I.turnedL (t' := s.toks) (ch := [z, TI, TO, i1, i2]) (fun c o hb q =>
      hk c o (fun q' => hb (by simp [q'])) (fun q' => hb (by simp [q'])) (fun q' => hb (by simp [q'])) (fun q' => hb (by simp [q'])) q) fun b hb => hf b (List.mem_cons_of_mem _ hb)⟩)
  self := fun A i s Q E st h => let ⟨⟨_, he⟩, _⟩ := st; wpAny_pyIter_enum he h
def iEz (K : PySem.W.Frag) (ta : TA) : TI := fun σ H R => ta σ H fun vs H1 => ∃ a b xs ys, vs = [.ref a, .ref b] ∧ SqT K H1 a xs ∧ SqT K H1 b ys ∧ R (Itez K a b) H1
theorem pi_ez {X : Cx} {e e2 : Expr} {ta : TA} {p pos p' pos' tpos : Pos} {elts : List Expr} {kk : Nat} (hg' : Gl X "enumerate") (hm' : X.mg "enumerate" = none) (hg : Gl X "zip") (hm : X.mg "zip" = none) (ha : PA X [e, e2] ta)
    (hs' : starEach [.Call (.Name "zip" p) [e, e2] [] pos] X.env = [(false, eval (.Call (.Name "zip" p) [e, e2] [] pos) X.env)] := by rfl)
    (hs : starEach [e, e2] X.env = (false, eval e X.env) :: starEach [e2] X.env := by rfl) (hpl : (backTo pos (starEach [e2] X.env)).any (·.1) = false := by rfl) :
    PI X (.Tuple elts kk tpos) (.Call (.Name "enumerate" p') [.Call (.Name "zip" p) [e, e2] [] pos] [] pos') (iEz X.K ta) := by
  refine ⟨fun pins s σ H R I h => ?_⟩
  refine Call_ (ld_blt I hg' hm' boot_enumerate (PyProof.Rows.callWith_type1 ?_ hs' rfl))
  have hb : backTo pos' (starEach [.Call (.Name "zip" p) [e, e2] [] pos] X.env) = [(false, eval (.Call (.Name "zip" p) [e, e2] [] pos) X.env)] := by rw [hs']; rfl
  rw [hb]
  refine Calls.spliced_cons ?_
  refine Call_ (ld_blt I hg hm PyProof.Rows.boot_zip (PyProof.Rows.callWith_type1 (thn (ha.run pos pins s σ H _ I h) fun us s1 ⟨vs, H1, I1, r1, q1⟩ => ?_) hs hpl))
  obtain ⟨a, b, xs, ys, ex, hqx, hqy, q⟩ := q1
  subst ex
  cases r1 with
  | cons r rr =>
    cases rr with
    | cons r' rr =>
      cases rr
      cases r
      cases r'
      obtain ⟨its, rv, p1, _⟩ := I1.tuple hqx
      obtain ⟨its2, rv2, p2, _⟩ := I1.tuple hqy
      obtain ⟨o1, ho1, _⟩ := id p1
      obtain ⟨o2, ho2, _⟩ := id p2
      refine RZ.call_zipT (show s1.heap.IsTuple a its.toArray from p1) (show s1.heap.IsTuple b its2.toArray from p2) fun h' hz hTI hTO h1 h2 hsz hk => Calls.spliced_nil ?_
      refine call_enumerate_zip (s := { s1 with heap := h' }) hz fun h2' he hk2 => wpAny_pyIter_enum he ?_
      have I2 : Inv X pins σ H1 { s1 with heap := h2' } := I1.kept (t' := s1.toks) fun b o q => hk2 b o (hk b o q)
      have he5 : h'.objs.size = s1.heap.objs.size + 5 := hsz
      refine ⟨h'.objs.size, [h'.objs.size, s1.heap.objs.size + 4, s1.heap.objs.size + 2, s1.heap.objs.size + 3, s1.heap.objs.size, s1.heap.objs.size + 1], _, _, H1, rfl, I2, turn_ez (PySem.W.ktu_apart s1.heap.objs.size a b (Heap.lt_size ho1) (Heap.lt_size ho2)) ?_,
        ⟨⟨.none, he⟩, ⟨.none, false, hk2 _ _ hz, .inl rfl⟩, hk2 _ _ hTI, ⟨_, _, hk2 _ _ hTO⟩, h1.at fun o q => hk2 _ _ q, h2.at fun o q => hk2 _ _ q⟩, fun c hcm => ?_, q⟩
      · simp only [List.mem_cons, List.not_mem_nil, or_false, not_or]
        generalize h'.objs.size = m at he5
        generalize s1.heap.objs.size = n at he5
        subst he5
        refine ⟨fun q => ?_, fun q => ?_, fun q => ?_, fun q => ?_, fun q => ?_⟩
        · exact absurd (show (n + 5 : Nat) = n + 4 from q) (by omega)
        · exact absurd (show (n + 5 : Nat) = n + 2 from q) (by omega)
        · exact absurd (show (n + 5 : Nat) = n + 3 from q) (by omega)
        · exact absurd (show (n + 5 : Nat) = n from q) (by omega)
        · exact absurd (show (n + 5 : Nat) = n + 1 from q) (by omega)
      · have hle : s1.heap.objs.size ≤ c := by
          simp only [List.mem_cons, List.not_mem_nil, or_false] at hcm
          rcases hcm with z | z | z | z | z | z
          · rw [z, he5]; exact Nat.le_add_right _ _
          · rw [z]; exact Nat.le_add_right _ _
          · rw [z]; exact Nat.le_add_right _ _
          · rw [z]; exact Nat.le_add_right _ _
          · rw [z]; exact Nat.le_refl _
          · rw [z]; exact Nat.le_add_right _ _
        exact I1.fpOk hle (I1.hok.fresh hle)
end EZ

set_option Elab.async false
set_option linter.all false
set_option maxRecDepth 100000
set_option maxHeartbeats 4000000
namespace DL
open PySem PySem.Spec PyProof.Rows L2
open Evl (Ex)
/-! ### enumerate(zip(a, b)) -/
def ezD : Nat → List D → List D → List D
  | i, a :: l, b :: m => .tup [.int i, pairD a b] :: ezD (i + 1) l m
  | _, _, _ => []
theorem ezD_len : ∀ (i : Nat) (l m : List D), (ezD i l m).length = min l.length m.length
  | _, [], m => by simp [ezD]
  | _, _ :: _, [] => by simp [ezD]
  | i, a :: l, b :: m => by simp only [ezD, List.length_cons, ezD_len (i + 1) l m]; omega
theorem ezD_get : ∀ {i : Nat} {l m : List D} {j : Nat} {d e : D}, l[j]? = some d → m[j]? = some e → (ezD i l m)[j]? = some (.tup [.int ((i + j : Nat) : Int), pairD d e])
  | i, a :: l, b :: m, 0, d, e, h1, h2 => by
    cases h1
    cases h2
    rfl
  | i, a :: l, b :: m, j + 1, d, e, h1, h2 => by
    show (ezD (i + 1) l m)[j]? = _
    rw [ezD_get (i := i + 1) (l := l) (m := m) (j := j) h1 h2, show i + 1 + j = i + (j + 1) by omega]
  | i, [], _, j, d, e, h1, _ => by simp at h1
  | i, _ :: _, [], j, d, e, _, h2 => by simp at h2
theorem itd_ez {K : PySem.W.Frag} {a b : Addr} {B0 : Hp} {vs ws : List V} {l m : List D} (h : SqT K B0 a vs) (r : RpL K B0 vs l) (h' : SqT K B0 b ws) (r' : RpL K B0 ws m) : ItD K (EZ.Itez K a b) B0 (ezD 0 l m) where
  go := fun B H e1 e2 i hi => by
    rw [ezD_len, ← r.len, ← r'.len] at hi
    exact ⟨vs, ws, vs[i], ws[i], Evl.ex_t (e1.trans e2) h, Evl.ex_t (e1.trans e2) h', by simp [show i < vs.length by omega], by simp [show i < ws.length by omega]⟩
  stop := fun B H e1 e2 => ⟨vs, ws, Evl.ex_t (e1.trans e2) h, Evl.ex_t (e1.trans e2) h', by rw [ezD_len, r.len, r'.len]; omega⟩
  yld := fun B H e1 e2 i x H' hi y => by
    obtain ⟨T, T', x1, y1, rfl, hT, hT', hne, rfl, f1, f2⟩ := y
    obtain ⟨d, g1, g2⟩ := r.get (f1 vs (Evl.ex_t (e1.trans e2) h))
    obtain ⟨e, g3, g4⟩ := r'.get (f2 ws (Evl.ex_t (e1.trans e2) h'))
    obtain ⟨g, q⟩ := pair_yld e2 hT (g2.mono e1) (g4.mono e1)
    have gg : Grow (upd B T (.tup [x1, y1])) (upd H T (.tup [x1, y1])) (upd (upd B T (.tup [x1, y1])) T' (.tup [.int (i : Nat), .ref T])) (upd (upd H T (.tup [x1, y1])) T' (.tup [.int (i : Nat), .ref T])) := Grow.one g.sub (by rw [upd_ne hne]; exact hT')
    refine ⟨_, _, ezD_get g1 g3, g.trans gg, .tup (.inl (.inl upd_same)) (.cons ?_ (.cons (q.mono gg.vis) .nil))⟩
    have : ((i : Nat) : Int) = ((0 + i : Nat) : Int) := by rw [Nat.zero_add]
    rw [← this]
    exact .int _
section
variable {F : Fam} {E : XK} {e a b c tg : Expr} {es : List Expr} {A B : DE} {R : DA} {pos p p' pos' : Pos} {x : Str}
def dEz (R : DA) : DI := fun xd Γ Rd => R xd Γ fun ws Γ1 => ∃ l m Γ2, fixL Γ1 ws = some ([.tup l, .tup m], Γ2) ∧ Rd (ezD 0 l m) Γ2
theorem pdi_ez {elts : List Expr} {kk : Nat} {tpos : Pos} (hg' : ∀ j, Gl (F.X j) "enumerate") (hm' : ∀ j, (F.X j).mg "enumerate" = none) (hg : ∀ j, Gl (F.X j) "zip") (hm : ∀ j, (F.X j).mg "zip" = none) (ha : PDA F E [a, b] R)
    (hs' : ∀ j, starEach [.Call (.Name "zip" p) [a, b] [] pos] (F.X j).env = [(false, eval (.Call (.Name "zip" p) [a, b] [] pos) (F.X j).env)] := by intro _; rfl)
    (hs : ∀ j, starEach [a, b] (F.X j).env = (false, eval a (F.X j).env) :: starEach [b] (F.X j).env := by intro _; rfl) (hpl : ∀ j, (backTo pos (starEach [b] (F.X j).env)).any (·.1) = false := by intro _; rfl) :
    PDI F E (.Tuple elts kk tpos) (.Call (.Name "enumerate" p') [.Call (.Name "zip" p) [a, b] [] pos] [] pos') (dEz R) :=
  let ⟨_, pa, la⟩ := ha
  ⟨EZ.iEz F.K _, fun j => F.k j ▸ EZ.pi_ez (hg' j) (hm' j) (hg j) (hm j) (pa j) (hs' j) (hs j) (hpl j), fun P hK hE Bv Γ σ H Rd R n h k => la P hK hE Bv Γ σ H _ _ n h fun ws Γ1 vs H1 B1 e1 n1 r1 h1 => by
    obtain ⟨l, m, Γ2, f, h1⟩ := h1
    obtain ⟨B2, e2, n2, r2⟩ := n1.fixedL r1 f
    cases r2 with
    | cons ra rr =>
      cases rr with
      | cons rb rr =>
        cases rr
        cases ra with
        | tup hs hr =>
          cases rb with
          | tup hs' hr' =>
            rename_i a1 v1 a2 v2
            rw [hK] at hs hr hs' hr'
            exact ⟨a1, a2, v1, v2, rfl, Evl.ex_t n2.sub hs, Evl.ex_t n2.sub hs', k _ Γ2 _ H1 B2 (e1.trans e2) n2 (by rw [hK]; exact itd_ez hs hr hs' hr') h1⟩⟩
/-! ### raising -/
/-- what may leave a def's body, of exceptions told by data -/
def dRaise (C : Addr) (b : Str) (okd : D → Prop) (A : DE) : DS := fun xd _ Γ => A xd Γ fun w _ => ∃ d, w = .dat d ∧ okd d ∧ xd C [(b, d)]
theorem pd_raise {q b : Str} {m : Expr} {C fI cc cda : Addr} {ok : V → Prop} {okd : D → Prop} {k : Nat} (hc : ∀ j, (F.X j).calm = true) (T : ∀ j, PySem.SupX.XTxt (F.X j).prog (F.X j).K (F.X j).mg x q b m C fI cc cda) (Nb : PySem.SupX.Nm b) (Fe : PySem.SupX.Fm m) (Te : ∀ j v u, ok v → RelV v u → PySem.SupX.Told (F.X j).prog (F.X j).w b m u)
    (hok : ∀ K H v d, Rp K H v d → okd d → ok v) (hr : ∀ j, Room k (F.X j).A) (tk : ∀ j, Takes (F.X j) (fun cls d _ H => E cls d H)) (ha : PD F E a A) (hg : ∀ j, Gl (F.X j) x := by intro _; rfl)
    (hd : (x == ("__debug__" : Str)) = false := by decide) (he : ∀ j, starEach (a :: []) (F.X j).env = (false, eval a (F.X j).env) :: starEach [] (F.X j).env := by intro _; rfl) (hpl : ∀ j, (backTo pos (starEach [] (F.X j).env)).any (·.1) = false := by intro _; rfl) :
    PDS F E (.Raise (some (.Call (.Name x p) [a] [] pos)) none pos') (dRaise C b okd A) :=
  let ⟨t, pa, la⟩ := ha
  ⟨fun _ σ H => tMkSup b C ok (tCons t tNil) σ H fun cls d H' => E cls d H', fun j => ps_raiseSup (hc j) (T j) Nb Fe (Te j) (hr j) (tk j) (pa_cons (pa j) pa_nil (he j)) (hg j) hd (he j) (hpl j), fun P hK hE Bv Γ σ H Dd D n h k => by
    show t σ H _
    refine la P hK hE Bv Γ σ H _ _ n h fun w Γ1 v H1 B1 e1 n1 r1 h1 => ?_
    obtain ⟨d, rfl, hd, h1⟩ := h1
    refine ⟨v, rfl, hok _ _ _ _ r1 hd, fun d0 hd0 => ?_⟩
    rw [← hE]
    have rr : Rp P.K B1 v d := r1
    refine P.xok C [(b, d)] d0 [(b, v)] _ B1 h1 n1.base (n1.sub.trans (Ex.new hd0)) (n1.frm.trans (Ex.new hd0)) n1.dj upd_same (.cons rr .nil)⟩
end
end DL

set_option Elab.async false
set_option linter.all false
set_option maxRecDepth 100000
set_option maxHeartbeats 4000000
namespace DL
open PySem PySem.Spec PyProof.Rows L2
open Evl (Ex)
/-- by what is asked, told, raised -/
def sdX (pre : List D → Prop) (post : List D → D → Prop) (xp : List D → Addr → List (Str × D) → Prop) : Sd := fun ds Q E => pre ds ∧ (∀ r, post ds r → Q r) ∧ ∀ C fs, xp ds C fs → E C fs
theorem sdX_mono {pre : List D → Prop} {post : List D → D → Prop} {xp : List D → Addr → List (Str × D) → Prop} : ∀ ds Q Q' E E', (∀ r, Q r → Q' r) → (∀ C fs, E C fs → E' C fs) → sdX pre post xp ds Q E → sdX pre post xp ds Q' E' :=
  fun ds Q Q' E E' h1 h2 z => ⟨z.1, fun r q => h1 r (z.2.1 r q), fun C fs q => h2 C fs (z.2.2 C fs q)⟩
structure DnX (P : Program) (w : World) (K : PySem.W.Frag) (mg : Str → Option Value) (base : Heap) (x : Str) (k : Nat) (ps : List Str) (sp : Sp) : Prop where
  ex : ∃ (f : Addr) (fd : FuncData), FnOk P w K mg base (L2.CX P w) k f fd ps sp ∧ mg x = some (.ref f) ∧ PySem.W.keepIn K (.ref f) = true ∧ Binds K fd ps []
theorem Df.dnX {P : Program} {w : World} {K : PySem.W.Frag} {mg : Str → Option Value} {base : Heap} {x : Str} {k : Nat} {ps : List Str} {st : Stmt} {sp : Sp} (d : Df K mg x st ps) (h : ∀ (f : Addr) (fd : FuncData), Fun K x x st f fd → FnOk P w K mg base (L2.CX P w) k f fd ps sp) : DnX P w K mg base x k ps sp := by
  obtain ⟨f, fd, hF, hm, hb⟩ := d.ex
  exact ⟨f, fd, h f fd hF, hm, hF.kp, hb⟩
section
variable {F : Fam} {E : XK} {e : Expr} {es : List Expr} {R : DA} {pos p : Pos} {x : Str} {k : Nat} {ps : List Str} {sd : Sd}
def dCallX (sd : Sd) (R : DA) : DE := fun xd Γ Q => R xd Γ fun ws Γ1 => ∃ ds Γ2, fixL Γ1 ws = some (ds, Γ2) ∧ sd ds (fun r => Q (.dat r) Γ2) xd
theorem le_callX {P : Par} {t : TA} (hm : ∀ ds Q Q' E E', (∀ r, Q r → Q' r) → (∀ C fs, E C fs → E' C fs) → sd ds Q E → sd ds Q' E') (l : LA P t R) : LE P (tCallS (spD P.K sd) (fun _ => P.E) t) (dCallX sd R) := fun Bv Γ σ H Qd Q n h k =>
  l Bv Γ σ H _ _ n h fun ws Γ1 vs H1 B1 e1 n1 r1 h1 => by
    obtain ⟨ds, Γ2, f, h1⟩ := h1
    obtain ⟨B2, e2, n2, r2⟩ := n1.fixedL r1 f
    refine ⟨ds, hidF P Γ2 σ H1, B2, r2, n2.sub, hidF_ex n2, hidF_dj n2, hm _ _ _ _ _ (fun r q v H' B' x1 x2 x3 x4 rp => ?_) (fun C fs z d fvs H' B' x1 x2 x3 x4 x5 x6 => ?_) h1⟩
    · exact finD k ((e1.trans e2).trans x1) (n2.called x1 x2 x3 x4) rp q
    · have n3 := n2.called x1 x2 x3 x4
      exact P.xok C fs d fvs H' B' z n3.base n3.sub n3.frm n3.dj x5 x6
theorem pd_callX (hD : ∀ j, DnX (F.X j).prog (F.X j).w (F.X j).K (F.X j).mg (F.X j).base x k ps (spD (F.X j).K sd)) (hm : ∀ ds Q Q' E E', (∀ r, Q r → Q' r) → (∀ C fs, E C fs → E' C fs) → sd ds Q E → sd ds Q' E') (hr : ∀ j, Room k (F.X j).A) (tk : ∀ j, Takes (F.X j) (fun cls d _ H => E cls d H))
    (ha : PDA F E (e :: es) R) (hg : ∀ j, Gl (F.X j) x := by intro _; rfl) (hdb : (x == ("__debug__" : Str)) = false := by decide) (he : ∀ j, starEach (e :: es) (F.X j).env = (false, eval e (F.X j).env) :: starEach es (F.X j).env := by intro _; rfl) (hpl : ∀ j, (backTo pos (starEach es (F.X j).env)).any (·.1) = false := by intro _; rfl) :
    PD F E (.Call (.Name x p) (e :: es) [] pos) (dCallX sd R) :=
  let ⟨t, pa, la⟩ := ha
  ⟨tCallS (spD F.K sd) (fun _ => E) t, fun j => by
    obtain ⟨f, fd, G, hmg, hk, hb⟩ := (hD j).ex
    exact F.k j ▸ pe_callS G (hr j) (hg j) hmg hk hb (fun σ => passAt (tk j) σ) (pa j) hdb (he j) (hpl j), fun P hK hE => by
      have q := le_callX (P := P) hm (la P hK hE)
      rw [hK, hE] at q
      exact q⟩
end
section
variable {P : Program} {w : World} {K : PySem.W.Frag} {mg : Str → Option Value} {base : Heap}
abbrev cxX (P : Program) (w : World) (K : PySem.W.Frag) (mg : Str → Option Value) (base : Heap) (N : List Str) (qual : Str) (st : Stmt) (f : Addr) (cdv : Value) (A : Around) (outer : List Env) (s : Shared) (H : Hp) (E : XK) : Cx := cxOf (L2.CX P w) P w K mg base N qual (defScope st) f cdv A outer s H E
/-- a def that may raise -/
theorem okDefX {x qual : Str} {st : Stmt} {f : Addr} {fd : FuncData} {N ps : List Str} {k : Nat} {sd : Sd} {T : DS} (F : Fun K x qual st f fd) (S : FnScope N ps (defScope st)) (hps : ps.length ≤ N.length)
    (hl : ∀ ds Q E, sd ds Q E → ds.length = ps.length)
    (hb : ∀ (cdv : Value) (A : Around) (outer : List Env) (s : Shared) (H : Hp) (E : XK), Room k (A.deeper (envOfC qual (defScope st) s.heap.objs.size f cdv)) → Takes (cxX P w K mg base N qual st f cdv A outer s H E) (fun cls d _ H => E cls d H) →
      PassesOwn (model P w) (cxX P w K mg base N qual st f cdv A outer s H E).A (cxX P w K mg base N qual st f cdv A outer s H E).env (cxX P w K mg base N qual st f cdv A outer s H E).xe → PDSs (Fam.of (cxX P w K mg base N qual st f cdv A outer s H E)) E (defBody st) T)
    (hr : ∀ ds Q E, sd ds Q E → T E { nx := fun _ => Q .non, rt := fun d _ => Q d } (startD N.length (ds.map .dat))) : FnOk P w K mg base (L2.CX P w) (k + 1) f fd ps (spD K sd) := by
  refine F.okX S (fun vs H Q E h => ?_) (fun cdv A outer s H vs Q E hroom h => ?_)
  · obtain ⟨ds, F, B, r, _, _, _, h⟩ := h
    rw [r.len]
    exact hl _ _ _ h
  · obtain ⟨ds, F, B, r, e, f', dj, h⟩ := h
    obtain ⟨t, pt, lt⟩ := hb cdv A outer s H E hroom (takes_of rfl rfl rfl rfl) (passes_of rfl)
    refine ⟨t, pt (), ?_⟩
    have hlen : vs.length ≤ N.length := by rw [r.len, hl _ _ _ h]; exact hps
    let Q' : Par := ⟨K, F, [], B, XkD K B F E, E, fun C fs d fvs H' B' z => z d fvs H' B'⟩
    have n : En Q' B (startD N.length (ds.map .dat)) (L2.start N vs) H := En.begin0 (P := Q') rfl r hlen e f' dj
    exact lt Q' rfl rfl B _ _ H _ _ n (hr _ _ _ h) ⟨fun Γ' σ' H' B' x n' q => q .non H' B' x n'.sub n'.frm n'.dj .non, fun d Γ' σ' v H' B' x n' rp q => q v H' B' x n'.sub n'.frm n'.dj rp, fun _ _ _ _ _ _ z => z.elim, fun _ _ _ _ _ _ z => z.elim⟩
end
end DL

set_option Elab.async false
set_option linter.all false
set_option maxRecDepth 100000
set_option maxHeartbeats 4000000
/-! isinstance of a caught error that has fields; a call of a local def that may raise. -/
namespace L2
open PySem PySem.Spec PyProof.Rows
/-- isinstance(e, c), e the error at a, its class D, its dict d -/
def rIsE2 (K : PySem.W.Frag) (D a d : Addr) : List V → Hp → VK → Prop := fun xs H Q => ∃ (c : V) (cv : Value) (b : Bool) (fs : List (Str × V)), xs = [.ref a, c] ∧ (∀ u, RelV c u → u = cv) ∧ PySem.W.kitOne K (.ref D) cv = some b ∧ H d = some (.xd fs) ∧ Q (.bl b) H
theorem call_isE2 {X : Cx} {a D d : Addr} {oe : Obj} {pn : List (Addr × Obj)} (C : ExcC X.K D) (hz : Zc (.ref D) (some d) oe) (hf : ∃ vs, oe.data = .fields vs) : CallR (X.suite a ((a, oe) :: pn)) (.builtin "isinstance") (rIsE2 X.K D a d) := by
  rintro pins s σ H xs us Q I r ⟨c, cv, b, fs, rfl, hcv, e, ed, q⟩
  obtain ⟨u1, u2, rfl, r1, r2⟩ := vals2 r
  obtain rfl : u1 = Value.ref a := r1
  obtain rfl := hcv u2 r2
  obtain ⟨vs, hv⟩ := hf
  obtain ⟨mA, hns, -⟩ : ObjOk X.prog X.w H s.heap d (.xd fs) := I.hok d _ ed
  obtain ⟨od, ho, -⟩ := lookIn_ns hns
  have there := (I.pin (a, oe) (List.mem_append.mpr (.inl List.mem_cons_self))).1
  have J : PySem.W.InstAt s.heap a oe D (some od) := ⟨there, hz.1, by unfold PySem.W.notCls; rw [hv] <;> rfl, by rw [hz.2]; exact ho⟩
  have isC : (PySem.W.clsIn X.K D).isSome = true := by
    obtain ⟨cd, hc, _⟩ := PySem.W.any_some C.hd
    rw [hc]; rfl
  exact PySem.W.kia_one (PySem.W.kitx_exc isC C.hg C.hk C.hs C.ha C.hn C.ht C.hm) I.kIn J e (fun z => nomatch z) fun tk => ⟨.bl b, H, I.tok tk, rfl, q⟩
/-- the i-th slot holds the def at f; what it may let out is told by the slots -/
def tCallLS (i : Nat) (f : Addr) (sp : Sp) (E : St → XK) (t : TA) : TE := fun σ H Q => σ[i]? = some (some (.ref f)) ∧ t σ H fun vs H1 => sp vs H1 Q (E σ)
theorem pe_callLS {X : Cx} {CX : CXT} {k i : Nat} {f : Addr} {fd : FuncData} {ps : List Str} {sp : Sp} {E : St → XK} {x : Str} {p pos : Pos} {e : Expr} {es : List Expr} {t : TA} (F : FnOk X.prog X.w X.K X.mg X.base CX k f fd ps sp) (hr : Room k X.A) (hN : X.N[i]? = some x) (hv : Vis X.env.scope x) (hk : PySem.W.keepIn X.K (.ref f) = true) (hb : Binds X.K fd ps []) (hx : ∀ σ, PassesAt CX X σ (E σ)) (ha : PA X (e :: es) t)
    (h1 : (x == ("__debug__" : Str)) = false := by decide) (h2 : (x == ("__classdict__" : Str)) = false := by decide)
    (h3 : starEach (e :: es) X.env = (false, eval e X.env) :: starEach es X.env := by rfl) (h4 : (backTo pos (starEach es X.env)).any (·.1) = false := by rfl) : PE X (.Call (.Name x p) (e :: es) [] pos) (tCallLS i f sp E t) := by
  refine ⟨fun pins s σ H Q I ⟨hs, ht⟩ => ?_⟩
  have at_ := (pe_var (pos := p) hN hv h1 h2).run pins s σ H (fun v H1 => v = .ref f ∧ H1 = H) I ⟨.ref f, hs, rfl, rfl⟩
  refine wpAny_Call_Name_kw (thn at_ fun u s1 hu => ?_)
  obtain ⟨v, H1, I1, r1, rfl, rfl⟩ := hu
  obtain rfl : u = Value.ref f := r1
  have args := ha.run pos pins s1 σ H1 _ I1 ht
  exact PySem.W.callWith_K (h₀ := X.base) I.ok.mod.kin hk (thn args fun us s2 hus => by
    obtain ⟨vs, H2, I2, r, q⟩ := hus
    exact ⟨I2.kIn, run_fnS F hr hb (hx σ) I2 r q⟩) h3 h4
end L2

set_option Elab.async false
set_option linter.all false
set_option maxRecDepth 100000
set_option maxHeartbeats 4000000
namespace DL
open PySem PySem.Spec PyProof.Rows L2
open Evl (Ex)
section
variable {F : Fam} {E : XK} {a b e : Expr} {es : List Expr} {A : DE} {T : DO} {R : DA} {pos p : Pos} {x : Str} {k : Nat} {ps : List Str} {sd : Sd}
/-- xs + [..], xs a list of its own -/
def dCat (A : DE) (T : DO) : DO := fun xd Γ Q => A xd Γ fun w Γ1 => T xd Γ1 fun m Γ2 => ∃ i p l, w = .slot i ∧ Γ2[i]? = some (.own p l) ∧ l.length + m.length ≤ 100000 ∧ Q (l ++ m) Γ2
theorem pdo_cat (ha : PD F E a A) (hb : PDO F E b T) : PDO F E (.BinOp a .Add b pos) (dCat A T) :=
  let ⟨_, pa, la⟩ := ha; let ⟨_, pb, lb⟩ := hb
  ⟨_, fun j => pe_op op_cat (pa j) (pb j), fun P hK hE Bv Γ σ H Qd Q n h k => la P hK hE Bv Γ σ H _ _ n h fun w Γ1 v H1 B1 e1 n1 r1 h1 =>
    lb P hK hE B1 Γ1 σ H1 _ _ n1 h1 fun m Γ2 q vs H2 B2 e2 n2 z h2 => by
      obtain ⟨i, p, l, rfl, hi, hz, h2⟩ := h2
      obtain ⟨a', us, g1, g2, g3, g4, g5⟩ := n2.own i p l hi
      have r1' : σ[i]? = some (some v) := r1
      rw [g1] at r1'
      cases r1'
      exact ⟨a', q, us, vs, rfl, rfl, g2, z.at_, by rw [g3.len, z.rp.len]; exact Evl.sz_of hz, fun q' hq' => n2.newL (g3.app z.rp) (e1.trans e2) h2 k hq'⟩⟩
/-- a call of a def that raises nothing, its promise of any form -/
theorem pd_callG (hD : ∀ j, Dn (F.X j).prog (F.X j).w (F.X j).K (F.X j).mg (F.X j).base x k ps (spD (F.X j).K sd)) (hm : ∀ ds Q Q' E E', (∀ r, Q r → Q' r) → (∀ C fs, E C fs → E' C fs) → sd ds Q E → sd ds Q' E') (hr : ∀ j, Room k (F.X j).A)
    (ha : PDA F E (e :: es) R) (hg : ∀ j, Gl (F.X j) x := by intro _; rfl) (hdb : (x == ("__debug__" : Str)) = false := by decide) (he : ∀ j, starEach (e :: es) (F.X j).env = (false, eval e (F.X j).env) :: starEach es (F.X j).env := by intro _; rfl) (hpl : ∀ j, (backTo pos (starEach es (F.X j).env)).any (·.1) = false := by intro _; rfl) :
    PD F E (.Call (.Name x p) (e :: es) [] pos) (dCall sd R) :=
  let ⟨t, pa, la⟩ := ha
  ⟨tCall (spD F.K sd) [] E0 t, fun j => by
    obtain ⟨f, fd, G, hmg, hk, hb⟩ := (hD j).ex
    exact F.k j ▸ pe_call G (hr j) (hg j) hmg hk hb .nil pass0 (pa j) hdb (he j) (hpl j), fun P hK hE => hK ▸ le_call hm (la P hK hE)⟩
end
/-! ### a list of its own is forgotten when its slot gets another one -/
def freeOk (Γ : Gm) (i : Nat) : Bool := match Γ[i]? with
  | some (.own true _) => false
  | some _ => true
  | none => false
theorem En.forget {P : Par} {Bv : Hp} {Γ : Gm} {σ : L2.St} {H : Hp} {i : Nat} (n : En P Bv Γ σ H) (hi : freeOk Γ i = true) : En P Bv (Γ.set i .non) σ H where
  len := by rw [List.length_set]; exact n.len
  base := n.base
  sub := n.sub
  frm := n.frm
  dj := n.dj
  dat := fun j e h => by
    rcases get_set h with ⟨rfl, q⟩ | ⟨q, h⟩
    · cases q
    · exact n.dat j e h
  own := fun j p l h => by
    rcases get_set h with ⟨rfl, q⟩ | ⟨q, h⟩
    · cases q
    · exact n.own j p l h
  inj := fun j k p p' l l' a h1 h2 => by
    rcases get_set h1 with ⟨rfl, q⟩ | ⟨q1, h1⟩
    · cases q
    · rcases get_set h2 with ⟨rfl, q⟩ | ⟨q2, h2⟩
      · cases q
      · exact n.inj j k p p' l l' a h1 h2
  pin := fun q hq => by
    obtain ⟨l, h1, h2⟩ := n.pin q hq
    have ne : q.1 ≠ i := fun z => by
      unfold freeOk at hi
      rw [← z, h1] at hi
      cases hi
    exact ⟨l, by rw [List.getElem?_set_ne (Ne.symm ne)]; exact h1, h2⟩
theorem freeOk_lt {Γ : Gm} {i : Nat} (h : freeOk Γ i = true) : i < Γ.length := by
  unfold freeOk at h
  cases q : Γ[i]? with
  | none => rw [q] at h; cases h
  | some s => exact (List.getElem?_eq_some_iff.mp q).1
theorem notOwn_set {Γ : Gm} {i : Nat} (h : freeOk Γ i = true) : notOwn (Γ.set i .non) i = true := by
  unfold notOwn
  rw [List.getElem?_set_self (freeOk_lt h)]
  rfl
def dAsgOF (i : Nat) (A : DO) : DS := fun xd D Γ => A xd Γ fun l Γ1 => freeOk Γ1 i = true ∧ D.nx (Γ1.set i (.own false l))
theorem ls_asgOF {P : Par} {te : TE} {i : Nat} {A : DO} (l : LO P te A) : LS P (tAsg te (gName i)) (dAsgOF i A) := fun Bv Γ σ H Dd D n h k =>
  l Bv Γ σ H _ _ n h fun l Γ1 p vs H1 B1 e1 n1 z h1 => by
    have n2 := n1.forget h1.1
    have no : ∀ (j : Nat) (q : Bool) (m : List DL.D), (Γ1.set i .non)[j]? = some (.own q m) → σ[j]? ≠ some (some (.ref p)) := fun j q m hj => by
      rcases get_set hj with ⟨rfl, q⟩ | ⟨_, hj⟩
      · cases q
      · exact z.no j q m hj
    have n3 := n2.putOwn (notOwn_set h1.1) z.at_ z.bv z.f z.rp no
    rw [List.set_set] at n3
    exact k.nx _ _ H1 B1 e1 n3 h1.2
theorem pd_asgOF {F : Fam} {E : XK} {e : Expr} {pos : Pos} (i : Nat) {x : Str} {pos' : Pos} {A : DO} (hN : ∀ j, (F.X j).N.Nodup) (he : PDO F E e A) (hi : ∀ j, (F.X j).N[i]? = some x := by intro _; rfl) (hx : ∀ j, Loc (F.X j).env.scope x := by first | exact fun _ => .inl rfl | exact fun _ => .inr rfl) (hs : ∀ j, swapsWith e (some (.Name x pos')) pos.line (F.X j).env = pure false := by intro _; rfl)
    (hf : ∀ j, (F.X j).fn x = true ∨ (F.X j).env.scope.names.lookup x = some .local := by first | exact fun _ => .inl rfl | exact fun _ => .inr rfl | assumption) : PDS F E (.Assign [.Name x pos'] e pos) (dAsgOF i A) :=
  let ⟨_, p, l⟩ := he
  ⟨_, fun j => ps_set (hN j) (hi j) (hx j) (p j) (hs j) (hf j), fun P hK hE => ls_asgOF (l P hK hE)⟩
theorem pd_setLcF {F : Fam} {E : XK} {elt tg iter : Expr} {ifs : List Expr} {scope : Scope} {pos : Pos} {I : DI} {G : DG} {ix : List Nat} {tD : DT} {A : DE} (i : Nat) (own : List (Str × Nat)) {y : Str} {py spos : Pos} (hc : ∀ j, (F.X j).calm = true) (hN : ∀ j, (F.X j).N.Nodup) (hi : PDI F E tg iter I)
    (hsw : ∀ j, swapsWith (.ListComp elt [⟨tg, iter, ifs, 0⟩] scope pos) (some (.Name y py)) spos.line (F.X j).env = pure true) (ok : ∀ j, BlkOk (F.X j).N (F.X j).env.scope scope own)
    (hg : PDG (F.blk scope) tg G ix) (ht : PDTs (F.blk scope) E0 ifs tD) (he : PD (F.blk scope) E0 elt A)
    (hy : ∀ j, (F.X j).N[i]? = some y := by intro _; rfl) (hyl : ∀ j, (F.X j).env.scope.names.lookup y = some .local := by intro _; rfl)
    (hix : ∀ i ∈ ix, i ∈ own.map (·.2) := by decide) (hs : ∀ j x, foldedSetIterable iter (F.X j).env x = pure x := by intro _ _; rfl) : PDS F E (.Assign [.Name y py] (.ListComp elt [⟨tg, iter, ifs, 0⟩] scope pos) spos) (dAsgOF i (dLc I G tD A (own.map (·.2)))) :=
  let ⟨_, p1, l1⟩ := hi; let ⟨_, p2, l2⟩ := hg; let ⟨_, p3, l3⟩ := ht; let ⟨_, p4, l4⟩ := he
  ⟨_, fun j => ps_setLc (hc j) (hN j) (hy j) (hyl j) (hsw j) (p1 j) (ok j) (fun s H C cl fp => p2 (j, s, H, C, cl, fp)) (fun s H C cl fp => p3 (j, s, H, C, cl, fp)) (fun s H C cl fp => p4 (j, s, H, C, cl, fp)) (hs j),
    fun P hK hE => ls_asgOF (lo_lc (l1 P hK hE) (fun p acc => l2 (P.lc p acc) hK) (fun p acc => l3 (P.lc p acc) hK rfl) (fun p acc => l4 (P.lc p acc) hK rfl) hix)⟩
end DL

set_option Elab.async false
set_option linter.all false
set_option maxRecDepth 100000
set_option maxHeartbeats 4000000
/-! A head with facts of own exceptions. -/
namespace HX
open PySem PySem.Spec PyProof.Rows L2 He
/-- an own exception: its name, its __init__'s qualified name, its field, that __init__ -/
structure Ed where
  x : Str
  q : Str
  b : Str
  params : Arguments
  body : List Stmt
  scope : Scope
abbrev InO : Type := Option (Str × Str × Arguments × FuncBody × Scope × Addr × List Str × Addr)
def initW (K : PySem.W.Frag) (x : Str) : InO := match K.lookup (ma K (ga K x) "__init__") with
  | some ⟨_, _, .func fd, _⟩ => some (fd.name, fd.qualname, fd.params, fd.body, fd.scope, fd.globals, fd.closure.map (·.1), fd.builtins)
  | _ => none
def Ed.val (d : Ed) : InO := some ("__init__", d.q, d.params, .stmts d.body, d.scope, mainGlobals, ["__class__"], builtinsNs)
def clsB (K : PySem.W.Frag) (C : Addr) : Bool := match K.lookup C with
  | some ⟨.type t, _, .cls cd, sl⟩ => (match cd.mro, sl.toList with
    | .ref C' :: bm, [_, _, _, _, some (.builtin n), _] => decide (t = "type") && (decide (C' = C) && (decide (n = "ValueError.__new__") && (!cd.hasDel && (cd.hasDict && PySem.HandSPX.refsVE bm))))
    | _, _ => false)
  | _ => false
theorem clsB_ok {K : PySem.W.Frag} {C : Addr} (h : clsB K C = true) : ∃ nm q N bs bm sn sub ab col dd k0 k1 k2 k3 k5, K.lookup C = some (excClassObj nm q C N bs bm true sn sub ab col dd k0 k1 k2 k3 k5 "ValueError.__new__") ∧ PySem.HandSPX.refsVE bm = true := by
  unfold clsB at h
  split at h
  · rename_i t dd cd sl ho
    split at h
    · rename_i C' bm k0 k1 k2 k3 n k5 hm hs
      obtain ⟨h1, h⟩ := ba h
      obtain ⟨h2, h⟩ := ba h
      obtain ⟨h3, h⟩ := ba h
      obtain ⟨h4, h⟩ := ba h
      obtain ⟨h5, h6⟩ := ba h
      have e1 := of_decide_eq_true h1
      have e2 := of_decide_eq_true h2
      have e3 := of_decide_eq_true h3
      subst e1 e2 e3
      obtain ⟨nm, bs, mro, ns, qn, hd, sn, sub, ab, col, del⟩ := cd
      dsimp only at hm h4 h5
      have h4' : del = false := by
        cases del with
        | false => rfl
        | true => cases h4
      subst hm h4' h5
      have hsl : sl = #[k0, k1, k2, k3, some (.builtin "ValueError.__new__"), k5] := by
        obtain ⟨l⟩ := sl
        simp only at hs
        rw [hs]
      subst hsl
      exact ⟨nm, qn, ns, bs, bm, sn, sub, ab, col, dd, k0, k1, k2, k3, k5, ho, h6⟩
    · cases h
  · cases h
def cellB (K : PySem.W.Frag) (cc C : Addr) : Bool := match K.lookup cc with
  | some ⟨_, _, .cell (some (.ref D)), _⟩ => decide (D = C)
  | _ => false
theorem cellB_ok {K : PySem.W.Frag} {cc C : Addr} (h : cellB K cc C = true) : ∃ cl cld csl, K.lookup cc = some ⟨cl, cld, .cell (some (.ref C)), csl⟩ := by
  unfold cellB at h
  split at h
  · rename_i cl cld D csl ho
    have e := of_decide_eq_true h
    subst e
    exact ⟨cl, cld, csl, ho⟩
  · cases h
def codB (P : Program) (K : PySem.W.Frag) (cda : Addr) : Bool := match K.lookup cda with
  | some ⟨_, _, .fields vs, _⟩ => (match (vs[2]? : Option Value) with
    | some (Value.str file _) => ((P.main.file : Str) == file)
    | _ => false)
  | _ => false
theorem codB_ok {P : Program} {K : PySem.W.Frag} {cda : Addr} (h : codB P K cda = true) : ∃ ccl cdd vs ccs file tf, K.lookup cda = some ⟨ccl, cdd, .fields vs, ccs⟩ ∧ vs[2]? = some (.str file tf) ∧ ((P.main.file : Str) == file) = true := by
  unfold codB at h
  split at h
  · rename_i ccl cdd vs ccs ho
    split at h
    · rename_i file tf hv
      exact ⟨ccl, cdd, vs, ccs, file, tf, ho, hv, h⟩
    · cases h
  · cases h
/-- what else is asked of __init__ -/
def iniB (P : Program) (K : PySem.W.Frag) (C fI : Addr) (q : Str) : Bool := match K.lookup fI with
  | some ⟨_, _, .func fd, _⟩ => (match fd.defaults, fd.kwdefaults, fd.closure, fd.code with
    | .none, .none, [(_, cc)], .ref cda => PySem.W.codeIn K (.ref cda) q && (cellB K cc C && codB P K cda)
    | _, _, _, _ => false)
  | _ => false
def decO (a : Option Bool) : Bool := match a with
  | some true => true
  | _ => false
theorem decO_ok {a : Option Bool} (h : decO a = true) : a = some true := by
  cases a with
  | none => cases h
  | some b => cases b with
    | true => rfl
    | false => cases h
def excB (P : Program) (K : PySem.W.Frag) (d : Ed) : Bool :=
  eqO (PySem.W.nsIn K mainGlobals d.x) (some (some (.ref (ga K d.x)))) && (clsB K (ga K d.x) && (iniB P K (ga K d.x) (ma K (ga K d.x) "__init__") d.q &&
  (eqO (PySem.W.findIn K (.ref (ga K d.x)) "__setattr__") (some (some (.builtin "object.__setattr__"))) && (eqO (PySem.W.findIn K (.ref (ga K d.x)) d.b) (some none) && (eqO (PySem.W.findIn K (.ref (ga K d.x)) "__init__") (some (some (.ref (ma K (ga K d.x) "__init__")))) &&
  (decide (PySem.W.typeIn K (.ref (ma K (ga K d.x) "__init__")) = some (.type "function")) && (PySem.W.keepIn K (.ref (ga K d.x)) && (decO (PySem.W.subIn K (.ref (ga K d.x)) (.type "BaseException")) && (decO (PySem.W.subIn K (.ref (ga K d.x)) (.type "ValueError")) &&
  (decide (PySem.W.typeIn K (.ref (ga K d.x)) = some (.type "type")) && (PySem.W.hasDictIn K (ga K d.x) && (eqO (PySem.W.ks_superIn K (ga K d.x) (ga K d.x) "__init__") (some (some (.builtin "ValueError.__init__"))) &&
  (decO (PySem.W.mroIn K (ga K d.x) (.ref (ga K d.x))) && (eqO (PySem.W.nsIn K cStatics "thirdparty.any") (some none) &&
  (eqO (PySem.W.findIn K (.ref (ga K d.x)) "__getattribute__") (some (some (.builtin "BaseException.__getattribute__"))) && (eqO (PySem.W.findIn K (.ref (ga K d.x)) "__getattr__") (some none) &&
  (eqO (PySem.W.findIn K (.ref (ga K d.x)) "__class__") (some (some (.builtin "object.__class__"))) && (eqO (PySem.W.specialIn K (.builtin "object.__class__") "__get__") (some (some (.builtin "getset_descriptor.__get__"))) &&
  (decO (PySem.W.takesIn K (.builtin "object.__class__")) && decO (PySem.W.mroIn K (ga K d.x) (.type "object")))))))))))))))))))))
structure ExcFacts (P : Program) (K : PySem.W.Frag) (mg : Str → Option Value) (x q b : Str) (e : Expr) (C : Addr) : Prop where
  ex : ∃ fI cc cda, PySem.SupX.XTxt P K mg x q b e C fI cc cda
  ec : ExcC K C
  xf : XfC K C
  noN : PySem.W.findIn K (.ref C) b = some none
theorem excB_ok {P : Program} {K : PySem.W.Frag} {h : Heap} {mg : Str → Option Value} {d : Ed} {e : Expr} {p1 p2 q0 q1 q2 q3 q4 q5 q6 q7 q8 : Pos} (X : K.In h) (G : h.Ns mainGlobals mg) (c : excB P K d = true) (w : initW K d.x = d.val) (hs : mg "super" = none) (top : (P.main.scope.names.lookup ("super" : Str)).isSome = false)
    (hp : d.params = PySem.SupX.iA d.b p1 p2) (hb : d.body = PySem.SupX.iB d.b e q0 q1 q2 q3 q4 q5 q6 q7 q8) (hsc : d.scope = PySem.SupX.iS d.b) (hl : (q2.endLine == q3.line) = true) : ExcFacts P K mg d.x d.q d.b e (ga K d.x) := by
  unfold excB at c
  obtain ⟨c0, c⟩ := ba c
  obtain ⟨c1, c⟩ := ba c
  obtain ⟨c2, c⟩ := ba c
  obtain ⟨c3, c⟩ := ba c
  obtain ⟨c4, c⟩ := ba c
  obtain ⟨c5, c⟩ := ba c
  obtain ⟨c6, c⟩ := ba c
  obtain ⟨c7, c⟩ := ba c
  obtain ⟨c8, c⟩ := ba c
  obtain ⟨c9, c⟩ := ba c
  obtain ⟨c10, c⟩ := ba c
  obtain ⟨c11, c⟩ := ba c
  obtain ⟨c12, c⟩ := ba c
  obtain ⟨c13, c⟩ := ba c
  obtain ⟨c14, c⟩ := ba c
  obtain ⟨c15, c⟩ := ba c
  obtain ⟨c16, c⟩ := ba c
  obtain ⟨c17, c⟩ := ba c
  obtain ⟨c18, c⟩ := ba c
  obtain ⟨c19, c20⟩ := ba c
  refine ⟨?_, ⟨eqO_ok c15, eqO_ok c16, decO_ok c8, c11, eqO_ok c17, eqO_ok c18, decO_ok c19, decO_ok c20⟩, ⟨eqO_ok c15, eqO_ok c16, decO_ok c8, c11⟩, eqO_ok c4⟩
  unfold iniB at c2
  unfold initW at w
  split at c2
  · rename_i oc od fd osl ho
    rw [ho] at w
    split at c2
    · rename_i n cc cda g1 g2 g3 g4
      obtain ⟨d1, d2⟩ := ba c2
      obtain ⟨d3, d4⟩ := ba d2
      obtain ⟨n1, n2, n3, n4, n5, n6, n7, n8, n9, n10, n11, n12, n13, n14, n15⟩ := fd
      dsimp only at g1 g2 g3 g4
      subst g1 g2 g3 g4
      have w2 : (some (n1, n2, n3, n4, n5, n6, [n], n15) : InO) = d.val := w
      unfold Ed.val at w2
      simp only [Option.some.injEq, Prod.mk.injEq, List.cons.injEq, and_true] at w2
      obtain ⟨e1, e2, e3, e4, e5, e6, e7, e8⟩ := w2
      subst e1 e2 e3 e4 e5 e6 e7 e8
      rw [hp, hb, hsc] at ho
      exact ⟨_, cc, cda, ⟨PySem.W.mg_of X G (eqO_ok c0), hs, clsB_ok c1, eqO_ok c3, eqO_ok c4, eqO_ok c5, of_decide_eq_true c6, c7, decO_ok c8, decO_ok c9, of_decide_eq_true c10, c11, eqO_ok c12, decO_ok c13, eqO_ok c14, cellB_ok d3, codB_ok d4, top,
        ⟨oc, od, n10, n11, n12, n14, osl, p1, p2, q0, q1, q2, q3, q4, q5, q6, q7, q8, ho, d1, hl⟩⟩⟩
    · cases c2
  · cases c2
/-! ### the Hook -/
def asX (g : Addr → Option Obj) : Nat → List Addr
  | 0 => [mainGlobals, cStatics]
  | n + 1 => growD g (asX g n)
abbrev AlX : Type := AlD × Bool × List InO
def obsX (P : Program) (fa : List Fa) (fn : List DefD) (es : List Ed) (K : PySem.W.Frag) : AlX := (obsD fa fn K, es.all fun d => excB P K d, es.map fun d => initW K d.x)
def valX (fn : List DefD) (es : List Ed) : AlX := (valD fn, true, es.map Ed.val)
def SaysX (P : Program) (fa : List Fa) (fn : List DefD) (es : List Ed) (K : PySem.W.Frag) : Prop := obsX P fa fn es K = valX fn es
def obsXG (P : Program) (n : Nat) (fa : List Fa) (fn : List DefD) (es : List Ed) (g : Addr → Option Obj) : AlX := obsX P fa fn es (frG g (asX g n))
def hookX (P : Program) (n : Nat) (fa : List Fa) (fn : List DefD) (es : List Ed) : PySem.W.Hook where
  α := AlX
  obs := fun s => obsXG P n fa fn es s.heap.get?
  val := fun _ => valX fn es
  says := fun _ h => ∃ K : PySem.W.Frag, K.In h ∧ SaysX P fa fn es K
  of := fun _ _ e => ⟨_, frG_in, e⟩
  keeps := fun _ _ _ ⟨K, hK, c⟩ k => ⟨K, PySem.W.Frag.In.keeps hK k, c⟩
theorem obsXG_eq {P : Program} {n : Nat} {fa : List Fa} {fn : List DefD} {es : List Ed} {g : Addr → Option Obj} {s : Shared} (h : ∀ a, g a = s.heap.get? a) : obsXG P n fa fn es g = (hookX P n fa fn es).obs s := by
  have e : g = s.heap.get? := funext h
  rw [e] <;> rfl
section
variable {P : Program} {fa : List Fa} {fn : List DefD} {es : List Ed} {K : PySem.W.Frag}
theorem SaysX.d (c : SaysX P fa fn es K) : SaysD fa fn K := congrArg (fun z : AlX => z.1) c
theorem SaysX.exc (c : SaysX P fa fn es K) (i : Nat) {d : Ed} (h : es[i]? = some d := by rfl) : excB P K d = true ∧ initW K d.x = d.val := by
  have c1 : (es.all fun d => excB P K d) = true := congrArg (fun z : AlX => z.2.1) c
  have c2 : (es.map fun d => initW K d.x) = es.map Ed.val := congrArg (fun z : AlX => z.2.2) c
  refine ⟨List.all_eq_true.mp c1 d (List.mem_of_getElem? h), ?_⟩
  have e2 : (es.map fun d => initW K d.x)[i]? = (es.map Ed.val)[i]? := by rw [c2]
  rw [List.getElem?_map, List.getElem?_map, h] at e2
  exact Option.some.inj e2
end
/-- a def without defaults -/
theorem fun_of {K : PySem.W.Frag} {x qual : Str} {st : Stmt} {f : Addr} {fd : FuncData} (F : FunD K x qual (defArgs st) (defBody st) (defScope st) [] [] f fd) : Fun K x qual st f fd := by
  obtain ⟨oc, od, dV, kV, doc, pm, an, cdv, ct, osl, e, l, c, dv, kv⟩ := F.ex
  rcases dv with ⟨_, rfl⟩ | ⟨z, _⟩
  · exact ⟨⟨oc, od, kV, doc, pm, an, cdv, ct, osl, e, l, c⟩, F.kp⟩
  · exact absurd rfl z
end HX

set_option Elab.async false
set_option linter.all false
set_option maxRecDepth 100000
set_option maxHeartbeats 4000000
namespace K05
open PySem PySem.Spec PyProof.Rows L2 DL
open Evl (Ex)
def top (i : Nat) : Stmt := PySem.Challenge.pw_larderdays_k05_oldest_first.main.body.getD i (.Pass ⟨0, 0, 0, 0⟩)
/-- the built-ins that stand -/
structure Tx (mg : Str → Option Value) : Prop where
  len : mg "len" = none
  int : mg "int" = none
  max : mg "max" = none
  min : mg "min" = none
  tuple : mg "tuple" = none
  list : mg "list" = none
  sum : mg "sum" = none
  range : mg "range" = none
  zip : mg "zip" = none
  enumerate : mg "enumerate" = none
/-! ### the law's own small defs -/
abbrev dI (n : Int) : D := .int n
/-- the box of digits: any ints, a place -/
def Box (l : List D) : Prop := ∃ (gs : List Int) (t : Nat), l = [lI gs, .int t]
local macro_rules | `(tactic| walk_at "rd") => `(tactic| simp only [dSeq, dIfS, dB, dOp, dVar, dC, dCB, dCO, dACons, dANil, dRet, dAsg, dAsgO, dExpr, dSetIx, dApp, dOf, dTup, dLst, dUn, dFor, dRng1, dRng2, dItL, dItT, dZip, dLc, dNext, dAnd, dOr, dNot, dAndV, dOrV, dIfE, dYes, dAug, dCall, dCallB, dBreak, dCont, dRetN, sdR, sdBR, dIsN,
  rdLen, rdInt, rdMM, rdTup, rdLstOf, rdSum, rdIx, rdI, rdI0, rdEq, rdIn, asD, itemsOf_lst, itemsOf_tup, fix, fixL, startD, notOwn, okW, wipeG, dgName, dgTup, dgsCons, dgsNil, gAdd, DL.gSub, gMul, gMod, gDiv, gPow, gLt, gLe, gGt, gGe, atI_c0, atI_c1, atI_c2, atI_c3, atI_c4, ixN_21, ixN_20, soft_dat, soft_non, soft_own,
  List.cons_append, List.nil_append, List.map_cons, List.map_nil, List.length_cons, List.length_nil, List.length_map, List.getElem?_cons_zero, List.getElem?_cons_succ, List.set_cons_zero, List.set_cons_succ, List.replicate_succ, List.replicate_zero, Nat.reduceSub, Nat.reduceAdd, Nat.zero_add, List.all_cons, List.all_nil, Option.some.injEq, Prod.mk.injEq, Option.bind_some, reduceCtorEq,
  Wv.dat.injEq, Wv.slot.injEq, D.int.injEq, D.bl.injEq, D.lst.injEq, D.tup.injEq, List.cons.injEq, Sl.dat.injEq, Sl.own.injEq, exists_eq_left, exists_eq_left', exists_and_left, exists_and_right, exists_eq_right, exists_eq, exists_false, exists_const, true_and, and_true, false_and, and_false, ite_true, ite_false, if_true, if_false, eq_self, ↓reduceIte, Bool.and_true, Bool.true_and, and_self, or_false, false_or, Bool.false_eq_true, and_assoc, exists_prop, exists_eq_right_right, exists_eq_right', forall_eq, forall_eq', Int.reducePow, Int.reduceToNat, decide_eq_true_eq])
local macro_rules | `(tactic| walk_at "rs") => `(tactic| simp only [dIfS, dB, dOp, dVar, dC, dCB, dCO, dACons, dANil, dRet, dAsg, dAsgO, dExpr, dSetIx, dApp, dOf, dTup, dLst, dUn, dFor, dRng1, dRng2, dItL, dItT, dZip, dLc, dNext, dAnd, dOr, dNot, dAndV, dOrV, dIfE, dYes, dAug, dCall, dCallB, dBreak, dCont, dRetN, sdR, sdBR, dIsN,
  rdLen, rdInt, rdMM, rdTup, rdLstOf, rdSum, rdIx, rdI, rdI0, rdEq, rdIn, asD, itemsOf_lst, itemsOf_tup, fix, fixL, startD, notOwn, okW, wipeG, dgName, dgTup, dgsCons, dgsNil, gAdd, DL.gSub, gMul, gMod, gDiv, gPow, gLt, gLe, gGt, gGe, atI_c0, atI_c1, atI_c2, atI_c3, atI_c4, ixN_21, ixN_20, soft_dat, soft_non, soft_own,
  List.cons_append, List.nil_append, List.map_cons, List.map_nil, List.length_cons, List.length_nil, List.length_map, List.getElem?_cons_zero, List.getElem?_cons_succ, List.set_cons_zero, List.set_cons_succ, List.replicate_succ, List.replicate_zero, Nat.reduceSub, Nat.reduceAdd, Nat.zero_add, List.all_cons, List.all_nil, Option.some.injEq, Prod.mk.injEq, Option.bind_some, reduceCtorEq,
  Wv.dat.injEq, Wv.slot.injEq, D.int.injEq, D.bl.injEq, D.lst.injEq, D.tup.injEq, List.cons.injEq, Sl.dat.injEq, Sl.own.injEq, exists_eq_left, exists_eq_left', exists_and_left, exists_and_right, exists_eq_right, exists_eq, exists_false, exists_const, true_and, and_true, false_and, and_false, ite_true, ite_false, if_true, if_false, eq_self, ↓reduceIte, Bool.and_true, Bool.true_and, and_self, or_false, false_or, Bool.false_eq_true, and_assoc, exists_prop, exists_eq_right_right, exists_eq_right', forall_eq, forall_eq', Int.reducePow, Int.reduceToNat, decide_eq_true_eq])
section
variable {P : Program} {w : World} {K : PySem.W.Frag} {mg : Str → Option Value} {base : Heap}
abbrev s_law_cell : Stmt := top 10
abbrev N_law_cell : List Str := ["script", "k"]
theorem sc_law_cell : FnScope N_law_cell ["script", "k"] (defScope s_law_cell) := ⟨rfl, rfl, rfl, by decide +kernel, rfl, by decide +kernel, by decide +kernel⟩
abbrev s_law_digits : Stmt := top 11
abbrev N_law_digits : List Str := ["script", "first", "last", "digits", "k", "cell", "turn", "seed"]
theorem sc_law_digits : FnScope N_law_digits ["script", "first", "last"] (defScope s_law_digits) := ⟨rfl, rfl, rfl, by decide +kernel, rfl, by decide +kernel, by decide +kernel⟩
abbrev s_law_draw : Stmt := top 12
abbrev N_law_draw : List Str := ["box", "many", "at"]
theorem sc_law_draw : FnScope N_law_draw ["box", "many"] (defScope s_law_draw) := ⟨rfl, rfl, rfl, by decide +kernel, rfl, by decide +kernel, by decide +kernel⟩
abbrev s_law_counts : Stmt := top 13
abbrev N_law_counts : List Str := ["box", "goods", "most", "good"]
theorem sc_law_counts : FnScope N_law_counts ["box", "goods", "most"] (defScope s_law_counts) := ⟨rfl, rfl, rfl, by decide +kernel, rfl, by decide +kernel, by decide +kernel⟩
abbrev s_law_week : Stmt := top 14
abbrev N_law_week : List Str := ["box", "goods", "most", "week", "day", "orders", "turn", "order"]
theorem sc_law_week : FnScope N_law_week ["box", "goods", "most"] (defScope s_law_week) := ⟨rfl, rfl, rfl, by decide +kernel, rfl, by decide +kernel, by decide +kernel⟩
abbrev s_law_parts : Stmt := top 15
abbrev N_law_parts : List Str := ["box", "goods", "longest", "keep", "patterns", "turn", "budget", "good"]
theorem sc_law_parts : FnScope N_law_parts ["box", "goods", "longest"] (defScope s_law_parts) := ⟨rfl, rfl, rfl, by decide +kernel, rfl, by decide +kernel, by decide +kernel⟩
abbrev s_law_stock : Stmt := top 21
abbrev N_law_stock : List Str := ["box", "parts", "most", "place", "days"]
theorem sc_law_stock : FnScope N_law_stock ["box", "parts", "most"] (defScope s_law_stock) := ⟨rfl, rfl, rfl, by decide +kernel, rfl, by decide +kernel, by decide +kernel⟩
abbrev s_law_sold : Stmt := top 24
abbrev N_law_sold : List Str := ["stock", "order", "rows", "good", "left", "place", "row"]
theorem sc_law_sold : FnScope N_law_sold ["stock", "order"] (defScope s_law_sold) := ⟨rfl, rfl, rfl, by decide +kernel, rfl, by decide +kernel, by decide +kernel⟩

def preCell (ds : List D) : Prop := ∃ (ns : List Int) (k : Nat), ds = [lI ns, .int k]
def postCell (ds : List D) (r : D) : Prop := ∃ v : Int, r = .int v
abbrev SpCell (K : PySem.W.Frag) : Sp := spD K (sdR preCell postCell)
theorem ok_law_cell {f : Addr} {fd : FuncData} {k : Nat} (T : Tx mg) (F : Fun K "_law_cell" "_law_cell" s_law_cell f fd) : FnOk P w K mg base CX0 (k + 1) f fd ["script", "k"] (SpCell K) := by
  refine' okDef F sc_law_cell (by decide) ?hl ?hb ?hr
  case hb =>
    intro cdv A outer s H E hr
    exact (pds_cons (pd_if (pdt_lt (pd_var 1) (pd_len (fun _ => rfl) (fun _ => T.len) (pda_cons (pd_var 0) pda_nil))) (pds_one (pd_ret (pd_ix (pd_var 0) (pd_var 1)))) pds_nil)
    (pds_one (pd_ret pd_int)))
  case hl =>
    rintro ds Q E ⟨⟨ns, k, rfl⟩, _⟩
    rfl
  case hr =>
    rintro ds Q E ⟨⟨ns, k, rfl⟩, q⟩
    walk_at "rd"
    by_cases h : k < ns.length
    · rw [if_pos (by omega)]
      exact ⟨_, atI_int ns h, q _ ⟨_, rfl⟩⟩
    · rw [if_neg (by omega)]
      exact q _ ⟨0, rfl⟩
/-! all the digits of a script -/
def preDig (ds : List D) : Prop := ∃ (ns : List Int), ds = [lI ns, .int 0, .int 63]
def postDig (ds : List D) (r : D) : Prop := ∃ gs : List Int, r = lI gs
abbrev SpDig (K : PySem.W.Frag) : Sp := spD K (sdR preDig postDig)
theorem ok_law_digits {f : Addr} {fd : FuncData} (T : Tx mg) (F : Fun K "_law_digits" "_law_digits" s_law_digits f fd) (D__law_cell : Dn P w K mg base "_law_cell" 1 ["script", "k"] (SpCell K)) : FnOk P w K mg base CX0 2 f fd ["script", "first", "last"] (SpDig K) := by
  refine' okDef F sc_law_digits (by decide) ?hl ?hb ?hr
  case hb =>
    intro cdv A outer s H E hr
    exact (pds_cons (pd_asgO 3 (fun _ => sc_law_digits.nd) (pdo_lst pda_nil))
    (pds_cons (pd_for (fun _ => PassesOwn.never) (fun _ => rfl) (pdi_range2 (fun _ => rfl) (fun _ => T.range) (pda_cons (pd_var 1) (pda_cons (pd_var 2) pda_nil))) (pdg_name 4 (fun _ => sc_law_digits.nd)) (pds_cons (pd_asg 5 (fun _ => sc_law_digits.nd) (pd_callN (fun _ => D__law_cell) (fun _ => hr.mono (by decide)) (pda_cons (pd_var 0) (pda_cons (pd_var 4) pda_nil))))
    (pds_cons (pd_if (pdt_lt (pd_var 5) pd_int) (pds_one (pd_asg 5 (fun _ => sc_law_digits.nd) (pd_sub pd_int (pd_mul pd_int (pd_var 5))))) pds_nil)
    (pds_one (pd_if (pdt_ge (pd_var 5) (pd_pow pd_int pd_int)) (pds_one (pd_for (fun _ => PassesOwn.never) (fun _ => rfl) (pdi_range1 (fun _ => rfl) (fun _ => T.range) (pda_cons pd_int pda_nil)) (pdg_name 6 (fun _ => sc_law_digits.nd)) (pds_one (pd_if (pdt_gt (pd_var 5) pd_int) (pds_cons (pd_app 3 (pd_mod (pd_intOf (fun _ => rfl) (fun _ => T.int) (pda_cons (pd_var 5) pda_nil)) pd_int))
    (pds_one (pd_asg 5 (fun _ => sc_law_digits.nd) (pd_fdiv (pd_var 5) pd_int)))) pds_nil)))) (pds_cons (pd_asg 7 (fun _ => sc_law_digits.nd) (pd_mod (pd_intOf (fun _ => rfl) (fun _ => T.int) (pda_cons (pd_add (pd_add (pd_mul (pd_var 5) pd_int) (pd_mul (pd_var 4) pd_int)) pd_int) pda_nil)) pd_int))
    (pds_one (pd_for (fun _ => PassesOwn.never) (fun _ => rfl) (pdi_range1 (fun _ => rfl) (fun _ => T.range) (pda_cons pd_int pda_nil)) (pdg_name 6 (fun _ => sc_law_digits.nd)) (pds_cons (pd_asg 7 (fun _ => sc_law_digits.nd) (pd_mod (pd_intOf (fun _ => rfl) (fun _ => T.int) (pda_cons (pd_add (pd_add (pd_mul (pd_var 7) pd_int) (pd_mul pd_int (pd_var 6))) pd_int) pda_nil)) pd_int))
    (pds_one (pd_app 3 (pd_mod (pd_intOf (fun _ => rfl) (fun _ => T.int) (pda_cons (pd_fdiv (pd_var 7) pd_int) pda_nil)) pd_int))))))))))))
    (pds_one (pd_ret (pd_var 3)))))
  case hl =>
    rintro ds Q E ⟨⟨ns, rfl⟩, _⟩
    rfl
  case hr =>
    rintro ds Q E ⟨⟨ns, rfl⟩, q⟩
    walk_at "rd"
    refine ⟨by decide, by decide, by decide, by decide, by decide, ?_⟩
    refine dLoop_by (fun xs Γ => ∃ (gs : List Int) (c4 c5 c6 c7 : Sl), Γ = [.dat (lI ns), .dat (.int 0), .dat (.int 63), .own false (gs.map .int), c4, c5, c6, c7] ∧ soft c4 = true ∧ soft c5 = true ∧ soft c6 = true ∧ soft c7 = true ∧ gs.length + 60 * xs.length ≤ 4000 ∧ ∀ x ∈ xs, ∃ k : Nat, x = .int k ∧ k ≤ 63) ?_ ?_ _ _ ⟨[], _, _, _, _, rfl, rfl, rfl, rfl, rfl, by decide, ?_⟩
    · rintro Γ ⟨gs, c4, c5, c6, c7, rfl, _, _, _, _, _, _⟩
      walk_at "rd"
      exact q _ ⟨gs, rfl⟩
    · rintro x r Γ ⟨gs, c4, c5, c6, c7, rfl, h4, h5, h6, h7, hl, hx⟩
      obtain ⟨k, rfl, hk⟩ := hx x List.mem_cons_self
      have hx' : ∀ x ∈ r, ∃ k : Nat, x = .int k ∧ k ≤ 63 := fun x hx2 => hx x (List.mem_cons_of_mem _ hx2)
      rw [List.length_cons] at hl
      refine ⟨_, if_pos h4, fun L hL => ?_⟩
      rw [seq_go]
      walk_at "rs"
      refine ⟨⟨ns, k, rfl⟩, ?_⟩
      rintro r' ⟨v, rfl⟩
      refine ⟨h5, ?_⟩
      refine seq_cut (fun Γ => ∃ v : Int, 0 ≤ v ∧ Γ = [.dat (lI ns), .dat (.int 0), .dat (.int 63), .own false (gs.map .int), .dat (.int k), .dat (.int v), c6, c7]) ?_ ?_
      · rintro Γ ⟨v, hv, rfl⟩
        walk_at "rs"
        refine ⟨⟨by decide, by decide, by decide⟩, ?_⟩
        by_cases hb : (1000000000000000000 : Int) ≤ v
        · rw [if_pos hb]
          refine ⟨by decide, by decide, ?_⟩
          refine dLoop_by (fun xs Γ => ∃ (gs' : List Int) (v : Int) (c6 : Sl), Γ = [.dat (lI ns), .dat (.int 0), .dat (.int 63), .own false (gs'.map .int), .dat (.int k), .dat (.int v), c6, c7] ∧ soft c6 = true ∧ gs'.length + xs.length ≤ gs.length + 60) ?_ ?_ _ _ ⟨gs, v, c6, rfl, h6, by rw [rangeD_len]; exact Nat.le_refl _⟩
          · rintro Γ ⟨gs', v, c6, rfl, h6, hl'⟩
            exact hL _ ⟨gs', _, _, _, _, rfl, rfl, rfl, h6, h7, by rw [List.length_nil] at hl'; omega, hx'⟩
          · rintro x r' Γ ⟨gs', v, c6, rfl, h6, hl'⟩
            refine ⟨_, if_pos h6, fun L' hL' => ?_⟩
            rw [List.length_cons] at hl'
            walk_at "rd"
            by_cases hv : 0 < v
            · rw [if_pos hv]
              refine ⟨⟨_, rfl⟩, by decide, by omega, ⟨by decide, by decide⟩, ?_⟩
              exact hL' _ ⟨gs' ++ [v % 1000], v / 1000, _, by rw [map_snoc], rfl, by rw [List.length_append, List.length_singleton]; omega⟩
            · rw [if_neg hv]
              exact hL' _ ⟨gs', v, _, rfl, rfl, by omega⟩
        · rw [if_neg hb]
          rw [seq_go]
          walk_at "rs"
          refine ⟨.inl ⟨by omega, by omega⟩, .inl ⟨by omega, by omega⟩, by decide, h7, ?_⟩
          refine ⟨by decide, by decide, ?_⟩
          refine dLoop_by (fun xs Γ => ∃ (gs' : List Int) (u : Int) (c6 : Sl), 0 ≤ u ∧ u < 2147483647 ∧ Γ = [.dat (lI ns), .dat (.int 0), .dat (.int 63), .own false (gs'.map .int), .dat (.int k), .dat (.int v), c6, .dat (.int u)] ∧ soft c6 = true ∧ gs'.length + xs.length ≤ gs.length + 12 ∧ ∀ x ∈ xs, ∃ t : Nat, x = .int t ∧ t < 12) ?_ ?_ _ _ ⟨gs, _, c6, Int.emod_nonneg _ (by decide), Int.emod_lt_of_pos _ (by decide), rfl, h6, by rw [rangeD_len]; exact Nat.le_refl _, ?_⟩
          · rintro Γ ⟨gs', u, c6, _, _, rfl, h6, hl', _⟩
            exact hL _ ⟨gs', _, _, _, _, rfl, rfl, rfl, h6, rfl, by rw [List.length_nil] at hl'; omega, hx'⟩
          · rintro x r' Γ ⟨gs', u, c6, hu0, hu1, rfl, h6, hl', hx2⟩
            obtain ⟨t, rfl, ht⟩ := hx2 x List.mem_cons_self
            refine ⟨_, if_pos h6, fun L' hL' => ?_⟩
            rw [List.length_cons] at hl'
            walk_at "rd"
            refine ⟨.inl ⟨by omega, by omega⟩, .inl ⟨by omega, by omega⟩, by decide, ⟨_, rfl⟩, ⟨by decide, by decide⟩, by decide, by omega, ?_⟩
            exact hL' _ ⟨gs' ++ [_], _, _, Int.emod_nonneg _ (by decide), Int.emod_lt_of_pos _ (by decide), by rw [map_snoc], rfl, by rw [List.length_append, List.length_singleton]; omega, fun x hx3 => hx2 x (List.mem_cons_of_mem _ hx3)⟩
          · intro x hx3
            obtain ⟨i, hi, rfl⟩ := mem_rangeD hx3
            exact ⟨i, by rw [Int.zero_add], hi⟩
      · intro L' hL'
        walk_at "rs"
        by_cases hv : v < 0
        · rw [if_pos hv]
          refine ⟨.inl ⟨by decide, by decide⟩, hL' _ ⟨1 - 2 * v, by omega, rfl⟩⟩
        · rw [if_neg hv]
          exact hL' _ ⟨v, by omega, rfl⟩
    · intro x hx
      obtain ⟨i, hi, rfl⟩ := mem_rangeD hx
      refine ⟨i, by rw [Int.zero_add], ?_⟩
      have : i < 63 := hi
      omega
/-! one digit is drawn -/
def preDraw (l ds : List D) : Prop := Box l ∧ ∃ m : Int, 0 < m ∧ ds = [.int m]
def postDraw (l ds : List D) (r : D) (l' : List D) : Prop := Box l' ∧ ∀ m : Int, ds = [.int m] → ∃ v : Int, r = .int v ∧ 0 ≤ v ∧ v < m
abbrev SpDraw (K : PySem.W.Frag) : Sp := spB K (sdBR preDraw postDraw)
theorem ok_law_draw {f : Addr} {fd : FuncData} {k : Nat} (T : Tx mg) (F : Fun K "_law_draw" "_law_draw" s_law_draw f fd) : FnOk P w K mg base CX0 (k + 1) f fd ["box", "many"] (SpDraw K) := by
  refine' okDefB F sc_law_draw (by decide) ?hl ?hb ?hr
  case hb =>
    intro cdv A outer s H E hr
    exact (pds_cons (pd_asg 2 (fun _ => sc_law_draw.nd) (pd_ix (pd_var 0) pd_int))
    (pds_cons (pd_setIx 0 (pd_add (pd_var 2) pd_int) pd_int)
    (pds_cons (pd_if (pdt_lt (pd_var 2) (pd_len (fun _ => rfl) (fun _ => T.len) (pda_cons (pd_ix (pd_var 0) pd_int) pda_nil))) (pds_one (pd_ret (pd_mod (pd_intOf (fun _ => rfl) (fun _ => T.int) (pda_cons (pd_ix (pd_ix (pd_var 0) pd_int) (pd_var 2)) pda_nil)) (pd_var 1)))) pds_nil)
    (pds_one (pd_ret pd_int)))))
  case hl =>
    rintro l ds Q ⟨⟨_, m, _, rfl⟩, _⟩
    rfl
  case hr =>
    rintro l ds Q ⟨⟨⟨gs, t, rfl⟩, m, hm, rfl⟩, q⟩
    walk_at "rd"
    have bx : Box [lI gs, D.int ((t : Int) + 1)] := ⟨gs, t + 1, rfl⟩
    by_cases h : t < gs.length
    · rw [if_pos (by omega)]
      exact ⟨_, atI_int gs h, .inl ⟨_, rfl, hm, q _ _ ⟨bx, fun m' e => by cases e; exact ⟨_, rfl, Int.emod_nonneg _ (by omega), Int.emod_lt_of_pos _ hm⟩⟩⟩⟩
    · rw [if_neg (by omega)]
      exact q _ _ ⟨bx, fun m' e => by cases e; exact ⟨0, rfl, Int.le_refl _, hm⟩⟩
/-! counts -/
def preCnt (l ds : List D) : Prop := Box l ∧ ∃ g m : Nat, g ≤ 1000 ∧ ds = [.int g, .int m]
def postCnt (l ds : List D) (r : D) (l' : List D) : Prop := Box l' ∧ ∀ g m : Nat, ds = [.int g, .int m] → ∃ ns : List Int, r = tI ns ∧ ns.length = g ∧ ∀ n ∈ ns, 0 ≤ n ∧ n ≤ m
abbrev SpCnt (K : PySem.W.Frag) : Sp := spB K (sdBR preCnt postCnt)
theorem ok_law_counts {f : Addr} {fd : FuncData} (T : Tx mg) (F : Fun K "_law_counts" "_law_counts" s_law_counts f fd) (D__law_draw : Dn P w K mg base "_law_draw" 1 ["box", "many"] (SpDraw K)) : FnOk P w K mg base CX0 2 f fd ["box", "goods", "most"] (SpCnt K) := by
  refine' okDefB F sc_law_counts (by decide) ?hl ?hb ?hr
  case hb =>
    intro cdv A outer s H E hr
    exact (pds_one (pd_ret (pd_tupOf (fun _ => rfl) (fun _ => T.tuple) (pda_cons (pd_of (pdo_lc [("good", 3)] (fun _ => rfl) (fun _ => sc_law_counts.nd) (pdi_range1 (fun _ => rfl) (fun _ => T.range) (pda_cons (pd_var 1) pda_nil)) (fun _ => blkOk_by (own := [("good", 3)]) (N := N_law_counts) (sc := defScope s_law_counts) (by decide +kernel)) (pdg_name 3 (fun _ => sc_law_counts.nd)) pdts_nil (pd_callBN 0 (fun _ => D__law_draw) (fun _ => hr.mono (by decide)) (pda_cons (pd_var 0) (pda_cons (pd_add (pd_var 2) pd_int) pda_nil))))) pda_nil))))
  case hl =>
    rintro l ds Q ⟨⟨_, g, m, _, rfl⟩, _⟩
    rfl
  case hr =>
    rintro l ds Q ⟨⟨hb, g, m, hg, rfl⟩, q⟩
    walk_at "rd"
    refine ⟨by omega, by omega, by rw [rangeD_len]; omega, ?_⟩
    refine dLcR_by (fun xs acc Γ => ∃ (l' : List D) (ns : List Int) (c3 : Sl), Box l' ∧ acc = ns.map .int ∧ ns.length + xs.length = g ∧ (∀ n ∈ ns, 0 ≤ n ∧ n ≤ m) ∧ Γ = [.own true l', .dat (.int g), .dat (.int m), c3] ∧ soft c3 = true) ?_ ?_ _ _ _ ⟨l, [], _, hb, rfl, by rw [rangeD_len]; exact Nat.zero_add _, by simp, rfl, rfl⟩
    · rintro acc Γ ⟨l', ns, c3, hb, rfl, hl, hn, rfl, h3⟩ l2 e
      cases e
      exact q _ _ ⟨hb, fun g' m' e => by cases e; exact ⟨ns, rfl, hl, hn⟩⟩
    · rintro x r acc Γ ⟨l', ns, c3, hb, rfl, hl, hn, rfl, h3⟩
      refine ⟨_, if_pos h3, fun L hL => ?_⟩
      walk_at "rd"
      refine ⟨⟨hb, (m : Int) + 1, by omega, rfl⟩, ?_⟩
      rintro r' l2 ⟨hb2, hr⟩
      obtain ⟨v, rfl, v0, v1⟩ := hr _ rfl
      refine hL _ _ ⟨l2, ns ++ [v], _, hb2, map_snoc ns v, by rw [List.length_append, List.length_singleton]; rw [List.length_cons] at hl; omega, fun n hn2 => ?_, rfl, rfl⟩
      rcases List.mem_append.mp hn2 with z | z
      · exact hn n z
      · rw [List.mem_singleton.mp z]; omega
/-! a week -/
abbrev encW (wk : List (List (List Int))) : D := .lst (wk.map ltI)
def WeekOk (g m : Nat) (wk : List (List (List Int))) : Prop := 1 ≤ wk.length ∧ wk.length ≤ 2 ∧ ∀ os ∈ wk, 1 ≤ os.length ∧ os.length ≤ 3 ∧ os.Nodup ∧ ∀ o ∈ os, o.length = g ∧ ∀ n ∈ o, 0 ≤ n ∧ n ≤ (m : Int)
def preWk (l ds : List D) : Prop := Box l ∧ ∃ g m : Nat, g ≤ 1000 ∧ ds = [.int g, .int m]
def postWk (l ds : List D) (r : D) (l' : List D) : Prop := Box l' ∧ ∀ g m : Nat, ds = [.int g, .int m] → ∃ wk, r = encW wk ∧ WeekOk g m wk
abbrev SpWk (K : PySem.W.Frag) : Sp := spB K (sdBR preWk postWk)
theorem ok_law_week {f : Addr} {fd : FuncData} (T : Tx mg) (F : Fun K "_law_week" "_law_week" s_law_week f fd) (D__law_draw : Dn P w K mg base "_law_draw" 1 ["box", "many"] (SpDraw K)) (D__law_counts : Dn P w K mg base "_law_counts" 2 ["box", "goods", "most"] (SpCnt K)) : FnOk P w K mg base CX0 3 f fd ["box", "goods", "most"] (SpWk K) := by
  refine' okDefB F sc_law_week (by decide) ?hl ?hb ?hr
  case hb =>
    intro cdv A outer s H E hr
    exact (pds_cons (pd_asgO 3 (fun _ => sc_law_week.nd) (pdo_lst pda_nil))
    (pds_cons (pd_for (fun _ => PassesOwn.never) (fun _ => rfl) (pdi_range1 (fun _ => rfl) (fun _ => T.range) (pda_cons (pd_add pd_int (pd_callBN 0 (fun _ => D__law_draw) (fun _ => hr.mono (by decide)) (pda_cons (pd_var 0) (pda_cons pd_int pda_nil)))) pda_nil)) (pdg_name 4 (fun _ => sc_law_week.nd)) (pds_cons (pd_asgO 5 (fun _ => sc_law_week.nd) (pdo_lst pda_nil))
    (pds_cons (pd_for (fun _ => PassesOwn.never) (fun _ => rfl) (pdi_range1 (fun _ => rfl) (fun _ => T.range) (pda_cons (pd_add pd_int (pd_callBN 0 (fun _ => D__law_draw) (fun _ => hr.mono (by decide)) (pda_cons (pd_var 0) (pda_cons pd_int pda_nil)))) pda_nil)) (pdg_name 6 (fun _ => sc_law_week.nd)) (pds_cons (pd_asg 7 (fun _ => sc_law_week.nd) (pd_callBN 0 (fun _ => D__law_counts) (fun _ => hr.mono (by decide)) (pda_cons (pd_var 0) (pda_cons (pd_var 1) (pda_cons (pd_var 2) pda_nil)))))
    (pds_one (pd_if (pdt_notIn (fun _ => hu65 hr) (pd_var 7) (pd_var 5)) (pds_one (pd_app 5 (pd_var 7))) pds_nil))))
    (pds_one (pd_app 3 (pd_var 5))))))
    (pds_one (pd_ret (pd_var 3)))))
  case hl =>
    rintro l ds Q ⟨⟨_, g, m, _, rfl⟩, _⟩
    rfl
  case hr =>
    rintro l ds Q ⟨⟨hb, g, m, hg, rfl⟩, q⟩
    walk_at "rd"
    refine ⟨by decide, ⟨hb, 2, by decide, rfl⟩, ?_⟩
    rintro r l1 ⟨hb1, hr⟩
    obtain ⟨x, rfl, x0, x1⟩ := hr 2 rfl
    refine ⟨x, rfl, by omega, by omega, ?_⟩
    refine dLoop_by (fun xs Γ => ∃ (l : List D) (wk : List (List (List Int))) (c4 c5 c6 c7 : Sl), Box l ∧ Γ = [.own true l, .dat (.int g), .dat (.int m), .own false (wk.map ltI), c4, c5, c6, c7] ∧ soft c4 = true ∧ soft c5 = true ∧ soft c6 = true ∧ soft c7 = true ∧ wk.length + xs.length = (1 + x).toNat ∧
      ∀ os ∈ wk, 1 ≤ os.length ∧ os.length ≤ 3 ∧ os.Nodup ∧ ∀ o ∈ os, o.length = g ∧ ∀ n ∈ o, 0 ≤ n ∧ n ≤ (m : Int)) ?_ ?_ _ _ ⟨l1, [], _, _, _, _, hb1, rfl, rfl, rfl, rfl, rfl, by rw [rangeD_len]; exact Nat.zero_add _, by simp⟩
    · rintro Γ ⟨l, wk, c4, c5, c6, c7, hb, rfl, _, _, _, _, hl, hw⟩
      walk_at "rd"
      rw [List.length_nil] at hl
      exact q _ _ ⟨hb, fun g' m' e => by cases e; exact ⟨wk, rfl, by omega, by omega, hw⟩⟩
    · rintro y r Γ ⟨l, wk, c4, c5, c6, c7, hb, rfl, h4, h5, h6, h7, hl, hw⟩
      refine ⟨_, if_pos h4, fun L hL => ?_⟩
      rw [List.length_cons] at hl
      walk_at "rd"
      refine ⟨by decide, h5, ⟨hb, 3, by decide, rfl⟩, ?_⟩
      rintro r2 l2 ⟨hb2, hr2⟩
      obtain ⟨z, rfl, z0, z1⟩ := hr2 3 rfl
      refine ⟨z, rfl, by omega, by omega, ?_⟩
      refine dLoop_by (fun xs Γ => ∃ (l : List D) (os : List (List Int)) (c6 c7 : Sl), Box l ∧ Γ = [.own true l, .dat (.int g), .dat (.int m), .own false (wk.map ltI), .dat y, .own false (os.map tI), c6, c7] ∧ soft c6 = true ∧ soft c7 = true ∧ os.length + xs.length ≤ (1 + z).toNat ∧ (os = [] → xs.length = (1 + z).toNat) ∧ os.Nodup ∧ ∀ o ∈ os, o.length = g ∧ ∀ n ∈ o, 0 ≤ n ∧ n ≤ (m : Int)) ?_ ?_ _ _
        ⟨l2, [], _, _, hb2, rfl, h6, h7, by rw [rangeD_len]; exact Nat.le_of_eq (Nat.zero_add _), fun _ => rangeD_len _ _, List.nodup_nil, by simp⟩
      · rintro Γ ⟨l, os, c6, c7, hb, rfl, h6, h7, ho1, ho2, ho3, ho4⟩
        walk_at "rd"
        rw [List.length_nil] at ho1 ho2
        have hne : 1 ≤ os.length := by
          cases os with
          | nil => have := ho2 rfl; omega
          | cons _ _ => exact Nat.succ_le_succ (Nat.zero_le _)
        refine ⟨⟨_, rfl⟩, by omega, hL _ ⟨l, wk ++ [os], _, _, _, _, hb, by rw [← map_snoc' ltI], rfl, rfl, h6, h7, by rw [List.length_append, List.length_singleton]; omega, fun os' hm => ?_⟩⟩
        rcases List.mem_append.mp hm with hm | hm
        · exact hw os' hm
        · rw [List.mem_singleton.mp hm]
          exact ⟨hne, by omega, ho3, ho4⟩
      · rintro u r3 Γ ⟨l, os, c6, c7, hb, rfl, h6, h7, ho1, ho2, ho3, ho4⟩
        refine ⟨_, if_pos h6, fun L' hL' => ?_⟩
        rw [List.length_cons] at ho1 ho2
        walk_at "rd"
        refine ⟨⟨hb, g, m, hg, rfl⟩, ?_⟩
        rintro r4 l4 ⟨hb4, hr4⟩
        obtain ⟨o, rfl, og, om⟩ := hr4 g m rfl
        refine ⟨h7, okD_tI o, okD_ltI os, ?_⟩
        intro b hbq
        rw [tI_mem] at hbq
        cases b with
        | true =>
          have hin := hbq.mp rfl
          exact hL' _ ⟨l4, os, _, _, hb4, rfl, rfl, rfl, by omega, fun e => by rw [e] at hin; simp at hin, ho3, ho4⟩
        | false =>
          have hno : o ∉ os := fun h => Bool.false_ne_true (hbq.mpr h)
          simp only [Bool.not_false, if_true]
          refine ⟨⟨_, rfl⟩, by omega, hL' _ ⟨l4, os ++ [o], _, _, hb4, by rw [← map_snoc' tI], rfl, rfl, by rw [List.length_append, List.length_singleton]; omega, fun e => by simp at e, ?_, fun o' hm => ?_⟩⟩
          · exact List.nodup_append.mpr ⟨ho3, by simp, fun a ha b hb2 e => hno (by rw [← List.mem_singleton.mp hb2, ← e]; exact ha)⟩
          · rcases List.mem_append.mp hm with hm | hm
            · exact ho4 o' hm
            · rw [List.mem_singleton.mp hm]
              exact ⟨og, om⟩
end
end K05

set_option Elab.async false
set_option linter.all false
set_option maxRecDepth 100000
set_option maxHeartbeats 4000000
namespace K05
open PySem PySem.Spec PyProof.Rows L2 DL
open Evl (Ex)
local macro_rules | `(tactic| walk_at "rd") => `(tactic| simp only [dSeq, dIfS, dB, dOp, dVar, dC, dCB, dCO, dACons, dANil, dRet, dAsg, dAsgO, dExpr, dSetIx, dApp, dOf, dTup, dLst, dUn, dFor, dRng1, dRng2, dItL, dItT, dZip, dLc, dNext, dAnd, dOr, dNot, dAndV, dOrV, dIfE, dYes, dAug, dCall, dCallB, dBreak, dCont, dRetN, sdR, sdBR, dIsN,
  rdLen, rdInt, rdMM, rdTup, rdLstOf, rdSum, rdIx, rdI, rdI0, rdEq, rdIn, asD, itemsOf_lst, itemsOf_tup, fix, fixL, startD, notOwn, okW, wipeG, dgName, dgTup, dgsCons, dgsNil, gAdd, DL.gSub, gMul, gMod, gDiv, gPow, gLt, gLe, gGt, gGe, atI_c0, atI_c1, atI_c2, atI_c3, atI_c4, ixN_21, ixN_20, soft_dat, soft_non, soft_own,
  List.cons_append, List.nil_append, List.map_cons, List.map_nil, List.length_cons, List.length_nil, List.length_map, List.getElem?_cons_zero, List.getElem?_cons_succ, List.set_cons_zero, List.set_cons_succ, List.replicate_succ, List.replicate_zero, Nat.reduceSub, Nat.reduceAdd, Nat.zero_add, List.all_cons, List.all_nil, Option.some.injEq, Prod.mk.injEq, Option.bind_some, reduceCtorEq,
  Wv.dat.injEq, Wv.slot.injEq, D.int.injEq, D.bl.injEq, D.lst.injEq, D.tup.injEq, List.cons.injEq, Sl.dat.injEq, Sl.own.injEq, exists_eq_left, exists_eq_left', exists_and_left, exists_and_right, exists_eq_right, exists_eq, exists_false, exists_const, true_and, and_true, false_and, and_false, ite_true, ite_false, if_true, if_false, eq_self, ↓reduceIte, Bool.and_true, Bool.true_and, and_self, or_false, false_or, Bool.false_eq_true, and_assoc, exists_prop, exists_eq_right_right, exists_eq_right', forall_eq, forall_eq', Int.reducePow, Int.reduceToNat, decide_eq_true_eq])
local macro_rules | `(tactic| walk_at "rs") => `(tactic| simp only [dIfS, dB, dOp, dVar, dC, dCB, dCO, dACons, dANil, dRet, dAsg, dAsgO, dExpr, dSetIx, dApp, dOf, dTup, dLst, dUn, dFor, dRng1, dRng2, dItL, dItT, dZip, dLc, dNext, dAnd, dOr, dNot, dAndV, dOrV, dIfE, dYes, dAug, dCall, dCallB, dBreak, dCont, dRetN, sdR, sdBR, dIsN,
  rdLen, rdInt, rdMM, rdTup, rdLstOf, rdSum, rdIx, rdI, rdI0, rdEq, rdIn, asD, itemsOf_lst, itemsOf_tup, fix, fixL, startD, notOwn, okW, wipeG, dgName, dgTup, dgsCons, dgsNil, gAdd, DL.gSub, gMul, gMod, gDiv, gPow, gLt, gLe, gGt, gGe, atI_c0, atI_c1, atI_c2, atI_c3, atI_c4, ixN_21, ixN_20, soft_dat, soft_non, soft_own,
  List.cons_append, List.nil_append, List.map_cons, List.map_nil, List.length_cons, List.length_nil, List.length_map, List.getElem?_cons_zero, List.getElem?_cons_succ, List.set_cons_zero, List.set_cons_succ, List.replicate_succ, List.replicate_zero, Nat.reduceSub, Nat.reduceAdd, Nat.zero_add, List.all_cons, List.all_nil, Option.some.injEq, Prod.mk.injEq, Option.bind_some, reduceCtorEq,
  Wv.dat.injEq, Wv.slot.injEq, D.int.injEq, D.bl.injEq, D.lst.injEq, D.tup.injEq, List.cons.injEq, Sl.dat.injEq, Sl.own.injEq, exists_eq_left, exists_eq_left', exists_and_left, exists_and_right, exists_eq_right, exists_eq, exists_false, exists_const, true_and, and_true, false_and, and_false, ite_true, ite_false, if_true, if_false, eq_self, ↓reduceIte, Bool.and_true, Bool.true_and, and_self, or_false, false_or, Bool.false_eq_true, and_assoc, exists_prop, exists_eq_right_right, exists_eq_right', forall_eq, forall_eq', Int.reducePow, Int.reduceToNat, decide_eq_true_eq])
section
variable {P : Program} {w : World} {K : PySem.W.Frag} {mg : Str → Option Value} {base : Heap}
/-! the parts of a shop -/
abbrev encP (p : Int × List Int) : D := .tup [.int p.1, tI p.2]
def encB : Option Int → D
  | none => .non
  | some n => .int n
abbrev encParts (keep : List Int) (pats : List (Int × List Int)) (most : Int) (wk : List (List (List Int))) (bud : Option Int) : D := .lst [lI keep, .lst (pats.map encP), .int most, encW wk, encB bud]
structure PartsOk (g h : Nat) (keep : List Int) (pats : List (Int × List Int)) (most : Int) (wk : List (List (List Int))) (bud : Option Int) : Prop where
  kl : keep.length = g
  kb : ∀ n ∈ keep, 1 ≤ n ∧ n ≤ (h : Int)
  p1 : 1 ≤ pats.length
  p3 : pats.length ≤ 3
  pb : ∀ p ∈ pats, 0 ≤ p.1 ∧ p.1 ≤ 9 ∧ p.2.length = g ∧ ∀ n ∈ p.2, 0 ≤ n ∧ n ≤ 2
  mb : 1 ≤ most ∧ most ≤ 2
  wb : ∃ m : Nat, 1 ≤ m ∧ m ≤ 3 ∧ WeekOk g m wk
  bb : ∀ n, bud = some n → 0 ≤ n ∧ n < 20
def prePt (l ds : List D) : Prop := Box l ∧ ∃ g h : Nat, g ≤ 100 ∧ 1 ≤ h ∧ h ≤ 100 ∧ ds = [.int g, .int h]
def postPt (l ds : List D) (r : D) (l' : List D) : Prop := Box l' ∧ ∀ g h : Nat, ds = [.int g, .int h] → ∃ keep pats most wk bud, r = encParts keep pats most wk bud ∧ PartsOk g h keep pats most wk bud
abbrev SpPt (K : PySem.W.Frag) : Sp := spB K (sdBR prePt postPt)
theorem pick3 (d : D) {i : Int} (h0 : 0 ≤ i) (h3 : i < 3) : ∃ e, atI [D.non, D.non, d] i = some e ∧ (e = .non ∨ e = d) := by
  have : i = 0 ∨ i = 1 ∨ i = 2 := by omega
  rcases this with rfl | rfl | rfl
  · exact ⟨_, rfl, .inl rfl⟩
  · exact ⟨_, rfl, .inl rfl⟩
  · exact ⟨_, rfl, .inr rfl⟩
theorem ok_law_parts {f : Addr} {fd : FuncData} (T : Tx mg) (F : Fun K "_law_parts" "_law_parts" s_law_parts f fd) (D__law_draw : Dn P w K mg base "_law_draw" 1 ["box", "many"] (SpDraw K)) (D__law_counts : Dn P w K mg base "_law_counts" 2 ["box", "goods", "most"] (SpCnt K)) (D__law_week : Dn P w K mg base "_law_week" 3 ["box", "goods", "most"] (SpWk K)) : FnOk P w K mg base CX0 4 f fd ["box", "goods", "longest"] (SpPt K) := by
  refine' okDefB F sc_law_parts (by decide) ?hl ?hb ?hr
  case hb =>
    intro cdv A outer s H E hr
    exact (pds_cons (pd_setLc 3 [("good", 7)] (fun _ => rfl) (fun _ => sc_law_parts.nd) (pdi_range1 (fun _ => rfl) (fun _ => T.range) (pda_cons (pd_var 1) pda_nil)) (fun _ => sw_true rfl rfl rfl (by decide +kernel)) (fun _ => blkOk_by (own := [("good", 7)]) (N := N_law_parts) (sc := defScope s_law_parts) (by decide +kernel)) (pdg_name 7 (fun _ => sc_law_parts.nd)) pdts_nil (pd_add pd_int (pd_callBN 0 (fun _ => D__law_draw) (fun _ => hr.mono (by decide)) (pda_cons (pd_var 0) (pda_cons (pd_var 2) pda_nil)))))
    (pds_cons (pd_asgO 4 (fun _ => sc_law_parts.nd) (pdo_lst pda_nil))
    (pds_cons (pd_for (fun _ => PassesOwn.never) (fun _ => rfl) (pdi_range1 (fun _ => rfl) (fun _ => T.range) (pda_cons (pd_add pd_int (pd_callBN 0 (fun _ => D__law_draw) (fun _ => hr.mono (by decide)) (pda_cons (pd_var 0) (pda_cons pd_int pda_nil)))) pda_nil)) (pdg_name 5 (fun _ => sc_law_parts.nd)) (pds_one (pd_app 4 (pd_tup (pda_cons (pd_callBN 0 (fun _ => D__law_draw) (fun _ => hr.mono (by decide)) (pda_cons (pd_var 0) (pda_cons pd_int pda_nil))) (pda_cons (pd_callBN 0 (fun _ => D__law_counts) (fun _ => hr.mono (by decide)) (pda_cons (pd_var 0) (pda_cons (pd_var 1) (pda_cons pd_int pda_nil)))) pda_nil))))))
    (pds_cons (pd_asg 6 (fun _ => sc_law_parts.nd) (pd_ix (pd_of (pdo_lst (pda_cons pd_non (pda_cons pd_non (pda_cons (pd_callBN 0 (fun _ => D__law_draw) (fun _ => hr.mono (by decide)) (pda_cons (pd_var 0) (pda_cons pd_int pda_nil))) pda_nil))))) (pd_callBN 0 (fun _ => D__law_draw) (fun _ => hr.mono (by decide)) (pda_cons (pd_var 0) (pda_cons pd_int pda_nil)))))
    (pds_one (pd_ret (pd_of (pdo_lst (pda_cons (pd_var 3) (pda_cons (pd_var 4) (pda_cons (pd_add pd_int (pd_callBN 0 (fun _ => D__law_draw) (fun _ => hr.mono (by decide)) (pda_cons (pd_var 0) (pda_cons pd_int pda_nil)))) (pda_cons (pd_callBN 0 (fun _ => D__law_week) (fun _ => hr.mono (by decide)) (pda_cons (pd_var 0) (pda_cons (pd_var 1) (pda_cons (pd_ix (pd_of (pdo_lst (pda_cons pd_int (pda_cons pd_int (pda_cons pd_int pda_nil))))) (pd_callBN 0 (fun _ => D__law_draw) (fun _ => hr.mono (by decide)) (pda_cons (pd_var 0) (pda_cons pd_int pda_nil)))) pda_nil)))) (pda_cons (pd_var 6) pda_nil)))))))))))))
  case hl =>
    rintro l ds Q ⟨⟨_, g, h, _, _, _, rfl⟩, _⟩
    rfl
  case hr =>
    rintro l ds Q ⟨⟨hb, g, h, hg, hh1, hh, rfl⟩, q⟩
    rw [seq_go]
    walk_at "rs"
    refine ⟨by omega, by omega, by rw [rangeD_len]; omega, ?_⟩
    refine dLcR_by (fun xs acc Γ => ∃ (l' : List D) (ns : List Int) (c7 : Sl), Box l' ∧ acc = ns.map .int ∧ ns.length + xs.length = g ∧ (∀ n ∈ ns, 1 ≤ n ∧ n ≤ (h : Int)) ∧ Γ = [.own true l', .dat (.int g), .dat (.int h), .non, .non, .non, .non, c7] ∧ soft c7 = true) ?_ ?_ _ _ _ ⟨l, [], _, hb, rfl, by rw [rangeD_len]; exact Nat.zero_add _, by simp, rfl, rfl⟩
    · rintro acc Γ ⟨l1, keep, c7, hb1, rfl, hkl, hkb, rfl, h7⟩
      refine ⟨rfl, ?_⟩
      rw [List.length_nil] at hkl
      rw [seq_go]
      walk_at "rs"
      refine ⟨by decide, ?_⟩
      rw [seq_go]
      walk_at "rs"
      refine ⟨⟨hb1, 3, by decide, rfl⟩, ?_⟩
      rintro r2 l2 ⟨hb2, hr2⟩
      obtain ⟨z, rfl, z0, z1⟩ := hr2 3 rfl
      refine ⟨z, rfl, by omega, by omega, ?_⟩
      refine dLoop_by (fun xs Γ => ∃ (l : List D) (ps : List (Int × List Int)) (c5 : Sl), Box l ∧ Γ = [.own true l, .dat (.int g), .dat (.int h), .own false (keep.map .int), .own false (ps.map encP), c5, .non, c7] ∧ soft c5 = true ∧ ps.length + xs.length = (1 + z).toNat ∧ ∀ p ∈ ps, 0 ≤ p.1 ∧ p.1 ≤ 9 ∧ p.2.length = g ∧ ∀ n ∈ p.2, 0 ≤ n ∧ n ≤ 2) ?_ ?_ _ _
        ⟨l2, [], _, hb2, rfl, rfl, by rw [rangeD_len]; exact Nat.zero_add _, by simp⟩
      · rintro Γ ⟨l3, ps, c5, hb3, rfl, h5, hpl, hpb⟩
        rw [List.length_nil] at hpl
        dsimp only
        refine seq_cut (fun Γ => ∃ (l : List D) (bud : Option Int), Box l ∧ (∀ n, bud = some n → 0 ≤ n ∧ n < 20) ∧ Γ = [.own true l, .dat (.int g), .dat (.int h), .own false (keep.map .int), .own false (ps.map encP), c5, .dat (encB bud), c7]) ?_ ?_
        · rintro Γ ⟨l4, bud, hb4, hbud, rfl⟩
          walk_at "rd"
          refine ⟨⟨hb4, 2, by decide, rfl⟩, ?_⟩
          rintro r5 l5 ⟨hb5, hr5⟩
          obtain ⟨x, rfl, x0, x1⟩ := hr5 2 rfl
          refine ⟨x, rfl, by decide, ⟨hb5, 3, by decide, rfl⟩, ?_⟩
          rintro r6 l6 ⟨hb6, hr6⟩
          obtain ⟨y, rfl, y0, y1⟩ := hr6 3 rfl
          obtain ⟨m, hm, hm1, hm3⟩ : ∃ m : Nat, atI [D.int 1, D.int 2, D.int 3] y = some (D.int m) ∧ 1 ≤ m ∧ m ≤ 3 := by
            have : y = 0 ∨ y = 1 ∨ y = 2 := by omega
            rcases this with rfl | rfl | rfl
            · exact ⟨1, rfl, by decide, by decide⟩
            · exact ⟨2, rfl, by decide, by decide⟩
            · exact ⟨3, rfl, by decide, by decide⟩
          refine ⟨y, rfl, _, hm, ⟨hb6, g, m, by omega, rfl⟩, ?_⟩
          rintro r7 l7 ⟨hb7, hr7⟩
          obtain ⟨wk, rfl, hwk⟩ := hr7 g m rfl
          refine ⟨by decide, q _ _ ⟨hb7, fun g' h' e => ?_⟩⟩
          injection e with e1 e2
          injection e1 with e1
          injection e2 with e2
          injection e2 with e2
          have eg : g = g' := by omega
          have eh : h = h' := by omega
          subst eg eh
          exact ⟨keep, ps, 1 + x, wk, bud, rfl, ⟨by omega, hkb, by omega, by omega, hpb, by omega, ⟨m, hm1, hm3, hwk⟩, hbud⟩⟩
        · intro L hL
          walk_at "rd"
          refine ⟨⟨hb3, 20, by decide, rfl⟩, ?_⟩
          rintro r4 l4 ⟨hb4, hr4⟩
          obtain ⟨b0, rfl, b1, b2⟩ := hr4 20 rfl
          refine ⟨by decide, ⟨hb4, 3, by decide, rfl⟩, ?_⟩
          rintro r5 l5 ⟨hb5, hr5⟩
          obtain ⟨i, rfl, i0, i3⟩ := hr5 3 rfl
          obtain ⟨bd, hbd, hbd2⟩ := pick3 (.int b0) i0 i3
          refine ⟨i, rfl, bd, hbd, ?_⟩
          rcases hbd2 with rfl | rfl
          · exact hL _ ⟨l5, none, hb5, (fun n e => by cases e), rfl⟩
          · exact hL _ ⟨l5, some b0, hb5, (fun n e => by cases e; exact ⟨b1, b2⟩), rfl⟩
      · rintro x r3 Γ ⟨l3, ps, c5, hb3, rfl, h5, hpl, hpb⟩
        refine ⟨_, if_pos h5, fun L hL => ?_⟩
        rw [List.length_cons] at hpl
        walk_at "rd"
        refine ⟨⟨_, rfl⟩, ⟨hb3, 10, by decide, rfl⟩, ?_⟩
        rintro r4 l4 ⟨hb4, hr4⟩
        obtain ⟨v, rfl, v0, v1⟩ := hr4 10 rfl
        refine ⟨⟨hb4, g, 2, by omega, rfl⟩, ?_⟩
        rintro r5 l5 ⟨hb5, hr5⟩
        obtain ⟨o, rfl, og, om⟩ := hr5 g 2 rfl
        refine ⟨by decide, by omega, hL _ ⟨l5, ps ++ [(v, o)], _, hb5, by rw [← map_snoc' encP], rfl, by rw [List.length_append, List.length_singleton]; omega, fun p hp => ?_⟩⟩
        rcases List.mem_append.mp hp with hp | hp
        · exact hpb p hp
        · rw [List.mem_singleton.mp hp]
          exact ⟨v0, by show v ≤ 9; omega, og, om⟩
    · rintro x r acc Γ ⟨l1, ns, c7, hb1, rfl, hl, hn, rfl, h7⟩
      refine ⟨_, if_pos h7, fun L hL => ?_⟩
      walk_at "rd"
      refine ⟨⟨hb1, h, by omega, rfl⟩, ?_⟩
      rintro r' l2 ⟨hb2, hr⟩
      obtain ⟨v, rfl, v0, v1⟩ := hr _ rfl
      refine ⟨v, rfl, ?_⟩
      refine hL _ _ ⟨l2, ns ++ [1 + v], _, hb2, map_snoc ns _, by rw [List.length_append, List.length_singleton]; rw [List.length_cons] at hl; omega, fun n hn2 => ?_, rfl, rfl⟩
      rcases List.mem_append.mp hn2 with z | z
      · exact hn n z
      · rw [List.mem_singleton.mp z]; omega
/-! a stock -/
def StockOk (keep : List Int) (m : Nat) (st : List (List Int)) : Prop := st.map (fun r => (r.length : Int)) = keep ∧ ∀ r ∈ st, ∀ n ∈ r, 0 ≤ n ∧ n ≤ (m : Int)
def preSt (l ds : List D) : Prop := Box l ∧ ∃ (keep : List Int) (rest : List D) (m : Nat), keep.length ≤ 100 ∧ (∀ n ∈ keep, 0 ≤ n ∧ n ≤ 100) ∧ ds = [.lst (lI keep :: rest), .int m]
def postSt (l ds : List D) (r : D) (l' : List D) : Prop := Box l' ∧ ∀ (keep : List Int) (rest : List D) (m : Nat), ds = [.lst (lI keep :: rest), .int m] → ∃ st, r = ttI st ∧ StockOk keep m st
abbrev SpSt (K : PySem.W.Frag) : Sp := spB K (sdBR preSt postSt)
theorem ok_law_stock {f : Addr} {fd : FuncData} (T : Tx mg) (F : Fun K "_law_stock" "_law_stock" s_law_stock f fd) (D__law_draw : Dn P w K mg base "_law_draw" 1 ["box", "many"] (SpDraw K)) : FnOk P w K mg base CX0 2 f fd ["box", "parts", "most"] (SpSt K) := by
  refine' okDefB F sc_law_stock (by decide) ?hl ?hb ?hr
  case hb =>
    intro cdv A outer s H E hr
    exact (pds_one (pd_ret (pd_tupOf (fun _ => rfl) (fun _ => T.tuple) (pda_cons (pd_of (pdo_lc [("days", 4)] (fun _ => rfl) (fun _ => sc_law_stock.nd) (pdi_list (pd_ix (pd_var 1) pd_int)) (fun _ => blkOk_by (own := [("days", 4)]) (N := N_law_stock) (sc := defScope s_law_stock) (by decide +kernel)) (pdg_name 4 (fun _ => sc_law_stock.nd)) pdts_nil (pd_tupOf (fun _ => rfl) (fun _ => T.tuple) (pda_cons (pd_of (pdo_lc [("place", 3)] (fun _ => rfl) (fun _ => sc_law_stock.nd) (pdi_range1 (fun _ => rfl) (fun _ => T.range) (pda_cons (pd_var 4) pda_nil)) (fun _ => blkOk_by (own := [("place", 3)]) (by kernel_rfl)) (pdg_name 3 (fun _ => sc_law_stock.nd)) pdts_nil (pd_callBN 0 (fun _ => D__law_draw) (fun _ => hr.mono (by decide)) (pda_cons (pd_var 0) (pda_cons (pd_add (pd_var 2) pd_int) pda_nil))))) pda_nil)))) pda_nil))))
  case hl =>
    rintro l ds Q ⟨⟨_, keep, rest, m, _, _, rfl⟩, _⟩
    rfl
  case hr =>
    rintro l ds Q ⟨⟨hb, keep, rest, m, hkl, hkb, rfl⟩, q⟩
    walk_at "rd"
    refine ⟨by omega, ?_⟩
    refine dLcR_by (fun xs acc Γ => ∃ (l : List D) (st : List (List Int)) (k2 : List Int) (c3 c4 : Sl), Box l ∧ xs = k2.map .int ∧ acc = st.map tI ∧ st.map (fun r => (r.length : Int)) ++ k2 = keep ∧ (∀ r ∈ st, ∀ n ∈ r, 0 ≤ n ∧ n ≤ (m : Int)) ∧ Γ = [.own true l, .dat (.lst (lI keep :: rest)), .dat (.int m), c3, c4] ∧ soft c3 = true ∧ soft c4 = true) ?_ ?_ _ _ _ ⟨l, [], keep, _, _, hb, rfl, rfl, rfl, by simp, rfl, rfl, rfl⟩
    · rintro acc Γ ⟨l, st, k2, c3, c4, hb, hk, rfl, hst, hsb, rfl, h3, h4⟩ l2 e
      cases e
      have : k2 = [] := by
        cases k2 with
        | nil => rfl
        | cons _ _ => cases hk
      subst this
      rw [List.append_nil] at hst
      refine q _ _ ⟨hb, fun k r m' e => ?_⟩
      injection e with e1 e2
      injection e1 with e1
      injection e1 with e1 e3
      injection e1 with e1
      injection e2 with e2
      injection e2 with e2
      have em : (m : Int) = m' := e2
      refine ⟨st, rfl, hst.trans (int_inj e1), fun r hr n hn => ?_⟩
      have := hsb r hr n hn
      omega
    · rintro x r acc Γ ⟨l, st, k2, c3, c4, hb, hk, rfl, hst, hsb, rfl, h3, h4⟩
      refine ⟨_, if_pos h4, fun L hL => ?_⟩
      cases k2 with
      | nil => cases hk
      | cons kd k2 =>
        rw [List.map_cons] at hk
        injection hk with hk1 hk2
        subst hk1 hk2
        have hkd : 0 ≤ kd ∧ kd ≤ 100 := hkb kd (by rw [← hst]; simp)
        walk_at "rd"
        refine ⟨by omega, by omega, h3, by rw [rangeD_len]; omega, ?_⟩
        refine dLcR_by (fun xs acc Γ => ∃ (l : List D) (ns : List Int) (c3 : Sl), Box l ∧ acc = ns.map .int ∧ ns.length + xs.length = kd.toNat ∧ (∀ n ∈ ns, 0 ≤ n ∧ n ≤ (m : Int)) ∧ Γ = [.own true l, .dat (.lst (lI keep :: rest)), .dat (.int m), c3, .dat (.int kd)] ∧ soft c3 = true) ?_ ?_ _ _ _ ⟨l, [], _, hb, rfl, by rw [rangeD_len]; exact Nat.zero_add _, by simp, rfl, rfl⟩
        · rintro acc Γ ⟨l, ns, c3, hb, rfl, hnl, hnb, rfl, h3⟩
          rw [List.length_nil] at hnl
          refine ⟨rfl, hL _ _ ⟨l, st ++ [ns], k2, _, _, hb, rfl, map_snoc' tI st ns, ?_, fun r hr => ?_, rfl, h3, rfl⟩⟩
          · rw [← hst, List.map_append, List.append_assoc]
            have : ((ns.length : Nat) : Int) = kd := by omega
            show _ ++ ([(ns.length : Int)] ++ k2) = _
            rw [this]
            rfl
          · rcases List.mem_append.mp hr with hr | hr
            · exact hsb r hr
            · rw [List.mem_singleton.mp hr]
              exact hnb
        · rintro x r acc Γ ⟨l, ns, c3, hb, rfl, hnl, hnb, rfl, h3⟩
          refine ⟨_, if_pos h3, fun L' hL' => ?_⟩
          rw [List.length_cons] at hnl
          walk_at "rd"
          refine ⟨⟨hb, (m : Int) + 1, by omega, rfl⟩, ?_⟩
          rintro r' l2 ⟨hb2, hr⟩
          obtain ⟨v, rfl, v0, v1⟩ := hr _ rfl
          refine hL' _ _ ⟨l2, ns ++ [v], _, hb2, map_snoc ns v, by rw [List.length_append, List.length_singleton]; omega, fun n hn2 => ?_, rfl, rfl⟩
          rcases List.mem_append.mp hn2 with z | z
          · exact hnb n z
          · rw [List.mem_singleton.mp z]; omega
end
end K05

set_option Elab.async false
set_option linter.all false
set_option maxRecDepth 100000
set_option maxHeartbeats 4000000
namespace K05
open PySem PySem.Spec PyProof.Rows L2 DL
open Evl (Ex)
local macro_rules | `(tactic| walk_at "rd") => `(tactic| simp only [dSeq, dIfS, dB, dOp, dVar, dC, dCB, dCO, dACons, dANil, dRet, dAsg, dAsgO, dAsgOF, dExpr, dSetIx, dApp, dOf, dTup, dLst, dCat, dUn, dFor, dRng1, dRng2, dItL, dItT, dZip, dLc, dNext, dAnd, dOr, dNot, dAndV, dOrV, dIfE, dYes, dAug, dCall, dCallB, dCallX, dRaise, dEz, dBreak, dCont, dRetN, sdR, sdBR, sdX, dIsN,
  rdLen, rdInt, rdMM, rdTup, rdLstOf, rdSum, rdIx, rdI, rdI0, rdEq, rdIn, asD, itemsOf_lst, itemsOf_tup, fix, fixL, startD, notOwn, freeOk, okW, wipeG, dgName, dgTup, dgsCons, dgsNil, gAdd, DL.gSub, gMul, gMod, gDiv, gPow, gLt, gLe, gGt, gGe, atI_c0, atI_c1, atI_c2, atI_c3, atI_c4, ixN_21, ixN_20, soft_dat, soft_non, soft_own,
  List.cons_append, List.nil_append, List.map_cons, List.map_nil, List.length_cons, List.length_nil, List.length_map, List.getElem?_cons_zero, List.getElem?_cons_succ, List.set_cons_zero, List.set_cons_succ, List.replicate_succ, List.replicate_zero, Nat.reduceSub, Nat.reduceAdd, Nat.zero_add, List.all_cons, List.all_nil, Option.some.injEq, Prod.mk.injEq, Option.bind_some, reduceCtorEq,
  Wv.dat.injEq, Wv.slot.injEq, D.int.injEq, D.bl.injEq, D.lst.injEq, D.tup.injEq, List.cons.injEq, Sl.dat.injEq, Sl.own.injEq, exists_eq_left, exists_eq_left', exists_and_left, exists_and_right, exists_eq_right, exists_eq, exists_false, exists_const, true_and, and_true, false_and, and_false, ite_true, ite_false, if_true, if_false, eq_self, ↓reduceIte, Bool.and_true, Bool.true_and, and_self, or_false, false_or, Bool.false_eq_true, and_assoc, exists_prop, exists_eq_right_right, exists_eq_right', forall_eq, forall_eq', Int.reducePow, Int.reduceToNat, decide_eq_true_eq])
local macro_rules | `(tactic| walk_at "rs") => `(tactic| simp only [dIfS, dB, dOp, dVar, dC, dCB, dCO, dACons, dANil, dRet, dAsg, dAsgO, dAsgOF, dExpr, dSetIx, dApp, dOf, dTup, dLst, dCat, dUn, dFor, dRng1, dRng2, dItL, dItT, dZip, dLc, dNext, dAnd, dOr, dNot, dAndV, dOrV, dIfE, dYes, dAug, dCall, dCallB, dCallX, dRaise, dEz, dBreak, dCont, dRetN, sdR, sdBR, sdX, dIsN,
  rdLen, rdInt, rdMM, rdTup, rdLstOf, rdSum, rdIx, rdI, rdI0, rdEq, rdIn, asD, itemsOf_lst, itemsOf_tup, fix, fixL, startD, notOwn, freeOk, okW, wipeG, dgName, dgTup, dgsCons, dgsNil, gAdd, DL.gSub, gMul, gMod, gDiv, gPow, gLt, gLe, gGt, gGe, atI_c0, atI_c1, atI_c2, atI_c3, atI_c4, ixN_21, ixN_20, soft_dat, soft_non, soft_own,
  List.cons_append, List.nil_append, List.map_cons, List.map_nil, List.length_cons, List.length_nil, List.length_map, List.getElem?_cons_zero, List.getElem?_cons_succ, List.set_cons_zero, List.set_cons_succ, List.replicate_succ, List.replicate_zero, Nat.reduceSub, Nat.reduceAdd, Nat.zero_add, List.all_cons, List.all_nil, Option.some.injEq, Prod.mk.injEq, Option.bind_some, reduceCtorEq,
  Wv.dat.injEq, Wv.slot.injEq, D.int.injEq, D.bl.injEq, D.lst.injEq, D.tup.injEq, List.cons.injEq, Sl.dat.injEq, Sl.own.injEq, exists_eq_left, exists_eq_left', exists_and_left, exists_and_right, exists_eq_right, exists_eq, exists_false, exists_const, true_and, and_true, false_and, and_false, ite_true, ite_false, if_true, if_false, eq_self, ↓reduceIte, Bool.and_true, Bool.true_and, and_self, or_false, false_or, Bool.false_eq_true, and_assoc, exists_prop, exists_eq_right_right, exists_eq_right', forall_eq, forall_eq', Int.reducePow, Int.reduceToNat, decide_eq_true_eq])
/-! the program's error -/
abbrev shortInit : Stmt := inClass (top 2) 0
def msgOf : List Stmt → Expr
  | .Expr (.Call _ [e] _ _) _ :: _ => e
  | _ => .Constant .none 0 ⟨0, 0, 0, 0⟩
abbrev msgS : Expr := msgOf (defBody shortInit)
theorem nm_good : PySem.SupX.Nm "good" := ⟨by decide, by decide, by decide, by decide, by decide, by decide, by decide, by decide, fun _ _ _ _ _ _ _ _ _ _ _ _ _ => .of_eq rfl⟩
theorem fm_short : PySem.SupX.Fm msgS := ⟨fun q0 q1 q2 q3 env hq => ⟨(do return (← importBound (.Call (.Name "super" q0) [] [] q1) env).getD true), by
  rw [arm_eval_Call]
  unfold methodCall
  have h1 : methodCallForm 1 (backTo q3 (starEach [msgS] env)) (backToKw q3 (keywordEach [] env)) = true := rfl
  have h2 : methodCallPos true (.Call (.Name "super" q0) [] [] q1) env q2 q3 = pure q3 := by unfold methodCallPos; simp only [hq, Bool.not_true, Bool.false_or, if_true]
  show (do
    let ov ← attributeBase (.Call (.Name "super" q0) [] [] q1) "__init__" env (eval (.Call (.Name "super" q0) [] [] q1) env)
    standAt q2.atName
    let (f, first) ← holding [ov] (calleeOf (methodCallForm 1 (backTo q3 (starEach [msgS] env)) (backToKw q3 (keywordEach [] env))) (.Call (.Name "super" q0) [] [] q1) env ov "__init__")
    let callPos ← methodCallPos (methodCallForm 1 (backTo q3 (starEach [msgS] env)) (backToKw q3 (keywordEach [] env))) (.Call (.Name "super" q0) [] [] q1) env q2 q3
    callWith callPos f first (backTo q3 (starEach [msgS] env)) (backToKw q3 (keywordEach [] env))) = _
  rw [h1, h2]
  rfl⟩, fun _ => rfl⟩
def okN (v : V) : Prop := ∃ i : Int, v = .int i ∧ 0 ≤ i ∧ i < 1000
def okdN (d : D) : Prop := ∃ i : Int, d = .int i ∧ 0 ≤ i ∧ i < 1000
theorem ok_short : ∀ (K : PySem.W.Frag) (H : Hp) (v : V) (d : D), Rp K H v d → okdN d → okN v := by
  rintro K H v d r ⟨i, rfl, h⟩
  cases r
  exact ⟨i, rfl, h⟩
theorem told_short' {P : Program} {w : World} {v : V} {u : Value} (h : okN v) (r : RelV v u) : PySem.SupX.Told P w "good" msgS u := by
  obtain ⟨i, rfl, h0, h1⟩ := h
  obtain ⟨tk, rfl⟩ := r
  intro A E s env m Q hns hm hk hl hq
  show wpAny _ _ (eval (.JoinedStr [.Constant (.str "there is too little of good ") 0 _, .FormattedValue (.Name "good" _) (-1) none _] _) env) Q E s
  refine wpAny_JoinedStr ?_
  show wpAny _ _ (eval (.Constant (.str "there is too little of good ") 0 _) env) _ E s
  refine Calls.Constant_str ⟨_, _, rfl, by decide +kernel, ?_⟩
  show wpAny _ _ (eval (.FormattedValue (.Name "good" _) (-1) none _) env) _ E _
  refine wpAny_FormattedValue_plain (wpAny_Name (wpAny_loadName_local hk hl hns hm ?_) (by decide))
  have hd : i.natAbs.log2 < 1920 := Nat.lt_of_le_of_lt (Nat.log2_le_self _) (by omega)
  have hlen : (Str.empty ++ ("there is too little of good " : Str) ++ ((toString i : String) : Str)).length ≤ sizeLine := by
    have e := int_text_length_le10 (a := i) (k := 4) (by decide) (by omega)
    rw [strLen_append, PySem.ofString_length, sizeLine_eq]
    have e2 : (Str.empty ++ ("there is too little of good " : Str)).length = 28 := by decide +kernel
    rw [e2]
    omega
  exact wpAny_formatField_int hd ⟨_, _, rfl, hlen, hlen, hq _ _⟩

/-! the program's defs -/
section
variable {P : Program} {w : World} {K : PySem.W.Frag} {mg : Str → Option Value} {base : Heap}
abbrev s_oldest_taken : Stmt := top 6
abbrev N_oldest_taken : List Str := ["row", "count", "left", "pieces", "taken"]
theorem sc_oldest_taken : FnScope N_oldest_taken ["row", "count"] (defScope s_oldest_taken) := ⟨rfl, rfl, rfl, by decide +kernel, rfl, by decide +kernel, by decide +kernel⟩
abbrev s_check_enough : Stmt := top 4
abbrev N_check_enough : List Str := ["stock", "order", "good", "row", "count"]
theorem sc_check_enough : FnScope N_check_enough ["stock", "order"] (defScope s_check_enough) := ⟨rfl, rfl, rfl, by decide +kernel, rfl, by decide +kernel, by decide +kernel⟩
abbrev s_issue : Stmt := top 5
abbrev N_issue : List Str := ["stock", "order", "row", "count"]
theorem sc_issue : FnScope N_issue ["stock", "order"] (defScope s_issue) := ⟨rfl, rfl, rfl, by decide +kernel, rfl, by decide +kernel, by decide +kernel⟩
abbrev s_issues : Stmt := top 7
abbrev N_issues : List Str := ["stock", "order", "stocks", "row", "count", "ways", "rows", "left"]
theorem sc_issues : FnScope N_issues ["stock", "order"] (defScope s_issues) := ⟨rfl, rfl, rfl, by decide +kernel, rfl, by decide +kernel, by decide +kernel⟩

/-- oldest first -/
def takeOld : List Int → Int → List Int
  | [], _ => []
  | p :: r, c => (p - if c < p then c else p) :: takeOld r (c - if c < p then c else p)
theorem takeOld_len : ∀ (r : List Int) (c : Int), (takeOld r c).length = r.length
  | [], _ => rfl
  | p :: r, c => by simp only [takeOld, List.length_cons, takeOld_len r]
def preOT (ds : List D) : Prop := ∃ (r : List Int) (c : Int), ds = [tI r, .int c] ∧ r.length ≤ 1000
def postOT (ds : List D) (r : D) : Prop := ∀ (rr : List Int) (c : Int), ds = [tI rr, .int c] → r = tI (takeOld rr c)
abbrev SpOT (K : PySem.W.Frag) : Sp := spD K (sdR preOT postOT)
theorem ok_oldest_taken {f : Addr} {fd : FuncData} {k : Nat} (T : Tx mg) (F : Fun K "oldest_taken" "oldest_taken" s_oldest_taken f fd) : FnOk P w K mg base CX0 (k + 1) f fd ["row", "count"] (SpOT K) := by
  refine' okDef F sc_oldest_taken (by decide) ?hl ?hb ?hr
  case hb =>
    intro cdv A outer s H E hr
    exact (pds_cons (pd_asgO 2 (fun _ => sc_oldest_taken.nd) (pdo_lst pda_nil))
    (pds_cons (pd_for (fun _ => PassesOwn.never) (fun _ => rfl) (pdi_tup (pd_var 0)) (pdg_name 3 (fun _ => sc_oldest_taken.nd)) (pds_cons (pd_asg 4 (fun _ => sc_oldest_taken.nd) (pd_min2 (fun _ => rfl) (fun _ => rfl) (fun _ => T.min) (pda_cons (pd_var 3) (pda_cons (pd_var 1) pda_nil))))
    (pds_cons (pd_app 2 (pd_sub (pd_var 3) (pd_var 4)))
    (pds_one (pd_augSub 1 (fun _ => sc_oldest_taken.nd) (pd_var 4))))))
    (pds_one (pd_ret (pd_tupOf (fun _ => rfl) (fun _ => T.tuple) (pda_cons (pd_var 2) pda_nil))))))
  case hl =>
    rintro ds Q E ⟨⟨r, c, rfl, _⟩, _⟩
    rfl
  case hr =>
    rintro ds Q E ⟨⟨r, c, rfl, hlen⟩, q⟩
    walk_at "rd"
    refine ⟨by decide, ?_⟩
    refine dLoop_by (fun xs Γ => ∃ (done rest : List Int) (c' : Int) (c3 c4 : Sl), xs = rest.map D.int ∧ Γ = [.dat (tI r), .dat (.int c'), .own false (done.map D.int), c3, c4] ∧ soft c3 = true ∧ soft c4 = true ∧ takeOld r c = done ++ takeOld rest c' ∧ done.length + rest.length ≤ 1000) ?_ ?_ _ _
      ⟨[], r, c, _, _, rfl, rfl, rfl, rfl, rfl, by simpa using hlen⟩
    · rintro Γ ⟨done, rest, c', c3, c4, hx, rfl, h3, h4, ht, hl⟩
      have : rest = [] := by
        cases rest with
        | nil => rfl
        | cons _ _ => cases hx
      subst this
      walk_at "rd"
      refine q _ fun rr cc e => ?_
      injection e with e1 e2
      injection e2 with e2
      have e1' := tI_inj e1
      injection e2 with e2
      subst e1'
      subst e2
      rw [ht]
      simp only [takeOld, List.append_nil]
    · rintro x xs Γ ⟨done, rest, c', c3, c4, hx, rfl, h3, h4, ht, hl⟩
      cases rest with
      | nil => cases hx
      | cons p rest =>
        rw [List.map_cons] at hx
        injection hx with hx1 hx2
        subst hx1 hx2
        refine ⟨_, if_pos h3, fun L hL => ?_⟩
        rw [List.length_cons] at hl
        walk_at "rd"
        refine ⟨h4, ⟨_, rfl⟩, by omega, hL _ ⟨done ++ [p - if c' < p then c' else p], rest, c' - (if c' < p then c' else p), .dat (.int p), .dat (.int (if c' < p then c' else p)), rfl, ?_, rfl, rfl, ?_, ?_⟩⟩
        · rw [← map_snoc]
        · rw [ht, takeOld, List.append_assoc]
          rfl
        · rw [List.length_append, List.length_singleton]
          omega
/-- the first good of which there is too little -/
def lackAt : Nat → List (List Int) → List Int → Option Nat
  | i, r :: st, c :: od => if r.sum < c then some i else lackAt (i + 1) st od
  | _, _, _ => none
theorem lackAt_lt : ∀ (i : Nat) (st : List (List Int)) (od : List Int) (g : Nat), lackAt i st od = some g → g < i + st.length
  | _, [], _, _, h => by cases h
  | _, _ :: _, [], _, h => by cases h
  | i, r :: st, c :: od, g, h => by
    unfold lackAt at h
    split at h
    · cases h
      simp only [List.length_cons]
      omega
    · have := lackAt_lt (i + 1) st od g h
      simp only [List.length_cons]
      omega
structure StOd (st : List (List Int)) (od : List Int) : Prop where
  ls : st.length ≤ 100
  lr : ∀ r ∈ st, r.length ≤ 1000
  le : st.length = od.length
def sdCE (C : Addr) : Sd := fun ds Q E => ∃ st od, ds = [ttI st, tI od] ∧ StOd st od ∧ match lackAt 0 st od with
  | none => Q .non
  | some g => E C [("good", .int g)]
theorem sdCE_mono {C : Addr} : ∀ ds Q Q' E E', (∀ r, Q r → Q' r) → (∀ C fs, E C fs → E' C fs) → sdCE C ds Q E → sdCE C ds Q' E' := by
  rintro ds Q Q' E E' h1 h2 ⟨st, od, hd, hs, h⟩
  refine ⟨st, od, hd, hs, ?_⟩
  cases q : lackAt 0 st od with
  | none => rw [q] at h; exact h1 _ h
  | some g => rw [q] at h; exact h2 _ _ h
abbrev XS (P : Program) (K : PySem.W.Frag) (mg : Str → Option Value) (C fI cc cda : Addr) : Prop := PySem.SupX.XTxt P K mg "Short" "Short.__init__" "good" msgS C fI cc cda
theorem told_short {P : Program} {w : World} : ∀ v u, okN v → RelV v u → PySem.SupX.Told P w "good" msgS u := fun _ _ => told_short'
theorem ezD_cons (i : Nat) (r : List Int) (st : List (List Int)) (c : Int) (od : List Int) : ezD i ((r :: st).map tI) ((c :: od).map D.int) = .tup [.int i, .tup [tI r, .int c]] :: ezD (i + 1) (st.map tI) (od.map D.int) := rfl
theorem ok_check_enough {f : Addr} {fd : FuncData} {k : Nat} {C fI cc cda : Addr} (T : Tx mg) (XT : XS P K mg C fI cc cda) (F : Fun K "check_enough" "check_enough" s_check_enough f fd) : FnOk P w K mg base (L2.CX P w) (k + 2) f fd ["stock", "order"] (spD K (sdCE C)) := by
  refine' okDefX F sc_check_enough (by decide) ?hl ?hb ?hr
  case hb =>
    intro cdv A outer s H E hr tk hp
    exact (pds_one (pd_for (fun _ => hp) (fun _ => rfl) (pdi_ez (fun _ => rfl) (fun _ => T.enumerate) (fun _ => rfl) (fun _ => T.zip) (pda_cons (pd_var 0) (pda_cons (pd_var 1) pda_nil))) (pdg_tup (m := 2) (fun _ => rfl) (pdgs_cons (pdg_name 2 (fun _ => sc_check_enough.nd)) (pdgs_cons (pdg_tup (m := 2) (fun _ => rfl) (pdgs_cons (pdg_name 3 (fun _ => sc_check_enough.nd)) (pdgs_cons (pdg_name 4 (fun _ => sc_check_enough.nd)) pdgs_nil))) pdgs_nil))) (pds_one (pd_if (pdt_lt (pd_sum (fun _ => rfl) (fun _ => rfl) (fun _ => T.sum) (pda_cons (pd_var 3) pda_nil)) (pd_var 4)) (pds_one (pd_raise (fun _ => rfl) (fun _ => XT) nm_good fm_short (fun _ => told_short) ok_short (fun _ => hr) (fun _ => tk) (pd_var 2))) pds_nil))))
  case hl =>
    rintro ds Q E ⟨st, od, rfl, _, _⟩
    rfl
  case hr =>
    rintro ds Q E ⟨st, od, rfl, hs, q⟩
    walk_at "rd"
    refine dLoop_by (fun xs Γ => ∃ (i : Nat) (st' : List (List Int)) (od' : List Int) (c2 c3 c4 : Sl), xs = ezD i (st'.map tI) (od'.map D.int) ∧ Γ = [.dat (ttI st), .dat (tI od), c2, c3, c4] ∧ soft c2 = true ∧ soft c3 = true ∧ soft c4 = true ∧ lackAt 0 st od = lackAt i st' od' ∧ st'.length = od'.length ∧ i + st'.length ≤ 100) ?_ ?_ _ _
      ⟨0, st, od, _, _, _, rfl, rfl, rfl, rfl, rfl, rfl, hs.le, by have := hs.ls; omega⟩
    · rintro Γ ⟨i, st', od', c2, c3, c4, hx, rfl, h2, h3, h4, hl, hle, hi⟩
      have : lackAt 0 st od = none := by
        rw [hl]
        cases st' with
        | nil => rfl
        | cons r st' =>
          cases od' with
          | nil => cases hle
          | cons c od' => cases hx
      rw [this] at q
      exact q
    · rintro x xs Γ ⟨i, st', od', c2, c3, c4, hx, rfl, h2, h3, h4, hl, hle, hi⟩
      cases st' with
      | nil => cases hx
      | cons r st' =>
        cases od' with
        | nil => cases hx
        | cons c od' =>
          rw [ezD_cons] at hx
          injection hx with hx1 hx2
          subst hx1 hx2
          have e2 : notOwn [.dat (ttI st), .dat (tI od), c2, c3, c4] 2 = true := h2
          refine ⟨[.dat (ttI st), .dat (tI od), .dat (.int i), .dat (tI r), .dat (.int c)], ?_, fun L hL => ?_⟩
          · have e3 : notOwn [.dat (ttI st), .dat (tI od), .dat (.int i), c3, c4] 3 = true := h3
            have e4 : notOwn [.dat (ttI st), .dat (tI od), .dat (.int i), .dat (tI r), c4] 4 = true := h4
            show (dgName 2 (.int i) _).bind _ = _
            unfold dgName
            rw [if_pos e2]
            show Option.bind (dgTup 2 _ (.tup [tI r, .int c]) [.dat (ttI st), .dat (tI od), .dat (.int i), c3, c4]) _ = _
            show Option.bind (Option.bind (dgName 3 (tI r) _) _) _ = _
            unfold dgName
            rw [if_pos e3]
            show Option.bind (Option.bind (dgName 4 (.int c) [.dat (ttI st), .dat (tI od), .dat (.int i), .dat (tI r), c4]) _) _ = _
            unfold dgName
            rw [if_pos e4]
            rfl
          · simp only [List.length_cons] at hle hi
            walk_at "rd"
            refine ⟨r, rfl, ?_⟩
            by_cases h : r.sum < c
            · rw [if_pos h]
              have : lackAt 0 st od = some i := by rw [hl, lackAt, if_pos h]
              rw [this] at q
              exact ⟨⟨i, rfl, by omega, by omega⟩, q⟩
            · rw [if_neg h]
              exact hL _ ⟨i + 1, st', od', _, _, _, rfl, rfl, rfl, rfl, rfl, by rw [hl, lackAt, if_neg h], by omega, by omega⟩
def soldAll (st : List (List Int)) (od : List Int) : List (List Int) := List.zipWith takeOld st od
def sdIS (C : Addr) : Sd := fun ds Q E => ∃ st od, ds = [ttI st, tI od] ∧ StOd st od ∧ match lackAt 0 st od with
  | none => Q (ttI (soldAll st od))
  | some g => E C [("good", .int g)]
theorem sdIS_mono {C : Addr} : ∀ ds Q Q' E E', (∀ r, Q r → Q' r) → (∀ C fs, E C fs → E' C fs) → sdIS C ds Q E → sdIS C ds Q' E' := by
  rintro ds Q Q' E E' h1 h2 ⟨st, od, hd, hs, h⟩
  refine ⟨st, od, hd, hs, ?_⟩
  cases q : lackAt 0 st od with
  | none => rw [q] at h; exact h1 _ h
  | some g => rw [q] at h; exact h2 _ _ h
theorem ok_issue {f : Addr} {fd : FuncData} {C : Addr} (T : Tx mg) (F : Fun K "issue" "issue" s_issue f fd) (D_oldest_taken : Dn P w K mg base "oldest_taken" 1 ["row", "count"] (SpOT K)) (D_check_enough : DnX P w K mg base "check_enough" 2 ["stock", "order"] (spD K (sdCE C))) : FnOk P w K mg base (L2.CX P w) 3 f fd ["stock", "order"] (spD K (sdIS C)) := by
  refine' okDefX F sc_issue (by decide) ?hl ?hb ?hr
  case hb =>
    intro cdv A outer s H E hr tk hp
    exact (pds_cons (pd_expr (pd_callX (fun _ => D_check_enough) sdCE_mono (fun _ => hr.mono (by decide)) (fun _ => tk) (pda_cons (pd_var 0) (pda_cons (pd_var 1) pda_nil))))
    (pds_one (pd_ret (pd_tupOf (fun _ => rfl) (fun _ => T.tuple) (pda_cons (pd_of (pdo_lc [("row", 2), ("count", 3)] (fun _ => rfl) (fun _ => sc_issue.nd) (pdi_zip (fun _ => rfl) (fun _ => T.zip) (pda_cons (pd_var 0) (pda_cons (pd_var 1) pda_nil))) (fun _ => blkOk_by (own := [("row", 2), ("count", 3)]) (N := N_issue) (sc := defScope s_issue) (by decide +kernel)) (pdg_tup (m := 2) (fun _ => rfl) (pdgs_cons (pdg_name 2 (fun _ => sc_issue.nd)) (pdgs_cons (pdg_name 3 (fun _ => sc_issue.nd)) pdgs_nil))) pdts_nil (pd_callN (fun _ => D_oldest_taken) (fun _ => hr.mono (by decide)) (pda_cons (pd_var 2) (pda_cons (pd_var 3) pda_nil))))) pda_nil)))))
  case hl =>
    rintro ds Q E ⟨st, od, rfl, _, _⟩
    rfl
  case hr =>
    rintro ds Q E ⟨st, od, rfl, hs, q⟩
    walk_at "rd"
    refine ⟨st, od, rfl, hs, ?_⟩
    cases hq : lackAt 0 st od with
    | some g => rw [hq] at q; exact q
    | none =>
      rw [hq] at q
      show (_ : Nat) ≤ _ ∧ _
      refine ⟨by rw [zipD_len, List.length_map, List.length_map]; have := hs.ls; omega, ?_⟩
      refine dLcR_by (fun xs acc Γ => ∃ (st1 : List (List Int)) (od1 : List Int) (st2 : List (List Int)) (od2 : List Int) (c2 c3 : Sl), xs = zipD (st2.map tI) (od2.map D.int) ∧ acc = (soldAll st1 od1).map tI ∧ st = st1 ++ st2 ∧ od = od1 ++ od2 ∧ st1.length = od1.length ∧ Γ = [.dat (ttI st), .dat (tI od), c2, c3] ∧ soft c2 = true ∧ soft c3 = true) ?_ ?_ _ _ _
        ⟨[], [], st, od, _, _, rfl, rfl, rfl, rfl, rfl, rfl, rfl, rfl⟩
      · rintro acc Γ ⟨st1, od1, st2, od2, c2, c3, hx, rfl, e1, e2, hl1, rfl, h2, h3⟩
        have hle := hs.le
        rw [e1, e2, List.length_append, List.length_append] at hle
        have : st2 = [] := by
          cases st2 with
          | nil => rfl
          | cons r st2 =>
            cases od2 with
            | nil => simp only [List.length_cons, List.length_nil] at hle; omega
            | cons c od2 => cases hx
        subst this
        have : od2 = [] := List.eq_nil_of_length_eq_zero (by simp only [List.length_nil] at hle; omega)
        subst this
        rw [List.append_nil] at e1 e2
        subst e1 e2
        exact q
      · rintro x xs acc Γ ⟨st1, od1, st2, od2, c2, c3, hx, rfl, e1, e2, hl1, rfl, h2, h3⟩
        cases st2 with
        | nil => cases hx
        | cons r st2 =>
          cases od2 with
          | nil => cases hx
          | cons c od2 =>
            have hx' : .tup [tI r, .int c] :: zipD (st2.map tI) (od2.map D.int) = x :: xs := hx.symm
            injection hx' with hx1 hx2
            subst hx1 hx2
            refine ⟨[.dat (ttI st), .dat (tI od), .dat (tI r), .dat (.int c)], ?_, fun L hL => ?_⟩
            · have e3 : notOwn [.dat (ttI st), .dat (tI od), c2, c3] 2 = true := h2
              have e4 : notOwn [.dat (ttI st), .dat (tI od), .dat (tI r), c3] 3 = true := h3
              show (dgName 2 (tI r) _).bind _ = _
              unfold dgName
              rw [if_pos e3]
              show Option.bind (dgName 3 (.int c) [.dat (ttI st), .dat (tI od), .dat (tI r), c3]) _ = _
              unfold dgName
              rw [if_pos e4]
              rfl
            · walk_at "rd"
              have hr1 : r.length ≤ 1000 := hs.lr r (by rw [e1]; simp)
              refine ⟨⟨r, c, rfl, hr1⟩, fun rr hrr => ?_⟩
              rw [hrr r c rfl]
              refine hL _ _ ⟨st1 ++ [r], od1 ++ [c], st2, od2, .non, .non, rfl, ?_, by rw [e1, List.append_assoc]; rfl, by rw [e2, List.append_assoc]; rfl, by rw [List.length_append, List.length_append, hl1]; rfl, rfl, rfl, rfl⟩
              unfold soldAll
              rw [List.zipWith_append hl1, List.map_append]
              rfl
def sdNS (C : Addr) : Sd := fun ds Q E => ∃ st od g, ds = [ttI st, tI od] ∧ StOd st od ∧ lackAt 0 st od = some g ∧ E C [("good", .int g)]
theorem sdNS_mono {C : Addr} : ∀ ds Q Q' E E', (∀ r, Q r → Q' r) → (∀ C fs, E C fs → E' C fs) → sdNS C ds Q E → sdNS C ds Q' E' := by
  rintro ds Q Q' E E' h1 h2 ⟨st, od, g, hd, hs, hg, h⟩
  exact ⟨st, od, g, hd, hs, hg, h2 _ _ h⟩
theorem pss_never {F : Fam} {E : XK} {st : List Stmt} : PDSs F E st (fun _ _ _ => False) := ⟨fun _ _ _ => False, fun j => ⟨fun _ _ _ _ _ _ h => h.elim⟩, fun P _ _ Bv Γ σ H Dd D n h k => h.elim⟩
theorem ok_issues {f : Addr} {fd : FuncData} {C : Addr} (F : Fun K "issues" "issues" s_issues f fd) (D_check_enough : DnX P w K mg base "check_enough" 2 ["stock", "order"] (spD K (sdCE C))) : FnOk P w K mg base (L2.CX P w) 3 f fd ["stock", "order"] (spD K (sdNS C)) := by
  refine' okDefX F sc_issues (by decide) ?hl ?hb ?hr
  case hb =>
    intro cdv A outer s H E hr tk hp
    exact pds_cons (pd_expr (pd_callX (fun _ => D_check_enough) sdCE_mono (fun _ => hr.mono (by decide)) (fun _ => tk) (pda_cons (pd_var 0) (pda_cons (pd_var 1) pda_nil)))) pss_never
  case hl =>
    rintro ds Q E ⟨st, od, g, rfl, _, _⟩
    rfl
  case hr =>
    rintro ds Q E ⟨st, od, g, rfl, hs, hg, q⟩
    walk_at "rd"
    refine ⟨st, od, rfl, hs, ?_⟩
    rw [hg]
    exact q
end

end K05

set_option Elab.async false
set_option linter.all false
set_option maxRecDepth 100000
set_option maxHeartbeats 4000000
namespace K05
open PySem PySem.Spec PyProof.Rows L2 DL
open Evl (Ex)
local macro_rules | `(tactic| walk_at "rd") => `(tactic| simp only [dSeq, dIfS, dB, dOp, dVar, dC, dCB, dCO, dACons, dANil, dRet, dAsg, dAsgO, dAsgOF, dExpr, dSetIx, dApp, dOf, dTup, dLst, dCat, dUn, dFor, dRng1, dRng2, dItL, dItT, dZip, dLc, dNext, dAnd, dOr, dNot, dAndV, dOrV, dIfE, dYes, dAug, dCall, dCallB, dCallX, dRaise, dEz, dBreak, dCont, dRetN, sdR, sdBR, sdX, dIsN,
  rdLen, rdInt, rdMM, rdTup, rdLstOf, rdSum, rdIx, rdI, rdI0, rdEq, rdIn, asD, itemsOf_lst, itemsOf_tup, fix, fixL, startD, notOwn, freeOk, okW, wipeG, dgName, dgTup, dgsCons, dgsNil, gAdd, DL.gSub, gMul, gMod, gDiv, gPow, gLt, gLe, gGt, gGe, atI_c0, atI_c1, atI_c2, atI_c3, atI_c4, ixN_21, ixN_20, soft_dat, soft_non, soft_own,
  List.cons_append, List.nil_append, List.map_cons, List.map_nil, List.length_cons, List.length_nil, List.length_map, List.getElem?_cons_zero, List.getElem?_cons_succ, List.set_cons_zero, List.set_cons_succ, List.replicate_succ, List.replicate_zero, Nat.reduceSub, Nat.reduceAdd, Nat.zero_add, List.all_cons, List.all_nil, Option.some.injEq, Prod.mk.injEq, Option.bind_some, reduceCtorEq,
  Wv.dat.injEq, Wv.slot.injEq, D.int.injEq, D.bl.injEq, D.lst.injEq, D.tup.injEq, List.cons.injEq, Sl.dat.injEq, Sl.own.injEq, exists_eq_left, exists_eq_left', exists_and_left, exists_and_right, exists_eq_right, exists_eq, exists_false, exists_const, true_and, and_true, false_and, and_false, ite_true, ite_false, if_true, if_false, eq_self, ↓reduceIte, Bool.and_true, Bool.true_and, and_self, or_false, false_or, Bool.false_eq_true, and_assoc, exists_prop, exists_eq_right_right, exists_eq_right', forall_eq, forall_eq', Int.reducePow, Int.reduceToNat, decide_eq_true_eq])
local macro_rules | `(tactic| walk_at "rs") => `(tactic| simp only [dIfS, dB, dOp, dVar, dC, dCB, dCO, dACons, dANil, dRet, dAsg, dAsgO, dAsgOF, dExpr, dSetIx, dApp, dOf, dTup, dLst, dCat, dUn, dFor, dRng1, dRng2, dItL, dItT, dZip, dLc, dNext, dAnd, dOr, dNot, dAndV, dOrV, dIfE, dYes, dAug, dCall, dCallB, dCallX, dRaise, dEz, dBreak, dCont, dRetN, sdR, sdBR, sdX, dIsN,
  rdLen, rdInt, rdMM, rdTup, rdLstOf, rdSum, rdIx, rdI, rdI0, rdEq, rdIn, asD, itemsOf_lst, itemsOf_tup, fix, fixL, startD, notOwn, freeOk, okW, wipeG, dgName, dgTup, dgsCons, dgsNil, gAdd, DL.gSub, gMul, gMod, gDiv, gPow, gLt, gLe, gGt, gGe, atI_c0, atI_c1, atI_c2, atI_c3, atI_c4, ixN_21, ixN_20, soft_dat, soft_non, soft_own,
  List.cons_append, List.nil_append, List.map_cons, List.map_nil, List.length_cons, List.length_nil, List.length_map, List.getElem?_cons_zero, List.getElem?_cons_succ, List.set_cons_zero, List.set_cons_succ, List.replicate_succ, List.replicate_zero, Nat.reduceSub, Nat.reduceAdd, Nat.zero_add, List.all_cons, List.all_nil, Option.some.injEq, Prod.mk.injEq, Option.bind_some, reduceCtorEq,
  Wv.dat.injEq, Wv.slot.injEq, D.int.injEq, D.bl.injEq, D.lst.injEq, D.tup.injEq, List.cons.injEq, Sl.dat.injEq, Sl.own.injEq, exists_eq_left, exists_eq_left', exists_and_left, exists_and_right, exists_eq_right, exists_eq, exists_false, exists_const, true_and, and_true, false_and, and_false, ite_true, ite_false, if_true, if_false, eq_self, ↓reduceIte, Bool.and_true, Bool.true_and, and_self, or_false, false_or, Bool.false_eq_true, and_assoc, exists_prop, exists_eq_right_right, exists_eq_right', forall_eq, forall_eq', Int.reducePow, Int.reduceToNat, decide_eq_true_eq])
/-! taking pieces one by one -/
def leftOver : List Int → Int → Int
  | [], c => c
  | p :: r, c => leftOver r (c - if c < p then c else p)
theorem leftOver_le : ∀ (r : List Int) (c : Int), (∀ n ∈ r, 0 ≤ n) → 0 ≤ c → c ≤ r.sum → leftOver r c ≤ 0
  | [], c, _, _, h => by simpa [leftOver] using h
  | p :: r, c, hn, hc, h => by
    rw [List.sum_cons] at h
    have hp := hn p (by simp)
    have hr : ∀ n ∈ r, 0 ≤ n := fun n q => hn n (by simp [q])
    have hs : 0 ≤ r.sum := by
      clear hn h hp
      induction r with
      | nil => simp
      | cons a r ih =>
        rw [List.sum_cons]
        have h1 := hr a (by simp)
        have h2 := ih fun n q => hr n (by simp [q])
        omega
    unfold leftOver
    split
    · exact leftOver_le r _ hr (by omega) (by omega)
    · exact leftOver_le r _ hr (by omega) (by omega)
theorem leftOver_app : ∀ (a b : List Int) (c : Int), leftOver (a ++ b) c = leftOver b (leftOver a c)
  | [], _, _ => rfl
  | p :: a, b, c => by
    show leftOver (a ++ b) _ = _
    rw [leftOver_app a b]
    rfl
theorem takeOld_app : ∀ (a b : List Int) (c : Int), takeOld (a ++ b) c = takeOld a c ++ takeOld b (leftOver a c)
  | [], _, _ => rfl
  | p :: a, b, c => by
    show _ :: takeOld (a ++ b) _ = _
    rw [takeOld_app a b]
    rfl
theorem leftOver_nn : ∀ (r : List Int) (c : Int), (∀ n ∈ r, 0 ≤ n) → 0 ≤ c → 0 ≤ leftOver r c
  | [], c, _, h => h
  | p :: r, c, hn, hc => by
    have hp := hn p (by simp)
    unfold leftOver
    split
    · exact leftOver_nn r _ (fun n q => hn n (by simp [q])) (by omega)
    · exact leftOver_nn r _ (fun n q => hn n (by simp [q])) (by omega)
theorem lack_none : ∀ (i : Nat) (st : List (List Int)) (od : List Int), lackAt i st od = none → ∀ (j : Nat) (r : List Int) (c : Int), st[j]? = some r → od[j]? = some c → c ≤ r.sum
  | _, [], _, _, j, _, _, h, _ => by simp at h
  | _, _ :: _, [], _, j, _, _, _, h => by simp at h
  | i, r0 :: st, c0 :: od, h, 0, r, c, h1, h2 => by
    cases h1
    cases h2
    unfold lackAt at h
    split at h
    · cases h
    · omega
  | i, r0 :: st, c0 :: od, h, j + 1, r, c, h1, h2 => by
    unfold lackAt at h
    split at h
    · cases h
    · exact lack_none (i + 1) st od h j r c h1 h2
/-- rows of their own, at as, behind p -/
structure Rws (H0 H : Hp) (p : Addr) (as : List Addr) (rs : List (List Int)) : Prop where
  hp : H p = some (.lst (as.map V.ref))
  len : as.length = rs.length
  at_ : ∀ (i : Nat) (a : Addr) (r : List Int), as[i]? = some a → rs[i]? = some r → H a = some (.lst (r.map V.int))
  inj : ∀ (i j : Nat) (a : Addr), as[i]? = some a → as[j]? = some a → i = j
  np : ∀ (i : Nat) (a : Addr), as[i]? = some a → a ≠ p
  new : ∀ (i : Nat) (a : Addr), as[i]? = some a → H0 a = none
  newp : H0 p = none
  ext : Ex H0 H
theorem Rws.row {H0 H : Hp} {p : Addr} {as : List Addr} {rs : List (List Int)} (R : Rws H0 H p as rs) {i : Nat} {r : List Int} (h : rs[i]? = some r) : ∃ a, as[i]? = some a ∧ H a = some (.lst (r.map V.int)) := by
  have hl : i < as.length := by rw [R.len]; exact (List.getElem?_eq_some_iff.mp h).1
  exact ⟨as[i], List.getElem?_eq_getElem hl, R.at_ i _ r (List.getElem?_eq_getElem hl) h⟩
theorem Rws.set {H0 H : Hp} {p : Addr} {as : List Addr} {rs : List (List Int)} (R : Rws H0 H p as rs) {i : Nat} {a : Addr} {r' : List Int} (h : as[i]? = some a) : Rws H0 (upd H a (.lst (r'.map V.int))) p as (rs.set i r') where
  hp := by rw [upd_ne (Ne.symm (R.np i a h))]; exact R.hp
  len := by rw [List.length_set]; exact R.len
  at_ := fun j b r hb hr => by
    by_cases e : j = i
    · subst e
      rw [h] at hb
      cases hb
      rw [upd_same]
      have hl : j < rs.length := by rw [← R.len]; exact (List.getElem?_eq_some_iff.mp h).1
      rw [List.getElem?_set_self hl] at hr
      cases hr
      rfl
    · rw [List.getElem?_set_ne (Ne.symm e)] at hr
      have : b ≠ a := fun z => e (R.inj j i b hb (by rw [z]; exact h))
      rw [upd_ne this]
      exact R.at_ j b r hb hr
  inj := R.inj
  np := R.np
  new := R.new
  newp := R.newp
  ext := fun b o hb => by
    have : b ≠ a := fun z => by rw [z, R.new i a h] at hb; cases hb
    rw [upd_ne this]
    exact R.ext b o hb
theorem Rws.more {H0 H : Hp} {p q : Addr} {as : List Addr} {rs : List (List Int)} {r : List Int} (R : Rws H0 H p as rs) (hq : H q = none) : Rws H0 (upd (upd H q (.lst (r.map V.int))) p (.lst (as.map V.ref ++ [.ref q]))) p (as ++ [q]) (rs ++ [r]) := by
  have qp : q ≠ p := fun z => by rw [z, R.hp] at hq; cases hq
  have get : ∀ {i : Nat} {a : Addr}, (as ++ [q])[i]? = some a → (i < as.length ∧ as[i]? = some a) ∨ (i = as.length ∧ a = q) := fun {i a} h => by
    rw [List.getElem?_append] at h
    split at h
    · rename_i z; exact .inl ⟨z, h⟩
    · rename_i z
      cases e : i - as.length with
      | zero => rw [e] at h; cases h; exact .inr ⟨by omega, rfl⟩
      | succ n => rw [e] at h; cases h
  have ha : ∀ {i : Nat} {a : Addr} (hl : i < as.length), as[i]? = some a → H a ≠ none := fun {i a} hl h => by
    have : i < rs.length := by rw [← R.len]; exact hl
    rw [R.at_ i a _ h (List.getElem?_eq_getElem this)]
    exact fun z => nomatch z
  exact {
    hp := by rw [upd_same, List.map_append]; rfl
    len := by rw [List.length_append, List.length_append, R.len]; rfl
    at_ := fun i a r' h1 h2 => by
      rcases get h1 with ⟨hl, h⟩ | ⟨rfl, rfl⟩
      · have : a ≠ q := fun z => ha hl h (by rw [z]; exact hq)
        rw [upd_ne (R.np i a h), upd_ne this]
        rw [List.getElem?_append_left (by rw [← R.len]; exact hl)] at h2
        exact R.at_ i a r' h h2
      · rw [upd_ne qp, upd_same]
        rw [R.len, List.getElem?_append_right (Nat.le_refl _), Nat.sub_self] at h2
        cases h2
        rfl
    inj := fun i j a h1 h2 => by
      rcases get h1 with ⟨hl, h⟩ | ⟨rfl, rfl⟩
      · rcases get h2 with ⟨hl', h'⟩ | ⟨rfl, rfl⟩
        · exact R.inj i j a h h'
        · exact absurd hq (ha hl h)
      · rcases get h2 with ⟨hl', h'⟩ | ⟨rfl, _⟩
        · exact absurd hq (ha hl' h')
        · rfl
    np := fun i a h => by
      rcases get h with ⟨hl, h⟩ | ⟨_, rfl⟩
      · exact R.np i a h
      · exact qp
    new := fun i a h => by
      rcases get h with ⟨hl, h⟩ | ⟨_, rfl⟩
      · exact R.new i a h
      · exact Evl.fresh_back R.ext hq
    newp := R.newp
    ext := fun b o hb => by
      have h := R.ext b o hb
      have b1 : b ≠ p := fun z => by rw [z, R.newp] at hb; cases hb
      have b2 : b ≠ q := fun z => by rw [z, hq] at h; cases h
      rw [upd_ne b1, upd_ne b2]
      exact h }
section
variable {K : PySem.W.Frag} {H0 H : Hp} {p : Addr} {as : List Addr} {rs : List (List Int)} {i j : Nat} {r : List Int} {x : Int} {σ : L2.St} {Q : VK}
theorem rd_row (R : Rws H0 H p as rs) (h : rs[i]? = some r) (s2 : σ[2]? = some (some (.ref p))) (s3 : σ[3]? = some (some (.int i))) (q : ∀ a, as[i]? = some a → H a = some (.lst (r.map V.int)) → Q (.ref a) H) : tOp (rIx K) (tVar 2) (tVar 3) σ H Q := by
  obtain ⟨a, h1, h2⟩ := R.row h
  exact ⟨_, s2, _, s3, .inl ⟨p, _, _, .ref a, rfl, rfl, .inl (.inl R.hp), atI_nat (by rw [List.getElem?_map, h1]; rfl), q a h1 h2⟩⟩
theorem rd_cell (R : Rws H0 H p as rs) (h : rs[i]? = some r) (hx : r[j]? = some x) (s2 : σ[2]? = some (some (.ref p))) (s3 : σ[3]? = some (some (.int i))) (s5 : σ[5]? = some (some (.int j))) (q : Q (.int x) H) : tOp (rIx K) (tOp (rIx K) (tVar 2) (tVar 3)) (tVar 5) σ H Q :=
  rd_row R h s2 s3 fun a h1 h2 => ⟨_, s5, .inl ⟨a, _, _, .int x, rfl, rfl, .inl (.inl h2), atI_nat (by rw [List.getElem?_map, hx]; rfl), q⟩⟩
end
abbrev rSubI : R2 := rI0 fun i j => .int (i - j)
abbrev rGtI : R2 := rI0 fun i j => .bl (decide (j < i))
def rLo (K : PySem.W.Frag) : List V → Hp → VK → Prop := fun xs H Q => ∃ p ys, xs = [.ref p] ∧ (SqL K H p ys ∨ SqT K H p ys) ∧ ∀ l, H l = none → Q (.ref l) (upd H l (.lst ys))
def rLn (K : PySem.W.Frag) : List V → Hp → VK → Prop := fun xs H Q => ∃ p ys, xs = [.ref p] ∧ (SqL K H p ys ∨ SqT K H p ys) ∧ Q (.int (List.length ys)) H
def t_while (K : PySem.W.Frag) : TS := tWhile (tAnd (tTest (tOp rGtI (tVar 4) (tC (.int 0)))) (tTest (tOp rGtI (tOp (rIx K) (tOp (rIx K) (tVar 2) (tVar 3)) (tVar 5)) (tC (.int 0)))))
  (tSeq (tAsg (tOp rSubI (tOp (rIx K) (tOp (rIx K) (tVar 2) (tVar 3)) (tVar 5)) (tC (.int 1))) (L2.gSub (tOp (rIx K) (tVar 2) (tVar 3)) (tVar 5) rSetL)) (tAsg (tOp rSubI (tVar 4) (tC (.int 1))) (gName 4)))
def t_body (K : PySem.W.Frag) : TS := tSeq (tAsg (tOp (rIx K) (tVar 1) (tVar 3)) (gName 4))
  (tSeq (tFor (iRng1 (tCons (tCB (rLn K) (tCons (tOp (rIx K) (tVar 2) (tVar 3)) tNil)) tNil)) (gName 5) (t_while K)) (tIfS (tTest (tOp rGtI (tVar 4) (tC (.int 0)))) (tRet (tC .non)) tNext))
def t_sold (K : PySem.W.Frag) : TS := tSeq (tAsg (tLc (iTup K (tVar 0)) (gName 6) tYes (tCB (rLo K) (tCons (tVar 6) tNil)) [6]) (gName 2))
  (tSeq (tFor (iRng1 (tCons (tCB (rLn K) (tCons (tVar 2) tNil)) tNil)) (gName 3) (t_body K)) (tRet (tVar 2)))
theorem pure_while {K : PySem.W.Frag} {H0 H : Hp} {a0 b0 p : Addr} {as : List Addr} {rs : List (List Int)} {i j : Nat} {done rest : List Int} {l0 x0 : Int} {D : Ends} (hi : i < rs.length) (hj : done.length = j) (hl : 0 ≤ l0) (hx : 0 ≤ x0) (R : Rws H0 H p as (rs.set i (done ++ x0 :: rest)))
    (k : ∀ H', Rws H0 H' p as (rs.set i (done ++ (x0 - if l0 < x0 then l0 else x0) :: rest)) → D.nx [some (.ref a0), some (.ref b0), some (.ref p), some (.int i), some (.int (l0 - if l0 < x0 then l0 else x0)), some (.int j), none] H') :
    t_while K D [some (.ref a0), some (.ref b0), some (.ref p), some (.int i), some (.int l0), some (.int j), none] H := by
  refine ⟨fun m σ H' => ∃ l x d : Int, m = x.toNat ∧ 0 ≤ d ∧ d ≤ l0 ∧ d ≤ x0 ∧ l = l0 - d ∧ x = x0 - d ∧ σ = [some (.ref a0), some (.ref b0), some (.ref p), some (.int i), some (.int l), some (.int j), none] ∧ Rws H0 H' p as (rs.set i (done ++ x :: rest)), ⟨_, l0, x0, 0, rfl, by omega, by omega, by omega, by omega, by omega, rfl, R⟩, ?_⟩
  rintro m σ H' ⟨l, x, d, rfl, hd, hdl, hdx, hl1, hx1, rfl, R'⟩
  have hrow : (rs.set i (done ++ x :: rest))[i]? = some (done ++ x :: rest) := List.getElem?_set_self hi
  have hcell : (done ++ x :: rest)[j]? = some x := by rw [List.getElem?_append_right (by omega), hj, Nat.sub_self]; rfl
  refine ⟨_, rfl, l, 0, rfl, rfl, _, rfl, ?_⟩
  by_cases h1 : 0 < l
  · show (if decide (0 < l) = true then _ else _)
    rw [if_pos (decide_eq_true h1)]
    refine rd_cell R' hrow hcell rfl rfl rfl ⟨x, 0, rfl, rfl, _, rfl, ?_⟩
    by_cases h2 : 0 < x
    · show (if decide (0 < x) = true then _ else _)
      rw [if_pos (decide_eq_true h2)]
      refine ⟨fun σ' H' => ∃ l x' d : Int, x' = x - 1 ∧ 0 ≤ d ∧ d ≤ l0 ∧ d ≤ x0 ∧ l = l0 - d ∧ x' = x0 - d ∧ σ' = [some (.ref a0), some (.ref b0), some (.ref p), some (.int i), some (.int l), some (.int j), none] ∧ Rws H0 H' p as (rs.set i (done ++ x' :: rest)), fun σ' H' ⟨l', x', d', q1, q2, q3, q4, q5, q6, q7, q8⟩ => ⟨x'.toNat, by omega, l', x', d', rfl, q2, q3, q4, q5, q6, q7, q8⟩, ?_⟩
      refine rd_cell R' hrow hcell rfl rfl rfl ⟨x, 1, rfl, rfl, ?_⟩
      refine rd_row R' hrow rfl rfl fun a ha1 ha2 => ⟨_, rfl, a, _, _, j, rfl, rfl, ha2, ?_, ?_⟩
      · unfold ixN
        rw [if_pos (by omega), if_pos (by rw [List.length_map, List.length_append, List.length_cons]; omega)]
        rfl
      · refine ⟨_, rfl, l, 1, rfl, rfl, ?_⟩
        refine ⟨l - 1, x - 1, d + 1, rfl, by omega, by omega, by omega, by omega, by omega, rfl, ?_⟩
        have e : ((done ++ x :: rest).map V.int).set j (.int (x - 1)) = (done ++ (x - 1) :: rest).map V.int := by
          rw [← hj, List.map_append, List.map_append, ← List.length_map (f := V.int) (as := done), List.set_append_right _ _ (Nat.le_refl _), Nat.sub_self]
          rfl
        rw [e]
        have := R'.set (r' := done ++ (x - 1) :: rest) ha1
        rw [List.set_set] at this
        exact this
    · show (if decide (0 < x) = true then _ else _)
      rw [if_neg (by rw [decide_eq_true_eq]; exact h2)]
      have e : (if l0 < x0 then l0 else x0) = d := by split <;> omega
      rw [e] at k
      rw [hl1]
      refine k H' ?_
      rw [← hx1]
      exact R'
  · show (if decide (0 < l) = true then _ else (if (false : Bool) = true then _ else _))
    rw [if_neg (by rw [decide_eq_true_eq]; exact h1)]
    rw [if_neg Bool.false_ne_true]
    have e : (if l0 < x0 then l0 else x0) = d := by split <;> omega
    rw [e] at k
    rw [hl1]
    refine k H' ?_
    rw [← hx1]
    exact R'
theorem ifT {A B : Prop} (h : A) : if (true : Bool) = true then A else B := by rw [if_pos rfl]; exact h
theorem take_snoc {r : List Int} {j : Nat} {x : Int} (h : r[j]? = some x) : r.take (j + 1) = r.take j ++ [x] := by
  rw [List.take_add_one, h]
  rfl
theorem drop_snoc {r : List Int} {j : Nat} {x : Int} (h : r[j]? = some x) : r.drop j = x :: r.drop (j + 1) := by
  obtain ⟨hl, e⟩ := List.getElem?_eq_some_iff.mp h
  rw [List.drop_eq_getElem_cons hl, e]
theorem set_same {α : Type} {rs : List α} {i : Nat} {r : α} (h : rs[i]? = some r) : rs.set i r = rs := by
  apply List.ext_getElem?
  intro n
  by_cases e : n = i
  · subst e
    rw [List.getElem?_set_self (List.getElem?_eq_some_iff.mp h).1, h]
  · rw [List.getElem?_set_ne (Ne.symm e)]
theorem pure_body {K : PySem.W.Frag} {H0 H : Hp} {a0 b0 p : Addr} {as : List Addr} {rs : List (List Int)} {od r : List Int} {c : Int} {i : Nat} {D : Ends} {c4 c5 : Option V} (hr : rs[i]? = some r) (hbo : SqT K H0 b0 (od.map V.int)) (hc : od[i]? = some c) (hrn : ∀ n ∈ r, 0 ≤ n) (hcn : 0 ≤ c) (hle : c ≤ r.sum) (hrl : r.length ≤ 1000) (R : Rws H0 H p as rs)
    (k : ∀ H' c4 c5, Rws H0 H' p as (rs.set i (takeOld r c)) → D.nx [some (.ref a0), some (.ref b0), some (.ref p), some (.int i), c4, c5, none] H') :
    t_body K D [some (.ref a0), some (.ref b0), some (.ref p), some (.int i), c4, c5, none] H := by
  have hi : i < rs.length := (List.getElem?_eq_some_iff.mp hr).1
  refine ⟨_, rfl, _, rfl, .inr (.inl ⟨b0, _, _, .int c, rfl, rfl, Evl.ex_t R.ext hbo, atI_nat (by rw [List.getElem?_map, hc]; rfl), ?_⟩)⟩
  refine rd_row R hr rfl rfl fun a h1 h2 => ?_
  refine ⟨a, r.map V.int, rfl, .inl (.inl (.inl h2)), ((r.map V.int).length : Int), rfl, by rw [List.length_map]; omega, by rw [List.length_map]; omega, ?_⟩
  refine for_range (lo := 0) (n := (((r.map V.int).length : Nat) : Int).toNat) (fun j σ H' => ∃ c5, σ = [some (.ref a0), some (.ref b0), some (.ref p), some (.int i), some (.int (leftOver (r.take j) c)), c5, none] ∧ Rws H0 H' p as (rs.set i (takeOld (r.take j) c ++ r.drop j))) ⟨c5, rfl, ?_⟩ ?_ ?_
  · show Rws H0 H p as (rs.set i ([] ++ r))
    rw [List.nil_append, set_same hr]
    exact R
  · rintro j σ H' hj ⟨c5', rfl, R'⟩
    rw [Int.toNat_natCast, List.length_map] at hj
    have hx : r[j]? = some r[j] := List.getElem?_eq_getElem hj
    show t_while K _ [some (.ref a0), some (.ref b0), some (.ref p), some (.int i), some (.int (leftOver (r.take j) c)), some (.int (0 + (j : Int))), none] H'
    rw [Int.zero_add]
    rw [drop_snoc hx] at R'
    refine pure_while (done := takeOld (r.take j) c) (rest := r.drop (j + 1)) hi (by rw [takeOld_len, List.length_take]; omega) (leftOver_nn _ _ (fun n q => hrn n (List.mem_of_mem_take q)) hcn) (hrn _ (List.getElem_mem hj)) R' fun H2 R2 => ?_
    refine ⟨some (.int j), ?_, ?_⟩
    · rw [take_snoc hx, leftOver_app]
      rfl
    · rw [take_snoc hx, takeOld_app, List.append_assoc]
      exact R2
  · rintro σ H' ⟨c5', rfl, R'⟩
    rw [Int.toNat_natCast, List.length_map, List.take_length, List.drop_length, List.append_nil] at R'
    rw [Int.toNat_natCast, List.length_map, List.take_length]
    have hz := leftOver_le r c hrn hcn hle
    refine ⟨_, rfl, leftOver r c, 0, rfl, rfl, _, rfl, ?_⟩
    show (if decide (0 < leftOver r c) = true then _ else _)
    rw [if_neg (by rw [decide_eq_true_eq]; omega)]
    exact k H' _ _ R'
theorem soldAll_len {st : List (List Int)} {od : List Int} (h : st.length = od.length) : (soldAll st od).length = st.length := by
  unfold soldAll
  rw [List.length_zipWith, ← h, Nat.min_self]
theorem pure_sold {K : PySem.W.Frag} {H0 B : Hp} {a0 b0 : Addr} {vs0 : List V} {st : List (List Int)} {od : List Int} {Q Rt : VK} (h1 : SqT K B a0 vs0) (h2 : RpL K B vs0 (st.map tI)) (h3 : SqT K B b0 (od.map V.int)) (eB : Ex B H0) (hs : StOd st od) (hn : ∀ r ∈ st, ∀ n ∈ r, 0 ≤ n) (hcs : ∀ c ∈ od, 0 ≤ c) (hlk : lackAt 0 st od = none)
    (k : ∀ H' p as, Rws H0 H' p as (soldAll st od) → Rt (.ref p) H') : t_sold K { nx := fun _ H' => Q .non H', rt := Rt } [some (.ref a0), some (.ref b0), none, none, none, none, none] H0 := by
  have hls := hs.ls
  have hle := hs.le
  have hvl : vs0.length = st.length := by rw [h2.len, List.length_map]
  refine ⟨_, rfl, a0, rfl, ⟨_, Evl.ex_t eB h1⟩, fun p hp => ?_⟩
  refine lc_tup (xs := vs0) (fun i H => ∃ as, Rws H0 H p as (st.take i)) ⟨[], ⟨upd_same, rfl, fun i a r h => by simp at h, fun i j a h => by simp at h, fun i a h => by simp at h, fun i a h => by simp at h, hp, Ex.new hp⟩⟩ (fun i H _ ⟨as, R⟩ => Evl.ex_t (eB.trans R.ext) h1) ?_ ?_
  · rintro i x H hx ⟨as, R⟩
    obtain ⟨d, hd, hr⟩ := h2.get hx
    rw [List.getElem?_map] at hd
    cases hst : st[i]? with
    | none => rw [hst] at hd; cases hd
    | some r =>
      rw [hst] at hd
      cases hd
      cases hr with
      | @tup a xs _ hsx hxs =>
        have := RpL.ints_of hxs
        subst this
        refine ⟨rfl, _, rfl, a, _, rfl, .inr (Evl.ex_t (eB.trans R.ext) hsx), fun q hq => ?_⟩
        have qp : q ≠ p := fun z => by rw [z, R.hp] at hq; cases hq
        refine ⟨as.map V.ref, by rw [upd_ne (Ne.symm qp)]; exact R.hp, ?_, as ++ [q], ?_⟩
        · rw [List.length_map, R.len, List.length_take]
          exact Evl.sz_lt (by omega)
        · have e : st.take (i + 1) = st.take i ++ [r] := by rw [List.take_add_one, hst]; rfl
          rw [e]
          exact R.more hq
  · rintro H ⟨as, R⟩
    rw [hvl, List.take_length] at R
    refine ⟨_, rfl, p, _, rfl, .inl (.inl (.inl R.hp)), ((as.map V.ref).length : Int), rfl, by rw [List.length_map, R.len]; omega, by rw [List.length_map, R.len]; omega, ?_⟩
    refine for_range (lo := 0) (n := (((as.map V.ref).length : Nat) : Int).toNat) (fun i σ H' => ∃ c3 c4 c5, σ = [some (.ref a0), some (.ref b0), some (.ref p), c3, c4, c5, none] ∧ Rws H0 H' p as (soldAll (st.take i) (od.take i) ++ st.drop i)) ⟨_, _, _, rfl, R⟩ ?_ ?_
    · rintro i σ H' hi ⟨c3, c4, c5, rfl, R'⟩
      rw [Int.toNat_natCast, List.length_map, R.len] at hi
      have hi2 : i < od.length := by omega
      show t_body K _ [some (.ref a0), some (.ref b0), some (.ref p), some (.int (0 + (i : Int))), c4, c5, none] H'
      rw [Int.zero_add]
      have hrow : st[i]? = some st[i] := List.getElem?_eq_getElem hi
      have hc : od[i]? = some od[i] := List.getElem?_eq_getElem hi2
      have hlen : (soldAll (st.take i) (od.take i)).length = i := by rw [soldAll_len (by rw [List.length_take, List.length_take, hle]), List.length_take]; omega
      have hdrop : st.drop i = st[i] :: st.drop (i + 1) := List.drop_eq_getElem_cons hi
      rw [hdrop] at R'
      refine pure_body (r := st[i]) (c := od[i]) (by rw [List.getElem?_append_right (by omega), hlen, Nat.sub_self]; rfl) (Evl.ex_t eB h3) hc (hn _ (List.getElem_mem hi)) (hcs _ (List.getElem_mem hi2)) (lack_none 0 st od hlk i _ _ hrow hc) (hs.lr _ (List.getElem_mem hi)) R' fun H2 d4 d5 R2 => ⟨_, d4, d5, rfl, ?_⟩
      have e1 : st.take (i + 1) = st.take i ++ [st[i]] := by rw [List.take_add_one, hrow]; rfl
      have e2 : od.take (i + 1) = od.take i ++ [od[i]] := by rw [List.take_add_one, hc]; rfl
      have e3 : soldAll (st.take (i + 1)) (od.take (i + 1)) = soldAll (st.take i) (od.take i) ++ [takeOld st[i] od[i]] := by
        rw [e1, e2]
        unfold soldAll
        rw [List.zipWith_append (by rw [List.length_take, List.length_take, hle])]
        rfl
      rw [e3, List.append_assoc]
      rw [List.set_append_right _ _ (by omega), hlen, Nat.sub_self] at R2
      exact R2
    · rintro σ H' ⟨c3, c4, c5, rfl, R'⟩
      rw [Int.toNat_natCast, List.length_map, R.len, List.take_length, List.drop_length, List.append_nil, hle, List.take_length] at R'
      exact ⟨_, rfl, k H' p as R'⟩
section
variable {P : Program} {w : World} {K : PySem.W.Frag} {mg : Str → Option Value} {base : Heap}
def preSo (ds : List D) : Prop := ∃ st od, ds = [ttI st, tI od] ∧ StOd st od ∧ (∀ r ∈ st, ∀ n ∈ r, 0 ≤ n) ∧ (∀ c ∈ od, 0 ≤ c) ∧ lackAt 0 st od = none
def postSo (ds : List D) (r : D) : Prop := ∀ st od, ds = [ttI st, tI od] → r = .lst ((soldAll st od).map lI)
abbrev SpSo (K : PySem.W.Frag) : Sp := spD K (sdR preSo postSo)
theorem ok_law_sold {f : Addr} {fd : FuncData} {k : Nat} (T : Tx mg) (F : Fun K "_law_sold" "_law_sold" s_law_sold f fd) : FnOk P w K mg base CX0 (k + 1) f fd ["stock", "order"] (SpSo K) := by
  refine F.ok sc_law_sold (fun vs H Q E h => ?_) (fun cdv A outer s H vs Q E hroom h => ?_)
  · obtain ⟨ds, F, B, r, _, _, _, ⟨st, od, rfl, _⟩, _⟩ := h
    rw [r.len]
    rfl
  · refine ⟨_, pss_cons (ps_setLc (i := 2) (own := [("row", 6)]) rfl sc_law_sold.nd rfl rfl (sw_true rfl rfl rfl (by decide +kernel)) (pi_tup (pv 0)) (blkOk_by (own := [("row", 6)]) (N := N_law_sold) (sc := defScope s_law_sold) (by decide +kernel)) (fun _ _ _ _ _ => pg_name (i := 6) sc_law_sold.nd rfl (Or.inl rfl)) (fun _ _ _ _ _ => pts_nil) (fun _ _ _ _ _ => show PE _ _ (tCB (rLo K) (tCons (tVar 6) tNil)) from pe_callTy (T := "list") (r := rLo K) call_list_of rfl T.list (by decide +kernel) (pa_cons (pv 6) pa_nil)))
      (pss_cons (ps_for PassesOwn.never rfl (pi_range1 rfl T.range (pa_cons (pe_callB (r := rLn K) call_len_seq rfl T.len PySem.boot_len (pa_cons (pv 2) pa_nil)) pa_nil)) (pg_name (i := 3) sc_law_sold.nd rfl (Or.inl rfl))
        (pss_cons (ps_asg (pe_ix ix_seq (pv 1) (pv 3) fun _ _ => rfl) (pg_name (i := 4) sc_law_sold.nd rfl (Or.inl rfl)))
        (pss_cons (ps_for PassesOwn.never rfl (pi_range1 rfl T.range (pa_cons (pe_callB (r := rLn K) call_len_seq rfl T.len PySem.boot_len (pa_cons (pe_ix ix_seq (pv 2) (pv 3) fun _ _ => rfl) pa_nil)) pa_nil)) (pg_name (i := 5) sc_law_sold.nd rfl (Or.inl rfl))
          (pss_one (ps_while PassesOwn.never (pw_and (pt_cmpR op_gt (pv 4) pe_int (nomark _)) (pw_and1 (pt_cmpR op_gt (pe_ix ix_seq (pe_ix ix_seq (pv 2) (pv 3) fun _ _ => rfl) (pv 5) fun _ _ => rfl) pe_int (nomark _)))).pt
            (pss_cons (ps_asg (pe_op op_sub (pe_ix ix_seq (pe_ix ix_seq (pv 2) (pv 3) fun _ _ => rfl) (pv 5) fun _ _ => rfl) pe_int) (pg_sub (pe_ix ix_seq (pv 2) (pv 3) fun _ _ => rfl) (pv 5) set_list))
            (pss_one (ps_asg (pe_op op_sub (pv 4) pe_int) (pg_name (i := 4) sc_law_sold.nd rfl (Or.inl rfl))))))))
        (pss_one (ps_if (pt_cmpR op_gt (pv 4) pe_int (nomark _)) (pss_one (ps_ret pe_non)) pss_nil)))))
      (pss_one (ps_ret (pv 2)))), ?_⟩
    obtain ⟨ds, F, B, r, e, f', dj, ⟨st, od, rfl, hs, hn, hcs, hlk⟩, q⟩ := h
    cases r with
    | @cons v1 _ d1 _ r1 r =>
      cases r with
      | @cons v2 _ d2 _ r2 r =>
        cases r
        cases r1 with
        | @tup a0 vs0 _ s1 x1 =>
          cases r2 with
          | @tup b0 vs1 _ s2 x2 =>
            have := RpL.ints_of x2
            subst this
            show t_sold K _ [some (.ref a0), some (.ref b0), none, none, none, none, none] H
            refine pure_sold s1 x1 s2 e hs hn hcs hlk fun H' p as R => ?_
            have hnew : ∀ {b : Addr}, H b = none → F b = none := fun {b} z => Evl.fresh_back f' z
            let B' : Hp := fun b => if F b = none then H' b else none
            have bp : ∀ {b : Addr}, F b = none → B' b = H' b := fun {b} z => if_pos z
            refine q (.lst ((soldAll st od).map lI)) (fun st' od' he => ?_) (.ref p) H' B' (fun b o hb => ?_) (fun b o hb => ?_) (f'.trans R.ext) (fun b hb => if_neg hb) ?_
            · injection he with he1 he2
              injection he2 with he2
              injection he1 with he1
              rw [ttI_inj he1, tI_inj he2]
            · have hF : F b = none := by
                cases z : F b with
                | none => rfl
                | some u => rw [dj b (by rw [z]; exact fun y => nomatch y)] at hb; cases hb
              rw [bp hF]
              exact R.ext b o (e b o hb)
            · by_cases hF : F b = none
              · rw [bp hF] at hb; exact hb
              · have : B' b = none := if_neg hF
                rw [this] at hb; cases hb
            · refine .lst (xs := as.map V.ref) (.inl (.inl ?_)) ?_
              · rw [show B' p = H' p from bp (hnew R.newp)]
                exact R.hp
              · have key : ∀ (l : List Addr) (rs : List (List Int)), l.length = rs.length → (∀ (i : Nat) (a : Addr) (r : List Int), l[i]? = some a → rs[i]? = some r → B' a = some (.lst (r.map V.int))) → RpL K B' (l.map V.ref) (rs.map lI) := by
                  intro l
                  induction l with
                  | nil =>
                    intro rs hl _
                    cases rs with
                    | nil => exact .nil
                    | cons _ _ => cases hl
                  | cons a l ih =>
                    intro rs hl hh
                    cases rs with
                    | nil => cases hl
                    | cons r rs => exact .cons (.lst (.inl (.inl (hh 0 a r rfl rfl))) (RpL.ints r)) (ih rs (Nat.succ.inj hl) fun i a' r' h1 h2 => hh (i + 1) a' r' h1 h2)
                refine key as _ R.len fun i a r h1 h2 => ?_
                rw [show B' a = H' a from bp (hnew (R.new i a h1))]
                exact R.at_ i a r h1 h2
end
end K05

set_option Elab.async false
set_option linter.all false
set_option maxRecDepth 100000
set_option maxHeartbeats 4000000
namespace K05
open PySem PySem.Spec PyProof.Rows L2 DL
open Evl (Ex)
local macro_rules | `(tactic| walk_at "rd") => `(tactic| simp only [dSeq, dIfS, dB, dOp, dVar, dC, dCB, dCO, dACons, dANil, dRet, dAsg, dAsgO, dAsgOF, dExpr, dSetIx, dApp, dOf, dTup, dLst, dCat, dUn, dFor, dRng1, dRng2, dItL, dItT, dZip, dLc, dNext, dAnd, dOr, dNot, dAndV, dOrV, dIfE, dYes, dAug, dCall, dCallB, dCallX, dRaise, dEz, dBreak, dCont, dRetN, sdR, sdBR, sdX, dIsN,
  rdLen, rdInt, rdMM, rdTup, rdLstOf, rdSum, rdIx, rdI, rdI0, rdEq, rdIn, asD, itemsOf_lst, itemsOf_tup, fix, fixL, startD, notOwn, freeOk, okW, wipeG, dgName, dgTup, dgsCons, dgsNil, gAdd, DL.gSub, gMul, gMod, gDiv, gPow, gLt, gLe, gGt, gGe, atI_c0, atI_c1, atI_c2, atI_c3, atI_c4, ixN_21, ixN_20, soft_dat, soft_non, soft_own,
  List.cons_append, List.nil_append, List.map_cons, List.map_nil, List.length_cons, List.length_nil, List.length_map, List.getElem?_cons_zero, List.getElem?_cons_succ, List.set_cons_zero, List.set_cons_succ, List.replicate_succ, List.replicate_zero, Nat.reduceSub, Nat.reduceAdd, Nat.zero_add, List.all_cons, List.all_nil, Option.some.injEq, Prod.mk.injEq, Option.bind_some, reduceCtorEq,
  Wv.dat.injEq, Wv.slot.injEq, D.int.injEq, D.bl.injEq, D.lst.injEq, D.tup.injEq, List.cons.injEq, Sl.dat.injEq, Sl.own.injEq, exists_eq_left, exists_eq_left', exists_and_left, exists_and_right, exists_eq_right, exists_eq, exists_false, exists_const, true_and, and_true, false_and, and_false, ite_true, ite_false, if_true, if_false, eq_self, ↓reduceIte, Bool.and_true, Bool.true_and, and_self, or_false, false_or, Bool.false_eq_true, and_assoc, exists_prop, exists_eq_right_right, exists_eq_right', forall_eq, forall_eq', Int.reducePow, Int.reduceToNat, decide_eq_true_eq])
local macro_rules | `(tactic| walk_at "rs") => `(tactic| simp only [dIfS, dB, dOp, dVar, dC, dCB, dCO, dACons, dANil, dRet, dAsg, dAsgO, dAsgOF, dExpr, dSetIx, dApp, dOf, dTup, dLst, dCat, dUn, dFor, dRng1, dRng2, dItL, dItT, dZip, dLc, dNext, dAnd, dOr, dNot, dAndV, dOrV, dIfE, dYes, dAug, dCall, dCallB, dCallX, dRaise, dEz, dBreak, dCont, dRetN, sdR, sdBR, sdX, dIsN,
  rdLen, rdInt, rdMM, rdTup, rdLstOf, rdSum, rdIx, rdI, rdI0, rdEq, rdIn, asD, itemsOf_lst, itemsOf_tup, fix, fixL, startD, notOwn, freeOk, okW, wipeG, dgName, dgTup, dgsCons, dgsNil, gAdd, DL.gSub, gMul, gMod, gDiv, gPow, gLt, gLe, gGt, gGe, atI_c0, atI_c1, atI_c2, atI_c3, atI_c4, ixN_21, ixN_20, soft_dat, soft_non, soft_own,
  List.cons_append, List.nil_append, List.map_cons, List.map_nil, List.length_cons, List.length_nil, List.length_map, List.getElem?_cons_zero, List.getElem?_cons_succ, List.set_cons_zero, List.set_cons_succ, List.replicate_succ, List.replicate_zero, Nat.reduceSub, Nat.reduceAdd, Nat.zero_add, List.all_cons, List.all_nil, Option.some.injEq, Prod.mk.injEq, Option.bind_some, reduceCtorEq,
  Wv.dat.injEq, Wv.slot.injEq, D.int.injEq, D.bl.injEq, D.lst.injEq, D.tup.injEq, List.cons.injEq, Sl.dat.injEq, Sl.own.injEq, exists_eq_left, exists_eq_left', exists_and_left, exists_and_right, exists_eq_right, exists_eq, exists_false, exists_const, true_and, and_true, false_and, and_false, ite_true, ite_false, if_true, if_false, eq_self, ↓reduceIte, Bool.and_true, Bool.true_and, and_self, or_false, false_or, Bool.false_eq_true, and_assoc, exists_prop, exists_eq_right_right, exists_eq_right', forall_eq, forall_eq', Int.reducePow, Int.reduceToNat, decide_eq_true_eq])
section
variable {P : Program} {w : World} {K : PySem.W.Frag} {mg : Str → Option Value} {base : Heap}
abbrev s_law_told : Stmt := top 28
abbrev N_law_told : List Str := ["way", "stock", "order", "e"]
theorem sc_law_told : FnScope N_law_told ["way", "stock", "order"] (defScope s_law_told) := ⟨rfl, rfl, rfl, by decide +kernel, rfl, by decide +kernel, by decide +kernel⟩

/-- what the text knows of the errors -/
structure Er (K : PySem.W.Frag) (mg : Str → Option Value) (C CL : Addr) : Prop where
  gC : mg "Short" = some (.ref C)
  gL : mg "LarderdaysError" = some (.ref CL)
  isi : mg "isinstance" = none
  bool : mg "bool" = none
  exm : PySem.W.exmOne K (.ref C) (.ref CL) = some true
  ec : ExcC K C
  xf : XfC K C
  noN : PySem.W.findIn K (.ref C) "good" = some none
  kb : PySem.W.kitOne K (.type "int") (.type "bool") = some false
def rIsE3 (K : PySem.W.Frag) (D a : Addr) (cls : Value) (d : Option Addr) : List V → Hp → VK → Prop := fun xs H Q => cls = .ref D ∧ ∃ d0, d = some d0 ∧ rIsE2 K D a d0 xs H Q
theorem call_isE3 {X : Cx} {a D : Addr} {cls : Value} {d : Option Addr} {oe : Obj} {pn : List (Addr × Obj)} (C : ExcC X.K D) (hz : Zc cls d oe) (hf : ∃ vs, oe.data = .fields vs) : CallR (X.suite a ((a, oe) :: pn)) (.builtin "isinstance") (rIsE3 X.K D a cls d) := by
  intro pins s σ H xs us Q I r h
  obtain ⟨rfl, d0, rfl, h⟩ := h
  exact call_isE2 C hz hf pins s σ H xs us Q I r h
def sdTo (f : Addr) (prem : List (List Int) → List Int → Prop) (fine : List (List Int) → List Int → D → Prop) : Sd := fun ds Q _ => ∃ st od, ds = [.opq f, ttI st, tI od] ∧ StOd st od ∧ prem st od ∧ (∀ r, fine st od r → Q r) ∧ ∀ g, lackAt 0 st od = some g → Q (.tup [.str "short", .int g])
def t_suiteT (K : PySem.W.Frag) (C : Addr) (a : Addr) (cls : Value) (d : Option Addr) : TS :=
  tSeq (tIfS (tAnd (tB (tCB (rIsE3 K C a cls d) (tCons (tVar 3) (tCons (tC (.ref C)) tNil)))) (tNot (tB (tCB (rIsi K) (tCons (tXf a cls d C "good" (tVar 3)) (tCons (tC (.ty "bool")) tNil))))))
    (tRet (tTup (tCons (tC (.str "short")) (tCons (tXf a cls d C "good" (tVar 3)) tNil)))) tNext) (tRet (tTup (tCons (tC (.str "other")) (tCons (tC (.int 0)) tNil))))
theorem ok_law_told {f fW : Addr} {fd fdW : FuncData} {C CL : Addr} {prem : List (List Int) → List Int → Prop} {fine : List (List Int) → List Int → D → Prop} {sdW : Sd} (R : Er K mg C CL) (F : Fun K "_law_told" "_law_told" s_law_told f fd) (G : FnOk P w K mg base (L2.CX P w) 3 fW fdW ["stock", "order"] (spD K sdW)) (kW : PySem.W.keepIn K (.ref fW) = true) (bW : Binds K fdW ["stock", "order"] [])
    (hW : ∀ st od Q E, StOd st od → prem st od → (∀ r, fine st od r → Q r) → (∀ g, lackAt 0 st od = some g → E C [("good", D.int g)]) → sdW [ttI st, tI od] Q E) : FnOk P w K mg base CX0 4 f fd ["way", "stock", "order"] (spD K (sdTo fW prem fine)) := by
  refine F.ok sc_law_told (fun vs H Q E h => ?_) (fun cdv A outer s H vs Q E hroom h => ?_)
  · obtain ⟨ds, F, B, r, _, _, _, ⟨st, od, rfl, _⟩⟩ := h
    rw [r.len]
    rfl
  · refine ⟨_, pss_one (ps_try_as (i := 3) (tb := fun W => tRet (tCallLS 0 fW (spD K sdW) (WE W) (tCons (tVar 1) (tCons (tVar 2) tNil)))) (ts := t_suiteT K C) (Wout := fun _ _ _ _ => False) rfl rfl sc_law_told.nd rfl rfl ⟨rfl, by decide, Or.inl R.gL⟩ takes0
      (fun W pn xe tk _ => pss_one (ps_ret (pe_callLS G hroom rfl (Or.inl rfl) kW bW (fun σ => passAt tk σ) (pa_cons (pv 1) (pa_cons (pv 2) pa_nil)))))
      (fun a oe cls d pn hz hf => pss_cons (ps_if (pw_and (pt_val (by exact pe_callB (r := rIsE3 K C a cls d) (call_isE3 R.ec hz hf) rfl R.isi (by decide +kernel) (pa_cons (pv 3) (pa_cons (pe_glob rfl R.gC rfl) pa_nil))))
          (pw_and1 (pt_not (pt_val (by exact pe_callB (r := rIsi K) call_isi rfl R.isi (by decide +kernel) (pa_cons (pe_xf R.xf R.noN hz hf (pv 3)) (pa_cons (pe_bltn rfl R.bool (by decide +kernel) rfl) pa_nil))))))).pt
          (pss_one (ps_ret (pe_tup (pa_cons pe_str (pa_cons (pe_xf R.xf R.noN hz hf (pv 3)) pa_nil))))) pss_nil)
        (pss_one (ps_ret (pe_tup (pa_cons pe_str (pa_cons pe_int pa_nil))))))), ?_⟩
    obtain ⟨ds, F, B, r, e, f', dj, ⟨st, od, rfl, hs, hp, hfine, hsh⟩⟩ := h
    cases r with
    | @cons v0 _ d0 _ r0 r =>
      cases r with
      | @cons v1 _ d1 _ r1 r =>
        cases r with
        | @cons v2 _ d2 _ r2 r =>
          cases r
          cases r0
          refine ⟨rfl, _, rfl, _, rfl, [ttI st, tI od], F, B, .cons r1 (.cons r2 .nil), e, f', dj, hW st od _ _ hs hp (fun r hr => hfine r hr) (fun g hg => ?_)⟩
          intro d fvs H' B' x1 x2 x3 x4 x5 x6
          refine ⟨true, R.exm, fun _ a ha => ?_, fun q => Bool.noConfusion q⟩
          cases x6 with
          | @cons _ v _ _ _ rv rn =>
            cases rn
            cases rv
            have lk : ([("good", .int (g : Int))] : List (Str × V)).lookup ("good" : Str) = some (.int g) := by simp [List.lookup]
            refine ⟨_, rfl, rfl, d, rfl, .ref C, .ref C, true, _, rfl, fun u r => r, if_pos (beq_self_eq_true _), x5, true, rfl, ?_⟩
            refine ⟨_, rfl, rfl, rfl, d, _, .int g, rfl, x5, lk, .int g, .ty "bool", .type "int", .type "bool", false, rfl, .ty "bool", .base (.int g), R.kb, false, rfl, ?_⟩
            refine ⟨_, rfl, rfl, rfl, d, _, .int g, rfl, x5, lk, by show 2 ≤ sizeLine; decide, fun p hp => ?_⟩
            have pB : B' p = none := Evl.fresh_back x2 hp
            have g1 : Grow B' H' (upd B' p (.tup [.str "short", .int g])) (upd H' p (.tup [.str "short", .int g])) := Grow.one x2 hp
            refine hsh g hg (.ref p) _ (upd B' p (.tup [.str "short", .int g])) (x1.trans g1.vis) g1.sub (x3.trans g1.all) (fun b hb => ?_) (.tup (.inl (.inl upd_same)) (.cons (.str _) (.cons (.int _) .nil)))
            have : b ≠ p := fun z => by
              rw [z] at hb
              exact hb (Evl.fresh_back x3 hp)
            rw [upd_ne this]
            exact x4 b hb
/-! of the two ways -/
def fineI (st : List (List Int)) (od : List Int) (r : D) : Prop := lackAt 0 st od = none ∧ r = ttI (soldAll st od)
theorem hW_issue {C : Addr} : ∀ st od (Q : D → Prop) (E : Xd), StOd st od → True → (∀ r, fineI st od r → Q r) → (∀ g, lackAt 0 st od = some g → E C [("good", D.int g)]) → sdIS C [ttI st, tI od] Q E := by
  intro st od Q E hs _ h1 h2
  refine ⟨st, od, rfl, hs, ?_⟩
  cases q : lackAt 0 st od with
  | none => exact h1 _ ⟨q, rfl⟩
  | some g => exact h2 g q
theorem hW_issues {C : Addr} : ∀ st od (Q : D → Prop) (E : Xd), StOd st od → lackAt 0 st od ≠ none → (∀ r, False → Q r) → (∀ g, lackAt 0 st od = some g → E C [("good", D.int g)]) → sdNS C [ttI st, tI od] Q E := by
  intro st od Q E hs hp h1 h2
  cases q : lackAt 0 st od with
  | none => exact absurd q hp
  | some g => exact ⟨st, od, g, rfl, hs, q, h2 g q⟩
end
end K05

set_option Elab.async false
set_option linter.all false
set_option maxRecDepth 100000
set_option maxHeartbeats 4000000
namespace K05
open PySem PySem.Spec PyProof.Rows L2 DL
open Evl (Ex)
local macro_rules | `(tactic| walk_at "rd") => `(tactic| simp only [dSeq, dIfS, dB, dOp, dVar, dC, dCB, dCO, dACons, dANil, dRet, dAsg, dAsgO, dAsgOF, dExpr, dSetIx, dApp, dOf, dTup, dLst, dCat, dUn, dFor, dRng1, dRng2, dItL, dItT, dZip, dLc, dNext, dAnd, dOr, dNot, dAndV, dOrV, dIfE, dYes, dAug, dCall, dCallB, dCallX, dRaise, dEz, dBreak, dCont, dRetN, sdR, sdBR, sdX, dIsN,
  rdLen, rdInt, rdMM, rdTup, rdLstOf, rdSum, rdIx, rdI, rdI0, rdEq, rdIn, asD, itemsOf_lst, itemsOf_tup, fix, fixL, startD, notOwn, freeOk, okW, wipeG, dgName, dgTup, dgsCons, dgsNil, gAdd, DL.gSub, gMul, gMod, gDiv, gPow, gLt, gLe, gGt, gGe, atI_c0, atI_c1, atI_c2, atI_c3, atI_c4, ixN_21, ixN_20, soft_dat, soft_non, soft_own,
  List.cons_append, List.nil_append, List.map_cons, List.map_nil, List.length_cons, List.length_nil, List.length_map, List.getElem?_cons_zero, List.getElem?_cons_succ, List.set_cons_zero, List.set_cons_succ, List.replicate_succ, List.replicate_zero, Nat.reduceSub, Nat.reduceAdd, Nat.zero_add, List.all_cons, List.all_nil, Option.some.injEq, Prod.mk.injEq, Option.bind_some, reduceCtorEq,
  Wv.dat.injEq, Wv.slot.injEq, D.int.injEq, D.bl.injEq, D.lst.injEq, D.tup.injEq, List.cons.injEq, Sl.dat.injEq, Sl.own.injEq, exists_eq_left, exists_eq_left', exists_and_left, exists_and_right, exists_eq_right, exists_eq, exists_false, exists_const, true_and, and_true, false_and, and_false, ite_true, ite_false, if_true, if_false, eq_self, ↓reduceIte, Bool.and_true, Bool.true_and, and_self, or_false, false_or, Bool.false_eq_true, and_assoc, exists_prop, exists_eq_right_right, exists_eq_right', forall_eq, forall_eq', Int.reducePow, Int.reduceToNat, decide_eq_true_eq])
local macro_rules | `(tactic| walk_at "rs") => `(tactic| simp only [dIfS, dB, dOp, dVar, dC, dCB, dCO, dACons, dANil, dRet, dAsg, dAsgO, dAsgOF, dExpr, dSetIx, dApp, dOf, dTup, dLst, dCat, dUn, dFor, dRng1, dRng2, dItL, dItT, dZip, dLc, dNext, dAnd, dOr, dNot, dAndV, dOrV, dIfE, dYes, dAug, dCall, dCallB, dCallX, dRaise, dEz, dBreak, dCont, dRetN, sdR, sdBR, sdX, dIsN,
  rdLen, rdInt, rdMM, rdTup, rdLstOf, rdSum, rdIx, rdI, rdI0, rdEq, rdIn, asD, itemsOf_lst, itemsOf_tup, fix, fixL, startD, notOwn, freeOk, okW, wipeG, dgName, dgTup, dgsCons, dgsNil, gAdd, DL.gSub, gMul, gMod, gDiv, gPow, gLt, gLe, gGt, gGe, atI_c0, atI_c1, atI_c2, atI_c3, atI_c4, ixN_21, ixN_20, soft_dat, soft_non, soft_own,
  List.cons_append, List.nil_append, List.map_cons, List.map_nil, List.length_cons, List.length_nil, List.length_map, List.getElem?_cons_zero, List.getElem?_cons_succ, List.set_cons_zero, List.set_cons_succ, List.replicate_succ, List.replicate_zero, Nat.reduceSub, Nat.reduceAdd, Nat.zero_add, List.all_cons, List.all_nil, Option.some.injEq, Prod.mk.injEq, Option.bind_some, reduceCtorEq,
  Wv.dat.injEq, Wv.slot.injEq, D.int.injEq, D.bl.injEq, D.lst.injEq, D.tup.injEq, List.cons.injEq, Sl.dat.injEq, Sl.own.injEq, exists_eq_left, exists_eq_left', exists_and_left, exists_and_right, exists_eq_right, exists_eq, exists_false, exists_const, true_and, and_true, false_and, and_false, ite_true, ite_false, if_true, if_false, eq_self, ↓reduceIte, Bool.and_true, Bool.true_and, and_self, or_false, false_or, Bool.false_eq_true, and_assoc, exists_prop, exists_eq_right_right, exists_eq_right', forall_eq, forall_eq', Int.reducePow, Int.reduceToNat, decide_eq_true_eq])
section
variable {P : Program} {w : World} {K : PySem.W.Frag} {mg : Str → Option Value} {base : Heap}
abbrev s_law : Stmt := top 29
abbrev N_law : List Str := ["script", "box", "turn", "parts", "stock", "order", "lacks", "due", "row", "good"]
theorem sc_law : FnScope N_law ["script"] (defScope s_law) := ⟨rfl, rfl, rfl, by decide +kernel, rfl, by decide +kernel, by decide +kernel⟩

theorem sdTo_mono {f : Addr} {prem : List (List Int) → List Int → Prop} {fine : List (List Int) → List Int → D → Prop} : ∀ ds Q Q' E E', (∀ r, Q r → Q' r) → (∀ C fs, E C fs → E' C fs) → sdTo f prem fine ds Q E → sdTo f prem fine ds Q' E' := by
  rintro ds Q Q' E E' h1 _ ⟨st, od, hd, hs, hp, h2, h3⟩
  exact ⟨st, od, hd, hs, hp, fun r hr => h1 _ (h2 r hr), fun g hg => h1 _ (h3 g hg)⟩
theorem sum_nn : ∀ (r : List Int), (∀ z ∈ r, 0 ≤ z) → 0 ≤ r.sum
  | [], _ => by simp
  | a :: r, h => by
    rw [List.sum_cons]
    have h1 := h a (by simp)
    have h2 := sum_nn r fun z q => h z (by simp [q])
    omega
def lacksAll : Nat → List (List Int) → List Int → List Int
  | i, r :: st, c :: od => if r.sum < c then (i : Int) :: lacksAll (i + 1) st od else lacksAll (i + 1) st od
  | _, _, _ => []
theorem lacks_none : ∀ (i : Nat) (st : List (List Int)) (od : List Int), lacksAll i st od = [] → lackAt i st od = none
  | _, [], _, _ => rfl
  | _, _ :: _, [], _ => rfl
  | i, r :: st, c :: od, h => by
    unfold lacksAll at h
    unfold lackAt
    split at h
    · cases h
    · rename_i z
      rw [if_neg z]
      exact lacks_none (i + 1) st od h
theorem lacks_some : ∀ (i : Nat) (st : List (List Int)) (od : List Int) (g : Int) (t : List Int), lacksAll i st od = g :: t → ∃ n : Nat, g = n ∧ lackAt i st od = some n
  | _, [], _, _, _, h => by cases h
  | _, _ :: _, [], _, _, h => by cases h
  | i, r :: st, c :: od, g, t, h => by
    unfold lacksAll at h
    unfold lackAt
    split at h
    · rename_i z
      rw [if_pos z]
      cases h
      exact ⟨i, rfl, rfl⟩
    · rename_i z
      rw [if_neg z]
      exact lacks_some (i + 1) st od g t h
def rgF : Nat → Nat → List D
  | _, 0 => []
  | k, m + 1 => .int (k : Int) :: rgF (k + 1) m
theorem rgF_map : ∀ (m k : Nat), (List.range m).map (fun i : Nat => D.int ((k : Int) + (i : Int))) = rgF k m
  | 0, _ => rfl
  | m + 1, k => by
    rw [List.range_succ_eq_map, List.map_cons, List.map_map]
    show _ :: _ = D.int (k : Int) :: rgF (k + 1) m
    rw [← rgF_map m (k + 1)]
    congr 1
    apply List.map_congr_left
    intro i _
    show D.int ((k : Int) + ((i + 1 : Nat) : Int)) = D.int (((k + 1 : Nat) : Int) + (i : Int))
    congr 1
    omega
theorem lacks_len : ∀ (i : Nat) (st : List (List Int)) (od : List Int), (lacksAll i st od).length ≤ st.length
  | _, [], _ => Nat.zero_le _
  | _, _ :: _, [] => Nat.zero_le _
  | i, r :: st, c :: od => by
    have := lacks_len (i + 1) st od
    unfold lacksAll
    split
    · simp only [List.length_cons]; omega
    · simp only [List.length_cons]; omega
theorem rgF_eq (n : Nat) : rangeD 0 n = rgF 0 n := rgF_map n 0
/-- the ways that the law asks stand in the text -/
structure Tl (mg : Str → Option Value) (fI fN : Addr) : Prop extends Tx mg where
  g_issue : mg "issue" = some (.ref fI)
  g_issues : mg "issues" = some (.ref fN)
abbrev sdLaw : Sd := sdR (fun ds => ∃ ns : List Int, ds = [lI ns]) (fun _ r => r = .bl true)
theorem ok_law {f fI fN : Addr} {fd : FuncData} (T : Tl mg fI fN) (F : Fun K "law" "law" s_law f fd) (D__law_digits : Dn P w K mg base "_law_digits" 2 ["script", "first", "last"] (SpDig K)) (D__law_draw : Dn P w K mg base "_law_draw" 1 ["box", "many"] (SpDraw K))
    (D__law_parts : Dn P w K mg base "_law_parts" 4 ["box", "goods", "longest"] (SpPt K)) (D__law_stock : Dn P w K mg base "_law_stock" 2 ["box", "parts", "most"] (SpSt K)) (D__law_sold : Dn P w K mg base "_law_sold" 1 ["stock", "order"] (SpSo K))
    (D_told_issue : Dn P w K mg base "_law_told" 4 ["way", "stock", "order"] (spD K (sdTo fI (fun _ _ => True) fineI))) (D_told_issues : Dn P w K mg base "_law_told" 4 ["way", "stock", "order"] (spD K (sdTo fN (fun st od => lackAt 0 st od ≠ none) fun _ _ _ => False))) : FnOk P w K mg base CX0 5 f fd ["script"] (spD K sdLaw) := by
  refine' okDef F sc_law (by decide) ?hl ?hb ?hr
  case hb =>
    intro cdv A outer s H E hr
    exact (pds_cons (pd_asgO 1 (fun _ => sc_law.nd) (pdo_lst (pda_cons (pd_callN (fun _ => D__law_digits) (fun _ => hr.mono (by decide)) (pda_cons (pd_var 0) (pda_cons pd_int (pda_cons pd_int pda_nil)))) (pda_cons pd_int pda_nil))))
    (pds_cons (pd_for (fun _ => PassesOwn.never) (fun _ => rfl) (pdi_range1 (fun _ => rfl) (fun _ => T.range) (pda_cons pd_int pda_nil)) (pdg_name 2 (fun _ => sc_law.nd)) (pds_cons (pd_asg 3 (fun _ => sc_law.nd) (pd_callBN 1 (fun _ => D__law_parts) (fun _ => hr.mono (by decide)) (pda_cons (pd_var 1) (pda_cons (pd_add pd_int (pd_callBN 1 (fun _ => D__law_draw) (fun _ => hr.mono (by decide)) (pda_cons (pd_var 1) (pda_cons pd_int pda_nil)))) (pda_cons pd_int pda_nil)))))
    (pds_cons (pd_asg 4 (fun _ => sc_law.nd) (pd_callBN 1 (fun _ => D__law_stock) (fun _ => hr.mono (by decide)) (pda_cons (pd_var 1) (pda_cons (pd_var 3) (pda_cons pd_int pda_nil)))))
    (pds_cons (pd_asg 5 (fun _ => sc_law.nd) (pd_tupOf (fun _ => rfl) (fun _ => T.tuple) (pda_cons (pd_of (pdo_lc [("row", 8)] (fun _ => rfl) (fun _ => sc_law.nd) (pdi_tup (pd_var 4)) (fun _ => blkOk_by (own := [("row", 8)]) (N := N_law) (sc := defScope s_law) (by decide +kernel)) (pdg_name 8 (fun _ => sc_law.nd)) pdts_nil (pd_max2 (fun _ => rfl) (fun _ => rfl) (fun _ => T.max) (pda_cons pd_int (pda_cons (pd_sub (pd_callBN 1 (fun _ => D__law_draw) (fun _ => hr.mono (by decide)) (pda_cons (pd_var 1) (pda_cons (pd_add (pd_sum (fun _ => rfl) (fun _ => rfl) (fun _ => T.sum) (pda_cons (pd_var 8) pda_nil)) pd_int) pda_nil))) (pd_callBN 1 (fun _ => D__law_draw) (fun _ => hr.mono (by decide)) (pda_cons (pd_var 1) (pda_cons pd_int pda_nil)))) pda_nil))))) pda_nil)))
    (pds_cons (pd_setLcF 6 [("good", 9)] (fun _ => rfl) (fun _ => sc_law.nd) (pdi_range1 (fun _ => rfl) (fun _ => T.range) (pda_cons (pd_len (fun _ => rfl) (fun _ => T.len) (pda_cons (pd_var 5) pda_nil)) pda_nil)) (fun _ => sw_true rfl rfl rfl (by decide +kernel)) (fun _ => blkOk_by (own := [("good", 9)]) (N := N_law) (sc := defScope s_law) (by decide +kernel)) (pdg_name 9 (fun _ => sc_law.nd)) (pdts_one (pdt_lt (pd_sum (fun _ => rfl) (fun _ => rfl) (fun _ => T.sum) (pda_cons (pd_ix (pd_var 4) (pd_var 9)) pda_nil)) (pd_ix (pd_var 5) (pd_var 9)))) (pd_var 9))
    (pds_cons (pd_asg 7 (fun _ => sc_law.nd) (pd_tup (pda_cons pd_str (pda_cons (pd_ix (pd_of (pdo_cat (pd_var 6) (pdo_lst (pda_cons pd_int pda_nil)))) pd_int) pda_nil))))
    (pds_cons (pd_if (pdt_eq (fun _ => hu64 hr) (pd_var 6) (pd_of (pdo_lst pda_nil))) (pds_one (pd_asg 7 (fun _ => sc_law.nd) (pd_tupOf (fun _ => rfl) (fun _ => T.tuple) (pda_cons (pd_of (pdo_lc [("row", 8)] (fun _ => rfl) (fun _ => sc_law.nd) (pdi_list (pd_callN (fun _ => D__law_sold) (fun _ => hr.mono (by decide)) (pda_cons (pd_var 4) (pda_cons (pd_var 5) pda_nil)))) (fun _ => blkOk_by (own := [("row", 8)]) (N := N_law) (sc := defScope s_law) (by decide +kernel)) (pdg_name 8 (fun _ => sc_law.nd)) pdts_nil (pd_tupOf (fun _ => rfl) (fun _ => T.tuple) (pda_cons (pd_var 8) pda_nil)))) pda_nil)))) pds_nil)
    (pds_cons (pd_if (pdt_ne (fun _ => hu64 hr) (pd_callG (fun _ => D_told_issue) sdTo_mono (fun _ => hr.mono (by decide)) (pda_cons (pd_globR (fun _ => rfl) (fun _ => T.g_issue)) (pda_cons (pd_var 4) (pda_cons (pd_var 5) pda_nil)))) (pd_var 7)) (pds_one (pd_ret pd_bl)) pds_nil)
    (pds_one (pd_if (pdw_pt (pdw_and (pdt_ne (fun _ => hu64 hr) (pd_var 6) (pd_of (pdo_lst pda_nil))) (pdw_and1 (pdt_ne (fun _ => hu64 hr) (pd_callG (fun _ => D_told_issues) sdTo_mono (fun _ => hr.mono (by decide)) (pda_cons (pd_globR (fun _ => rfl) (fun _ => T.g_issues)) (pda_cons (pd_var 4) (pda_cons (pd_var 5) pda_nil)))) (pd_var 7))))) (pds_one (pd_ret pd_bl)) pds_nil))))))))))
    (pds_one (pd_ret pd_bl))))
  case hl =>
    rintro ds Q E ⟨⟨ns, rfl⟩, _⟩
    rfl
  case hr =>
    rintro ds Q E ⟨⟨ns, rfl⟩, q⟩
    rw [seq_go]
    walk_at "rs"
    refine ⟨⟨ns, rfl⟩, ?_⟩
    rintro r ⟨gs, rfl⟩
    refine ⟨by decide, ?_⟩
    rw [seq_go]
    walk_at "rs"
    refine ⟨by decide, by decide, ?_⟩
    refine dLoop_by (fun xs Γ => ∃ (l : List D) (c2 c3 c4 c5 c6 c7 c8 c9 : Sl), Box l ∧ Γ = [.dat (lI ns), .own false l, c2, c3, c4, c5, c6, c7, c8, c9] ∧ soft c2 = true ∧ soft c3 = true ∧ soft c4 = true ∧ soft c5 = true ∧ (∀ m, c6 ≠ .own true m) ∧ soft c7 = true ∧ soft c8 = true ∧ soft c9 = true) ?_ ?_ _ _
      ⟨_, _, _, _, _, _, _, _, _, ⟨gs, 0, rfl⟩, rfl, rfl, rfl, rfl, rfl, (fun m z => nomatch z), rfl, rfl, rfl⟩
    · rintro Γ ⟨l, c2, c3, c4, c5, c6, c7, c8, c9, hb, rfl, h2, h3, h4, h5, h6, h7, h8, h9⟩
      walk_at "rd"
      exact q _ rfl
    · rintro x xs Γ ⟨l, c2, c3, c4, c5, c6, c7, c8, c9, hb, rfl, h2, h3, h4, h5, h6, h7, h8, h9⟩
      refine ⟨_, if_pos h2, fun L hL => ?_⟩
      rw [seq_go]
      walk_at "rs"
      refine ⟨⟨hb, 3, by decide, rfl⟩, ?_⟩
      rintro r1 l1 ⟨hb1, hr1⟩
      obtain ⟨g0, rfl, g00, g03⟩ := hr1 3 rfl
      obtain ⟨n, rfl⟩ : ∃ n : Nat, g0 = n := ⟨g0.toNat, by omega⟩
      have en : (1 + (n : Int)) = ((n + 1 : Nat) : Int) := by omega
      refine ⟨_, rfl, ⟨hb1, n + 1, 4, by omega, by decide, by decide, by rw [← en]; rfl⟩, ?_⟩
      rintro r2 l2 ⟨hb2, hr2⟩
      obtain ⟨keep, pats, most, wk, bud, rfl, po⟩ := hr2 (n + 1) 4 (by rw [← en]; rfl)
      refine ⟨h3, ?_⟩
      rw [seq_go]
      walk_at "rs"
      have hkl := po.kl
      refine ⟨⟨hb2, keep, _, 3, by omega, fun z hz => by have := po.kb z hz; omega, rfl⟩, ?_⟩
      rintro r3 l3 ⟨hb3, hr3⟩
      obtain ⟨st, rfl, so⟩ := hr3 keep _ 3 rfl
      refine ⟨h4, ?_⟩
      have hsl : st.length = n + 1 := by rw [← hkl, ← so.1, List.length_map]
      have hrl : ∀ r ∈ st, r.length ≤ 1000 := fun r hr => by
        have h1 : (r.length : Int) ∈ keep := by rw [← so.1]; exact List.mem_map_of_mem hr
        have := po.kb _ h1
        omega
      have hnn : ∀ r ∈ st, ∀ z ∈ r, 0 ≤ z := fun r hr z hz => (so.2 r hr z hz).1
      rw [seq_go]
      walk_at "rs"
      refine ⟨h8, by omega, ?_⟩
      refine dLcR_by (fun xs acc Γ => ∃ (l : List D) (st1 st2 : List (List Int)) (od1 : List Int) (c8 : Sl), Box l ∧ xs = st2.map tI ∧ acc = od1.map D.int ∧ st = st1 ++ st2 ∧ od1.length = st1.length ∧ (∀ c ∈ od1, 0 ≤ c) ∧ Γ = [.dat (lI ns), .own false l, .dat x, .dat (encParts keep pats most wk bud), .dat (ttI st), c5, c6, c7, c8, c9] ∧ soft c8 = true) ?_ ?_ _ _ _
        ⟨l3, [], st, [], .non, hb3, rfl, rfl, rfl, rfl, by simp, rfl, rfl⟩
      · rintro acc Γ ⟨l4, st1, st2, od, d8, hb4, hx, rfl, hst, hol, hoc, rfl, hd8⟩
        have : st2 = [] := by
          cases st2 with
          | nil => rfl
          | cons _ _ => cases hx
        subst this
        rw [List.append_nil] at hst
        subst hst
        refine ⟨h5, ?_⟩
        rw [seq_go]
        walk_at "rs"
        have hle : st.length = od.length := hol.symm
        refine ⟨by omega, by omega, h9, by rw [rangeD_len]; omega, ?_⟩
        rw [Int.toNat_natCast, ← hle, rgF_eq]
        refine dLcR_by (fun xs acc Γ => ∃ (k : Nat) (st1 st2 : List (List Int)) (od1 od2 done : List Int) (c9 : Sl), xs = rgF k st2.length ∧ st = st1 ++ st2 ∧ od = od1 ++ od2 ∧ st1.length = k ∧ od1.length = k ∧ st2.length = od2.length ∧ acc = done.map D.int ∧ lacksAll 0 st od = done ++ lacksAll k st2 od2 ∧ Γ = [.dat (lI ns), .own false l4, .dat x, .dat (encParts keep pats most wk bud), .dat (ttI st), .dat (tI od), c6, c7, d8, c9] ∧ soft c9 = true) ?_ ?_ _ _ _
          ⟨0, [], st, [], od, [], .non, rfl, rfl, rfl, rfl, rfl, hle, rfl, rfl, rfl, rfl⟩
        · rintro acc Γ ⟨k, st1, st2, od1, od2, done, d9, hx, hst, hod, hk1, hk2, hl2, rfl, hla, rfl, hd9⟩
          have : st2 = [] := by
            cases st2 with
            | nil => rfl
            | cons _ _ => cases hx
          subst this
          have : od2 = [] := List.eq_nil_of_length_eq_zero hl2.symm
          subst this
          have hla' : lacksAll 0 st od = done := by rw [hla]; simp [lacksAll]
          refine ⟨by cases c6 with
            | own b m => cases b with
              | true => exact absurd rfl (h6 m)
              | false => rfl
            | _ => rfl, ?_⟩
          rw [seq_go]
          walk_at "rs"
          have hdl : done.length ≤ 4 := by have := lacks_len 0 st od; rw [hla'] at this; omega
          refine ⟨by decide, by omega, ?_⟩
          have hso : StOd st od := ⟨by omega, hrl, hle⟩
          clear hla hst hod hk1 hk2 hl2 hx
          cases done with
          | nil =>
            refine ⟨.int 0, rfl, by decide, h7, ?_⟩
            have hlk := lacks_none 0 st od hla'
            rw [seq_go]
            walk_at "rs"
            refine ⟨by decide, okD_lI [], okD_lI [], fun qq hqq => ?_⟩
            have hqt : qq = true := hqq.mpr trivial
            rw [if_pos hqt]
            refine ⟨⟨st, od, rfl, hso, hnn, hoc, hlk⟩, ?_⟩
            intro r7 hr7
            have hsa : (soldAll st od).length = st.length := soldAll_len hle
            refine ⟨_, hr7 st od rfl, hd8, by rw [List.length_map, hsa]; omega, ?_⟩
            refine dLcR_by (fun xs acc Γ => ∃ (a b : List (List Int)) (c8 : Sl), xs = b.map lI ∧ acc = a.map tI ∧ soldAll st od = a ++ b ∧ Γ = [.dat (lI ns), .own false l4, .dat x, .dat (encParts keep pats most wk bud), .dat (ttI st), .dat (tI od), .own false [], .dat (.tup [.str "short", .int 0]), c8, d9] ∧ soft c8 = true) ?_ ?_ _ _ _
              ⟨[], soldAll st od, .non, rfl, rfl, rfl, rfl, rfl⟩
            · rintro acc Γ ⟨a, b, c8', hx, rfl, hab, rfl, hc8⟩
              have : b = [] := by
                cases b with
                | nil => rfl
                | cons _ _ => cases hx
              subst this
              rw [List.append_nil] at hab
              refine ⟨rfl, ?_⟩
              rw [seq_go]
              walk_at "rs"
              refine ⟨st, od, rfl, hso, trivial, fun r hr => ?_, fun g hg => by rw [hlk] at hg; cases hg⟩
              obtain ⟨_, rfl⟩ := hr
              rw [hab]
              refine ⟨okD_ttI a, okD_ttI a, fun q1 hq1 => ?_⟩
              have hq1t : q1 = true := hq1.mpr rfl
              subst hq1t
              rw [if_neg (by decide)]
              refine ⟨by decide, okD_lI [], okD_lI [], fun q2 hq2 => ?_⟩
              have hq2t : q2 = true := hq2.mpr trivial
              subst hq2t
              rw [if_neg (by decide)]
              exact hL _ ⟨l4, _, _, _, _, _, _, _, _, hb4, rfl, rfl, rfl, rfl, rfl, (fun m z => nomatch z), rfl, hc8, hd9⟩
            · rintro y ys acc Γ ⟨a, b, c8', hx, rfl, hab, rfl, hc8⟩
              cases b with
              | nil => cases hx
              | cons r b =>
                rw [List.map_cons] at hx
                injection hx with hx1 hx2
                subst hx1 hx2
                refine ⟨_, if_pos hc8, fun L2 hL2 => ?_⟩
                walk_at "rd"
                refine hL2 _ _ ⟨a ++ [r], b, .non, rfl, map_snoc' tI a r, by rw [hab, List.append_assoc]; rfl, rfl, rfl⟩
          | cons g t =>
            refine ⟨.int g, atI_c0 _ _, by decide, h7, ?_⟩
            obtain ⟨n0, rfl, hlk⟩ := lacks_some 0 st od g t hla'
            rw [seq_go]
            walk_at "rs"
            have okS : okD (.tup [.str "short", .int (n0 : Int)]) = true := by
              first
                | rfl
                | (simp [okD, DL.plain, DL.plainL, DL.dep, DL.depL]; decide +kernel)
            have okG : okD (D.lst (D.int ↑n0 :: List.map D.int t)) = true := okD_lI (((n0 : Nat) : Int) :: t)
            refine ⟨by decide, okG, okD_lI [], fun qq hqq => ?_⟩
            have hqf : qq = false := by
              cases qq with
              | false => rfl
              | true => exact (hqq.mp rfl).elim
            subst hqf
            rw [if_neg (by decide), seq_go]
            walk_at "rs"
            refine ⟨st, od, rfl, hso, trivial, fun r hr => (by rw [hr.1] at hlk; cases hlk), fun g hg => ?_⟩
            rw [hlk] at hg
            cases hg
            refine ⟨okS, okS, fun q1 hq1 => ?_⟩
            have hq1t : q1 = true := hq1.mpr rfl
            subst hq1t
            rw [if_neg (by decide)]
            refine ⟨by decide, okG, okD_lI [], fun q2 hq2 => ?_⟩
            have hq2f : q2 = false := by
              cases q2 with
              | false => rfl
              | true => exact (hq2.mp rfl).elim
            subst hq2f
            rw [if_pos (by decide)]
            refine ⟨st, od, rfl, hso, (by show lackAt 0 st od ≠ none; rw [hlk]; exact Option.some_ne_none _), fun r hr => hr.elim, fun g hg => ?_⟩
            rw [hlk] at hg
            cases hg
            refine ⟨okS, okS, fun q3 hq3 => ?_⟩
            have hq3t : q3 = true := hq3.mpr rfl
            subst hq3t
            rw [if_neg (by decide)]
            exact hL _ ⟨l4, _, _, _, _, _, _, _, _, hb4, rfl, rfl, rfl, rfl, rfl, (fun m z => nomatch z), rfl, hd8, hd9⟩
        · rintro y ys acc Γ ⟨k, st1, st2, od1, od2, done, d9, hx, hst, hod, hk1, hk2, hl2, rfl, hla, rfl, hd9⟩
          cases st2 with
          | nil => cases hx
          | cons r st2 =>
            cases od2 with
            | nil => cases hl2
            | cons c od2 =>
              have hx' : D.int (k : Int) :: rgF (k + 1) st2.length = y :: ys := hx.symm
              injection hx' with hx1 hx2
              subst hx1 hx2
              refine ⟨_, if_pos hd9, fun L2 hL2 => ?_⟩
              walk_at "rd"
              refine ⟨tI r, ?_, r, rfl, .int c, ?_, c, rfl, ?_⟩
              · exact atI_nat (by rw [List.getElem?_map, hst, List.getElem?_append_right (by omega), hk1, Nat.sub_self]; rfl)
              · exact atI_nat (by rw [List.getElem?_map, hod, List.getElem?_append_right (by omega), hk2, Nat.sub_self]; rfl)
              · have e1 : (st1 ++ [r]).length = k + 1 := by rw [List.length_append, hk1]; rfl
                have e2 : (od1 ++ [c]).length = k + 1 := by rw [List.length_append, hk2]; rfl
                by_cases h : r.sum < c
                · rw [if_pos h]
                  exact hL2 _ _ ⟨k + 1, st1 ++ [r], st2, od1 ++ [c], od2, done ++ [(k : Int)], .non, rfl, by rw [hst, List.append_assoc]; rfl, by rw [hod, List.append_assoc]; rfl, e1, e2, Nat.succ.inj hl2, map_snoc _ _, by rw [hla, lacksAll, if_pos h, List.append_assoc]; rfl, rfl, rfl⟩
                · rw [if_neg h]
                  exact hL2 _ _ ⟨k + 1, st1 ++ [r], st2, od1 ++ [c], od2, done, .non, rfl, by rw [hst, List.append_assoc]; rfl, by rw [hod, List.append_assoc]; rfl, e1, e2, Nat.succ.inj hl2, rfl, by rw [hla, lacksAll, if_neg h], rfl, rfl⟩
      · rintro y ys acc Γ ⟨l4, st1, st2, od, d8, hb4, hx, rfl, hst, hol, hoc, rfl, hd8⟩
        cases st2 with
        | nil => cases hx
        | cons r st2 =>
          rw [List.map_cons] at hx
          injection hx with hx1 hx2
          subst hx1 hx2
          refine ⟨_, if_pos hd8, fun L2 hL2 => ?_⟩
          walk_at "rd"
          have hr0 : 0 ≤ r.sum := sum_nn r (hnn r (by rw [hst]; simp))
          refine ⟨r, rfl, ⟨hb4, r.sum + 2, by omega, rfl⟩, ?_⟩
          rintro r5 l5 ⟨hb5, hr5⟩
          obtain ⟨a, rfl, a0, a1⟩ := hr5 _ rfl
          refine ⟨⟨hb5, 2, by decide, rfl⟩, ?_⟩
          rintro r6 l6 ⟨hb6, hr6⟩
          obtain ⟨b, rfl, b0, b1⟩ := hr6 2 rfl
          refine ⟨a, rfl, b, rfl, hL2 _ _ ⟨l6, st1 ++ [r], st2, od ++ [if a - b > 0 then a - b else 0], .non, hb6, rfl, map_snoc _ _, by rw [hst, List.append_assoc]; rfl, by rw [List.length_append, List.length_append, hol]; rfl, fun c hc => ?_, rfl, rfl⟩⟩
          rcases List.mem_append.mp hc with z | z
          · exact hoc c z
          · rw [List.mem_singleton.mp z]
            split <;> omega
end
end K05

set_option Elab.async false
set_option linter.all false
set_option maxRecDepth 100000
set_option maxHeartbeats 4000000
namespace K05
open PySem PySem.Spec PyProof.Rows L2 DL
open Evl (Ex)
/-! ### the head -/
def dd (x : Str) (st : Stmt) : He.DefD := ⟨(x, none), x, x, defArgs st, defBody st, defScope st, [], []⟩
def fnL : List He.DefD := [dd "oldest_taken" s_oldest_taken, dd "check_enough" s_check_enough, dd "issue" s_issue, dd "issues" s_issues, dd "_law_cell" s_law_cell, dd "_law_digits" s_law_digits, dd "_law_draw" s_law_draw, dd "_law_counts" s_law_counts,
  dd "_law_week" s_law_week, dd "_law_parts" s_law_parts, dd "_law_stock" s_law_stock, dd "_law_sold" s_law_sold, dd "_law_told" s_law_told, dd "law" s_law]
def faL : List He.Fa := [.glo "oldest_taken", .glo "check_enough", .glo "issue", .glo "issues", .glo "_law_cell", .glo "_law_digits", .glo "_law_draw", .glo "_law_counts",
  .glo "_law_week", .glo "_law_parts", .glo "_law_stock", .glo "_law_sold", .glo "_law_told", .glo "law",
  .free "len", .free "int", .free "max", .free "min", .free "tuple", .free "list", .free "sum", .free "range", .free "zip", .free "enumerate", .free "isinstance", .free "bool", .free "super", .glo "LarderdaysError", .exm "Short" "LarderdaysError" true]
def edS : HX.Ed := ⟨"Short", "Short.__init__", "good", defArgs shortInit, defBody shortInit, defScope shortInit⟩
abbrev R : PySem.W.OpenRow := PySem.W.OpenLaw.row PySem.Challenge.rw_larderdays_k05_oldest_first
abbrev hk : PySem.W.Hook := HX.hookX PySem.Challenge.pw_larderdays_k05_oldest_first 7 faL fnL [edS]
def ob (s : PySem.W.SharedT) : HX.AlX := HX.obsXG PySem.Challenge.pw_larderdays_k05_oldest_first 7 faL fnL [edS] (HandSHeadRun.getT s)
theorem ob_eq (s : PySem.W.SharedT) : ob s = hk.obs s.abs := HX.obsXG_eq (HandSHeadRun.getT_eq s)
def loose : List Str := ["LarderdaysError", "Short", "check_enough", "issue", "oldest_taken", "issues", "all_taken", "_law_cell", "_law_digits", "_law_draw", "_law_counts", "_law_week", "_law_parts", "_law_small", "_law_rows", "_law_cost", "_law_choices", "_law_gives", "_law_stock", "_law_none", "_law_cut", "_law_sold", "_law_night", "_law_next", "_law_better", "_law_told"]
theorem run (w : World) : HandSHeadRun.RunEq R (PySem.W.view R.prog [29]) hk ob 4000 loose w := by
  intro os
  kernel_rfl

end K05

set_option Elab.async false
set_option linter.all false
set_option maxRecDepth 100000
set_option maxHeartbeats 4000000
namespace K05
open PySem PySem.Spec PyProof.Rows L2 DL
open Evl (Ex)
section
variable {P : Program} {w : World} {K : PySem.W.Frag} {h : Heap} {mg : Str → Option Value}
theorem df_of (X : K.In h) (G : h.Ns mainGlobals mg) {x : Str} {st : Stmt} {ps : List Str} (hd : ∃ fd, FunD K x x (defArgs st) (defBody st) (defScope st) [] [] (He.ga K x) fd) (hg : (He.Fa.glo x).ok K = true)
    (hb : ∀ (kV doc pm : Value) (an : Option Addr) (cdv ct : Value) (us : List Value), us.length = ps.length → bindArgs (PySem.W.fnOf x x (defArgs st) (defBody st) (defScope st) .none kV doc pm an cdv ct) ⟨us, []⟩ = pure (ps.zip us)) : Df K mg x st ps := by
  obtain ⟨fd, F⟩ := hd
  have F' := HX.fun_of F
  exact ⟨_, fd, F', He.glo_ok X G hg, F'.binds hb⟩
theorem facts {f : Addr} (X : K.In h) (G : h.Ns mainGlobals mg) (hfa : mg ("law" : Str) = some (.ref f)) (c : HX.SaysX PySem.Challenge.pw_larderdays_k05_oldest_first faL fnL [edS] K) :
    ∃ fd : FuncData, (∀ (s : Shared) (v : Value), BindsTo s fd ⟨[v], []⟩ [("script", v)]) ∧ ∀ base : Heap, FnOk PySem.Challenge.pw_larderdays_k05_oldest_first w K mg base CX0 5 f fd ["script"] (spD K sdLaw) := by
  have cd := c.d
  obtain ⟨fd, F⟩ := cd.def_ 13 (d := dd "law" s_law) rfl
  have e := hfa.symm.trans (He.glo_ok X G (cd.fact 13 (f := .glo "law") rfl))
  cases e
  have b := FunD.bindsA (ps := ["script"]) F fun _ _ _ _ _ _ us hl => match us, hl with | [_], _ => rfl
  refine ⟨fd, fun s v => b s [v] rfl, fun base => ?_⟩
  have T : Tx mg := ⟨He.free_ok X G (cd.fact 14 (f := .free "len") rfl), He.free_ok X G (cd.fact 15 (f := .free "int") rfl), He.free_ok X G (cd.fact 16 (f := .free "max") rfl), He.free_ok X G (cd.fact 17 (f := .free "min") rfl), He.free_ok X G (cd.fact 18 (f := .free "tuple") rfl),
    He.free_ok X G (cd.fact 19 (f := .free "list") rfl), He.free_ok X G (cd.fact 20 (f := .free "sum") rfl), He.free_ok X G (cd.fact 21 (f := .free "range") rfl), He.free_ok X G (cd.fact 22 (f := .free "zip") rfl), He.free_ok X G (cd.fact 23 (f := .free "enumerate") rfl)⟩
  have hsup : mg "super" = none := He.free_ok X G (cd.fact 26 (f := .free "super") rfl)
  obtain ⟨e1, e2⟩ := c.exc 0 (d := edS) rfl
  have EF := HX.excB_ok (e := msgS) X G e1 e2 hsup (by decide +kernel) rfl rfl rfl rfl
  obtain ⟨fI, cc, cda, XT⟩ := EF.ex
  have Rr : Er K mg (He.ga K "Short") (He.ga K "LarderdaysError") := ⟨XT.gC, He.glo_ok X G (cd.fact 27 (f := .glo "LarderdaysError") rfl), He.free_ok X G (cd.fact 24 (f := .free "isinstance") rfl), He.free_ok X G (cd.fact 25 (f := .free "bool") rfl),
    He.exm_ok (cd.fact 28 (f := .exm "Short" "LarderdaysError" true) rfl), EF.ec, EF.xf, EF.noN, by kernel_rfl⟩
  have d0 : Df K mg "oldest_taken" s_oldest_taken ["row", "count"] := df_of X G (cd.def_ 0 (d := dd "oldest_taken" s_oldest_taken) rfl) (cd.fact 0 rfl) fun _ _ _ _ _ _ us hl => match us, hl with | [_, _], _ => rfl
  have d1 : Df K mg "check_enough" s_check_enough ["stock", "order"] := df_of X G (cd.def_ 1 (d := dd "check_enough" s_check_enough) rfl) (cd.fact 1 rfl) fun _ _ _ _ _ _ us hl => match us, hl with | [_, _], _ => rfl
  have d2 : Df K mg "issue" s_issue ["stock", "order"] := df_of X G (cd.def_ 2 (d := dd "issue" s_issue) rfl) (cd.fact 2 rfl) fun _ _ _ _ _ _ us hl => match us, hl with | [_, _], _ => rfl
  have d3 : Df K mg "issues" s_issues ["stock", "order"] := df_of X G (cd.def_ 3 (d := dd "issues" s_issues) rfl) (cd.fact 3 rfl) fun _ _ _ _ _ _ us hl => match us, hl with | [_, _], _ => rfl
  have d4 : Df K mg "_law_cell" s_law_cell ["script", "k"] := df_of X G (cd.def_ 4 (d := dd "_law_cell" s_law_cell) rfl) (cd.fact 4 rfl) fun _ _ _ _ _ _ us hl => match us, hl with | [_, _], _ => rfl
  have d5 : Df K mg "_law_digits" s_law_digits ["script", "first", "last"] := df_of X G (cd.def_ 5 (d := dd "_law_digits" s_law_digits) rfl) (cd.fact 5 rfl) fun _ _ _ _ _ _ us hl => match us, hl with | [_, _, _], _ => rfl
  have d6 : Df K mg "_law_draw" s_law_draw ["box", "many"] := df_of X G (cd.def_ 6 (d := dd "_law_draw" s_law_draw) rfl) (cd.fact 6 rfl) fun _ _ _ _ _ _ us hl => match us, hl with | [_, _], _ => rfl
  have d7 : Df K mg "_law_counts" s_law_counts ["box", "goods", "most"] := df_of X G (cd.def_ 7 (d := dd "_law_counts" s_law_counts) rfl) (cd.fact 7 rfl) fun _ _ _ _ _ _ us hl => match us, hl with | [_, _, _], _ => rfl
  have d8 : Df K mg "_law_week" s_law_week ["box", "goods", "most"] := df_of X G (cd.def_ 8 (d := dd "_law_week" s_law_week) rfl) (cd.fact 8 rfl) fun _ _ _ _ _ _ us hl => match us, hl with | [_, _, _], _ => rfl
  have d9 : Df K mg "_law_parts" s_law_parts ["box", "goods", "longest"] := df_of X G (cd.def_ 9 (d := dd "_law_parts" s_law_parts) rfl) (cd.fact 9 rfl) fun _ _ _ _ _ _ us hl => match us, hl with | [_, _, _], _ => rfl
  have d10 : Df K mg "_law_stock" s_law_stock ["box", "parts", "most"] := df_of X G (cd.def_ 10 (d := dd "_law_stock" s_law_stock) rfl) (cd.fact 10 rfl) fun _ _ _ _ _ _ us hl => match us, hl with | [_, _, _], _ => rfl
  have d11 : Df K mg "_law_sold" s_law_sold ["stock", "order"] := df_of X G (cd.def_ 11 (d := dd "_law_sold" s_law_sold) rfl) (cd.fact 11 rfl) fun _ _ _ _ _ _ us hl => match us, hl with | [_, _], _ => rfl
  have d12 : Df K mg "_law_told" s_law_told ["way", "stock", "order"] := df_of X G (cd.def_ 12 (d := dd "_law_told" s_law_told) rfl) (cd.fact 12 rfl) fun _ _ _ _ _ _ us hl => match us, hl with | [_, _, _], _ => rfl
  have D_ot : Dn PySem.Challenge.pw_larderdays_k05_oldest_first w K mg base "oldest_taken" 1 ["row", "count"] (SpOT K) := d0.dn fun f fd F => ok_oldest_taken (k := 0) T F
  have D_ce : DnX PySem.Challenge.pw_larderdays_k05_oldest_first w K mg base "check_enough" 2 ["stock", "order"] (spD K (sdCE (He.ga K "Short"))) := d1.dnX fun f fd F => ok_check_enough (k := 0) T XT F
  have D_is : DnX PySem.Challenge.pw_larderdays_k05_oldest_first w K mg base "issue" 3 ["stock", "order"] (spD K (sdIS (He.ga K "Short"))) := d2.dnX fun f fd F => ok_issue T F D_ot D_ce
  have D_ns : DnX PySem.Challenge.pw_larderdays_k05_oldest_first w K mg base "issues" 3 ["stock", "order"] (spD K (sdNS (He.ga K "Short"))) := d3.dnX fun f fd F => ok_issues F D_ce
  have D_cell : Dn PySem.Challenge.pw_larderdays_k05_oldest_first w K mg base "_law_cell" 1 ["script", "k"] (SpCell K) := d4.dn fun f fd F => ok_law_cell (k := 0) T F
  have D_dig : Dn PySem.Challenge.pw_larderdays_k05_oldest_first w K mg base "_law_digits" 2 ["script", "first", "last"] (SpDig K) := d5.dn fun f fd F => ok_law_digits T F D_cell
  have D_dr : Dn PySem.Challenge.pw_larderdays_k05_oldest_first w K mg base "_law_draw" 1 ["box", "many"] (SpDraw K) := d6.dn fun f fd F => ok_law_draw (k := 0) T F
  have D_cn : Dn PySem.Challenge.pw_larderdays_k05_oldest_first w K mg base "_law_counts" 2 ["box", "goods", "most"] (SpCnt K) := d7.dn fun f fd F => ok_law_counts T F D_dr
  have D_wk : Dn PySem.Challenge.pw_larderdays_k05_oldest_first w K mg base "_law_week" 3 ["box", "goods", "most"] (SpWk K) := d8.dn fun f fd F => ok_law_week T F D_dr D_cn
  have D_pt : Dn PySem.Challenge.pw_larderdays_k05_oldest_first w K mg base "_law_parts" 4 ["box", "goods", "longest"] (SpPt K) := d9.dn fun f fd F => ok_law_parts T F D_dr D_cn D_wk
  have D_st : Dn PySem.Challenge.pw_larderdays_k05_oldest_first w K mg base "_law_stock" 2 ["box", "parts", "most"] (SpSt K) := d10.dn fun f fd F => ok_law_stock T F D_dr
  have D_so : Dn PySem.Challenge.pw_larderdays_k05_oldest_first w K mg base "_law_sold" 1 ["stock", "order"] (SpSo K) := d11.dn fun f fd F => ok_law_sold (k := 0) T F
  obtain ⟨fi, fdi, Gi, gi, ki, bi⟩ := D_is.ex
  obtain ⟨fn, fdn, Gn, gn, kn, bn⟩ := D_ns.ex
  have D_t1 : Dn PySem.Challenge.pw_larderdays_k05_oldest_first w K mg base "_law_told" 4 ["way", "stock", "order"] (spD K (sdTo fi (fun _ _ => True) fineI)) := d12.dn fun f fd F => ok_law_told Rr F Gi ki bi hW_issue
  have D_t2 : Dn PySem.Challenge.pw_larderdays_k05_oldest_first w K mg base "_law_told" 4 ["way", "stock", "order"] (spD K (sdTo fn (fun st od => lackAt 0 st od ≠ none) fun _ _ _ => False)) := d12.dn fun f fd F => ok_law_told Rr F Gn kn bn hW_issues
  have Tl' : Tl mg fi fn := { toTx := T, g_issue := gi, g_issues := gn }
  exact ok_law Tl' (HX.fun_of F) D_dig D_dr D_pt D_st D_so D_t1 D_t2
end
theorem law_sp {K : PySem.W.Frag} {H : Hp} {a : Addr} {ns : List Int} (hS : SqL K H a (ns.map V.int)) : spD K sdLaw [.ref a] H (fun v _ => v = .bl true) (fun _ _ _ => False) := by
  refine ⟨[lI ns], fun _ => none, H, .cons (.lst hS (RpL.ints ns)) .nil, Ex.refl _, (fun _ _ z => nomatch z), (fun _ z => absurd rfl z), ⟨ns, rfl⟩, fun r hr v H' B' _ _ _ _ rp => ?_⟩
  have hr' : r = .bl true := hr
  subst hr'
  cases rp
  rfl
end K05

set_option Elab.async false
set_option linter.all false
set_option maxRecDepth 100000
set_option maxHeartbeats 4000000
open PySem PySem.W PySem.Calls PyProof.Rows
theorem PySem.Challenge.cw_larderdays_k05_oldest_first_holds : PySem.Challenge.rw_larderdays_k05_oldest_first.Holds := by
  w_on; o_law
  refine HandSHeadRun.head_any (r := OpenLaw.row PySem.Challenge.rw_larderdays_k05_oldest_first) (q := view (OpenLaw.row PySem.Challenge.rw_larderdays_k05_oldest_first).prog [29]) (H := K05.hk) (ob := K05.ob) (M := 4000) (loose := K05.loose) (d := HandSHeadRun.topDef (OpenLaw.row PySem.Challenge.rw_larderdays_k05_oldest_first).prog 29) (kwd := []) K05.ob_eq
    (by kernel_rfl) (fun s => by kernel_rfl) K05.run (by kernel_rfl) (by kernel_rfl) (by kernel_rfl) (by rfl) (by first | assumption | decide +kernel) (by decide +kernel) ⟨rfl, rfl, rfl, rfl, rfl, by decide +kernel⟩ ?hw ?hc
  case hw => w_witness2
  case hc =>
    refine L2.walk_ofE (l := PySem.Challenge.rw_larderdays_k05_oldest_first) (n := 63) (k := 5) (x := "script") (CX := L2.CX0) rfl (by decide) (by kernel_rfl) ⟨rfl, by decide, by decide⟩ ?F (fun _ _ _ _ z => z)
    intro w mg fa h Y G hmg0
    obtain ⟨K, KX, c⟩ := Y
    have hmg : mg ("law" : PySem.Str) = some (.ref fa) := by
      have e : (HandSHeadRun.topDef (OpenLaw.row PySem.Challenge.rw_larderdays_k05_oldest_first).prog 29).name = ("law" : PySem.Str) := by kernel_rfl
      rw [← e]
      exact hmg0
    obtain ⟨fd, hb, hF⟩ := K05.facts (w := w) KX G hmg c
    exact ⟨K, fd, DL.spD K K05.sdLaw, KX, hb, fun H a ns _ _ hS => K05.law_sp hS, fun base _ _ => hF base⟩
