import PyProof.Rows.All
import Wide.All
import OpenK.AllK
import Wide.FinOn
import HandS.ForMost
import HandS.Deep
import HandS.Zip
import HandS.Evl
import HandS.AnyAll
import HandS.Exc
import HandS.WordsExc
import KE.KExcSuper
import KE.KSuper
import HandS.ExcField
import HandS.ExcIs
import HandS.ExcOwn
import HandS.CallLocal
import HandS.IsInst
import KE.KExcIs
import HandS.TupAny
import HandS.JoinGen
import HandS.Nested
import PyProof.SumAny
import PyProof.WalksMore
import HandS.Defaults
import HandS.GenOver
import HandS.GenList
import KE.GoesZip
import KE.GoesMore
import KE.GoesEnum
import HandS.TupMul
import HandS.TupSets
import PyProof.ListIndex
import HandS.Style
import HandS.NoneIn
import PyProof.Rows.SeqMore
import PyProof.GenArm
import HandS.Head0
import HandS.Head1
import HandS.Head2
import HandS.HeadEnd
import HandS.HeadHook1
import HandS.HeadHook2
import HandS.HeadHook3
import HandS.HeadHook4
import HandS.HeadWalk
import PyProof.ReprRoads
import HandS.Star
import HandS.Text
import HandS.RaiseMore
import KE.SortCalls
import PySem.Challenge.RW_larderdays_k06_oldest_first_is_best
set_option Elab.async false
set_option linter.all false
set_option maxRecDepth 100000
set_option maxHeartbeats 4000000
/-! Plain data over the hand layer: what slots and values hold, told without addresses. -/
namespace DL
open PySem PySem.Spec PyProof.Rows L2


/-! ### H' is H with more; tables of code objects may have grown -/
def Ex (H H' : Hp) : Prop := ∀ a o, H a = some o → H' a = some o ∨ ∃ ps ps' : Array Value, o = .tbl ps ∧ H' a = some (.tbl ps') ∧ (TriplesOk ps.toList → TriplesOk ps'.toList)
theorem Ex.of {H H' : Hp} (h : ∀ a o, H a = some o → H' a = some o) : Ex H H' := fun a o e => .inl (h a o e)
theorem Ex.refl (H : Hp) : Ex H H := .of fun _ _ h => h
theorem Ex.trans {H H1 H2 : Hp} (a : Ex H H1) (b : Ex H1 H2) : Ex H H2 := fun x o h => by
  rcases a x o h with h1 | ⟨ps, ps1, rfl, h1, t1⟩
  · exact b x o h1
  · rcases b x _ h1 with h2 | ⟨qs, ps2, q, h2, t2⟩
    · exact .inr ⟨ps, ps1, rfl, h2, t1⟩
    · cases q
      exact .inr ⟨ps, ps2, rfl, h2, fun z => t2 (t1 z)⟩
theorem Ex.new {H : Hp} {p : Addr} {o : HO} (h : H p = none) : Ex H (upd H p o) := .of (Evl.Ex.new h)
theorem Ex.get {H H' : Hp} (e : Ex H H') {a : Addr} {o : HO} (h : H a = some o) (hn : ∀ q : Array Value, o ≠ .tbl q) : H' a = some o := by
  rcases e a o h with h1 | ⟨ps, _, q, _⟩
  · exact h1
  · exact absurd q (hn ps)
theorem Ex.lst {H H' : Hp} (e : Ex H H') {a : Addr} {xs : List V} (h : H a = some (.lst xs)) : H' a = some (.lst xs) := e.get h fun _ z => nomatch z
theorem Ex.tup {H H' : Hp} (e : Ex H H') {a : Addr} {xs : List V} (h : H a = some (.tup xs)) : H' a = some (.tup xs) := e.get h fun _ z => nomatch z
theorem Ex.ins {H H' : Hp} (e : Ex H H') {a C dx : Addr} {fs : List (Str × V)} (h : H a = some (.ins C dx fs)) : H' a = some (.ins C dx fs) := e.get h fun _ z => nomatch z
theorem Ex.frz {H H' : Hp} (e : Ex H H') {a : Addr} {o : Obj} {u : HO} (h : H a = some (.frz o u)) : H' a = some (.frz o u) := e.get h fun _ z => nomatch z
theorem Ex.some {H H' : Hp} (e : Ex H H') {a : Addr} {o : HO} (h : H a = Option.some o) : H' a ≠ none := by
  rcases e a o h with h1 | ⟨_, _, _, h1, _⟩ <;> rw [h1] <;> exact fun z => nomatch z
theorem ex_l {K : PySem.W.Frag} {H H' : Hp} {a : Addr} {xs : List V} (e : Ex H H') (h : SqL K H a xs) : SqL K H' a xs := by
  rcases h with (h | ⟨o, h⟩) | h
  · exact .inl (.inl (e.lst h))
  · exact .inl (.inr ⟨o, e.frz h⟩)
  · exact .inr h
theorem ex_t {K : PySem.W.Frag} {H H' : Hp} {a : Addr} {xs : List V} (e : Ex H H') (h : SqT K H a xs) : SqT K H' a xs := by
  rcases h with (h | ⟨o, h⟩) | h
  · exact .inl (.inl (e.tup h))
  · exact .inl (.inr ⟨o, e.frz h⟩)
  · exact .inr h
theorem fresh_back {H H' : Hp} {p : Addr} (e : Ex H H') (h : H' p = none) : H p = none := by
  cases h1 : H p with
  | none => rfl
  | some o => exact absurd h (e.some h1)
abbrev TabG (H : Hp) (T : Addr) : Prop := GxR.TabG H T
theorem Ex.tab {H H' : Hp} (e : Ex H H') {T : Addr} (h : TabG H T) : TabG H' T := by
  obtain ⟨ps, h1, h2⟩ := h
  rcases e T _ h1 with h3 | ⟨_, ps', q, h3, t⟩
  · exact ⟨ps, h3, h2⟩
  · cases q
    exact ⟨ps', h3, t h2⟩
/-- a table has grown -/
theorem Ex.grown {H H' : Hp} {T : Addr} (g : TabG H T) (h : GxR.Tabbed T H H') : Ex H H' := fun b o e => by
  by_cases q : b = T
  · subst q
    obtain ⟨ps, h1, _⟩ := g
    rw [h1] at e
    cases e
    obtain ⟨⟨ps', h2, t⟩, _⟩ := h
    exact .inr ⟨ps, ps', rfl, h2, fun _ => t⟩
  · exact .inl (by rw [h.2 b q]; exact e)

inductive D where
  | non | bl (b : Bool) | int (i : Int) | str (x : Str) | tup (l : List D) | lst (l : List D) | obj (C : Addr) (fs : List (Str × D)) | opq (a : Addr)

mutual
inductive Rp (K : PySem.W.Frag) (H : Hp) : V → D → Prop
  | non : Rp K H .non .non
  | bl (b : Bool) : Rp K H (.bl b) (.bl b)
  | int (i : Int) : Rp K H (.int i) (.int i)
  | str (x : Str) : Rp K H (.str x) (.str x)
  | tup {a : Addr} {xs : List V} {ds : List D} : SqT K H a xs → RpL K H xs ds → Rp K H (.ref a) (.tup ds)
  | lst {a : Addr} {xs : List V} {ds : List D} : SqL K H a xs → RpL K H xs ds → Rp K H (.ref a) (.lst ds)
  | obj {a C dx : Addr} {fvs : List (Str × V)} {fs : List (Str × D)} : H a = some (.ins C dx fvs) → RpF K H fvs fs → Rp K H (.ref a) (.obj C fs)
  | opq (a : Addr) : Rp K H (.ref a) (.opq a)
inductive RpL (K : PySem.W.Frag) (H : Hp) : List V → List D → Prop
  | nil : RpL K H [] []
  | cons {v : V} {vs : List V} {d : D} {ds : List D} : Rp K H v d → RpL K H vs ds → RpL K H (v :: vs) (d :: ds)
inductive RpF (K : PySem.W.Frag) (H : Hp) : List (Str × V) → List (Str × D) → Prop
  | nil : RpF K H [] []
  | cons {x : Str} {v : V} {vs : List (Str × V)} {d : D} {ds : List (Str × D)} : Rp K H v d → RpF K H vs ds → RpF K H ((x, v) :: vs) ((x, d) :: ds)
end

section
variable {K : PySem.W.Frag} {H H' : Hp}
mutual
theorem Rp.mono (e : Ex H H') : ∀ {v : V} {d : D}, Rp K H v d → Rp K H' v d
  | _, _, .non => .non
  | _, _, .bl b => .bl b
  | _, _, .int i => .int i
  | _, _, .str x => .str x
  | _, _, .tup h r => .tup (ex_t e h) (RpL.mono e r)
  | _, _, .lst h r => .lst (ex_l e h) (RpL.mono e r)
  | _, _, .obj h r => .obj (e.ins h) (RpF.mono e r)
  | _, _, .opq a => .opq a
theorem RpL.mono (e : Ex H H') : ∀ {vs : List V} {ds : List D}, RpL K H vs ds → RpL K H' vs ds
  | _, _, .nil => .nil
  | _, _, .cons h r => .cons (Rp.mono e h) (RpL.mono e r)
theorem RpF.mono (e : Ex H H') : ∀ {vs : List (Str × V)} {ds : List (Str × D)}, RpF K H vs ds → RpF K H' vs ds
  | _, _, .nil => .nil
  | _, _, .cons h r => .cons (Rp.mono e h) (RpF.mono e r)
end
theorem RpL.len : ∀ {vs : List V} {ds : List D}, RpL K H vs ds → vs.length = ds.length
  | _, _, .nil => rfl
  | _, _, .cons _ r => congrArg (· + 1) (RpL.len r)
theorem RpL.get : ∀ {vs : List V} {ds : List D} {i : Nat} {v : V}, RpL K H vs ds → vs[i]? = some v → ∃ d, ds[i]? = some d ∧ Rp K H v d
  | _, _, 0, _, .cons h _, e => ⟨_, rfl, by cases e; exact h⟩
  | _, _, i + 1, v, .cons _ r, e => by
    obtain ⟨d, h1, h2⟩ := RpL.get (i := i) (v := v) r (by simpa using e)
    exact ⟨d, by simpa using h1, h2⟩
theorem RpL.getD : ∀ {vs : List V} {ds : List D} {i : Nat} {d : D}, RpL K H vs ds → ds[i]? = some d → ∃ v, vs[i]? = some v ∧ Rp K H v d
  | _, _, 0, _, .cons h _, e => ⟨_, rfl, by cases e; exact h⟩
  | _, _, i + 1, d, .cons _ r, e => by
    obtain ⟨v, h1, h2⟩ := RpL.getD (i := i) (d := d) r (by simpa using e)
    exact ⟨v, by simpa using h1, h2⟩
theorem RpL.app : ∀ {vs ws : List V} {ds es : List D}, RpL K H vs ds → RpL K H ws es → RpL K H (vs ++ ws) (ds ++ es)
  | _, _, _, _, .nil, r => r
  | _, _, _, _, .cons h t, r => .cons h (t.app r)
theorem RpL.setAt {v : V} {d : D} (h : Rp K H v d) : ∀ {vs : List V} {ds : List D} (i : Nat), RpL K H vs ds → RpL K H (vs.set i v) (ds.set i d)
  | _, _, _, .nil => .nil
  | _, _, 0, .cons _ t => .cons h t
  | _, _, i + 1, .cons q t => .cons q (RpL.setAt h i t)
theorem RpL.one {v : V} {d : D} (h : Rp K H v d) : RpL K H [v] [d] := .cons h .nil
theorem RpL.ints : ∀ (ns : List Int), RpL K H (ns.map V.int) (ns.map D.int)
  | [] => .nil
  | n :: ns => .cons (.int n) (RpL.ints ns)
theorem RpL.ints_of : ∀ {vs : List V} {ns : List Int}, RpL K H vs (ns.map D.int) → vs = ns.map V.int
  | [], [], _ => rfl
  | [], _ :: _, h => by cases h
  | _ :: _, [], h => by cases h
  | v :: vs, n :: ns, h => by
    cases h with
    | cons h r =>
      cases h
      rw [RpL.ints_of r]
      rfl
theorem RpL.take : ∀ {vs : List V} {ds : List D} (n : Nat), RpL K H vs ds → RpL K H (vs.take n) (ds.take n)
  | _, _, 0, _ => .nil
  | _, _, _ + 1, .nil => .nil
  | _, _, n + 1, .cons h r => .cons h (RpL.take n r)
theorem RpL.drop : ∀ {vs : List V} {ds : List D} (n : Nat), RpL K H vs ds → RpL K H (vs.drop n) (ds.drop n)
  | _, _, 0, r => r
  | _, _, _ + 1, .nil => .nil
  | _, _, n + 1, .cons _ r => RpL.drop n r
theorem RpL.rev : ∀ {vs : List V} {ds : List D}, RpL K H vs ds → RpL K H vs.reverse ds.reverse
  | _, _, .nil => .nil
  | _, _, .cons h r => by
    rw [List.reverse_cons, List.reverse_cons]
    exact (RpL.rev r).app (.one h)
end

/-! ### a region: objects that are known and may be written -/
inductive Nd where
  | lst (l : List D) | ins (C : Addr) (fs : List (Str × D)) | dk (kvs : List (Key × D)) | dt (kvs : List (List Key × D))
abbrev Mm := Addr → Option Nd
inductive NdRep (K : PySem.W.Frag) (B : Hp) : HO → Nd → Prop
  | lst {vs : List V} {l : List D} : RpL K B vs l → NdRep K B (.lst vs) (.lst l)
  | ins {C dx : Addr} {fvs : List (Str × V)} {fs : List (Str × D)} : RpF K B fvs fs → NdRep K B (.ins C dx fvs) (.ins C fs)
  | dk {us : List (Key × V)} {kvs : List (Key × D)} : us.map (·.1) = kvs.map (·.1) → RpL K B (us.map (·.2)) (kvs.map (·.2)) → NdRep K B (.dK us) (.dk kvs)
  | dt {us : List (List Key × V)} {kvs : List (List Key × D)} : us.map (·.1) = kvs.map (·.1) → RpL K B (us.map (·.2)) (kvs.map (·.2)) → NdRep K B (.dT us) (.dt kvs)
theorem NdRep.mono {K : PySem.W.Frag} {B B' : Hp} (e : Ex B B') {o : HO} {n : Nd} (h : NdRep K B o n) : NdRep K B' o n := by
  cases h with
  | lst r => exact .lst (r.mono e)
  | ins r => exact .ins (r.mono e)
  | dk k r => exact .dk k (r.mono e)
  | dt k r => exact .dt k (r.mono e)
theorem NdRep.noTbl {K : PySem.W.Frag} {B : Hp} {o : HO} {n : Nd} (h : NdRep K B o n) : ∀ q : Array Value, o ≠ .tbl q := by
  cases h <;> exact nofun
structure Reg (K : PySem.W.Frag) (B : Hp) (M : Mm) (H : Hp) : Prop where
  nd : ∀ a n, M a = some n → ∃ o, H a = some o ∧ NdRep K B o n
  ow : ∀ a n C dx fvs, M a = some n → H a = some (.ins C dx fvs) → H dx = some (.own a)
def InReg (M : Mm) (H : Hp) (b : Addr) : Prop := M b ≠ none ∨ ∃ a C fvs, M a ≠ none ∧ H a = some (.ins C b fvs)
theorem InReg.back {M : Mm} {H H' : Hp} (hH : ∀ b, InReg M H b → H' b = H b) {b : Addr} (h : InReg M H' b) : InReg M H b := by
  rcases h with h | ⟨a, C, fvs, h1, h2⟩
  · exact .inl h
  · exact .inr ⟨a, C, fvs, h1, by rw [← hH a (.inl h1)]; exact h2⟩
theorem Reg.to {K : PySem.W.Frag} {B B' : Hp} {M : Mm} {H H' : Hp} (h : Reg K B M H) (e : Ex B B') (hH : ∀ b, InReg M H b → H' b = H b) : Reg K B' M H' where
  nd := fun a n hm => by
    obtain ⟨o, h1, h2⟩ := h.nd a n hm
    exact ⟨o, by rw [hH a (.inl (by rw [hm]; exact nofun))]; exact h1, h2.mono e⟩
  ow := fun a n C dx fvs hm ho => by
    have na : M a ≠ none := by rw [hm]; exact nofun
    rw [hH a (.inl na)] at ho
    rw [hH dx (.inr ⟨a, C, fvs, na, ho⟩)]
    exact h.ow a n C dx fvs hm ho
/-- what is in the region stays, where it is kept -/
theorem Reg.keep {K : PySem.W.Frag} {B : Hp} {M : Mm} {H H' : Hp} (h : Reg K B M H) (e : ∀ b o, InReg M H b → H b = some o → (∀ q : Array Value, o ≠ .tbl q) → H' b = some o) : ∀ b, InReg M H b → H' b = H b := by
  intro b hr
  have hr' := hr
  rcases hr with hb | ⟨a, C, fvs, h1, h2⟩
  · cases q : M b with
    | none => exact absurd q hb
    | some n =>
      obtain ⟨o, k1, k2⟩ := h.nd b n q
      rw [k1]
      exact e b o hr' k1 k2.noTbl
  · cases q : M a with
    | none => exact absurd q h1
    | some n =>
      have k := h.ow a n C b fvs q h2
      rw [k]
      exact e b _ hr' k nofun
theorem Reg.stay {K : PySem.W.Frag} {B : Hp} {M : Mm} {H H' : Hp} (h : Reg K B M H) (e : Ex H H') : ∀ b, InReg M H b → H' b = H b := h.keep fun _ _ _ ho hn => e.get ho hn
theorem Reg.alloc {K : PySem.W.Frag} {B : Hp} {M : Mm} {H : Hp} (h : Reg K B M H) {b : Addr} (hb : InReg M H b) : H b ≠ none := by
  rcases hb with hb | ⟨a, C, fvs, h1, h2⟩
  · cases q : M b with
    | none => exact absurd q hb
    | some n =>
      obtain ⟨o, k1, k2⟩ := h.nd b n q
      rw [k1]
      exact nofun
  · cases q : M a with
    | none => exact absurd q h1
    | some n =>
      rw [h.ow a n C b fvs q h2]
      exact nofun

/-! ### slots -/
/-- nothing known | data that nobody changes | a list that this slot alone holds (b: lent by the caller) -/
inductive Sl where
  | non | dat (d : D) | own (b : Bool) (l : List D) | heap (M : Mm)
abbrev Gm := List Sl
/-- a value: data, or the list of a slot -/
inductive Wv where
  | dat (d : D) | slot (i : Nat)
abbrev Xd := Addr → List (Str × D) → Prop

/-- an exception's fields: in its dict, or it has none -/
def OkX (K : PySem.W.Frag) (H' B' : Hp) : Option Addr → List (Str × V) → List (Str × D) → Prop
  | some d, fvs, fs => H' d = some (.xd fvs) ∧ RpF K B' fvs fs
  | none, _, fs => fs = []
/-- what stays the same through a def's run -/
structure Par where
  K : PySem.W.Frag
  F : Hp
  pin : List (Nat × Addr)
  B0 : Hp
  Ed : Xd
  E : XK
  ts : List Addr
  tab : ∀ T ∈ ts, TabG F T
  xok : ∀ (C : Addr) (fs : List (Str × D)) (d : Option Addr) (fvs : List (Str × V)) (H' B' : Hp), Ed C fs → Ex B0 B' → Ex B' H' → Ex F H' → (∀ b, F b ≠ none → B' b = none) → OkX K H' B' d fvs fs → E (.ref C) d H'
def HeapF (K : PySem.W.Frag) (F B : Hp) (Γ : Gm) (σ : L2.St) (H : Hp) : Prop := (∀ (i j : Nat) (M M' : Mm), Γ[i]? = some (.heap M) → Γ[j]? = some (.heap M') → i = j) ∧
  ∀ (i : Nat) (M : Mm), Γ[i]? = some (.heap M) → Reg K B M H ∧ ∀ b, InReg M H b → F b = none ∧ B b = none ∧ ∀ (j : Nat) (p : Bool) (l : List D), Γ[j]? = some (.own p l) → σ[j]? ≠ some (some (.ref b))
theorem HeapF.to {K : PySem.W.Frag} {F F' B B' : Hp} {Γ Γ' : Gm} {σ σ' : L2.St} {H H' : Hp} (h : HeapF K F B Γ σ H) (hΓ : ∀ (i : Nat) (M : Mm), Γ'[i]? = some (.heap M) → Γ[i]? = some (.heap M)) (e : Ex B B')
    (hH : ∀ (i : Nat) (M : Mm), Γ[i]? = some (.heap M) → ∀ b, InReg M H b → H' b = H b) (hF : ∀ (i : Nat) (M : Mm), Γ[i]? = some (.heap M) → ∀ b, InReg M H b → F b = none → B b = none → F' b = none ∧ B' b = none)
    (ho : ∀ (i : Nat) (M : Mm), Γ[i]? = some (.heap M) → ∀ b, InReg M H b → (∀ (j : Nat) (p : Bool) (l : List D), Γ[j]? = some (.own p l) → σ[j]? ≠ some (some (.ref b))) → ∀ (j : Nat) (p : Bool) (l : List D), Γ'[j]? = some (.own p l) → σ'[j]? ≠ some (some (.ref b))) : HeapF K F' B' Γ' σ' H' := by
  refine ⟨fun i j M M' a b => h.1 i j M M' (hΓ i M a) (hΓ j M' b), fun i M hi => ?_⟩
  have hi := hΓ i M hi
  obtain ⟨r, k⟩ := h.2 i M hi
  refine ⟨r.to e (hH i M hi), fun b hb => ?_⟩
  have hb := InReg.back (hH i M hi) hb
  obtain ⟨k1, k2, k3⟩ := k b hb
  obtain ⟨j1, j2⟩ := hF i M hi b hb k1 k2
  exact ⟨j1, j2, ho i M hi b hb k3⟩
/-- no region: nothing to show -/
theorem HeapF.none {K : PySem.W.Frag} {F B : Hp} {Γ : Gm} {σ : L2.St} {H : Hp} (h : ∀ (i : Nat) (M : Mm), Γ[i]? ≠ some (.heap M)) : HeapF K F B Γ σ H := ⟨fun i _ M _ a => absurd a (h i M), fun i M a => absurd a (h i M)⟩
structure En (P : Par) (Bv : Hp) (Γ : Gm) (σ : L2.St) (H : Hp) : Prop where
  len : Γ.length = σ.length
  base : Ex P.B0 Bv
  sub : Ex Bv H
  frm : Ex P.F H
  dj : ∀ b, P.F b ≠ none → Bv b = none
  dat : ∀ (i : Nat) (d : D), Γ[i]? = some (.dat d) → ∃ v, σ[i]? = some (some v) ∧ Rp P.K Bv v d
  own : ∀ (i : Nat) (p : Bool) (l : List D), Γ[i]? = some (.own p l) → ∃ a vs, σ[i]? = some (some (.ref a)) ∧ H a = some (.lst vs) ∧ RpL P.K Bv vs l ∧ Bv a = none ∧ P.F a = none
  inj : ∀ (i j : Nat) (p p' : Bool) (l l' : List D) (a : Addr), Γ[i]? = some (.own p l) → Γ[j]? = some (.own p' l') → σ[i]? = some (some (.ref a)) → σ[j]? = some (some (.ref a)) → i = j
  pin : ∀ q ∈ P.pin, ∃ l, Γ[q.1]? = some (.own true l) ∧ σ[q.1]? = some (some (.ref q.2))
  hf : HeapF P.K P.F Bv Γ σ H

def RpW (K : PySem.W.Frag) (Bv : Hp) (σ : L2.St) (v : V) : Wv → Prop
  | .dat d => Rp K Bv v d
  | .slot i => σ[i]? = some (some v)
def asD (Γ : Gm) : Wv → Option D
  | .dat d => some d
  | .slot i => match Γ[i]? with
    | some (.own _ l) => some (.lst l)
    | _ => none
theorem RpW.mono {K : PySem.W.Frag} {Bv Bv' : Hp} {σ : L2.St} {v : V} {w : Wv} (e : Ex Bv Bv') (h : RpW K Bv σ v w) : RpW K Bv' σ v w := by
  cases w with
  | dat d => exact Rp.mono e h
  | slot i => exact h

/-- new objects, all of them to be seen -/
structure Grow (Bv H Bv' H' : Hp) : Prop where
  vis : Ex Bv Bv'
  all : Ex H H'
  sub : Ex Bv' H'
  new : ∀ b, Bv' b ≠ none → Bv b ≠ none ∨ H b = none
theorem Grow.refl {Bv H : Hp} (h : Ex Bv H) : Grow Bv H Bv H := ⟨Ex.refl _, Ex.refl _, h, fun _ z => .inl z⟩
theorem Grow.trans {Bv H Bv1 H1 Bv2 H2 : Hp} (a : Grow Bv H Bv1 H1) (b : Grow Bv1 H1 Bv2 H2) : Grow Bv H Bv2 H2 :=
  ⟨a.vis.trans b.vis, a.all.trans b.all, b.sub, fun c z => by
    rcases b.new c z with y | y
    · exact a.new c y
    · refine .inr ?_
      cases q : H c with
      | none => rfl
      | some o => exact absurd y (a.all.some q)⟩
theorem Grow.one {Bv H : Hp} {p : Addr} {o : HO} (h : Ex Bv H) (hp : H p = none) : Grow Bv H (upd Bv p o) (upd H p o) := by
  have hb : Bv p = none := fresh_back h hp
  refine ⟨Ex.new hb, Ex.new hp, fun b u e => ?_, fun b z => ?_⟩
  · by_cases q : b = p
    · subst q; rw [upd_same] at e ⊢; exact .inl e
    · rw [upd_ne q] at e ⊢; exact h b u e
  · by_cases q : b = p
    · exact .inr (q ▸ hp)
    · rw [upd_ne q] at z; exact .inl z
/-- a new object that is not to be seen -/
theorem Grow.hid {Bv H : Hp} {p : Addr} {o : HO} (h : Ex Bv H) (hp : H p = none) : Grow Bv H Bv (upd H p o) :=
  ⟨Ex.refl _, Ex.new hp, h.trans (Ex.new hp), fun _ z => .inl z⟩

section
variable {P : Par} {Bv Bv' : Hp} {Γ : Gm} {σ : L2.St} {H H' : Hp}
theorem En.grow (n : En P Bv Γ σ H) (g : Grow Bv H Bv' H') : En P Bv' Γ σ H' where
  len := n.len
  base := n.base.trans g.vis
  sub := g.sub
  frm := n.frm.trans g.all
  dj := fun b z => by
    cases q : Bv' b with
    | none => rfl
    | some o =>
      rcases g.new b (by rw [q]; exact fun z => nomatch z) with y | y
      · exact absurd (n.dj b z) y
      · cases q2 : P.F b with
        | none => exact absurd q2 z
        | some u => exact absurd y (n.frm.some q2)
  dat := fun i d h => let ⟨v, a, b⟩ := n.dat i d h; ⟨v, a, b.mono g.vis⟩
  own := fun i p l h => by
    obtain ⟨a, vs, h1, h2, h3, h4, h5⟩ := n.own i p l h
    refine ⟨a, vs, h1, g.all.lst h2, h3.mono g.vis, ?_, h5⟩
    cases q : Bv' a with
    | none => rfl
    | some o =>
      rcases g.new a (by rw [q]; exact fun z => nomatch z) with y | y
      · exact absurd h4 y
      · rw [h2] at y; cases y
  inj := n.inj
  pin := n.pin
  hf := n.hf.to (fun _ _ h => h) g.vis (fun i M hi => (n.hf.2 i M hi).1.stay g.all) (fun i M hi b hb f v => ⟨f, by
    cases q : Bv' b with
    | none => rfl
    | some o =>
      rcases g.new b (by rw [q]; exact nofun) with y | y
      · exact absurd v y
      · have := (n.hf.2 i M hi).1.stay (Ex.refl _) b hb
        rcases hb with hb | ⟨a, C, fvs, h1, h2⟩
        · cases z : M b with
          | none => exact absurd z hb
          | some nd =>
            obtain ⟨u, k1, _⟩ := (n.hf.2 i M hi).1.nd b nd z
            rw [y] at k1
            cases k1
        · cases z : M a with
          | none => exact absurd z h1
          | some nd =>
            have k := (n.hf.2 i M hi).1.ow a nd C b fvs z h2
            rw [y] at k
            cases k⟩) (fun _ _ _ _ _ k => k)
theorem get_set {α : Type} {l : List α} {i j : Nat} {x y : α} (h : (l.set i x)[j]? = some y) : (j = i ∧ y = x) ∨ (j ≠ i ∧ l[j]? = some y) := by
  by_cases e : j = i
  · subst e
    rw [List.getElem?_set] at h
    split at h
    · split at h
      · exact .inl ⟨rfl, (Option.some.inj h).symm⟩
      · cases h
    · rename_i z; exact absurd rfl z
  · rw [List.getElem?_set_ne (Ne.symm e)] at h
    exact .inr ⟨e, h⟩
/-- a slot that may be stored to -/
def soft : Sl → Bool
  | .own _ _ => false
  | .heap _ => false
  | _ => true
def notOwn (Γ : Gm) (i : Nat) : Bool := match Γ[i]? with
  | some s => soft s
  | none => false
theorem notOwn_lt {i : Nat} (h : notOwn Γ i = true) : i < Γ.length := by
  unfold notOwn at h
  cases q : Γ[i]? with
  | none => rw [q] at h; cases h
  | some s => exact (List.getElem?_eq_some_iff.mp q).1
theorem notOwn_no {i : Nat} {p : Bool} {l : List D} (h : notOwn Γ i = true) (e : Γ[i]? = some (.own p l)) : False := by
  unfold notOwn at h
  rw [e] at h
  cases h
theorem notOwn_nh {i : Nat} {M : Mm} (h : notOwn Γ i = true) (e : Γ[i]? = some (.heap M)) : False := by
  unfold notOwn at h
  rw [e] at h
  cases h
theorem heap_set {i j : Nat} {s : Sl} {M : Mm} (hs : ∀ M, s ≠ .heap M) (e : (Γ.set i s)[j]? = some (.heap M)) : Γ[j]? = some (.heap M) := by
  rcases get_set e with ⟨_, q⟩ | ⟨_, e⟩
  · exact absurd q.symm (hs M)
  · exact e
/-- nothing new is in a region -/
theorem En.nhAt {p : Addr} {o : HO} (n : En P Bv Γ σ H) (hp : H p = none) : ∀ (j : Nat) (M : Mm), Γ[j]? = some (.heap M) → ¬ InReg M (upd H p o) p := fun j M hM z =>
  (n.hf.2 j M hM).1.alloc (InReg.back (fun b hb => upd_ne fun e => (n.hf.2 j M hM).1.alloc hb (by rw [e]; exact hp)) z) hp
/-- a slot gets data -/
theorem En.put {i : Nat} {v : V} {d : D} (n : En P Bv Γ σ H) (hi : notOwn Γ i = true) (hv : Rp P.K Bv v d) : En P Bv (Γ.set i (.dat d)) (σ.set i (some v)) H where
  len := by rw [List.length_set, List.length_set]; exact n.len
  base := n.base
  sub := n.sub
  frm := n.frm
  dj := n.dj
  dat := fun j e h => by
    rcases get_set h with ⟨rfl, q⟩ | ⟨q, h⟩
    · cases q
      exact ⟨v, List.getElem?_set_self (by rw [← n.len]; exact notOwn_lt hi), hv⟩
    · rw [List.getElem?_set_ne (Ne.symm q)]
      exact n.dat j e h
  own := fun j p l h => by
    rcases get_set h with ⟨rfl, q⟩ | ⟨q, h⟩
    · cases q
    · rw [List.getElem?_set_ne (Ne.symm q)]
      exact n.own j p l h
  inj := fun j k p p' l l' a h1 h2 => by
    rcases get_set h1 with ⟨rfl, q⟩ | ⟨q1, h1⟩
    · cases q
    · rcases get_set h2 with ⟨rfl, q⟩ | ⟨q2, h2⟩
      · cases q
      · rw [List.getElem?_set_ne (Ne.symm q1), List.getElem?_set_ne (Ne.symm q2)]
        exact n.inj j k p p' l l' a h1 h2
  pin := fun q hq => by
    obtain ⟨l, h1, h2⟩ := n.pin q hq
    have ne : q.1 ≠ i := fun z => by rw [z] at h1; exact notOwn_no hi h1
    exact ⟨l, by rw [List.getElem?_set_ne (Ne.symm ne)]; exact h1, by rw [List.getElem?_set_ne (Ne.symm ne)]; exact h2⟩
  hf := n.hf.to (fun _ _ h => heap_set (by intro _ z; cases z) h) (Ex.refl _) (fun _ _ _ _ _ => rfl) (fun _ _ _ _ _ f v => ⟨f, v⟩) fun _ _ _ b _ k j p l h => by
    rcases get_set h with ⟨rfl, q⟩ | ⟨q, h⟩
    · cases q
    · rw [List.getElem?_set_ne (Ne.symm q)]
      exact k j p l h
/-- a slot gets a new list of its own -/
theorem En.putOwn {i : Nat} {p : Addr} {vs : List V} {l : List D} (n : En P Bv Γ σ H) (hi : notOwn Γ i = true) (hp : H p = some (.lst vs)) (hb : Bv p = none) (hf : P.F p = none) (hr : RpL P.K Bv vs l)
    (no : ∀ (j : Nat) (q : Bool) (m : List D), Γ[j]? = some (.own q m) → σ[j]? ≠ some (some (.ref p))) (nh : ∀ (j : Nat) (M : Mm), Γ[j]? = some (.heap M) → ¬ InReg M H p) : En P Bv (Γ.set i (.own false l)) (σ.set i (some (.ref p))) H where
  len := by rw [List.length_set, List.length_set]; exact n.len
  base := n.base
  sub := n.sub
  frm := n.frm
  dj := n.dj
  dat := fun j e h => by
    rcases get_set h with ⟨rfl, q⟩ | ⟨q, h⟩
    · cases q
    · rw [List.getElem?_set_ne (Ne.symm q)]
      exact n.dat j e h
  own := fun j b m h => by
    rcases get_set h with ⟨rfl, q⟩ | ⟨q, h⟩
    · cases q
      exact ⟨p, vs, List.getElem?_set_self (by rw [← n.len]; exact notOwn_lt hi), hp, hr, hb, hf⟩
    · rw [List.getElem?_set_ne (Ne.symm q)]
      exact n.own j b m h
  inj := fun j k b b' m m' a h1 h2 => by
    rcases get_set h1 with ⟨e1, z1⟩ | ⟨q1, g1⟩
    · rcases get_set h2 with ⟨e2, z2⟩ | ⟨q2, g2⟩
      · exact fun _ _ => e1.trans e2.symm
      · intro s1 s2
        rw [List.getElem?_set_ne (Ne.symm q2)] at s2
        rw [e1, List.getElem?_set_self (by rw [← n.len]; exact notOwn_lt hi)] at s1
        cases s1
        exact absurd s2 (no k b' m' g2)
    · rcases get_set h2 with ⟨e2, z2⟩ | ⟨q2, g2⟩
      · intro s1 s2
        rw [List.getElem?_set_ne (Ne.symm q1)] at s1
        rw [e2, List.getElem?_set_self (by rw [← n.len]; exact notOwn_lt hi)] at s2
        cases s2
        exact absurd s1 (no j b m g1)
      · rw [List.getElem?_set_ne (Ne.symm q1), List.getElem?_set_ne (Ne.symm q2)]
        exact n.inj j k b b' m m' a g1 g2
  pin := fun q hq => by
    obtain ⟨l, h1, h2⟩ := n.pin q hq
    have ne : q.1 ≠ i := fun z => by rw [z] at h1; exact notOwn_no hi h1
    exact ⟨l, by rw [List.getElem?_set_ne (Ne.symm ne)]; exact h1, by rw [List.getElem?_set_ne (Ne.symm ne)]; exact h2⟩
  hf := n.hf.to (fun _ _ h => heap_set (by intro _ z; cases z) h) (Ex.refl _) (fun _ _ _ _ _ => rfl) (fun _ _ _ _ _ f v => ⟨f, v⟩) fun i' M hM b hb k j b' m h => by
    rcases get_set h with ⟨rfl, q⟩ | ⟨q, h⟩
    · rw [List.getElem?_set_self (by rw [← n.len]; exact notOwn_lt hi)]
      intro z
      cases z
      exact nh i' M hM hb
    · rw [List.getElem?_set_ne (Ne.symm q)]
      exact k j b' m h
/-- a slot is forgotten -/
theorem En.drop {i : Nat} (n : En P Bv Γ σ H) (hi : notOwn Γ i = true) : En P Bv (Γ.set i .non) σ H where
  len := by rw [List.length_set]; exact n.len
  base := n.base
  sub := n.sub
  frm := n.frm
  dj := n.dj
  dat := fun j e h => by
    rcases get_set h with ⟨rfl, q⟩ | ⟨q, h⟩
    · cases q
    · exact n.dat j e h
  own := fun j p l h => by
    rcases get_set h with ⟨rfl, q⟩ | ⟨q, h⟩
    · cases q
    · exact n.own j p l h
  inj := fun j k p p' l l' a h1 h2 => by
    rcases get_set h1 with ⟨rfl, q⟩ | ⟨q1, h1⟩
    · cases q
    · rcases get_set h2 with ⟨rfl, q⟩ | ⟨q2, h2⟩
      · cases q
      · exact n.inj j k p p' l l' a h1 h2
  pin := fun q hq => by
    obtain ⟨l, h1, h2⟩ := n.pin q hq
    have ne : q.1 ≠ i := fun z => by rw [z] at h1; exact notOwn_no hi h1
    exact ⟨l, by rw [List.getElem?_set_ne (Ne.symm ne)]; exact h1, h2⟩
  hf := n.hf.to (fun _ _ h => heap_set (by intro _ z; cases z) h) (Ex.refl _) (fun _ _ _ _ _ => rfl) (fun _ _ _ _ _ f v => ⟨f, v⟩) fun _ _ _ b _ k j p l h => by
    rcases get_set h with ⟨rfl, q⟩ | ⟨q, h⟩
    · cases q
    · exact k j p l h
/-- the values of forgotten slots do not matter -/
theorem En.slots {σ' : L2.St} (n : En P Bv Γ σ H) (hl : σ'.length = σ.length) (h : ∀ (i : Nat) (s : Sl), Γ[i]? = some s → s ≠ .non → σ'[i]? = σ[i]?) : En P Bv Γ σ' H where
  len := n.len.trans hl.symm
  base := n.base
  sub := n.sub
  frm := n.frm
  dj := n.dj
  dat := fun i d e => by rw [h i _ e (fun z => nomatch z)]; exact n.dat i d e
  own := fun i p l e => by rw [h i _ e (fun z => nomatch z)]; exact n.own i p l e
  inj := fun i j p p' l l' a e1 e2 => by rw [h i _ e1 (fun z => nomatch z), h j _ e2 (fun z => nomatch z)]; exact n.inj i j p p' l l' a e1 e2
  pin := fun q hq => by
    obtain ⟨l, h1, h2⟩ := n.pin q hq
    exact ⟨l, h1, by rw [h q.1 _ h1 (fun z => nomatch z)]; exact h2⟩
  hf := n.hf.to (fun _ _ h => h) (Ex.refl _) (fun _ _ _ _ _ => rfl) (fun _ _ _ _ _ f v => ⟨f, v⟩) fun _ _ _ b _ k j p l e => by rw [h j _ e (fun z => nomatch z)]; exact k j p l e
/-- a slot's own list is written -/
theorem En.write {i : Nat} {b : Bool} {l l' : List D} {a : Addr} {vs' : List V} (n : En P Bv Γ σ H) (hi : Γ[i]? = some (.own b l)) (ha : σ[i]? = some (some (.ref a))) (hr : RpL P.K Bv vs' l') :
    En P Bv (Γ.set i (.own b l')) σ (upd H a (.lst vs')) := by
  obtain ⟨a', vs, h1, h2, h3, h4, h5⟩ := n.own i b l hi
  rw [ha] at h1
  cases h1
  have lt : i < Γ.length := (List.getElem?_eq_some_iff.mp hi).1
  have ne : ∀ {c : Addr} {u : HO}, Bv c = some u → c ≠ a := fun {c u} e z => by rw [z, h4] at e; cases e
  exact {
    len := by rw [List.length_set]; exact n.len
    base := n.base
    sub := fun c u e => by rw [upd_ne (ne e)]; exact n.sub c u e
    frm := fun c u e => by
      have : c ≠ a := fun z => by rw [z, h5] at e; cases e
      rw [upd_ne this]; exact n.frm c u e
    dj := n.dj
    dat := fun j e h => by
      rcases get_set h with ⟨rfl, q⟩ | ⟨q, h⟩
      · cases q
      · exact n.dat j e h
    own := fun j p m h => by
      rcases get_set h with ⟨rfl, q⟩ | ⟨q, h⟩
      · cases q
        exact ⟨a, vs', ha, upd_same, hr, h4, h5⟩
      · obtain ⟨c, ws, e1, e2, e3, e4, e5⟩ := n.own j p m h
        have : c ≠ a := fun z => q (n.inj j i p b m l a h hi (by rw [e1, z]) ha)
        exact ⟨c, ws, e1, by rw [upd_ne this]; exact e2, e3, e4, e5⟩
    inj := fun j k p p' m m' c g1 g2 => by
      have f : ∀ {j : Nat} {p : Bool} {m : List D}, (Γ.set i (.own b l'))[j]? = some (.own p m) → ∃ p m, Γ[j]? = some (.own p m) := fun {j p m} g => by
        rcases get_set g with ⟨rfl, q⟩ | ⟨q, g⟩
        · exact ⟨b, l, hi⟩
        · exact ⟨p, m, g⟩
      obtain ⟨_, _, k1⟩ := f g1
      obtain ⟨_, _, k2⟩ := f g2
      exact n.inj j k _ _ _ _ c k1 k2
    pin := fun q hq => by
      obtain ⟨m, g1, g2⟩ := n.pin q hq
      by_cases e : q.1 = i
      · refine ⟨l', ?_, g2⟩
        rw [e] at g1 ⊢
        rw [hi] at g1
        cases g1
        rw [List.getElem?_set_self lt]
      · exact ⟨m, by rw [List.getElem?_set_ne (Ne.symm e)]; exact g1, g2⟩
    hf := n.hf.to (fun _ _ h => heap_set (by intro _ z; cases z) h) (Ex.refl _) (fun i' M hM c hc => by
        have : c ≠ a := fun z => ((n.hf.2 i' M hM).2 c hc).2.2 i b l hi (by rw [z]; exact ha)
        exact upd_ne this) (fun _ _ _ _ _ f v => ⟨f, v⟩) fun _ _ _ c _ k j p m h => by
      rcases get_set h with ⟨rfl, q⟩ | ⟨q, h⟩
      · exact k j b l hi
      · exact k j p m h }
/-- a slot's own list is to be seen from now on -/
theorem En.freeze {i : Nat} {l : List D} (n : En P Bv Γ σ H) (hi : Γ[i]? = some (.own false l)) :
    ∃ a vs, σ[i]? = some (some (.ref a)) ∧ Ex Bv (upd Bv a (.lst vs)) ∧ En P (upd Bv a (.lst vs)) (Γ.set i (.dat (.lst l))) σ H ∧ Rp P.K (upd Bv a (.lst vs)) (.ref a) (.lst l) := by
  obtain ⟨a, vs, h1, h2, h3, h4, h5⟩ := n.own i false l hi
  have ex : Ex Bv (upd Bv a (.lst vs)) := Ex.new h4
  have rp : Rp P.K (upd Bv a (.lst vs)) (.ref a) (.lst l) := .lst (.inl (.inl upd_same)) (h3.mono ex)
  have lt : i < Γ.length := (List.getElem?_eq_some_iff.mp hi).1
  refine ⟨a, vs, h1, ex, ?_, rp⟩
  exact {
    len := by rw [List.length_set]; exact n.len
    base := n.base.trans ex
    sub := fun c u e => by
      by_cases q : c = a
      · subst q; rw [upd_same] at e; cases e; exact .inl h2
      · rw [upd_ne q] at e; exact n.sub c u e
    frm := n.frm
    dj := fun c z => by
      have : c ≠ a := fun e => by rw [e] at z; exact z h5
      rw [upd_ne this]; exact n.dj c z
    dat := fun j e h => by
      rcases get_set h with ⟨rfl, q⟩ | ⟨q, h⟩
      · cases q
        exact ⟨_, h1, rp⟩
      · obtain ⟨v, g1, g2⟩ := n.dat j e h
        exact ⟨v, g1, g2.mono ex⟩
    own := fun j p m h => by
      rcases get_set h with ⟨rfl, q⟩ | ⟨q, h⟩
      · cases q
      · obtain ⟨c, ws, e1, e2, e3, e4, e5⟩ := n.own j p m h
        have : c ≠ a := fun z => q (n.inj j i p false m l a h hi (by rw [e1, z]) h1)
        exact ⟨c, ws, e1, e2, e3.mono ex, by rw [upd_ne this]; exact e4, e5⟩
    inj := fun j k p p' m m' c g1 g2 => by
      rcases get_set g1 with ⟨rfl, q⟩ | ⟨q1, g1⟩
      · cases q
      · rcases get_set g2 with ⟨rfl, q⟩ | ⟨q2, g2⟩
        · cases q
        · exact n.inj j k _ _ _ _ c g1 g2
    pin := fun q hq => by
      obtain ⟨m, g1, g2⟩ := n.pin q hq
      have : q.1 ≠ i := fun e => by rw [e, hi] at g1; cases g1
      exact ⟨m, by rw [List.getElem?_set_ne (Ne.symm this)]; exact g1, g2⟩
    hf := n.hf.to (fun _ _ h => heap_set (by intro _ z; cases z) h) ex (fun _ _ _ _ _ => rfl) (fun i' M hM c hc f v => ⟨f, by
        have : c ≠ a := fun z => ((n.hf.2 i' M hM).2 c hc).2.2 i false l hi (by rw [z]; exact h1)
        rw [upd_ne this]; exact v⟩) fun _ _ _ c _ k j p m h => by
      rcases get_set h with ⟨rfl, q⟩ | ⟨q, h⟩
      · cases q
      · exact k j p m h }

/-! what a value is read as -/
theorem En.list {v : V} {w : Wv} {l : List D} (n : En P Bv Γ σ H) (h : RpW P.K Bv σ v w) (e : asD Γ w = some (.lst l)) : ∃ a vs, v = .ref a ∧ SqL P.K H a vs ∧ RpL P.K Bv vs l := by
  cases w with
  | dat d =>
    cases e
    cases h with
    | lst h1 h2 => exact ⟨_, _, rfl, ex_l n.sub h1, h2⟩
  | slot i =>
    dsimp only [asD] at e
    cases q : Γ[i]? with
    | none => rw [q] at e; cases e
    | some s =>
      rw [q] at e
      cases s with
      | non => cases e
      | dat d => cases e
      | heap _ => cases e
      | own p m =>
        cases e
        obtain ⟨a, vs, h1, h2, h3, h4, h5⟩ := n.own i p _ q
        have h' : σ[i]? = some (some v) := h
        rw [h1] at h'
        cases h'
        exact ⟨a, vs, rfl, .inl (.inl h2), h3⟩
theorem En.tuple {v : V} {w : Wv} {l : List D} (n : En P Bv Γ σ H) (h : RpW P.K Bv σ v w) (e : asD Γ w = some (.tup l)) : ∃ a vs, v = .ref a ∧ SqT P.K H a vs ∧ RpL P.K Bv vs l := by
  cases w with
  | dat d =>
    cases e
    cases h with
    | tup h1 h2 => exact ⟨_, _, rfl, ex_t n.sub h1, h2⟩
  | slot i =>
    dsimp only [asD] at e
    cases q : Γ[i]? with
    | none => rw [q] at e; cases e
    | some s =>
      rw [q] at e
      cases s <;> cases e
theorem En.full {v : V} {w : Wv} {d : D} (n : En P Bv Γ σ H) (h : RpW P.K Bv σ v w) (e : asD Γ w = some d) : Rp P.K H v d := by
  cases w with
  | dat d' =>
    cases e
    exact Rp.mono n.sub h
  | slot i =>
    have e' := e
    dsimp only [asD] at e
    cases q : Γ[i]? with
    | none => rw [q] at e; cases e
    | some s =>
      rw [q] at e
      cases s with
      | non => cases e
      | dat d => cases e
      | heap _ => cases e
      | own p m =>
        cases e
        obtain ⟨a, vs, rfl, h1, h2⟩ := n.list h e'
        exact .lst h1 (h2.mono n.sub)
/-- a value that is to stay: the list of a slot is let go -/
def fix (Γ : Gm) : Wv → Option (D × Gm)
  | .dat d => some (d, Γ)
  | .slot i => match Γ[i]? with
    | some (.own false l) => some (.lst l, Γ.set i (.dat (.lst l)))
    | _ => none
theorem En.fixed {v : V} {w : Wv} {d : D} {Γ' : Gm} (n : En P Bv Γ σ H) (h : RpW P.K Bv σ v w) (e : fix Γ w = some (d, Γ')) : ∃ Bv', Ex Bv Bv' ∧ En P Bv' Γ' σ H ∧ Rp P.K Bv' v d := by
  cases w with
  | dat d' =>
    cases e
    exact ⟨Bv, Ex.refl _, n, h⟩
  | slot i =>
    dsimp only [fix] at e
    cases q : Γ[i]? with
    | none => rw [q] at e; cases e
    | some s =>
      rw [q] at e
      cases s with
      | non => cases e
      | dat d => cases e
      | heap _ => cases e
      | own p m =>
        cases p with
        | true => cases e
        | false =>
          cases e
          obtain ⟨a, vs, h1, h2, h3, h4⟩ := n.freeze q
          have h' : σ[i]? = some (some v) := h
          rw [h1] at h'
          cases h'
          exact ⟨_, h2, h3, h4⟩
end
end DL

set_option Elab.async false
set_option linter.all false
set_option maxRecDepth 100000
set_option maxHeartbeats 4000000
namespace DL
open PySem PySem.Spec PyProof.Rows L2


/-! ### data without bools and objects: equality -/
mutual
def toPy : D → PyData
  | .non => .none
  | .bl b => .bool b
  | .int i => .int i
  | .str x => .str x
  | .tup l => .tuple (toPyL l)
  | .lst l => .list (toPyL l)
  | .obj _ _ => .none
  | .opq _ => .none
def toPyL : List D → List PyData
  | [] => []
  | d :: l => toPy d :: toPyL l
end
mutual
def plain : D → Bool
  | .non => true
  | .bl _ => false
  | .int _ => true
  | .str x => PyData.strOk x
  | .tup l => plainL l
  | .lst l => plainL l
  | .obj _ _ => false
  | .opq _ => false
def plainL : List D → Bool
  | [] => true
  | d :: l => plain d && plainL l
end
mutual
def dep : D → Nat
  | .tup l => depL l + 1
  | .lst l => depL l + 1
  | _ => 0
def depL : List D → Nat
  | [] => 0
  | d :: l => max (dep d) (depL l)
end
mutual
theorem toPy_lay : ∀ d : D, plain d = true → (toPy d).canLay0 = true
  | .non, _ => rfl
  | .bl _, h => by simp [plain] at h
  | .int _, _ => rfl
  | .str x, h => by simpa [toPy, PyData.canLay0, plain] using h
  | .tup l, h => by
    simp only [toPy, PyData.canLay0]
    exact toPyL_lay l (by simpa [plain] using h)
  | .lst l, h => by
    simp only [toPy, PyData.canLay0]
    exact toPyL_lay l (by simpa [plain] using h)
  | .obj _ _, h => by simp [plain] at h
  | .opq _, h => by simp [plain] at h
theorem toPyL_lay : ∀ l : List D, plainL l = true → PyData.canLayAll0 (toPyL l) = true
  | [], _ => rfl
  | d :: l, h => by
    simp only [plainL, Bool.and_eq_true] at h
    simp only [toPyL, PyData.canLayAll0, Bool.and_eq_true]
    exact ⟨toPy_lay d h.1, toPyL_lay l h.2⟩
end
mutual
theorem toPy_dep : ∀ d : D, (toPy d).depth = dep d
  | .non => rfl
  | .bl _ => rfl
  | .int _ => rfl
  | .str x => rfl
  | .tup l => by simp only [toPy, PyData.depth, dep, toPyL_dep l]
  | .lst l => by simp only [toPy, PyData.depth, dep, toPyL_dep l]
  | .obj _ _ => rfl
  | .opq _ => rfl
theorem toPyL_dep : ∀ l : List D, PyData.depthAll (toPyL l) = depL l
  | [] => rfl
  | d :: l => by simp only [toPyL, PyData.depthAll, depL, toPy_dep d, toPyL_dep l]
end
mutual
theorem eqv_iff : ∀ d e : D, plain d = true → plain e = true → (PyData.eqv (toPy d) (toPy e) = true ↔ d = e)
  | .non, e, _, he => by cases e <;> simp [toPy, PyData.eqv, plain] at he ⊢
  | .bl _, _, h, _ => by simp [plain] at h
  | .int i, e, _, he => by cases e <;> simp [toPy, PyData.eqv, plain] at he ⊢
  | .str x, e, _, he => by cases e <;> simp [toPy, PyData.eqv, plain] at he ⊢
  | .tup l, e, h, he => by
    cases e with
    | tup m =>
      simp only [toPy, PyData.eqv, D.tup.injEq]
      exact eqvL_iff l m (by simpa [plain] using h) (by simpa [plain] using he)
    | _ => simp [toPy, PyData.eqv, plain] at he ⊢
  | .lst l, e, h, he => by
    cases e with
    | lst m =>
      simp only [toPy, PyData.eqv, D.lst.injEq]
      exact eqvL_iff l m (by simpa [plain] using h) (by simpa [plain] using he)
    | _ => simp [toPy, PyData.eqv, plain] at he ⊢
  | .obj _ _, _, h, _ => by simp [plain] at h
  | .opq _, _, h, _ => by simp [plain] at h
theorem eqvL_iff : ∀ l m : List D, plainL l = true → plainL m = true → (PyData.eqvAll (toPyL l) (toPyL m) = true ↔ l = m)
  | [], [], _, _ => by simp [toPyL, PyData.eqvAll]
  | [], _ :: _, _, _ => by simp [toPyL, PyData.eqvAll]
  | _ :: _, [], _, _ => by simp [toPyL, PyData.eqvAll]
  | d :: l, e :: m, h, g => by
    simp only [plainL, Bool.and_eq_true] at h g
    simp only [toPyL, PyData.eqvAll, Bool.and_eq_true, List.cons.injEq, eqv_iff d e h.1 g.1, eqvL_iff l m h.2 g.2]
end
def okD (d : D) : Bool := plain d && decide (dep d ≤ 60)
theorem okD_shaped {d : D} (h : okD d = true) : SeqAt.shaped (toPy d) = true := by
  unfold okD at h
  rw [Bool.and_eq_true] at h
  have h2 : dep d ≤ 60 := of_decide_eq_true h.2
  show ((toPy d).canLay0 && decide ((toPy d).depth ≤ 64)) = true
  rw [Bool.and_eq_true]
  exact ⟨toPy_lay d h.1, decide_eq_true (by rw [toPy_dep]; omega)⟩
theorem okD_plain {d : D} (h : okD d = true) : plain d = true := by
  unfold okD at h
  rw [Bool.and_eq_true] at h
  exact h.1
section
variable {K : PySem.W.Frag} {H : Hp}
mutual
theorem Rp.dp : ∀ {v : V} {d : D}, Rp K H v d → plain d = true → Dp K H v (toPy d)
  | _, _, .non, _ => .non
  | _, _, .bl b, h => .bl b
  | _, _, .int i, _ => .int i
  | _, _, .str x, _ => .str x
  | _, _, .tup h r, q => by
    simp only [toPy]
    exact .tup h (RpL.dp r (by simpa [plain] using q))
  | _, _, .lst h r, q => by
    simp only [toPy]
    exact .lst h (RpL.dp r (by simpa [plain] using q))
  | _, _, .obj _ _, q => by simp [plain] at q
  | _, _, .opq _, q => by simp [plain] at q
theorem RpL.dp : ∀ {vs : List V} {ds : List D}, RpL K H vs ds → plainL ds = true → DpAll K H vs (toPyL ds)
  | _, _, .nil, _ => .nil
  | _, _, .cons h r, q => by
    simp only [plainL, Bool.and_eq_true] at q
    exact .cons (Rp.dp h q.1) (RpL.dp r q.2)
end
end

/-! ### readings over data -/
abbrev DE := Xd → Gm → (Wv → Gm → Prop) → Prop
abbrev DA := Xd → Gm → (List Wv → Gm → Prop) → Prop
abbrev DT := Xd → Gm → (Bool → Gm → Prop) → Prop
abbrev DO := Xd → Gm → (List D → Gm → Prop) → Prop
structure DEnds where
  nx : Gm → Prop
  rt : D → Gm → Prop
  bk : Gm → Prop := fun _ => False
  ct : Gm → Prop := fun _ => False
abbrev DS := Xd → DEnds → Gm → Prop

def RpWL (K : PySem.W.Frag) (Bv : Hp) (σ : L2.St) : List V → List Wv → Prop
  | [], [] => True
  | v :: vs, w :: ws => RpW K Bv σ v w ∧ RpWL K Bv σ vs ws
  | _, _ => False
theorem RpWL.mono {K : PySem.W.Frag} {Bv Bv' : Hp} {σ : L2.St} (e : Ex Bv Bv') : ∀ {vs : List V} {ws : List Wv}, RpWL K Bv σ vs ws → RpWL K Bv' σ vs ws
  | [], [], _ => trivial
  | _ :: _, _ :: _, h => ⟨h.1.mono e, RpWL.mono e h.2⟩
  | [], _ :: _, h => h.elim
  | _ :: _, [], h => h.elim
theorem RpWL.one {K : PySem.W.Frag} {Bv : Hp} {σ : L2.St} {vs : List V} {w : Wv} (h : RpWL K Bv σ vs [w]) : ∃ v, vs = [v] ∧ RpW K Bv σ v w := by
  match vs, h with
  | [v], h => exact ⟨v, rfl, h.1⟩
theorem RpWL.two {K : PySem.W.Frag} {Bv : Hp} {σ : L2.St} {vs : List V} {w u : Wv} (h : RpWL K Bv σ vs [w, u]) : ∃ v x, vs = [v, x] ∧ RpW K Bv σ v w ∧ RpW K Bv σ x u := by
  match vs, h with
  | [v, x], h => exact ⟨v, x, rfl, h.1, h.2.1⟩

abbrev FinW (P : Par) (Bv : Hp) (σ : L2.St) (Qd : Wv → Gm → Prop) (Q : VK) : Prop :=
  ∀ (w : Wv) (Γ' : Gm) (v : V) (H' Bv' : Hp), Ex Bv Bv' → En P Bv' Γ' σ H' → RpW P.K Bv' σ v w → Qd w Γ' → Q v H'
abbrev FinL (P : Par) (Bv : Hp) (σ : L2.St) (Qd : List Wv → Gm → Prop) (Q : List V → Hp → Prop) : Prop :=
  ∀ (ws : List Wv) (Γ' : Gm) (vs : List V) (H' Bv' : Hp), Ex Bv Bv' → En P Bv' Γ' σ H' → RpWL P.K Bv' σ vs ws → Qd ws Γ' → Q vs H'
abbrev FinB (P : Par) (Bv : Hp) (σ : L2.St) (Qd : Bool → Gm → Prop) (Q : Bool → Hp → Prop) : Prop :=
  ∀ (b : Bool) (Γ' : Gm) (H' Bv' : Hp), Ex Bv Bv' → En P Bv' Γ' σ H' → Qd b Γ' → Q b H'
/-- a list at p that nobody knows yet -/
structure NewL (P : Par) (Bv : Hp) (Γ : Gm) (σ : L2.St) (H : Hp) (p : Addr) (vs : List V) (l : List D) : Prop where
  at_ : H p = some (.lst vs)
  bv : Bv p = none
  f : P.F p = none
  no : ∀ (j : Nat) (q : Bool) (m : List D), Γ[j]? = some (.own q m) → σ[j]? ≠ some (some (.ref p))
  rp : RpL P.K Bv vs l
  nh : ∀ (j : Nat) (M : Mm), Γ[j]? = some (.heap M) → ¬ InReg M H p
abbrev FinO (P : Par) (Bv : Hp) (σ : L2.St) (Qd : List D → Gm → Prop) (Q : VK) : Prop :=
  ∀ (l : List D) (Γ' : Gm) (p : Addr) (vs : List V) (H' Bv' : Hp), Ex Bv Bv' → En P Bv' Γ' σ H' → NewL P Bv' Γ' σ H' p vs l → Qd l Γ' → Q (.ref p) H'

theorem finD {P : Par} {Bv : Hp} {σ : L2.St} {Qd : Wv → Gm → Prop} {Q : VK} (k : FinW P Bv σ Qd Q) {d : D} {Γ' : Gm} {v : V} {H' Bv' : Hp} (e : Ex Bv Bv') (n : En P Bv' Γ' σ H') (r : Rp P.K Bv' v d) (q : Qd (.dat d) Γ') : Q v H' :=
  k (.dat d) Γ' v H' Bv' e n r q
def LE (P : Par) (t : TE) (T : DE) : Prop := ∀ (Bv : Hp) (Γ : Gm) (σ : L2.St) (H : Hp) (Qd : Wv → Gm → Prop) (Q : VK), En P Bv Γ σ H → T P.Ed Γ Qd → FinW P Bv σ Qd Q → t σ H Q
def LA (P : Par) (t : TA) (T : DA) : Prop := ∀ (Bv : Hp) (Γ : Gm) (σ : L2.St) (H : Hp) (Qd : List Wv → Gm → Prop) (Q : List V → Hp → Prop), En P Bv Γ σ H → T P.Ed Γ Qd → FinL P Bv σ Qd Q → t σ H Q
def LT (P : Par) (t : TT) (T : DT) : Prop := ∀ (Bv : Hp) (Γ : Gm) (σ : L2.St) (H : Hp) (Qd : Bool → Gm → Prop) (Q : Bool → Hp → Prop), En P Bv Γ σ H → T P.Ed Γ Qd → FinB P Bv σ Qd Q → t σ H Q
def LO (P : Par) (t : TE) (T : DO) : Prop := ∀ (Bv : Hp) (Γ : Gm) (σ : L2.St) (H : Hp) (Qd : List D → Gm → Prop) (Q : VK), En P Bv Γ σ H → T P.Ed Γ Qd → FinO P Bv σ Qd Q → t σ H Q

/-- a def's body, a block in it: contexts that read alike -/
structure Fam where
  ι : Type
  X : ι → Cx
  K : PySem.W.Frag
  k : ∀ j, (X j).K = K
  ts : List Addr
def PD (F : Fam) (E : XK) (e : Expr) (T : DE) : Prop := ∃ t, (∀ j, PE (F.X j) e t) ∧ ∀ P : Par, P.K = F.K → P.E = E ∧ P.ts = F.ts → LE P t T
def PDA (F : Fam) (E : XK) (es : List Expr) (T : DA) : Prop := ∃ t, (∀ j, PA (F.X j) es t) ∧ ∀ P : Par, P.K = F.K → P.E = E ∧ P.ts = F.ts → LA P t T
def PDT (F : Fam) (E : XK) (e : Expr) (T : DT) : Prop := ∃ t, (∀ j, PT (F.X j) e t) ∧ ∀ P : Par, P.K = F.K → P.E = E ∧ P.ts = F.ts → LT P t T
/-- a test whatever its whole is -/
def PDW (F : Fam) (E : XK) (e : Expr) (T : DT) : Prop := ∃ t, (∀ j, PW (F.X j) e t) ∧ ∀ P : Par, P.K = F.K → P.E = E ∧ P.ts = F.ts → LT P t T
def PDO (F : Fam) (E : XK) (e : Expr) (T : DO) : Prop := ∃ t, (∀ j, PE (F.X j) e t) ∧ ∀ P : Par, P.K = F.K → P.E = E ∧ P.ts = F.ts → LO P t T

section
variable {F : Fam} {E : XK}
/-! names, constants -/
def dVar (i : Nat) : DE := fun _ Γ Q => match Γ[i]? with
  | some (.dat d) => Q (.dat d) Γ
  | some (.own _ _) => Q (.slot i) Γ
  | _ => False
theorem le_var {P : Par} {i : Nat} : LE P (tVar i) (dVar i) := by
  intro Bv Γ σ H Qd Q n h k
  unfold dVar at h
  cases q : Γ[i]? with
  | none => rw [q] at h; exact h.elim
  | some s =>
    rw [q] at h
    cases s with
    | non => exact h.elim
    | heap _ => exact h.elim
    | dat d =>
      obtain ⟨v, h1, h2⟩ := n.dat i d q
      exact ⟨v, h1, k (.dat d) Γ v H Bv (Ex.refl _) n h2 h⟩
    | own p l =>
      obtain ⟨a, vs, h1, h2, h3, h4, h5⟩ := n.own i p l q
      exact ⟨.ref a, h1, k (.slot i) Γ (.ref a) H Bv (Ex.refl _) n h1 h⟩
theorem pd_var (i : Nat) {x : Str} {pos : Pos} (hN : ∀ j, (F.X j).N[i]? = some x := by intro _; rfl) (hv : ∀ j, Vis (F.X j).env.scope x := by first | exact fun _ => Or.inl rfl | exact fun _ => Or.inr (Or.inl rfl) | exact fun _ => Or.inr (Or.inr rfl)) (hd : (x == ("__debug__" : Str)) = false := by decide)
    (hcd : (x == ("__classdict__" : Str)) = false := by decide) : PD F E (.Name x pos) (dVar i) := ⟨_, fun j => pe_var (hN j) (hv j) hd hcd, fun _ _ _ => le_var⟩
def dC (d : D) : DE := fun _ Γ Q => Q (.dat d) Γ
theorem le_c {P : Par} {v : V} {d : D} (h : ∀ Bv, Rp P.K Bv v d) : LE P (tC v) (dC d) := fun Bv Γ σ H Qd Q n q k => k (.dat d) Γ v H Bv (Ex.refl _) n (h Bv) q
theorem pd_int {i : Int} {j pos} : PD F E (.Constant (.int i) j pos) (dC (.int i)) := ⟨_, fun j => pe_int, fun _ _ _ => le_c fun _ => .int i⟩
theorem pd_bl {b : Bool} {j pos} : PD F E (.Constant (.bool b) j pos) (dC (.bl b)) := ⟨_, fun j => pe_bl, fun _ _ _ => le_c fun _ => .bl b⟩
theorem pd_non {j pos} : PD F E (.Constant .none j pos) (dC .non) := ⟨_, fun j => pe_non, fun _ _ _ => le_c fun _ => .non⟩
theorem pd_str {x : Str} {j pos} : PD F E (.Constant (.str x) j pos) (dC (.str x)) := ⟨_, fun j => pe_str, fun _ _ _ => le_c fun _ => .str x⟩
theorem pd_globI {x : Str} {i : Int} {t : Tok} {pos : Pos} (hg : ∀ j, Gl (F.X j) x) (hm : ∀ j, (F.X j).mg x = some (.int i t)) (hd : (x == ("__debug__" : Str)) = false := by decide) : PD F E (.Name x pos) (dC (.int i)) :=
  ⟨_, fun j => pe_glob (hg j) (hm j) (v := .int i) ⟨t, rfl⟩ hd, fun _ _ _ => le_c fun _ => .int i⟩
theorem pd_globR {x : Str} {a : Addr} {pos : Pos} (hg : ∀ j, Gl (F.X j) x) (hm : ∀ j, (F.X j).mg x = some (.ref a)) (hd : (x == ("__debug__" : Str)) = false := by decide) : PD F E (.Name x pos) (dC (.opq a)) :=
  ⟨_, fun j => pe_glob (hg j) (hm j) (v := .ref a) rfl hd, fun _ _ _ => le_c fun _ => .opq a⟩

/-! operators -/
abbrev D2 := Gm → Wv → Wv → (Wv → Gm → Prop) → Prop
def RL (P : Par) (r : R2) (rd : D2) : Prop := ∀ (Bv : Hp) (Γ : Gm) (σ : L2.St) (H : Hp) (x y : V) (wx wy : Wv) (Qd : Wv → Gm → Prop) (Q : VK), En P Bv Γ σ H → RpW P.K Bv σ x wx → RpW P.K Bv σ y wy → rd Γ wx wy Qd → FinW P Bv σ Qd Q → r x y H Q
def dOp (rd : D2) (A B : DE) : DE := fun xd Γ Q => A xd Γ fun x Γ1 => B xd Γ1 fun y Γ2 => rd Γ2 x y Q
theorem le_op {P : Par} {r : R2} {rd : D2} {ta tb : TE} {A B : DE} (hr : RL P r rd) (ha : LE P ta A) (hb : LE P tb B) : LE P (tOp r ta tb) (dOp rd A B) := fun Bv Γ σ H Qd Q n h k =>
  ha Bv Γ σ H _ _ n h fun w Γ1 v H1 B1 e1 n1 r1 h1 => hb B1 Γ1 σ H1 _ _ n1 h1 fun w2 Γ2 v2 H2 B2 e2 n2 r2 h2 =>
    hr B2 Γ2 σ H2 v v2 w w2 Qd Q n2 (r1.mono e2) r2 h2 fun w3 Γ3 v3 H3 B3 e3 n3 r3 h3 => k w3 Γ3 v3 H3 B3 ((e1.trans e2).trans e3) n3 r3 h3
/-- two ints -/
def rdI (C : Int → Int → Prop) (g : Int → Int → D) : D2 := fun Γ x y Q => ∃ i j, x = .dat (.int i) ∧ y = .dat (.int j) ∧ C i j ∧ Q (.dat (g i j)) Γ
def rdI0 (g : Int → Int → D) : D2 := fun Γ x y Q => ∃ i j, x = .dat (.int i) ∧ y = .dat (.int j) ∧ Q (.dat (g i j)) Γ
theorem rl_I {P : Par} {C : Int → Int → Prop} {g : Int → Int → V} {gd : Int → Int → D} (hg : ∀ i j Bv, Rp P.K Bv (g i j) (gd i j)) : RL P (rI C g) (rdI C gd) := by
  intro Bv Γ σ H x y wx wy Qd Q n rx ry h k
  obtain ⟨i, j, rfl, rfl, hc, h⟩ := h
  cases rx
  cases ry
  exact ⟨i, j, rfl, rfl, hc, finD k (Ex.refl _) n (hg i j Bv) h⟩
theorem rl_I0 {P : Par} {g : Int → Int → V} {gd : Int → Int → D} (hg : ∀ i j Bv, Rp P.K Bv (g i j) (gd i j)) : RL P (rI0 g) (rdI0 gd) := by
  intro Bv Γ σ H x y wx wy Qd Q n rx ry h k
  obtain ⟨i, j, rfl, rfl, h⟩ := h
  cases rx
  cases ry
  exact ⟨i, j, rfl, rfl, finD k (Ex.refl _) n (hg i j Bv) h⟩
variable {a b c : Expr} {A B T : DE} {pos : Pos}
theorem pd_op {op : Operator} {r : R2} {rd : D2} (ho : ∀ j, OpR (F.X j) (binaryOp op) r) (hl : ∀ P : Par, P.K = F.K → RL P r rd) (ha : PD F E a A) (hb : PD F E b B) : PD F E (.BinOp a op b pos) (dOp rd A B) :=
  let ⟨_, pa, la⟩ := ha; let ⟨_, pb, lb⟩ := hb
  ⟨_, fun j => pe_op (ho j) (pa j) (pb j), fun P hK hE => le_op (hl P hK) (la P hK hE) (lb P hK hE)⟩
abbrev gAdd : Int → Int → D := fun i j => .int (i + j)
abbrev gSub : Int → Int → D := fun i j => .int (i - j)
abbrev gMul : Int → Int → D := fun i j => .int (i * j)
abbrev gMod : Int → Int → D := fun i j => .int (i % j)
abbrev gDiv : Int → Int → D := fun i j => .int (i / j)
abbrev gPow : Int → Int → D := fun i j => .int (i ^ j.toNat)
theorem pd_add (ha : PD F E a A) (hb : PD F E b B) : PD F E (.BinOp a .Add b pos) (dOp (rdI0 gAdd) A B) := pd_op (fun _ => op_add) (fun _ _ => rl_I0 fun _ _ _ => .int _) ha hb
theorem pd_sub (ha : PD F E a A) (hb : PD F E b B) : PD F E (.BinOp a .Sub b pos) (dOp (rdI0 gSub) A B) := pd_op (fun _ => op_sub) (fun _ _ => rl_I0 fun _ _ _ => .int _) ha hb
theorem pd_mul (ha : PD F E a A) (hb : PD F E b B) : PD F E (.BinOp a .Mult b pos) (dOp (rdI CMul gMul) A B) := pd_op (fun _ => op_mul) (fun _ _ => rl_I fun _ _ _ => .int _) ha hb
theorem pd_mod (ha : PD F E a A) (hb : PD F E b B) : PD F E (.BinOp a .Mod b pos) (dOp (rdI (fun _ j => 0 < j) gMod) A B) := pd_op (fun _ => op_mod) (fun _ _ => rl_I fun _ _ _ => .int _) ha hb
theorem pd_fdiv (ha : PD F E a A) (hb : PD F E b B) : PD F E (.BinOp a .FloorDiv b pos) (dOp (rdI CDiv gDiv) A B) := pd_op (fun _ => op_fdiv) (fun _ _ => rl_I fun _ _ _ => .int _) ha hb
theorem pd_pow (ha : PD F E a A) (hb : PD F E b B) : PD F E (.BinOp a .Pow b pos) (dOp (rdI CPow gPow) A B) := pd_op (fun _ => op_pow) (fun _ _ => rl_I fun _ _ _ => .int _) ha hb
def dUn (g : Int → D) (A : DE) : DE := fun xd Γ Q => A xd Γ fun x Γ1 => ∃ i, x = .dat (.int i) ∧ Q (.dat (g i)) Γ1
theorem pd_neg (ha : PD F E a A) : PD F E (.UnaryOp .USub a pos) (dUn (fun i => .int (-i)) A) :=
  let ⟨_, pa, la⟩ := ha
  ⟨_, fun j => pe_un un_neg (pa j), fun P hK hE Bv Γ σ H Qd Q n h k => la P hK hE Bv Γ σ H _ _ n h fun w Γ1 v H1 B1 e1 n1 r1 h1 => by
    obtain ⟨i, rfl, h1⟩ := h1
    cases r1
    exact ⟨i, rfl, finD k e1 n1 (.int _) h1⟩⟩
/-! comparisons -/
def dCmp (op : CmpOp) (rd : D2) (A B : DE) : DE := dOp rd A B
theorem pd_cmp {op : CmpOp} {r : R2} {rd : D2} (ho : ∀ j, OpR (F.X j) (compareOp op) r) (hl : ∀ P : Par, P.K = F.K → RL P r rd) (ha : PD F E a A) (hb : PD F E b B) (h1 : behindInMarks op b = false := by first | exact nomark _ | rfl) : PD F E (.Compare a [op] [b] pos) (dOp rd A B) :=
  let ⟨_, pa, la⟩ := ha; let ⟨_, pb, lb⟩ := hb
  ⟨_, fun j => pe_cmpR (ho j) (pa j) (pb j) h1, fun P hK hE => le_op (hl P hK) (la P hK hE) (lb P hK hE)⟩
abbrev gLt : Int → Int → D := fun i j => .bl (decide (i < j))
abbrev gLe : Int → Int → D := fun i j => .bl (decide (i ≤ j))
abbrev gGt : Int → Int → D := fun i j => .bl (decide (j < i))
abbrev gGe : Int → Int → D := fun i j => .bl (decide (j ≤ i))
theorem pd_lt (ha : PD F E a A) (hb : PD F E b B) : PD F E (.Compare a [.Lt] [b] pos) (dOp (rdI0 gLt) A B) := pd_cmp (fun _ => op_lt) (fun _ _ => rl_I0 fun _ _ _ => .bl _) ha hb
theorem pd_le (ha : PD F E a A) (hb : PD F E b B) : PD F E (.Compare a [.LtE] [b] pos) (dOp (rdI0 gLe) A B) := pd_cmp (fun _ => op_le) (fun _ _ => rl_I0 fun _ _ _ => .bl _) ha hb
theorem pd_gt (ha : PD F E a A) (hb : PD F E b B) : PD F E (.Compare a [.Gt] [b] pos) (dOp (rdI0 gGt) A B) := pd_cmp (fun _ => op_gt) (fun _ _ => rl_I0 fun _ _ _ => .bl _) ha hb
theorem pd_ge (ha : PD F E a A) (hb : PD F E b B) : PD F E (.Compare a [.GtE] [b] pos) (dOp (rdI0 gGe) A B) := pd_cmp (fun _ => op_ge) (fun _ _ => rl_I0 fun _ _ _ => .bl _) ha hb
/-- == | !=, of plain data -/
def rdEq (neg : Bool) : D2 := fun Γ x y Q => ∃ d e, asD Γ x = some d ∧ asD Γ y = some e ∧ okD d = true ∧ okD e = true ∧ ∀ q : Bool, (q = true ↔ d = e) → Q (.dat (.bl (if neg then !q else q))) Γ
theorem rl_eq {P : Par} : RL P (rEqD P.K) (rdEq false) := by
  intro Bv Γ σ H x y wx wy Qd Q n rx ry h k
  obtain ⟨d, e, hd, he, od, oe, h⟩ := h
  exact ⟨toPy d, toPy e, (n.full rx hd).dp (okD_plain od), (n.full ry he).dp (okD_plain oe), okD_shaped od, okD_shaped oe, finD k (Ex.refl _) n (.bl _) (h _ (eqv_iff d e (okD_plain od) (okD_plain oe)))⟩
theorem rl_ne {P : Par} : RL P (rNeD P.K) (rdEq true) := by
  intro Bv Γ σ H x y wx wy Qd Q n rx ry h k
  obtain ⟨d, e, hd, he, od, oe, h⟩ := h
  exact ⟨toPy d, toPy e, (n.full rx hd).dp (okD_plain od), (n.full ry he).dp (okD_plain oe), okD_shaped od, okD_shaped oe, finD k (Ex.refl _) n (.bl _) (h _ (eqv_iff d e (okD_plain od) (okD_plain oe)))⟩
theorem pd_eq (hu : ∀ j, (F.X j).A.units + 64 < cLine) (ha : PD F E a A) (hb : PD F E b B) : PD F E (.Compare a [.Eq] [b] pos) (dOp (rdEq false) A B) := pd_cmp (fun j => F.k j ▸ op_eqD (hu j)) (fun P hK => by rw [← hK]; exact rl_eq) ha hb
theorem pd_ne (hu : ∀ j, (F.X j).A.units + 64 < cLine) (ha : PD F E a A) (hb : PD F E b B) : PD F E (.Compare a [.NotEq] [b] pos) (dOp (rdEq true) A B) := pd_cmp (fun j => F.k j ▸ op_neD (hu j)) (fun P hK => by rw [← hK]; exact rl_ne) ha hb
/-- in | not in, a list of plain data -/
def rdIn (neg : Bool) : D2 := fun Γ x y Q => ∃ d l, asD Γ x = some d ∧ asD Γ y = some (.lst l) ∧ okD d = true ∧ okD (.lst l) = true ∧ ∀ q : Bool, (q = true ↔ d ∈ l) → Q (.dat (.bl (if neg then !q else q))) Γ
theorem any_in : ∀ (l : List D) (d : D), plainL l = true → plain d = true → (((toPyL l).any fun z => PyData.eqv z (toPy d)) = true ↔ d ∈ l)
  | [], d, _, _ => by simp [toPyL]
  | e :: l, d, h, hd => by
    simp only [plainL, Bool.and_eq_true] at h
    simp only [toPyL, List.any_cons, Bool.or_eq_true, List.mem_cons, eqv_iff e d h.1 hd, any_in l d h.2 hd]
    constructor
    · rintro (q | q)
      · exact .inl q.symm
      · exact .inr q
    · rintro (q | q)
      · exact .inl q.symm
      · exact .inr q
theorem rl_in {P : Par} : RL P (rInD P.K) (rdIn false) := by
  intro Bv Γ σ H x y wx wy Qd Q n rx ry h k
  obtain ⟨d, l, hd, he, od, oe, h⟩ := h
  have z := (n.full ry he).dp (okD_plain oe)
  have s := okD_shaped oe
  have pl : plainL l = true := by simpa [plain] using okD_plain oe
  simp only [toPy] at z s
  exact ⟨toPy d, toPyL l, (n.full rx hd).dp (okD_plain od), z, okD_shaped od, s, finD k (Ex.refl _) n (.bl _) (h _ (any_in l d pl (okD_plain od)))⟩
theorem rl_notIn {P : Par} : RL P (rNotInD P.K) (rdIn true) := by
  intro Bv Γ σ H x y wx wy Qd Q n rx ry h k
  obtain ⟨d, l, hd, he, od, oe, h⟩ := h
  have z := (n.full ry he).dp (okD_plain oe)
  have s := okD_shaped oe
  have pl : plainL l = true := by simpa [plain] using okD_plain oe
  simp only [toPy] at z s
  exact ⟨toPy d, toPyL l, (n.full rx hd).dp (okD_plain od), z, okD_shaped od, s, finD k (Ex.refl _) n (.bl _) (h _ (any_in l d pl (okD_plain od)))⟩
theorem pd_in (hu : ∀ j, (F.X j).A.units + 65 < cLine) (ha : PD F E a A) (hb : PD F E b B) (h1 : behindInMarks .In b = false := by rfl) : PD F E (.Compare a [.In] [b] pos) (dOp (rdIn false) A B) := pd_cmp (fun j => F.k j ▸ op_inD (hu j)) (fun P hK => by rw [← hK]; exact rl_in) ha hb h1
theorem pd_notIn (hu : ∀ j, (F.X j).A.units + 65 < cLine) (ha : PD F E a A) (hb : PD F E b B) (h1 : behindInMarks .NotIn b = false := by rfl) : PD F E (.Compare a [.NotIn] [b] pos) (dOp (rdIn true) A B) := pd_cmp (fun j => F.k j ▸ op_notInD (hu j)) (fun P hK => by rw [← hK]; exact rl_notIn) ha hb h1
/-! is None -/
def dIsN (neg : Bool) (A : DE) : DE := fun xd Γ Q => A xd Γ fun x Γ1 => ∃ d, asD Γ1 x = some d ∧ Q (.dat (.bl (match d with | .non => !neg | _ => neg))) Γ1
theorem Rp.isN {K : PySem.W.Frag} {H : Hp} {v : V} {d : D} (h : Rp K H v d) : decide (v = .non) = (match d with | .non => true | _ => false) := by cases h <;> rfl
theorem pd_isN {j pos'} (ha : PD F E a A) : PD F E (.Compare a [.Is] [.Constant .none j pos'] pos) (dIsN false A) :=
  let ⟨_, pa, la⟩ := ha
  ⟨_, fun j => pe_cmp (pc_isN (pa j)), fun P hK hE Bv Γ σ H Qd Q n h k => la P hK hE Bv Γ σ H _ _ n h fun w Γ1 v H1 B1 e1 n1 r1 h1 => by
    obtain ⟨d, hd, h1⟩ := h1
    rw [(n1.full r1 hd).isN]
    refine finD k (d := .bl _) e1 n1 (.bl _) ?_
    cases d <;> exact h1⟩
theorem pd_notN {j pos'} (ha : PD F E a A) : PD F E (.Compare a [.IsNot] [.Constant .none j pos'] pos) (dIsN true A) :=
  let ⟨_, pa, la⟩ := ha
  ⟨_, fun j => pe_cmp (pc_notN (pa j)), fun P hK hE Bv Γ σ H Qd Q n h k => la P hK hE Bv Γ σ H _ _ n h fun w Γ1 v H1 B1 e1 n1 r1 h1 => by
    obtain ⟨d, hd, h1⟩ := h1
    rw [(n1.full r1 hd).isN]
    refine finD k (d := .bl _) e1 n1 (.bl _) ?_
    cases d <;> exact h1⟩

/-! tests -/
def dB (A : DE) : DT := fun xd Γ Q => A xd Γ fun x Γ1 => ∃ q, x = .dat (.bl q) ∧ Q q Γ1
theorem lt_B {P : Par} {t : TE} (h : LE P t A) : LT P (tB t) (dB A) := fun Bv Γ σ H Qd Q n q k => h Bv Γ σ H _ _ n q fun w Γ1 v H1 B1 e1 n1 r1 h1 => by
  obtain ⟨b, rfl, h1⟩ := h1
  cases r1
  exact ⟨b, rfl, k b Γ1 H1 B1 e1 n1 h1⟩
/-- a comparison (or another thing that gives a bool) as a test -/
theorem pdt_val {e : Expr} (h : PD F E e A) (he : ∀ j whole, isTrue e (F.X j).env whole = (do let v ← whole; standAt e.pos; holding [v] (truthy v)) := by intro _ _; rfl) : PDT F E e (dB A) :=
  let ⟨_, pa, la⟩ := h
  ⟨_, fun j => pt_val (pa j) (he j), fun P hK hE => lt_B (la P hK hE)⟩
theorem pdt_cmp {op : CmpOp} {r : R2} {rd : D2} (ho : ∀ j, OpR (F.X j) (compareOp op) r) (hl : ∀ P : Par, P.K = F.K → RL P r rd) (ha : PD F E a A) (hb : PD F E b B) (h1 : behindInMarks op b = false := by first | exact nomark _ | rfl) : PDT F E (.Compare a [op] [b] pos) (dB (dOp rd A B)) := by
  obtain ⟨_, pa, la⟩ := ha
  obtain ⟨_, pb, lb⟩ := hb
  exact ⟨_, fun j => pt_cmpR (ho j) (pa j) (pb j) h1, fun P hK hE => lt_B (le_op (hl P hK) (la P hK hE) (lb P hK hE))⟩
def dAnd (t u : DT) : DT := fun xd Γ Q => t xd Γ fun q Γ1 => if q = true then u xd Γ1 Q else Q false Γ1
def dOr (t u : DT) : DT := fun xd Γ Q => t xd Γ fun q Γ1 => if q = true then Q true Γ1 else u xd Γ1 Q
def dNot (t : DT) : DT := fun xd Γ Q => t xd Γ fun q Γ1 => Q (!q) Γ1
variable {tA tB' : DT} {rest : List Expr}
theorem pdw_and1 (ha : PDT F E a tA) : PDW F E (.BoolOp .And [a] pos) tA := let ⟨_, p, l⟩ := ha; ⟨_, fun j => pw_and1 (p j), l⟩
theorem pdw_or1 (ha : PDT F E a tA) : PDW F E (.BoolOp .Or [a] pos) tA := let ⟨_, p, l⟩ := ha; ⟨_, fun j => pw_or1 (p j), l⟩
theorem pdw_and (ha : PDT F E a tA) (hb : PDW F E (.BoolOp .And (b :: rest) pos) tB') : PDW F E (.BoolOp .And (a :: b :: rest) pos) (dAnd tA tB') := by
  obtain ⟨t, p, l⟩ := ha
  obtain ⟨u, p', l'⟩ := hb
  refine ⟨_, fun j => pw_and (p j) (p' j), fun P hK hE Bv Γ σ H Qd Q n h k => l P hK hE Bv Γ σ H _ _ n h fun q Γ1 H1 B1 e1 n1 h1 => ?_⟩
  cases q with
  | true => exact l' P hK hE B1 Γ1 σ H1 _ _ n1 h1 fun q Γ2 H2 B2 e2 n2 h2 => k q Γ2 H2 B2 (e1.trans e2) n2 h2
  | false => exact k false Γ1 H1 B1 e1 n1 h1
theorem pdw_or (ha : PDT F E a tA) (hb : PDW F E (.BoolOp .Or (b :: rest) pos) tB') : PDW F E (.BoolOp .Or (a :: b :: rest) pos) (dOr tA tB') := by
  obtain ⟨t, p, l⟩ := ha
  obtain ⟨u, p', l'⟩ := hb
  refine ⟨_, fun j => pw_or (p j) (p' j), fun P hK hE Bv Γ σ H Qd Q n h k => l P hK hE Bv Γ σ H _ _ n h fun q Γ1 H1 B1 e1 n1 h1 => ?_⟩
  cases q with
  | false => exact l' P hK hE B1 Γ1 σ H1 _ _ n1 h1 fun q Γ2 H2 B2 e2 n2 h2 => k q Γ2 H2 B2 (e1.trans e2) n2 h2
  | true => exact k true Γ1 H1 B1 e1 n1 h1
theorem pdw_pt {e : Expr} (h : PDW F E e tA) : PDT F E e tA := let ⟨_, p, l⟩ := h; ⟨_, fun j => (p j).pt, l⟩
theorem pdt_not (ha : PDT F E a tA) : PDT F E (.UnaryOp .Not a pos) (dNot tA) :=
  let ⟨_, p, l⟩ := ha
  ⟨_, fun j => pt_not (p j), fun P hK hE Bv Γ σ H Qd Q n h k => l P hK hE Bv Γ σ H _ _ n h fun q Γ1 H1 B1 e1 n1 h1 => k (!q) Γ1 H1 B1 e1 n1 h1⟩
/-- .. as values -/
def dAndV (A B : DE) : DE := fun xd Γ Q => A xd Γ fun x Γ1 => ∃ q, x = .dat (.bl q) ∧ if q = true then B xd Γ1 Q else Q (.dat (.bl false)) Γ1
def dOrV (A B : DE) : DE := fun xd Γ Q => A xd Γ fun x Γ1 => ∃ q, x = .dat (.bl q) ∧ if q = true then Q (.dat (.bl true)) Γ1 else B xd Γ1 Q
theorem pd_one {op} (h : PD F E a A) : PD F E (.BoolOp op [a] pos) A := let ⟨_, p, l⟩ := h; ⟨_, fun j => pe_one (p j), l⟩
theorem pd_and (ha : PD F E a A) (hb : PD F E (.BoolOp .And (b :: rest) pos) B) : PD F E (.BoolOp .And (a :: b :: rest) pos) (dAndV A B) := by
  obtain ⟨t, p, l⟩ := ha
  obtain ⟨u, p', l'⟩ := hb
  refine ⟨_, fun j => pe_and (p j) (p' j), fun P hK hE Bv Γ σ H Qd Q n h k => l P hK hE Bv Γ σ H _ _ n h fun w Γ1 v H1 B1 e1 n1 r1 h1 => ?_⟩
  obtain ⟨q, rfl, h1⟩ := h1
  cases r1
  refine ⟨q, rfl, ?_⟩
  cases q with
  | true => exact l' P hK hE B1 Γ1 σ H1 _ _ n1 h1 fun w Γ2 v H2 B2 e2 n2 r2 h2 => k w Γ2 v H2 B2 (e1.trans e2) n2 r2 h2
  | false => exact finD k e1 n1 (.bl false) h1
theorem pd_or (ha : PD F E a A) (hb : PD F E (.BoolOp .Or (b :: rest) pos) B) : PD F E (.BoolOp .Or (a :: b :: rest) pos) (dOrV A B) := by
  obtain ⟨t, p, l⟩ := ha
  obtain ⟨u, p', l'⟩ := hb
  refine ⟨_, fun j => pe_or (p j) (p' j), fun P hK hE Bv Γ σ H Qd Q n h k => l P hK hE Bv Γ σ H _ _ n h fun w Γ1 v H1 B1 e1 n1 r1 h1 => ?_⟩
  obtain ⟨q, rfl, h1⟩ := h1
  cases r1
  refine ⟨q, rfl, ?_⟩
  cases q with
  | false => exact l' P hK hE B1 Γ1 σ H1 _ _ n1 h1 fun w Γ2 v H2 B2 e2 n2 r2 h2 => k w Γ2 v H2 B2 (e1.trans e2) n2 r2 h2
  | true => exact finD k e1 n1 (.bl true) h1
def dIfE (t : DT) (A B : DE) : DE := fun xd Γ Q => t xd Γ fun q Γ1 => if q = true then A xd Γ1 Q else B xd Γ1 Q
theorem pd_ifE (hc : PDT F E c tA) (ha : PD F E a A) (hb : PD F E b B) : PD F E (.IfExp c a b pos) (dIfE tA A B) := by
  obtain ⟨t, p, l⟩ := hc
  obtain ⟨u, p1, l1⟩ := ha
  obtain ⟨v, p2, l2⟩ := hb
  refine ⟨_, fun j => pe_ifExp (p j) (p1 j) (p2 j), fun P hK hE Bv Γ σ H Qd Q n h k => l P hK hE Bv Γ σ H _ _ n h fun q Γ1 H1 B1 e1 n1 h1 => ?_⟩
  cases q with
  | true => exact l1 P hK hE B1 Γ1 σ H1 _ _ n1 h1 fun w Γ2 v H2 B2 e2 n2 r2 h2 => k w Γ2 v H2 B2 (e1.trans e2) n2 r2 h2
  | false => exact l2 P hK hE B1 Γ1 σ H1 _ _ n1 h1 fun w Γ2 v H2 B2 e2 n2 r2 h2 => k w Γ2 v H2 B2 (e1.trans e2) n2 r2 h2
end
end DL

set_option Elab.async false
set_option linter.all false
set_option maxRecDepth 100000
set_option maxHeartbeats 4000000
namespace DL
open PySem PySem.Spec PyProof.Rows L2


section
variable {F : Fam} {E : XK} {e a b : Expr} {es : List Expr} {A B : DE} {R : DA} {pos p : Pos}
/-! ### argument lists, displays -/
def dANil : DA := fun _ Γ Q => Q [] Γ
def dACons (A : DE) (R : DA) : DA := fun xd Γ Q => A xd Γ fun w Γ1 => R xd Γ1 fun ws Γ2 => Q (w :: ws) Γ2
theorem pda_nil : PDA F E [] dANil := ⟨_, fun j => pa_nil, fun P hK hE Bv Γ σ H Qd Q n h k => k [] Γ [] H Bv (Ex.refl _) n trivial h⟩
theorem pda_cons (ha : PD F E e A) (hr : PDA F E es R) (hs : ∀ j, starEach (e :: es) (F.X j).env = (false, eval e (F.X j).env) :: starEach es (F.X j).env := by intro _; rfl) : PDA F E (e :: es) (dACons A R) :=
  let ⟨_, pe, le⟩ := ha; let ⟨_, pr, lr⟩ := hr
  ⟨_, fun j => pa_cons (pe j) (pr j) (hs j), fun P hK hE Bv Γ σ H Qd Q n h k => le P hK hE Bv Γ σ H _ _ n h fun w Γ1 v H1 B1 e1 n1 r1 h1 =>
    lr P hK hE B1 Γ1 σ H1 _ _ n1 h1 fun ws Γ2 vs H2 B2 e2 n2 r2 h2 => k (w :: ws) Γ2 (v :: vs) H2 B2 (e1.trans e2) n2 ⟨r1.mono e2, r2⟩ h2⟩
/-- all of them are to stay -/
def fixL : Gm → List Wv → Option (List D × Gm)
  | Γ, [] => some ([], Γ)
  | Γ, w :: ws => match fix Γ w with
    | some (d, Γ1) => match fixL Γ1 ws with
      | some (ds, Γ2) => some (d :: ds, Γ2)
      | none => none
    | none => none
theorem En.fixedL {P : Par} : ∀ {ws : List Wv} {Bv : Hp} {Γ Γ' : Gm} {σ : L2.St} {H : Hp} {vs : List V} {ds : List D}, En P Bv Γ σ H → RpWL P.K Bv σ vs ws → fixL Γ ws = some (ds, Γ') → ∃ Bv', Ex Bv Bv' ∧ En P Bv' Γ' σ H ∧ RpL P.K Bv' vs ds
  | [], Bv, Γ, Γ', σ, H, vs, ds, n, r, e => by
    cases e
    match vs, r with
    | [], _ => exact ⟨Bv, Ex.refl _, n, .nil⟩
  | w :: ws, Bv, Γ, Γ', σ, H, vs, ds, n, r, e => by
    match vs, r with
    | v :: vs, r =>
      unfold fixL at e
      cases q : fix Γ w with
      | none => rw [q] at e; cases e
      | some z =>
        obtain ⟨d, Γ1⟩ := z
        rw [q] at e
        dsimp only at e
        cases q2 : fixL Γ1 ws with
        | none => rw [q2] at e; cases e
        | some z =>
          obtain ⟨ds', Γ2⟩ := z
          rw [q2] at e
          cases e
          obtain ⟨B1, e1, n1, r1⟩ := n.fixed r.1 q
          obtain ⟨B2, e2, n2, r2⟩ := En.fixedL n1 (r.2.mono e1) q2
          exact ⟨B2, e1.trans e2, n2, .cons (r1.mono e2) r2⟩
theorem En.noAt {P : Par} {Bv : Hp} {Γ : Gm} {σ : L2.St} {H : Hp} (n : En P Bv Γ σ H) {p : Addr} (hp : H p = none) : P.F p = none ∧ Bv p = none ∧ ∀ (j : Nat) (q : Bool) (m : List D), Γ[j]? = some (.own q m) → σ[j]? ≠ some (some (.ref p)) := by
  refine ⟨?_, fresh_back n.sub hp, fun j q m h z => ?_⟩
  · exact fresh_back n.frm hp
  · obtain ⟨a, vs, h1, h2, _⟩ := n.own j q m h
    rw [h1] at z
    cases z
    rw [hp] at h2
    cases h2
/-- a new tuple -/
theorem En.newT {P : Par} {Bv : Hp} {Γ : Gm} {σ : L2.St} {H : Hp} {vs : List V} {ds : List D} {Qd : Wv → Gm → Prop} {Q : VK} {B0 : Hp} (n : En P Bv Γ σ H) (r : RpL P.K Bv vs ds) (e : Ex B0 Bv) (h : Qd (.dat (.tup ds)) Γ) (k : FinW P B0 σ Qd Q) {p : Addr} (hp : H p = none) : Q (.ref p) (upd H p (.tup vs)) := by
  have g : Grow Bv H (upd Bv p (.tup vs)) (upd H p (.tup vs)) := Grow.one n.sub hp
  exact finD k (e.trans g.vis) (n.grow g) (.tup (.inl (.inl upd_same)) (r.mono g.vis)) h
theorem En.newL {P : Par} {Bv : Hp} {Γ : Gm} {σ : L2.St} {H : Hp} {vs : List V} {ds : List D} {Qd : List D → Gm → Prop} {Q : VK} {B0 : Hp} (n : En P Bv Γ σ H) (r : RpL P.K Bv vs ds) (e : Ex B0 Bv) (h : Qd ds Γ) (k : FinO P B0 σ Qd Q) {p : Addr} (hp : H p = none) : Q (.ref p) (upd H p (.lst vs)) := by
  have g : Grow Bv H Bv (upd H p (.lst vs)) := Grow.hid n.sub hp
  obtain ⟨z1, z2, z3⟩ := n.noAt hp
  exact k ds Γ p vs _ Bv e (n.grow g) ⟨upd_same, z2, z1, z3, r, n.nhAt hp⟩ h
def dTup (R : DA) : DE := fun xd Γ Q => R xd Γ fun ws Γ1 => ∃ ds Γ2, fixL Γ1 ws = some (ds, Γ2) ∧ ds.length ≤ 100000 ∧ Q (.dat (.tup ds)) Γ2
theorem pd_tup {x1} (h : PDA F E es R) : PD F E (.Tuple es x1 pos) (dTup R) :=
  let ⟨_, pr, lr⟩ := h
  ⟨_, fun j => pe_tup (pr j), fun P hK hE Bv Γ σ H Qd Q n h k => lr P hK hE Bv Γ σ H _ _ n h fun ws Γ1 vs H1 B1 e1 n1 r1 h1 => by
    obtain ⟨ds, Γ2, f, hl, h1⟩ := h1
    obtain ⟨B2, e2, n2, r2⟩ := n1.fixedL r1 f
    exact ⟨by rw [r2.len]; exact Evl.sz_of hl, fun p hp => n2.newT r2 (e1.trans e2) h1 k hp⟩⟩
def dLst (R : DA) : DO := fun xd Γ Q => R xd Γ fun ws Γ1 => ∃ ds Γ2, fixL Γ1 ws = some (ds, Γ2) ∧ ds.length ≤ 100000 ∧ Q ds Γ2
theorem pdo_lst (h : PDA F E es R) : PDO F E (.List es pos) (dLst R) :=
  let ⟨_, pr, lr⟩ := h
  ⟨_, fun j => pe_lst (pr j), fun P hK hE Bv Γ σ H Qd Q n h k => lr P hK hE Bv Γ σ H _ _ n h fun ws Γ1 vs H1 B1 e1 n1 r1 h1 => by
    obtain ⟨ds, Γ2, f, hl, h1⟩ := h1
    obtain ⟨B2, e2, n2, r2⟩ := n1.fixedL r1 f
    exact ⟨by rw [r2.len]; exact Evl.sz_of hl, fun p hp => n2.newL r2 (e1.trans e2) h1 k hp⟩⟩
/-- a new list as data -/
def dOf (T : DO) : DE := fun xd Γ Q => T xd Γ fun l Γ1 => Q (.dat (.lst l)) Γ1
theorem En.show {P : Par} {Bv : Hp} {Γ : Gm} {σ : L2.St} {H : Hp} {p : Addr} {vs : List V} {l : List D} (n : En P Bv Γ σ H) (z : NewL P Bv Γ σ H p vs l) : Ex Bv (upd Bv p (.lst vs)) ∧ En P (upd Bv p (.lst vs)) Γ σ H ∧ Rp P.K (upd Bv p (.lst vs)) (.ref p) (.lst l) := by
  have ex : Ex Bv (upd Bv p (.lst vs)) := Ex.new z.bv
  refine ⟨ex, ?_, .lst (.inl (.inl upd_same)) (z.rp.mono ex)⟩
  exact {
    len := n.len
    base := n.base.trans ex
    sub := fun c u e => by
      by_cases q : c = p
      · subst q; rw [upd_same] at e; cases e; exact .inl z.at_
      · rw [upd_ne q] at e; exact n.sub c u e
    frm := n.frm
    dj := fun c y => by
      have : c ≠ p := fun e => by rw [e] at y; exact y z.f
      rw [upd_ne this]; exact n.dj c y
    dat := fun j d h => let ⟨v, g1, g2⟩ := n.dat j d h; ⟨v, g1, g2.mono ex⟩
    own := fun j q m h => by
      obtain ⟨c, ws, e1, e2, e3, e4, e5⟩ := n.own j q m h
      have : c ≠ p := fun y => z.no j q m h (by rw [e1, y])
      exact ⟨c, ws, e1, e2, e3.mono ex, by rw [upd_ne this]; exact e4, e5⟩
    inj := n.inj
    pin := n.pin
    hf := n.hf.to (fun _ _ h => h) ex (fun _ _ _ _ _ => rfl) (fun i M hM b hb f v => ⟨f, by rw [upd_ne (fun e => z.nh i M hM (by rw [← e]; exact hb))]; exact v⟩) (fun _ _ _ _ _ k => k) }
theorem pd_of {T : DO} (h : PDO F E e T) : PD F E e (dOf T) :=
  let ⟨_, p, l⟩ := h
  ⟨_, p, fun P hK hE Bv Γ σ H Qd Q n h k => l P hK hE Bv Γ σ H _ _ n h fun l Γ1 p vs H1 B1 e1 n1 z h1 => by
    obtain ⟨ex, n2, r2⟩ := n1.show z
    exact finD k (e1.trans ex) n2 r2 h1⟩

/-! ### built-ins -/
abbrev D1 := Gm → List Wv → (Wv → Gm → Prop) → Prop
def CL (P : Par) (r : List V → Hp → VK → Prop) (rd : D1) : Prop := ∀ (Bv : Hp) (Γ : Gm) (σ : L2.St) (H : Hp) (vs : List V) (ws : List Wv) (Qd : Wv → Gm → Prop) (Q : VK), En P Bv Γ σ H → RpWL P.K Bv σ vs ws → rd Γ ws Qd → FinW P Bv σ Qd Q → r vs H Q
def CLO (P : Par) (r : List V → Hp → VK → Prop) (rd : Gm → List Wv → (List D → Gm → Prop) → Prop) : Prop := ∀ (Bv : Hp) (Γ : Gm) (σ : L2.St) (H : Hp) (vs : List V) (ws : List Wv) (Qd : List D → Gm → Prop) (Q : VK), En P Bv Γ σ H → RpWL P.K Bv σ vs ws → rd Γ ws Qd → FinO P Bv σ Qd Q → r vs H Q
def dCB (rd : D1) (R : DA) : DE := fun xd Γ Q => R xd Γ fun ws Γ1 => rd Γ1 ws Q
def dCO (rd : Gm → List Wv → (List D → Gm → Prop) → Prop) (R : DA) : DO := fun xd Γ Q => R xd Γ fun ws Γ1 => rd Γ1 ws Q
theorem le_CB {P : Par} {r : List V → Hp → VK → Prop} {rd : D1} {ta : TA} (hc : CL P r rd) (ha : LA P ta R) : LE P (tCB r ta) (dCB rd R) := fun Bv Γ σ H Qd Q n h k =>
  ha Bv Γ σ H _ _ n h fun ws Γ1 vs H1 B1 e1 n1 r1 h1 => hc B1 Γ1 σ H1 vs ws Qd Q n1 r1 h1 fun w Γ2 v H2 B2 e2 n2 r2 h2 => k w Γ2 v H2 B2 (e1.trans e2) n2 r2 h2
theorem lo_CB {P : Par} {r : List V → Hp → VK → Prop} {rd : Gm → List Wv → (List D → Gm → Prop) → Prop} {ta : TA} (hc : CLO P r rd) (ha : LA P ta R) : LO P (tCB r ta) (dCO rd R) := fun Bv Γ σ H Qd Q n h k =>
  ha Bv Γ σ H _ _ n h fun ws Γ1 vs H1 B1 e1 n1 r1 h1 => hc B1 Γ1 σ H1 vs ws Qd Q n1 r1 h1 fun l Γ2 p vs H2 B2 e2 n2 r2 h2 => k l Γ2 p vs H2 B2 (e1.trans e2) n2 r2 h2
variable {x : Str} {id T : String}
theorem pd_callB {r : List V → Hp → VK → Prop} {rd : D1} (hc : ∀ j, CallR (F.X j) (.builtin id) r) (hl : ∀ P : Par, P.K = F.K → CL P r rd) (hg : ∀ j, Gl (F.X j) x) (hm : ∀ j, (F.X j).mg x = none) (hv : bootBuiltins x = some (.builtin id)) (ha : PDA F E (e :: es) R) (hn : x ≠ "__name__" := by decide) (hdb : (x == ("__debug__" : Str)) = false := by decide)
    (he : ∀ j, starEach (e :: es) (F.X j).env = (false, eval e (F.X j).env) :: starEach es (F.X j).env := by intro _; rfl) (hpl : ∀ j, (backTo pos (starEach es (F.X j).env)).any (·.1) = false := by intro _; rfl) : PD F E (.Call (.Name x p) (e :: es) [] pos) (dCB rd R) :=
  let ⟨_, pa, la⟩ := ha
  ⟨_, fun j => pe_callB (hc j) (hg j) (hm j) hv (pa j) hn hdb (he j) (hpl j), fun P hK hE => le_CB (hl P hK) (la P hK hE)⟩
theorem pd_callTy {r : List V → Hp → VK → Prop} {rd : D1} (hc : ∀ j, CallR (F.X j) (.type T) r) (hl : ∀ P : Par, P.K = F.K → CL P r rd) (hg : ∀ j, Gl (F.X j) x) (hm : ∀ j, (F.X j).mg x = none) (hv : bootBuiltins x = some (.type T)) (ha : PDA F E (e :: es) R) (hn : x ≠ "__name__" := by decide) (hdb : (x == ("__debug__" : Str)) = false := by decide)
    (he : ∀ j, starEach (e :: es) (F.X j).env = (false, eval e (F.X j).env) :: starEach es (F.X j).env := by intro _; rfl) (hpl : ∀ j, (backTo pos (starEach es (F.X j).env)).any (·.1) = false := by intro _; rfl) : PD F E (.Call (.Name x p) (e :: es) [] pos) (dCB rd R) :=
  let ⟨_, pa, la⟩ := ha
  ⟨_, fun j => pe_callTy (hc j) (hg j) (hm j) hv (pa j) hn hdb (he j) (hpl j), fun P hK hE => le_CB (hl P hK) (la P hK hE)⟩
theorem pdo_callTy {r : List V → Hp → VK → Prop} {rd : Gm → List Wv → (List D → Gm → Prop) → Prop} (hc : ∀ j, CallR (F.X j) (.type T) r) (hl : ∀ P : Par, P.K = F.K → CLO P r rd) (hg : ∀ j, Gl (F.X j) x) (hm : ∀ j, (F.X j).mg x = none) (hv : bootBuiltins x = some (.type T)) (ha : PDA F E (e :: es) R) (hn : x ≠ "__name__" := by decide) (hdb : (x == ("__debug__" : Str)) = false := by decide)
    (he : ∀ j, starEach (e :: es) (F.X j).env = (false, eval e (F.X j).env) :: starEach es (F.X j).env := by intro _; rfl) (hpl : ∀ j, (backTo pos (starEach es (F.X j).env)).any (·.1) = false := by intro _; rfl) : PDO F E (.Call (.Name x p) (e :: es) [] pos) (dCO rd R) :=
  let ⟨_, pa, la⟩ := ha
  ⟨_, fun j => pe_callTy (hc j) (hg j) (hm j) hv (pa j) hn hdb (he j) (hpl j), fun P hK hE => lo_CB (hl P hK) (la P hK hE)⟩
/-- the items of a list or tuple -/
def itemsOf : D → Option (List D)
  | .lst l => some l
  | .tup l => some l
  | _ => none
def rdLen : D1 := fun Γ ws Q => ∃ w d l, ws = [w] ∧ asD Γ w = some d ∧ itemsOf d = some l ∧ Q (.dat (.int l.length)) Γ
theorem En.seq {P : Par} {Bv : Hp} {Γ : Gm} {σ : L2.St} {H : Hp} {v : V} {w : Wv} {d : D} {l : List D} (n : En P Bv Γ σ H) (h : RpW P.K Bv σ v w) (e : asD Γ w = some d) (q : itemsOf d = some l) : ∃ a vs, v = .ref a ∧ (SqL P.K H a vs ∨ SqT P.K H a vs) ∧ RpL P.K Bv vs l := by
  cases d <;> cases q
  · obtain ⟨a, vs, h1, h2, h3⟩ := n.tuple h e
    exact ⟨a, vs, h1, .inr h2, h3⟩
  · obtain ⟨a, vs, h1, h2, h3⟩ := n.list h e
    exact ⟨a, vs, h1, .inl h2, h3⟩
theorem pd_len (hg : ∀ j, Gl (F.X j) "len") (hm : ∀ j, (F.X j).mg "len" = none) (ha : PDA F E [a] R) (he : ∀ j, starEach [a] (F.X j).env = (false, eval a (F.X j).env) :: starEach [] (F.X j).env := by intro _; rfl) : PD F E (.Call (.Name "len" p) [a] [] pos) (dCB rdLen R) :=
  pd_callB (fun j => F.k j ▸ call_len_seq) (fun P hK => by
    intro Bv Γ σ H vs ws Qd Q n r h k
    obtain ⟨w, d, l, rfl, h1, h2, h⟩ := h
    obtain ⟨v, rfl, rr⟩ := r.one
    obtain ⟨a, us, rfl, hs, hr⟩ := n.seq rr h1 h2
    rw [← hK]
    refine ⟨a, us, rfl, hs, ?_⟩
    rw [hr.len]
    exact finD k (Ex.refl _) n (.int _) h) hg hm PySem.boot_len ha (by decide) (by decide) he
def rdInt : D1 := fun Γ ws Q => (∃ i, ws = [.dat (.int i)] ∧ Q (.dat (.int i)) Γ) ∨ ∃ q : Bool, ws = [.dat (.bl q)] ∧ Q (.dat (.int (if q then 1 else 0))) Γ
theorem pd_intOf (hg : ∀ j, Gl (F.X j) "int") (hm : ∀ j, (F.X j).mg "int" = none) (ha : PDA F E [a] R) (he : ∀ j, starEach [a] (F.X j).env = (false, eval a (F.X j).env) :: starEach [] (F.X j).env := by intro _; rfl) : PD F E (.Call (.Name "int" p) [a] [] pos) (dCB rdInt R) :=
  pd_callTy (fun _ => call_int1) (fun P hK => by
    intro Bv Γ σ H vs ws Qd Q n r h k
    rcases h with ⟨i, rfl, h⟩ | ⟨q, rfl, h⟩
    · obtain ⟨v, rfl, rr⟩ := r.one
      cases rr
      exact .inl ⟨i, rfl, finD k (Ex.refl _) n (.int _) h⟩
    · obtain ⟨v, rfl, rr⟩ := r.one
      cases rr
      exact .inr ⟨q, rfl, finD k (Ex.refl _) n (.int _) h⟩) hg hm (by decide +kernel) ha (by decide) (by decide) he
def rdMM (g : Int → Int → Int) : D1 := fun Γ ws Q => ∃ i j, ws = [.dat (.int i), .dat (.int j)] ∧ Q (.dat (.int (g i j))) Γ
theorem pd_max2 (hc : ∀ j, (F.X j).calm = true := by intro _; rfl) (hg : ∀ j, Gl (F.X j) "max") (hm : ∀ j, (F.X j).mg "max" = none) (ha : PDA F E [a, b] R) (he : ∀ j, starEach [a, b] (F.X j).env = (false, eval a (F.X j).env) :: starEach [b] (F.X j).env := by intro _; rfl) (hpl : ∀ j, (backTo pos (starEach [b] (F.X j).env)).any (·.1) = false := by intro _; rfl) :
    PD F E (.Call (.Name "max" p) [a, b] [] pos) (dCB (rdMM fun i j => if j > i then j else i) R) :=
  pd_callB (fun j => call_max2 (hc j)) (fun P hK => by
    intro Bv Γ σ H vs ws Qd Q n r h k
    obtain ⟨i, j, rfl, h⟩ := h
    obtain ⟨v, u, rfl, r1, r2⟩ := r.two
    cases r1
    cases r2
    exact ⟨i, j, rfl, finD k (Ex.refl _) n (.int _) h⟩) hg hm (by decide +kernel) ha (by decide) (by decide) he hpl
theorem pd_min2 (hc : ∀ j, (F.X j).calm = true := by intro _; rfl) (hg : ∀ j, Gl (F.X j) "min") (hm : ∀ j, (F.X j).mg "min" = none) (ha : PDA F E [a, b] R) (he : ∀ j, starEach [a, b] (F.X j).env = (false, eval a (F.X j).env) :: starEach [b] (F.X j).env := by intro _; rfl) (hpl : ∀ j, (backTo pos (starEach [b] (F.X j).env)).any (·.1) = false := by intro _; rfl) :
    PD F E (.Call (.Name "min" p) [a, b] [] pos) (dCB (rdMM fun i j => if j < i then j else i) R) :=
  pd_callB (fun j => call_min2 (hc j)) (fun P hK => by
    intro Bv Γ σ H vs ws Qd Q n r h k
    obtain ⟨i, j, rfl, h⟩ := h
    obtain ⟨v, u, rfl, r1, r2⟩ := r.two
    cases r1
    cases r2
    exact ⟨i, j, rfl, finD k (Ex.refl _) n (.int _) h⟩) hg hm (by decide +kernel) ha (by decide) (by decide) he hpl
/-- tuple(a list or tuple) -/
def rdTup : D1 := fun Γ ws Q => ∃ w d l, ws = [w] ∧ asD Γ w = some d ∧ itemsOf d = some l ∧ Q (.dat (.tup l)) Γ
theorem pd_tupOf (hg : ∀ j, Gl (F.X j) "tuple") (hm : ∀ j, (F.X j).mg "tuple" = none) (ha : PDA F E [a] R) (he : ∀ j, starEach [a] (F.X j).env = (false, eval a (F.X j).env) :: starEach [] (F.X j).env := by intro _; rfl) : PD F E (.Call (.Name "tuple" p) [a] [] pos) (dCB rdTup R) :=
  pd_callTy (fun j => F.k j ▸ call_tuple_of) (fun P hK => by
    intro Bv Γ σ H vs ws Qd Q n r h k
    obtain ⟨w, d, l, rfl, h1, h2, h⟩ := h
    obtain ⟨v, rfl, rr⟩ := r.one
    rw [← hK]
    cases d <;> cases h2
    · have f := n.full rr h1
      obtain ⟨a, us, rfl, hs, hr⟩ := n.tuple rr h1
      refine ⟨a, us, rfl, .inr ⟨hs, ?_⟩⟩
      cases w with
      | dat d' =>
        cases h1
        exact finD k (Ex.refl _) n rr h
      | slot i =>
        dsimp only [asD] at h1
        split at h1 <;> cases h1
    · obtain ⟨a, us, rfl, hs, hr⟩ := n.list rr h1
      exact ⟨a, us, rfl, .inl ⟨hs, fun q hq => n.newT hr (Ex.refl _) h k hq⟩⟩) hg hm (by decide +kernel) ha (by decide) (by decide) he
/-- list(a list or tuple) -/
def rdLstOf : Gm → List Wv → (List D → Gm → Prop) → Prop := fun Γ ws Q => ∃ w d l, ws = [w] ∧ asD Γ w = some d ∧ itemsOf d = some l ∧ Q l Γ
theorem pdo_lstOf (hg : ∀ j, Gl (F.X j) "list") (hm : ∀ j, (F.X j).mg "list" = none) (ha : PDA F E [a] R) (he : ∀ j, starEach [a] (F.X j).env = (false, eval a (F.X j).env) :: starEach [] (F.X j).env := by intro _; rfl) : PDO F E (.Call (.Name "list" p) [a] [] pos) (dCO rdLstOf R) :=
  pdo_callTy (fun j => F.k j ▸ call_list_of) (fun P hK => by
    intro Bv Γ σ H vs ws Qd Q n r h k
    obtain ⟨w, d, l, rfl, h1, h2, h⟩ := h
    obtain ⟨v, rfl, rr⟩ := r.one
    rw [← hK]
    obtain ⟨a, us, rfl, hs, hr⟩ := n.seq rr h1 h2
    exact ⟨a, us, rfl, hs, fun q hq => n.newL hr (Ex.refl _) h k hq⟩) hg hm (by decide +kernel) ha (by decide) (by decide) he
/-! sum of a list or tuple of ints -/
section
variable {prog : Program} {w : World} {A : Around} {Ex0 : Value → Shared → Prop} {s : Shared} {l : Addr} {its : List Value} {ns : List Int} {Q : Value → Shared → Prop}
theorem sumT_raw (hh : A.handled = none) (hl : s.heap.IsTuple l its.toArray) (hi : IntsAre its ns)
    (h : ∀ h' tk t', (∀ b o, s.heap.get? b = some o → h'.get? b = some o) → Q (.int ns.sum t') { s with heap := h', toks := tk }) : wpAny (model prog w) A (call (.builtin "sum") [.ref l]) Q Ex0 s := by
  obtain ⟨xs, e⟩ := hi.allInts.items
  have hn : numsOf (intItems xs).toList = ns := by rw [← e]; exact hi.numsOf
  rw [nums_intItems] at hn
  rw [e] at hl
  have lt : l < s.heap.objs.size := by obtain ⟨_, z, _⟩ := hl; exact Heap.lt_size z
  refine call_sum_walkG (wpAny_pyIter_tuple hl ?_)
  refine ⟨s.heap.objs.size, [s.heap.objs.size, l], [s.heap.objs.size], (intItems xs).size, _, _, numAt xs, rfl, Walks.tuple (A := A.in1) hh _ l (Nat.ne_of_lt lt) (intItems xs), ⟨⟨_, Heap.get?_push_size _ rfl, rfl, rfl⟩, hl.push _⟩, fun b hb => ?_, (fun _ _ => intItems_at), fun h' tk t' hk => ?_⟩
  · show b < (s.heap.push _).objs.size
    rw [Heap.size_push]
    rcases List.mem_cons.mp hb with z | hb
    · rw [z]; exact Nat.lt_succ_self _
    · rcases List.mem_cons.mp hb with z | hb
      · rw [z]; exact Nat.lt_succ_of_lt lt
      · cases hb
  · have := h h' tk t' fun b o z => hk b o (fun hm => by
      rcases List.mem_cons.mp hm with e1 | hm
      · exact absurd (e1 ▸ Heap.lt_size z) (Nat.lt_irrefl _)
      · cases hm) (Heap.get?_push_of_some _ z)
    rw [preSum_eq, List.take_of_length_le (by simp [intItems]), hn]
    exact this
end
def rSumA (K : PySem.W.Frag) : List V → Hp → VK → Prop := fun vs H Q => ∃ (a : Addr) (ns : List Int), vs = [V.ref a] ∧ (SqL K H a (ns.map V.int) ∨ SqT K H a (ns.map V.int)) ∧ Q (.int ns.sum) H
theorem cr_sumA {X : Cx} (hc : X.calm = true) : CallR X (.builtin "sum") (rSumA X.K) := by
  intro pins s σ H vs us Q I r h
  obtain ⟨a, ns, rfl, hs, q⟩ := h
  rcases hs with hs | hs
  · exact cr_sum hc pins s σ H _ us Q I r ⟨a, ns, rfl, hs, q⟩
  · obtain ⟨its, rv, ht, _⟩ := I.tuple hs
    rw [Vals.ref1 r]
    exact sumT_raw (I.ok.hd hc) ht (RZ.intsAre_vals rv) fun h' tk t' hk => ⟨.int ns.sum, H, I.kept (t' := tk) hk, ⟨t', rfl⟩, q⟩
def rdSum : D1 := fun Γ ws Q => ∃ (w : Wv) (d : D) (ns : List Int), ws = [w] ∧ asD Γ w = some d ∧ itemsOf d = some (ns.map D.int) ∧ Q (.dat (.int ns.sum)) Γ
theorem pd_sum (hc : ∀ j, (F.X j).calm = true := by intro _; rfl) (hg : ∀ j, Gl (F.X j) "sum") (hm : ∀ j, (F.X j).mg "sum" = none) (ha : PDA F E [a] R) (he : ∀ j, starEach [a] (F.X j).env = (false, eval a (F.X j).env) :: starEach [] (F.X j).env := by intro _; rfl) : PD F E (.Call (.Name "sum" p) [a] [] pos) (dCB rdSum R) :=
  pd_callB (fun j => F.k j ▸ cr_sumA (hc j)) (fun P hK => by
    intro Bv Γ σ H vs ws Qd Q n r h k
    obtain ⟨w, d, ns, rfl, h1, h2, h⟩ := h
    obtain ⟨v, rfl, rr⟩ := r.one
    rw [← hK]
    obtain ⟨a, us, rfl, hs, hr⟩ := n.seq rr h1 h2
    rw [hr.ints_of] at hs
    exact ⟨a, ns, rfl, hs, finD k (Ex.refl _) n (.int _) h⟩) hg hm (by decide +kernel) ha (by decide) (by decide) he

/-! ### an item -/
def rdIx : D2 := fun Γ x y Q => ∃ d l i e, asD Γ x = some d ∧ itemsOf d = some l ∧ y = .dat (.int i) ∧ atI l i = some e ∧ Q (.dat e) Γ
theorem RpL.at_ {K : PySem.W.Frag} {H : Hp} {vs : List V} {l : List D} {i : Int} {e : D} (h : RpL K H vs l) (q : atI l i = some e) : ∃ v, atI vs i = some v ∧ Rp K H v e := by
  unfold atI at q ⊢
  rw [h.len]
  cases z : ixN l.length i with
  | none => rw [z] at q; cases q
  | some j =>
    rw [z] at q
    exact h.getD q
theorem pd_ix (ha : PD F E a A) (hb : PD F E b B) (hs : PlainIx b := by exact fun _ _ => rfl) : PD F E (.Subscript a b pos) (dOp rdIx A B) :=
  let ⟨_, pa, la⟩ := ha; let ⟨_, pb, lb⟩ := hb
  ⟨_, fun j => F.k j ▸ pe_ix ix_seq (pa j) (pb j) hs, fun P hK hE => by
    refine le_op (fun Bv Γ σ H x y wx wy Qd Q n rx ry h k => ?_) (la P hK hE) (lb P hK hE)
    obtain ⟨d, l, i, e, h1, h2, rfl, h3, h⟩ := h
    cases ry
    obtain ⟨a, us, rfl, hs, hr⟩ := n.seq rx h1 h2
    obtain ⟨v, h4, h5⟩ := hr.at_ h3
    rw [← hK]
    rcases hs with hs | hs
    · exact .inl ⟨a, us, i, v, rfl, rfl, hs, h4, finD k (Ex.refl _) n h5 h⟩
    · exact .inr (.inl ⟨a, us, i, v, rfl, rfl, hs, h4, finD k (Ex.refl _) n h5 h⟩)⟩
end
end DL

set_option Elab.async false
set_option linter.all false
set_option maxRecDepth 100000
set_option maxHeartbeats 4000000
namespace DL
open PySem PySem.Spec PyProof.Rows L2


abbrev no : Xd := fun _ _ => False
/-! ### statements -/
structure EndsOk (P : Par) (Bv : Hp) (Dd : DEnds) (D : Ends) : Prop where
  nx : ∀ (Γ' : Gm) (σ' : L2.St) (H' Bv' : Hp), Ex Bv Bv' → En P Bv' Γ' σ' H' → Dd.nx Γ' → D.nx σ' H'
  rt : ∀ (d : DL.D) (Γ' : Gm) (σ' : L2.St) (v : V) (H' Bv' : Hp), Ex Bv Bv' → En P Bv' Γ' σ' H' → Rp P.K Bv' v d → Dd.rt d Γ' → D.rt v H'
  bk : ∀ (Γ' : Gm) (σ' : L2.St) (H' Bv' : Hp), Ex Bv Bv' → En P Bv' Γ' σ' H' → Dd.bk Γ' → D.bk σ' H'
  ct : ∀ (Γ' : Gm) (σ' : L2.St) (H' Bv' : Hp), Ex Bv Bv' → En P Bv' Γ' σ' H' → Dd.ct Γ' → D.ct σ' H'
theorem EndsOk.mono {P : Par} {Bv Bv' : Hp} {Dd : DEnds} {D : Ends} (e : Ex Bv Bv') (k : EndsOk P Bv Dd D) : EndsOk P Bv' Dd D :=
  ⟨fun Γ σ H B x => k.nx Γ σ H B (e.trans x), fun d Γ σ v H B x => k.rt d Γ σ v H B (e.trans x), fun Γ σ H B x => k.bk Γ σ H B (e.trans x), fun Γ σ H B x => k.ct Γ σ H B (e.trans x)⟩
def LS (P : Par) (t : TS) (T : DS) : Prop := ∀ (Bv : Hp) (Γ : Gm) (σ : L2.St) (H : Hp) (Dd : DEnds) (D : Ends), En P Bv Γ σ H → T P.Ed Dd Γ → EndsOk P Bv Dd D → t D σ H
def PDS (F : Fam) (E : XK) (st : Stmt) (T : DS) : Prop := ∃ t, (∀ j, PS (F.X j) st t) ∧ ∀ P : Par, P.K = F.K → P.E = E ∧ P.ts = F.ts → LS P t T
def PDSs (F : Fam) (E : XK) (st : List Stmt) (T : DS) : Prop := ∃ t, (∀ j, PSs (F.X j) st t) ∧ ∀ P : Par, P.K = F.K → P.E = E ∧ P.ts = F.ts → LS P t T
section
variable {F : Fam} {E : XK} {e a b c : Expr} {es : List Expr} {A B : DE} {R : DA} {pos p : Pos} {st : Stmt} {rest : List Stmt} {T U : DS}
def dNext : DS := fun _ D Γ => D.nx Γ
def dSeq (T U : DS) : DS := fun xd D Γ => T xd { D with nx := U xd D } Γ
def dBreak : DS := fun _ D Γ => D.bk Γ
def dCont : DS := fun _ D Γ => D.ct Γ
theorem pds_nil : PDSs F E [] dNext := ⟨_, fun j => pss_nil, fun P hK hE Bv Γ σ H Dd D n h k => k.nx Γ σ H Bv (Ex.refl _) n h⟩
theorem pds_cons (h1 : PDS F E st T) (h2 : PDSs F E rest U) : PDSs F E (st :: rest) (dSeq T U) :=
  let ⟨_, p1, l1⟩ := h1; let ⟨_, p2, l2⟩ := h2
  ⟨_, fun j => pss_cons (p1 j) (p2 j), fun P hK hE Bv Γ σ H Dd D n h k => l1 P hK hE Bv Γ σ H _ _ n h ⟨fun Γ' σ' H' B' e n' q => l2 P hK hE B' Γ' σ' H' Dd D n' q (k.mono e), k.rt, k.bk, k.ct⟩⟩
theorem pds_one (h1 : PDS F E st T) : PDSs F E [st] T := let ⟨_, p1, l1⟩ := h1; ⟨_, fun j => pss_one (p1 j), l1⟩
theorem pds_never : PDSs F E rest (fun _ _ _ => False) := ⟨_, fun j => pss_never, fun P hK hE Bv Γ σ H Dd D n h k => h.elim⟩
theorem pd_s_never : PDS F E st (fun _ _ _ => False) := ⟨_, fun j => ps_never, fun P hK hE Bv Γ σ H Dd D n h k => h.elim⟩
theorem pd_pass : PDS F E (.Pass pos) dNext := ⟨_, fun j => ps_pass, fun P hK hE Bv Γ σ H Dd D n h k => k.nx Γ σ H Bv (Ex.refl _) n h⟩
theorem pd_break : PDS F E (.Break pos) dBreak := ⟨_, fun j => ps_break, fun P hK hE Bv Γ σ H Dd D n h k => k.bk Γ σ H Bv (Ex.refl _) n h⟩
theorem pd_continue : PDS F E (.Continue pos) dCont := ⟨_, fun j => ps_continue, fun P hK hE Bv Γ σ H Dd D n h k => k.ct Γ σ H Bv (Ex.refl _) n h⟩
def dRet (A : DE) : DS := fun xd D Γ => A xd Γ fun w Γ1 => ∃ d Γ2, fix Γ1 w = some (d, Γ2) ∧ D.rt d Γ2
theorem pd_ret (h : PD F E e A) : PDS F E (.Return (some e) pos) (dRet A) :=
  let ⟨_, p, l⟩ := h
  ⟨_, fun j => ps_ret (p j), fun P hK hE Bv Γ σ H Dd D n h k => l P hK hE Bv Γ σ H _ _ n h fun w Γ1 v H1 B1 e1 n1 r1 h1 => by
    obtain ⟨d, Γ2, f, h1⟩ := h1
    obtain ⟨B2, e2, n2, r2⟩ := n1.fixed r1 f
    exact k.rt d Γ2 σ v H1 B2 (e1.trans e2) n2 r2 h1⟩
def dRetN : DS := fun _ D Γ => D.rt .non Γ
theorem pd_retN : PDS F E (.Return none pos) dRetN := ⟨_, fun j => ps_retN, fun P hK hE Bv Γ σ H Dd D n h k => k.rt .non Γ σ .non H Bv (Ex.refl _) n .non h⟩
/-- return of a new list, of a lent or own list told as data -/
def dIfS (t : DT) (T U : DS) : DS := fun xd D Γ => t xd Γ fun q Γ1 => if q = true then T xd D Γ1 else U xd D Γ1
theorem pd_if {t : DT} {s1 s2 : List Stmt} (hc : PDT F E c t) (h1 : PDSs F E s1 T) (h2 : PDSs F E s2 U) : PDS F E (.If c s1 s2 pos) (dIfS t T U) := by
  obtain ⟨_, p, l⟩ := hc
  obtain ⟨_, p1, l1⟩ := h1
  obtain ⟨_, p2, l2⟩ := h2
  refine ⟨_, fun j => ps_if (p j) (p1 j) (p2 j), fun P hK hE Bv Γ σ H Dd D n h k => l P hK hE Bv Γ σ H _ _ n h fun q Γ1 H1 B1 e1 n1 h1 => ?_⟩
  cases q with
  | true => exact l1 P hK hE B1 Γ1 σ H1 Dd D n1 h1 (k.mono e1)
  | false => exact l2 P hK hE B1 Γ1 σ H1 Dd D n1 h1 (k.mono e1)
def dExpr (A : DE) : DS := fun xd D Γ => A xd Γ fun _ Γ1 => D.nx Γ1
theorem pd_expr (h : PD F E e A) (hs : ∀ j, swapsWith e none pos.line (F.X j).env = pure false := by intro _; rfl) : PDS F E (.Expr e pos) (dExpr A) :=
  let ⟨_, p, l⟩ := h
  ⟨_, fun j => ps_expr (p j) (hs j), fun P hK hE Bv Γ σ H Dd D n h k => l P hK hE Bv Γ σ H _ _ n h fun w Γ1 v H1 B1 e1 n1 r1 h1 => k.nx Γ1 σ H1 B1 e1 n1 h1⟩
/-- x = e -/
def dAsg (i : Nat) (A : DE) : DS := fun xd D Γ => A xd Γ fun w Γ1 => ∃ d Γ2, fix Γ1 w = some (d, Γ2) ∧ notOwn Γ2 i = true ∧ D.nx (Γ2.set i (.dat d))
theorem ls_asg {P : Par} {te : TE} {i : Nat} (l : LE P te A) : LS P (tAsg te (gName i)) (dAsg i A) := fun Bv Γ σ H Dd D n h k =>
  l Bv Γ σ H _ _ n h fun w Γ1 v H1 B1 e1 n1 r1 h1 => by
    obtain ⟨d, Γ2, f, hi, h1⟩ := h1
    obtain ⟨B2, e2, n2, r2⟩ := n1.fixed r1 f
    exact k.nx _ _ H1 B2 (e1.trans e2) (n2.put hi r2) h1
theorem pd_asg (i : Nat) {x : Str} {pos' : Pos} (hN : ∀ j, (F.X j).N.Nodup) (he : PD F E e A) (hi : ∀ j, (F.X j).N[i]? = some x := by intro _; rfl) (hx : ∀ j, Loc (F.X j).env.scope x := by first | exact fun _ => .inl rfl | exact fun _ => .inr rfl) (hs : ∀ j, swapsWith e (some (.Name x pos')) pos.line (F.X j).env = pure false := by intro _; rfl)
    (hf : ∀ j, (F.X j).fn x = true ∨ (F.X j).env.scope.names.lookup x = some .local := by first | exact fun _ => .inl rfl | exact fun _ => .inr rfl | assumption) : PDS F E (.Assign [.Name x pos'] e pos) (dAsg i A) :=
  let ⟨_, p, l⟩ := he
  ⟨_, fun j => ps_set (hN j) (hi j) (hx j) (p j) (hs j) (hf j), fun P hK hE => ls_asg (l P hK hE)⟩
/-- x = a new list, x's own -/
def dAsgO (i : Nat) (A : DO) : DS := fun xd D Γ => A xd Γ fun l Γ1 => notOwn Γ1 i = true ∧ D.nx (Γ1.set i (.own false l))
theorem ls_asgO {P : Par} {te : TE} {i : Nat} {A : DO} (l : LO P te A) : LS P (tAsg te (gName i)) (dAsgO i A) := fun Bv Γ σ H Dd D n h k =>
  l Bv Γ σ H _ _ n h fun l Γ1 p vs H1 B1 e1 n1 z h1 => k.nx _ _ H1 B1 e1 (n1.putOwn h1.1 z.at_ z.bv z.f z.rp z.no z.nh) h1.2
theorem pd_asgO (i : Nat) {x : Str} {pos' : Pos} {A : DO} (hN : ∀ j, (F.X j).N.Nodup) (he : PDO F E e A) (hi : ∀ j, (F.X j).N[i]? = some x := by intro _; rfl) (hx : ∀ j, Loc (F.X j).env.scope x := by first | exact fun _ => .inl rfl | exact fun _ => .inr rfl) (hs : ∀ j, swapsWith e (some (.Name x pos')) pos.line (F.X j).env = pure false := by intro _; rfl)
    (hf : ∀ j, (F.X j).fn x = true ∨ (F.X j).env.scope.names.lookup x = some .local := by first | exact fun _ => .inl rfl | exact fun _ => .inr rfl | assumption) : PDS F E (.Assign [.Name x pos'] e pos) (dAsgO i A) :=
  let ⟨_, p, l⟩ := he
  ⟨_, fun j => ps_set (hN j) (hi j) (hx j) (p j) (hs j) (hf j), fun P hK hE => ls_asgO (l P hK hE)⟩
/-- x op= e, ints -/
def dAug (i : Nat) (f : Int → Int → Int) (A : DE) : DS := fun xd D Γ => ∃ u, Γ[i]? = some (.dat (.int u)) ∧ A xd Γ fun w Γ1 => ∃ j, w = .dat (.int j) ∧ notOwn Γ1 i = true ∧ D.nx (Γ1.set i (.dat (.int (f u j))))
theorem ls_aug {P : Par} {te : TE} {i : Nat} {f : Int → Int → Int} (l : LE P te A) : LS P (tAug i te (ipI f)) (dAug i f A) := fun Bv Γ σ H Dd D n h k => by
  obtain ⟨u, hu, h⟩ := h
  obtain ⟨v, h1, h2⟩ := n.dat i _ hu
  cases h2
  refine ⟨.int u, h1, l Bv Γ σ H _ _ n h fun w Γ1 v H1 B1 e1 n1 r1 h1 => ?_⟩
  obtain ⟨j, rfl, hi, h1⟩ := h1
  cases r1
  exact ⟨u, j, rfl, rfl, k.nx _ _ H1 B1 e1 (n1.put hi (.int _)) h1⟩
theorem pd_augSub (i : Nat) {x : Str} {pos' : Pos} (hN : ∀ j, (F.X j).N.Nodup) (he : PD F E e A) (hi : ∀ j, (F.X j).N[i]? = some x := by intro _; rfl) (hx : ∀ j, Loc (F.X j).env.scope x := by first | exact fun _ => .inl rfl | exact fun _ => .inr rfl)
    (hf : ∀ j, (F.X j).fn x = true ∨ (F.X j).env.scope.names.lookup x = some .local := by first | exact fun _ => .inl rfl | exact fun _ => .inr rfl | assumption) : PDS F E (.AugAssign (.Name x pos') .Sub e pos) (dAug i (fun a b => a - b) A) :=
  let ⟨_, p, l⟩ := he
  ⟨_, fun j => ps_aug (hN j) (hi j) (hx j) (p j) ip_sub (hf j), fun P hK hE => ls_aug (l P hK hE)⟩
theorem pd_augAdd (i : Nat) {x : Str} {pos' : Pos} (hN : ∀ j, (F.X j).N.Nodup) (he : PD F E e A) (hi : ∀ j, (F.X j).N[i]? = some x := by intro _; rfl) (hx : ∀ j, Loc (F.X j).env.scope x := by first | exact fun _ => .inl rfl | exact fun _ => .inr rfl)
    (hf : ∀ j, (F.X j).fn x = true ∨ (F.X j).env.scope.names.lookup x = some .local := by first | exact fun _ => .inl rfl | exact fun _ => .inr rfl | assumption) : PDS F E (.AugAssign (.Name x pos') .Add e pos) (dAug i (fun a b => a + b) A) :=
  let ⟨_, p, l⟩ := he
  ⟨_, fun j => ps_aug (hN j) (hi j) (hx j) (p j) ip_add (hf j), fun P hK hE => ls_aug (l P hK hE)⟩
/-- x[k] = e, x a list of its own -/
def dSetIx (i : Nat) (A B : DE) : DS := fun xd D Γ => A xd Γ fun w Γ1 => ∃ d Γ2, fix Γ1 w = some (d, Γ2) ∧ dVar i xd Γ2 fun u Γ3 => u = .slot i ∧ B xd Γ3 fun wk Γ4 => ∃ k p l j, wk = .dat (.int k) ∧ Γ4[i]? = some (.own p l) ∧ ixN l.length k = some j ∧ D.nx (Γ4.set i (.own p (l.set j d)))
theorem pd_setIx (i : Nat) {x : Str} {px pt : Pos} (he : PD F E e A) (hb : PD F E b B) (hN : ∀ j, (F.X j).N[i]? = some x := by intro _; rfl) (hv : ∀ j, Vis (F.X j).env.scope x := by first | exact fun _ => Or.inl rfl | exact fun _ => Or.inr (Or.inl rfl) | exact fun _ => Or.inr (Or.inr rfl)) (hd : (x == ("__debug__" : Str)) = false := by decide)
    (hcd : (x == ("__classdict__" : Str)) = false := by decide)
    (hs : ∀ j, swapsWithSole [.Subscript (.Name x px) b pt] e pos.line (F.X j).env = pure false := by intro _; rfl) (hw : ∀ j, swappedStores [.Subscript (.Name x px) b pt] e (F.X j).env = pure none := by intro _; rfl) (h1 : ∀ j, (assignEach [.Subscript (.Name x px) b pt] (F.X j).env).map (·.2) = [assign (.Subscript (.Name x px) b pt) (F.X j).env] := by intro _; rfl)
    (hass : ∀ j v, assign (.Subscript (.Name x px) b pt) (F.X j).env v = (do
      let ov ← holding [v] (eval (.Name x px) (F.X j).env)
      let iv ← holding [v, ov] (eval b (F.X j).env)
      standAt pt
      holding [v, ov, iv] (setItem ov iv v)
      release [v, ov, iv] []) := by intro _ _; rfl) : PDS F E (.Assign [.Subscript (.Name x px) b pt] e pos) (dSetIx i A B) :=
  let ⟨_, pe, le⟩ := he; let ⟨_, pb, lb⟩ := hb
  ⟨_, fun j => ps_asg (pe j) (pg_sub (pe_var (hN j) (hv j) hd hcd) (pb j) set_list (hass j)) (hs j) (hw j) (h1 j), fun P hK hE Bv Γ σ H Dd D n h k => le P hK hE Bv Γ σ H _ _ n h fun w Γ1 v H1 B1 e1 n1 r1 h1 => by
    obtain ⟨d, Γ2, f, h1⟩ := h1
    obtain ⟨B2, e2, n2, r2⟩ := n1.fixed r1 f
    refine le_var B2 Γ2 σ H1 _ _ n2 h1 fun u Γ3 o H3 B3 e3 n3 r3 h3 => ?_
    obtain ⟨rfl, h3⟩ := h3
    refine lb P hK hE B3 Γ3 σ H3 _ _ n3 h3 fun wk Γ4 vk H4 B4 e4 n4 r4 h4 => ?_
    obtain ⟨kk, q, l, j, rfl, hl, hj, h4⟩ := h4
    cases r4
    obtain ⟨a', vs, g1, g2, g3, g4, g5⟩ := n4.own i q l hl
    have g1' : σ[i]? = some (some o) := r3
    rw [g1] at g1'
    cases g1'
    exact ⟨a', vs, kk, j, rfl, rfl, g2, by rw [g3.len]; exact hj, k.nx _ σ _ B4 (((e1.trans e2).trans e3).trans e4) (n4.write hl g1 (g3.setAt (r2.mono (e3.trans e4)) j)) h4⟩⟩
/-- x.append(e), x a list of its own -/
def dApp (i : Nat) (A : DE) : DS := fun xd D Γ => (∃ p l, Γ[i]? = some (.own p l)) ∧ A xd Γ fun w Γ1 => ∃ d Γ2 p l, fix Γ1 w = some (d, Γ2) ∧ Γ2[i]? = some (.own p l) ∧ l.length < 100000 ∧ D.nx (Γ2.set i (.own p (l ++ [d])))
theorem pd_app (i : Nat) {x : Str} {px pa pc : Pos} (he : PD F E e A) (hN : ∀ j, (F.X j).N[i]? = some x := by intro _; rfl) (hv : ∀ j, Vis (F.X j).env.scope x := by first | exact fun _ => Or.inl rfl | exact fun _ => Or.inr (Or.inl rfl) | exact fun _ => Or.inr (Or.inr rfl)) (hd : (x == ("__debug__" : Str)) = false := by decide)
    (hcd : (x == ("__classdict__" : Str)) = false := by decide) (hst : ∀ j, starEach [e] (F.X j).env = (false, eval e (F.X j).env) :: starEach [] (F.X j).env := by intro _; rfl)
    (hbase : ∀ j, attributeBase (.Name x px) "append" (F.X j).env (eval (.Name x px) (F.X j).env) = eval (.Name x px) (F.X j).env := by intro _; rfl) (hline : (pa.endLine == pc.line) = true := by rfl)
    (hfew : ∀ j, ((((backTo pc (starEach [e] (F.X j).env)).all fun x => !x.fst) && (backToKw pc (keywordEach [] (F.X j).env)).all fun x => x.fst.isSome) && decide (([e].length + ([] : List Keyword).length + if ([] : List Keyword).isEmpty = true then 0 else 1) < 30)) = true := by intro _; rfl)
    (hs : ∀ j, swapsWith (.Call (.Attribute (.Name x px) "append" pa) [e] [] pc) none pos.line (F.X j).env = pure false := by intro _; rfl) : PDS F E (.Expr (.Call (.Attribute (.Name x px) "append" pa) [e] [] pc) pos) (dApp i A) :=
  let ⟨_, pe, le⟩ := he
  ⟨tDrop (tBM F.K "list" rAppend (tVar i) (tCons _ tNil)), fun j => F.k j ▸ ps_expr (pe_bm PySem.F.plainAttrs_list PySem.F.slot_list_append PySem.F.type_list_append mt_append (pe_var (hN j) (hv j) hd hcd) (pa_cons (pe j) pa_nil (hst j)) (hbase j) (hfew j) hline (hst j)) (hs j), fun P hK hE Bv Γ σ H Dd D n h k => by
    obtain ⟨⟨p0, l0, h0⟩, h⟩ := h
    obtain ⟨a, vs0, g1, g2, _⟩ := n.own i p0 l0 h0
    refine ⟨.ref a, g1, .inl ⟨rfl, vs0, .inl (.inl g2)⟩, ?_⟩
    refine le P hK hE Bv Γ σ H _ _ n h fun w Γ1 v H1 B1 e1 n1 r1 h1 => ?_
    obtain ⟨d, Γ2, p, l, f, hl, hz, h1⟩ := h1
    obtain ⟨B2, e2, n2, r2⟩ := n1.fixed r1 f
    obtain ⟨a', vs, g1', g2', g3, g4, g5⟩ := n2.own i p l hl
    rw [g1] at g1'
    cases g1'
    exact ⟨a, vs, v, rfl, rfl, g2', by rw [g3.len]; exact Evl.sz_lt hz, k.nx _ σ _ B2 (e1.trans e2) (n2.write hl g1 (g3.app (.one r2))) h1⟩⟩
end
end DL

set_option Elab.async false
set_option linter.all false
set_option maxRecDepth 100000
set_option maxHeartbeats 4000000
namespace DL
open PySem PySem.Spec PyProof.Rows L2


/-! ### what is walked, as data -/
/-- while what is known stands, the items come one by one, new ones seen -/
structure ItD (K : PySem.W.Frag) (J : It) (B0 : Hp) (xs : List D) : Prop where
  go : ∀ (B H : Hp), Ex B0 B → Ex B H → ∀ i, i < xs.length → J.go i H
  stop : ∀ (B H : Hp), Ex B0 B → Ex B H → J.stop xs.length H
  yld : ∀ (B H : Hp), Ex B0 B → Ex B H → ∀ (i : Nat) (x : V) (H' : Hp), i < xs.length → J.yld i H x H' → ∃ (B' : Hp) (d : D), xs[i]? = some d ∧ Grow B H B' H' ∧ Rp K B' x d
abbrev DI := Xd → Gm → (List D → Gm → Prop) → Prop
def LI (P : Par) (wi : TI) (T : DI) : Prop := ∀ (Bv : Hp) (Γ : Gm) (σ : L2.St) (H : Hp) (Rd : List D → Gm → Prop) (R : It → Hp → Prop), En P Bv Γ σ H → T P.Ed Γ Rd →
  (∀ (xs : List D) (Γ' : Gm) (J : It) (H' Bv' : Hp), Ex Bv Bv' → En P Bv' Γ' σ H' → ItD P.K J Bv' xs → Rd xs Γ' → R J H') → wi σ H R
def PDI (F : Fam) (E : XK) (tg iter : Expr) (T : DI) : Prop := ∃ wi, (∀ j, PI (F.X j) tg iter wi) ∧ ∀ P : Par, P.K = F.K → P.E = E ∧ P.ts = F.ts → LI P wi T
theorem itd_list {K : PySem.W.Frag} {a : Addr} {B0 : Hp} {vs : List V} {l : List D} (h : SqL K B0 a vs) (r : RpL K B0 vs l) : ItD K (Itl K a) B0 l where
  go := fun B H e1 e2 i hi => by
    rw [← r.len] at hi
    exact ⟨vs, vs[i], ex_l (e1.trans e2) h, by simp [hi]⟩
  stop := fun B H e1 e2 => ⟨vs, ex_l (e1.trans e2) h, by rw [r.len]; exact Nat.le_refl _⟩
  yld := fun B H e1 e2 i x H' hi y => by
    obtain ⟨rfl, y⟩ := y
    obtain ⟨d, h1, h2⟩ := r.get (y vs (ex_l (e1.trans e2) h))
    exact ⟨B, d, h1, Grow.refl e2, h2.mono e1⟩
theorem itd_tup {K : PySem.W.Frag} {a : Addr} {B0 : Hp} {vs : List V} {l : List D} (h : SqT K B0 a vs) (r : RpL K B0 vs l) : ItD K (Itt K a) B0 l where
  go := fun B H e1 e2 i hi => by
    rw [← r.len] at hi
    exact ⟨vs, vs[i], ex_t (e1.trans e2) h, by simp [hi]⟩
  stop := fun B H e1 e2 => ⟨vs, ex_t (e1.trans e2) h, by rw [r.len]; exact Nat.le_refl _⟩
  yld := fun B H e1 e2 i x H' hi y => by
    obtain ⟨rfl, y⟩ := y
    obtain ⟨d, h1, h2⟩ := r.get (y vs (ex_t (e1.trans e2) h))
    exact ⟨B, d, h1, Grow.refl e2, h2.mono e1⟩
def rangeD (lo : Int) (n : Nat) : List D := (List.range n).map fun (i : Nat) => D.int (lo + (i : Int))
theorem rangeD_len (lo : Int) (n : Nat) : (rangeD lo n).length = n := by simp [rangeD]
theorem itd_range {K : PySem.W.Frag} {B0 : Hp} {lo : Int} {n : Nat} : ItD K (Itr lo n) B0 (rangeD lo n) where
  go := fun B H e1 e2 i hi => by rw [rangeD_len] at hi; exact hi
  stop := fun B H e1 e2 => by rw [rangeD_len]; exact Nat.le_refl _
  yld := fun B H e1 e2 i x H' hi y => by
    obtain ⟨rfl, rfl⟩ := y
    rw [rangeD_len] at hi
    exact ⟨B, .int (lo + i), by simp [rangeD, hi], Grow.refl e2, .int _⟩
def pairD (a b : D) : D := .tup [a, b]
def zipD (l m : List D) : List D := List.zipWith pairD l m
theorem zipD_len (l m : List D) : (zipD l m).length = min l.length m.length := by simp [zipD]
theorem pair_yld {K : PySem.W.Frag} {B H : Hp} {T : Addr} {x y : V} {d e : D} (e2 : Ex B H) (hT : H T = none) (h1 : Rp K B x d) (h2 : Rp K B y e) : Grow B H (upd B T (.tup [x, y])) (upd H T (.tup [x, y])) ∧ Rp K (upd B T (.tup [x, y])) (.ref T) (pairD d e) := by
  have g : Grow B H (upd B T (.tup [x, y])) (upd H T (.tup [x, y])) := Grow.one e2 hT
  exact ⟨g, .tup (.inl (.inl upd_same)) (.cons (h1.mono g.vis) (.cons (h2.mono g.vis) .nil))⟩
theorem itd_zipL {K : PySem.W.Frag} {a b : Addr} {B0 : Hp} {vs ws : List V} {l m : List D} (h : SqL K B0 a vs) (r : RpL K B0 vs l) (h' : SqL K B0 b ws) (r' : RpL K B0 ws m) : ItD K (Itz K a b) B0 (zipD l m) where
  go := fun B H e1 e2 i hi => by
    rw [zipD_len, ← r.len, ← r'.len] at hi
    exact ⟨vs, ws, vs[i], ws[i], ex_l (e1.trans e2) h, ex_l (e1.trans e2) h', by simp [show i < vs.length by omega], by simp [show i < ws.length by omega]⟩
  stop := fun B H e1 e2 => ⟨vs, ws, ex_l (e1.trans e2) h, ex_l (e1.trans e2) h', by rw [zipD_len, r.len, r'.len]; omega⟩
  yld := fun B H e1 e2 i x H' hi y => by
    obtain ⟨T, x1, y1, rfl, hT, rfl, f1, f2⟩ := y
    obtain ⟨d, g1, g2⟩ := r.get (f1 vs (ex_l (e1.trans e2) h))
    obtain ⟨e, g3, g4⟩ := r'.get (f2 ws (ex_l (e1.trans e2) h'))
    obtain ⟨g, q⟩ := pair_yld e2 hT (g2.mono e1) (g4.mono e1)
    exact ⟨_, pairD d e, by simp [zipD, List.getElem?_zipWith, g1, g3], g, q⟩
theorem itd_zipT {K : PySem.W.Frag} {a b : Addr} {B0 : Hp} {vs ws : List V} {l m : List D} (h : SqT K B0 a vs) (r : RpL K B0 vs l) (h' : SqT K B0 b ws) (r' : RpL K B0 ws m) : ItD K (RZ.ItzT K a b) B0 (zipD l m) where
  go := fun B H e1 e2 i hi => by
    rw [zipD_len, ← r.len, ← r'.len] at hi
    exact ⟨vs, ws, vs[i], ws[i], ex_t (e1.trans e2) h, ex_t (e1.trans e2) h', by simp [show i < vs.length by omega], by simp [show i < ws.length by omega]⟩
  stop := fun B H e1 e2 => ⟨vs, ws, ex_t (e1.trans e2) h, ex_t (e1.trans e2) h', by rw [zipD_len, r.len, r'.len]; omega⟩
  yld := fun B H e1 e2 i x H' hi y => by
    obtain ⟨T, x1, y1, rfl, hT, rfl, f1, f2⟩ := y
    obtain ⟨d, g1, g2⟩ := r.get (f1 vs (ex_t (e1.trans e2) h))
    obtain ⟨e, g3, g4⟩ := r'.get (f2 ws (ex_t (e1.trans e2) h'))
    obtain ⟨g, q⟩ := pair_yld e2 hT (g2.mono e1) (g4.mono e1)
    exact ⟨_, pairD d e, by simp [zipD, List.getElem?_zipWith, g1, g3], g, q⟩
section
variable {F : Fam} {E : XK} {e a b c tg : Expr} {es : List Expr} {A B : DE} {R : DA} {pos p : Pos}
def dItL (A : DE) : DI := fun xd Γ Rd => A xd Γ fun w Γ1 => ∃ l Γ2, fix Γ1 w = some (.lst l, Γ2) ∧ Rd l Γ2
def dItT (A : DE) : DI := fun xd Γ Rd => A xd Γ fun w Γ1 => ∃ l Γ2, fix Γ1 w = some (.tup l, Γ2) ∧ Rd l Γ2
theorem pdi_list (h : PD F E a A) : PDI F E tg a (dItL A) :=
  let ⟨_, p, l⟩ := h
  ⟨iList F.K _, fun j => F.k j ▸ pi_list (p j), fun P hK hE Bv Γ σ H Rd R n h k => l P hK hE Bv Γ σ H _ _ n h fun w Γ1 v H1 B1 e1 n1 r1 h1 => by
    obtain ⟨l, Γ2, f, h1⟩ := h1
    obtain ⟨B2, e2, n2, r2⟩ := n1.fixed r1 f
    cases r2 with
    | lst hs hr =>
      rename_i a' vs
      rw [hK] at hs hr
      refine ⟨a', rfl, ⟨vs, ex_l n2.sub hs⟩, ?_⟩
      exact k l Γ2 _ H1 B2 (e1.trans e2) n2 (by rw [hK]; exact itd_list hs hr) h1⟩
theorem pdi_tup (h : PD F E a A) : PDI F E tg a (dItT A) :=
  let ⟨_, p, l⟩ := h
  ⟨iTup F.K _, fun j => F.k j ▸ pi_tup (p j), fun P hK hE Bv Γ σ H Rd R n h k => l P hK hE Bv Γ σ H _ _ n h fun w Γ1 v H1 B1 e1 n1 r1 h1 => by
    obtain ⟨l, Γ2, f, h1⟩ := h1
    obtain ⟨B2, e2, n2, r2⟩ := n1.fixed r1 f
    cases r2 with
    | tup hs hr =>
      rename_i a' vs
      rw [hK] at hs hr
      refine ⟨a', rfl, ⟨vs, ex_t n2.sub hs⟩, ?_⟩
      exact k l Γ2 _ H1 B2 (e1.trans e2) n2 (by rw [hK]; exact itd_tup hs hr) h1⟩
def dRng1 (R : DA) : DI := fun xd Γ Rd => R xd Γ fun ws Γ1 => ∃ j : Int, ws = [.dat (.int j)] ∧ -(2 ^ 62) ≤ j ∧ j < 2 ^ 62 ∧ Rd (rangeD 0 j.toNat) Γ1
def dRng2 (R : DA) : DI := fun xd Γ Rd => R xd Γ fun ws Γ1 => ∃ i j : Int, ws = [.dat (.int i), .dat (.int j)] ∧ (-(2 ^ 62) ≤ i ∧ i < 2 ^ 62 ∧ -(2 ^ 62) ≤ j ∧ j < 2 ^ 62) ∧ Rd (rangeD i (j - i).toNat) Γ1
theorem pdi_range1 (hg : ∀ j, Gl (F.X j) "range") (hm : ∀ j, (F.X j).mg "range" = none) (ha : PDA F E [a] R) (hs : ∀ j, starEach [a] (F.X j).env = [(false, eval a (F.X j).env)] := by intro _; rfl) : PDI F E tg (.Call (.Name "range" p) [a] [] pos) (dRng1 R) :=
  let ⟨_, pa, la⟩ := ha
  ⟨_, fun j => pi_range1 (hg j) (hm j) (pa j) (hs j), fun P hK hE Bv Γ σ H Rd R n h k => la P hK hE Bv Γ σ H _ _ n h fun ws Γ1 vs H1 B1 e1 n1 r1 h1 => by
    obtain ⟨j, rfl, b1, b2, h1⟩ := h1
    obtain ⟨v, rfl, rr⟩ := r1.one
    cases rr
    exact ⟨j, rfl, b1, b2, k _ Γ1 _ H1 B1 e1 n1 itd_range h1⟩⟩
theorem pdi_range2 (hg : ∀ j, Gl (F.X j) "range") (hm : ∀ j, (F.X j).mg "range" = none) (ha : PDA F E [a, b] R) (hs : ∀ j, starEach [a, b] (F.X j).env = [(false, eval a (F.X j).env), (false, eval b (F.X j).env)] := by intro _; rfl) (hs2 : ∀ j, starEach [b] (F.X j).env = [(false, eval b (F.X j).env)] := by intro _; rfl) : PDI F E tg (.Call (.Name "range" p) [a, b] [] pos) (dRng2 R) :=
  let ⟨_, pa, la⟩ := ha
  ⟨_, fun j => pi_range2 (hg j) (hm j) (pa j) (hs j) (hs2 j), fun P hK hE Bv Γ σ H Rd R n h k => la P hK hE Bv Γ σ H _ _ n h fun ws Γ1 vs H1 B1 e1 n1 r1 h1 => by
    obtain ⟨i, j, rfl, b1, h1⟩ := h1
    obtain ⟨v, u, rfl, r1, r2⟩ := r1.two
    cases r1
    cases r2
    exact ⟨i, j, rfl, b1, k _ Γ1 _ H1 B1 e1 n1 itd_range h1⟩⟩
/-- zip of two lists | of two tuples -/
def dZip (R : DA) : DI := fun xd Γ Rd => R xd Γ fun ws Γ1 => ∃ l m Γ2, (fixL Γ1 ws = some ([.lst l, .lst m], Γ2) ∨ fixL Γ1 ws = some ([.tup l, .tup m], Γ2)) ∧ Rd (zipD l m) Γ2
theorem pdi_zip {elts : List Expr} {kk : Nat} {tpos : Pos} (hg : ∀ j, Gl (F.X j) "zip") (hm : ∀ j, (F.X j).mg "zip" = none) (ha : PDA F E [a, b] R)
    (hs : ∀ j, starEach [a, b] (F.X j).env = (false, eval a (F.X j).env) :: starEach [b] (F.X j).env := by intro _; rfl) (hpl : ∀ j, (backTo pos (starEach [b] (F.X j).env)).any (·.1) = false := by intro _; rfl) : PDI F E (.Tuple elts kk tpos) (.Call (.Name "zip" p) [a, b] [] pos) (dZip R) :=
  let ⟨_, pa, la⟩ := ha
  ⟨RZ.iZipA F.K _, fun j => F.k j ▸ RZ.pi_zipA (hg j) (hm j) (pa j) (hs j) (hpl j), fun P hK hE Bv Γ σ H Rd R n h k => la P hK hE Bv Γ σ H _ _ n h fun ws Γ1 vs H1 B1 e1 n1 r1 h1 => by
    obtain ⟨l, m, Γ2, f, h1⟩ := h1
    rcases f with f | f
    · obtain ⟨B2, e2, n2, r2⟩ := n1.fixedL r1 f
      cases r2 with
      | cons ra rr =>
        cases rr with
        | cons rb rr =>
          cases rr
          cases ra with
          | lst hs hr =>
            cases rb with
            | lst hs' hr' =>
              rename_i a1 v1 a2 v2
              rw [hK] at hs hr hs' hr'
              exact ⟨a1, a2, v1, v2, rfl, .inl ⟨ex_l n2.sub hs, ex_l n2.sub hs', k _ Γ2 _ H1 B2 (e1.trans e2) n2 (by rw [hK]; exact itd_zipL hs hr hs' hr') h1⟩⟩
    · obtain ⟨B2, e2, n2, r2⟩ := n1.fixedL r1 f
      cases r2 with
      | cons ra rr =>
        cases rr with
        | cons rb rr =>
          cases rr
          cases ra with
          | tup hs hr =>
            cases rb with
            | tup hs' hr' =>
              rename_i a1 v1 a2 v2
              rw [hK] at hs hr hs' hr'
              exact ⟨a1, a2, v1, v2, rfl, .inr ⟨ex_t n2.sub hs, ex_t n2.sub hs', k _ Γ2 _ H1 B2 (e1.trans e2) n2 (by rw [hK]; exact itd_zipT hs hr hs' hr') h1⟩⟩⟩

/-! ### targets -/
theorem wipe_set {σ : L2.St} {i : Nat} {x : Option V} : ∀ {vs : List Nat}, i ∈ vs → wipe (σ.set i x) vs = wipe σ vs
  | v :: vs, h => by
    show (wipe (σ.set i x) vs).set v none = (wipe σ vs).set v none
    by_cases e : i ∈ vs
    · rw [wipe_set e]
    · have ev : i = v := by
        rcases List.mem_cons.mp h with z | z
        · exact z
        · exact absurd z e
      subst ev
      apply List.ext_getElem?
      intro j
      by_cases q : j = i
      · subst q
        rw [List.getElem?_set, List.getElem?_set]
        simp [wipe_length]
      · rw [List.getElem?_set_ne (Ne.symm q), List.getElem?_set_ne (Ne.symm q)]
        have : ∀ {us : List Nat} {τ : L2.St}, (wipe (τ.set i x) us)[j]? = (wipe τ us)[j]? := by
          intro us
          induction us with
          | nil => intro τ; show (τ.set i x)[j]? = τ[j]?; rw [List.getElem?_set_ne (Ne.symm q)]
          | cons u us ih =>
            intro τ
            show ((wipe (τ.set i x) us).set u none)[j]? = ((wipe τ us).set u none)[j]?
            by_cases w : j = u
            · subst w
              rw [List.getElem?_set, List.getElem?_set]
              simp [wipe_length]
            · rw [List.getElem?_set_ne (Ne.symm w), List.getElem?_set_ne (Ne.symm w), ih]
        exact this
theorem wipe_get {σ : L2.St} {j : Nat} : ∀ {vs : List Nat}, j ∉ vs → (wipe σ vs)[j]? = σ[j]?
  | [], _ => rfl
  | v :: vs, h => by
    show ((wipe σ vs).set v none)[j]? = σ[j]?
    rw [List.getElem?_set_ne (fun z => h (by rw [z]; exact List.mem_cons_self)), wipe_get fun z => h (List.mem_cons_of_mem _ z)]
theorem wipe_in {σ : L2.St} {j : Nat} : ∀ {vs : List Nat}, j ∈ vs → j < σ.length → (wipe σ vs)[j]? = some none
  | v :: vs, h, hl => by
    show ((wipe σ vs).set v none)[j]? = some none
    by_cases e : j = v
    · subst e
      rw [List.getElem?_set_self (by rw [wipe_length]; exact hl)]
    · rw [List.getElem?_set_ne (Ne.symm e)]
      exact wipe_in ((List.mem_cons.mp h).resolve_left e) hl
theorem wipe_wipe {σ : L2.St} {vs : List Nat} : wipe (wipe σ vs) vs = wipe σ vs := by
  apply List.ext_getElem?
  intro j
  by_cases e : j ∈ vs
  · by_cases hl : j < σ.length
    · rw [wipe_in e (by rw [wipe_length]; exact hl), wipe_in e hl]
    · rw [List.getElem?_eq_none (by rw [wipe_length, wipe_length]; omega), List.getElem?_eq_none (by rw [wipe_length]; omega)]
  · rw [wipe_get e]
abbrev DG := D → Gm → Option Gm
abbrev DGs := List D → Gm → Option Gm
abbrev GEnd (P : Par) (Bv : Hp) (Γ' : Gm) (σ : L2.St) (H : Hp) (ix : List Nat) (Q : L2.St → Hp → Prop) : Prop := ∀ σ' : L2.St, En P Bv Γ' σ' H → (∀ vs : List Nat, (∀ i ∈ ix, i ∈ vs) → wipe σ' vs = wipe σ vs) → Q σ' H
def LG (P : Par) (g : TG) (G : DG) (ix : List Nat) : Prop := ∀ (Bv : Hp) (Γ : Gm) (σ : L2.St) (H : Hp) (v : V) (d : D) (Γ' : Gm) (Q : L2.St → Hp → Prop), En P Bv Γ σ H → Rp P.K Bv v d → G d Γ = some Γ' → GEnd P Bv Γ' σ H ix Q → g v σ H Q
def LGs (P : Par) (g : TGs) (G : DGs) (ix : List Nat) : Prop := ∀ (Bv : Hp) (Γ : Gm) (σ : L2.St) (H : Hp) (vs : List V) (ds : List D) (Γ' : Gm) (Q : L2.St → Hp → Prop), En P Bv Γ σ H → RpL P.K Bv vs ds → G ds Γ = some Γ' → GEnd P Bv Γ' σ H ix Q → g vs σ H Q
def PDG (F : Fam) (tg : Expr) (G : DG) (ix : List Nat) : Prop := ∃ g, (∀ j, PG (F.X j) tg g) ∧ ∀ P : Par, P.K = F.K → LG P g G ix
def PDGs (F : Fam) (tgs : List Expr) (G : DGs) (ix : List Nat) : Prop := ∃ g, (∀ j, PGs (F.X j) tgs g) ∧ ∀ P : Par, P.K = F.K → LGs P g G ix
def dgName (i : Nat) : DG := fun d Γ => if notOwn Γ i = true then some (Γ.set i (.dat d)) else none
theorem pdg_name (i : Nat) {x : Str} (hN : ∀ j, (F.X j).N.Nodup) (hi : ∀ j, (F.X j).N[i]? = some x := by intro _; rfl) (hx : ∀ j, Loc (F.X j).env.scope x := by first | exact fun _ => .inl rfl | exact fun _ => .inr rfl) (hf : ∀ j, (F.X j).fn x = true ∨ (F.X j).env.scope.names.lookup x = some .local := by first | exact fun _ => .inl rfl | exact fun _ => .inr rfl | assumption) : PDG F (.Name x pos) (dgName i) [i] :=
  ⟨_, fun j => pg_name (hN j) (hi j) (hx j) (hf j), fun P hK Bv Γ σ H v d Γ' Q n r h k => by
    unfold dgName at h
    split at h
    · rename_i hi
      cases h
      exact k _ (n.put hi r) fun vs hv => wipe_set (hv i (List.mem_singleton.mpr rfl))
    · cases h⟩
def dgsNil : DGs := fun ds Γ => match ds with | [] => some Γ | _ => none
def dgsCons (G : DG) (Gs : DGs) : DGs := fun ds Γ => match ds with
  | d :: r => (G d Γ).bind (Gs r)
  | [] => none
theorem pdgs_nil : PDGs F [] dgsNil [] := ⟨_, fun j => pgs_nil, fun P hK Bv Γ σ H vs ds Γ' Q n r h k => by
  cases r with
  | nil => cases h; exact ⟨rfl, k σ n fun _ _ => rfl⟩
  | cons _ _ => cases h⟩
theorem pdgs_cons {e : Expr} {es : List Expr} {G : DG} {Gs : DGs} {ix iy : List Nat} (h1 : PDG F e G ix) (h2 : PDGs F es Gs iy) (hs : ∀ j, (assignEach (e :: es) (F.X j).env).map (·.2) = assign e (F.X j).env :: (assignEach es (F.X j).env).map (·.2) := by intro _; rfl) : PDGs F (e :: es) (dgsCons G Gs) (ix ++ iy) :=
  let ⟨_, p1, l1⟩ := h1; let ⟨_, p2, l2⟩ := h2
  ⟨_, fun j => pgs_cons (p1 j) (p2 j) (hs j), fun P hK Bv Γ σ H vs ds Γ' Q n r h k => by
    cases r with
    | nil => cases h
    | @cons v vs d ds r rr =>
      have h' : (G d Γ).bind (Gs ds) = some Γ' := h
      cases q : G d Γ with
      | none => rw [q] at h'; cases h'
      | some Γ1 =>
        rw [q] at h'
        exact ⟨v, vs, rfl, l1 P hK Bv Γ σ H v d Γ1 _ n r q fun σ1 n1 w1 => l2 P hK Bv Γ1 σ1 H vs ds Γ' Q n1 rr h' fun σ2 n2 w2 => k σ2 n2 fun us hu => (w2 us fun i hi => hu i (List.mem_append_right _ hi)).trans (w1 us fun i hi => hu i (List.mem_append_left _ hi))⟩⟩
def dgTup (m : Nat) (Gs : DGs) : DG := fun d Γ => match d with
  | .tup l => if l.length = m then Gs l Γ else none
  | _ => none
theorem pdg_tup {es : List Expr} {k : Nat} {m : Nat} {Gs : DGs} {ix : List Nat} (hc : ∀ j, (F.X j).calm = true := by intro _; rfl) (h : PDGs F es Gs ix) (hn : ∀ j, (assignEach es (F.X j).env).length = m := by intro _; rfl) (hst : ∀ j, (assignEach es (F.X j).env).findIdx? (·.1) = none := by intro _; rfl) : PDG F (.Tuple es k pos) (dgTup m Gs) ix :=
  let ⟨_, p, l⟩ := h
  ⟨gTup F.K m _, fun j => F.k j ▸ pg_tup (hc j) (p j) (hn j) (hst j), fun P hK Bv Γ σ H v d Γ' Q n r h k => by
    cases r with
    | tup hs hr =>
      rename_i a vs ds
      have h' : (if ds.length = m then Gs ds Γ else none) = some Γ' := h
      split at h'
      · rename_i hm
        rw [hK] at hs
        exact ⟨a, vs, rfl, ex_t n.sub hs, by rw [hr.len]; exact hm, l P hK Bv Γ σ H vs ds Γ' Q n hr h' k⟩
      · cases h'
    | _ => cases h⟩

/-! ### loops -/
variable {T : DS} {G : DG} {ix : List Nat} {I : DI}
def dLoop (G : DG) (T : DS) (xd : Xd) (D : DEnds) : List DL.D → Gm → Prop
  | [], Γ => D.nx Γ
  | x :: r, Γ => ∃ Γ', G x Γ = some Γ' ∧ T xd { nx := dLoop G T xd D r, ct := dLoop G T xd D r, bk := D.nx, rt := D.rt } Γ'
def dFor (I : DI) (G : DG) (T : DS) : DS := fun xd D Γ => I xd Γ fun xs Γ1 => dLoop G T xd D xs Γ1
theorem ls_for {P : Par} {wi : TI} {g : TG} {tb : TS} (hi : LI P wi I) (hg : LG P g G ix) (hb : LS P tb T) : LS P (tFor wi g tb) (dFor I G T) := by
  intro Bv Γ σ H Dd D n h k
  refine hi Bv Γ σ H _ _ n h fun xs Γ1 J H1 B1 e1 n1 it h1 => ?_
  refine ⟨fun i m σ' H' => m = xs.length - i ∧ i ≤ xs.length ∧ ∃ B' Γ', Ex B1 B' ∧ En P B' Γ' σ' H' ∧ dLoop G T P.Ed Dd (xs.drop i) Γ', ⟨_, rfl, Nat.zero_le _, B1, Γ1, Ex.refl _, n1, h1⟩, ?_⟩
  rintro i m σ' H' ⟨rfl, hle, B', Γ', e2, n2, h2⟩
  by_cases hlt : i < xs.length
  · refine .inr ⟨it.go B' H' e2 n2.sub i hlt, fun σ3 H3 => ∃ B3 Γ3, Ex B1 B3 ∧ En P B3 Γ3 σ3 H3 ∧ dLoop G T P.Ed Dd (xs.drop (i + 1)) Γ3, fun σ3 H3 z => ⟨xs.length - (i + 1), by omega, rfl, hlt, z⟩, fun x H3 y => ?_⟩
    obtain ⟨B3, d, hd, gr, rp⟩ := it.yld B' H' e2 n2.sub i x H3 hlt y
    have hdrop : xs.drop i = d :: xs.drop (i + 1) := by
      obtain ⟨hl, e⟩ := List.getElem?_eq_some_iff.mp hd
      rw [List.drop_eq_getElem_cons hl, e]
    rw [hdrop] at h2
    obtain ⟨Γ3, q3, h3⟩ := h2
    refine hg B3 Γ' σ' H3 x d Γ3 _ (n2.grow gr) rp q3 fun σ4 n4 _ => ?_
    have e3 : Ex B1 B3 := e2.trans gr.vis
    exact hb B3 Γ3 σ4 H3 _ _ n4 h3 ⟨fun Γ5 σ5 H5 B5 x5 n5 q5 => ⟨B5, Γ5, e3.trans x5, n5, q5⟩, fun d Γ5 σ5 v H5 B5 x5 n5 r5 q5 => k.rt d Γ5 σ5 v H5 B5 ((e1.trans e3).trans x5) n5 r5 q5,
      fun Γ5 σ5 H5 B5 x5 n5 q5 => k.nx Γ5 σ5 H5 B5 ((e1.trans e3).trans x5) n5 q5, fun Γ5 σ5 H5 B5 x5 n5 q5 => ⟨B5, Γ5, e3.trans x5, n5, q5⟩⟩
  · have e : i = xs.length := by omega
    subst e
    rw [List.drop_length] at h2
    exact .inl ⟨it.stop B' H' e2 n2.sub, k.nx Γ' σ' H' B' (e1.trans e2) n2 h2⟩
theorem pd_for {iter : Expr} {body : List Stmt} (hp : ∀ j, PassesOwn (model (F.X j).prog (F.X j).w) (F.X j).A (F.X j).env (F.X j).xe) (hc : ∀ j, (F.X j).calm = true := by intro _; rfl) (hi : PDI F E tg iter I) (hg : PDG F tg G ix) (hb : PDSs F E body T) (hs : ∀ j x, foldedSetIterable iter (F.X j).env x = pure x := by intro _ _; rfl) : PDS F E (.For tg iter body [] pos) (dFor I G T) :=
  let ⟨_, p1, l1⟩ := hi; let ⟨_, p2, l2⟩ := hg; let ⟨_, p3, l3⟩ := hb
  ⟨_, fun j => ps_for (hp j) (hc j) (p1 j) (p2 j) (p3 j) (hs j), fun P hK hE => ls_for (l1 P hK hE) (l2 P hK) (l3 P hK hE)⟩
def dWh (t : DT) (T : DS) (xd : Xd) (D : DEnds) : Nat → Gm → Prop
  | 0, _ => False
  | n + 1, Γ => t xd Γ fun q Γ1 => if q = true then T xd { nx := dWh t T xd D n, ct := dWh t T xd D n, bk := D.nx, rt := D.rt } Γ1 else D.nx Γ1
def dWhile (t : DT) (T : DS) : DS := fun xd D Γ => ∃ n, dWh t T xd D n Γ
theorem pd_while {t : DT} {body : List Stmt} (hp : ∀ j, PassesOwn (model (F.X j).prog (F.X j).w) (F.X j).A (F.X j).env (F.X j).xe) (hc : PDT F E c t) (hb : PDSs F E body T) : PDS F E (.While c body [] pos) (dWhile t T) := by
  obtain ⟨_, p1, l1⟩ := hc
  obtain ⟨_, p2, l2⟩ := hb
  refine ⟨_, fun j => ps_while (hp j) (p1 j) (p2 j), fun P hK hE Bv Γ σ H Dd D n h k => ?_⟩
  obtain ⟨m0, h⟩ := h
  refine ⟨fun m σ' H' => ∃ B' Γ', Ex Bv B' ∧ En P B' Γ' σ' H' ∧ dWh t T P.Ed Dd m Γ', ⟨m0, Bv, Γ, Ex.refl _, n, h⟩, ?_⟩
  rintro m σ1 H1 ⟨B1, Γ1, e1, n1, h1⟩
  cases m with
  | zero => exact h1.elim
  | succ m =>
    refine l1 P hK hE B1 Γ1 σ1 H1 _ _ n1 h1 fun q Γ2 H2 B2 e2 n2 h2 => ?_
    cases q with
    | true =>
      refine ⟨fun σ' H' => ∃ B' Γ', Ex Bv B' ∧ En P B' Γ' σ' H' ∧ dWh t T P.Ed Dd m Γ', fun σ' H' z => ⟨m, Nat.lt_succ_self _, z⟩, ?_⟩
      have e3 := e1.trans e2
      exact l2 P hK hE B2 Γ2 σ1 H2 _ _ n2 h2 ⟨fun Γ5 σ5 H5 B5 x5 n5 q5 => ⟨B5, Γ5, e3.trans x5, n5, q5⟩, fun d Γ5 σ5 v H5 B5 x5 n5 r5 q5 => k.rt d Γ5 σ5 v H5 B5 (e3.trans x5) n5 r5 q5,
        fun Γ5 σ5 H5 B5 x5 n5 q5 => k.nx Γ5 σ5 H5 B5 (e3.trans x5) n5 q5, fun Γ5 σ5 H5 B5 x5 n5 q5 => ⟨B5, Γ5, e3.trans x5, n5, q5⟩⟩
    | false => exact k.nx Γ2 σ1 H2 B2 (e1.trans e2) n2 h2
end
end DL

set_option Elab.async false
set_option linter.all false
set_option maxRecDepth 100000
set_option maxHeartbeats 4000000
namespace DL
open PySem PySem.Spec PyProof.Rows L2


/-! ### comprehensions -/
def okW (Γ : Gm) (vs : List Nat) : Bool := vs.all (notOwn Γ)
def wipeG (Γ : Gm) : List Nat → Gm
  | [] => Γ
  | v :: vs => (wipeG Γ vs).set v .non
theorem wipeG_len (Γ : Gm) : ∀ vs : List Nat, (wipeG Γ vs).length = Γ.length
  | [] => rfl
  | v :: vs => by
    show ((wipeG Γ vs).set v .non).length = Γ.length
    rw [List.length_set, wipeG_len Γ vs]
theorem wipeG_get {Γ : Gm} {j : Nat} {s : Sl} : ∀ {vs : List Nat}, (wipeG Γ vs)[j]? = some s → (s = .non) ∨ (j ∉ vs ∧ Γ[j]? = some s)
  | [], h => .inr ⟨by simp, h⟩
  | v :: vs, h => by
    rcases get_set (l := wipeG Γ vs) h with ⟨rfl, q⟩ | ⟨q, h⟩
    · exact .inl q
    · rcases wipeG_get h with z | ⟨z1, z2⟩
      · exact .inl z
      · exact .inr ⟨fun e => (List.mem_cons.mp e).elim q z1, z2⟩
section
variable {P : Par} {Bv : Hp} {Γ : Gm} {σ σ' : L2.St} {H : Hp} {vs : List Nat}
theorem En.wipe (n : En P Bv Γ σ H) (hw : okW Γ vs = true) (hl : σ'.length = σ.length) (h : ∀ j, j ∉ vs → σ'[j]? = σ[j]?) : En P Bv (wipeG Γ vs) σ' H where
  len := by rw [wipeG_len, hl]; exact n.len
  base := n.base
  sub := n.sub
  frm := n.frm
  dj := n.dj
  dat := fun i d e => by
    rcases wipeG_get e with z | ⟨z1, z2⟩
    · cases z
    · rw [h i z1]; exact n.dat i d z2
  own := fun i p l e => by
    rcases wipeG_get e with z | ⟨z1, z2⟩
    · cases z
    · rw [h i z1]; exact n.own i p l z2
  inj := fun i j p p' l l' a e1 e2 => by
    rcases wipeG_get e1 with z | ⟨z1, z2⟩
    · cases z
    · rcases wipeG_get e2 with y | ⟨y1, y2⟩
      · cases y
      · rw [h i z1, h j y1]; exact n.inj i j p p' l l' a z2 y2
  pin := fun q hq => by
    obtain ⟨l, h1, h2⟩ := n.pin q hq
    have nv : q.1 ∉ vs := fun z => notOwn_no (List.all_eq_true.mp hw _ z) h1
    refine ⟨l, ?_, by rw [h _ nv]; exact h2⟩
    have : ∀ us : List Nat, q.1 ∉ us → (wipeG Γ us)[q.1]? = Γ[q.1]? := by
      intro us
      induction us with
      | nil => intro _; rfl
      | cons u us ih =>
        intro hu
        show ((wipeG Γ us).set u .non)[q.1]? = Γ[q.1]?
        rw [List.getElem?_set_ne (fun z => hu (by rw [z]; exact List.mem_cons_self)), ih fun z => hu (List.mem_cons_of_mem _ z)]
    rw [this vs nv]
    exact h1
  hf := n.hf.to (fun i M e => by
    rcases wipeG_get e with z | ⟨_, z2⟩
    · cases z
    · exact z2) (Ex.refl _) (fun _ _ _ _ _ => rfl) (fun _ _ _ _ _ f v => ⟨f, v⟩) (fun _ _ _ b _ k i p l e => by
    rcases wipeG_get e with z | ⟨z1, z2⟩
    · cases z
    · rw [h i z1]; exact k i p l z2)
end
/-- F with a list at p, if nothing is there -/
def lcF (F : Hp) (p : Addr) (acc : List V) : Hp := fun b => match F b with
  | some o => some o
  | none => if b = p then some (.lst acc) else none
theorem lcF_same {F : Hp} {p : Addr} {acc : List V} (h : F p = none) : lcF F p acc p = some (.lst acc) := by
  unfold lcF
  rw [h]
  exact if_pos rfl
theorem lcF_ne {F : Hp} {p b : Addr} {acc : List V} (h : b ≠ p) : lcF F p acc b = F b := by
  unfold lcF
  cases F b with
  | none => exact if_neg h
  | some o => rfl
theorem lcF_some {F : Hp} {p b : Addr} {acc : List V} {o : HO} (h : F b = some o) : lcF F p acc b = some o := by
  unfold lcF
  rw [h]
/-- P while the list at p is being made -/
def Par.lc (P : Par) (p : Addr) (acc : List V) : Par where
  K := P.K
  F := lcF P.F p acc
  ts := P.ts
  tab := fun T hT => by
    obtain ⟨ps, h1, h2⟩ := P.tab T hT
    exact ⟨ps, lcF_some h1, h2⟩
  pin := P.pin
  B0 := P.B0
  Ed := no
  E := E0
  xok := fun _ _ _ _ _ _ z => z.elim
theorem En.lc {P : Par} {Bv : Hp} {Γ : Gm} {σ : L2.St} {H : Hp} {p : Addr} {acc : List V} (n : En P Bv Γ σ H) (hF : P.F p = none) (hp : H p = some (.lst acc)) (h1 : Bv p = none) (h2 : ∀ (j : Nat) (q : Bool) (m : List D), Γ[j]? = some (.own q m) → σ[j]? ≠ some (some (.ref p))) (nh : ∀ (j : Nat) (M : Mm), Γ[j]? = some (.heap M) → ¬ InReg M H p) : En (P.lc p acc) Bv Γ σ H where
  len := n.len
  base := n.base
  sub := n.sub
  frm := fun b o e => by
    have e' : lcF P.F p acc b = some o := e
    by_cases q : b = p
    · subst q; rw [lcF_same hF] at e'; cases e'; exact .inl hp
    · rw [lcF_ne q] at e'; exact n.frm b o e'
  dj := fun b z => by
    have z' : lcF P.F p acc b ≠ none := z
    by_cases q : b = p
    · subst q; exact h1
    · rw [lcF_ne q] at z'; exact n.dj b z'
  dat := n.dat
  own := fun i q l h => by
    obtain ⟨a, vs, g1, g2, g3, g4, g5⟩ := n.own i q l h
    have : a ≠ p := fun z => h2 i q l h (by rw [g1, z])
    refine ⟨a, vs, g1, g2, g3, g4, ?_⟩
    show lcF P.F p acc a = none
    rw [lcF_ne this]; exact g5
  inj := n.inj
  pin := n.pin
  hf := n.hf.to (fun _ _ h => h) (Ex.refl _) (fun _ _ _ _ _ => rfl) (fun i M hM b hb f v => ⟨by
    show lcF P.F p acc b = none
    rw [lcF_ne (fun e => nh i M hM (by rw [← e]; exact hb))]
    exact f, v⟩) (fun _ _ _ _ _ k => k)
/-- one item more -/
theorem En.lcMore {P : Par} {Bv : Hp} {Γ : Gm} {σ : L2.St} {H : Hp} {p : Addr} {acc acc' : List V} (hF : P.F p = none) (n : En (P.lc p acc) Bv Γ σ H) : En (P.lc p acc') Bv Γ σ (upd H p (.lst acc')) where
  len := n.len
  base := n.base
  sub := fun b o e => by
    have : b ≠ p := fun z => by
      have : Bv p = none := n.dj p (by show lcF P.F p acc p ≠ none; rw [lcF_same hF]; exact fun z => nomatch z)
      rw [z, this] at e; cases e
    rw [upd_ne this]; exact n.sub b o e
  frm := fun b o e => by
    have e' : lcF P.F p acc' b = some o := e
    by_cases q : b = p
    · subst q; rw [lcF_same hF] at e'; rw [upd_same]; exact .inl e'
    · rw [lcF_ne q] at e'
      rw [upd_ne q]
      exact n.frm b o (by show lcF P.F p acc b = some o; rw [lcF_ne q]; exact e')
  dj := fun b z => by
    refine n.dj b fun y => z ?_
    have y' : lcF P.F p acc b = none := y
    show lcF P.F p acc' b = none
    by_cases q : b = p
    · subst q; rw [lcF_same hF] at y'; cases y'
    · rw [lcF_ne q] at y' ⊢; exact y'
  dat := n.dat
  own := fun i q l h => by
    obtain ⟨a, vs, g1, g2, g3, g4, g5⟩ := n.own i q l h
    have g5' : lcF P.F p acc a = none := g5
    have ne : a ≠ p := fun z => by rw [z, lcF_same hF] at g5'; cases g5'
    rw [lcF_ne ne] at g5'
    refine ⟨a, vs, g1, by rw [upd_ne ne]; exact g2, g3, g4, ?_⟩
    show lcF P.F p acc' a = none
    rw [lcF_ne ne]; exact g5'
  inj := n.inj
  pin := n.pin
  hf := n.hf.to (fun _ _ h => h) (Ex.refl _) (fun i M hM b hb => by
    have f : lcF P.F p acc b = none := ((n.hf.2 i M hM).2 b hb).1
    exact upd_ne fun e => by rw [e, lcF_same hF] at f; cases f) (fun i M hM b hb f v => ⟨by
    have f : lcF P.F p acc b = none := f
    have ne : b ≠ p := fun e => by rw [e, lcF_same hF] at f; cases f
    rw [lcF_ne ne] at f
    show lcF P.F p acc' b = none
    rw [lcF_ne ne]
    exact f, v⟩) (fun _ _ _ _ _ k => k)
/-- it is made -/
theorem En.lcEnd {P : Par} {Bv : Hp} {Γ : Gm} {σ : L2.St} {H : Hp} {p : Addr} {acc : List V} {l : List D} (hF : P.F p = none) (n : En (P.lc p acc) Bv Γ σ H) (r : RpL P.K Bv acc l) : En P Bv Γ σ H ∧ NewL P Bv Γ σ H p acc l := by
  have fp : lcF P.F p acc p = some (.lst acc) := lcF_same hF
  have ofl : ∀ {b : Addr}, lcF P.F p acc b = none → P.F b = none := fun {b} f => by
    have ne : b ≠ p := fun e => by rw [e, fp] at f; cases f
    rw [lcF_ne ne] at f
    exact f
  have e1 : H p = some (.lst acc) := n.frm.lst fp
  have e2 : Bv p = none := n.dj p (by show lcF P.F p acc p ≠ none; rw [lcF_same hF]; exact fun z => nomatch z)
  have ow : ∀ (i : Nat) (q : Bool) (l : List D), Γ[i]? = some (.own q l) → ∃ a vs, σ[i]? = some (some (.ref a)) ∧ H a = some (.lst vs) ∧ RpL P.K Bv vs l ∧ Bv a = none ∧ P.F a = none ∧ a ≠ p := fun i q l h => by
    obtain ⟨a, vs, g1, g2, g3, g4, g5⟩ := n.own i q l h
    have g5' : lcF P.F p acc a = none := g5
    have ne : a ≠ p := fun z => by rw [z, lcF_same hF] at g5'; cases g5'
    rw [lcF_ne ne] at g5'
    exact ⟨a, vs, g1, g2, g3, g4, g5', ne⟩
  refine ⟨⟨n.len, n.base, n.sub, fun b o e => ?_, fun b z => ?_, n.dat, fun i q l h => ?_, n.inj, n.pin, n.hf.to (fun _ _ h => h) (Ex.refl _) (fun _ _ _ _ _ => rfl) (fun i M hM b hb f v => ⟨ofl f, v⟩) (fun _ _ _ _ _ k => k)⟩, ⟨e1, e2, hF, fun i q l h z => ?_, r, fun i M hM z => by
    have f : lcF P.F p acc p = none := ((n.hf.2 i M hM).2 p z).1
    rw [fp] at f
    cases f⟩⟩
  · have : b ≠ p := fun z => by rw [z, hF] at e; cases e
    exact n.frm b o (by show lcF P.F p acc b = some o; rw [lcF_ne this]; exact e)
  · refine n.dj b fun y => z ?_
    have y' : lcF P.F p acc b = none := y
    by_cases q : b = p
    · subst q; exact hF
    · rw [lcF_ne q] at y'; exact y'
  · obtain ⟨a, vs, g1, g2, g3, g4, g5, _⟩ := ow i q l h
    exact ⟨a, vs, g1, g2, g3, g4, g5⟩
  · obtain ⟨a, vs, g1, _, _, _, _, ne⟩ := ow i q l h
    rw [g1] at z
    cases z
    exact ne rfl
def dYes : DT := fun _ Γ Q => Q true Γ
theorem lt_yes {P : Par} : LT P tYes dYes := fun Bv Γ σ H Qd Q n h k => k true Γ H Bv (Ex.refl _) n h
def PDTs (F : Fam) (E : XK) (ifs : List Expr) (T : DT) : Prop := ∃ t, (∀ j, PTs (F.X j) ifs t) ∧ ∀ P : Par, P.K = F.K → P.E = E ∧ P.ts = F.ts → LT P t T
theorem pdts_nil {F : Fam} {E : XK} : PDTs F E [] dYes := ⟨_, fun _ => pts_nil, fun _ _ _ => lt_yes⟩
theorem pdts_one {F : Fam} {E : XK} {c : Expr} {T : DT} (h : PDT F E c T) : PDTs F E [c] T := let ⟨_, p, l⟩ := h; ⟨_, fun j => pts_one (p j), l⟩
def dLcR (G : DG) (tt : DT) (A : DE) (vs : List Nat) (K : List D → Gm → Prop) : List D → List D → Gm → Prop
  | [], acc, Γ => K acc Γ
  | x :: r, acc, Γ => ∃ Γ1, G x Γ = some Γ1 ∧ tt no Γ1 fun q Γ2 => if q = true then A no Γ2 fun w Γ3 => ∃ d Γ4, fix Γ3 w = some (d, Γ4) ∧ okW Γ4 vs = true ∧ dLcR G tt A vs K r (acc ++ [d]) (wipeG Γ4 vs) else okW Γ2 vs = true ∧ dLcR G tt A vs K r acc (wipeG Γ2 vs)
def dLc (I : DI) (G : DG) (tt : DT) (A : DE) (vs : List Nat) : DO := fun xd Γ Q => I xd Γ fun xs Γ1 => okW Γ1 vs = true ∧ xs.length ≤ 100000 ∧ dLcR G tt A vs Q xs [] (wipeG Γ1 vs)
theorem lo_lc {P : Par} {wi : TI} {I : DI} {g : TG} {G : DG} {ix : List Nat} {tt : TT} {tD : DT} {te : TE} {A : DE} {vs : List Nat} (hi : LI P wi I) (hg : ∀ p acc, LG (P.lc p acc) g G ix) (ht : ∀ p acc, LT (P.lc p acc) tt tD) (he : ∀ p acc, LE (P.lc p acc) te A) (hix : ∀ i ∈ ix, i ∈ vs) : LO P (tLc wi g tt te vs) (dLc I G tD A vs) := by
  intro Bv Γ σ H Qd Q n h k
  refine hi Bv Γ σ H _ _ n h fun xs Γ1 J H1 B1 e1 n1 it h1 => ?_
  obtain ⟨hw, hx, h1⟩ := h1
  intro p hp
  obtain ⟨pF, pB, pO⟩ := n1.noAt hp
  have n1' : En P B1 Γ1 σ (upd H1 p (.lst [])) := n1.grow (Grow.hid n1.sub hp)
  have n2 : En (P.lc p []) B1 (wipeG Γ1 vs) (wipe σ vs) (upd H1 p (.lst [])) := (n1'.lc pF upd_same pB pO (n1.nhAt hp)).wipe hw (wipe_length σ vs) fun j hj => wipe_get hj
  refine ⟨fun i m H' => m = xs.length - i ∧ i ≤ xs.length ∧ ∃ B' Γ' acc ds, Ex B1 B' ∧ En (P.lc p acc) B' Γ' (wipe σ vs) H' ∧ RpL P.K B' acc ds ∧ acc.length ≤ i ∧ (∀ (j : Nat) (s : Sl), j ∈ vs → Γ'[j]? = some s → s = .non) ∧ dLcR G tD A vs Qd (xs.drop i) ds Γ', ⟨_, rfl, Nat.zero_le _, B1, _, [], [], Ex.refl _, n2, .nil, Nat.le_refl _, fun j s hj hs => (wipeG_get hs).resolve_right fun z => z.1 hj, h1⟩, ?_⟩
  rintro i m H' ⟨rfl, hle, B', Γ', acc, ds, e2, n3, ra, hal, hnon, h3⟩
  by_cases hlt : i < xs.length
  · refine .inr ⟨it.go B' H' e2 n3.sub i hlt, fun H5 => ∃ B' Γ' acc ds, Ex B1 B' ∧ En (P.lc p acc) B' Γ' (wipe σ vs) H5 ∧ RpL P.K B' acc ds ∧ acc.length ≤ i + 1 ∧ (∀ (j : Nat) (s : Sl), j ∈ vs → Γ'[j]? = some s → s = .non) ∧ dLcR G tD A vs Qd (xs.drop (i + 1)) ds Γ', fun H5 z => ⟨xs.length - (i + 1), by omega, rfl, hlt, z⟩, fun x H4 y => ?_⟩
    obtain ⟨B4, d, hd, gr, rp⟩ := it.yld B' H' e2 n3.sub i x H4 hlt y
    have hdrop : xs.drop i = d :: xs.drop (i + 1) := by
      obtain ⟨hl, e⟩ := List.getElem?_eq_some_iff.mp hd
      rw [List.drop_eq_getElem_cons hl, e]
    rw [hdrop] at h3
    obtain ⟨Γ4, q4, h4⟩ := h3
    refine hg p acc B4 Γ' (wipe σ vs) H4 x d Γ4 _ (n3.grow gr) rp q4 fun σ2 n4 w4 => ?_
    have w5 : wipe σ2 vs = wipe σ vs := (w4 vs hix).trans wipe_wipe
    refine ⟨w5, ?_⟩
    have hlen : (wipe σ vs).length = σ2.length := by rw [← w5, wipe_length]
    have hoth : ∀ j, j ∉ vs → (wipe σ vs)[j]? = σ2[j]? := fun j hj => by rw [← w5, wipe_get hj]
    refine ht p acc B4 Γ4 σ2 H4 _ _ n4 h4 fun q Γ5 H5 B5 e5 n5 h5 => ?_
    have e5' : Ex B' B5 := gr.vis.trans e5
    cases q with
    | true =>
      have h5' : A no Γ5 fun w Γ3 => ∃ d Γ4, fix Γ3 w = some (d, Γ4) ∧ okW Γ4 vs = true ∧ dLcR G tD A vs Qd (xs.drop (i + 1)) (ds ++ [d]) (wipeG Γ4 vs) := h5
      show te σ2 H5 _
      refine he p acc B5 Γ5 σ2 H5 _ _ n5 h5' fun w Γ6 v H6 B6 e6 n6 r6 h6 => ?_
      obtain ⟨d6, Γ7, f6, hw6, h7⟩ := h6
      obtain ⟨B7, e7, n7, r7⟩ := n6.fixed r6 f6
      have g7 : H6 p = some (.lst acc) := n7.frm.lst (lcF_same pF)
      have ee : Ex B' B7 := (e5'.trans e6).trans e7
      refine ⟨acc, g7, Evl.sz_lt (by omega), B7, wipeG Γ7 vs, acc ++ [v], ds ++ [d6], e2.trans ee, (n7.lcMore pF).wipe hw6 hlen hoth, (ra.mono ee).app (.one r7), ?_, fun j s hj hs => (wipeG_get hs).resolve_right fun z => z.1 hj, h7⟩
      rw [List.length_append, List.length_singleton]
      omega
    | false =>
      obtain ⟨hw5, h6⟩ : okW Γ5 vs = true ∧ dLcR G tD A vs Qd (xs.drop (i + 1)) ds (wipeG Γ5 vs) := h5
      exact ⟨B5, wipeG Γ5 vs, acc, ds, e2.trans e5', n5.wipe hw5 hlen hoth, ra.mono e5', by omega, fun j s hj hs => (wipeG_get hs).resolve_right fun z => z.1 hj, h6⟩
  · have e : i = xs.length := by omega
    subst e
    rw [List.drop_length] at h3
    have n4 : En (P.lc p acc) B' Γ' σ H' := n3.slots (wipe_length σ vs).symm fun j s hj hs => by
      by_cases q : j ∈ vs
      · exact absurd (hnon j s q hj) hs
      · rw [wipe_get q]
    obtain ⟨n5, z⟩ := n4.lcEnd pF ra
    exact .inl ⟨it.stop B' H' e2 n3.sub, k ds Γ' p acc H' B' (e1.trans e2) n5 z h3⟩
/-- the blocks of a comprehension -/
def Fam.blk (F : Fam) (scope : Scope) : Fam where
  ι := F.ι × Shared × Hp × Addr × List (Str × Addr) × List Addr
  X := fun z => (F.X z.1).blk z.2.1 z.2.2.1 scope (compEnvC scope z.2.2.2.2.1 z.2.2.2.1 (F.X z.1).env) z.2.2.2.2.2
  K := F.K
  k := fun z => F.k z.1
  ts := F.ts
section
variable {F : Fam} {E : XK} {elt tg iter : Expr} {ifs : List Expr} {scope : Scope} {pos : Pos} {I : DI} {G : DG} {ix : List Nat} {tD : DT} {A : DE}
theorem pdo_lc (own : List (Str × Nat)) (hc : ∀ j, (F.X j).calm = true) (hN : ∀ j, (F.X j).N.Nodup) (hi : PDI F E tg iter I) (ok : ∀ j, BlkOk (F.X j).N (F.X j).env.scope scope own)
    (hg : PDG (F.blk scope) tg G ix) (ht : PDTs (F.blk scope) E0 ifs tD) (he : PD (F.blk scope) E0 elt A)
    (hix : ∀ i ∈ ix, i ∈ own.map (·.2) := by decide) (hs : ∀ j x, foldedSetIterable iter (F.X j).env x = pure x := by intro _ _; rfl) : PDO F E (.ListComp elt [⟨tg, iter, ifs, 0⟩] scope pos) (dLc I G tD A (own.map (·.2))) :=
  let ⟨_, p1, l1⟩ := hi; let ⟨_, p2, l2⟩ := hg; let ⟨_, p3, l3⟩ := ht; let ⟨_, p4, l4⟩ := he
  ⟨_, fun j => pe_lc (hc j) (hN j) (p1 j) (ok j) (fun s H C cl fp => p2 (j, s, H, C, cl, fp)) (fun s H C cl fp => p3 (j, s, H, C, cl, fp)) (fun s H C cl fp => p4 (j, s, H, C, cl, fp)) (hs j),
    fun P hK hE => lo_lc (l1 P hK hE) (fun p acc => l2 (P.lc p acc) hK) (fun p acc => l3 (P.lc p acc) hK ⟨rfl, hE.2⟩) (fun p acc => l4 (P.lc p acc) hK ⟨rfl, hE.2⟩) hix⟩
theorem pd_setLc (i : Nat) (own : List (Str × Nat)) {y : Str} {py spos : Pos} (hc : ∀ j, (F.X j).calm = true) (hN : ∀ j, (F.X j).N.Nodup) (hi : PDI F E tg iter I)
    (hsw : ∀ j, swapsWith (.ListComp elt [⟨tg, iter, ifs, 0⟩] scope pos) (some (.Name y py)) spos.line (F.X j).env = pure true) (ok : ∀ j, BlkOk (F.X j).N (F.X j).env.scope scope own)
    (hg : PDG (F.blk scope) tg G ix) (ht : PDTs (F.blk scope) E0 ifs tD) (he : PD (F.blk scope) E0 elt A)
    (hy : ∀ j, (F.X j).N[i]? = some y := by intro _; rfl) (hyl : ∀ j, (F.X j).env.scope.names.lookup y = some .local := by intro _; rfl)
    (hix : ∀ i ∈ ix, i ∈ own.map (·.2) := by decide) (hs : ∀ j x, foldedSetIterable iter (F.X j).env x = pure x := by intro _ _; rfl) : PDS F E (.Assign [.Name y py] (.ListComp elt [⟨tg, iter, ifs, 0⟩] scope pos) spos) (dAsgO i (dLc I G tD A (own.map (·.2)))) :=
  let ⟨_, p1, l1⟩ := hi; let ⟨_, p2, l2⟩ := hg; let ⟨_, p3, l3⟩ := ht; let ⟨_, p4, l4⟩ := he
  ⟨_, fun j => ps_setLc (hc j) (hN j) (hy j) (hyl j) (hsw j) (p1 j) (ok j) (fun s H C cl fp => p2 (j, s, H, C, cl, fp)) (fun s H C cl fp => p3 (j, s, H, C, cl, fp)) (fun s H C cl fp => p4 (j, s, H, C, cl, fp)) (hs j),
    fun P hK hE => ls_asgO (lo_lc (l1 P hK hE) (fun p acc => l2 (P.lc p acc) hK) (fun p acc => l3 (P.lc p acc) hK ⟨rfl, hE.2⟩) (fun p acc => l4 (P.lc p acc) hK ⟨rfl, hE.2⟩) hix)⟩
end
end DL

set_option Elab.async false
set_option linter.all false
set_option maxRecDepth 100000
set_option maxHeartbeats 4000000
namespace DL
open PySem PySem.Spec PyProof.Rows L2


/-! ### what a def promises of data -/
/-- by the arguments: what is wanted of the result, of an exception -/
abbrev Sd := List D → (D → Prop) → Xd → Prop
/-- .. of a def whose first argument is a list that it may write: by the list, the arguments -/
abbrev SdB := List D → List D → (D → List D → Prop) → Prop
def Dj (B F : Hp) : Prop := ∀ b, F b ≠ none → B b = none
def XkD (K : PySem.W.Frag) (B F : Hp) (E : XK) : Xd := fun C fs => ∀ (d : Option Addr) (fvs : List (Str × V)) (H' B' : Hp), Ex B B' → Ex B' H' → Ex F H' → Dj B' F → OkX K H' B' d fvs fs → E (.ref C) d H'
def spD (K : PySem.W.Frag) (ts : List Addr) (sd : Sd) : Sp := fun vs H Q E => ∃ (ds : List D) (F B : Hp), (∀ T ∈ ts, TabG F T) ∧ RpL K B vs ds ∧ Ex B H ∧ Ex F H ∧ Dj B F ∧
  sd ds (fun r => ∀ (v : V) (H' B' : Hp), Ex B B' → Ex B' H' → Ex F H' → Dj B' F → Rp K B' v r → Q v H') (XkD K B F E)
def spB (K : PySem.W.Frag) (ts : List Addr) (sd : SdB) : Sp := fun vs H Q E => ∃ (a : Addr) (us xs : List V) (l ds : List D) (F B : Hp), (∀ T ∈ ts, TabG F T) ∧ vs = .ref a :: us ∧ H a = some (.lst xs) ∧ RpL K B xs l ∧ RpL K B us ds ∧ Ex B H ∧ Ex F H ∧ Dj B F ∧ B a = none ∧ F a = none ∧
  sd l ds (fun r l' => ∀ (v : V) (xs' : List V) (H' B' : Hp), Ex B B' → Ex B' H' → Ex F H' → Dj B' F → B' a = none → H' a = some (.lst xs') → RpL K B' xs' l' → Rp K B' v r → Q v H')
def startD (n : Nat) (ss : List Sl) : Gm := ss ++ List.replicate (n - ss.length) .non
theorem startD_get {n : Nat} {ss : List Sl} {i : Nat} {s : Sl} (h : (startD n ss)[i]? = some s) : ss[i]? = some s ∨ s = .non := by
  unfold startD at h
  rw [List.getElem?_append] at h
  split at h
  · exact .inl h
  · rw [List.getElem?_replicate] at h
    split at h
    · cases h; exact .inr rfl
    · cases h
theorem start_get {N : List Str} {vs : List V} {i : Nat} {v : V} (h : vs[i]? = some v) : (L2.start N vs)[i]? = some (some v) := by
  unfold L2.start
  rw [List.getElem?_append]
  have hl : i < vs.length := (List.getElem?_eq_some_iff.mp h).1
  rw [if_pos (by rw [List.length_map]; exact hl), List.getElem?_map, h]
  rfl
theorem start_len {N : List Str} {vs : List V} (h : vs.length ≤ N.length) : (L2.start N vs).length = N.length := by
  unfold L2.start
  rw [List.length_append, List.length_map, List.length_replicate]
  omega
theorem startD_len {n : Nat} {ss : List Sl} (h : ss.length ≤ n) : (startD n ss).length = n := by
  unfold startD
  rw [List.length_append, List.length_replicate]
  omega
theorem En.begin0 {P : Par} {N : List Str} {vs : List V} {ds : List D} {H : Hp} (hp : P.pin = []) (r : RpL P.K P.B0 vs ds) (hN : vs.length ≤ N.length) (e : Ex P.B0 H) (f : Ex P.F H) (dj : Dj P.B0 P.F) : En P P.B0 (startD N.length (ds.map .dat)) (L2.start N vs) H where
  len := by rw [start_len hN, startD_len (by rw [List.length_map, ← r.len]; exact hN)]
  base := Ex.refl _
  sub := e
  frm := f
  dj := dj
  dat := fun i d h => by
    rcases startD_get h with h | h
    · rw [List.getElem?_map] at h
      cases q : ds[i]? with
      | none => rw [q] at h; cases h
      | some d' =>
        rw [q] at h
        cases h
        obtain ⟨v, h1, h2⟩ := r.getD q
        exact ⟨v, start_get h1, h2⟩
    · cases h
  own := fun i p l h => by
    rcases startD_get h with h | h
    · rw [List.getElem?_map] at h
      cases q : ds[i]? with
      | none => rw [q] at h; cases h
      | some d' => rw [q] at h; cases h
    · cases h
  inj := fun i j p p' l l' a h => by
    rcases startD_get h with h | h
    · rw [List.getElem?_map] at h
      cases q : ds[i]? with
      | none => rw [q] at h; cases h
      | some d' => rw [q] at h; cases h
    · cases h
  pin := fun q hq => by rw [hp] at hq; cases hq
  hf := .none fun i M h => by
    rcases startD_get h with h | h
    · rw [List.getElem?_map] at h
      cases q : ds[i]? with
      | none => rw [q] at h; cases h
      | some d' => rw [q] at h; cases h
    · cases h
theorem En.beginB {P : Par} {N : List Str} {a : Addr} {us xs : List V} {l ds : List D} {H : Hp} (hp : P.pin = [(0, a)]) (ha : H a = some (.lst xs)) (rl : RpL P.K P.B0 xs l) (r : RpL P.K P.B0 us ds) (hN : us.length + 1 ≤ N.length) (e : Ex P.B0 H) (f : Ex P.F H) (dj : Dj P.B0 P.F) (ba : P.B0 a = none) (fa : P.F a = none) :
    En P P.B0 (startD N.length (.own true l :: ds.map .dat)) (L2.start N (.ref a :: us)) H where
  len := by rw [start_len (by simpa using hN), startD_len (by rw [List.length_cons, List.length_map, ← r.len]; exact hN)]
  base := Ex.refl _
  sub := e
  frm := f
  dj := dj
  dat := fun i d h => by
    rcases startD_get h with h | h
    · cases i with
      | zero => cases h
      | succ i =>
        rw [List.getElem?_cons_succ, List.getElem?_map] at h
        cases q : ds[i]? with
        | none => rw [q] at h; cases h
        | some d' =>
          rw [q] at h
          cases h
          obtain ⟨v, h1, h2⟩ := r.getD q
          exact ⟨v, start_get (vs := .ref a :: us) (i := i + 1) (by rw [List.getElem?_cons_succ]; exact h1), h2⟩
    · cases h
  own := fun i p l' h => by
    rcases startD_get h with h | h
    · cases i with
      | zero =>
        cases h
        exact ⟨a, xs, start_get rfl, ha, rl, ba, fa⟩
      | succ i =>
        rw [List.getElem?_cons_succ, List.getElem?_map] at h
        cases q : ds[i]? with
        | none => rw [q] at h; cases h
        | some d' => rw [q] at h; cases h
    · cases h
  inj := fun i j p p' m m' c h h' _ _ => by
    have z : ∀ {i : Nat} {p : Bool} {m : List D}, (startD N.length (.own true l :: ds.map .dat))[i]? = some (.own p m) → i = 0 := fun {i p m} h => by
      rcases startD_get h with h | h
      · cases i with
        | zero => rfl
        | succ i =>
          rw [List.getElem?_cons_succ, List.getElem?_map] at h
          cases q : ds[i]? with
          | none => rw [q] at h; cases h
          | some d' => rw [q] at h; cases h
      · cases h
    exact (z h).trans (z h').symm
  pin := fun q hq => by
    rw [hp] at hq
    rw [List.mem_singleton.mp hq]
    exact ⟨l, by unfold startD; rfl, start_get rfl⟩
  hf := .none fun i M h => by
    rcases startD_get h with h | h
    · cases i with
      | zero => cases h
      | succ i =>
        rw [List.getElem?_cons_succ, List.getElem?_map] at h
        cases q : ds[i]? with
        | none => rw [q] at h; cases h
        | some d' => rw [q] at h; cases h
    · cases h
/-- a def's body as a family of one -/
def Fam.of (ts : List Addr) (X : Cx) : Fam := ⟨Unit, fun _ => X, X.K, fun _ => rfl, ts⟩
section
variable {P : Program} {w : World} {K : PySem.W.Frag} {mg : Str → Option Value} {base : Heap} {ts : List Addr}
/-- a def that raises nothing -/
theorem okDef {x qual : Str} {st : Stmt} {f : Addr} {fd : FuncData} {N ps : List Str} {k : Nat} {sd : Sd} {T : DS} (F : Fun K x qual st f fd) (S : FnScope N ps (defScope st)) (hps : ps.length ≤ N.length)
    (hl : ∀ ds Q E, sd ds Q E → ds.length = ps.length)
    (hb : ∀ (cdv : Value) (A : Around) (outer : List Env) (s : Shared) (H : Hp) (E : XK), Room k (A.deeper (envOfC qual (defScope st) s.heap.objs.size f cdv)) → PDSs (Fam.of ts (cxOf CX0 P w K mg base N qual (defScope st) f cdv A outer s H E).nox) E0 (defBody st) T)
    (hr : ∀ ds Q E, sd ds Q E → T no { nx := fun _ => Q .non, rt := fun d _ => Q d } (startD N.length (ds.map .dat))) : FnOk P w K mg base CX0 (k + 1) f fd ps (spD K ts sd) := by
  refine F.ok S (fun vs H Q E h => ?_) (fun cdv A outer s H vs Q E hroom h => ?_)
  · obtain ⟨ds, F, B, _, r, _, _, _, h⟩ := h
    rw [r.len]
    exact hl _ _ _ h
  · obtain ⟨ds, F, B, tb, r, e, f', dj, h⟩ := h
    obtain ⟨t, pt, lt⟩ := hb cdv A outer s H E hroom
    refine ⟨t, pt (), ?_⟩
    have hlen : vs.length ≤ N.length := by rw [r.len, hl _ _ _ h]; exact hps
    let Q' : Par := ⟨K, F, [], B, no, E0, ts, tb, fun _ _ _ _ _ _ z => z.elim⟩
    have n : En Q' B (startD N.length (ds.map .dat)) (L2.start N vs) H := En.begin0 (P := Q') rfl r hlen e f' dj
    exact lt Q' rfl ⟨rfl, rfl⟩ B _ _ H _ _ n (hr _ _ _ h) ⟨fun Γ' σ' H' B' x n' q => q .non H' B' x n'.sub n'.frm n'.dj .non, fun d Γ' σ' v H' B' x n' rp q => q v H' B' x n'.sub n'.frm n'.dj rp, fun _ _ _ _ _ _ z => z.elim, fun _ _ _ _ _ _ z => z.elim⟩
/-- .. whose first argument it may write -/
theorem okDefB {x qual : Str} {st : Stmt} {f : Addr} {fd : FuncData} {N ps : List Str} {k : Nat} {sd : SdB} {T : DS} (F : Fun K x qual st f fd) (S : FnScope N ps (defScope st)) (hps : ps.length ≤ N.length)
    (hl : ∀ l ds Q, sd l ds Q → ds.length + 1 = ps.length)
    (hb : ∀ (cdv : Value) (A : Around) (outer : List Env) (s : Shared) (H : Hp) (E : XK), Room k (A.deeper (envOfC qual (defScope st) s.heap.objs.size f cdv)) → PDSs (Fam.of ts (cxOf CX0 P w K mg base N qual (defScope st) f cdv A outer s H E).nox) E0 (defBody st) T)
    (hr : ∀ l ds Q, sd l ds Q → T no { nx := fun Γ => ∀ l', Γ[0]? = some (.own true l') → Q .non l', rt := fun d Γ => ∀ l', Γ[0]? = some (.own true l') → Q d l' } (startD N.length (.own true l :: ds.map .dat))) : FnOk P w K mg base CX0 (k + 1) f fd ps (spB K ts sd) := by
  refine F.ok S (fun vs H Q E h => ?_) (fun cdv A outer s H vs Q E hroom h => ?_)
  · obtain ⟨a, us, xs, l, ds, F, B, _, rfl, _, _, r, _, _, _, _, _, h⟩ := h
    rw [List.length_cons, r.len]
    exact hl _ _ _ h
  · obtain ⟨a, us, xs, l, ds, F, B, tb, rfl, ha, rl, r, e, f', dj, ba, fa, h⟩ := h
    obtain ⟨t, pt, lt⟩ := hb cdv A outer s H E hroom
    refine ⟨t, pt (), ?_⟩
    have hlen : us.length + 1 ≤ N.length := by rw [r.len, hl _ _ _ h]; exact hps
    let Q' : Par := ⟨K, F, [(0, a)], B, no, E0, ts, tb, fun _ _ _ _ _ _ z => z.elim⟩
    have n : En Q' B (startD N.length (.own true l :: ds.map .dat)) (L2.start N (.ref a :: us)) H := En.beginB (P := Q') rfl ha rl r hlen e f' dj ba fa
    have fin : ∀ {Γ' : Gm} {σ' : L2.St} {H' B' : Hp}, En Q' B' Γ' σ' H' → ∃ l' xs', Γ'[0]? = some (.own true l') ∧ H' a = some (.lst xs') ∧ RpL K B' xs' l' ∧ B' a = none := fun {Γ' σ' H' B'} n' => by
      obtain ⟨l', g1, g2⟩ := n'.pin (0, a) (List.mem_singleton.mpr rfl)
      obtain ⟨c, xs', h1, h2, h3, h4, _⟩ := n'.own 0 true l' g1
      rw [g2] at h1
      cases h1
      exact ⟨l', xs', g1, h2, h3, h4⟩
    refine lt Q' rfl ⟨rfl, rfl⟩ B _ _ H _ _ n (hr _ _ _ h) ⟨fun Γ' σ' H' B' x n' q => ?_, fun d Γ' σ' v H' B' x n' rp q => ?_, fun _ _ _ _ _ _ z => z.elim, fun _ _ _ _ _ _ z => z.elim⟩
    · obtain ⟨l', xs', g1, g2, g3, g4⟩ := fin n'
      exact q l' g1 .non xs' H' B' x n'.sub n'.frm n'.dj g4 g2 g3 .non
    · obtain ⟨l', xs', g1, g2, g3, g4⟩ := fin n'
      exact q l' g1 v xs' H' B' x n'.sub n'.frm n'.dj g4 g2 g3 rp
end
/-! ### calls -/
open Classical in
/-- what a call may not see: what this def hides, and its own lists -/
noncomputable def hidF (P : Par) (Γ : Gm) (σ : L2.St) (H : Hp) : Hp := fun b => if (∃ (i : Nat) (p : Bool) (l : List D), Γ[i]? = some (.own p l) ∧ σ[i]? = some (some (.ref b))) ∨ ∃ (i : Nat) (M : Mm), Γ[i]? = some (.heap M) ∧ InReg M H b then H b else P.F b
section
variable {P : Par} {Bv : Hp} {Γ : Gm} {σ : L2.St} {H : Hp}
theorem hidF_own {i : Nat} {p : Bool} {l : List D} {b : Addr} (h1 : Γ[i]? = some (.own p l)) (h2 : σ[i]? = some (some (.ref b))) : hidF P Γ σ H b = H b := if_pos (.inl ⟨i, p, l, h1, h2⟩)
theorem hidF_reg {i : Nat} {M : Mm} {b : Addr} (h1 : Γ[i]? = some (.heap M)) (h2 : InReg M H b) : hidF P Γ σ H b = H b := if_pos (.inr ⟨i, M, h1, h2⟩)
theorem hidF_F (n : En P Bv Γ σ H) {b : Addr} {o : HO} (h : P.F b = some o) : hidF P Γ σ H b = some o := by
  unfold hidF
  split
  · rename_i z
    rcases z with ⟨i, p, l, h1, h2⟩ | ⟨i, M, h1, h2⟩
    · obtain ⟨a, vs, g1, _, _, _, g5⟩ := n.own i p l h1
      rw [h2] at g1
      cases g1
      rw [h] at g5
      cases g5
    · have := ((n.hf.2 i M h1).2 b h2).1
      rw [h] at this
      cases this
  · exact h
theorem hidF_tab (n : En P Bv Γ σ H) : ∀ T ∈ P.ts, TabG (hidF P Γ σ H) T := fun T hT =>
  let ⟨ps, h1, h2⟩ := P.tab T hT
  ⟨ps, hidF_F n h1, h2⟩
theorem hidF_ex (n : En P Bv Γ σ H) : Ex (hidF P Γ σ H) H := fun b o h => by
  unfold hidF at h
  split at h
  · exact .inl h
  · exact n.frm b o h
theorem hidF_dj (n : En P Bv Γ σ H) : Dj Bv (hidF P Γ σ H) := fun b h => by
  unfold hidF at h
  split at h
  · rename_i z
    rcases z with ⟨i, p, l, h1, h2⟩ | ⟨i, M, h1, h2⟩
    · obtain ⟨a, vs, g1, _, _, g4, _⟩ := n.own i p l h1
      rw [h2] at g1
      cases g1
      exact g4
    · exact ((n.hf.2 i M h1).2 b h2).2.1
  · exact n.dj b h
/-- behind a call that wrote nothing of ours -/
theorem En.called {B' H' : Hp} (n : En P Bv Γ σ H) (e : Ex Bv B') (e1 : Ex B' H') (e2 : Ex (hidF P Γ σ H) H') (dj : Dj B' (hidF P Γ σ H)) : En P B' Γ σ H' where
  len := n.len
  base := n.base.trans e
  sub := e1
  frm := fun b o h => e2 b o (hidF_F n h)
  dj := fun b h => by
    cases q : P.F b with
    | none => exact absurd q h
    | some o => exact dj b (by rw [hidF_F n q]; exact fun z => nomatch z)
  dat := fun i d h => let ⟨v, a, b⟩ := n.dat i d h; ⟨v, a, b.mono e⟩
  own := fun i p l h => by
    obtain ⟨a, vs, g1, g2, g3, g4, g5⟩ := n.own i p l h
    have z : hidF P Γ σ H a = some (.lst vs) := by rw [hidF_own h g1]; exact g2
    exact ⟨a, vs, g1, e2.lst z, g3.mono e, dj a (by rw [z]; exact fun z => nomatch z), g5⟩
  inj := n.inj
  pin := n.pin
  hf := n.hf.to (fun _ _ h => h) e (fun i M hM => (n.hf.2 i M hM).1.keep fun b o hb ho hn => e2.get (by rw [hidF_reg hM hb]; exact ho) hn) (fun i M hM b hb f _ => ⟨f, dj b (by rw [hidF_reg hM hb]; exact (n.hf.2 i M hM).1.alloc hb)⟩) (fun _ _ _ _ _ k => k)
end
/-- without one address -/
def but (F : Hp) (a : Addr) : Hp := fun b => if b = a then none else F b
theorem but_same {F : Hp} {a : Addr} : but F a a = none := if_pos rfl
theorem but_ne {F : Hp} {a b : Addr} (h : b ≠ a) : but F a b = F b := if_neg h
section
variable {P : Par} {Bv : Hp} {Γ : Gm} {σ : L2.St} {H : Hp}
/-- behind a call that may have written the list of slot i -/
theorem En.calledB {B' H' : Hp} {i : Nat} {p : Bool} {l l' : List D} {a : Addr} {xs' : List V} (n : En P Bv Γ σ H) (hi : Γ[i]? = some (.own p l)) (ha : σ[i]? = some (some (.ref a))) (e : Ex Bv B') (e1 : Ex B' H') (e2 : Ex (but (hidF P Γ σ H) a) H') (dj : Dj B' (but (hidF P Γ σ H) a))
    (ba : B' a = none) (h' : H' a = some (.lst xs')) (r : RpL P.K B' xs' l') : En P B' (Γ.set i (.own p l')) σ H' := by
  obtain ⟨a0, vs0, g1, g2, g3, g4, g5⟩ := n.own i p l hi
  rw [ha] at g1
  cases g1
  have lt : i < Γ.length := (List.getElem?_eq_some_iff.mp hi).1
  exact {
    len := by rw [List.length_set]; exact n.len
    base := n.base.trans e
    sub := e1
    frm := fun b o h => by
      have : b ≠ a := fun z => by rw [z, g5] at h; cases h
      exact e2 b o (by rw [but_ne this]; exact hidF_F n h)
    dj := fun b h => by
      cases q : P.F b with
      | none => exact absurd q h
      | some o =>
        have : b ≠ a := fun z => by rw [z, g5] at q; cases q
        exact dj b (by rw [but_ne this, hidF_F n q]; exact fun z => nomatch z)
    dat := fun j d h => by
      rcases get_set h with ⟨rfl, q⟩ | ⟨q, h⟩
      · cases q
      · obtain ⟨v, k1, k2⟩ := n.dat j d h
        exact ⟨v, k1, k2.mono e⟩
    own := fun j q m h => by
      rcases get_set h with ⟨rfl, z⟩ | ⟨z, h⟩
      · cases z
        exact ⟨a, xs', ha, h', r, ba, g5⟩
      · obtain ⟨c, vs, k1, k2, k3, k4, k5⟩ := n.own j q m h
        have ne : c ≠ a := fun y => z (n.inj j i q p m l a h hi (by rw [k1, y]) ha)
        have y : but (hidF P Γ σ H) a c = some (.lst vs) := by rw [but_ne ne, hidF_own h k1]; exact k2
        exact ⟨c, vs, k1, e2.lst y, k3.mono e, dj c (by rw [y]; exact fun z => nomatch z), k5⟩
    inj := fun j k q q' m m' c h1 h2 => by
      have f : ∀ {j : Nat} {q : Bool} {m : List D}, (Γ.set i (.own p l'))[j]? = some (.own q m) → ∃ q m, Γ[j]? = some (.own q m) := fun {j q m} g => by
        rcases get_set g with ⟨rfl, _⟩ | ⟨_, g⟩
        · exact ⟨p, l, hi⟩
        · exact ⟨q, m, g⟩
      obtain ⟨_, _, k1⟩ := f h1
      obtain ⟨_, _, k2⟩ := f h2
      exact n.inj j k _ _ _ _ c k1 k2
    pin := fun q hq => by
      obtain ⟨m, k1, k2⟩ := n.pin q hq
      by_cases y : q.1 = i
      · refine ⟨l', ?_, k2⟩
        rw [y] at k1 ⊢
        rw [hi] at k1
        cases k1
        rw [List.getElem?_set_self lt]
      · exact ⟨m, by rw [List.getElem?_set_ne (Ne.symm y)]; exact k1, k2⟩
    hf := by
      have na : ∀ (i' : Nat) (M : Mm), Γ[i']? = some (.heap M) → ∀ b, InReg M H b → b ≠ a := fun i' M hM b hb z => ((n.hf.2 i' M hM).2 b hb).2.2 i p l hi (by rw [z]; exact ha)
      refine n.hf.to (fun _ _ h => heap_set (by intro _ z; cases z) h) e (fun i' M hM => (n.hf.2 i' M hM).1.keep fun b o hb ho hn => e2.get (by rw [but_ne (na i' M hM b hb), hidF_reg hM hb]; exact ho) hn) (fun i' M hM b hb f _ => ⟨f, dj b (by rw [but_ne (na i' M hM b hb), hidF_reg hM hb]; exact (n.hf.2 i' M hM).1.alloc hb)⟩) (fun i' M hM b hb k j q m h => ?_)
      rcases get_set h with ⟨rfl, z⟩ | ⟨z, h⟩
      · exact k j p l hi
      · exact k j q m h }
end
section
variable {F : Fam} {E : XK} {e : Expr} {es : List Expr} {R : DA} {pos p : Pos} {x : Str} {k : Nat} {f : Addr} {fd : FuncData} {ps : List Str} {sd : Sd} {sb : SdB}
/-- a call of a def that raises nothing -/
def dCall (sd : Sd) (R : DA) : DE := fun xd Γ Q => R xd Γ fun ws Γ1 => ∃ ds Γ2, fixL Γ1 ws = some (ds, Γ2) ∧ sd ds (fun r => Q (.dat r) Γ2) no
theorem le_call {P : Par} {t : TA} {sd : Sd} (hm : ∀ ds Q Q' E E', (∀ r, Q r → Q' r) → (∀ C fs, E C fs → E' C fs) → sd ds Q E → sd ds Q' E') (l : LA P t R) : LE P (tCall (spD P.K P.ts sd) [] E0 t) (dCall sd R) := fun Bv Γ σ H Qd Q n h k =>
  l Bv Γ σ H _ _ n h fun ws Γ1 vs H1 B1 e1 n1 r1 h1 => by
    obtain ⟨ds, Γ2, f, h1⟩ := h1
    obtain ⟨B2, e2, n2, r2⟩ := n1.fixedL r1 f
    refine ⟨ds, hidF P Γ2 σ H1, B2, hidF_tab n2, by rw [List.append_nil]; exact r2, n2.sub, hidF_ex n2, hidF_dj n2, hm _ _ _ _ _ (fun r q v H' B' x1 x2 x3 x4 rp => ?_) (fun C fs z => z.elim) h1⟩
    exact finD k ((e1.trans e2).trans x1) (n2.called x1 x2 x3 x4) rp q
theorem pd_call (hF : ∀ j, FnOk (F.X j).prog (F.X j).w (F.X j).K (F.X j).mg (F.X j).base CX0 k f fd ps (spD (F.X j).K F.ts sd)) (hm : ∀ ds Q Q' E E', (∀ r, Q r → Q' r) → (∀ C fs, E C fs → E' C fs) → sd ds Q E → sd ds Q' E') (hr : ∀ j, Room k (F.X j).A) (hmg : ∀ j, (F.X j).mg x = some (.ref f)) (hk : ∀ j, PySem.W.keepIn (F.X j).K (.ref f) = true) (hb : ∀ j, Binds (F.X j).K fd ps [])
    (ha : PDA F E (e :: es) R) (hg : ∀ j, Gl (F.X j) x := by intro _; rfl) (hdb : (x == ("__debug__" : Str)) = false := by decide) (he : ∀ j, starEach (e :: es) (F.X j).env = (false, eval e (F.X j).env) :: starEach es (F.X j).env := by intro _; rfl) (hpl : ∀ j, (backTo pos (starEach es (F.X j).env)).any (·.1) = false := by intro _; rfl) :
    PD F E (.Call (.Name x p) (e :: es) [] pos) (dCall sd R) :=
  let ⟨t, pa, la⟩ := ha
  ⟨tCall (spD F.K F.ts sd) [] E0 t, fun j => F.k j ▸ pe_call (hF j) (hr j) (hg j) (hmg j) (hk j) (hb j) .nil pass0 (pa j) hdb (he j) (hpl j), fun P hK hE => hK ▸ hE.2 ▸ le_call hm (la P hK hE)⟩
/-- .. that may write the list of slot i, its first argument -/
def dCallB (i : Nat) (sb : SdB) (R : DA) : DE := fun xd Γ Q => R xd Γ fun ws Γ1 => ∃ us ds Γ2 p l, ws = .slot i :: us ∧ fixL Γ1 us = some (ds, Γ2) ∧ Γ2[i]? = some (.own p l) ∧ sb l ds (fun r l' => Q (.dat r) (Γ2.set i (.own p l')))
theorem le_callB {P : Par} {t : TA} {i : Nat} (hm : ∀ l ds Q Q', (∀ r l', Q r l' → Q' r l') → sb l ds Q → sb l ds Q') (l : LA P t R) : LE P (tCall (spB P.K P.ts sb) [] E0 t) (dCallB i sb R) := fun Bv Γ σ H Qd Q n h k =>
  l Bv Γ σ H _ _ n h fun ws Γ1 vs H1 B1 e1 n1 r1 h1 => by
    obtain ⟨us, ds, Γ2, p, l, rfl, f, hi, h1⟩ := h1
    match vs, r1 with
    | v :: vs, r1 =>
      obtain ⟨B2, e2, n2, r2⟩ := n1.fixedL r1.2 f
      obtain ⟨a, xs, g1, g2, g3, g4, g5⟩ := n2.own i p l hi
      have hv : σ[i]? = some (some v) := r1.1
      rw [g1] at hv
      cases hv
      have ex : Ex (but (hidF P Γ2 σ H1) a) H1 := fun b o z => by
        by_cases q : b = a
        · rw [q, but_same] at z; cases z
        · rw [but_ne q] at z; exact hidF_ex n2 b o z
      have tbb : ∀ T ∈ P.ts, TabG (but (hidF P Γ2 σ H1) a) T := fun T hT => by
        obtain ⟨ps, k1, k2⟩ := P.tab T hT
        have ne : T ≠ a := fun z => by rw [z, g5] at k1; cases k1
        exact ⟨ps, by rw [but_ne ne]; exact hidF_F n2 k1, k2⟩
      have dj : Dj B2 (but (hidF P Γ2 σ H1) a) := fun b z => by
        by_cases q : b = a
        · rw [q]; exact g4
        · rw [but_ne q] at z; exact hidF_dj n2 b z
      refine ⟨a, vs, xs, l, ds, but (hidF P Γ2 σ H1) a, B2, tbb, by rw [List.append_nil], g2, g3, r2, n2.sub, ex, dj, g4, but_same, hm _ _ _ _ (fun r l' q v xs' H' B' x1 x2 x3 x4 x5 x6 x7 rp => ?_) h1⟩
      exact finD k ((e1.trans e2).trans x1) (n2.calledB hi g1 x1 x2 x3 x4 x5 x6 x7) rp q
theorem pd_callB1 (i : Nat) (hF : ∀ j, FnOk (F.X j).prog (F.X j).w (F.X j).K (F.X j).mg (F.X j).base CX0 k f fd ps (spB (F.X j).K F.ts sb)) (hm : ∀ l ds Q Q', (∀ r l', Q r l' → Q' r l') → sb l ds Q → sb l ds Q') (hr : ∀ j, Room k (F.X j).A) (hmg : ∀ j, (F.X j).mg x = some (.ref f)) (hk : ∀ j, PySem.W.keepIn (F.X j).K (.ref f) = true) (hb : ∀ j, Binds (F.X j).K fd ps [])
    (ha : PDA F E (e :: es) R) (hg : ∀ j, Gl (F.X j) x := by intro _; rfl) (hdb : (x == ("__debug__" : Str)) = false := by decide) (he : ∀ j, starEach (e :: es) (F.X j).env = (false, eval e (F.X j).env) :: starEach es (F.X j).env := by intro _; rfl) (hpl : ∀ j, (backTo pos (starEach es (F.X j).env)).any (·.1) = false := by intro _; rfl) :
    PD F E (.Call (.Name x p) (e :: es) [] pos) (dCallB i sb R) :=
  let ⟨t, pa, la⟩ := ha
  ⟨tCall (spB F.K F.ts sb) [] E0 t, fun j => F.k j ▸ pe_call (hF j) (hr j) (hg j) (hmg j) (hk j) (hb j) .nil pass0 (pa j) hdb (he j) (hpl j), fun P hK hE => hK ▸ hE.2 ▸ le_callB hm (la P hK hE)⟩
end
end DL

set_option Elab.async false
set_option linter.all false
set_option maxRecDepth 100000
set_option maxHeartbeats 4000000
namespace DL
open PySem PySem.Spec PyProof.Rows L2


/-! ### promises by what is asked and what is told -/
def sdR (pre : List D → Prop) (post : List D → D → Prop) : Sd := fun ds Q _ => pre ds ∧ ∀ r, post ds r → Q r
def sdBR (pre : List D → List D → Prop) (post : List D → List D → D → List D → Prop) : SdB := fun l ds Q => pre l ds ∧ ∀ r l', post l ds r l' → Q r l'
/-- a def of the text that keeps its promise -/
structure Dn (P : Program) (w : World) (K : PySem.W.Frag) (mg : Str → Option Value) (base : Heap) (x : Str) (k : Nat) (ps : List Str) (sp : Sp) : Prop where
  ex : ∃ (f : Addr) (fd : FuncData), FnOk P w K mg base CX0 k f fd ps sp ∧ mg x = some (.ref f) ∧ PySem.W.keepIn K (.ref f) = true ∧ Binds K fd ps []
section
variable {F : Fam} {E : XK} {e : Expr} {es : List Expr} {R : DA} {pos p : Pos} {x : Str} {k : Nat} {ps : List Str}
theorem pd_callN {pre : List D → Prop} {post : List D → D → Prop} (hD : ∀ j, Dn (F.X j).prog (F.X j).w (F.X j).K (F.X j).mg (F.X j).base x k ps (spD (F.X j).K F.ts (sdR pre post))) (hr : ∀ j, Room k (F.X j).A)
    (ha : PDA F E (e :: es) R) (hg : ∀ j, Gl (F.X j) x := by intro _; rfl) (hdb : (x == ("__debug__" : Str)) = false := by decide) (he : ∀ j, starEach (e :: es) (F.X j).env = (false, eval e (F.X j).env) :: starEach es (F.X j).env := by intro _; rfl) (hpl : ∀ j, (backTo pos (starEach es (F.X j).env)).any (·.1) = false := by intro _; rfl) :
    PD F E (.Call (.Name x p) (e :: es) [] pos) (dCall (sdR pre post) R) :=
  let ⟨t, pa, la⟩ := ha
  ⟨tCall (spD F.K F.ts (sdR pre post)) [] E0 t, fun j => by
    obtain ⟨f, fd, G, hmg, hk, hb⟩ := (hD j).ex
    exact F.k j ▸ pe_call G (hr j) (hg j) hmg hk hb .nil pass0 (pa j) hdb (he j) (hpl j), fun P hK hE => hK ▸ hE.2 ▸ le_call (fun ds Q Q' E E' h1 _ z => ⟨z.1, fun r q => h1 r (z.2 r q)⟩) (la P hK hE)⟩
theorem pd_callBN (i : Nat) {pre : List D → List D → Prop} {post : List D → List D → D → List D → Prop} (hD : ∀ j, Dn (F.X j).prog (F.X j).w (F.X j).K (F.X j).mg (F.X j).base x k ps (spB (F.X j).K F.ts (sdBR pre post))) (hr : ∀ j, Room k (F.X j).A)
    (ha : PDA F E (e :: es) R) (hg : ∀ j, Gl (F.X j) x := by intro _; rfl) (hdb : (x == ("__debug__" : Str)) = false := by decide) (he : ∀ j, starEach (e :: es) (F.X j).env = (false, eval e (F.X j).env) :: starEach es (F.X j).env := by intro _; rfl) (hpl : ∀ j, (backTo pos (starEach es (F.X j).env)).any (·.1) = false := by intro _; rfl) :
    PD F E (.Call (.Name x p) (e :: es) [] pos) (dCallB i (sdBR pre post) R) :=
  let ⟨t, pa, la⟩ := ha
  ⟨tCall (spB F.K F.ts (sdBR pre post)) [] E0 t, fun j => by
    obtain ⟨f, fd, G, hmg, hk, hb⟩ := (hD j).ex
    exact F.k j ▸ pe_call G (hr j) (hg j) hmg hk hb .nil pass0 (pa j) hdb (he j) (hpl j), fun P hK hE => hK ▸ hE.2 ▸ le_callB (fun l ds Q Q' h1 z => ⟨z.1, fun r l' q => h1 r l' (z.2 r l' q)⟩) (la P hK hE)⟩
end
theorem hu64 {k : Nat} {A : Around} (hr : Room k A) : A.units + 64 < cLine := by have := hr.un; omega
theorem hu65 {k : Nat} {A : Around} (hr : Room k A) : A.units + 65 < cLine := by have := hr.un; omega
/-- what a def of the text is known by -/
structure Df (K : PySem.W.Frag) (mg : Str → Option Value) (x : Str) (st : Stmt) (ps : List Str) : Prop where
  ex : ∃ (f : Addr) (fd : FuncData), Fun K x x st f fd ∧ mg x = some (.ref f) ∧ Binds K fd ps []
theorem Df.dn {P : Program} {w : World} {K : PySem.W.Frag} {mg : Str → Option Value} {base : Heap} {x : Str} {k : Nat} {ps : List Str} {st : Stmt} {sp : Sp} (d : Df K mg x st ps) (h : ∀ (f : Addr) (fd : FuncData), Fun K x x st f fd → FnOk P w K mg base CX0 k f fd ps sp) : Dn P w K mg base x k ps sp := by
  obtain ⟨f, fd, hF, hm, hb⟩ := d.ex
  exact ⟨f, fd, h f fd hF, hm, hF.kp, hb⟩
end DL
namespace DL
open PySem PySem.Spec PyProof.Rows L2
/-! ### readings of loops -/
theorem dLoop_by {G : DG} {T : DS} {xd : Xd} {D : DEnds} (I : List DL.D → Gm → Prop) (h0 : ∀ Γ, I [] Γ → D.nx Γ)
    (hs : ∀ x r Γ, I (x :: r) Γ → ∃ Γ', G x Γ = some Γ' ∧ ∀ L : Gm → Prop, (∀ Γ, I r Γ → L Γ) → T xd { nx := L, ct := L, bk := D.nx, rt := D.rt } Γ') : ∀ xs Γ, I xs Γ → dLoop G T xd D xs Γ
  | [], Γ, h => h0 Γ h
  | x :: r, Γ, h => by
    obtain ⟨Γ', h1, h2⟩ := hs x r Γ h
    exact ⟨Γ', h1, h2 _ fun Γ q => dLoop_by I h0 hs r Γ q⟩
theorem dLcR_by {G : DG} {tt : DT} {A : DE} {vs : List Nat} {K : List D → Gm → Prop} (I : List D → List D → Gm → Prop) (h0 : ∀ acc Γ, I [] acc Γ → K acc Γ)
    (hs : ∀ x r acc Γ, I (x :: r) acc Γ → ∃ Γ1, G x Γ = some Γ1 ∧ ∀ L : List D → Gm → Prop, (∀ acc Γ, I r acc Γ → L acc Γ) → tt no Γ1 fun q Γ2 => if q = true then A no Γ2 fun w Γ3 => ∃ d Γ4, fix Γ3 w = some (d, Γ4) ∧ okW Γ4 vs = true ∧ L (acc ++ [d]) (wipeG Γ4 vs) else okW Γ2 vs = true ∧ L acc (wipeG Γ2 vs)) :
    ∀ xs acc Γ, I xs acc Γ → dLcR G tt A vs K xs acc Γ
  | [], acc, Γ, h => h0 acc Γ h
  | x :: r, acc, Γ, h => by
    obtain ⟨Γ1, h1, h2⟩ := hs x r acc Γ h
    exact ⟨Γ1, h1, h2 _ fun acc Γ q => dLcR_by I h0 hs r acc Γ q⟩
theorem dWh_by {t : DT} {T : DS} {xd : Xd} {D : DEnds} (I : Nat → Gm → Prop)
    (hs : ∀ m Γ, I m Γ → ∀ L : Gm → Prop, (∀ m' Γ', m' < m → I m' Γ' → L Γ') → t xd Γ fun q Γ1 => if q = true then T xd { nx := L, ct := L, bk := D.nx, rt := D.rt } Γ1 else D.nx Γ1) : ∀ m Γ, I m Γ → dWhile t T xd D Γ := by
  have key : ∀ n m Γ, m < n → I m Γ → dWh t T xd D n Γ := by
    intro n
    induction n with
    | zero => intro m Γ h; omega
    | succ n ih => exact fun m Γ h q => hs m Γ q _ fun m' Γ' h' q' => ih m' Γ' (by omega) q'
  exact fun m Γ h => ⟨m + 1, key (m + 1) m Γ (Nat.lt_succ_self _) h⟩
end DL
namespace DL
open PySem PySem.Spec PyProof.Rows L2
section
variable {F : Fam} {E : XK} {a b c : Expr} {A B C : DE} {pos : Pos}
theorem pdt_cmp2 {op : CmpOp} {r : R2} {rd : D2} (ho : ∀ j, OpR (F.X j) (compareOp op) r) (hl : ∀ P : Par, P.K = F.K → RL P r rd) (ha : PD F E a A) (hb : PD F E b B) (h1 : behindInMarks op b = false := by first | exact nomark _ | rfl) : PDT F E (.Compare a [op] [b] pos) (dB (dOp rd A B)) := by
  obtain ⟨_, pa, la⟩ := ha
  obtain ⟨_, pb, lb⟩ := hb
  exact ⟨_, fun j => pt_cmpR (ho j) (pa j) (pb j) h1, fun P hK hE => lt_B (le_op (hl P hK) (la P hK hE) (lb P hK hE))⟩
theorem pdt_lt (ha : PD F E a A) (hb : PD F E b B) : PDT F E (.Compare a [.Lt] [b] pos) (dB (dOp (rdI0 gLt) A B)) := pdt_cmp2 (fun _ => op_lt) (fun _ _ => rl_I0 fun _ _ _ => .bl _) ha hb
theorem pdt_le (ha : PD F E a A) (hb : PD F E b B) : PDT F E (.Compare a [.LtE] [b] pos) (dB (dOp (rdI0 gLe) A B)) := pdt_cmp2 (fun _ => op_le) (fun _ _ => rl_I0 fun _ _ _ => .bl _) ha hb
theorem pdt_gt (ha : PD F E a A) (hb : PD F E b B) : PDT F E (.Compare a [.Gt] [b] pos) (dB (dOp (rdI0 gGt) A B)) := pdt_cmp2 (fun _ => op_gt) (fun _ _ => rl_I0 fun _ _ _ => .bl _) ha hb
theorem pdt_ge (ha : PD F E a A) (hb : PD F E b B) : PDT F E (.Compare a [.GtE] [b] pos) (dB (dOp (rdI0 gGe) A B)) := pdt_cmp2 (fun _ => op_ge) (fun _ _ => rl_I0 fun _ _ _ => .bl _) ha hb
theorem pdt_eq (hu : ∀ j, (F.X j).A.units + 64 < cLine) (ha : PD F E a A) (hb : PD F E b B) : PDT F E (.Compare a [.Eq] [b] pos) (dB (dOp (rdEq false) A B)) := pdt_cmp2 (fun j => F.k j ▸ op_eqD (hu j)) (fun P hK => by rw [← hK]; exact rl_eq) ha hb
theorem pdt_ne (hu : ∀ j, (F.X j).A.units + 64 < cLine) (ha : PD F E a A) (hb : PD F E b B) : PDT F E (.Compare a [.NotEq] [b] pos) (dB (dOp (rdEq true) A B)) := pdt_cmp2 (fun j => F.k j ▸ op_neD (hu j)) (fun P hK => by rw [← hK]; exact rl_ne) ha hb
theorem pdt_in (hu : ∀ j, (F.X j).A.units + 65 < cLine) (ha : PD F E a A) (hb : PD F E b B) (h1 : behindInMarks .In b = false := by rfl) : PDT F E (.Compare a [.In] [b] pos) (dB (dOp (rdIn false) A B)) := pdt_cmp2 (fun j => F.k j ▸ op_inD (hu j)) (fun P hK => by rw [← hK]; exact rl_in) ha hb h1
theorem pdt_notIn (hu : ∀ j, (F.X j).A.units + 65 < cLine) (ha : PD F E a A) (hb : PD F E b B) (h1 : behindInMarks .NotIn b = false := by rfl) : PDT F E (.Compare a [.NotIn] [b] pos) (dB (dOp (rdIn true) A B)) := pdt_cmp2 (fun j => F.k j ▸ op_notInD (hu j)) (fun P hK => by rw [← hK]; exact rl_notIn) ha hb h1
theorem pdt_isN {j pos'} (ha : PD F E a A) : PDT F E (.Compare a [.Is] [.Constant .none j pos'] pos) (dB (dIsN false A)) := by
  obtain ⟨_, p, l⟩ := ha
  refine ⟨_, fun j => pt_cmp (pc_isN (p j)), fun P hK hE => lt_B fun Bv Γ σ H Qd Q n h k => l P hK hE Bv Γ σ H _ _ n h fun w Γ1 v H1 B1 e1 n1 r1 h1 => ?_⟩
  obtain ⟨d, hd, h1⟩ := h1
  rw [(n1.full r1 hd).isN]
  refine finD k (d := .bl _) e1 n1 (.bl _) ?_
  cases d <;> exact h1
theorem pdt_notN {j pos'} (ha : PD F E a A) : PDT F E (.Compare a [.IsNot] [.Constant .none j pos'] pos) (dB (dIsN true A)) := by
  obtain ⟨_, p, l⟩ := ha
  refine ⟨_, fun j => pt_cmp (pc_notN (p j)), fun P hK hE => lt_B fun Bv Γ σ H Qd Q n h k => l P hK hE Bv Γ σ H _ _ n h fun w Γ1 v H1 B1 e1 n1 r1 h1 => ?_⟩
  obtain ⟨d, hd, h1⟩ := h1
  rw [(n1.full r1 hd).isN]
  refine finD k (d := .bl _) e1 n1 (.bl _) ?_
  cases d <;> exact h1
end
end DL
namespace DL
open PySem PySem.Spec PyProof.Rows L2
theorem seq_go {T U : DS} {xd : Xd} {D : DEnds} {Γ : Gm} : dSeq T U xd D Γ = T xd { D with nx := U xd D } Γ := rfl
theorem seq_cut {T U : DS} {xd : Xd} {D : DEnds} {Γ : Gm} (M : Gm → Prop) (h2 : ∀ Γ, M Γ → U xd D Γ) (h1 : ∀ L : Gm → Prop, (∀ Γ, M Γ → L Γ) → T xd { D with nx := L } Γ) : dSeq T U xd D Γ := h1 _ h2
theorem itemsOf_lst (l : List D) : itemsOf (.lst l) = some l := rfl
theorem itemsOf_tup (l : List D) : itemsOf (.tup l) = some l := rfl
theorem atI_c0 {α : Type} (a : α) (l : List α) : atI (a :: l) 0 = some a := atI_nat (j := 0) rfl
theorem atI_c1 {α : Type} (a b : α) (l : List α) : atI (a :: b :: l) 1 = some b := atI_nat (j := 1) rfl
theorem atI_c2 {α : Type} (a b c : α) (l : List α) : atI (a :: b :: c :: l) 2 = some c := atI_nat (j := 2) rfl
theorem atI_c3 {α : Type} (a b c d : α) (l : List α) : atI (a :: b :: c :: d :: l) 3 = some d := atI_nat (j := 3) rfl
theorem atI_c4 {α : Type} (a b c d e : α) (l : List α) : atI (a :: b :: c :: d :: e :: l) 4 = some e := atI_nat (j := 4) rfl
theorem ixN_21 : ixN 2 1 = some 1 := rfl
theorem ixN_20 : ixN 2 0 = some 0 := rfl
theorem atI_at {l : List D} {k : Nat} {d : D} (h : l[k]? = some d) : atI l (k : Int) = some d := atI_nat h
theorem atI_int (ns : List Int) {k : Nat} (h : k < ns.length) : atI (ns.map D.int) (k : Int) = some (.int ns[k]) := atI_nat (by rw [List.getElem?_map, List.getElem?_eq_getElem h]; rfl)
theorem mem_rangeD {lo : Int} {n : Nat} {d : D} (h : d ∈ rangeD lo n) : ∃ i : Nat, i < n ∧ d = .int (lo + i) := by
  unfold rangeD at h
  obtain ⟨i, hi, rfl⟩ := List.mem_map.mp h
  exact ⟨i, List.mem_range.mp hi, rfl⟩
theorem soft_dat (d : D) : soft (.dat d) = true := rfl
theorem soft_non : soft .non = true := rfl
theorem soft_own (b : Bool) (l : List D) : soft (.own b l) = false := rfl
theorem map_snoc (ns : List Int) (i : Int) : ns.map D.int ++ [.int i] = (ns ++ [i]).map D.int := by rw [List.map_append]; rfl
end DL
namespace DL
open PySem PySem.Spec PyProof.Rows L2
/-! ### ints, rows of ints, as data -/
abbrev tI (ns : List Int) : D := .tup (ns.map D.int)
abbrev lI (ns : List Int) : D := .lst (ns.map D.int)
theorem plain_ints : ∀ ns : List Int, plainL (ns.map D.int) = true
  | [] => rfl
  | n :: ns => by simp only [List.map_cons, plainL, plain, plain_ints ns, Bool.and_self]
theorem dep_ints : ∀ ns : List Int, depL (ns.map D.int) = 0
  | [] => rfl
  | n :: ns => by simp only [List.map_cons, depL, dep, dep_ints ns, Nat.max_self]
theorem okD_tI (ns : List Int) : okD (tI ns) = true := by
  unfold okD
  simp only [plain, plain_ints, dep, dep_ints, Bool.true_and, decide_eq_true_eq]
  omega
theorem okD_lI (ns : List Int) : okD (lI ns) = true := by
  unfold okD
  simp only [plain, plain_ints, dep, dep_ints, Bool.true_and, decide_eq_true_eq]
  omega
theorem plainL_map {α : Type} (f : α → D) (h : ∀ a, plain (f a) = true) : ∀ l : List α, plainL (l.map f) = true
  | [] => rfl
  | a :: l => by simp only [List.map_cons, plainL, h a, plainL_map f h l, Bool.and_self]
theorem depL_map {α : Type} (f : α → D) (m : Nat) (h : ∀ a, dep (f a) ≤ m) : ∀ l : List α, depL (l.map f) ≤ m
  | [] => Nat.zero_le _
  | a :: l => by
    simp only [List.map_cons, depL]
    have h1 := h a
    have h2 := depL_map f m h l
    omega
theorem plain_tI (ns : List Int) : plain (tI ns) = true := by simp only [plain, plain_ints]
theorem dep_tI (ns : List Int) : dep (tI ns) ≤ 1 := by simp only [dep, dep_ints]; omega
abbrev ltI (os : List (List Int)) : D := .lst (os.map tI)
abbrev ttI (os : List (List Int)) : D := .tup (os.map tI)
theorem okD_ltI (os : List (List Int)) : okD (ltI os) = true := by
  have h := depL_map tI 1 dep_tI os
  have h1 : plain (ltI os) = true := by show plain (.lst _) = true; simp only [plain]; exact plainL_map tI plain_tI os
  have h2 : dep (ltI os) = depL (os.map tI) + 1 := by show dep (.lst _) = _; simp only [dep]
  unfold okD
  rw [h1, Bool.true_and, decide_eq_true_eq]
  omega
theorem okD_ttI (os : List (List Int)) : okD (ttI os) = true := by
  have h := depL_map tI 1 dep_tI os
  have h1 : plain (ttI os) = true := by show plain (.tup _) = true; simp only [plain]; exact plainL_map tI plain_tI os
  have h2 : dep (ttI os) = depL (os.map tI) + 1 := by show dep (.tup _) = _; simp only [dep]
  unfold okD
  rw [h1, Bool.true_and, decide_eq_true_eq]
  omega
theorem int_inj : ∀ {a b : List Int}, a.map D.int = b.map D.int → a = b
  | [], [], _ => rfl
  | [], _ :: _, h => by cases h
  | _ :: _, [], h => by cases h
  | x :: a, y :: b, h => by
    rw [List.map_cons, List.map_cons] at h
    injection h with h1 h2
    injection h1 with h1
    rw [h1, int_inj h2]
theorem tI_inj {a b : List Int} (h : tI a = tI b) : a = b := by
  injection h with h
  exact int_inj h
theorem tI_mem {o : List Int} {os : List (List Int)} : tI o ∈ os.map tI ↔ o ∈ os := by
  constructor
  · intro h
    obtain ⟨x, hx, e⟩ := List.mem_map.mp h
    rw [← tI_inj e]
    exact hx
  · exact fun h => List.mem_map_of_mem h
theorem ttI_inj : ∀ {a b : List (List Int)}, a.map tI = b.map tI → a = b
  | [], [], _ => rfl
  | [], _ :: _, h => by cases h
  | _ :: _, [], h => by cases h
  | x :: a, y :: b, h => by
    rw [List.map_cons, List.map_cons] at h
    injection h with h1 h2
    rw [tI_inj h1, ttI_inj h2]
theorem map_snoc' {α : Type} (f : α → D) (l : List α) (a : α) : l.map f ++ [f a] = (l ++ [a]).map f := by rw [List.map_append]; rfl
theorem atI_map {α : Type} (f : α → D) (l : List α) {k : Nat} (h : k < l.length) : atI (l.map f) (k : Int) = some (f l[k]) := atI_nat (by rw [List.getElem?_map, List.getElem?_eq_getElem h]; rfl)
end DL

set_option Elab.async false
set_option linter.all false
set_option maxRecDepth 100000
set_option maxHeartbeats 4000000
/-! An own exception over ValueError whose __init__ says super().__init__(a text) and self.f = its argument. -/
namespace PySem
namespace SupX
open PySem.W PySem.Calls PyProof.Rows PySem.HandSPX
def iA (b : Str) (p1 p2 : Pos) : Arguments := { posonlyargs := [], args := [{ arg := "self", annotation := none, pos := p1 }, { arg := b, annotation := none, pos := p2 }], vararg := none, kwonlyargs := [], kw_defaults := [], kwarg := none, defaults := [] }
def iB (b : Str) (e : Expr) (p0 p1 p2 p3 p4 p5 p6 p7 p8 : Pos) : List Stmt := [.Expr (.Call (.Attribute (.Call (.Name "super" p0) [] [] p1) "__init__" p2) [e] [] p3) p4, .Assign [.Attribute (.Name "self" p5) b p6] (.Name b p7) p8]
def iS (b : Str) : Scope := { kind := .function, names := [(PySem.Str.ofString "self", .local), (b, .local), (PySem.Str.ofString "__class__", .free), (PySem.Str.ofString "super", .globalImplicit)], isGenerator := false, isCoroutine := false, more := [] }
/-- what the written part says of the class x, at C, and of its __init__, at fI -/
structure XTxt (P : Program) (K : Frag) (mg : Str → Option Value) (x q : Str) (b : Str) (e : Expr) (C fI cc cda : Addr) : Prop where
  gC : mg x = some (.ref C)
  noSuper : mg "super" = none
  cls : ∃ nm q N bs bm sn sub ab col dd k0 k1 k2 k3 k5, K.lookup C = some (excClassObj nm q C N bs bm true sn sub ab col dd k0 k1 k2 k3 k5 "ValueError.__new__") ∧ refsVE bm = true
  sa : findIn K (.ref C) "__setattr__" = some (some (.builtin "object.__setattr__"))
  noN : findIn K (.ref C) b = some none
  iC : findIn K (.ref C) "__init__" = some (some (.ref fI))
  tC : typeIn K (.ref fI) = some (.type "function")
  kC : keepIn K (.ref C) = true
  exC : subIn K (.ref C) (.type "BaseException") = some true
  veC : subIn K (.ref C) (.type "ValueError") = some true
  tyC : typeIn K (.ref C) = some (.type "type")
  hdC : hasDictIn K C = true
  sup : ks_superIn K C C "__init__" = some (some (.builtin "ValueError.__init__"))
  sub : mroIn K C (.ref C) = some true
  opq : nsIn K cStatics "thirdparty.any" = some none
  cell : ∃ cl cld csl, K.lookup cc = some ⟨cl, cld, .cell (some (.ref C)), csl⟩
  code : ∃ ccl cdd vs ccs file tf, K.lookup cda = some ⟨ccl, cdd, .fields vs, ccs⟩ ∧ vs[2]? = some (.str file tf) ∧ ((P.main.file : Str) == file) = true
  top : (P.main.scope.names.lookup ("super" : Str)).isSome = false
  fn : ∃ (oc : Value) (od : Option Addr) (doc pm : Value) (an : Option Addr) (ct : Value) (osl : Array (Option Value)) (p1 p2 q0 q1 q2 q3 q4 q5 q6 q7 q8 : Pos),
    K.lookup fI = some ⟨oc, od, .func (ksFn "__init__" q (iA b p1 p2) (iB b e q0 q1 q2 q3 q4 q5 q6 q7 q8) (iS b) .none .none doc pm an (.ref cda) ct cc), osl⟩ ∧ codeIn K (.ref cda) q = true ∧ (q2.endLine == q3.line) = true
/-- the argument's form -/
structure Fm (e : Expr) : Prop where
  call : ∀ (q0 q1 q2 q3 : Pos) (env : Env), (q2.endLine == q3.line) = true → ∃ pl : Sem Bool, eval (.Call (.Attribute (.Call (.Name "super" q0) [] [] q1) "__init__" q2) [e] [] q3) env = (do
      let ov ← attributeBase (.Call (.Name "super" q0) [] [] q1) "__init__" env (eval (.Call (.Name "super" q0) [] [] q1) env)
      standAt q2.atName
      let (f, first) ← holding [ov] (getMethod ov "__init__" pl)
      callWith q3 f first (backTo q3 (starEach [e] env)) [])
  star : ∀ env : Env, starEach [e] env = [(false, eval e env)]
/-- the text that is told is made without a trace -/
def Told (P : Program) (w : World) (b : Str) (e : Expr) (v : Value) : Prop := ∀ (A : Around) (E : Value → Shared → Prop) (s : Shared) (env : Env) (m : Str → Option Value) (Q : Value → Shared → Prop), s.heap.Ns env.locals m → m b = some v → env.scope.kind = .function → env.kindOf b = some .local →
  (∀ u tk, Q u { s with toks := tk }) → wpAny (model P w) A (eval e env) Q E s
section
variable {prog : Program} {w : World} {A : Around} {E : Value → Shared → Prop} {R : Result → Shared → Prop} {s : Shared} {K : Frag} {mg mb : Str → Option Value} {C fI cc cda : Addr} {x q b : Str} {e : Expr}
/-- ValueError.__init__ bound to e, called -/
theorem call_mw {nm q : Str} {C N : Addr} {bs bm : List Value} {hdct : Bool} {sn : List Str} {sub : List Value} {ab : Bool} {col : Option Bool} {dd : Option Addr} {k0 k1 k2 k3 k5 : Option Value} {h : Heap} {g : Array GenState} {d : Drawn} {t : Nat} {os : OsState}
    {u e t0 : Addr} {rest : List Value} {Q : Value → Shared → Prop}
    (hC : h.get? C = some (excClassObj nm q C N bs bm hdct sn sub ab col dd k0 k1 k2 k3 k5 "ValueError.__new__")) (he : h.get? e = some (excO C t0)) (hu : h.get? u = some (kxs_mw "ValueError.__init__" e)) (hrest : rest.length ≤ sizeLine)
    (hq : ∀ h' t1, (∀ b o, b ≠ e → h.get? b = some o → h'.get? b = some o) → h'.get? e = some (excO C t1) → Q .none ⟨h', g, d, t, os⟩) :
    wpAny (model prog w) A (call (.ref u) rest) Q E ⟨h, g, d, t, os⟩ := by
  refine wpAny_call (codeAny_of_tree ?_)
  show wpAny _ A.in1 (callAny (.ref u) ⟨rest, []⟩) _ _ _
  simp only [callAny]
  refine wpAny_bind (wpAny_load hu ?_)
  simp only [kxs_mw, show (Value.type "method-wrapper" == Value.type "method" || Value.type "method-wrapper" == Value.type "builtin_function_or_method" || Value.type "method-wrapper" == Value.type "method-wrapper") = true by decide, if_true]
  refine KFB.if_so (by decide) ?_
  refine wpAny_bind (check_bound_init F.excBase_ValueError.toExcCallFacts hC he rfl ?_)
  refine wpAny_bind (wpAny_pure (wpAny_pure ?_))
  refine ⟨plainId_quiet F.excBase_ValueError.init.plain _, codeAny_builtin F.excBase_ValueError.initEntry ?_⟩
  rw [Around.under_plainId F.excBase_ValueError.init.plain _]
  wp_walk
  refine hq _ h.objs.size (fun b o hb ho => ?_) ?_
  · rw [Heap.get?_update_other _ _ (Ne.symm hb)]
    exact Heap.get?_push_of_some _ ho
  · rw [Heap.get?_update_self _ (Heap.get?_push_of_some _ he) rfl]
    rfl
/-- what __init__ leaves of a fresh exception at x -/
structure InitEnd (h h' : Heap) (x C dx t1 : Addr) (b : Str) (v : Value) : Prop where
  keep : ∀ a o, a ≠ x → h.get? a = some o → h'.get? a = some o
  obj : h'.get? x = some { cls := .ref C, dict := some dx, data := .fields #[.ref t1, .none, .none, .none, .bool false, .none] }
  dbig : h.objs.size ≤ dx
  dne : dx ≠ x
  ns : h'.Ns1 dx (fun y => if y = b then some v else none)
structure OwnMade (h h' : Heap) (e C d : Addr) (b : Str) (v : Value) : Prop where
  keep : ∀ b o, h.get? b = some o → h'.get? b = some o
  new : h.objs.size ≤ e
  obj : ∃ oe vs, h'.get? e = some oe ∧ oe.cls = .ref C ∧ oe.dict = some d ∧ oe.data = .fields vs ∧ vs[1]? = some .none
  dbig : h.objs.size ≤ d
  dne : d ≠ e
  ns : h'.Ns1 d (fun y => if y = b then some v else none)
theorem ldC {M : Model} {s : Shared} {name : Str} {scope : Scope} {L a : Addr} {cd : Value} {cl : List (Str × Addr)} {m : Str → Option Value} {x : Str} {pos : Pos} {v : Value} {Q : Value → Shared → Prop} {A : Around} {E : Value → Shared → Prop} (hn : s.heap.Ns L m) (hv : m x = some v) (h : Q v s)
    (hk : scope.kind = .function) (hl : (envX name scope L a cd cl).kindOf x = some .local) (hd : (x == ("__debug__" : Str)) = false) : wpAny M A (eval (.Name x pos) (envX name scope L a cd cl)) Q E s := wpAny_Name (wpAny_loadName_local hk hl hn hv h) hd
/-- the names of the scope -/
structure Nm (b : Str) : Prop where
  nself : (b == ("self" : Str)) = false
  nclass : (("__class__" : Str) == b) = false
  nsuper : (("super" : Str) == b) = false
  ndebug : (b == ("__debug__" : Str)) = false
  bl : (iS b).names.lookup b = some .local
  sl : (iS b).names.lookup ("self" : Str) = some .local
  cl : (iS b).names.lookup ("__class__" : Str) = some .free
  su : (iS b).names.lookup ("super" : Str) = some .globalImplicit
  bind : ∀ (q : Str) (p1 p2 : Pos) (body : List Stmt) (doc pm : Value) (an : Option Addr) (cdv ct : Value) (cc : Addr) (a v : Value) (s : Shared), BindsTo s (ksFn "__init__" q (iA b p1 p2) body (iS b) .none .none doc pm an cdv ct cc) ⟨[a, v], []⟩ [("self", a), (b, v)]
theorem init (T : XTxt prog K mg x q b e C fI cc cda) (Nb : Nm b) (Fe : Fm e) {a t0 : Addr} {v : Value} (Te : Told prog w b e v) (X : K.In s.heap) (hG : s.heap.Ns mainGlobals mg) (hB : s.heap.Ns builtinsNs mb) (hmb : mb "super" = bootBuiltins "super") (hlim : s.heap.NoLimit) (hx : s.heap.get? a = some (excO C t0)) (hnx : K.lookup a = none) (hroom : A.depth < recursionLimit)
    (hq : ∀ h' tk dx t1, InitEnd s.heap h' a C dx t1 b v → R (.ok (.ret .none)) { s with heap := h', toks := tk }) :
    codeAny (model prog w) A (.call (.ref fI) ⟨[.ref a, v], []⟩) R s := by
  obtain ⟨oc, od, doc, pm, an, ct, osl, p1, p2, q0, q1, q2, q3, q4, q5, q6, q7, q8, ho, hcd, hline⟩ := T.fn
  obtain ⟨nm, qn, N, bs, bm, sn, sub, ab, col, dd, k0, k1, k2, k3, k5, hC, hbm⟩ := T.cls
  obtain ⟨cl, cld, csl, hcell⟩ := T.cell
  obtain ⟨ccl, cdd, vs, ccs, file, tf, hcode, hvs, hfile⟩ := T.code
  have hcl : clsIn K C = some { name := nm, bases := bs, mro := .ref C :: bm, ns := N, qualname := qn, hasDict := true, slotNames := sn, subclasses := sub, abstract := ab, collection := col, hasDel := false } := by unfold clsIn; rw [hC] <;> rfl
  refine ks_codeAny_call_defAt (fd := ksFn "__init__" q (iA b p1 p2) (iB b e q0 q1 q2 q3 q4 q5 q6 q7 q8) (iS b) .none .none doc pm an (.ref cda) ct cc) (body := iB b e q0 q1 q2 q3 q4 q5 q6 q7 q8) (binds := [("self", .ref a), (b, v)]) hroom (X _ _ ho) rfl hlim (codeRec_of X hcd) rfl
    (Nb.bind _ _ _ _ _ _ _ _ _ _ _ _ _) ?hc (fun y hy => ?hb) (fun h₁ hns hk₁ => ?_) rfl rfl rfl
  case hc =>
    intro y hy
    show y.2 ≠ .cell
    have : y ∈ (iS b).names := hy
    unfold iS at this
    simp only [List.mem_cons, List.not_mem_nil, or_false] at this
    rcases this with rfl | rfl | rfl | rfl <;> exact fun z => nomatch z
  case hb =>
    simp only [List.mem_cons, List.not_mem_nil, or_false] at hy
    rcases hy with rfl | rfl
    · exact Nb.sl
    · exact Nb.bl
  have mself : ∀ y : Str, (y == b) = false → (y == ("self" : Str)) = true → ([("self", Value.ref a), (b, v)] : List (Str × Value)).reverse.lookup y = some (.ref a) := fun y h1 h2 => by
    show List.lookup y [(b, v), ("self", Value.ref a)] = _
    rw [List.lookup_cons, h1]
    show List.lookup y [("self", Value.ref a)] = _
    rw [List.lookup_cons, h2]
  have mb' : ([("self", Value.ref a), (b, v)] : List (Str × Value)).reverse.lookup b = some v := by
    show List.lookup b [(b, v), ("self", Value.ref a)] = _
    rw [List.lookup_cons, beq_self_eq_true]
  have nsb : (("self" : Str) == b) = false := by
    cases z : (("self" : Str) == b) with
    | false => rfl
    | true => rw [← beq_iff_eq.mp z] at Nb; exact absurd Nb.nself (by decide)
  have ms := mself "self" nsb (beq_self_eq_true _)
  have k : ∀ b o, s.heap.get? b = some o → h₁.get? b = some o := hk₁
  have X₁ : K.In h₁ := X.keeps k
  have hx₁ := k _ _ hx
  have hG₁ := hG.keeps k
  have hB₁ := hB.keeps k
  obtain ⟨hh, g, d, tk, os⟩ := s
  obtain ⟨pl, hev⟩ := Fe.call q0 q1 q2 q3 (ksEnv q (iS b) hh.objs.size fI (.ref cda) cc) hline
  refine ks_wpAt_execs_cons (ks_wpAt_Expr_any (ks_wpAt_MethodCall (pl := pl) ?_ hev))
  refine ks_wpAt_super_base (f := fI) (cc := cda) (ar := { arg := "self", annotation := none, pos := p1 }) Nb.su Nb.cl (by decide) rfl (X₁ _ _ ho) rfl rfl rfl (X₁ _ _ hcode) rfl hvs hfile T.top ?_
  refine ks_loadName_global rfl Nb.su (loadGlobal_builtin hG₁ T.noSuper hB₁ (hmb.trans (by decide +kernel)) ⟨rfl, ?_⟩)
  refine wpAny_loadName_free rfl Nb.cl rfl ⟨_, X₁ _ _ hcell, rfl⟩ ?_
  refine wpAny_loadName_local rfl Nb.sl hns ms ?_
  refine ks_wpAny_isType_cls (X₁ _ _ hC) rfl ⟨rfl, ?_⟩
  refine ks_wpAny_call_super (X₁ _ _ hC) rfl hx₁ rfl (fun c z => nomatch z) (looks_mroIn X₁ T.sub) (fun h2 hso kk2 => ?_)
  have X2 : K.In h2 := X₁.keeps kk2
  have hx2 := kk2 _ _ hx₁
  have hns2 := hns.keeps kk2
  have I2 : InstAt h2 a (excO C t0) C none := ⟨hx2, rfl, rfl, trivial⟩
  have hI : Looks (model prog w) h2 (isInstance (.ref a) (.type "ValueError")) true := I2.type.andThen (looks_subIn X2 T.veC)
  have hsup := T.sup
  unfold ks_superIn at hsup
  rw [hcl] at hsup
  refine kxs_getMethod kxs_ValueError hso (looks_opaque X2 T.opq) (l₀ := .ref C :: bm) (fun A Q E s k q => wpAny_bind ((looks_clsIn X2 hcl) A _ E s k (wpAny_pure q))) rfl X2 hsup hI (ks_ne X2 I2 hcl) (by decide) ?_
  have k3 : ∀ b o, h2.get? b = some o → (h2.push (kxs_mw "ValueError.__init__" a)).get? b = some o := fun b o e => Heap.get?_push_of_some _ e
  have hst : backTo q3 (starEach [e] (ksEnv q (iS b) hh.objs.size fI (.ref cda) cc)) = backTo q3 [(false, eval e (ksEnv q (iS b) hh.objs.size fI (.ref cda) cc))] := by rw [Fe.star]
  show wpAny _ _ (callWith q3 _ _ (backTo q3 (starEach [e] (ksEnv q (iS b) hh.objs.size fI (.ref cda) cc))) []) _ _ _
  rw [hst]
  have hrec : backTo q3 [(false, eval e (ksEnv q (iS b) hh.objs.size fI (.ref cda) cc))] = [(false, eval e (ksEnv q (iS b) hh.objs.size fI (.ref cda) cc))] := rfl
  rw [hrec]
  refine kxs_callWith (i := "ValueError.__init__") (x := a) rfl (evalArgs_plain (spliced_cons ?_))
  refine Te _ _ _ _ _ _ (hns2.keeps k3) mb' rfl Nb.bl fun u tk' => spliced_nil ⟨Heap.get?_push_at rfl rfl, ?_⟩
  show wpAny _ _ (call _ [u]) _ _ _
  refine call_mw (k3 _ _ ((X2 _ _ hC))) (k3 _ _ hx2) (Heap.get?_push_at rfl rfl) (by rw [sizeLine_eq]; show 1 ≤ _; omega) fun h3 t1 kk3 hx3 => ?_
  show wpAt _ _ _ (execs _ _) _ _ _
  have X3 : K.In h3 := fun b o z => kk3 b o (fun y => by rw [y, hnx] at z; cases z) (k3 _ _ (X2 _ _ z))
  have hxL : hh.objs.size ≠ a := Nat.ne_of_gt (Heap.lt_size hx)
  have hns3 : h3.Ns hh.objs.size (fun y => ([("self", Value.ref a), (b, v)] : List (Str × Value)).reverse.lookup y) := (hns2.keeps k3).at fun o y => kk3 _ _ hxL y
  refine wpAt_of_wpAny (wpAny_execs_cons (plainObj_wpAny_Assign_Attribute ?_))
  refine ldC hns3 mb' (ldC hns3 ms ?_ rfl Nb.sl (by decide)) rfl Nb.bl Nb.ndebug
  refine set_plain X3 (ox := excO C t1) (od := none) ⟨hx3, rfl, rfl, trivial⟩ T.sa ?_
  refine exc_osa X3 hx3 hcl (show refsVE (.ref C :: bm) = true from hbm) rfl T.noN (fun h₃ tk₃ dx k₃ dn dne hx₃ hn₃ => ?_)
  show wpAny _ _ (execs _ _) _ _ _
  have z : hh.objs.size < h3.objs.size := hns3.lt
  exact wpAny_execs_nil (hq h₃ tk₃ dx t1 ⟨fun b o hb e => k₃ b o hb (kk3 b o hb (k3 _ _ (kk2 _ _ (k b o e)))), hx₃, Nat.le_of_lt (Nat.lt_of_lt_of_le z dn), dne, hn₃⟩)
theorem made (T : XTxt prog K mg x q b e C fI cc cda) (Nb : Nm b) (Fe : Fm e) {v : Value} (Te : Told prog w b e v) (X : K.In s.heap) (hG : s.heap.Ns mainGlobals mg) (hB : s.heap.Ns builtinsNs mb) (hmb : mb "super" = bootBuiltins "super") (hlim : s.heap.NoLimit) (hroom : A.depth + 1 < recursionLimit)
    (hq : ∀ h' tk a d, OwnMade s.heap h' a C d b v → R (.ok (.ret (.ref a))) { s with heap := h', toks := tk }) :
    codeAny (model prog w) A (.call (.ref C) ⟨[v], []⟩) R s := by
  obtain ⟨nm, qn, N, bs, bm, sn, sub, ab, col, dd, k0, k1, k2, k3, k5, hC, hbm⟩ := T.cls
  obtain ⟨hp, g, dr, tk, os⟩ := s
  have k : ∀ b o, hp.get? b = some o → ((hp.push (kdv_tup [v])).push (excO C hp.objs.size)).get? b = some o := fun b o e => Heap.get?_push_of_some _ (Heap.get?_push_of_some _ e)
  have hget : ((hp.push (kdv_tup [v])).push (excO C hp.objs.size)).get? (hp.objs.size + 1) = some (excO C hp.objs.size) := by heap_get
  have hnx : K.lookup (hp.objs.size + 1) = none := by
    cases e : K.lookup (hp.objs.size + 1) with
    | none => rfl
    | some o =>
      have z : hp.get? (hp.objs.size + 1) = some o := X _ _ e
      exact absurd (Nat.lt_of_succ_lt (Heap.lt_size z)) (Nat.lt_irrefl _)
  refine call_own F.excBase_ValueError (fun X => refsVE_contains X bm hbm) (X _ _ hC) (looks_findIn X T.iC) (fun self => bind_fn X self T.tC) (by rw [sizeLine_eq]; show 1 ≤ _; omega) ?_
  refine init (s := ⟨(hp.push (kdv_tup [v])).push (excO C hp.objs.size), g, dr, tk, os⟩) T Nb Fe Te (X.keeps k) (hG.keeps k) (hB.keeps k) hmb (hlim.keeps k) hget hnx ?_ fun h' tk' dx t1 ⟨k', hx, dn, dne, hns⟩ => ?_
  · show A.depth + 1 < recursionLimit
    exact hroom
  · have old : ∀ b o, hp.get? b = some o → h'.get? b = some o := fun b o e => k' b o (Nat.ne_of_lt (Nat.lt_succ_of_lt (Heap.lt_size e))) (k b o e)
    have z : hp.objs.size + 1 + 1 ≤ dx := by
      first
        | (simpa only [Heap.size_push] using dn)
        | exact dn
        | (have q := dn; rw [Heap.size_push, Heap.size_push] at q; exact q)
    exact ⟨rfl, hq h' tk' (hp.objs.size + 1) dx ⟨old, Nat.le_succ _, ⟨_, _, hx, rfl, rfl, rfl, rfl⟩, Nat.le_trans (Nat.le_trans (Nat.le_succ _) (Nat.le_succ _)) z, dne, hns⟩⟩
end
end SupX
end PySem
namespace L2
open PySem PySem.Spec PyProof.Rows
theorem relO_own {b : Str} {v : V} {v' : Value} (r : RelV v v') (f : Str) : RelO (List.lookup f [(b, v)]) (if f = b then some v' else none) := by
  by_cases hw : f = b
  · subst hw
    rw [if_pos rfl]
    have q : List.lookup f [(f, v)] = some v := by simp [List.lookup]
    rw [q]
    exact r
  · rw [if_neg hw]
    have qw : (f == b) = false := by simpa using hw
    have q2 : List.lookup f [(b, v)] = none := by simp [List.lookup, qw]
    rw [q2]
    trivial
section
variable {X : Cx} {C fI cc cda : Addr} {x q b : Str} {e : Expr}
/-- x(a) -/
def tMkSup (b : Str) (C : Addr) (ok : V → Prop) (ta : TA) : St → Hp → XK → Prop := fun σ H Q => ta σ H fun vs H1 => ∃ v, vs = [v] ∧ ok v ∧ ∀ d, H1 d = none → Q (.ref C) (some d) (upd H1 d (.xd [(b, v)]))
theorem pmk_sup {a : Expr} {ta : TA} {ok : V → Prop} {p pos : Pos} {k : Nat} (T : PySem.SupX.XTxt X.prog X.K X.mg x q b e C fI cc cda) (Nb : PySem.SupX.Nm b) (Fe : PySem.SupX.Fm e) (Te : ∀ v u, ok v → RelV v u → PySem.SupX.Told X.prog X.w b e u) (hr : Room k X.A) (ha : PA X [a] ta) (hg : Gl X x)
    (hd : (x == ("__debug__" : Str)) = false := by decide)
    (he : starEach (a :: []) X.env = (false, eval a X.env) :: starEach [] X.env := by rfl) (hpl : (backTo pos (starEach [] X.env)).any (·.1) = false := by rfl) :
    PMk X (.Call (.Name x p) [a] [] pos) (tMkSup b C ok ta) := by
  intro pins s σ H Q I h
  refine wpAny_Call_Name_kw (ld_glob I hg T.gC ?_ hd)
  refine PySem.W.callWith_K (h₀ := X.base) I.ok.mod.kin T.kC (thn (ha.run pos pins s σ H _ I h) fun us s1 hh => ?_) he hpl
  obtain ⟨vs, H1, I1, r1, v, ev, hok, q1⟩ := hh
  subst ev
  refine ⟨I1.kIn, ?_⟩
  cases r1 with
  | cons rv rn =>
    rename_i v' us'
    cases rn
    show wpAny _ _ (call (.ref C) [v']) _ _ _
    have hlim := I1.nolimit
    obtain ⟨mb, hb1, hb2⟩ := I1.mod.blt
    have hG := I1.mod.glob.keeps I1.bk
    have hB := hb1.keeps I1.bk
    have kIn := I1.kIn
    obtain ⟨hp, g, dr, tk, os⟩ := s1
    refine wpAny_call (PySem.SupX.made T Nb Fe (Te v v' hok rv) kIn hG hB (hb2 _ (by decide)) hlim (by have := hr.dp; omega) fun h' tk' e d M => ?_)
    show MkP X pins σ Q (.ref e) ⟨h', g, dr, tk', os⟩
    obtain ⟨oe, fv, hoe, hc, hd, hdat, h1⟩ := M.obj
    have hns := M.ns
    obtain ⟨G', g1, g2⟩ := restrict h' fun b => decide (b ≠ e)
    have gk : ∀ b, b ≠ e → G'.get? b = h'.get? b := fun b hb => g1 b (decide_eq_true hb)
    have ge : G'.get? e = none := g2 e (by simp)
    have old : ∀ b o, hp.get? b = some o → G'.get? b = some o := fun b o q => (gk b (Nat.ne_of_lt (Nat.lt_of_lt_of_le (Heap.lt_size q) M.new))).trans (M.keep b o q)
    have ob : ObjOk X.prog X.w (upd H1 d (.xd [(b, v)])) G' d (.xd [(b, v)]) :=
      ⟨_, hns.at (fun o q => (gk d M.dne).trans q), fun f => relO_own rv f⟩
    have J : Inv X pins σ (upd H1 d (.xd [(b, v)])) ⟨G', g, dr, tk', os⟩ := I1.laid (t' := tk') old M.dbig ob
    refine ⟨e, oe, fv, ⟨G', g, dr, tk', os⟩, _, .ref C, some d, rfl, J, fun b o q => ?_, ge, hoe, ⟨hc, hd⟩, hdat, h1, ?_, rfl, I1.bare, raises_own T.exC T.tyC, q1 d (I1.hok.fresh M.dbig)⟩
    · by_cases hb : b = e
      · have q' : G'.get? b = some o := q
        rw [hb, ge] at q'; cases q'
      · exact (gk b hb).symm.trans q
    · rw [upd_ne (Ne.symm M.dne)]
      exact I1.hok.fresh M.new
theorem ps_raiseSup {a : Expr} {ta : TA} {ok : V → Prop} {W : WX} {p pos pos2 : Pos} {k : Nat} (hc : X.calm = true) (T : PySem.SupX.XTxt X.prog X.K X.mg x q b e C fI cc cda) (Nb : PySem.SupX.Nm b) (Fe : PySem.SupX.Fm e) (Te : ∀ v u, ok v → RelV v u → PySem.SupX.Told X.prog X.w b e u) (hr : Room k X.A) (tk : Takes X W) (ha : PA X [a] ta) (hg : Gl X x)
    (hd : (x == ("__debug__" : Str)) = false := by decide)
    (he : starEach (a :: []) X.env = (false, eval a X.env) :: starEach [] X.env := by rfl) (hpl : (backTo pos (starEach [] X.env)).any (·.1) = false := by rfl) :
    PS X (.Raise (some (.Call (.Name x p) [a] [] pos)) none pos2) (fun _ σ H => tMkSup b C ok ta σ H fun cls d H' => W cls d σ H') := ps_raise hc tk (pmk_sup T Nb Fe Te hr ha hg hd he hpl)
end
end L2

set_option Elab.async false
set_option linter.all false
set_option maxRecDepth 100000
set_option maxHeartbeats 4000000
/-! enumerate(zip(a, b)), two tuples: a zip's pair stays out between the turns (the enumerate's pair holds it), so each turn asks whether it is still there. -/
namespace PySem
namespace EZ
open Sem (wp)
open AutoSeq1 (wpAny_loadPart')
abbrev IsZs (h : Heap) (z TI TO : Addr) (f0 : Value) (f : Bool) : Prop :=
  h.get? z = some { cls := .type "zip", dict := none, data := .fields #[f0, .bool f, .bool false, .ref TI, .ref TO], slots := #[] }
def F0 (f0 : Value) : Prop := f0 = .none ∨ ∃ T : Addr, f0 = rawInt T
section
variable {prog : Program} {w : World} {A : Around} {E : Value → Shared → Prop} {s : Shared}
theorem alive_any {a : Addr} {Q : Option Obj → Shared → Prop} (h : Q (s.heap.get? a) s) : wpAny (model prog w) A (loadIfAlive a) Q E s := fun _ _ _ => h
theorem own_free {z TI TO : Addr} {f0 : Value} {f : Bool} {Q : Bool → Shared → Prop} (hz : IsZs s.heap z TI TO f0 f) (h0 : F0 f0) (h1 : Q true s) (h2 : ∀ h', IsZs h' z TI TO f0 true → Heap.SameBut z s.heap h' → Q false { s with heap := h' }) :
    wpAny (model prog w) A (Builtin.SmallTypes.ownedTupleIsFree (.ref z)) Q E s := by
  unfold Builtin.SmallTypes.ownedTupleIsFree
  rcases h0 with rfl | ⟨T, rfl⟩
  · exact wpAny_bind (wpAny_field hz rfl (x := .none) rfl (wpAny_pure h1))
  refine wpAny_bind (wpAny_field hz rfl (x := rawInt T) rfl (wpAny_bind (alive_any ?_)))
  generalize s.heap.get? (Int.toNat T) = o
  cases o with
  | none => exact wpAny_pure h1
  | some oT =>
    refine wpAny_bind (wpAny_field hz rfl (x := .bool f) rfl ?_)
    cases f with
    | true => exact wpAny_pure (h2 s.heap hz (Heap.SameBut.refl _ _))
    | false => exact wpAny_bind (wpAny_setField_rec hz (by simp) fun h₁ hz₁ hs₁ => wpAny_pure (h2 h₁ hz₁ hs₁))
/-- nothing is out yet -/
theorem first_free {e : Addr} {c : String} {vs : Array Value} {Q : Bool → Shared → Prop} (he : s.heap.get? e = some { cls := .type c, dict := none, data := .fields vs, slots := #[] }) (h0 : vs[0]? = some .none) (h : Q true s) : wpAny (model prog w) A (Builtin.SmallTypes.ownedTupleIsFree (.ref e)) Q E s :=
  wpAny_bind (wpAny_field he rfl (x := .none) h0 (wpAny_pure h))
/-- T goes out -/
theorem out_to {e T : Addr} {c : String} {vs : Array Value} {Q : Unit → Shared → Prop} (he : s.heap.get? e = some { cls := .type c, dict := none, data := .fields vs, slots := #[] }) (h0 : 1 < vs.size)
    (h : ∀ h', h'.get? e = some { cls := .type c, dict := none, data := .fields ((vs.setIfInBounds 0 (rawInt T)).setIfInBounds 1 (.bool false)), slots := #[] } → Heap.SameBut e s.heap h' → Q () { s with heap := h' }) : wpAny (model prog w) A (Builtin.SmallTypes.ownedTupleHandOut (.ref e) (.ref T)) Q E s :=
  wpAny_bind (wpAny_setField_rec he (by omega) fun ha ea ka => wpAny_setField_rec ea (by rw [Array.size_setIfInBounds]; exact h0) fun hb eb kb => h hb eb ⟨kb.1.trans ka.1, fun b q => (kb.2 b q).trans (ka.2 b q)⟩)
/-- the next of what is enumerated may make new objects -/
theorem enum_item {e it : Addr} {i : Nat} {old : Value} {Q : Value → Shared → Prop} (he : IsEnum s.heap e it i old)
    (hn : wpAny (model prog w) A (Builtin.SmallTypes.nextOf (.ref it)) (fun x s1 => IsEnum s1.heap e it i old ∧ ∀ h' tk, IsEnumOut h' e it ((i : Int) + 1) x s1.heap.objs.size →
      h'.get? s1.heap.objs.size = some { cls := .type "tuple", data := .seq #[.int i tk, x] } → h'.objs.size = s1.heap.objs.size + 1 →
      (∀ b o, b ≠ e → s1.heap.get? b = some o → h'.get? b = some o) → Q (.ref s1.heap.objs.size) { s1 with heap := h', toks := tk + 1 }) E s) :
    wpAny (model prog w) A (Builtin.«enumerate.__next__» ⟨[.ref e], []⟩) (fun fin s' => ∃ v, fin = .done (.ret v) ∧ Q v s') E s := by
  show wpAny _ _ (field (.ref e) 2 >>= _) _ _ s
  refine wpAny_bind (wpAny_field he rfl (x := .ref it) rfl (wpAny_bind (wpAny_mono hn (fun x s1 y => ?_) fun _ _ z => z)))
  obtain ⟨hp, g, d, tk, os⟩ := s1
  obtain ⟨he1 : IsEnum hp e it i old, hQ⟩ := y
  refine wpAny_bind (wpAny_field he1 rfl (x := rawInt i) rfl (wpAny_bind (wpAny_field he1 rfl (x := .none) rfl (wpAny_bind (wpAny_mkInt ?_)))))
  refine wpAny_bind (wpAny_setField_rec he1 (by simp) fun ha ea ka => wpAny_bind (wpAny_setField_rec ea (by simp) fun hb eb kb => wpAny_bind (wpAny_newTuple ?_)))
  have sz : hb.objs.size = hp.objs.size := kb.1.trans ka.1
  have lt : e < hp.objs.size := Heap.lt_size he1
  have up : ∀ b o, b ≠ e → hp.get? b = some o → hb.get? b = some o := fun b o q z => (kb.2 b q).trans ((ka.2 b q).trans z)
  have ec : IsEnum (hb.push { cls := .type "tuple", data := .seq #[.int i tk, x] }) e it ((i : Int) + 1) old := Heap.get?_push_of_some _ eb
  refine wpAny_bind (first_free ec rfl (wpAny_bind (wpAny_rule (wpAny_bind (wpAny_field ec rfl (x := old) rfl (wpAny_bind (wpAny_setField_rec ec (by simp) fun hd ed kd => ?_)))))))
  refine wpAny_bind (out_to (T := hb.objs.size) ed (by simp) fun hf ef kf => wpAny_bind (wpAny_letGo (wpAny_pure ⟨_, rfl, ?_⟩)))
  have up2 : ∀ b o, b ≠ e → (hb.push { cls := .type "tuple", data := .seq #[.int i tk, x] }).get? b = some o → hf.get? b = some o := fun b o q z => (kf.2 b q).trans ((kd.2 b q).trans z)
  show Q (.ref hb.objs.size) _
  rw [sz] at ef ⊢
  refine hQ hf tk ef (up2 _ _ (Nat.ne_of_gt lt) (by rw [← sz]; exact Heap.get?_push_size _ rfl)) ?_ fun b o q z => up2 b o q (Heap.get?_push_of_some _ (up b o q z))
  show hf.objs.size = hp.objs.size + 1
  rw [kf.1, kd.1, Heap.size_push, sz]
/-- where a zip of two tuples is, k turns done -/
structure Zt (h : Heap) (z TI TO i1 i2 l1 l2 : Addr) (k : Nat) (xs ys : Array Value) : Prop where
  its : IsPair h TI (.ref i1) (.ref i2)
  kept : ∃ a b, IsPair h TO a b
  one : h.IsTupleIter i1 l1 k
  two : h.IsTupleIter i2 l2 k
  tx : h.IsTuple l1 xs
  ty : h.IsTuple l2 ys
theorem Zt.up {h h' : Heap} {z TI TO i1 i2 l1 l2 : Addr} {k : Nat} {xs ys : Array Value} (Z : Zt h z TI TO i1 i2 l1 l2 k xs ys) (D : ZipApart z TI TO i1 i2 l1 l2) (u : ∀ b o, b ≠ z → h.get? b = some o → h'.get? b = some o) : Zt h' z TI TO i1 i2 l1 l2 k xs ys :=
  let ⟨a, b, q⟩ := Z.kept
  ⟨u _ _ D.TIz Z.its, ⟨a, b, u _ _ D.TOz q⟩, Z.one.at fun o y => u _ o D.i1z y, Z.two.at fun o y => u _ o D.i2z y, Z.tx.at fun o y => u _ o D.l1z y, Z.ty.at fun o y => u _ o D.l2z y⟩
/-- two draws -/
theorem zip_item {z TI TO i1 i2 l1 l2 : Addr} {f0 : Value} {f : Bool} {k : Nat} {xs ys : Array Value} {x y : Value} {Q : Value → Shared → Prop} (D : ZipApart z TI TO i1 i2 l1 l2) (hz : IsZs s.heap z TI TO f0 f) (h0 : F0 f0) (Z : Zt s.heap z TI TO i1 i2 l1 l2 k xs ys) (hx : xs[k]? = some x) (hy : ys[k]? = some y)
    (hQ : ∀ h' f0' f', IsZs h' z TI TO f0' f' → F0 f0' → Zt h' z TI TO i1 i2 l1 l2 (k + 1) xs ys → IsPair h' s.heap.objs.size x y → h'.objs.size = s.heap.objs.size + 1 → (∀ c o, c ≠ z → c ≠ TO → c ≠ i1 → c ≠ i2 → s.heap.get? c = some o → h'.get? c = some o) → Q (.ref s.heap.objs.size) { s with heap := h' }) :
    wpAny (model prog w) A (Builtin.«zip.__next__» ⟨[.ref z], []⟩) (fun fin s' => ∃ v, fin = .done (.ret v) ∧ Q v s') E s := by
  obtain ⟨va, vb, hTO⟩ := Z.kept
  show wpAny _ _ (field (.ref z) 2 >>= _) _ _ s
  refine wpAny_bind (wpAny_field hz rfl (x := .bool false) rfl ?_)
  show wpAny _ _ (field (.ref z) 3 >>= _) _ _ s
  refine wpAny_bind (wpAny_field hz rfl (x := .ref TI) rfl (wpAny_bind (wpAny_seqItems Z.its rfl ?_)))
  show wpAny _ _ (Builtin.SmallTypes.ownedTupleIsFree (.ref z) >>= _) _ _ s
  refine wpAny_bind (own_free hz h0 ?_ fun ha za ka => ?_)
  · refine wpAny_bind (wpAny_rule (wpAny_bind (wpAny_field hz rfl (x := .ref TO) rfl (wpAny_bind (wpAny_setField_rec hz (by simp) fun ha za ka => wpAny_bind ?_)))))
    replace za : IsZs ha z TI TO .ellipsis f := za
    have Za := Z.up D fun b o q e => (ka.2 b q).trans e
    simp only [List.zipIdx_cons, List.zipIdx_nil, List.forIn_cons, List.forIn_nil]
    refine wpAny_bind (wpAny_bind (wpAny_onRaise (wpAny_bind (RZ.nextOf_tuple_item (s := { s with heap := ha }) Za.one Za.tx hx fun hb nb kb => wpAny_pure ?_))))
    have Tb : IsPair hb TO va vb := (kb.2 _ D.TOi1).trans ((ka.2 _ D.TOz).trans hTO)
    refine wpAny_bind (wpAny_seqItems (s := { s with heap := hb }) Tb rfl (wpAny_bind (wpAny_updateSeq_pair (s := { s with heap := hb }) Tb fun hc Tc kc => wpAny_bind (wpAny_letGo (wpAny_pure ?_)))))
    replace Tc : IsPair hc TO x vb := Tc
    have up1 : ∀ b o, b ≠ z → b ≠ TO → b ≠ i1 → s.heap.get? b = some o → hc.get? b = some o := fun b o q1 q2 q3 e => (kc.2 b q2).trans ((kb.2 b q3).trans ((ka.2 b q1).trans e))
    refine wpAny_bind (wpAny_bind (wpAny_onRaise (wpAny_bind (RZ.nextOf_tuple_item (s := { s with heap := hc }) (Z.two.at fun o e => up1 _ o D.i2z (Ne.symm D.TOi2) (Ne.symm D.i12) e) (Z.ty.at fun o e => up1 _ o D.l2z D.l2TO D.l2i1 e) hy fun hd nd kd => wpAny_pure ?_))))
    have Td : IsPair hd TO x vb := (kd.2 _ D.TOi2).trans Tc
    refine wpAny_bind (wpAny_seqItems (s := { s with heap := hd }) Td rfl (wpAny_bind (wpAny_updateSeq_pair (s := { s with heap := hd }) Td fun he Te ke => wpAny_bind (wpAny_letGo (wpAny_pure (wpAny_pure ?_))))))
    replace Te : IsPair he TO x y := Te
    refine wpAny_bind (wpAny_seqItems (s := { s with heap := he }) Te rfl (wpAny_bind (wpAny_newTuple ?_)))
    have sz : he.objs.size = s.heap.objs.size := ke.1.trans (kd.1.trans (kc.1.trans (kb.1.trans ka.1)))
    have ze : IsZs (he.push { cls := .type "tuple", data := .seq #[x, y] }) z TI TO .ellipsis f := Heap.get?_push_of_some _ ((ke.2 _ (Ne.symm D.TOz)).trans ((kd.2 _ (Ne.symm D.i2z)).trans ((kc.2 _ (Ne.symm D.TOz)).trans ((kb.2 _ (Ne.symm D.i1z)).trans za))))
    refine wpAny_bind (out_to (T := he.objs.size) ze (by simp) fun hg zg kg => wpAny_pure ⟨_, rfl, ?_⟩)
    have upz : ∀ b o, b ≠ z → he.get? b = some o → hg.get? b = some o := fun b o q e => (kg.2 b q).trans (Heap.get?_push_of_some _ e)
    have lz : z < he.objs.size := by rw [sz]; exact Heap.lt_size hz
    have all : ∀ b o, b ≠ z → b ≠ TO → b ≠ i1 → b ≠ i2 → s.heap.get? b = some o → hg.get? b = some o := fun b o q1 q2 q3 q4 e => upz b o q1 ((ke.2 b q2).trans ((kd.2 b q4).trans (up1 b o q1 q2 q3 e)))
    have np : IsPair hg he.objs.size x y := (kg.2 _ (Ne.symm (Nat.ne_of_lt lz))).trans (Heap.get?_push_size _ rfl)
    show Q (.ref he.objs.size) _
    rw [sz] at zg np ⊢
    exact hQ hg _ _ zg (.inr ⟨_, rfl⟩) ⟨all _ _ D.TIz D.TITO D.TIi1 D.TIi2 Z.its, ⟨x, y, upz _ _ D.TOz Te⟩, nb.at fun o e => upz _ o D.i1z ((ke.2 _ (Ne.symm D.TOi1)).trans ((kd.2 _ D.i12).trans ((kc.2 _ (Ne.symm D.TOi1)).trans e))),
      nd.at fun o e => upz _ o D.i2z ((ke.2 _ (Ne.symm D.TOi2)).trans e), Z.tx.at fun o e => all _ o D.l1z D.l1TO D.l1i1 D.l1i2 e, Z.ty.at fun o e => all _ o D.l2z D.l2TO D.l2i1 D.l2i2 e⟩ np (by show hg.objs.size = _; rw [kg.1, Heap.size_push, sz]) all
  · have Za := Z.up D fun b o q e => (ka.2 b q).trans e
    refine wpAny_bind ?_
    rw [← Array.forIn_toList]
    simp only [List.forIn_cons, List.forIn_nil]
    refine wpAny_bind (wpAny_bind (wpAny_holding (wpAny_bind (RZ.nextOf_tuple_item (s := { s with heap := ha }) Za.one Za.tx hx fun hb nb kb => wpAny_pure (wpAny_pure ?_)))))
    have up1 : ∀ b o, b ≠ z → b ≠ i1 → s.heap.get? b = some o → hb.get? b = some o := fun b o q1 q3 e => (kb.2 b q3).trans ((ka.2 b q1).trans e)
    refine wpAny_bind (wpAny_bind (wpAny_holding (wpAny_bind (RZ.nextOf_tuple_item (s := { s with heap := hb }) (Z.two.at fun o e => up1 _ o D.i2z (Ne.symm D.i12) e) (Z.ty.at fun o e => up1 _ o D.l2z D.l2i1 e) hy fun hc nc kc => wpAny_pure (wpAny_pure (wpAny_pure ?_))))))
    show wpAny _ _ (newTuple [x, y] >>= _) _ _ _
    refine wpAny_bind (wpAny_newTuple (wpAny_pure ⟨_, rfl, ?_⟩))
    have sz : hc.objs.size = s.heap.objs.size := kc.1.trans (kb.1.trans ka.1)
    have all : ∀ b o, b ≠ z → b ≠ TO → b ≠ i1 → b ≠ i2 → s.heap.get? b = some o → (hc.push { cls := .type "tuple", data := .seq #[x, y] }).get? b = some o := fun b o q1 _ q3 q4 e => Heap.get?_push_of_some _ ((kc.2 b q4).trans (up1 b o q1 q3 e))
    have np : IsPair (hc.push { cls := .type "tuple", data := .seq #[x, y] }) hc.objs.size x y := Heap.get?_push_size _ rfl
    have zc : IsZs (hc.push { cls := .type "tuple", data := .seq #[x, y] }) z TI TO f0 true := Heap.get?_push_of_some _ ((kc.2 _ (Ne.symm D.i2z)).trans ((kb.2 _ (Ne.symm D.i1z)).trans za))
    have Tc : IsPair (hc.push { cls := .type "tuple", data := .seq #[x, y] }) TO va vb := Heap.get?_push_of_some _ ((kc.2 _ D.TOi2).trans (up1 _ _ D.TOz D.TOi1 hTO))
    have n1 : (hc.push { cls := .type "tuple", data := .seq #[x, y] }).IsTupleIter i1 l1 (k + 1) := nb.at fun o e => Heap.get?_push_of_some _ ((kc.2 _ D.i12).trans e)
    have n2 : (hc.push { cls := .type "tuple", data := .seq #[x, y] }).IsTupleIter i2 l2 (k + 1) := nc.at fun o e => Heap.get?_push_of_some _ e
    have szn : (hc.push { cls := .type "tuple", data := .seq #[x, y] }).objs.size = s.heap.objs.size + 1 := by rw [Heap.size_push, sz]
    show Q (.ref hc.objs.size) _
    rw [sz] at np ⊢
    exact hQ _ _ _ zc h0 ⟨all _ _ D.TIz D.TITO D.TIi1 D.TIi2 Z.its, ⟨va, vb, Tc⟩, n1, n2, Z.tx.at fun o e => all _ o D.l1z D.l1TO D.l1i1 D.l1i2 e, Z.ty.at fun o e => all _ o D.l2z D.l2TO D.l2i1 D.l2i2 e⟩ np szn all
theorem zip_end {z TI TO i1 i2 l1 l2 : Addr} {f0 : Value} {f : Bool} {k : Nat} {xs ys : Array Value} {Q : Fin → Shared → Prop} (hh : A.handled = none) (D : ZipApart z TI TO i1 i2 l1 l2) (hz : IsZs s.heap z TI TO f0 f) (h0 : F0 f0) (Z : Zt s.heap z TI TO i1 i2 l1 l2 k xs ys) (hend : xs[k]? = none ∨ ys[k]? = none)
    (hE : ∀ h' e, (∀ c o, c ≠ z → c ≠ TO → c ≠ i1 → c ≠ i2 → s.heap.get? c = some o → h'.get? c = some o) → (∃ o, h'.get? e = some o ∧ o.cls = .type "StopIteration") → E (.ref e) { s with heap := h' }) : wpAny (model prog w) A (Builtin.«zip.__next__» ⟨[.ref z], []⟩) Q E s := by
  obtain ⟨va, vb, hTO⟩ := Z.kept
  show wpAny _ _ (field (.ref z) 2 >>= _) _ _ s
  refine wpAny_bind (wpAny_field hz rfl (x := .bool false) rfl ?_)
  show wpAny _ _ (field (.ref z) 3 >>= _) _ _ s
  refine wpAny_bind (wpAny_field hz rfl (x := .ref TI) rfl (wpAny_bind (wpAny_seqItems Z.its rfl ?_)))
  show wpAny _ _ (Builtin.SmallTypes.ownedTupleIsFree (.ref z) >>= _) _ _ s
  refine wpAny_bind (own_free hz h0 ?_ fun ha za ka => ?_)
  · refine wpAny_bind (wpAny_rule (wpAny_bind (wpAny_field hz rfl (x := .ref TO) rfl (wpAny_bind (wpAny_setField_rec hz (by simp) fun ha za ka => wpAny_bind ?_)))))
    replace za : IsZs ha z TI TO .ellipsis f := za
    have Za := Z.up D fun b o q e => (ka.2 b q).trans e
    have stop : ∀ (hm hr : Heap) (e : Addr), IsZs hm z TI TO .ellipsis f → (∃ o, hm.get? e = some o ∧ o.cls = .type "StopIteration") → Heap.SameBut z hm hr → (∃ o, hr.get? e = some o ∧ o.cls = .type "StopIteration") := fun hm hr e zm ⟨o, q1, q2⟩ kr => ⟨o, (kr.2 e fun y => by rw [y, zm] at q1; cases q1; simp at q2).trans q1, q2⟩
    simp only [List.zipIdx_cons, List.zipIdx_nil, List.forIn_cons, List.forIn_nil]
    cases hx : xs[k]? with
    | none =>
      refine wpAny_bind (wpAny_bind (wpAny_onRaise (wpAny_bind (RZ.nextOf_tuple_end (s := { s with heap := ha }) hh Za.one Za.tx hx fun hb e kb eb => ?_))))
      have zb : IsZs hb z TI TO .ellipsis f := kb _ _ (Ne.symm D.i1z) za
      exact wpAny_setField_rec (s := { s with heap := hb }) zb (by simp) fun hc _ kc => hE hc e (fun c o q1 _ q3 _ y => (kc.2 c q1).trans (kb _ _ q3 ((ka.2 c q1).trans y))) (stop hb hc e zb eb kc)
    | some x =>
      have hy : ys[k]? = none := hend.resolve_left (by rw [hx]; exact Option.some_ne_none x)
      refine wpAny_bind (wpAny_bind (wpAny_onRaise (wpAny_bind (RZ.nextOf_tuple_item (s := { s with heap := ha }) Za.one Za.tx hx fun hb nb kb => wpAny_pure ?_))))
      have Tb : IsPair hb TO va vb := (kb.2 _ D.TOi1).trans ((ka.2 _ D.TOz).trans hTO)
      refine wpAny_bind (wpAny_seqItems (s := { s with heap := hb }) Tb rfl (wpAny_bind (wpAny_updateSeq_pair (s := { s with heap := hb }) Tb fun hc Tc kc => wpAny_bind (wpAny_letGo (wpAny_pure ?_)))))
      have up1 : ∀ b o, b ≠ z → b ≠ TO → b ≠ i1 → s.heap.get? b = some o → hc.get? b = some o := fun b o q1 q2 q3 e => (kc.2 b q2).trans ((kb.2 b q3).trans ((ka.2 b q1).trans e))
      refine wpAny_bind (wpAny_bind (wpAny_onRaise (wpAny_bind (RZ.nextOf_tuple_end (s := { s with heap := hc }) hh (Z.two.at fun o e => up1 _ o D.i2z (Ne.symm D.TOi2) (Ne.symm D.i12) e) (Z.ty.at fun o e => up1 _ o D.l2z D.l2TO D.l2i1 e) hy fun hd e kd ed => ?_))))
      have zd : IsZs hd z TI TO .ellipsis f := kd _ _ (Ne.symm D.i2z) ((kc.2 _ (Ne.symm D.TOz)).trans ((kb.2 _ (Ne.symm D.i1z)).trans za))
      exact wpAny_setField_rec (s := { s with heap := hd }) zd (by simp) fun hf _ kf => hE hf e (fun c o q1 q2 q3 q4 y => (kf.2 c q1).trans (kd _ _ q4 (up1 c o q1 q2 q3 y))) (stop hd hf e zd ed kf)
  · have Za := Z.up D fun b o q e => (ka.2 b q).trans e
    refine wpAny_bind ?_
    rw [← Array.forIn_toList]
    simp only [List.forIn_cons, List.forIn_nil]
    cases hx : xs[k]? with
    | none => exact wpAny_bind (wpAny_bind (wpAny_holding (wpAny_bind (RZ.nextOf_tuple_end (s := { s with heap := ha }) hh Za.one Za.tx hx fun hb e kb eb => hE hb e (fun c o q1 _ q3 _ y => kb _ _ q3 ((ka.2 c q1).trans y)) eb))))
    | some x =>
      have hy : ys[k]? = none := hend.resolve_left (by rw [hx]; exact Option.some_ne_none x)
      refine wpAny_bind (wpAny_bind (wpAny_holding (wpAny_bind (RZ.nextOf_tuple_item (s := { s with heap := ha }) Za.one Za.tx hx fun hb nb kb => wpAny_pure (wpAny_pure ?_)))))
      have up1 : ∀ b o, b ≠ z → b ≠ i1 → s.heap.get? b = some o → hb.get? b = some o := fun b o q1 q3 e => (kb.2 b q3).trans ((ka.2 b q1).trans e)
      exact wpAny_bind (wpAny_bind (wpAny_holding (wpAny_bind (RZ.nextOf_tuple_end (s := { s with heap := hb }) hh (Z.two.at fun o e => up1 _ o D.i2z (Ne.symm D.i12) e) (Z.ty.at fun o e => up1 _ o D.l2z D.l2i1 e) hy fun hd e kd ed => hE hd e (fun c o q1 _ q3 q4 y => kd _ _ q4 (up1 c o q1 q3 y)) ed))))
theorem pyNext_enum {e it : Addr} {i : Nat} {old : Value} {Q : Option Value → Shared → Prop} (he : IsEnum s.heap e it i old)
    (hn : wpAny (model prog w) A.in1 (Builtin.SmallTypes.nextOf (.ref it)) (fun x s1 => IsEnum s1.heap e it i old ∧ ∀ h' tk, IsEnumOut h' e it ((i : Int) + 1) x s1.heap.objs.size →
      h'.get? s1.heap.objs.size = some { cls := .type "tuple", data := .seq #[.int i tk, x] } → h'.objs.size = s1.heap.objs.size + 1 →
      (∀ b o, b ≠ e → s1.heap.get? b = some o → h'.get? b = some o) → Q (some (.ref s1.heap.objs.size)) { s1 with heap := h', toks := tk + 1 }) (fun _ _ => False) s) : wpAny (model prog w) A (pyNext (.ref e)) Q E s := by
  have hT : s.TypeIs (.ref e) "enumerate" := ⟨_, he, rfl⟩
  unfold pyNext
  refine wpAny_bind (wpAny_attempt (wpAny_callSpecial?_slot (name := Str.ofString "__next__") hT F.slot_enumerate_next
    (wpAny_call_entry F.slot_enumerate_next hT F.entry_enumerate_next ?_ (F.args_enumerate_next_1 _))))
  refine enum_item he (wpAny_mono hn (fun x s1 hx => ⟨hx.1, fun h' tk a b c d => ?_⟩) fun _ _ z => z.elim)
  exact wpAny_pure (hx.2 h' tk a b c d)
theorem pyNext_enum_end {e it : Addr} {i : Int} {old : Value} {Q : Option Value → Shared → Prop} (he : IsEnum s.heap e it i old)
    (hn : wpAny (model prog w) A.in1 (Builtin.SmallTypes.nextOf (.ref it)) (fun _ _ => False) (fun u s1 => ∃ x, u = .ref x ∧ (∃ o, s1.heap.get? x = some o ∧ o.cls = .type "StopIteration") ∧ Q none s1) s) : wpAny (model prog w) A (pyNext (.ref e)) Q E s := by
  have hT : s.TypeIs (.ref e) "enumerate" := ⟨_, he, rfl⟩
  unfold pyNext
  refine wpAny_bind (wpAny_attempt (wpAny_callSpecial?_slot (name := Str.ofString "__next__") hT F.slot_enumerate_next
    (wpAny_call_entry F.slot_enumerate_next hT F.entry_enumerate_next ?_ (F.args_enumerate_next_1 _))))
  show wpAny _ _ (field (.ref e) 2 >>= _) _ _ _
  refine wpAny_bind (wpAny_field he rfl (x := .ref it) rfl ?_)
  refine wpAny_bind (wpAny_mono hn (fun _ _ z => z.elim) fun u s1 hu => ?_)
  obtain ⟨x, rfl, ⟨o, ho, hc⟩, q⟩ := hu
  exact wpAny_bind (wpAny_isInstance (T := "StopIteration") (b := true) ⟨o, ho, hc⟩ isSubtype_stop (wpAny_pure q))
theorem nextOf_zip {z TI TO i1 i2 l1 l2 : Addr} {f0 : Value} {f : Bool} {k : Nat} {xs ys : Array Value} {x y : Value} {Q : Value → Shared → Prop} (D : ZipApart z TI TO i1 i2 l1 l2) (hz : IsZs s.heap z TI TO f0 f) (h0 : F0 f0) (Z : Zt s.heap z TI TO i1 i2 l1 l2 k xs ys) (hx : xs[k]? = some x) (hy : ys[k]? = some y)
    (hQ : ∀ h' f0' f', IsZs h' z TI TO f0' f' → F0 f0' → Zt h' z TI TO i1 i2 l1 l2 (k + 1) xs ys → IsPair h' s.heap.objs.size x y → h'.objs.size = s.heap.objs.size + 1 → (∀ c o, c ≠ z → c ≠ TO → c ≠ i1 → c ≠ i2 → s.heap.get? c = some o → h'.get? c = some o) → Q (.ref s.heap.objs.size) { s with heap := h' }) :
    wpAny (model prog w) A (Builtin.SmallTypes.nextOf (.ref z)) Q E s :=
  have hT : s.TypeIs (.ref z) "zip" := ⟨_, hz, rfl⟩
  wpAny_bind (wpAny_callSpecial?_slot (name := Str.ofString "__next__") hT F.slot_zip_next (wpAny_call_entry F.slot_zip_next hT F.entry_zip_next (zip_item D hz h0 Z hx hy fun h' f0' f' q1 q2 q3 q4 q5 q6 => wpAny_pure (hQ h' f0' f' q1 q2 q3 q4 q5 q6)) (F.args_zip_next_1 _)))
theorem nextOf_zip_end {z TI TO i1 i2 l1 l2 : Addr} {f0 : Value} {f : Bool} {k : Nat} {xs ys : Array Value} {Q : Value → Shared → Prop} (hh : A.handled = none) (D : ZipApart z TI TO i1 i2 l1 l2) (hz : IsZs s.heap z TI TO f0 f) (h0 : F0 f0) (Z : Zt s.heap z TI TO i1 i2 l1 l2 k xs ys) (hend : xs[k]? = none ∨ ys[k]? = none)
    (hE : ∀ h' e, (∀ c o, c ≠ z → c ≠ TO → c ≠ i1 → c ≠ i2 → s.heap.get? c = some o → h'.get? c = some o) → (∃ o, h'.get? e = some o ∧ o.cls = .type "StopIteration") → E (.ref e) { s with heap := h' }) : wpAny (model prog w) A (Builtin.SmallTypes.nextOf (.ref z)) Q E s :=
  have hT : s.TypeIs (.ref z) "zip" := ⟨_, hz, rfl⟩
  wpAny_bind (wpAny_callSpecial?_slot (name := Str.ofString "__next__") hT F.slot_zip_next (wpAny_call_entry F.slot_zip_next hT F.entry_zip_next (zip_end hh D hz h0 Z hend hE) (F.args_zip_next_1 _)))
theorem meets_enumerate_newZ (z : Addr) (TI TO : Addr) :
    Meets (Builtin.«enumerate.__new__» ⟨[.type "enumerate", .ref z], []⟩) (fun _ R s => IsZip s.heap z TI TO .none ∧
      R (.ok (.ret (.ref s.heap.objs.size))) { s with heap := s.heap.push { cls := .type "enumerate", data := .fields #[.none, .bool false, .ref z, rawInt 0, .none, .none] } }) :=
  .of_wp fun prog w A R s h => by
    obtain ⟨hp, g, d, tk, os⟩ := s; obtain ⟨hl, h⟩ := h
    have hsub := sub_enumerate
    wp_walk using wpAny_loadPart' hl
    refine wpAny_stack_any fun st => wpAny_pure ?_
    split
    · rename_i c _ _ _ _ _
      cases (c == Value.type "enumerate")
      · wp_walk using wpAny_loadPart' hl, wpAny_pyIter_zip hl
        exact ⟨_, rfl, h⟩
      · wp_walk using wpAny_loadPart' hl, wpAny_pyIter_zip hl
        exact ⟨_, rfl, h⟩
    · wp_walk using wpAny_loadPart' hl, wpAny_pyIter_zip hl
      exact ⟨_, rfl, h⟩
theorem call_enumerate_zip {z TI TO : Addr} {Q : Value → Shared → Prop} (hz : IsZip s.heap z TI TO .none)
    (h : ∀ h', IsEnum h' s.heap.objs.size z 0 .none → (∀ b o, s.heap.get? b = some o → h'.get? b = some o) → Q (.ref s.heap.objs.size) { s with heap := h' }) :
    wpAny (model prog w) A (call (.type "enumerate") [.ref z]) Q E s := by
  refine callType_new F.called_enumerate (by decide) (F.typeCall_enumerate_1 _) (F.newCall_enumerate_1 _) (fun obj => F.args_object_init_2 obj _) F.entry_enumerate_new
    (meets_enumerate_newZ z TI TO) ⟨hz, ?_⟩
  have he : IsEnum (s.heap.push { cls := .type "enumerate", data := .fields #[.none, .bool false, .ref z, rawInt 0, .none, .none] }) s.heap.objs.size z 0 .none := Heap.get?_push_size _ rfl
  exact ⟨⟨_, he, rfl⟩, h _ he fun b o x => Heap.get?_push_of_some _ x⟩
end
end EZ
end PySem

set_option Elab.async false
set_option linter.all false
set_option maxRecDepth 100000
set_option maxHeartbeats 4000000
namespace EZ
open PySem PySem.Spec PyProof.Rows L2 PySem.EZ
/-- the tuples at a and b, the items in new pairs, numbered -/
def Itez (K : PySem.W.Frag) (a b : Addr) : It :=
  ⟨fun i H => ∃ (xs ys : List V) (x y : V), SqT K H a xs ∧ SqT K H b ys ∧ xs[i]? = some x ∧ ys[i]? = some y,
    fun i H v H' => ∃ T T' x y, v = .ref T' ∧ H T = none ∧ H T' = none ∧ T' ≠ T ∧ H' = upd (upd H T (.tup [x, y])) T' (.tup [.int (i : Nat), .ref T]) ∧ (∀ xs, SqT K H a xs → xs[i]? = some x) ∧ ∀ ys, SqT K H b ys → ys[i]? = some y,
    fun i H => ∃ xs ys : List V, SqT K H a xs ∧ SqT K H b ys ∧ (xs.length ≤ i ∨ ys.length ≤ i)⟩
theorem turn_ez {P : Program} {w : World} {K : PySem.W.Frag} {elts : List Expr} {kk : Nat} {tpos : Pos} {a b e z TI TO i1 i2 : Addr} (D : ZipApart z TI TO i1 i2 a b) (he0 : e ∉ [z, TI, TO, i1, i2]) :
    Turn P w K (.Tuple elts kk tpos) (Itez K a b) [e, z, TI, TO, i1, i2] e (fun i h => (∃ old, IsEnum h e z ((i : Nat) : Int) old) ∧ (∃ f0 f, IsZs h z TI TO f0 f ∧ F0 f0) ∧ IsPair h TI (.ref i1) (.ref i2) ∧ (∃ x y, IsPair h TO x y) ∧ h.IsTupleIter i1 a i ∧ h.IsTupleIter i2 b i) where
  mem := by simp
  obj := fun i h st c hc => by
    obtain ⟨⟨old, he⟩, ⟨f0, f, hz, _⟩, hTI, ⟨x, y, hTO⟩, ⟨o1, e1, _, d1⟩, ⟨o2, e2, _, d2⟩⟩ := st
    have e' : c = e ∨ c = z ∨ c = TI ∨ c = TO ∨ c = i1 ∨ c = i2 := by simpa using hc
    rcases e' with q | q | q | q | q | q
    · rw [q]; exact ⟨_, he, fun v q => nomatch q⟩
    · rw [q]; exact ⟨_, hz, fun v q => nomatch q⟩
    · rw [q]; exact ⟨_, hTI, fun v q => nomatch q⟩
    · rw [q]; exact ⟨_, hTO, fun v q => nomatch q⟩
    · rw [q]; exact ⟨o1, e1, fun v q => by rw [d1] at q; cases q⟩
    · rw [q]; exact ⟨o2, e2, fun v q => by rw [d2] at q; cases q⟩
  keep := fun i h h' st k => by
    obtain ⟨⟨old, he⟩, ⟨f0, f, hz, h0⟩, hTI, ⟨x, y, hTO⟩, h1, h2⟩ := st
    exact ⟨⟨old, k e (by simp) _ he⟩, ⟨f0, f, k z (by simp) _ hz, h0⟩, k TI (by simp) _ hTI, ⟨x, y, k TO (by simp) _ hTO⟩, h1.at fun o q => k i1 (by simp) o q, h2.at fun o q => k i2 (by simp) o q⟩
  item := by
    intro X hP hw hK hc i pins s σ H E I hf st hg
    subst hP hw hK
    obtain ⟨⟨old, he⟩, ⟨f0, f, hz, h0⟩, hTI, ⟨x0, y0, hTO⟩, h1, h2⟩ := st
    obtain ⟨xs, ys, x, y, hqx, hqy, hx, hy⟩ := hg
    obtain ⟨its, rv, p, _⟩ := I.tuple hqx
    obtain ⟨its2, rv2, p2, _⟩ := I.tuple hqy
    obtain ⟨u, hu, ru⟩ := rv.get hx
    obtain ⟨u2, hu2, ru2⟩ := rv2.get hy
    simp only [List.mem_cons, List.not_mem_nil, or_false, not_or] at he0
    obtain ⟨ez, eTI, eTO, ei1, ei2⟩ := he0
    have hel : e < s.heap.objs.size := Heap.lt_size he
    refine pyNext_enum he (nextOf_zip D hz h0 (xs := its.toArray) (ys := its2.toArray) ⟨hTI, ⟨x0, y0, hTO⟩, h1, h2, p, p2⟩ (x := u) (y := u2) (by simpa using hu) (by simpa using hu2) fun h' f0' f' z' h0' Z' hT hsz hk => ⟨hk e _ ez eTO ei1 ei2 he, fun h'' tk ho hT' hsz' hk' => ?_⟩)
    obtain ⟨TI', ⟨a', b', TO'⟩, h1', h2', _, _⟩ := Z'
    refine ⟨_, rfl, wpAny_letOwnedTupleGo_enum (s := { s with heap := h'', toks := tk + 1 }) ho fun h3 he3 sb => ?_⟩
    have upz : ∀ b o, b ≠ e → h'.get? b = some o → h3.get? b = some o := fun b o hb q => (sb.2 b hb).trans (hk' b o hb q)
    have new1 : ObjOk X.prog X.w (upd H s.heap.objs.size (.tup [x, y])) h' s.heap.objs.size (.tup [x, y]) := ⟨by show 2 ≤ sizeLine; decide, [u, u2], .cons ru (.cons ru2 .nil), ⟨_, hT, rfl, _, rfl⟩⟩
    have I1 : Inv X pins σ (upd H s.heap.objs.size (.tup [x, y])) { s with heap := h' } :=
      I.turnedNew (t' := s.toks) (ch := [z, TI, TO, i1, i2]) (fun c o hb q => hk c o (fun q' => hb (by simp [q'])) (fun q' => hb (by simp [q'])) (fun q' => hb (by simp [q'])) (fun q' => hb (by simp [q'])) q) (fun b hb => hf b (List.mem_cons_of_mem _ hb)) (Nat.le_refl _) new1
    have hsz2 : h'.objs.size = s.heap.objs.size + 1 := hsz
    have hle2 : s.heap.objs.size ≤ h'.objs.size := by rw [hsz2]; exact Nat.le_succ _
    have hel' : e < h'.objs.size := Nat.lt_of_lt_of_le hel hle2
    have hT2 : h3.get? h'.objs.size = some { cls := .type "tuple", data := .seq #[.int i tk, .ref s.heap.objs.size] } := (sb.2 _ (Nat.ne_of_gt hel')).trans hT'
    have new2 : ObjOk X.prog X.w (upd (upd H s.heap.objs.size (.tup [x, y])) h'.objs.size (.tup [.int (i : Nat), .ref s.heap.objs.size])) h3 h'.objs.size (.tup [.int (i : Nat), .ref s.heap.objs.size]) :=
      ⟨by show 2 ≤ sizeLine; decide, [.int i tk, .ref s.heap.objs.size], .cons ⟨_, rfl⟩ (.cons rfl .nil), ⟨_, hT2, rfl, _, rfl⟩⟩
    have fe : FpOk X pins (upd H s.heap.objs.size (.tup [x, y])) e := by
      have q := hf e (by simp)
      exact ⟨by rw [upd_ne (Nat.ne_of_lt hel)]; exact q.1, q.2⟩
    have I2 : Inv X pins σ (upd (upd H s.heap.objs.size (.tup [x, y])) h'.objs.size (.tup [.int (i : Nat), .ref s.heap.objs.size])) { s with heap := h3, toks := tk + 1 } :=
      I1.turnedNew (t' := tk + 1) (ch := [e]) (fun c o hb q => upz c o (fun q' => hb (by simp [q'])) q) (fun b hb => by rw [List.mem_singleton.mp hb]; exact fe) (Nat.le_refl _) new2
    refine ⟨.ref h'.objs.size, _, I2, rfl, ⟨s.heap.objs.size, h'.objs.size, x, y, rfl, I.hok.fresh (Nat.le_refl _), I.hok.fresh hle2, by rw [hsz2]; exact Nat.succ_ne_self _, rfl, fun l hl => by rw [I.tuple_inj hl hqx]; exact hx, fun l hl => by rw [I.tuple_inj hl hqy]; exact hy⟩,
      ⟨⟨.ref s.heap.objs.size, ?_⟩, ⟨f0', f', upz _ _ (Ne.symm ez) z', h0'⟩, upz _ _ (Ne.symm eTI) TI', ⟨a', b', upz _ _ (Ne.symm eTO) TO'⟩, h1'.at fun o q => upz _ _ (Ne.symm ei1) q, h2'.at fun o q => upz _ _ (Ne.symm ei2) q⟩, fun c hcm => ?_⟩
    · have e1 : ((i + 1 : Nat) : Int) = (i : Int) + 1 := by omega
      rw [e1]; exact he3
    · have hlt : c < s.heap.objs.size := by
        have e' : c = e ∨ c = z ∨ c = TI ∨ c = TO ∨ c = i1 ∨ c = i2 := by simpa using hcm
        rcases e' with q | q | q | q | q | q
        · rw [q]; exact hel
        · rw [q]; exact Heap.lt_size hz
        · rw [q]; exact Heap.lt_size hTI
        · rw [q]; exact Heap.lt_size hTO
        · rw [q]; obtain ⟨_, e1, _⟩ := h1; exact Heap.lt_size e1
        · rw [q]; obtain ⟨_, e2, _⟩ := h2; exact Heap.lt_size e2
      rw [upd_ne (Nat.ne_of_lt (Nat.lt_of_lt_of_le hlt hle2)), upd_ne (Nat.ne_of_lt hlt)]
      exact (hf c hcm).1
  done := by
    intro X hP hw hK hc i pins s σ H E I hf st hg
    subst hP hw hK
    obtain ⟨⟨old, he⟩, ⟨f0, f, hz, h0⟩, hTI, ⟨x0, y0, hTO⟩, h1, h2⟩ := st
    obtain ⟨xs, ys, hqx, hqy, hend⟩ := hg
    obtain ⟨its, rv, p, _⟩ := I.tuple hqx
    obtain ⟨its2, rv2, p2, _⟩ := I.tuple hqy
    have l1 := rv.length
    have l2 := rv2.length
    have hq : its.toArray[i]? = none ∨ its2.toArray[i]? = none := by
      rcases hend with q | q
      · exact .inl (by simp; omega)
      · exact .inr (by simp; omega)
    exact pyNext_enum_end he (nextOf_zip_end (I.ok.hd hc) D hz h0 (xs := its.toArray) (ys := its2.toArray) ⟨hTI, ⟨x0, y0, hTO⟩, h1, h2, p, p2⟩ hq fun h' x hk hx => ⟨x, rfl, hx, rfl, I.turnedL (t' := s.toks) (ch := [z, TI, TO, i1, i2]) (fun c o hb q =>
      hk c o (fun q' => hb (by simp [q'])) (fun q' => hb (by simp [q'])) (fun q' => hb (by simp [q'])) (fun q' => hb (by simp [q'])) q) fun b hb => hf b (List.mem_cons_of_mem _ hb)⟩)
  self := fun A i s Q E st h => let ⟨⟨_, he⟩, _⟩ := st; wpAny_pyIter_enum he h
def iEz (K : PySem.W.Frag) (ta : TA) : TI := fun σ H R => ta σ H fun vs H1 => ∃ a b xs ys, vs = [.ref a, .ref b] ∧ SqT K H1 a xs ∧ SqT K H1 b ys ∧ R (Itez K a b) H1
theorem pi_ez {X : Cx} {e e2 : Expr} {ta : TA} {p pos p' pos' tpos : Pos} {elts : List Expr} {kk : Nat} (hg' : Gl X "enumerate") (hm' : X.mg "enumerate" = none) (hg : Gl X "zip") (hm : X.mg "zip" = none) (ha : PA X [e, e2] ta)
    (hs' : starEach [.Call (.Name "zip" p) [e, e2] [] pos] X.env = [(false, eval (.Call (.Name "zip" p) [e, e2] [] pos) X.env)] := by rfl)
    (hs : starEach [e, e2] X.env = (false, eval e X.env) :: starEach [e2] X.env := by rfl) (hpl : (backTo pos (starEach [e2] X.env)).any (·.1) = false := by rfl) :
    PI X (.Tuple elts kk tpos) (.Call (.Name "enumerate" p') [.Call (.Name "zip" p) [e, e2] [] pos] [] pos') (iEz X.K ta) := by
  refine ⟨fun pins s σ H R I h => ?_⟩
  refine Call_ (ld_blt I hg' hm' boot_enumerate (PyProof.Rows.callWith_type1 ?_ hs' rfl))
  have hb : backTo pos' (starEach [.Call (.Name "zip" p) [e, e2] [] pos] X.env) = [(false, eval (.Call (.Name "zip" p) [e, e2] [] pos) X.env)] := by rw [hs']; rfl
  rw [hb]
  refine Calls.spliced_cons ?_
  refine Call_ (ld_blt I hg hm PyProof.Rows.boot_zip (PyProof.Rows.callWith_type1 (thn (ha.run pos pins s σ H _ I h) fun us s1 ⟨vs, H1, I1, r1, q1⟩ => ?_) hs hpl))
  obtain ⟨a, b, xs, ys, ex, hqx, hqy, q⟩ := q1
  subst ex
  cases r1 with
  | cons r rr =>
    cases rr with
    | cons r' rr =>
      cases rr
      cases r
      cases r'
      obtain ⟨its, rv, p1, _⟩ := I1.tuple hqx
      obtain ⟨its2, rv2, p2, _⟩ := I1.tuple hqy
      obtain ⟨o1, ho1, _⟩ := id p1
      obtain ⟨o2, ho2, _⟩ := id p2
      refine RZ.call_zipT (show s1.heap.IsTuple a its.toArray from p1) (show s1.heap.IsTuple b its2.toArray from p2) fun h' hz hTI hTO h1 h2 hsz hk => Calls.spliced_nil ?_
      refine call_enumerate_zip (s := { s1 with heap := h' }) hz fun h2' he hk2 => wpAny_pyIter_enum he ?_
      have I2 : Inv X pins σ H1 { s1 with heap := h2' } := I1.kept (t' := s1.toks) fun b o q => hk2 b o (hk b o q)
      have he5 : h'.objs.size = s1.heap.objs.size + 5 := hsz
      refine ⟨h'.objs.size, [h'.objs.size, s1.heap.objs.size + 4, s1.heap.objs.size + 2, s1.heap.objs.size + 3, s1.heap.objs.size, s1.heap.objs.size + 1], _, _, H1, rfl, I2, turn_ez (PySem.W.ktu_apart s1.heap.objs.size a b (Heap.lt_size ho1) (Heap.lt_size ho2)) ?_,
        ⟨⟨.none, he⟩, ⟨.none, false, hk2 _ _ hz, .inl rfl⟩, hk2 _ _ hTI, ⟨_, _, hk2 _ _ hTO⟩, h1.at fun o q => hk2 _ _ q, h2.at fun o q => hk2 _ _ q⟩, fun c hcm => ?_, q⟩
      · simp only [List.mem_cons, List.not_mem_nil, or_false, not_or]
        generalize h'.objs.size = m at he5
        generalize s1.heap.objs.size = n at he5
        subst he5
        refine ⟨fun q => ?_, fun q => ?_, fun q => ?_, fun q => ?_, fun q => ?_⟩
        · exact absurd (show (n + 5 : Nat) = n + 4 from q) (by omega)
        · exact absurd (show (n + 5 : Nat) = n + 2 from q) (by omega)
        · exact absurd (show (n + 5 : Nat) = n + 3 from q) (by omega)
        · exact absurd (show (n + 5 : Nat) = n from q) (by omega)
        · exact absurd (show (n + 5 : Nat) = n + 1 from q) (by omega)
      · have hle : s1.heap.objs.size ≤ c := by
          simp only [List.mem_cons, List.not_mem_nil, or_false] at hcm
          rcases hcm with z | z | z | z | z | z
          · rw [z, he5]; exact Nat.le_add_right _ _
          · rw [z]; exact Nat.le_add_right _ _
          · rw [z]; exact Nat.le_add_right _ _
          · rw [z]; exact Nat.le_add_right _ _
          · rw [z]; exact Nat.le_refl _
          · rw [z]; exact Nat.le_add_right _ _
        exact I1.fpOk hle (I1.hok.fresh hle)
end EZ

set_option Elab.async false
set_option linter.all false
set_option maxRecDepth 100000
set_option maxHeartbeats 4000000
namespace DL
open PySem PySem.Spec PyProof.Rows L2

/-! ### enumerate(zip(a, b)) -/
def ezD : Nat → List D → List D → List D
  | i, a :: l, b :: m => .tup [.int i, pairD a b] :: ezD (i + 1) l m
  | _, _, _ => []
theorem ezD_len : ∀ (i : Nat) (l m : List D), (ezD i l m).length = min l.length m.length
  | _, [], m => by simp [ezD]
  | _, _ :: _, [] => by simp [ezD]
  | i, a :: l, b :: m => by simp only [ezD, List.length_cons, ezD_len (i + 1) l m]; omega
theorem ezD_get : ∀ {i : Nat} {l m : List D} {j : Nat} {d e : D}, l[j]? = some d → m[j]? = some e → (ezD i l m)[j]? = some (.tup [.int ((i + j : Nat) : Int), pairD d e])
  | i, a :: l, b :: m, 0, d, e, h1, h2 => by
    cases h1
    cases h2
    rfl
  | i, a :: l, b :: m, j + 1, d, e, h1, h2 => by
    show (ezD (i + 1) l m)[j]? = _
    rw [ezD_get (i := i + 1) (l := l) (m := m) (j := j) h1 h2, show i + 1 + j = i + (j + 1) by omega]
  | i, [], _, j, d, e, h1, _ => by simp at h1
  | i, _ :: _, [], j, d, e, _, h2 => by simp at h2
theorem itd_ez {K : PySem.W.Frag} {a b : Addr} {B0 : Hp} {vs ws : List V} {l m : List D} (h : SqT K B0 a vs) (r : RpL K B0 vs l) (h' : SqT K B0 b ws) (r' : RpL K B0 ws m) : ItD K (EZ.Itez K a b) B0 (ezD 0 l m) where
  go := fun B H e1 e2 i hi => by
    rw [ezD_len, ← r.len, ← r'.len] at hi
    exact ⟨vs, ws, vs[i], ws[i], ex_t (e1.trans e2) h, ex_t (e1.trans e2) h', by simp [show i < vs.length by omega], by simp [show i < ws.length by omega]⟩
  stop := fun B H e1 e2 => ⟨vs, ws, ex_t (e1.trans e2) h, ex_t (e1.trans e2) h', by rw [ezD_len, r.len, r'.len]; omega⟩
  yld := fun B H e1 e2 i x H' hi y => by
    obtain ⟨T, T', x1, y1, rfl, hT, hT', hne, rfl, f1, f2⟩ := y
    obtain ⟨d, g1, g2⟩ := r.get (f1 vs (ex_t (e1.trans e2) h))
    obtain ⟨e, g3, g4⟩ := r'.get (f2 ws (ex_t (e1.trans e2) h'))
    obtain ⟨g, q⟩ := pair_yld e2 hT (g2.mono e1) (g4.mono e1)
    have gg : Grow (upd B T (.tup [x1, y1])) (upd H T (.tup [x1, y1])) (upd (upd B T (.tup [x1, y1])) T' (.tup [.int (i : Nat), .ref T])) (upd (upd H T (.tup [x1, y1])) T' (.tup [.int (i : Nat), .ref T])) := Grow.one g.sub (by rw [upd_ne hne]; exact hT')
    refine ⟨_, _, ezD_get g1 g3, g.trans gg, .tup (.inl (.inl upd_same)) (.cons ?_ (.cons (q.mono gg.vis) .nil))⟩
    have : ((i : Nat) : Int) = ((0 + i : Nat) : Int) := by rw [Nat.zero_add]
    rw [← this]
    exact .int _
section
variable {F : Fam} {E : XK} {e a b c tg : Expr} {es : List Expr} {A B : DE} {R : DA} {pos p p' pos' : Pos} {x : Str}
def dEz (R : DA) : DI := fun xd Γ Rd => R xd Γ fun ws Γ1 => ∃ l m Γ2, fixL Γ1 ws = some ([.tup l, .tup m], Γ2) ∧ Rd (ezD 0 l m) Γ2
theorem pdi_ez {elts : List Expr} {kk : Nat} {tpos : Pos} (hg' : ∀ j, Gl (F.X j) "enumerate") (hm' : ∀ j, (F.X j).mg "enumerate" = none) (hg : ∀ j, Gl (F.X j) "zip") (hm : ∀ j, (F.X j).mg "zip" = none) (ha : PDA F E [a, b] R)
    (hs' : ∀ j, starEach [.Call (.Name "zip" p) [a, b] [] pos] (F.X j).env = [(false, eval (.Call (.Name "zip" p) [a, b] [] pos) (F.X j).env)] := by intro _; rfl)
    (hs : ∀ j, starEach [a, b] (F.X j).env = (false, eval a (F.X j).env) :: starEach [b] (F.X j).env := by intro _; rfl) (hpl : ∀ j, (backTo pos (starEach [b] (F.X j).env)).any (·.1) = false := by intro _; rfl) :
    PDI F E (.Tuple elts kk tpos) (.Call (.Name "enumerate" p') [.Call (.Name "zip" p) [a, b] [] pos] [] pos') (dEz R) :=
  let ⟨_, pa, la⟩ := ha
  ⟨EZ.iEz F.K _, fun j => F.k j ▸ EZ.pi_ez (hg' j) (hm' j) (hg j) (hm j) (pa j) (hs' j) (hs j) (hpl j), fun P hK hE Bv Γ σ H Rd R n h k => la P hK hE Bv Γ σ H _ _ n h fun ws Γ1 vs H1 B1 e1 n1 r1 h1 => by
    obtain ⟨l, m, Γ2, f, h1⟩ := h1
    obtain ⟨B2, e2, n2, r2⟩ := n1.fixedL r1 f
    cases r2 with
    | cons ra rr =>
      cases rr with
      | cons rb rr =>
        cases rr
        cases ra with
        | tup hs hr =>
          cases rb with
          | tup hs' hr' =>
            rename_i a1 v1 a2 v2
            rw [hK] at hs hr hs' hr'
            exact ⟨a1, a2, v1, v2, rfl, ex_t n2.sub hs, ex_t n2.sub hs', k _ Γ2 _ H1 B2 (e1.trans e2) n2 (by rw [hK]; exact itd_ez hs hr hs' hr') h1⟩⟩
/-! ### raising -/
/-- what may leave a def's body, of exceptions told by data -/
def dRaise (C : Addr) (b : Str) (okd : D → Prop) (A : DE) : DS := fun xd _ Γ => A xd Γ fun w _ => ∃ d, w = .dat d ∧ okd d ∧ xd C [(b, d)]
theorem pd_raise {q b : Str} {m : Expr} {C fI cc cda : Addr} {ok : V → Prop} {okd : D → Prop} {k : Nat} (hc : ∀ j, (F.X j).calm = true) (T : ∀ j, PySem.SupX.XTxt (F.X j).prog (F.X j).K (F.X j).mg x q b m C fI cc cda) (Nb : PySem.SupX.Nm b) (Fe : PySem.SupX.Fm m) (Te : ∀ j v u, ok v → RelV v u → PySem.SupX.Told (F.X j).prog (F.X j).w b m u)
    (hok : ∀ K H v d, Rp K H v d → okd d → ok v) (hr : ∀ j, Room k (F.X j).A) (tk : ∀ j, Takes (F.X j) (fun cls d _ H => E cls d H)) (ha : PD F E a A) (hg : ∀ j, Gl (F.X j) x := by intro _; rfl)
    (hd : (x == ("__debug__" : Str)) = false := by decide) (he : ∀ j, starEach (a :: []) (F.X j).env = (false, eval a (F.X j).env) :: starEach [] (F.X j).env := by intro _; rfl) (hpl : ∀ j, (backTo pos (starEach [] (F.X j).env)).any (·.1) = false := by intro _; rfl) :
    PDS F E (.Raise (some (.Call (.Name x p) [a] [] pos)) none pos') (dRaise C b okd A) :=
  let ⟨t, pa, la⟩ := ha
  ⟨fun _ σ H => tMkSup b C ok (tCons t tNil) σ H fun cls d H' => E cls d H', fun j => ps_raiseSup (hc j) (T j) Nb Fe (Te j) (hr j) (tk j) (pa_cons (pa j) pa_nil (he j)) (hg j) hd (he j) (hpl j), fun P hK hE Bv Γ σ H Dd D n h k => by
    show t σ H _
    refine la P hK hE Bv Γ σ H _ _ n h fun w Γ1 v H1 B1 e1 n1 r1 h1 => ?_
    obtain ⟨d, rfl, hd, h1⟩ := h1
    refine ⟨v, rfl, hok _ _ _ _ r1 hd, fun d0 hd0 => ?_⟩
    rw [← hE.1]
    have rr : Rp P.K B1 v d := r1
    refine P.xok C [(b, d)] (some d0) [(b, v)] _ B1 h1 n1.base (n1.sub.trans (Ex.new hd0)) (n1.frm.trans (Ex.new hd0)) n1.dj ⟨upd_same, .cons rr .nil⟩⟩
end
end DL

set_option Elab.async false
set_option linter.all false
set_option maxRecDepth 100000
set_option maxHeartbeats 4000000
namespace DL
open PySem PySem.Spec PyProof.Rows L2

/-- by what is asked, told, raised -/
def sdX (pre : List D → Prop) (post : List D → D → Prop) (xp : List D → Addr → List (Str × D) → Prop) : Sd := fun ds Q E => pre ds ∧ (∀ r, post ds r → Q r) ∧ ∀ C fs, xp ds C fs → E C fs
theorem sdX_mono {pre : List D → Prop} {post : List D → D → Prop} {xp : List D → Addr → List (Str × D) → Prop} : ∀ ds Q Q' E E', (∀ r, Q r → Q' r) → (∀ C fs, E C fs → E' C fs) → sdX pre post xp ds Q E → sdX pre post xp ds Q' E' :=
  fun ds Q Q' E E' h1 h2 z => ⟨z.1, fun r q => h1 r (z.2.1 r q), fun C fs q => h2 C fs (z.2.2 C fs q)⟩
structure DnX (P : Program) (w : World) (K : PySem.W.Frag) (mg : Str → Option Value) (base : Heap) (x : Str) (k : Nat) (ps : List Str) (sp : Sp) : Prop where
  ex : ∃ (f : Addr) (fd : FuncData), FnOk P w K mg base (L2.CX P w) k f fd ps sp ∧ mg x = some (.ref f) ∧ PySem.W.keepIn K (.ref f) = true ∧ Binds K fd ps []
theorem Df.dnX {P : Program} {w : World} {K : PySem.W.Frag} {mg : Str → Option Value} {base : Heap} {x : Str} {k : Nat} {ps : List Str} {st : Stmt} {sp : Sp} (d : Df K mg x st ps) (h : ∀ (f : Addr) (fd : FuncData), Fun K x x st f fd → FnOk P w K mg base (L2.CX P w) k f fd ps sp) : DnX P w K mg base x k ps sp := by
  obtain ⟨f, fd, hF, hm, hb⟩ := d.ex
  exact ⟨f, fd, h f fd hF, hm, hF.kp, hb⟩
section
variable {F : Fam} {E : XK} {e : Expr} {es : List Expr} {R : DA} {pos p : Pos} {x : Str} {k : Nat} {ps : List Str} {sd : Sd}
def dCallX (sd : Sd) (R : DA) : DE := fun xd Γ Q => R xd Γ fun ws Γ1 => ∃ ds Γ2, fixL Γ1 ws = some (ds, Γ2) ∧ sd ds (fun r => Q (.dat r) Γ2) xd
theorem le_callX {P : Par} {t : TA} (hm : ∀ ds Q Q' E E', (∀ r, Q r → Q' r) → (∀ C fs, E C fs → E' C fs) → sd ds Q E → sd ds Q' E') (l : LA P t R) : LE P (tCallS (spD P.K P.ts sd) (fun _ => P.E) t) (dCallX sd R) := fun Bv Γ σ H Qd Q n h k =>
  l Bv Γ σ H _ _ n h fun ws Γ1 vs H1 B1 e1 n1 r1 h1 => by
    obtain ⟨ds, Γ2, f, h1⟩ := h1
    obtain ⟨B2, e2, n2, r2⟩ := n1.fixedL r1 f
    refine ⟨ds, hidF P Γ2 σ H1, B2, hidF_tab n2, r2, n2.sub, hidF_ex n2, hidF_dj n2, hm _ _ _ _ _ (fun r q v H' B' x1 x2 x3 x4 rp => ?_) (fun C fs z d fvs H' B' x1 x2 x3 x4 x5 => ?_) h1⟩
    · exact finD k ((e1.trans e2).trans x1) (n2.called x1 x2 x3 x4) rp q
    · have n3 := n2.called x1 x2 x3 x4
      exact P.xok C fs d fvs H' B' z n3.base n3.sub n3.frm n3.dj x5
theorem pd_callX (hD : ∀ j, DnX (F.X j).prog (F.X j).w (F.X j).K (F.X j).mg (F.X j).base x k ps (spD (F.X j).K F.ts sd)) (hm : ∀ ds Q Q' E E', (∀ r, Q r → Q' r) → (∀ C fs, E C fs → E' C fs) → sd ds Q E → sd ds Q' E') (hr : ∀ j, Room k (F.X j).A) (tk : ∀ j, Takes (F.X j) (fun cls d _ H => E cls d H))
    (ha : PDA F E (e :: es) R) (hg : ∀ j, Gl (F.X j) x := by intro _; rfl) (hdb : (x == ("__debug__" : Str)) = false := by decide) (he : ∀ j, starEach (e :: es) (F.X j).env = (false, eval e (F.X j).env) :: starEach es (F.X j).env := by intro _; rfl) (hpl : ∀ j, (backTo pos (starEach es (F.X j).env)).any (·.1) = false := by intro _; rfl) :
    PD F E (.Call (.Name x p) (e :: es) [] pos) (dCallX sd R) :=
  let ⟨t, pa, la⟩ := ha
  ⟨tCallS (spD F.K F.ts sd) (fun _ => E) t, fun j => by
    obtain ⟨f, fd, G, hmg, hk, hb⟩ := (hD j).ex
    exact F.k j ▸ pe_callS G (hr j) (hg j) hmg hk hb (fun σ => passAt (tk j) σ) (pa j) hdb (he j) (hpl j), fun P hK hE => by
      have q := le_callX (P := P) hm (la P hK hE)
      rw [hK, hE.1, hE.2] at q
      exact q⟩
end
section
variable {P : Program} {w : World} {K : PySem.W.Frag} {mg : Str → Option Value} {base : Heap} {ts : List Addr}
abbrev cxX (P : Program) (w : World) (K : PySem.W.Frag) (mg : Str → Option Value) (base : Heap) (N : List Str) (qual : Str) (st : Stmt) (f : Addr) (cdv : Value) (A : Around) (outer : List Env) (s : Shared) (H : Hp) (E : XK) : Cx := cxOf (L2.CX P w) P w K mg base N qual (defScope st) f cdv A outer s H E
/-- a def that may raise -/
theorem okDefX {x qual : Str} {st : Stmt} {f : Addr} {fd : FuncData} {N ps : List Str} {k : Nat} {sd : Sd} {T : DS} (F : Fun K x qual st f fd) (S : FnScope N ps (defScope st)) (hps : ps.length ≤ N.length)
    (hl : ∀ ds Q E, sd ds Q E → ds.length = ps.length)
    (hb : ∀ (cdv : Value) (A : Around) (outer : List Env) (s : Shared) (H : Hp) (E : XK), Room k (A.deeper (envOfC qual (defScope st) s.heap.objs.size f cdv)) → Takes (cxX P w K mg base N qual st f cdv A outer s H E) (fun cls d _ H => E cls d H) →
      PassesOwn (model P w) (cxX P w K mg base N qual st f cdv A outer s H E).A (cxX P w K mg base N qual st f cdv A outer s H E).env (cxX P w K mg base N qual st f cdv A outer s H E).xe → PDSs (Fam.of ts (cxX P w K mg base N qual st f cdv A outer s H E)) E (defBody st) T)
    (hr : ∀ ds Q E, sd ds Q E → T E { nx := fun _ => Q .non, rt := fun d _ => Q d } (startD N.length (ds.map .dat))) : FnOk P w K mg base (L2.CX P w) (k + 1) f fd ps (spD K ts sd) := by
  refine F.okX S (fun vs H Q E h => ?_) (fun cdv A outer s H vs Q E hroom h => ?_)
  · obtain ⟨ds, F, B, _, r, _, _, _, h⟩ := h
    rw [r.len]
    exact hl _ _ _ h
  · obtain ⟨ds, F, B, tb, r, e, f', dj, h⟩ := h
    obtain ⟨t, pt, lt⟩ := hb cdv A outer s H E hroom (takes_of rfl rfl rfl rfl) (passes_of rfl)
    refine ⟨t, pt (), ?_⟩
    have hlen : vs.length ≤ N.length := by rw [r.len, hl _ _ _ h]; exact hps
    let Q' : Par := ⟨K, F, [], B, XkD K B F E, E, ts, tb, fun C fs d fvs H' B' z => z d fvs H' B'⟩
    have n : En Q' B (startD N.length (ds.map .dat)) (L2.start N vs) H := En.begin0 (P := Q') rfl r hlen e f' dj
    exact lt Q' rfl ⟨rfl, rfl⟩ B _ _ H _ _ n (hr _ _ _ h) ⟨fun Γ' σ' H' B' x n' q => q .non H' B' x n'.sub n'.frm n'.dj .non, fun d Γ' σ' v H' B' x n' rp q => q v H' B' x n'.sub n'.frm n'.dj rp, fun _ _ _ _ _ _ z => z.elim, fun _ _ _ _ _ _ z => z.elim⟩
end
end DL

set_option Elab.async false
set_option linter.all false
set_option maxRecDepth 100000
set_option maxHeartbeats 4000000
/-! isinstance of a caught error that has fields; a call of a local def that may raise. -/
namespace L2
open PySem PySem.Spec PyProof.Rows
/-- isinstance(e, c), e the error at a, its class D, its dict d -/
def rIsE2 (K : PySem.W.Frag) (D a d : Addr) : List V → Hp → VK → Prop := fun xs H Q => ∃ (c : V) (cv : Value) (b : Bool) (fs : List (Str × V)), xs = [.ref a, c] ∧ (∀ u, RelV c u → u = cv) ∧ PySem.W.kitOne K (.ref D) cv = some b ∧ H d = some (.xd fs) ∧ Q (.bl b) H
theorem call_isE2 {X : Cx} {a D d : Addr} {oe : Obj} {pn : List (Addr × Obj)} (C : ExcC X.K D) (hz : Zc (.ref D) (some d) oe) (hf : ∃ vs, oe.data = .fields vs) : CallR (X.suite a ((a, oe) :: pn)) (.builtin "isinstance") (rIsE2 X.K D a d) := by
  rintro pins s σ H xs us Q I r ⟨c, cv, b, fs, rfl, hcv, e, ed, q⟩
  obtain ⟨u1, u2, rfl, r1, r2⟩ := vals2 r
  obtain rfl : u1 = Value.ref a := r1
  obtain rfl := hcv u2 r2
  obtain ⟨vs, hv⟩ := hf
  obtain ⟨mA, hns, -⟩ : ObjOk X.prog X.w H s.heap d (.xd fs) := I.hok d _ ed
  obtain ⟨od, ho, -⟩ := lookIn_ns hns
  have there := (I.pin (a, oe) (List.mem_append.mpr (.inl List.mem_cons_self))).1
  have J : PySem.W.InstAt s.heap a oe D (some od) := ⟨there, hz.1, by unfold PySem.W.notCls; rw [hv] <;> rfl, by rw [hz.2]; exact ho⟩
  have isC : (PySem.W.clsIn X.K D).isSome = true := by
    obtain ⟨cd, hc, _⟩ := PySem.W.any_some C.hd
    rw [hc]; rfl
  exact PySem.W.kia_one (PySem.W.kitx_exc isC C.hg C.hk C.hs C.ha C.hn C.ht C.hm) I.kIn J e (fun z => nomatch z) fun tk => ⟨.bl b, H, I.tok tk, rfl, q⟩
/-- the i-th slot holds the def at f; what it may let out is told by the slots -/
def tCallLS (i : Nat) (f : Addr) (sp : Sp) (E : St → XK) (t : TA) : TE := fun σ H Q => σ[i]? = some (some (.ref f)) ∧ t σ H fun vs H1 => sp vs H1 Q (E σ)
theorem pe_callLS {X : Cx} {CX : CXT} {k i : Nat} {f : Addr} {fd : FuncData} {ps : List Str} {sp : Sp} {E : St → XK} {x : Str} {p pos : Pos} {e : Expr} {es : List Expr} {t : TA} (F : FnOk X.prog X.w X.K X.mg X.base CX k f fd ps sp) (hr : Room k X.A) (hN : X.N[i]? = some x) (hv : Vis X.env.scope x) (hk : PySem.W.keepIn X.K (.ref f) = true) (hb : Binds X.K fd ps []) (hx : ∀ σ, PassesAt CX X σ (E σ)) (ha : PA X (e :: es) t)
    (h1 : (x == ("__debug__" : Str)) = false := by decide) (h2 : (x == ("__classdict__" : Str)) = false := by decide)
    (h3 : starEach (e :: es) X.env = (false, eval e X.env) :: starEach es X.env := by rfl) (h4 : (backTo pos (starEach es X.env)).any (·.1) = false := by rfl) : PE X (.Call (.Name x p) (e :: es) [] pos) (tCallLS i f sp E t) := by
  refine ⟨fun pins s σ H Q I ⟨hs, ht⟩ => ?_⟩
  have at_ := (pe_var (pos := p) hN hv h1 h2).run pins s σ H (fun v H1 => v = .ref f ∧ H1 = H) I ⟨.ref f, hs, rfl, rfl⟩
  refine wpAny_Call_Name_kw (thn at_ fun u s1 hu => ?_)
  obtain ⟨v, H1, I1, r1, rfl, rfl⟩ := hu
  obtain rfl : u = Value.ref f := r1
  have args := ha.run pos pins s1 σ H1 _ I1 ht
  exact PySem.W.callWith_K (h₀ := X.base) I.ok.mod.kin hk (thn args fun us s2 hus => by
    obtain ⟨vs, H2, I2, r, q⟩ := hus
    exact ⟨I2.kIn, run_fnS F hr hb (hx σ) I2 r q⟩) h3 h4
end L2

set_option Elab.async false
set_option linter.all false
set_option maxRecDepth 100000
set_option maxHeartbeats 4000000
namespace DL
open PySem PySem.Spec PyProof.Rows L2

section
variable {F : Fam} {E : XK} {a b e : Expr} {es : List Expr} {A : DE} {T : DO} {R : DA} {pos p : Pos} {x : Str} {k : Nat} {ps : List Str} {sd : Sd}
/-- xs + [..], xs a list of its own -/
def dCat (A : DE) (T : DO) : DO := fun xd Γ Q => A xd Γ fun w Γ1 => T xd Γ1 fun m Γ2 => ∃ i p l, w = .slot i ∧ Γ2[i]? = some (.own p l) ∧ l.length + m.length ≤ 100000 ∧ Q (l ++ m) Γ2
theorem pdo_cat (ha : PD F E a A) (hb : PDO F E b T) : PDO F E (.BinOp a .Add b pos) (dCat A T) :=
  let ⟨_, pa, la⟩ := ha; let ⟨_, pb, lb⟩ := hb
  ⟨_, fun j => pe_op op_cat (pa j) (pb j), fun P hK hE Bv Γ σ H Qd Q n h k => la P hK hE Bv Γ σ H _ _ n h fun w Γ1 v H1 B1 e1 n1 r1 h1 =>
    lb P hK hE B1 Γ1 σ H1 _ _ n1 h1 fun m Γ2 q vs H2 B2 e2 n2 z h2 => by
      obtain ⟨i, p, l, rfl, hi, hz, h2⟩ := h2
      obtain ⟨a', us, g1, g2, g3, g4, g5⟩ := n2.own i p l hi
      have r1' : σ[i]? = some (some v) := r1
      rw [g1] at r1'
      cases r1'
      exact ⟨a', q, us, vs, rfl, rfl, g2, z.at_, by rw [g3.len, z.rp.len]; exact Evl.sz_of hz, fun q' hq' => n2.newL (g3.app z.rp) (e1.trans e2) h2 k hq'⟩⟩
/-- a call of a def that raises nothing, its promise of any form -/
theorem pd_callG (hD : ∀ j, Dn (F.X j).prog (F.X j).w (F.X j).K (F.X j).mg (F.X j).base x k ps (spD (F.X j).K F.ts sd)) (hm : ∀ ds Q Q' E E', (∀ r, Q r → Q' r) → (∀ C fs, E C fs → E' C fs) → sd ds Q E → sd ds Q' E') (hr : ∀ j, Room k (F.X j).A)
    (ha : PDA F E (e :: es) R) (hg : ∀ j, Gl (F.X j) x := by intro _; rfl) (hdb : (x == ("__debug__" : Str)) = false := by decide) (he : ∀ j, starEach (e :: es) (F.X j).env = (false, eval e (F.X j).env) :: starEach es (F.X j).env := by intro _; rfl) (hpl : ∀ j, (backTo pos (starEach es (F.X j).env)).any (·.1) = false := by intro _; rfl) :
    PD F E (.Call (.Name x p) (e :: es) [] pos) (dCall sd R) :=
  let ⟨t, pa, la⟩ := ha
  ⟨tCall (spD F.K F.ts sd) [] E0 t, fun j => by
    obtain ⟨f, fd, G, hmg, hk, hb⟩ := (hD j).ex
    exact F.k j ▸ pe_call G (hr j) (hg j) hmg hk hb .nil pass0 (pa j) hdb (he j) (hpl j), fun P hK hE => hK ▸ hE.2 ▸ le_call hm (la P hK hE)⟩
end
/-! ### a list of its own is forgotten when its slot gets another one -/
def freeOk (Γ : Gm) (i : Nat) : Bool := match Γ[i]? with
  | some (.own true _) => false
  | some (.heap _) => false
  | some _ => true
  | none => false
theorem En.forget {P : Par} {Bv : Hp} {Γ : Gm} {σ : L2.St} {H : Hp} {i : Nat} (n : En P Bv Γ σ H) (hi : freeOk Γ i = true) : En P Bv (Γ.set i .non) σ H where
  len := by rw [List.length_set]; exact n.len
  base := n.base
  sub := n.sub
  frm := n.frm
  dj := n.dj
  dat := fun j e h => by
    rcases get_set h with ⟨rfl, q⟩ | ⟨q, h⟩
    · cases q
    · exact n.dat j e h
  own := fun j p l h => by
    rcases get_set h with ⟨rfl, q⟩ | ⟨q, h⟩
    · cases q
    · exact n.own j p l h
  inj := fun j k p p' l l' a h1 h2 => by
    rcases get_set h1 with ⟨rfl, q⟩ | ⟨q1, h1⟩
    · cases q
    · rcases get_set h2 with ⟨rfl, q⟩ | ⟨q2, h2⟩
      · cases q
      · exact n.inj j k p p' l l' a h1 h2
  pin := fun q hq => by
    obtain ⟨l, h1, h2⟩ := n.pin q hq
    have ne : q.1 ≠ i := fun z => by
      unfold freeOk at hi
      rw [← z, h1] at hi
      cases hi
    exact ⟨l, by rw [List.getElem?_set_ne (Ne.symm ne)]; exact h1, h2⟩
  hf := n.hf.to (fun _ _ h => heap_set (by intro _ z; cases z) h) (Ex.refl _) (fun _ _ _ _ _ => rfl) (fun _ _ _ _ _ f v => ⟨f, v⟩) fun _ _ _ b _ k j p l h => by
    rcases get_set h with ⟨rfl, q⟩ | ⟨q, h⟩
    · cases q
    · exact k j p l h
theorem freeOk_lt {Γ : Gm} {i : Nat} (h : freeOk Γ i = true) : i < Γ.length := by
  unfold freeOk at h
  cases q : Γ[i]? with
  | none => rw [q] at h; cases h
  | some s => exact (List.getElem?_eq_some_iff.mp q).1
theorem notOwn_set {Γ : Gm} {i : Nat} (h : freeOk Γ i = true) : notOwn (Γ.set i .non) i = true := by
  unfold notOwn
  rw [List.getElem?_set_self (freeOk_lt h)]
  rfl
def dAsgOF (i : Nat) (A : DO) : DS := fun xd D Γ => A xd Γ fun l Γ1 => freeOk Γ1 i = true ∧ D.nx (Γ1.set i (.own false l))
theorem ls_asgOF {P : Par} {te : TE} {i : Nat} {A : DO} (l : LO P te A) : LS P (tAsg te (gName i)) (dAsgOF i A) := fun Bv Γ σ H Dd D n h k =>
  l Bv Γ σ H _ _ n h fun l Γ1 p vs H1 B1 e1 n1 z h1 => by
    have n2 := n1.forget h1.1
    have no : ∀ (j : Nat) (q : Bool) (m : List DL.D), (Γ1.set i .non)[j]? = some (.own q m) → σ[j]? ≠ some (some (.ref p)) := fun j q m hj => by
      rcases get_set hj with ⟨rfl, q⟩ | ⟨_, hj⟩
      · cases q
      · exact z.no j q m hj
    have n3 := n2.putOwn (notOwn_set h1.1) z.at_ z.bv z.f z.rp no fun j M hj => z.nh j M (heap_set (by intro _ y; cases y) hj)
    rw [List.set_set] at n3
    exact k.nx _ _ H1 B1 e1 n3 h1.2
theorem pd_asgOF {F : Fam} {E : XK} {e : Expr} {pos : Pos} (i : Nat) {x : Str} {pos' : Pos} {A : DO} (hN : ∀ j, (F.X j).N.Nodup) (he : PDO F E e A) (hi : ∀ j, (F.X j).N[i]? = some x := by intro _; rfl) (hx : ∀ j, Loc (F.X j).env.scope x := by first | exact fun _ => .inl rfl | exact fun _ => .inr rfl) (hs : ∀ j, swapsWith e (some (.Name x pos')) pos.line (F.X j).env = pure false := by intro _; rfl)
    (hf : ∀ j, (F.X j).fn x = true ∨ (F.X j).env.scope.names.lookup x = some .local := by first | exact fun _ => .inl rfl | exact fun _ => .inr rfl | assumption) : PDS F E (.Assign [.Name x pos'] e pos) (dAsgOF i A) :=
  let ⟨_, p, l⟩ := he
  ⟨_, fun j => ps_set (hN j) (hi j) (hx j) (p j) (hs j) (hf j), fun P hK hE => ls_asgOF (l P hK hE)⟩
theorem pd_setLcF {F : Fam} {E : XK} {elt tg iter : Expr} {ifs : List Expr} {scope : Scope} {pos : Pos} {I : DI} {G : DG} {ix : List Nat} {tD : DT} {A : DE} (i : Nat) (own : List (Str × Nat)) {y : Str} {py spos : Pos} (hc : ∀ j, (F.X j).calm = true) (hN : ∀ j, (F.X j).N.Nodup) (hi : PDI F E tg iter I)
    (hsw : ∀ j, swapsWith (.ListComp elt [⟨tg, iter, ifs, 0⟩] scope pos) (some (.Name y py)) spos.line (F.X j).env = pure true) (ok : ∀ j, BlkOk (F.X j).N (F.X j).env.scope scope own)
    (hg : PDG (F.blk scope) tg G ix) (ht : PDTs (F.blk scope) E0 ifs tD) (he : PD (F.blk scope) E0 elt A)
    (hy : ∀ j, (F.X j).N[i]? = some y := by intro _; rfl) (hyl : ∀ j, (F.X j).env.scope.names.lookup y = some .local := by intro _; rfl)
    (hix : ∀ i ∈ ix, i ∈ own.map (·.2) := by decide) (hs : ∀ j x, foldedSetIterable iter (F.X j).env x = pure x := by intro _ _; rfl) : PDS F E (.Assign [.Name y py] (.ListComp elt [⟨tg, iter, ifs, 0⟩] scope pos) spos) (dAsgOF i (dLc I G tD A (own.map (·.2)))) :=
  let ⟨_, p1, l1⟩ := hi; let ⟨_, p2, l2⟩ := hg; let ⟨_, p3, l3⟩ := ht; let ⟨_, p4, l4⟩ := he
  ⟨_, fun j => ps_setLc (hc j) (hN j) (hy j) (hyl j) (hsw j) (p1 j) (ok j) (fun s H C cl fp => p2 (j, s, H, C, cl, fp)) (fun s H C cl fp => p3 (j, s, H, C, cl, fp)) (fun s H C cl fp => p4 (j, s, H, C, cl, fp)) (hs j),
    fun P hK hE => ls_asgOF (lo_lc (l1 P hK hE) (fun p acc => l2 (P.lc p acc) hK) (fun p acc => l3 (P.lc p acc) hK ⟨rfl, hE.2⟩) (fun p acc => l4 (P.lc p acc) hK ⟨rfl, hE.2⟩) hix)⟩
end DL

set_option Elab.async false
set_option linter.all false
set_option maxRecDepth 100000
set_option maxHeartbeats 4000000
namespace DL
open PySem PySem.Spec PyProof.Rows L2

/-! ### tuples: t + u -/
def rdCatT : D2 := fun Γ x y Q => ∃ l m, x = .dat (.tup l) ∧ y = .dat (.tup m) ∧ l.length + m.length ≤ 100000 ∧ Q (.dat (.tup (l ++ m))) Γ
theorem RpL.nil_iff {K : PySem.W.Frag} {H : Hp} {vs : List V} {ds : List D} (r : RpL K H vs ds) : vs = [] ↔ ds = [] := by
  constructor
  · rintro rfl; cases r; rfl
  · rintro rfl; cases r; rfl
theorem rl_catT {P : Par} : RL P (rCatA P.K) rdCatT := by
  intro Bv Γ σ H x y wx wy Qd Q n rx ry h k
  obtain ⟨l, m, rfl, rfl, hz, h⟩ := h
  have rx' : Rp P.K Bv x (.tup l) := rx
  have ry' : Rp P.K Bv y (.tup m) := ry
  cases rx' with
  | @tup a xs _ hs hr =>
    cases ry' with
    | @tup b ys _ hs' hr' =>
      refine ⟨a, b, xs, ys, rfl, rfl, ex_t n.sub hs, ex_t n.sub hs', by rw [hr.len, hr'.len]; exact Evl.sz_of hz, fun e => ?_, fun _ e => ?_, fun _ _ p hp => n.newT (hr.app hr') (Ex.refl _) h k hp⟩
      · have := hr.nil_iff.mp e
        subst this
        exact finD k (Ex.refl _) n ry h
      · have := hr'.nil_iff.mp e
        subst this
        rw [List.append_nil] at h
        exact finD k (Ex.refl _) n rx h
section
variable {F : Fam} {E : XK} {a b c e : Expr} {es : List Expr} {A B C : DE} {R : DA} {T : DO} {pos p : Pos} {x : Str}
theorem pd_catT (ha : PD F E a A) (hb : PD F E b B) : PD F E (.BinOp a .Add b pos) (dOp rdCatT A B) := pd_op (fun j => F.k j ▸ op_catA) (fun P hK => by rw [← hK]; exact rl_catT) ha hb
/-! ### slices -/
abbrev DP := Xd → Gm → (Option Int → Gm → Prop) → Prop
def LP (P : Par) (t : TO) (T : DP) : Prop := ∀ (Bv : Hp) (Γ : Gm) (σ : L2.St) (H : Hp) (Qd : Option Int → Gm → Prop) (Q : Option Int → Hp → Prop), En P Bv Γ σ H → T P.Ed Γ Qd → (∀ o Γ' H' Bv', Ex Bv Bv' → En P Bv' Γ' σ H' → Qd o Γ' → Q o H') → t σ H Q
def PDP (F : Fam) (E : XK) (e : Option Expr) (T : DP) : Prop := ∃ t, (∀ j, PO (F.X j) e t) ∧ ∀ P : Par, P.K = F.K → P.E = E ∧ P.ts = F.ts → LP P t T
def dPn : DP := fun _ Γ Q => Q none Γ
def dPs (A : DE) : DP := fun xd Γ Q => A xd Γ fun w Γ1 => ∃ i, w = .dat (.int i) ∧ Q (some i) Γ1
theorem pdp_none : PDP F E none dPn := ⟨_, fun _ => po_none, fun P hK hE Bv Γ σ H Qd Q n h k => k none Γ H Bv (Ex.refl _) n h⟩
theorem pdp_some (h : PD F E e A) : PDP F E (some e) (dPs A) :=
  let ⟨_, p, l⟩ := h
  ⟨_, fun j => po_some (p j), fun P hK hE Bv Γ σ H Qd Q n h k => l P hK hE Bv Γ σ H _ _ n h fun w Γ1 v H1 B1 e1 n1 r1 h1 => by
    obtain ⟨i, rfl, h1⟩ := h1
    cases r1
    exact ⟨i, rfl, k (some i) Γ1 H1 B1 e1 n1 h1⟩⟩
def cutD (l : List D) (lo hi : Option Int) : List D := (l.drop (HT.sIx l.length 0 lo)).take (HT.sIx l.length l.length hi - HT.sIx l.length 0 lo)
theorem RpL.cut {K : PySem.W.Frag} {H : Hp} {vs : List V} {ds : List D} (r : RpL K H vs ds) (lo hi : Option Int) : RpL K H (cutV vs lo hi) (cutD ds lo hi) := by
  unfold cutV cutD
  rw [r.len]
  exact (r.drop _).take _
theorem cutD_whole {l : List D} {lo hi : Option Int} (h : HT.sIx l.length 0 lo = 0 ∧ HT.sIx l.length l.length hi = l.length) : cutD l lo hi = l := by
  unfold cutD
  rw [h.1, h.2, List.drop_zero, Nat.sub_zero, List.take_length]
/-- t[lo:hi], a tuple -/
def dSlT (A : DE) (L U : DP) : DE := fun xd Γ Q => A xd Γ fun w Γ1 => L xd Γ1 fun lo Γ2 => U xd Γ2 fun hi Γ3 => ∃ l, w = .dat (.tup l) ∧ Q (.dat (.tup (cutD l lo hi))) Γ3
variable {lo hi : Option Expr} {L U : DP} {p2 : Pos}
theorem pd_sliceT (ha : PD F E a A) (hl : PDP F E lo L) (hu : PDP F E hi U) : PD F E (.Subscript a (.Slice lo hi none p2) pos) (dSlT A L U) :=
  let ⟨_, pa, la⟩ := ha; let ⟨_, pl, ll⟩ := hl; let ⟨_, pu, lu⟩ := hu
  ⟨_, fun j => F.k j ▸ pe_slice (r := rSlA (F.X j).K) sl_tupA (pa j) (pl j) (pu j), fun P hK hE Bv Γ σ H Qd Q n h k => by
    refine la P hK hE Bv Γ σ H _ _ n h fun w Γ1 v H1 B1 e1 n1 r1 h1 => ll P hK hE B1 Γ1 σ H1 _ _ n1 h1 fun lo Γ2 H2 B2 e2 n2 h2 => lu P hK hE B2 Γ2 σ H2 _ _ n2 h2 fun hi Γ3 H3 B3 e3 n3 h3 => ?_
    obtain ⟨l, rfl, h3⟩ := h3
    have r3 : Rp P.K B3 v (.tup l) := (show Rp P.K B1 v (.tup l) from r1).mono (e2.trans e3)
    cases r3 with
    | @tup a' xs _ hs hr =>
      rw [hK] at hs hr
      refine ⟨a', xs, rfl, ex_t n3.sub hs, fun hw => ?_, fun _ p hp => ?_⟩
      · rw [hr.len] at hw
        rw [cutD_whole hw] at h3
        exact finD k ((e1.trans e2).trans e3) n3 (.tup (by rw [hK]; exact hs) (by rw [hK]; exact hr)) h3
      · have hr' : RpL P.K B3 xs l := by rw [hK]; exact hr
        exact n3.newT (hr'.cut lo hi) ((e1.trans e2).trans e3) h3 k hp⟩
/-- xs[lo:hi], a list: a new list -/
def dSlL (A : DE) (L U : DP) : DO := fun xd Γ Q => A xd Γ fun w Γ1 => L xd Γ1 fun lo Γ2 => U xd Γ2 fun hi Γ3 => ∃ l, asD Γ3 w = some (.lst l) ∧ Q (cutD l lo hi) Γ3
theorem pdo_sliceL (ha : PD F E a A) (hl : PDP F E lo L) (hu : PDP F E hi U) : PDO F E (.Subscript a (.Slice lo hi none p2) pos) (dSlL A L U) :=
  let ⟨_, pa, la⟩ := ha; let ⟨_, pl, ll⟩ := hl; let ⟨_, pu, lu⟩ := hu
  ⟨_, fun j => F.k j ▸ pe_slice (r := rSlL (F.X j).K) sl_list (pa j) (pl j) (pu j), fun P hK hE Bv Γ σ H Qd Q n h k => by
    refine la P hK hE Bv Γ σ H _ _ n h fun w Γ1 v H1 B1 e1 n1 r1 h1 => ll P hK hE B1 Γ1 σ H1 _ _ n1 h1 fun lo Γ2 H2 B2 e2 n2 h2 => lu P hK hE B2 Γ2 σ H2 _ _ n2 h2 fun hi Γ3 H3 B3 e3 n3 h3 => ?_
    obtain ⟨l, hw, h3⟩ := h3
    have r3 : RpW P.K B3 σ v w := r1.mono (e2.trans e3)
    obtain ⟨a', xs, rfl, hs, hr⟩ := n3.list r3 hw
    rw [hK] at hs
    exact ⟨a', xs, rfl, hs, fun p hp => n3.newL (hr.cut lo hi) ((e1.trans e2).trans e3) h3 k hp⟩⟩
/-! ### a <= b <= c -/
def dChain (rd rd' : D2) (A B C : DE) : DE := fun xd Γ Q => A xd Γ fun x Γ1 => B xd Γ1 fun y Γ2 => rd Γ2 x y fun z Γ3 => ∃ q, z = .dat (.bl q) ∧ if q = true then C xd Γ3 fun w Γ4 => rd' Γ4 y w Q else Q (.dat (.bl false)) Γ3
theorem pd_chain {op op' : CmpOp} {r r' : R2} {rd rd' : D2} (ho : ∀ j, OpR (F.X j) (compareOp op) r) (ho' : ∀ j, OpR (F.X j) (compareOp op') r') (hl : ∀ P : Par, P.K = F.K → RL P r rd) (hl' : ∀ P : Par, P.K = F.K → RL P r' rd') (ha : PD F E a A) (hb : PD F E b B) (hc : PD F E c C)
    (hm : lastMarks [op, op'] [b, c] = false := by with_unfolding_all rfl) : PD F E (.Compare a [op, op'] [b, c] pos) (dChain rd rd' A B C) :=
  let ⟨_, pa, la⟩ := ha; let ⟨_, pb, lb⟩ := hb; let ⟨_, pc, lc⟩ := hc
  ⟨_, fun j => pe_chain (ho j) (ho' j) (pa j) (pb j) (pc j) hm, fun P hK hE Bv Γ σ H Qd Q n h k =>
    la P hK hE Bv Γ σ H _ _ n h fun w Γ1 v H1 B1 e1 n1 r1 h1 => lb P hK hE B1 Γ1 σ H1 _ _ n1 h1 fun w2 Γ2 v2 H2 B2 e2 n2 r2 h2 =>
      hl P hK B2 Γ2 σ H2 v v2 w w2 _ _ n2 (r1.mono e2) r2 h2 fun z Γ3 vz H3 B3 e3 n3 r3 h3 => by
        obtain ⟨q, rfl, h3⟩ := h3
        cases r3
        refine ⟨q, rfl, ?_⟩
        cases q with
        | false => exact finD k ((e1.trans e2).trans e3) n3 (.bl false) h3
        | true => exact lc P hK hE B3 Γ3 σ H3 _ _ n3 h3 fun w4 Γ4 v4 H4 B4 e4 n4 r4 h4 => hl' P hK B4 Γ4 σ H4 v2 v4 w2 w4 _ _ n4 (r2.mono (e3.trans e4)) r4 h4 fun w5 Γ5 v5 H5 B5 e5 n5 r5 h5 => k w5 Γ5 v5 H5 B5 ((((e1.trans e2).trans e3).trans e4).trans e5) n5 r5 h5⟩
theorem pd_leLe (ha : PD F E a A) (hb : PD F E b B) (hc : PD F E c C) (hm : lastMarks [.LtE, .LtE] [b, c] = false := by with_unfolding_all rfl) : PD F E (.Compare a [.LtE, .LtE] [b, c] pos) (dChain (rdI0 gLe) (rdI0 gLe) A B C) :=
  pd_chain (fun _ => op_le) (fun _ => op_le) (fun _ _ => rl_I0 fun _ _ _ => .bl _) (fun _ _ => rl_I0 fun _ _ _ => .bl _) ha hb hc hm
end
end DL

set_option Elab.async false
set_option linter.all false
set_option maxRecDepth 100000
set_option maxHeartbeats 4000000
/-! Elements of generator expressions that write nothing: names, ints, comparisons, products, items of tuples. -/
namespace QG
open PySem PySem.Spec PyProof.Rows L2 DL
theorem kp_refl (s : Shared) : Keeps s s := ⟨s.heap, s.toks, rfl, fun _ _ e => e⟩
theorem kp_tok (s : Shared) (k : Nat) : Keeps s { s with toks := k } := ⟨s.heap, k, rfl, fun _ _ e => e⟩
theorem kp_trans {s s1 s2 : Shared} (a : Keeps s s1) (b : Keeps s1 s2) : Keeps s s2 := by
  obtain ⟨h1, k1, rfl, p1⟩ := a
  obtain ⟨h2, k2, rfl, p2⟩ := b
  exact ⟨h2, k2, rfl, fun c o e => p2 c o (p1 c o e)⟩
theorem kp_get {s s1 : Shared} (a : Keeps s s1) {b : Addr} {o : Obj} (e : s.heap.get? b = some o) : s1.heap.get? b = some o := by
  obtain ⟨h1, k1, rfl, p1⟩ := a
  exact p1 b o e
theorem tup_get {h h' : Heap} {a : Addr} {its : Array Value} (k : ∀ b o, h.get? b = some o → h'.get? b = some o) (p : IsTup h a its) : IsTup h' a its := by
  obtain ⟨o, e, r⟩ := p
  exact ⟨o, k _ _ e, r⟩
/-- what a generator's frame can see: names, the tuples of B -/
structure Vw (prog : Program) (w : World) (K : PySem.W.Frag) (vs : List (Str × V)) (B : Hp) (cenv : Env) (s : Shared) : Prop where
  ld : ∀ (x : Str) (v : V), vs.lookup x = some v → (x == ("__debug__" : Str)) = false → (x == ("__classdict__" : Str)) = false → ∀ (pos : Pos) (A : Around) (s' : Shared) (Q E : Value → Shared → Prop), Keeps s s' → (∀ u, RelV v u → Q u s') → wpAny (model prog w) A (eval (.Name x pos) cenv) Q E s'
  tup : ∀ a xs, SqT K B a xs → ∃ its : List Value, Vals xs its ∧ xs.length ≤ sizeLine ∧ IsTup s.heap a its.toArray
section
variable {prog : Program} {w : World} {K : PySem.W.Frag} {vs : List (Str × V)} {B : Hp} {cenv : Env} {s s1 : Shared}
theorem Vw.keeps (v : Vw prog w K vs B cenv s) (k : Keeps s s1) : Vw prog w K vs B cenv s1 :=
  ⟨fun x u e hd hc pos A s' Q E k' q => v.ld x u e hd hc pos A s' Q E (kp_trans k k') q, fun a xs h => let ⟨its, r, z, p⟩ := v.tup a xs h; ⟨its, r, z, tup_get (fun _ _ e => kp_get k e) p⟩⟩
end
inductive RpN (K : PySem.W.Frag) (B : Hp) : List (Str × V) → List (Str × D) → Prop
  | nil : RpN K B [] []
  | cons {x : Str} {v : V} {d : D} {vs : List (Str × V)} {ds : List (Str × D)} : Rp K B v d → RpN K B vs ds → RpN K B ((x, v) :: vs) ((x, d) :: ds)
theorem RpN.get {K : PySem.W.Frag} {B : Hp} {x : Str} {d : D} : ∀ {vs : List (Str × V)} {ds : List (Str × D)}, RpN K B vs ds → ds.lookup x = some d → ∃ v, vs.lookup x = some v ∧ Rp K B v d
  | _, _, .cons (x := y) h r, e => by
    rw [List.lookup_cons] at e
    rw [List.lookup_cons]
    cases q : x == y with
    | true => rw [q] at e; cases e; exact ⟨_, rfl, h⟩
    | false => rw [q] at e; exact RpN.get r e
abbrev DQ := List (Str × D) → D → Prop
/-- e, quiet, reads as T -/
def PQ (K : PySem.W.Frag) (e : Expr) (T : DQ) : Prop := ∀ (prog : Program) (w : World) (cenv : Env) (A : Around) (E : Value → Shared → Prop) (s : Shared) (B : Hp) (vs : List (Str × V)) (ds : List (Str × D)) (d : D),
  Vw prog w K vs B cenv s → RpN K B vs ds → T ds d → wpAny (model prog w) A (eval e cenv) (fun u s3 => (∃ v, RelV v u ∧ Rp K B v d) ∧ Keeps s s3) E s
section
variable {K : PySem.W.Frag} {a b c : Expr} {S T U : DQ} {pos : Pos}
def qVar (x : Str) : DQ := fun ds d => ds.lookup x = some d
theorem q_var {x : Str} (hd : (x == ("__debug__" : Str)) = false := by decide) (hcd : (x == ("__classdict__" : Str)) = false := by decide) : PQ K (.Name x pos) (qVar x) := fun prog w cenv A E s B vs ds d hv hr ht => by
  obtain ⟨v, h1, h2⟩ := hr.get ht
  exact hv.ld x v h1 hd hcd pos A s _ E (kp_refl s) fun u ru => ⟨⟨v, ru, h2⟩, kp_refl s⟩
def qInt (i : Int) : DQ := fun _ d => d = .int i
theorem q_int {i : Int} {j} : PQ K (.Constant (.int i) j pos) (qInt i) := fun prog w cenv A E s B vs ds d hv hr ht => by
  cases ht
  exact wpAny_Constant_int ⟨⟨.int i, ⟨_, rfl⟩, .int i⟩, kp_tok _ _⟩
theorem rp_int {B : Hp} {v : V} {u : Value} {i : Int} (h : Rp K B v (.int i)) (r : RelV v u) : ∃ t, u = .int i t := by
  cases h
  exact r
def qMul (S T : DQ) : DQ := fun ds d => ∃ i j : Int, S ds (.int i) ∧ T ds (.int j) ∧ CMul i j ∧ d = .int (i * j)
theorem q_mul (ha : PQ K a S) (hb : PQ K b T) : PQ K (.BinOp a .Mult b pos) (qMul S T) := fun prog w cenv A E s B vs ds d hv hr ht => by
  obtain ⟨i, j, h1, h2, hc, rfl⟩ := ht
  refine wpAny_BinOp (wpAny_mono (ha prog w cenv A E s B vs ds _ hv hr h1) (fun u1 s1 z1 => ?_) fun _ _ e => e)
  obtain ⟨⟨v1, r1, p1⟩, k1⟩ := z1
  obtain ⟨t1, rfl⟩ := rp_int p1 r1
  refine wpAny_mono (hb prog w cenv A E s1 B vs ds _ (hv.keeps k1) hr h2) (fun u2 s2 z2 => ?_) fun _ _ e => e
  obtain ⟨⟨v2, r2, p2⟩, k2⟩ := z2
  obtain ⟨t2, rfl⟩ := rp_int p2 r2
  exact mul_int ⟨⟨.int (i * j), ⟨_, rfl⟩, .int _⟩, kp_trans (kp_trans k1 k2) (kp_tok _ _)⟩ hc.ok
def qLeLe (S T U : DQ) : DQ := fun ds d => ∃ i j k : Int, S ds (.int i) ∧ T ds (.int j) ∧ U ds (.int k) ∧ d = .bl (decide (i ≤ j) && decide (j ≤ k))
theorem q_leLe (ha : PQ K a S) (hb : PQ K b T) (hc : PQ K c U) (hm : lastMarks [.LtE, .LtE] [b, c] = false := by with_unfolding_all rfl) : PQ K (.Compare a [.LtE, .LtE] [b, c] pos) (qLeLe S T U) := fun prog w cenv A E s B vs ds d hv hr ht => by
  obtain ⟨i, j, k, h1, h2, h3, rfl⟩ := ht
  refine Compare_chain (wpAny_mono (ha prog w cenv A E s B vs ds _ hv hr h1) (fun u1 s1 z1 => ?_) fun _ _ e => e) hm
  obtain ⟨⟨v1, r1, p1⟩, k1⟩ := z1
  obtain ⟨t1, rfl⟩ := rp_int p1 r1
  refine chain_link (wpAny_mono (hb prog w cenv A E s1 B vs ds _ (hv.keeps k1) hr h2) (fun u2 s2 z2 => ?_) fun _ _ e => e)
  obtain ⟨⟨v2, r2, p2⟩, k2⟩ := z2
  obtain ⟨t2, rfl⟩ := rp_int p2 r2
  have k12 := kp_trans k1 k2
  refine le_int (wpAny_truthy_bool ?_)
  by_cases q : i ≤ j
  · rw [decide_eq_true q]
    refine ite_tt (chain_last (wpAny_mono (hc prog w cenv A E s2 B vs ds _ (hv.keeps k12) hr h3) (fun u3 s3 z3 => ?_) fun _ _ e => e))
    obtain ⟨⟨v3, r3, p3⟩, k3⟩ := z3
    obtain ⟨t3, rfl⟩ := rp_int p3 r3
    exact le_int ⟨⟨.bl (decide (j ≤ k)), rfl, by rw [Bool.true_and]; exact .bl _⟩, kp_trans k12 k3⟩
  · rw [decide_eq_false q]
    exact ite_ff ⟨⟨.bl false, rfl, by rw [Bool.false_and]; exact .bl _⟩, k12⟩
/-- a[i], a tuple, i a constant -/
def qIx (S : DQ) (i : Int) : DQ := fun ds d => ∃ l, S ds (.tup l) ∧ atI l i = some d
theorem q_ix {i : Int} {j} {p2 : Pos} (ha : PQ K a S) : PQ K (.Subscript a (.Constant (.int i) j p2) pos) (qIx S i) := fun prog w cenv A E s B vs ds d hv hr ht => by
  obtain ⟨l, h1, h2⟩ := ht
  refine Subscript_ (wpAny_mono (ha prog w cenv A E s B vs ds _ hv hr h1) (fun u1 s1 z1 => ?_) fun _ _ e => e)
  obtain ⟨⟨v1, r1, p1⟩, k1⟩ := z1
  cases p1 with
  | @tup p xs _ hs hr1 =>
    obtain rfl : u1 = Value.ref p := r1
    refine wpAny_Constant_int ?_
    obtain ⟨v, g1, g2⟩ := hr1.at_ h2
    obtain ⟨its, rv, hz, pl⟩ := (hv.keeps k1).tup p xs hs
    obtain ⟨n, e1, e2, e3, e4, e5⟩ := atI_get g1
    obtain ⟨w', ew, rw'⟩ := rv.get e2
    have hl := rv.length
    have hn := line63
    have kk := kp_trans k1 (kp_tok s1 (s1.toks + 1))
    exact subscriptTail_builtinR (x := w') (T := "tuple") (tup_get (h := s1.heap) (fun _ _ e => e) pl).typeIs slot_tuple_getitem.lookup
      (getItem_tuple (j := n) (tup_get (h := s1.heap) (fun _ _ e => e) pl) (by omega) (by omega) (by rw [List.size_toArray, ← hl]; exact e1) (by simpa using ew) ⟨rfl, ⟨v, rw', g2⟩, kk⟩) rfl
end
end QG

set_option Elab.async false
set_option linter.all false
set_option maxRecDepth 100000
set_option maxHeartbeats 4000000
/-! Generator expressions whose elements write nothing. -/
namespace QG
open PySem PySem.Spec PyProof.Rows L2 DL
/-- an iterator, new behind s1, that gives n items -/
structure Src (prog : Program) (w : World) (P : Addr) (s1 : Shared) (n : Nat) (Pf : Nat → Value → Prop) (it : Value) (s2 : Shared) : Prop where
  ex : ∃ (Ia : Addr) (h2 : Heap) (fp wr : List Addr) (St : Nat → Heap → Prop), it = .ref Ia ∧ s2 = { s1 with heap := h2 } ∧ (∀ b o, s1.heap.get? b = some o → h2.get? b = some o) ∧ s1.heap.objs.size ≤ h2.objs.size ∧
    (∀ A' : Around, A'.handled = none → Walks prog w A' Ia fp wr n Pf St) ∧ St 0 h2 ∧ (∀ b ∈ fp, b < h2.objs.size ∧ b ≠ P) ∧ ∀ b ∈ wr, s1.heap.objs.size ≤ b
section
variable {prog : Program} {w : World} {A : Around} {E : Value → Shared → Prop} {s : Shared} {P a : Addr} {its : Array Value}
theorem src_list (hl : s.heap.IsList a its) (hP : P < s.heap.objs.size) (ha : a ≠ P) : wpAny (model prog w) A (pyIter (.ref a)) (Src prog w P s its.size fun i v => its[i]? = some v) E s := by
  have lt : a < s.heap.objs.size := let ⟨_, e, _⟩ := hl; Heap.lt_size e
  refine wpAny_pyIter_list hl ⟨_, _, [s.heap.objs.size, a], [s.heap.objs.size], _, rfl, rfl, fun b o e => Heap.get?_push_of_some _ e, by rw [Heap.size_push]; exact Nat.le_succ _,
    fun A' hA => Walks.list hA _ _ (Nat.ne_of_lt lt) its, ⟨⟨_, Heap.get?_push_size _ rfl, rfl, rfl⟩, hl.push _⟩, fun b hb => ?_, fun b hb => ?_⟩
  · rw [Heap.size_push]
    simp only [List.mem_cons, List.not_mem_nil, or_false] at hb
    rcases hb with rfl | rfl
    · exact ⟨Nat.lt_succ_self _, fun z => Nat.lt_irrefl _ (z ▸ hP)⟩
    · exact ⟨Nat.lt_succ_of_lt lt, ha⟩
  · rw [List.mem_singleton.mp hb]
    exact Nat.le_refl _
theorem src_tup (hl : s.heap.IsTuple a its) (hP : P < s.heap.objs.size) (ha : a ≠ P) : wpAny (model prog w) A (pyIter (.ref a)) (Src prog w P s its.size fun i v => its[i]? = some v) E s := by
  have lt : a < s.heap.objs.size := let ⟨_, e, _⟩ := hl; Heap.lt_size e
  refine wpAny_pyIter_tuple hl ⟨_, _, [s.heap.objs.size, a], [s.heap.objs.size], _, rfl, rfl, fun b o e => Heap.get?_push_of_some _ e, by rw [Heap.size_push]; exact Nat.le_succ _,
    fun A' hA => Walks.tuple hA _ _ (Nat.ne_of_lt lt) its, ⟨⟨_, Heap.get?_push_size _ rfl, rfl, rfl⟩, ⟨_, Heap.get?_push_of_some _ hl.choose_spec.1, hl.choose_spec.2⟩⟩, fun b hb => ?_, fun b hb => ?_⟩
  · rw [Heap.size_push]
    simp only [List.mem_cons, List.not_mem_nil, or_false] at hb
    rcases hb with rfl | rfl
    · exact ⟨Nat.lt_succ_self _, fun z => Nat.lt_irrefl _ (z ▸ hP)⟩
    · exact ⟨Nat.lt_succ_of_lt lt, ha⟩
  · rw [List.mem_singleton.mp hb]
    exact Nat.le_refl _
end
section
variable {X : Cx} {pins : List (Addr × Obj)} {σ : L2.St} {H1 : Hp} {s1 : Shared}
/-- the generator g gives n items, told by F, and leaves H1 but for the table -/
def Rdy (X : Cx) (pins : List (Addr × Obj)) (σ : L2.St) (H1 : Hp) (P : Addr) (n : Nat) (F : Nat → Value → Prop) (g : Addr) (s5 : Shared) : Prop :=
  ∃ (fp wr : List Addr) (G : Array GenState → Array GenState → Prop) (F' : Nat → Value → Prop) (St : Nat → Shared → Prop),
    WalksS X.prog X.w X.A.in4 g fp wr G n F' St ∧ St 0 s5 ∧ (∀ b ∈ fp, b < s5.heap.objs.size) ∧ (∀ j v, F' j v → F j v) ∧ ∀ s', Moved wr G s5 s' → ∃ H2, GxR.Tabbed P H1 H2 ∧ Inv X pins σ H2 s'
theorem tab_at {P : Addr} (I1 : Inv X pins σ H1 s1) (tg : TabG H1 P) : ∃ ps : Array Value, H1 P = some (.tbl ps) ∧ TriplesOk ps.toList ∧ s1.heap.get? P = some { cls := .none, data := .fields ps } := by
  obtain ⟨ps, h1, h2⟩ := tg
  exact ⟨ps, h1, h2, I1.hok P _ h1⟩
/-- what is asked behind the built-ins: the iterator it walks, the elements are quiet, the generator made goes on to Q' -/
abbrev GoOn (X : Cx) (scope : Scope) (x : Str) (elt : Expr) (it : Value) (Q' : Value → Shared → Prop) (cdv : Value) (b : Addr) (z : Shared) : Prop :=
  ∃ (i : Addr) (fs ws : List Addr) (m : Nat) (Pi : Nat → Value → Prop) (Si : Nat → Heap → Prop) (ok : Nat → Bool) (Y : Nat → Value → Prop), it = .ref i ∧ (∀ B : Around, B.handled = none → Walks X.prog X.w B i fs ws m Pi Si) ∧ Si 0 z.heap ∧ (∀ c ∈ fs, c < z.heap.objs.size) ∧ z.heap.NoLimit ∧ cStatics ∉ ws ∧
    (∀ h : Heap, (∀ c u, z.heap.get? c = some u → h.get? c = some u) → QuietGen X.prog X.w (genEnv scope (cloFrom X.env.cells scope.names []) z.heap.objs.size cdv b X.env) x [] elt (List.range z.heap.objs.size) ws Pi ok Y h) ∧
    ∀ g h t e, e.bare = true → z.heap.objs.size < g → h.objs.size = g + 1 → (∀ c u, z.heap.get? c = some u → h.get? c = some u) →
      WalksS X.prog X.w X.A.in4 g (g :: z.heap.objs.size :: List.range z.heap.objs.size) (z.heap.objs.size :: ws) (GenOnlyQ z.gens.size) (passing ok m 0).length (fun j y => ∃ l, (passing ok m 0)[j]? = some l ∧ Y l y)
        (GenAt X.prog X.w X.A.in4 g z.gens.size z.heap.objs.size (List.range z.heap.objs.size) ws ok m Y) →
      GenAt X.prog X.w X.A.in4 g z.gens.size z.heap.objs.size (List.range z.heap.objs.size) ws ok m Y 0 { z with gens := z.gens.push e, toks := t, heap := h } → Q' (.ref g) { z with gens := z.gens.push e, toks := t, heap := h }
theorem gen_q {c P : Addr} {elt : Expr} {x : Str} {gpos : Pos} {scope : Scope} {k n : Nat} {Q' : Value → Shared → Prop} {Pf F : Nat → Value → Prop} {it : Value} {s2 : Shared}
    (hr : Room k X.A) (TB : GxR.TabB X.base X.mg c P) (hcode : X.env.code = .ref c) (I1 : Inv X pins σ H1 s1) (tg : TabG H1 P) (src : Src X.prog X.w P s1 n Pf it s2)
    (hel : ∀ (C : Addr) (code : Value) (bi : Addr) (A' : Around) (E' : Value → Shared → Prop) (i : Nat) (v : Value) (s₂ : Shared) (m₂ : Str → Option Value), Pf i v → s₂.heap.Ns C m₂ → m₂ x = some v → (∀ b o, b ≠ P → s1.heap.get? b = some o → s₂.heap.get? b = some o) →
      wpAny (model X.prog X.w) A' (eval elt (genEnv scope (cloFrom X.env.cells scope.names []) C code bi X.env)) (fun y s₃ => F i y ∧ Keeps s₂ s₃) E' s₂)
    (hQ : ∀ g s5, Rdy X pins σ H1 P n F g s5 → Q' (.ref g) s5) :
    s2.heap.NoLimit ∧ wpAny (model X.prog X.w) X.A (genexprCode X.env gpos (X.env.qual ++ "<genexpr>") scope) (fun code s₃ => wpAny (model X.prog X.w) X.A (builtinsFor X.env.globals X.env.builtins) (fun bi z => GoOn X scope x elt it Q' code bi z) X.xe s₃) X.xe s2 := by
  obtain ⟨ps, hP, ht, hPs⟩ := tab_at I1 tg
  obtain ⟨Ia, h2, fp, wr, St, rfl, rfl, up2, sz2, W, hst, hfp, hwr⟩ := src.ex
  have hPlt : P < s1.heap.objs.size := Heap.lt_size hPs
  have cl : cStatics < s1.heap.objs.size := let ⟨_, q, _⟩ := I1.nolimit; q.lt
  have hcP : cStatics ≠ P := fun e => by
    obtain ⟨_, ⟨o', es, ep, ho, hd, _⟩, _⟩ := I1.nolimit
    rw [e, hPs] at ho
    cases ho
    cases hd
  have cd : PySem.W.CodeHd h2 c P := TB.code.keeps fun b u e => up2 b u (I1.bk b u e)
  have hP2 := up2 _ _ hPs
  have lim2 : h2.NoLimit := I1.nolimit.keeps up2
  have old : ∀ b u, s1.heap.get? b = some u → b ∉ wr := fun b u e z => absurd (Nat.lt_of_lt_of_le (Heap.lt_size e) (hwr b z)) (Nat.lt_irrefl _)
  -- behind the code object: a heap h3 in which only the table has changed
  have go : ∀ (code : Value) (h3 : Heap) (tk : Nat) (ps' : Array Value), Heap.ExtBut P h2 h3 → h2.objs.size ≤ h3.objs.size → h3.get? P = some { cls := .none, data := .fields ps' } → (∃ more, ps' = ps ++ more) → TriplesOk ps'.toList →
      wpAny (model X.prog X.w) X.A (builtinsFor X.env.globals X.env.builtins) (fun bi z => GoOn X scope x elt (.ref Ia) Q' code bi z) X.xe { s1 with heap := h3, toks := tk } := by
    intro code h3 tk ps' hx hsz hP3 hmore ht3
    have up3 : ∀ b u, b ≠ P → s1.heap.get? b = some u → h3.get? b = some u := fun b u hb e => hx b u hb (up2 b u e)
    obtain ⟨bm, ob, e1, e2, e3, e4, e5, e6, e7, e8⟩ := TB.bm
    refine wpAny_builtinsFor (m := X.mg) (by rw [I1.ok.glob]; exact ((I1.mod.glob.keeps I1.bk).keeps up2).extBut hx TB.gP) e1 e2 (up3 _ _ e4 (I1.bk _ _ e5)) e6 e7 e8 ?_
    refine ⟨Ia, fp, wr, n, Pf, St, fun _ => true, F, rfl, W, (W X.A hr.hd).frame _ _ _ hst fun b hb u e => hx b u (hfp b hb).2 e, fun b hb => Nat.lt_of_lt_of_le (hfp b hb).1 hsz, lim2.extBut hx hcP, fun z => absurd (Nat.lt_of_lt_of_le cl (hwr _ z)) (Nat.lt_irrefl _), fun href hh => ?_, fun g h5 tk5 gs hb hg hs5 k5 W5 at5 => ?_⟩
    · refine ⟨fun A' E' i v s₂ m₂ _ _ _ _ _ => ?_, fun A' E' i v s₂ m₂ _ hv _ hn hm hk => hel _ _ _ A' E' i v s₂ m₂ hv hn hm fun b u hb e => ?_⟩
      · rw [List.forIn_nil]
        exact wpAny_pure ⟨rfl, kp_refl _⟩
      · have e3' := up3 b u hb e
        exact hk b (List.mem_range.mpr (Heap.lt_size e3')) (old b u e) u (hh b u e3')
    · have lenp : passing (fun _ => true) n 0 = List.range n := GxR.passing_true n
      rw [lenp, List.length_range] at W5
      have k5' : ∀ b u, h3.get? b = some u → h5.get? b = some u := k5
      have s5' : h5.objs.size = g + 1 := hs5
      have g3 : h3.objs.size < g := hg
      refine hQ g _ ⟨_, _, _, _, _, W5, at5, fun b hb => ?_, fun j v hv => ?_, fun s' hm => ?_⟩
      · show b < h5.objs.size
        rw [s5']
        simp only [List.mem_cons, List.mem_range] at hb
        rcases hb with z | z | z
        · rw [z]
          exact Nat.lt_succ_self g
        · rw [z]
          exact Nat.lt_succ_of_lt g3
        · exact Nat.lt_succ_of_lt (Nat.lt_trans z g3)
      · obtain ⟨i, hi, q⟩ := hv
        obtain ⟨hj, ej⟩ := List.getElem?_eq_some_iff.mp hi
        rw [List.getElem_range] at ej
        rw [ej]
        exact q
      · obtain ⟨more, rfl⟩ := hmore
        have no : ∀ b u, s1.heap.get? b = some u → b ∉ h3.objs.size :: wr := fun b u e z => by
          rcases List.mem_cons.mp z with z | z
          · have l1 := Heap.lt_size e
            rw [z] at l1
            exact absurd (Nat.lt_of_lt_of_le l1 (Nat.le_trans sz2 hsz)) (Nat.lt_irrefl _)
          · exact old b u e z
        have J := GxR.inv_tab (more := more) (h' := s'.heap) (g' := s'.gens) (d' := s'.drawn) (t' := s'.toks) I1 hP (fun b u hb e => hm.heap b u (no b u e) (k5' b u (up3 b u hb e)))
          (hm.heap P _ (no P _ hPs) (k5' P _ hP3)) (AllBare.movedS (I1.bare.push hb) hm)
        rw [GxR.sh_eta s1 s' hm.os] at J
        exact ⟨_, ⟨⟨ps ++ more, upd_same, ht3⟩, fun b hb => upd_ne hb⟩, J⟩
  refine ⟨lim2, ?_⟩
  cases hf : codeAmong gpos ps.toList with
  | none =>
    refine wpAny_genexprCodeX hcode (cd.code hP2 ht) (cd.tab hP2) hf fun c' h' tk hx hge hlt hco' _ htab' _ => ?_
    obtain ⟨_, _, _, _, _, _, _, _, _, _, _, _, _, _, _, _, _, _, _, htr, _⟩ := hco'
    exact go _ h' tk _ hx (Nat.le_trans hge (Nat.le_of_lt hlt)) htab'.2 ⟨_, rfl⟩ htr
  | some cv => exact wpAny_genexprCode_hit hcode (cd.code hP2 ht) hf (go cv h2 s1.toks ps (Heap.ExtBut.refl _ _) (Nat.le_refl _) hP2 ⟨#[], by simp⟩ ht)
end
end QG

set_option Elab.async false
set_option linter.all false
set_option maxRecDepth 100000
set_option maxHeartbeats 4000000
/-! all, any, sum of generator expressions over a list or tuple; elements that write nothing. -/
namespace QG
open PySem PySem.Spec PyProof.Rows L2 DL
/-- captured names: how they lie to the frames -/
structure FvS (X : Cx) (scope : Scope) (fv : List (Str × Nat)) : Prop where
  at_ : ∀ p ∈ fv, X.N[p.2]? = some p.1
  mem : ∀ p ∈ fv, (p.1, NameKind.free) ∈ scope.names
  knd : ∀ p ∈ fv, scope.names.lookup p.1 = some .free
  own : ∀ p ∈ fv, X.env.scope.names.lookup p.1 = some .cell ∨ X.env.scope.names.lookup p.1 = some .free
def FvOk (K : PySem.W.Frag) (B : Hp) (σ : L2.St) (fv : List (Str × Nat)) (ds : List (Str × D)) : Prop :=
  ∃ fvs : List (Str × V), RpN K B fvs ds ∧ ∀ y z, fvs.lookup y = some z → ∃ i, (y, i) ∈ fv ∧ σ[i]? = some (some z)
section
variable {X : Cx} {pins : List (Addr × Obj)} {σ : L2.St} {H1 : Hp} {s1 : Shared}
theorem lookup_app {α : Type} {y : Str} {z : α} : ∀ {l m : List (Str × α)}, (l ++ m).lookup y = some z → l.lookup y = some z ∨ m.lookup y = some z
  | [], m, h => .inr h
  | (x, v) :: l, m, h => by
    rw [List.cons_append, List.lookup_cons] at h
    rw [List.lookup_cons]
    cases q : y == x with
    | true => rw [q] at h; exact .inl h
    | false => rw [q] at h; exact lookup_app h
/-- what the generator's frame sees -/
theorem vw_of {P C bi : Addr} {code : Value} {scope : Scope} {B : Hp} {fv : List (Str × Nat)} {ls fvs : List (Str × V)} {s₂ : Shared} {m₂ : Str → Option Value} (I1 : Inv X pins σ H1 s1) (tg : TabG H1 P) (kind : scope.kind = .function) (free : ∀ y ∈ scope.names, y.2 = .free → ∃ c, X.env.cells.lookup y.1 = some c)
    (eB : DL.Ex B H1) (S : FvS X scope fv) (hv : ∀ y z, fvs.lookup y = some z → ∃ i, (y, i) ∈ fv ∧ σ[i]? = some (some z)) (hl : ∀ y z, ls.lookup y = some z → scope.names.lookup y = some .local ∧ ∃ u, m₂ y = some u ∧ RelV z u)
    (hn : s₂.heap.Ns C m₂) (up : ∀ b o, b ≠ P → s1.heap.get? b = some o → s₂.heap.get? b = some o) : Vw X.prog X.w X.K (ls ++ fvs) B (genEnv scope (cloFrom X.env.cells scope.names []) C code bi X.env) s₂ := by
  obtain ⟨ps, hP, _, hPs⟩ := tab_at I1 tg
  refine ⟨fun x v e hd hcd pos A s' Q E k q => ?_, fun a xs h => ?_⟩
  · rcases lookup_app e with e | e
    · obtain ⟨h1, u, h2, r⟩ := hl x v e
      exact wpAny_Name (wpAny_loadName_local (env := genEnv scope (cloFrom X.env.cells scope.names []) C code bi X.env) kind h1 (hn.at' fun o e => kp_get k e) h2 (q u r)) hd
    · obtain ⟨i, h1, h2⟩ := hv x v e
      obtain ⟨m, _, lk⟩ := I1.loc
      have ow := S.own _ h1
      obtain ⟨u, r, l⟩ := lk i x v (S.at_ _ h1) h2 (.inr ow)
      have ow' : X.env.kindOf x = some .cell ∨ X.env.kindOf x = some .free := ow
      rcases l with ⟨z, _⟩ | ⟨_, c, hc, hcell⟩
      · rw [z] at ow'
        rcases ow' with w | w <;> cases w
      · have hcell' : s'.heap.IsCell c (some u) := by
          obtain ⟨o, eo, ho⟩ := hcell
          have nP : c ≠ P := fun z => by
            rw [z, hPs] at eo
            cases eo
            cases ho
          exact ⟨o, kp_get k (up c o nP eo), ho⟩
        exact wpAny_Name (wpAny_loadName_free (env := genEnv scope (cloFrom X.env.cells scope.names []) C code bi X.env) kind (S.knd _ h1) (NdefX.clo_has free (S.mem _ h1) hc) hcell' (q u r) hcd) hd
  · obtain ⟨its, r, ⟨o, eo, ho, hd⟩, hz⟩ := I1.tuple (DL.ex_t eB h)
    have nP : a ≠ P := fun z => by
      rw [z, hPs] at eo
      cases eo
      cases ho
    exact ⟨its, r, hz, o, up a o nP eo, ho, hd⟩
/-- what is walked, its elements -/
structure Walked (K : PySem.W.Frag) (x : Str) (fv : List (Str × Nat)) (T : DQ) (P : Addr) (f : D → D) (σ : L2.St) (H1 : Hp) (v : V) (l : List D) (B : Hp) : Prop where
  ex : ∃ (a : Addr) (us : List V) (ds : List (Str × D)), v = .ref a ∧ (SqL K H1 a us ∨ SqT K H1 a us) ∧ RpL K B us l ∧ DL.Ex B H1 ∧ FvOk K B σ fv ds ∧ (∀ d ∈ l, T ((x, d) :: ds) (f d)) ∧ TabG H1 P
/-- the j-th item, f of the j-th of l -/
def ItF (K : PySem.W.Frag) (B : Hp) (l : List D) (f : D → D) (j : Nat) (y : Value) : Prop := ∃ d v, l[j]? = some d ∧ RelV v y ∧ Rp K B v (f d)
theorem gen_one {c P : Addr} {elt iter : Expr} {x : Str} {px gpos : Pos} {scope : Scope} {fv : List (Str × Nat)} {T : DQ} {k : Nat} {te : TE} {H : Hp} {s : Shared} {Q' : Value → Shared → Prop} {R : (D → D) → List D → Hp → Prop}
    (hr : Room k X.A) (TB : GxR.TabB X.base X.mg c P) (hcode : X.env.code = .ref c) (S : GxR.GenS X.env scope x) (Fv : FvS X scope fv) (hi : PE X iter te) (hel : PQ X.K elt T) (hs : ∀ v, genFold iter X.env v = pure v)
    (I : Inv X pins σ H s) (h : te σ H fun v H1 => ∃ f l B, Walked X.K x fv T P f σ H1 v l B ∧ R f l H1) (hQ : ∀ f l B H1 g s5, R f l H1 → Rdy X pins σ H1 P l.length (ItF X.K B l f) g s5 → Q' (.ref g) s5) :
    wpAny (model X.prog X.w) X.A (eval (.GeneratorExp elt [⟨.Name x px, iter, [], 0⟩] scope gpos) X.env) Q' X.xe s := by
  refine wpAny_GeneratorExp_walksQ hr.hd S.co (closure_ok S.free) S.cell S.dot S.loc S.kind (by have := hr.dp; omega) ?_ hs
  refine thn (hi.run pins s σ H _ I h) fun xv s1 ⟨v, H1, I1, r1, q1⟩ => ?_
  obtain ⟨f, l, B, ⟨⟨a, us, ds, rfl, hseq, rp, eB, ⟨fvs, rn, hfv⟩, hT, tg⟩⟩, hR⟩ := q1
  obtain rfl : xv = Value.ref a := r1
  obtain ⟨ps, hP, _, hPs⟩ := tab_at I1 tg
  have hPlt : P < s1.heap.objs.size := Heap.lt_size hPs
  have fin : ∀ (its : List Value), Vals us its → ∀ (it : Value) (s2 : Shared), Src X.prog X.w P s1 its.toArray.size (fun i v => its.toArray[i]? = some v) it s2 → _ := fun its rv it s2 src => by
    have hlen : its.toArray.size = l.length := by rw [List.size_toArray, ← rv.length, rp.len]
    rw [hlen] at src
    refine gen_q (F := ItF X.K B l f) (elt := elt) (x := x) (gpos := gpos) (scope := scope) (Q' := Q') hr TB hcode I1 tg src (fun C code bi A' E' i v s₂ m₂ hv hn hm up => ?_) fun g s5 rd => hQ f l B H1 g s5 hR rd
    have hv' : its[i]? = some v := by simpa using hv
    have hi2 : i < us.length := by rw [rv.length]; exact (List.getElem?_eq_some_iff.mp hv').1
    obtain ⟨u, hu, ru⟩ := rv.get (List.getElem?_eq_getElem hi2)
    rw [hv'] at hu
    cases hu
    obtain ⟨d, hd, rd⟩ := rp.get (List.getElem?_eq_getElem hi2)
    have vw := vw_of (code := code) (bi := bi) (ls := [(x, us[i])]) I1 tg S.kind S.free eB Fv hfv (fun y z e => by
      rw [List.lookup_cons] at e
      cases q : y == x with
      | true =>
        rw [q] at e
        cases e
        rw [eq_of_beq q]
        exact ⟨S.loc, v, hm, ru⟩
      | false => rw [q] at e; cases e) hn up
    refine wpAny_mono (hel X.prog X.w _ A' E' s₂ B ((x, us[i]) :: fvs) ((x, d) :: ds) (f d) vw (.cons rd rn) (hT d (List.mem_of_getElem? hd))) (fun y s3 z => ?_) fun _ _ e => e
    obtain ⟨⟨v3, r3, p3⟩, k3⟩ := z
    exact ⟨⟨d, v3, hd, r3, p3⟩, k3⟩
  rcases hseq with hseq | hseq
  · obtain ⟨its, rv, pl, hz⟩ := I1.list hseq
    have nP : a ≠ P := fun z => by
      obtain ⟨o, n, e, e1, e2, e3⟩ := pl
      rw [z, hPs] at e
      cases e
      cases e1
    exact wpAny_mono (src_list pl.isList hPlt nP) (fun it s2 src => fin its rv it s2 src) fun _ _ e => e
  · obtain ⟨its, rv, pl, hz⟩ := I1.tuple hseq
    have nP : a ≠ P := fun z => by
      obtain ⟨o, e, e1, _⟩ := pl
      rw [z, hPs] at e
      cases e
      cases e1
    exact wpAny_mono (src_tup (A := X.A) (E := X.xe) pl hPlt nP) (fun it s2 src => fin its rv it s2 src) fun _ _ e => e
end
end QG

set_option Elab.async false
set_option linter.all false
set_option maxRecDepth 100000
set_option maxHeartbeats 4000000
namespace QG
open PySem PySem.Spec PyProof.Rows L2 DL
def atB (l : List D) (g : D → Bool) (j : Nat) : Bool := ((l.map g)[j]?).getD false
theorem range_map (l : List D) (g : D → Bool) : (List.range l.length).map (atB l g) = l.map g := by
  refine List.ext_getElem (by simp) fun i h1 h2 => ?_
  simp only [List.length_map] at h2
  simp [atB, h2]
theorem all_at (l : List D) (g : D → Bool) : (List.range l.length).all (atB l g) = l.all g := by
  have h := congrArg (fun z : List Bool => z.all id) (range_map l g)
  simpa [List.all_map, Function.comp_def] using h
theorem any_at (l : List D) (g : D → Bool) : (List.range l.length).any (atB l g) = l.any g := by
  have h := congrArg (fun z : List Bool => z.any id) (range_map l g)
  simpa [List.any_map, Function.comp_def] using h
section
variable {X : Cx} {c P : Addr} {elt iter : Expr} {x : Str} {px p pos gpos : Pos} {scope : Scope} {fv : List (Str × Nat)} {T : DQ} {k : Nat} {te : TE}
/-- all(e for x in it), any, sum: e quiet -/
def tAllQ (K : PySem.W.Frag) (x : Str) (fv : List (Str × Nat)) (T : DQ) (P : Addr) (te : TE) : TE := fun σ H Q => te σ H fun v H1 => ∃ (f : D → Bool) (l : List D) (B : Hp), Walked K x fv T P (fun d => .bl (f d)) σ H1 v l B ∧ ∀ H2, GxR.Tabbed P H1 H2 → Q (.bl (l.all f)) H2
def tAnyQ (K : PySem.W.Frag) (x : Str) (fv : List (Str × Nat)) (T : DQ) (P : Addr) (te : TE) : TE := fun σ H Q => te σ H fun v H1 => ∃ (f : D → Bool) (l : List D) (B : Hp), Walked K x fv T P (fun d => .bl (f d)) σ H1 v l B ∧ ∀ H2, GxR.Tabbed P H1 H2 → Q (.bl (l.any f)) H2
def tSumQ (K : PySem.W.Frag) (x : Str) (fv : List (Str × Nat)) (T : DQ) (P : Addr) (te : TE) : TE := fun σ H Q => te σ H fun v H1 => ∃ (f : D → Int) (l : List D) (B : Hp), Walked K x fv T P (fun d => .int (f d)) σ H1 v l B ∧ ∀ H2, GxR.Tabbed P H1 H2 → Q (.int (l.map f).sum) H2
theorem itf_bl {K : PySem.W.Frag} {B : Hp} {l : List D} {g : D → Bool} {j : Nat} {y : Value} (h : ItF K B l (fun d => .bl (g d)) j y) : y = .bool (atB l g j) := by
  obtain ⟨d, v, h1, r, p⟩ := h
  cases p
  have r' : y = .bool (g d) := r
  rw [r']
  simp [atB, h1]
theorem itf_int {K : PySem.W.Frag} {B : Hp} {l : List D} {g : D → Int} {j : Nat} {y : Value} (h : ItF K B l (fun d => .int (g d)) j y) : ∃ t, y = .int ((l.map g).getD j 0) t := by
  obtain ⟨d, v, h1, r, p⟩ := h
  cases p
  obtain ⟨t, rfl⟩ := (show ∃ t, y = Value.int (g d) t from r)
  exact ⟨t, by simp [List.getD_eq_getElem?_getD, h1]⟩
theorem pe_allQ (hr : Room k X.A) (hg : Gl X "all") (hm : X.mg "all" = none) (hb : bootBuiltins "all" = some (.builtin "all")) (TB : GxR.TabB X.base X.mg c P) (hcode : X.env.code = .ref c) (S : GxR.GenS X.env scope x) (Fv : FvS X scope fv) (hi : PE X iter te) (hel : PQ X.K elt T)
    (hs : ∀ v, genFold iter X.env v = pure v)
    (he : starEach [.GeneratorExp elt [⟨.Name x px, iter, [], 0⟩] scope gpos] X.env = (false, eval (.GeneratorExp elt [⟨.Name x px, iter, [], 0⟩] scope gpos) X.env) :: starEach [] X.env := by rfl) :
    PE X (.Call (.Name "all" p) [.GeneratorExp elt [⟨.Name x px, iter, [], 0⟩] scope gpos] [] pos) (tAllQ X.K x fv T P te) := by
  refine ⟨fun pins s σ H Q I h => wpAny_Call_Name_kw (ld_blt I hg hm hb (PyProof.Rows.callWith_builtin1 ?_ he (by rfl)))⟩
  rw [he]
  refine Calls.spliced_cons (gen_one (R := fun f l H1 => ∃ g : D → Bool, f = (fun d => .bl (g d)) ∧ ∀ H2, GxR.Tabbed P H1 H2 → Q (.bl (l.all g)) H2) hr TB hcode S Fv hi hel hs I ?_ fun f l B H1 a s5 hR rd => Calls.spliced_nil ?_)
  · have e : (fun v H1 => ∃ (f : D → Bool) (l : List D) (B : Hp), Walked X.K x fv T P (fun d => .bl (f d)) σ H1 v l B ∧ ∀ H2, GxR.Tabbed P H1 H2 → Q (.bl (l.all f)) H2) = (fun v H1 => ∃ (f : D → D) (l : List D) (B : Hp), Walked X.K x fv T P f σ H1 v l B ∧ ∃ g : D → Bool, f = (fun d => .bl (g d)) ∧ ∀ H2, GxR.Tabbed P H1 H2 → Q (.bl (l.all g)) H2) := by
      funext v H1
      refine propext ⟨fun ⟨f, l, B, h1, h2⟩ => ⟨_, l, B, h1, f, rfl, h2⟩, fun ⟨_, l, B, h1, g, e, h2⟩ => ?_⟩
      subst e
      exact ⟨g, l, B, h1, h2⟩
    rw [← e]
    exact h
  · obtain ⟨g, rfl, hR⟩ := hR
    obtain ⟨fp, wr, G, F', St, W, hst, _, hF, hI⟩ := rd
    refine call_all_walkS (W.in4_1.self 0 _ _ _ hst ⟨a, fp, wr, G, _, F', St, atB l g, rfl, W.in4_1, hst, fun j y sj Qj Ej hy hq => ?_, fun s' hm => ?_⟩)
    · rw [itf_bl (hF j y hy)]
      exact wpAny_truthy_bool hq
    · obtain ⟨H2, hT, J⟩ := hI s' hm
      refine ⟨.bl _, H2, J, rfl, ?_⟩
      rw [all_at]
      exact hR H2 hT
theorem pe_sumQ (hr : Room k X.A) (hg : Gl X "sum") (hm : X.mg "sum" = none) (hb : bootBuiltins "sum" = some (.builtin "sum")) (TB : GxR.TabB X.base X.mg c P) (hcode : X.env.code = .ref c) (S : GxR.GenS X.env scope x) (Fv : FvS X scope fv) (hi : PE X iter te) (hel : PQ X.K elt T)
    (hs : ∀ v, genFold iter X.env v = pure v)
    (he : starEach [.GeneratorExp elt [⟨.Name x px, iter, [], 0⟩] scope gpos] X.env = (false, eval (.GeneratorExp elt [⟨.Name x px, iter, [], 0⟩] scope gpos) X.env) :: starEach [] X.env := by rfl) :
    PE X (.Call (.Name "sum" p) [.GeneratorExp elt [⟨.Name x px, iter, [], 0⟩] scope gpos] [] pos) (tSumQ X.K x fv T P te) := by
  refine ⟨fun pins s σ H Q I h => wpAny_Call_Name_kw (ld_blt I hg hm hb (PyProof.Rows.callWith_builtin1 ?_ he (by rfl)))⟩
  rw [he]
  refine Calls.spliced_cons (gen_one (R := fun f l H1 => ∃ g : D → Int, f = (fun d => .int (g d)) ∧ ∀ H2, GxR.Tabbed P H1 H2 → Q (.int (l.map g).sum) H2) hr TB hcode S Fv hi hel hs I ?_ fun f l B H1 a s5 hR rd => Calls.spliced_nil ?_)
  · have e : (fun v H1 => ∃ (f : D → Int) (l : List D) (B : Hp), Walked X.K x fv T P (fun d => .int (f d)) σ H1 v l B ∧ ∀ H2, GxR.Tabbed P H1 H2 → Q (.int (l.map f).sum) H2) = (fun v H1 => ∃ (f : D → D) (l : List D) (B : Hp), Walked X.K x fv T P f σ H1 v l B ∧ ∃ g : D → Int, f = (fun d => .int (g d)) ∧ ∀ H2, GxR.Tabbed P H1 H2 → Q (.int (l.map g).sum) H2) := by
      funext v H1
      refine propext ⟨fun ⟨f, l, B, h1, h2⟩ => ⟨_, l, B, h1, f, rfl, h2⟩, fun ⟨_, l, B, h1, g, e, h2⟩ => ?_⟩
      subst e
      exact ⟨g, l, B, h1, h2⟩
    rw [← e]
    exact h
  · obtain ⟨g, rfl, hR⟩ := hR
    obtain ⟨fp, wr, G, F', St, W, hst, hfp, hF, hI⟩ := rd
    refine call_sum_walkAnyS (W.in4_1.self 0 _ _ _ hst ⟨a, fp, wr, G, _, F', St, fun j => (l.map g).getD j 0, rfl, W.in4_1, hst, hfp, fun j y hy => itf_int (hF j y hy), fun s' t' hm => ?_⟩)
    obtain ⟨H2, hT, J⟩ := hI s' hm
    refine ⟨.int (l.map g).sum, H2, J, ?_, hR H2 hT⟩
    rw [preSum_getD, List.take_of_length_le (by simp)]
    exact ⟨t', rfl⟩
end
end QG

set_option Elab.async false
set_option linter.all false
set_option maxRecDepth 100000
set_option maxHeartbeats 4000000
namespace DL
open PySem PySem.Spec PyProof.Rows L2 QG
/-! ### all, sum of generator expressions, over data -/
def fvD (Γ : Gm) : List (Str × Nat) → Option (List (Str × D))
  | [] => some []
  | (y, i) :: r => match Γ[i]? with
    | some (.dat d) => (fvD Γ r).map ((y, d) :: ·)
    | _ => none
theorem En.fvs {P : Par} {Bv : Hp} {Γ : Gm} {σ : L2.St} {H : Hp} (n : En P Bv Γ σ H) : ∀ {fv : List (Str × Nat)} {ds : List (Str × D)}, fvD Γ fv = some ds → FvOk P.K Bv σ fv ds
  | [], _, e => by
    cases e
    exact ⟨[], .nil, fun y z h => by cases h⟩
  | (y, i) :: r, ds, e => by
    unfold fvD at e
    split at e
    · rename_i d hd
      cases q : fvD Γ r with
      | none => rw [q] at e; cases e
      | some ds' =>
        rw [q] at e
        cases e
        obtain ⟨v, h1, h2⟩ := n.dat i d hd
        obtain ⟨fvs, g1, g2⟩ := En.fvs n q
        refine ⟨(y, v) :: fvs, .cons h2 g1, fun y' z h => ?_⟩
        rw [List.lookup_cons] at h
        cases b : y' == y with
        | true =>
          rw [b] at h
          cases h
          rw [eq_of_beq b]
          exact ⟨i, List.mem_cons_self, h1⟩
        | false =>
          rw [b] at h
          obtain ⟨i', k1, k2⟩ := g2 y' z h
          exact ⟨i', List.mem_cons_of_mem _ k1, k2⟩
    · cases e
theorem En.tabbed {P : Par} {Bv : Hp} {Γ : Gm} {σ : L2.St} {H H2 : Hp} {T : Addr} (n : En P Bv Γ σ H) (tg : TabG H T) (h : GxR.Tabbed T H H2) : En P Bv Γ σ H2 := by
  have e := Ex.grown tg h
  exact ⟨n.len, n.base, n.sub.trans e, n.frm.trans e, n.dj, n.dat, fun i p l hi => let ⟨a, vs, h1, h2, r⟩ := n.own i p l hi; ⟨a, vs, h1, e.lst h2, r⟩, n.inj, n.pin, n.hf.to (fun _ _ h => h) (Ex.refl _) (fun i M hM => (n.hf.2 i M hM).1.stay e) (fun _ _ _ _ _ f v => ⟨f, v⟩) (fun _ _ _ _ _ k => k)⟩
section
variable {F : Fam} {E : XK} {c P0 : Addr} {elt iter : Expr} {x : Str} {px p pos gpos : Pos} {scope : Scope} {fv : List (Str × Nat)} {T : DQ} {k : Nat} {A : DE}
def dAllQ (x : Str) (fv : List (Str × Nat)) (T : DQ) (A : DE) : DE := fun xd Γ Q => A xd Γ fun w Γ1 => ∃ d l ds, ∃ f : D → Bool, asD Γ1 w = some d ∧ itemsOf d = some l ∧ fvD Γ1 fv = some ds ∧ (∀ e ∈ l, T ((x, e) :: ds) (.bl (f e))) ∧ Q (.dat (.bl (l.all f))) Γ1
def dSumQ (x : Str) (fv : List (Str × Nat)) (T : DQ) (A : DE) : DE := fun xd Γ Q => A xd Γ fun w Γ1 => ∃ d l ds, ∃ f : D → Int, asD Γ1 w = some d ∧ itemsOf d = some l ∧ fvD Γ1 fv = some ds ∧ (∀ e ∈ l, T ((x, e) :: ds) (.int (f e))) ∧ Q (.dat (.int (l.map f).sum)) Γ1
theorem pd_allQ (hts : P0 ∈ F.ts) (hr : ∀ j, Room k (F.X j).A) (hm : ∀ j, (F.X j).mg "all" = none) (TB : ∀ j, GxR.TabB (F.X j).base (F.X j).mg c P0) (hcode : ∀ j, (F.X j).env.code = .ref c) (S : ∀ j, GxR.GenS (F.X j).env scope x) (Fv : ∀ j, FvS (F.X j) scope fv) (hi : PD F E iter A) (hel : PQ F.K elt T)
    (hg : ∀ j, Gl (F.X j) "all" := by intro _; rfl) (hs : ∀ j v, genFold iter (F.X j).env v = pure v := by intro _ _; rfl)
    (he : ∀ j, starEach [.GeneratorExp elt [⟨.Name x px, iter, [], 0⟩] scope gpos] (F.X j).env = (false, eval (.GeneratorExp elt [⟨.Name x px, iter, [], 0⟩] scope gpos) (F.X j).env) :: starEach [] (F.X j).env := by intro _; rfl) :
    PD F E (.Call (.Name "all" p) [.GeneratorExp elt [⟨.Name x px, iter, [], 0⟩] scope gpos] [] pos) (dAllQ x fv T A) :=
  let ⟨_, pi, li⟩ := hi
  ⟨tAllQ F.K x fv T P0 _, fun j => F.k j ▸ pe_allQ (hr j) (hg j) (hm j) (by decide +kernel) (TB j) (hcode j) (S j) (Fv j) (pi j) ((F.k j).symm ▸ hel) (hs j) (he j), fun P hK hE Bv Γ σ H Qd Q n h k => li P hK hE Bv Γ σ H _ _ n h fun w Γ1 v H1 B1 e1 n1 r1 h1 => by
    obtain ⟨d, l, ds, f, h2, h3, h4, h5, h6⟩ := h1
    obtain ⟨a, us, rfl, hs, hr⟩ := n1.seq r1 h2 h3
    have tg := n1.frm.tab (P.tab P0 (by rw [hE.2]; exact hts))
    rw [← hK]
    exact ⟨f, l, B1, ⟨⟨a, us, ds, rfl, hs, hr, n1.sub, n1.fvs h4, h5, tg⟩⟩, fun H2 ht => finD k e1 (n1.tabbed tg ht) (.bl _) h6⟩⟩
theorem pd_sumQ (hts : P0 ∈ F.ts) (hr : ∀ j, Room k (F.X j).A) (hm : ∀ j, (F.X j).mg "sum" = none) (TB : ∀ j, GxR.TabB (F.X j).base (F.X j).mg c P0) (hcode : ∀ j, (F.X j).env.code = .ref c) (S : ∀ j, GxR.GenS (F.X j).env scope x) (Fv : ∀ j, FvS (F.X j) scope fv) (hi : PD F E iter A) (hel : PQ F.K elt T)
    (hg : ∀ j, Gl (F.X j) "sum" := by intro _; rfl) (hs : ∀ j v, genFold iter (F.X j).env v = pure v := by intro _ _; rfl)
    (he : ∀ j, starEach [.GeneratorExp elt [⟨.Name x px, iter, [], 0⟩] scope gpos] (F.X j).env = (false, eval (.GeneratorExp elt [⟨.Name x px, iter, [], 0⟩] scope gpos) (F.X j).env) :: starEach [] (F.X j).env := by intro _; rfl) :
    PD F E (.Call (.Name "sum" p) [.GeneratorExp elt [⟨.Name x px, iter, [], 0⟩] scope gpos] [] pos) (dSumQ x fv T A) :=
  let ⟨_, pi, li⟩ := hi
  ⟨tSumQ F.K x fv T P0 _, fun j => F.k j ▸ pe_sumQ (hr j) (hg j) (hm j) (by decide +kernel) (TB j) (hcode j) (S j) (Fv j) (pi j) ((F.k j).symm ▸ hel) (hs j) (he j), fun P hK hE Bv Γ σ H Qd Q n h k => li P hK hE Bv Γ σ H _ _ n h fun w Γ1 v H1 B1 e1 n1 r1 h1 => by
    obtain ⟨d, l, ds, f, h2, h3, h4, h5, h6⟩ := h1
    obtain ⟨a, us, rfl, hs, hr⟩ := n1.seq r1 h2 h3
    have tg := n1.frm.tab (P.tab P0 (by rw [hE.2]; exact hts))
    rw [← hK]
    exact ⟨f, l, B1, ⟨⟨a, us, ds, rfl, hs, hr, n1.sub, n1.fvs h4, h5, tg⟩⟩, fun H2 ht => finD k e1 (n1.tabbed tg ht) (.int _) h6⟩⟩
end
section
variable {P : Program} {w : World} {K : PySem.W.Frag} {mg : Str → Option Value} {base : Heap} {ts : List Addr}
/-- a def that raises nothing, its code object at c -/
theorem okDefC {x qual : Str} {st : Stmt} {f c : Addr} {fd : FuncData} {N ps : List Str} {k : Nat} {sd : Sd} {T : DS} (F : Fun K x qual st f fd) (hc : fd.code = .ref c) (S : FnScope N ps (defScope st)) (hps : ps.length ≤ N.length)
    (hl : ∀ ds Q E, sd ds Q E → ds.length = ps.length)
    (hb : ∀ (A : Around) (outer : List Env) (s : Shared) (H : Hp) (E : XK), Room k (A.deeper (envOfC qual (defScope st) s.heap.objs.size f (.ref c))) → PDSs (Fam.of ts (cxOf CX0 P w K mg base N qual (defScope st) f (.ref c) A outer s H E).nox) E0 (defBody st) T)
    (hr : ∀ ds Q E, sd ds Q E → T no { nx := fun _ => Q .non, rt := fun d _ => Q d } (startD N.length (ds.map .dat))) : FnOk P w K mg base CX0 (k + 1) f fd ps (spD K ts sd) := by
  obtain ⟨oc, od, kV, doc, pm, an, cdv, ct, osl, rfl, lk, hcd⟩ := F.ex
  obtain rfl : cdv = .ref c := hc
  refine fn_of lk hcd S (fun vs H Q E h => ?_) fun A outer s H vs Q E hroom h => ?_
  · obtain ⟨ds, F, B, _, r, _, _, _, h⟩ := h
    rw [r.len]
    exact hl _ _ _ h
  · obtain ⟨ds, F, B, tb, r, e, f', dj, h⟩ := h
    obtain ⟨t, pt, lt⟩ := hb A outer s H E hroom
    refine ⟨t, (pt ()).nox, ?_⟩
    have hlen : vs.length ≤ N.length := by rw [r.len, hl _ _ _ h]; exact hps
    let Q' : Par := ⟨K, F, [], B, no, E0, ts, tb, fun _ _ _ _ _ _ z => z.elim⟩
    have n : En Q' B (startD N.length (ds.map .dat)) (L2.start N vs) H := En.begin0 (P := Q') rfl r hlen e f' dj
    exact lt Q' rfl ⟨rfl, rfl⟩ B _ _ H _ _ n (hr _ _ _ h) ⟨fun Γ' σ' H' B' x n' q => q .non H' B' x n'.sub n'.frm n'.dj .non, fun d Γ' σ' v H' B' x n' rp q => q v H' B' x n'.sub n'.frm n'.dj rp, fun _ _ _ _ _ _ z => z.elim, fun _ _ _ _ _ _ z => z.elim⟩
end
end DL

set_option Elab.async false
set_option linter.all false
set_option maxRecDepth 100000
set_option maxHeartbeats 4000000
namespace DL
open PySem PySem.Spec PyProof.Rows L2
/-! ### own instances -/
/-- F with o at p, if nothing is there -/
def obF (F : Hp) (p : Addr) (o : HO) : Hp := fun b => match F b with
  | some u => some u
  | none => if b = p then some o else none
theorem obF_same {F : Hp} {p : Addr} {o : HO} (h : F p = none) : obF F p o p = some o := by
  unfold obF
  rw [h]
  exact if_pos rfl
theorem obF_ne {F : Hp} {p b : Addr} {o : HO} (h : b ≠ p) : obF F p o b = F b := by
  unfold obF
  cases F b with
  | none => exact if_neg h
  | some u => rfl
theorem obF_some {F : Hp} {p b : Addr} {o u : HO} (h : F b = some u) : obF F p o b = some u := by
  unfold obF
  rw [h]
/-- P while the object at p is being made -/
def Par.ob (P : Par) (p : Addr) (o : HO) : Par where
  K := P.K
  F := obF P.F p o
  ts := P.ts
  tab := fun T hT => let ⟨ps, h1, h2⟩ := P.tab T hT; ⟨ps, obF_some h1, h2⟩
  pin := P.pin
  B0 := P.B0
  Ed := no
  E := E0
  xok := fun _ _ _ _ _ _ z => z.elim
section
variable {P : Par} {Bv : Hp} {Γ : Gm} {σ : L2.St} {H : Hp} {p : Addr} {o o' : HO}
theorem En.obNone (hF : P.F p = none) (n : En (P.ob p o) Bv Γ σ H) : Bv p = none := n.dj p (by show obF P.F p o p ≠ none; rw [obF_same hF]; exact fun z => nomatch z)
theorem En.obAt (hF : P.F p = none) (hn : ∀ q : Array Value, o ≠ .tbl q) (n : En (P.ob p o) Bv Γ σ H) : H p = some o := n.frm.get (obF_same hF) hn
/-- the object at p is written -/
theorem En.obMore (hF : P.F p = none) (n : En (P.ob p o) Bv Γ σ H) : En (P.ob p o') Bv Γ σ (upd H p o') where
  len := n.len
  base := n.base
  sub := fun b u e => by
    have : b ≠ p := fun z => by rw [z, n.obNone hF] at e; cases e
    rw [upd_ne this]
    exact n.sub b u e
  frm := fun b u e => by
    have e' : obF P.F p o' b = some u := e
    by_cases q : b = p
    · subst q
      rw [obF_same hF] at e'
      rw [upd_same]
      exact .inl e'
    · rw [obF_ne q] at e'
      rw [upd_ne q]
      exact n.frm b u (by show obF P.F p o b = some u; rw [obF_ne q]; exact e')
  dj := fun b z => by
    by_cases q : b = p
    · rw [q]; exact n.obNone hF
    · refine n.dj b fun y => z ?_
      have y' : obF P.F p o b = none := y
      show obF P.F p o' b = none
      rw [obF_ne q] at y' ⊢
      exact y'
  dat := n.dat
  own := fun i q l h => by
    obtain ⟨a, vs, g1, g2, g3, g4, g5⟩ := n.own i q l h
    have g5' : obF P.F p o a = none := g5
    have ne : a ≠ p := fun z => by rw [z, obF_same hF] at g5'; cases g5'
    rw [obF_ne ne] at g5'
    exact ⟨a, vs, g1, by rw [upd_ne ne]; exact g2, g3, g4, by show obF P.F p o' a = none; rw [obF_ne ne]; exact g5'⟩
  inj := n.inj
  pin := n.pin
  hf := n.hf.to (fun _ _ h => h) (Ex.refl _) (fun i M hM b hb => by
    have f : obF P.F p o b = none := ((n.hf.2 i M hM).2 b hb).1
    exact upd_ne fun e => by rw [e, obF_same hF] at f; cases f) (fun i M hM b hb f v => ⟨by
    have f : obF P.F p o b = none := f
    have ne : b ≠ p := fun e => by rw [e, obF_same hF] at f; cases f
    show obF P.F p o' b = none
    rw [obF_ne ne] at f ⊢
    exact f, v⟩) (fun _ _ _ _ _ k => k)
/-- a new instance is to be seen -/
theorem En.showI {C dx : Addr} {fvs : List (Str × V)} (n : En P Bv Γ σ H) (hp : H p = some (.ins C dx fvs)) (hb : Bv p = none) (hf : P.F p = none) (nh : ∀ (j : Nat) (M : Mm), Γ[j]? = some (.heap M) → ¬ InReg M H p) : Ex Bv (upd Bv p (.ins C dx fvs)) ∧ En P (upd Bv p (.ins C dx fvs)) Γ σ H := by
  have ex : Ex Bv (upd Bv p (.ins C dx fvs)) := Ex.new hb
  refine ⟨ex, ⟨n.len, n.base.trans ex, fun c u e => ?_, n.frm, fun c y => ?_, fun j d h => ?_, fun j q m h => ?_, n.inj, n.pin, n.hf.to (fun _ _ h => h) ex (fun _ _ _ _ _ => rfl) (fun i M hM b hb f v => ⟨f, by rw [upd_ne (fun e => nh i M hM (by rw [← e]; exact hb))]; exact v⟩) (fun _ _ _ _ _ k => k)⟩⟩
  · by_cases q : c = p
    · subst q; rw [upd_same] at e; cases e; exact .inl hp
    · rw [upd_ne q] at e; exact n.sub c u e
  · have : c ≠ p := fun z => by rw [z] at y; exact y hf
    rw [upd_ne this]
    exact n.dj c y
  · obtain ⟨v, g1, g2⟩ := n.dat j d h
    exact ⟨v, g1, g2.mono ex⟩
  · obtain ⟨a, vs, g1, g2, g3, g4, g5⟩ := n.own j q m h
    have : a ≠ p := fun z => by rw [z, hp] at g2; cases g2
    exact ⟨a, vs, g1, g2, g3.mono ex, by rw [upd_ne this]; exact g4, g5⟩
end
theorem RpF.get {K : PySem.W.Frag} {H : Hp} {f : Str} {d : D} : ∀ {fvs : List (Str × V)} {fs : List (Str × D)}, RpF K H fvs fs → fs.lookup f = some d → ∃ v, fvs.lookup f = some v ∧ Rp K H v d
  | _, _, .cons (x := y) h r, e => by
    rw [List.lookup_cons] at e
    rw [List.lookup_cons]
    cases q : f == y with
    | true => rw [q] at e; cases e; exact ⟨_, rfl, h⟩
    | false => rw [q] at e; exact RpF.get r e
section
variable {F : Fam} {E : XK} {e : Expr} {es : List Expr} {A : DE} {R : DA} {pos p : Pos} {x f : Str} {k : Nat} {ps : List Str}
/-- e.f -/
def dFld (C : Addr) (f : Str) (A : DE) : DE := fun xd Γ Q => A xd Γ fun w Γ1 => ∃ fs d, w = .dat (.obj C fs) ∧ fs.lookup f = some d ∧ Q (.dat d) Γ1
theorem pd_fld {C : Addr} (c : Cls F.K C) (na : NoAttr F.K C f) (he : PD F E e A) (hb : ∀ j, attributeBase e f (F.X j).env (eval e (F.X j).env) = eval e (F.X j).env := by intro _; rfl) : PD F E (.Attribute e f pos) (dFld C f A) :=
  let ⟨_, pe, le⟩ := he
  ⟨tFld F.K _ f, fun j => F.k j ▸ pe_fld (pe j) (hb j), fun P hK hE Bv Γ σ H Qd Q n h k => le P hK hE Bv Γ σ H _ _ n h fun w Γ1 v H1 B1 e1 n1 r1 h1 => by
    obtain ⟨fs, d, rfl, hd, h1⟩ := h1
    have r1' : Rp P.K B1 v (.obj C fs) := r1
    cases r1' with
    | @obj a _ dx fvs _ ha hr =>
      obtain ⟨u, g1, g2⟩ := hr.get hd
      exact ⟨a, C, dx, fvs, u, rfl, n1.sub.ins ha, c, na, g1, finD k e1 n1 g2 h1⟩⟩
end
end DL

set_option Elab.async false
set_option linter.all false
set_option maxRecDepth 100000
set_option maxHeartbeats 4000000
/-! ### __init__: self.f = e, one behind the other -/
namespace DL
open PySem PySem.Spec PyProof.Rows L2
def putD (f : Str) (d : D) : List (Str × D) → List (Str × D)
  | [] => [(f, d)]
  | (g, x) :: r => if g = f then (g, d) :: r else (g, x) :: putD f d r
theorem RpF.put {K : PySem.W.Frag} {H : Hp} {f : Str} {v : V} {d : D} (h : Rp K H v d) : ∀ {fvs : List (Str × V)} {fs : List (Str × D)}, RpF K H fvs fs → RpF K H (putF f v fvs) (putD f d fs)
  | _, _, .nil => .cons h .nil
  | _, _, .cons (x := y) q r => by
    unfold putF putD
    by_cases e : y = f
    · rw [if_pos e, if_pos e]; exact .cons h r
    · rw [if_neg e, if_neg e]; exact .cons q (RpF.put h r)
theorem RpF.len {K : PySem.W.Frag} {H : Hp} : ∀ {fvs : List (Str × V)} {fs : List (Str × D)}, RpF K H fvs fs → fvs.length = fs.length
  | _, _, .nil => rfl
  | _, _, .cons _ r => congrArg (· + 1) (RpF.len r)
abbrev DF := List (Str × D) → Gm → (List (Str × D) → Gm → Prop) → Prop
def LF (P : Par) (C : Addr) (i : Nat) (t : TS) (T : DF) : Prop := ∀ (a dx : Addr) (fvs : List (Str × V)) (fs : List (Str × D)) (Bv : Hp) (Γ : Gm) (σ : L2.St) (H : Hp) (Qd : List (Str × D) → Gm → Prop) (D : Ends), P.F a = none → σ[i]? = some (some (.ref a)) →
  En (P.ob a (.ins C dx fvs)) Bv Γ σ H → RpF P.K Bv fvs fs → T fs Γ Qd →
  (∀ (fs' : List (Str × DL.D)) (fvs' : List (Str × V)) (Γ' : Gm) (H' Bv' : Hp), Ex Bv Bv' → En (P.ob a (.ins C dx fvs')) Bv' Γ' σ H' → RpF P.K Bv' fvs' fs' → Qd fs' Γ' → D.nx σ H') → t D σ H
def PDF1 (F : Fam) (C : Addr) (i : Nat) (st : Stmt) (T : DF) : Prop := ∃ t, (∀ j, PS (F.X j) st t) ∧ ∀ P : Par, P.K = F.K → P.ts = F.ts → LF P C i t T
def PDF (F : Fam) (C : Addr) (i : Nat) (st : List Stmt) (T : DF) : Prop := ∃ t, (∀ j, PSs (F.X j) st t) ∧ ∀ P : Par, P.K = F.K → P.ts = F.ts → LF P C i t T
section
variable {F : Fam} {C : Addr} {i : Nat} {e : Expr} {A : DE} {st : Stmt} {rest : List Stmt} {T U : DF} {pos : Pos} {x f : Str}
def dFNil : DF := fun fs Γ Q => Q fs Γ
def dFSeq (T U : DF) : DF := fun fs Γ Q => T fs Γ fun fs' Γ' => U fs' Γ' Q
def dSetF (f : Str) (A : DE) : DF := fun fs Γ Q => A no Γ fun w Γ1 => ∃ d Γ2, fix Γ1 w = some (d, Γ2) ∧ fs.length < 1000 ∧ Q (putD f d fs) Γ2
theorem pdf_nil : PDF F C i [] dFNil := ⟨_, fun j => pss_nil, fun P hK hT a dx fvs fs Bv Γ σ H Qd D hF hs n r h k => k fs fvs Γ H Bv (Ex.refl _) n r h⟩
theorem pdf_cons (h1 : PDF1 F C i st T) (h2 : PDF F C i rest U) : PDF F C i (st :: rest) (dFSeq T U) :=
  let ⟨_, p1, l1⟩ := h1; let ⟨_, p2, l2⟩ := h2
  ⟨_, fun j => pss_cons (p1 j) (p2 j), fun P hK hT a dx fvs fs Bv Γ σ H Qd D hF hs n r h k => l1 P hK hT a dx fvs fs Bv Γ σ H _ _ hF hs n r h fun fs' fvs' Γ' H' B' x n' r' q =>
    l2 P hK hT a dx fvs' fs' B' Γ' σ H' Qd D hF hs n' r' q fun fs2 fvs2 Γ2 H2 B2 x2 n2 r2 q2 => k fs2 fvs2 Γ2 H2 B2 (x.trans x2) n2 r2 q2⟩
theorem pdf_set {px pa : Pos} (c : Cls F.K C) (na : NoAttr F.K C f) (he : PD F E0 e A) (hN : ∀ j, (F.X j).N[i]? = some x := by intro _; rfl) (hv : ∀ j, Vis (F.X j).env.scope x := by first | exact fun _ => Or.inl rfl | exact fun _ => Or.inr (Or.inl rfl))
    (hs : ∀ j, swapsWith e (some (.Attribute (.Name x px) f pa)) pos.line (F.X j).env = pure false := by intro _; rfl) (hd : (x == ("__debug__" : Str)) = false := by decide) (hcd : (x == ("__classdict__" : Str)) = false := by decide) : PDF1 F C i (.Assign [.Attribute (.Name x px) f pa] e pos) (dSetF f A) :=
  let ⟨_, pe, le⟩ := he
  ⟨sFld F.K (tVar i) _ f, fun j => F.k j ▸ ps_fld (pe_var (hN j) (hv j) hd hcd) (pe j) (hs j), fun P hK hT a dx fvs fs Bv Γ σ H Qd D hF hsl n r h k => le (P.ob a (.ins C dx fvs)) hK ⟨rfl, hT⟩ Bv Γ σ H _ _ n h fun w Γ1 v H1 B1 e1 n1 r1 h1 => by
    obtain ⟨d, Γ2, f1, hl, h1⟩ := h1
    obtain ⟨B2, e2, n2, r2⟩ := n1.fixed r1 f1
    refine ⟨.ref a, hsl, a, C, dx, fvs, rfl, n2.obAt hF (fun _ z => nomatch z), c, na, by rw [r.len]; exact hl, ?_⟩
    exact k _ (putF f v fvs) Γ2 _ B2 (e1.trans e2) (n2.obMore hF) (RpF.put r2 (r.mono (e1.trans e2))) h1⟩
end
/-- by the arguments: what is wanted of the attributes -/
abbrev SdI := List D → (List (Str × D) → Prop) → Prop
def spI (K : PySem.W.Frag) (ts : List Addr) (C : Addr) (sd : SdI) : Sp := fun vs H Q E => ∃ (a dx : Addr) (us : List V) (ds : List D) (F B : Hp), (∀ T ∈ ts, TabG F T) ∧ vs = .ref a :: us ∧ H a = some (.ins C dx []) ∧ RpL K B us ds ∧ Ex B H ∧ Ex F H ∧ Dj B F ∧ B a = none ∧ F a = none ∧
  sd ds (fun fs => ∀ (fvs : List (Str × V)) (H' B' : Hp), Ex B B' → Ex B' H' → Ex F H' → Dj B' F → B' a = none → H' a = some (.ins C dx fvs) → RpF K B' fvs fs → Q .non H')
section
variable {P : Program} {w : World} {K : PySem.W.Frag} {mg : Str → Option Value} {base : Heap} {ts : List Addr}
theorem okInit {x qual : Str} {st : Stmt} {f C : Addr} {fd : FuncData} {N ps : List Str} {k : Nat} {sd : SdI} {T : DF} {dvs : List V} {kws : List (Str × V)} (F : FunD K x qual (defArgs st) (defBody st) (defScope st) dvs kws f fd) (S : FnScope N ps (defScope st)) (hps : ps.length ≤ N.length)
    (hl : ∀ ds Q, sd ds Q → ds.length + 1 = ps.length)
    (hb : ∀ (cdv : Value) (A : Around) (outer : List Env) (s : Shared) (H : Hp) (E : XK), Room k (A.deeper (envOfC qual (defScope st) s.heap.objs.size f cdv)) → PDF (Fam.of ts (cxOf CX0 P w K mg base N qual (defScope st) f cdv A outer s H E).nox) C 0 (defBody st) T)
    (hr : ∀ ds Q, sd ds Q → T [] (startD N.length (.non :: ds.map .dat)) (fun fs _ => Q fs)) : FnOk P w K mg base CX0 (k + 1) f fd ps (spI K ts C sd) := by
  refine F.ok S (fun vs H Q E h => ?_) (fun cdv A outer s H vs Q E hroom h => ?_)
  · obtain ⟨a, dx, us, ds, F, B, _, rfl, _, r, _, _, _, _, _, h⟩ := h
    rw [List.length_cons, r.len]
    exact hl _ _ h
  · obtain ⟨a, dx, us, ds, F, B, tb, rfl, ha, r, e, f', dj, ba, fa, h⟩ := h
    obtain ⟨t, pt, lt⟩ := hb cdv A outer s H E hroom
    refine ⟨t, (pt ()).nox, ?_⟩
    have hlen : us.length + 1 ≤ N.length := by rw [r.len, hl _ _ h]; exact hps
    let Q' : Par := ⟨K, F, [], B, no, E0, ts, tb, fun _ _ _ _ _ _ z => z.elim⟩
    have sl : (L2.start N (.ref a :: us))[0]? = some (some (.ref a)) := start_get rfl
    have n : En (Q'.ob a (.ins C dx [])) B (startD N.length (.non :: ds.map .dat)) (L2.start N (.ref a :: us)) H := {
      len := by rw [start_len (by simpa using hlen), startD_len (by rw [List.length_cons, List.length_map, ← r.len]; exact hlen)]
      base := Ex.refl _
      sub := e
      frm := fun b u z => by
        have z' : obF F a (.ins C dx []) b = some u := z
        by_cases q : b = a
        · subst q; rw [obF_same fa] at z'; cases z'; exact .inl ha
        · rw [obF_ne q] at z'; exact f' b u z'
      dj := fun b z => by
        by_cases q : b = a
        · rw [q]; exact ba
        · refine dj b fun y => z ?_
          show obF F a (.ins C dx []) b = none
          rw [obF_ne q]; exact y
      dat := fun i d hd => by
        rcases startD_get hd with hd | hd
        · cases i with
          | zero => cases hd
          | succ i =>
            rw [List.getElem?_cons_succ, List.getElem?_map] at hd
            cases q : ds[i]? with
            | none => rw [q] at hd; cases hd
            | some d' =>
              rw [q] at hd
              cases hd
              obtain ⟨v, h1, h2⟩ := r.getD q
              exact ⟨v, start_get (vs := .ref a :: us) (i := i + 1) (by rw [List.getElem?_cons_succ]; exact h1), h2⟩
        · cases hd
      own := fun i p l hd => by
        rcases startD_get hd with hd | hd
        · cases i with
          | zero => cases hd
          | succ i =>
            rw [List.getElem?_cons_succ, List.getElem?_map] at hd
            cases q : ds[i]? with
            | none => rw [q] at hd; cases hd
            | some d' => rw [q] at hd; cases hd
        · cases hd
      inj := fun i j p p' l l' c hd => by
        rcases startD_get hd with hd | hd
        · cases i with
          | zero => cases hd
          | succ i =>
            rw [List.getElem?_cons_succ, List.getElem?_map] at hd
            cases q : ds[i]? with
            | none => rw [q] at hd; cases hd
            | some d' => rw [q] at hd; cases hd
        · cases hd
      pin := fun q hq => by cases hq
      hf := .none fun i M hd => by
        rcases startD_get hd with hd | hd
        · cases i with
          | zero => cases hd
          | succ i =>
            rw [List.getElem?_cons_succ, List.getElem?_map] at hd
            cases q : ds[i]? with
            | none => rw [q] at hd; cases hd
            | some d' => rw [q] at hd; cases hd
        · cases hd }
    refine lt Q' rfl rfl a dx [] [] B _ _ H _ _ fa sl n .nil (hr _ _ h) fun fs' fvs' Γ' H' B' x n' r' q => ?_
    have fr : Ex F H' := fun b u z => n'.frm b u (obF_some z)
    have dj' : Dj B' F := fun b z => by
      cases y : F b with
      | none => exact absurd y z
      | some u => exact n'.dj b (by show obF F a _ b ≠ none; rw [obF_some y]; exact fun z => nomatch z)
    exact q fvs' H' B' x n'.sub fr dj' (n'.obNone fa) (n'.obAt fa (fun _ z => nomatch z)) r'
end
section
variable {F : Fam} {E : XK} {e : Expr} {es : List Expr} {R : DA} {pos p : Pos} {x : Str} {k : Nat} {ps : List Str} {C f : Addr} {fd : FuncData} {sd : SdI}
/-- C(..) -/
def dMake (C : Addr) (sd : SdI) (R : DA) : DE := fun xd Γ Q => R xd Γ fun ws Γ1 => ∃ ds Γ2, fixL Γ1 ws = some (ds, Γ2) ∧ sd ds (fun fs => Q (.dat (.obj C fs)) Γ2)
theorem pd_make (hm : ∀ ds Q Q', (∀ fs, Q fs → Q' fs) → sd ds Q → sd ds Q') (M : Mk F.K C f) (hF : ∀ j, FnOk (F.X j).prog (F.X j).w (F.X j).K (F.X j).mg (F.X j).base CX0 k f fd ps (spI (F.X j).K F.ts C sd)) (hr : ∀ j, Room (k + 1) (F.X j).A) (hmg : ∀ j, (F.X j).mg x = some (.ref C)) (hb : Binds F.K fd ps [])
    (ha : PDA F E (e :: es) R) (hg : ∀ j, Gl (F.X j) x := by intro _; rfl) (hdb : (x == ("__debug__" : Str)) = false := by decide) (he : ∀ j, starEach (e :: es) (F.X j).env = (false, eval e (F.X j).env) :: starEach es (F.X j).env := by intro _; rfl) (hpl : ∀ j, (backTo pos (starEach es (F.X j).env)).any (·.1) = false := by intro _; rfl) :
    PD F E (.Call (.Name x p) (e :: es) [] pos) (dMake C sd R) :=
  let ⟨t, pa, la⟩ := ha
  ⟨tMake C (spI F.K F.ts C sd) [] E0 t, fun j => F.k j ▸ pe_make ((F.k j).symm ▸ M) (hF j) (hr j) (hg j) (hmg j) ((F.k j).symm ▸ hb) .nil pass0 (pa j) hdb (he j) (hpl j), fun P hK hE Bv Γ σ H Qd Q n h k => la P hK hE Bv Γ σ H _ _ n h fun ws Γ1 vs H1 B1 e1 n1 r1 h1 => by
    obtain ⟨ds, Γ2, f1, h1⟩ := h1
    obtain ⟨B2, e2, n2, r2⟩ := n1.fixedL r1 f1
    intro y dx hy hdx hne
    obtain ⟨fy, by_, _⟩ := n2.noAt hy
    have hy2 : upd H1 dx (.own y) y = none := by rw [upd_ne (Ne.symm hne)]; exact hy
    have ex : Ex H1 (upd (upd H1 dx (.own y)) y (.ins C dx [])) := (Ex.new hdx).trans (Ex.new hy2)
    have hidy : hidF P Γ2 σ H1 y = none := by
      cases q : hidF P Γ2 σ H1 y with
      | none => rfl
      | some u => exact absurd hy ((hidF_ex n2).some q)
    refine ⟨y, dx, vs, ds, hidF P Γ2 σ H1, B2, ?_, by rw [List.append_nil], upd_same, hK ▸ r2, n2.sub.trans ex, (hidF_ex n2).trans ex, hidF_dj n2, by_, hidy, hm _ _ _ (fun fs q fvs H' B' x1 x2 x3 x4 x5 x6 x7 => ⟨rfl, ?_⟩) h1⟩
    · rw [← hE.2]; exact hidF_tab n2
    · have n3 := n2.called x1 x2 x3 x4
      have nh : ∀ (j : Nat) (M : Mm), Γ2[j]? = some (.heap M) → ¬ InReg M H' y := fun j M hM z => by
        have r := (n2.hf.2 j M hM).1
        have same := r.keep fun b o hb ho hn => x3.get (by rw [hidF_reg hM hb]; exact ho) hn
        exact r.alloc (InReg.back same z) hy
      obtain ⟨ex2, n4⟩ := n3.showI x6 x5 fy nh
      rw [← hK] at x7
      exact finD k ((e1.trans e2).trans (x1.trans ex2)) n4 (.obj upd_same (x7.mono ex2)) q⟩
end
end DL

set_option Elab.async false
set_option linter.all false
set_option maxRecDepth 100000
set_option maxHeartbeats 4000000
namespace DL
open PySem PySem.Spec PyProof.Rows L2
/-! ### comprehensions with two fors -/
def dLc2R (G : DG) (tt : DT) (I1 : DI) (G1 : DG) (tt1 : DT) (A : DE) (vs vs1 : List Nat) (K : List D → Gm → Prop) : List D → List D → Gm → Prop
  | [], acc, Γ => K acc Γ
  | x :: r, acc, Γ => ∃ Γ1, G x Γ = some Γ1 ∧ tt no Γ1 fun q Γ2 => if q = true then I1 no Γ2 fun ys Γ3 => okW Γ3 vs1 = true ∧ acc.length + ys.length ≤ 100000 ∧ dLcR G1 tt1 A vs1 (fun acc' Γ4 => okW Γ4 vs = true ∧ dLc2R G tt I1 G1 tt1 A vs vs1 K r acc' (wipeG Γ4 vs)) ys acc (wipeG Γ3 vs1) else okW Γ2 vs = true ∧ dLc2R G tt I1 G1 tt1 A vs vs1 K r acc (wipeG Γ2 vs)
def dLc2 (I : DI) (G : DG) (tt : DT) (I1 : DI) (G1 : DG) (tt1 : DT) (A : DE) (vs vs1 : List Nat) : DO := fun xd Γ Q => I xd Γ fun xs Γ1 => okW Γ1 vs = true ∧ dLc2R G tt I1 G1 tt1 A vs vs1 Q xs [] (wipeG Γ1 vs)
theorem drop_at {α : Type} {xs : List α} {i : Nat} {d : α} (h : xs[i]? = some d) : xs.drop i = d :: xs.drop (i + 1) := by
  obtain ⟨hl, e⟩ := List.getElem?_eq_some_iff.mp h
  rw [List.drop_eq_getElem_cons hl, e]
theorem lo_lc2 {P : Par} {wi wi1 : TI} {I I1 : DI} {g g1 : TG} {G G1 : DG} {ix ix1 : List Nat} {tt tt1 : TT} {tD tD1 : DT} {te : TE} {A : DE} {vs vs1 : List Nat} (hi : LI P wi I) (hg : ∀ p acc, LG (P.lc p acc) g G ix) (ht : ∀ p acc, LT (P.lc p acc) tt tD) (hi1 : ∀ p acc, LI (P.lc p acc) wi1 I1) (hg1 : ∀ p acc, LG (P.lc p acc) g1 G1 ix1) (ht1 : ∀ p acc, LT (P.lc p acc) tt1 tD1)
    (he : ∀ p acc, LE (P.lc p acc) te A) (hix : ∀ i ∈ ix, i ∈ vs) (hix1 : ∀ i ∈ ix1, i ∈ vs1) (hsub : ∀ i ∈ vs1, i ∈ vs) : LO P (tLc2 wi g tt wi1 g1 tt1 te vs vs1) (dLc2 I G tD I1 G1 tD1 A vs vs1) := by
  intro Bv Γ σ H Qd Q n h k
  refine hi Bv Γ σ H _ _ n h fun xs Γ1 J H1 B1 e1 n1 it h1 => ?_
  obtain ⟨hw, h1⟩ := h1
  intro p hp
  obtain ⟨pF, pB, pO⟩ := n1.noAt hp
  have n1' : En P B1 Γ1 σ (upd H1 p (.lst [])) := n1.grow (Grow.hid n1.sub hp)
  have n2 : En (P.lc p []) B1 (wipeG Γ1 vs) (wipe σ vs) (upd H1 p (.lst [])) := (n1'.lc pF upd_same pB pO (n1.nhAt hp)).wipe hw (wipe_length σ vs) fun j hj => wipe_get hj
  refine ⟨fun i m H' => m = xs.length - i ∧ i ≤ xs.length ∧ ∃ B' Γ' acc ds, Ex B1 B' ∧ En (P.lc p acc) B' Γ' (wipe σ vs) H' ∧ RpL P.K B' acc ds ∧ (∀ (j : Nat) (s : Sl), j ∈ vs → Γ'[j]? = some s → s = .non) ∧ dLc2R G tD I1 G1 tD1 A vs vs1 Qd (xs.drop i) ds Γ', ⟨_, rfl, Nat.zero_le _, B1, _, [], [], Ex.refl _, n2, .nil, fun j s hj hs => (wipeG_get hs).resolve_right fun z => z.1 hj, h1⟩, ?_⟩
  rintro i m H' ⟨rfl, hle, B', Γ', acc, ds, e2, n3, ra, hnon, h3⟩
  by_cases hlt : i < xs.length
  · refine .inr ⟨it.go B' H' e2 n3.sub i hlt, fun H5 => ∃ B' Γ' acc ds, Ex B1 B' ∧ En (P.lc p acc) B' Γ' (wipe σ vs) H5 ∧ RpL P.K B' acc ds ∧ (∀ (j : Nat) (s : Sl), j ∈ vs → Γ'[j]? = some s → s = .non) ∧ dLc2R G tD I1 G1 tD1 A vs vs1 Qd (xs.drop (i + 1)) ds Γ', fun H5 z => ⟨xs.length - (i + 1), by omega, rfl, hlt, z⟩, fun x H4 y => ?_⟩
    obtain ⟨B4, d, hd, gr, rp⟩ := it.yld B' H' e2 n3.sub i x H4 hlt y
    rw [drop_at hd] at h3
    obtain ⟨Γ4, q4, h4⟩ := h3
    refine hg p acc B4 Γ' (wipe σ vs) H4 x d Γ4 _ (n3.grow gr) rp q4 fun σ2 n4 w4 => ?_
    have w5 : wipe σ2 vs = wipe σ vs := (w4 vs hix).trans wipe_wipe
    refine ⟨w5, ?_⟩
    have hlen : (wipe σ vs).length = σ2.length := by rw [← w5, wipe_length]
    have hoth : ∀ j, j ∉ vs → (wipe σ vs)[j]? = σ2[j]? := fun j hj => by rw [← w5, wipe_get hj]
    refine ht p acc B4 Γ4 σ2 H4 _ _ n4 h4 fun q Γ5 H5 B5 e5 n5 h5 => ?_
    have e5' : Ex B' B5 := gr.vis.trans e5
    cases q with
    | false =>
      obtain ⟨hw5, h6⟩ : okW Γ5 vs = true ∧ dLc2R G tD I1 G1 tD1 A vs vs1 Qd (xs.drop (i + 1)) ds (wipeG Γ5 vs) := h5
      exact ⟨B5, wipeG Γ5 vs, acc, ds, e2.trans e5', n5.wipe hw5 hlen hoth, ra.mono e5', fun j s hj hs => (wipeG_get hs).resolve_right fun z => z.1 hj, h6⟩
    | true =>
      have h5' : I1 no Γ5 fun ys Γ3 => okW Γ3 vs1 = true ∧ ds.length + ys.length ≤ 100000 ∧ dLcR G1 tD1 A vs1 (fun acc' Γ4 => okW Γ4 vs = true ∧ dLc2R G tD I1 G1 tD1 A vs vs1 Qd (xs.drop (i + 1)) acc' (wipeG Γ4 vs)) ys ds (wipeG Γ3 vs1) := h5
      show wi1 σ2 H5 _
      refine hi1 p acc B5 Γ5 σ2 H5 _ _ n5 h5' fun ys Γ6 J1 H6 B6 e6 n6 it1 h6 => ?_
      obtain ⟨hw6, hz6, h6⟩ := h6
      have eB : Ex B' B6 := e5'.trans e6
      have n7 : En (P.lc p acc) B6 (wipeG Γ6 vs1) (wipe σ2 vs1) H6 := n6.wipe hw6 (wipe_length σ2 vs1) fun j hj => wipe_get hj
      refine ⟨fun j m H' => m = ys.length - j ∧ j ≤ ys.length ∧ ∃ B2 Γ2 acc2 ds2, Ex B6 B2 ∧ En (P.lc p acc2) B2 Γ2 (wipe σ2 vs1) H' ∧ RpL P.K B2 acc2 ds2 ∧ acc2.length ≤ acc.length + j ∧ dLcR G1 tD1 A vs1 (fun acc' Γ4 => okW Γ4 vs = true ∧ dLc2R G tD I1 G1 tD1 A vs vs1 Qd (xs.drop (i + 1)) acc' (wipeG Γ4 vs)) (ys.drop j) ds2 Γ2, ⟨_, rfl, Nat.zero_le _, B6, _, acc, ds, Ex.refl _, n7, ra.mono eB, Nat.le_refl _, h6⟩, ?_⟩
      rintro j m H7 ⟨rfl, hle7, B2, Γ2, acc2, ds2, x2, nn, ra2, hal, h7⟩
      by_cases hj : j < ys.length
      · refine .inr ⟨it1.go B2 H7 x2 nn.sub j hj, fun H' => ∃ B2 Γ2 acc2 ds2, Ex B6 B2 ∧ En (P.lc p acc2) B2 Γ2 (wipe σ2 vs1) H' ∧ RpL P.K B2 acc2 ds2 ∧ acc2.length ≤ acc.length + (j + 1) ∧ dLcR G1 tD1 A vs1 (fun acc' Γ4 => okW Γ4 vs = true ∧ dLc2R G tD I1 G1 tD1 A vs vs1 Qd (xs.drop (i + 1)) acc' (wipeG Γ4 vs)) (ys.drop (j + 1)) ds2 Γ2, fun H' z => ⟨ys.length - (j + 1), by omega, rfl, hj, z⟩, fun x8 H8 y8 => ?_⟩
        obtain ⟨B8, d8, hd8, gr8, rp8⟩ := it1.yld B2 H7 x2 nn.sub j x8 H8 hj y8
        rw [drop_at hd8] at h7
        obtain ⟨Γ8, q8, h8⟩ := h7
        refine hg1 p acc2 B8 Γ2 (wipe σ2 vs1) H8 x8 d8 Γ8 _ (nn.grow gr8) rp8 q8 fun σ3 n8 w8 => ?_
        have w9 : wipe σ3 vs1 = wipe σ2 vs1 := (w8 vs1 hix1).trans wipe_wipe
        refine ⟨w9, ?_⟩
        have hlen9 : (wipe σ2 vs1).length = σ3.length := by rw [← w9, wipe_length]
        have hoth9 : ∀ j, j ∉ vs1 → (wipe σ2 vs1)[j]? = σ3[j]? := fun j hj => by rw [← w9, wipe_get hj]
        refine ht1 p acc2 B8 Γ8 σ3 H8 _ _ n8 h8 fun q9 Γ9 H9 B9 e9 n9 h9 => ?_
        have e9' : Ex B2 B9 := gr8.vis.trans e9
        cases q9 with
        | false =>
          obtain ⟨hw9, h10⟩ : okW Γ9 vs1 = true ∧ dLcR G1 tD1 A vs1 _ (ys.drop (j + 1)) ds2 (wipeG Γ9 vs1) := h9
          exact ⟨B9, wipeG Γ9 vs1, acc2, ds2, x2.trans e9', n9.wipe hw9 hlen9 hoth9, ra2.mono e9', by omega, h10⟩
        | true =>
          have h9' : A no Γ9 fun w Γ3 => ∃ d Γ4, fix Γ3 w = some (d, Γ4) ∧ okW Γ4 vs1 = true ∧ dLcR G1 tD1 A vs1 _ (ys.drop (j + 1)) (ds2 ++ [d]) (wipeG Γ4 vs1) := h9
          show te σ3 H9 _
          refine he p acc2 B9 Γ9 σ3 H9 _ _ n9 h9' fun w10 Γ10 v10 H10 B10 e10 n10 r10 h10 => ?_
          obtain ⟨d10, Γ11, f10, hw10, h11⟩ := h10
          obtain ⟨B11, e11, n11, r11⟩ := n10.fixed r10 f10
          have ee : Ex B2 B11 := (e9'.trans e10).trans e11
          have la : acc.length = ds.length := ra.len
          refine ⟨acc2, n11.frm.lst (lcF_same pF), Evl.sz_lt (by omega), B11, wipeG Γ11 vs1, acc2 ++ [v10], ds2 ++ [d10], x2.trans ee, (n11.lcMore pF).wipe hw10 hlen9 hoth9, (ra2.mono ee).app (.one r11), ?_, h11⟩
          rw [List.length_append, List.length_singleton]
          omega
      · have e : j = ys.length := by omega
        subst e
        rw [List.drop_length] at h7
        obtain ⟨hwv, h8⟩ : okW Γ2 vs = true ∧ dLc2R G tD I1 G1 tD1 A vs vs1 Qd (xs.drop (i + 1)) ds2 (wipeG Γ2 vs) := h7
        refine .inl ⟨it1.stop B2 H7 x2 nn.sub, B2, wipeG Γ2 vs, acc2, ds2, e2.trans (eB.trans x2), nn.wipe hwv (by rw [hlen, wipe_length]) (fun j hj => ?_), ra2, fun j s hj hs => (wipeG_get hs).resolve_right fun z => z.1 hj, h8⟩
        rw [wipe_get fun z => hj (hsub j z)]
        exact hoth j hj
  · have e : i = xs.length := by omega
    subst e
    rw [List.drop_length] at h3
    have n4 : En (P.lc p acc) B' Γ' σ H' := n3.slots (wipe_length σ vs).symm fun j s hj hs => by
      by_cases q : j ∈ vs
      · exact absurd (hnon j s q hj) hs
      · rw [wipe_get q]
    obtain ⟨n5, z⟩ := n4.lcEnd pF ra
    exact .inl ⟨it.stop B' H' e2 n3.sub, k ds Γ' p acc H' B' (e1.trans e2) n5 z h3⟩
section
variable {F : Fam} {E : XK} {elt tg iter tg1 iter1 : Expr} {ifs ifs1 : List Expr} {scope : Scope} {pos : Pos} {I I1 : DI} {G G1 : DG} {ix ix1 : List Nat} {tD tD1 : DT} {A : DE}
theorem pdo_lc2 (own : List (Str × Nat)) (vs1 : List Nat) (hc : ∀ j, (F.X j).calm = true) (hN : ∀ j, (F.X j).N.Nodup) (hi : PDI F E tg iter I) (ok : ∀ j, BlkOk (F.X j).N (F.X j).env.scope scope own)
    (hg : PDG (F.blk scope) tg G ix) (ht : PDTs (F.blk scope) E0 ifs tD) (hi1 : PDI (F.blk scope) E0 tg1 iter1 I1) (hg1 : PDG (F.blk scope) tg1 G1 ix1) (ht1 : PDTs (F.blk scope) E0 ifs1 tD1) (he : PD (F.blk scope) E0 elt A)
    (hix : ∀ i ∈ ix, i ∈ own.map (·.2) := by decide) (hix1 : ∀ i ∈ ix1, i ∈ vs1 := by decide) (hv : ∀ i ∈ vs1, i ∈ own.map (·.2) := by decide) (hs : ∀ j x, foldedSetIterable iter (F.X j).env x = pure x := by intro _ _; rfl) (hs1 : ∀ env x, foldedSetIterable iter1 env x = pure x := by intro _ _; rfl) :
    PDO F E (.ListComp elt [⟨tg, iter, ifs, 0⟩, ⟨tg1, iter1, ifs1, 0⟩] scope pos) (dLc2 I G tD I1 G1 tD1 A (own.map (·.2)) vs1) :=
  let ⟨_, p1, l1⟩ := hi; let ⟨_, p2, l2⟩ := hg; let ⟨_, p3, l3⟩ := ht; let ⟨_, p5, l5⟩ := hi1; let ⟨_, p6, l6⟩ := hg1; let ⟨_, p7, l7⟩ := ht1; let ⟨_, p4, l4⟩ := he
  ⟨_, fun j => pe_lc2 (hc j) (hN j) (p1 j) (ok j) hv (fun s H C cl fp => p2 (j, s, H, C, cl, fp)) (fun s H C cl fp => p3 (j, s, H, C, cl, fp)) (fun s H C cl fp => p5 (j, s, H, C, cl, fp)) (fun s H C cl fp => p6 (j, s, H, C, cl, fp)) (fun s H C cl fp => p7 (j, s, H, C, cl, fp)) (fun s H C cl fp => p4 (j, s, H, C, cl, fp)) (hs j) hs1,
    fun P hK hE => lo_lc2 (l1 P hK hE) (fun p acc => l2 (P.lc p acc) hK) (fun p acc => l3 (P.lc p acc) hK ⟨rfl, hE.2⟩) (fun p acc => l5 (P.lc p acc) hK ⟨rfl, hE.2⟩) (fun p acc => l6 (P.lc p acc) hK) (fun p acc => l7 (P.lc p acc) hK ⟨rfl, hE.2⟩) (fun p acc => l4 (P.lc p acc) hK ⟨rfl, hE.2⟩) hix hix1 hv⟩
theorem pd_setLc2F (i : Nat) (own : List (Str × Nat)) (vs1 : List Nat) {y : Str} {py spos : Pos} (hc : ∀ j, (F.X j).calm = true) (hN : ∀ j, (F.X j).N.Nodup) (hi : PDI F E tg iter I)
    (hsw : ∀ j, swapsWith (.ListComp elt [⟨tg, iter, ifs, 0⟩, ⟨tg1, iter1, ifs1, 0⟩] scope pos) (some (.Name y py)) spos.line (F.X j).env = pure true) (ok : ∀ j, BlkOk (F.X j).N (F.X j).env.scope scope own)
    (hg : PDG (F.blk scope) tg G ix) (ht : PDTs (F.blk scope) E0 ifs tD) (hi1 : PDI (F.blk scope) E0 tg1 iter1 I1) (hg1 : PDG (F.blk scope) tg1 G1 ix1) (ht1 : PDTs (F.blk scope) E0 ifs1 tD1) (he : PD (F.blk scope) E0 elt A)
    (hy : ∀ j, (F.X j).N[i]? = some y := by intro _; rfl) (hyl : ∀ j, (F.X j).env.scope.names.lookup y = some .local := by intro _; rfl)
    (hix : ∀ i ∈ ix, i ∈ own.map (·.2) := by decide) (hix1 : ∀ i ∈ ix1, i ∈ vs1 := by decide) (hv : ∀ i ∈ vs1, i ∈ own.map (·.2) := by decide) (hs : ∀ j x, foldedSetIterable iter (F.X j).env x = pure x := by intro _ _; rfl) (hs1 : ∀ env x, foldedSetIterable iter1 env x = pure x := by intro _ _; rfl) :
    PDS F E (.Assign [.Name y py] (.ListComp elt [⟨tg, iter, ifs, 0⟩, ⟨tg1, iter1, ifs1, 0⟩] scope pos) spos) (dAsgOF i (dLc2 I G tD I1 G1 tD1 A (own.map (·.2)) vs1)) :=
  let ⟨_, p1, l1⟩ := hi; let ⟨_, p2, l2⟩ := hg; let ⟨_, p3, l3⟩ := ht; let ⟨_, p5, l5⟩ := hi1; let ⟨_, p6, l6⟩ := hg1; let ⟨_, p7, l7⟩ := ht1; let ⟨_, p4, l4⟩ := he
  ⟨_, fun j => ps_setLc2 (hc j) (hN j) (hy j) (hyl j) (hsw j) (p1 j) (ok j) hv (fun s H C cl fp => p2 (j, s, H, C, cl, fp)) (fun s H C cl fp => p3 (j, s, H, C, cl, fp)) (fun s H C cl fp => p5 (j, s, H, C, cl, fp)) (fun s H C cl fp => p6 (j, s, H, C, cl, fp)) (fun s H C cl fp => p7 (j, s, H, C, cl, fp)) (fun s H C cl fp => p4 (j, s, H, C, cl, fp)) (hs j) hs1,
    fun P hK hE => ls_asgOF (lo_lc2 (l1 P hK hE) (fun p acc => l2 (P.lc p acc) hK) (fun p acc => l3 (P.lc p acc) hK ⟨rfl, hE.2⟩) (fun p acc => l5 (P.lc p acc) hK ⟨rfl, hE.2⟩) (fun p acc => l6 (P.lc p acc) hK) (fun p acc => l7 (P.lc p acc) hK ⟨rfl, hE.2⟩) (fun p acc => l4 (P.lc p acc) hK ⟨rfl, hE.2⟩) hix hix1 hv)⟩
end
theorem dLc2R_by {G : DG} {tt : DT} {I1 : DI} {G1 : DG} {tt1 : DT} {A : DE} {vs vs1 : List Nat} {K : List D → Gm → Prop} (I : List D → List D → Gm → Prop) (h0 : ∀ acc Γ, I [] acc Γ → K acc Γ)
    (hs : ∀ x r acc Γ, I (x :: r) acc Γ → ∃ Γ1, G x Γ = some Γ1 ∧ ∀ L : List D → Gm → Prop, (∀ acc Γ, I r acc Γ → L acc Γ) → tt no Γ1 fun q Γ2 => if q = true then I1 no Γ2 fun ys Γ3 => okW Γ3 vs1 = true ∧ acc.length + ys.length ≤ 100000 ∧ dLcR G1 tt1 A vs1 (fun acc' Γ4 => okW Γ4 vs = true ∧ L acc' (wipeG Γ4 vs)) ys acc (wipeG Γ3 vs1) else okW Γ2 vs = true ∧ L acc (wipeG Γ2 vs)) :
    ∀ xs acc Γ, I xs acc Γ → dLc2R G tt I1 G1 tt1 A vs vs1 K xs acc Γ
  | [], acc, Γ, h => h0 acc Γ h
  | x :: r, acc, Γ, h => by
    obtain ⟨Γ1, h1, h2⟩ := hs x r acc Γ h
    exact ⟨Γ1, h1, h2 _ fun acc Γ q => dLc2R_by I h0 hs r acc Γ q⟩
end DL

set_option Elab.async false
set_option linter.all false
set_option maxRecDepth 100000
set_option maxHeartbeats 4000000
/-! Generator expressions whose elements are anything that the layer reads: how a consumer walks one. -/
namespace GG
open PySem PySem.Spec PyProof.Rows L2 DL GenW
/-- while a generator sleeps: all objects stay but the consumer's own at zs -/
structure Nap (zs : List Addr) (s s' : Shared) : Prop where
  os : s'.os = s.os
  bare : AllBare s'.gens
  keep : ∀ b o, b ∉ zs → s.heap.get? b = some o → s'.heap.get? b = some o
  own : ∀ b ∈ zs, ∃ o, s'.heap.get? b = some o ∧ ∀ v, o.data ≠ .cell v
theorem Nap.trans {zs : List Addr} {s s1 s2 : Shared} (a : Nap zs s s1) (b : Nap zs s1 s2) : Nap zs s s2 :=
  ⟨b.os.trans a.os, b.bare, fun c o h e => b.keep c o h (a.keep c o h e), b.own⟩
section
variable {X : Cx} {pins : List (Addr × Obj)} {σ : L2.St} {H : Hp} {s s' : Shared} {zs : List Addr}
theorem inv_nap (I : Inv X pins σ H s) (hz : pins.map (·.1) = zs) (hn : ∀ b ∈ zs, X.s_0.heap.objs.size ≤ b ∧ (∀ x c, X.env.cells.lookup x = some c → c ≠ b) ∧ ∀ p ∈ X.pn, p.1 ≠ b) (z : Nap zs s s') :
    ∃ pins', pins'.map (·.1) = zs ∧ Inv X pins' σ H s' := by
  have pz : ∀ b ∈ zs, H b = none ∧ b ≠ X.env.locals ∧ b ∉ X.fs := fun b hb => by
    rw [← hz] at hb
    obtain ⟨p, hp, rfl⟩ := List.mem_map.mp hb
    obtain ⟨_, h2, h3, h4, _⟩ := I.pin p (List.mem_append_right _ hp)
    exact ⟨h2, h3, h4⟩
  have I0 : Inv X [] σ H s := I.pins_of fun p hp => by cases hp
  have J : Inv X [] σ H s' := by
    have q := I0.step (h' := s'.heap) (g' := s'.gens) (t' := s'.toks) (d' := s'.drawn) (ch := zs) (H' := H) (fun b hb => ⟨.inr (hn b hb).1, (pz b hb).2.1, (hn b hb).2.1, fun p hp => by
        rw [List.append_nil] at hp
        exact (hn b hb).2.2 p hp⟩)
      (fun b o _ _ hc e _ => z.keep b o hc e) (fun b o _ _ hc e _ => ⟨o.slots, z.keep b o hc e⟩) (fun _ _ _ _ h => h) (fun b o hc e => ⟨o, z.keep b o hc e⟩) (fun _ _ e => e) (fun _ _ _ e => e) (fun b ps e => ⟨#[], by rw [e]; simp⟩)
      (fun m hm => by
        obtain ⟨o, es, ep, ho, r⟩ := hm
        exact ⟨o, es, ep, z.keep _ o (fun hb => (pz _ hb).2.1 rfl) ho, r⟩)
      (fun b u e => (I0.hok b u e).stay (fun c v hc y => z.keep c v (fun hb => by
        rcases hc with rfl | hc
        · rw [(pz _ hb).1] at e; cases e
        · rw [(pz _ hb).1] at hc; cases hc) y) (fun _ y => y) fun _ _ y => y) z.bare
    rw [GxR.sh_eta s s' z.os] at q
    exact q
  have own := z.own
  clear hz hn z
  have mk : ∀ ys : List Addr, (∀ b ∈ ys, b ∈ zs) → ∃ pins' : List (Addr × Obj), pins'.map (·.1) = ys ∧ ∀ p ∈ pins', p.1 ∈ zs ∧ s'.heap.get? p.1 = some p.2 ∧ ∀ v, p.2.data ≠ .cell v := by
    intro ys
    induction ys with
    | nil => exact fun _ => ⟨[], rfl, fun p hp => by cases hp⟩
    | cons y ys ih =>
      intro hy
      obtain ⟨o, e1, e2⟩ := own y (hy y List.mem_cons_self)
      obtain ⟨ps, e3, e4⟩ := ih fun b hb => hy b (List.mem_cons_of_mem _ hb)
      refine ⟨(y, o) :: ps, by rw [List.map_cons, e3], fun p hp => ?_⟩
      rcases List.mem_cons.mp hp with rfl | hp
      · exact ⟨hy y List.mem_cons_self, e1, e2⟩
      · exact e4 p hp
  obtain ⟨ps, e1, e2⟩ := mk zs fun _ h => h
  refine ⟨ps, e1, J.pins_of fun p hp => ?_⟩
  obtain ⟨h1, h2, h3⟩ := e2 p hp
  obtain ⟨k1, k2, k3⟩ := pz _ h1
  exact ⟨h2, k1, k2, k3, h3⟩
end
/-! ### the protocol: n items, the j-th of them as F tells, IV behind it -/
def GY (zs : List Addr) (n : Nat) (F : Nat → Value → Prop) (IV : Nat → Shared → Prop) : Protocol := fun m s₀ v s kap => ∃ j, j + 1 + m = n ∧ F j v ∧ (∀ b ∈ zs, s.heap.get? b = s₀.heap.get? b) ∧ IV (j + 1) s ∧ ∀ s', Nap zs s s' → kap (.send .none) s'
def GR (IE : Shared → Prop) : GenEnd := fun k s₀ r s => r = .ok .next ∧ (k = 0 ∧ IE s)
/-- what IV must know -/
structure IvOk (zs : List Addr) (a : Addr) (g n : Nat) (IV : Nat → Shared → Prop) (IE : Shared → Prop) : Prop where
  gen : ∀ j s, IV j s → s.heap.IsGen a g ∧ s.heap.NoLimit ∧ AllBare s.gens
  own : ∀ j s, IV j s → ∀ b ∈ zs, ∃ o, s.heap.get? b = some o ∧ ∀ v, o.data ≠ .cell v
  nap : ∀ j s s', IV j s → Nap zs s s' → IV j s'
  weak : ∀ j s, j ≤ n → IV j s → IE s
  bareE : ∀ s, IE s → AllBare s.gens
  ownE : ∀ s, IE s → ∀ b ∈ zs, ∃ o, s.heap.get? b = some o ∧ ∀ v, o.data ≠ .cell v
  napE : ∀ s s', IE s → Nap zs s s' → IE s'
structure GSt (prog : Program) (w : World) (A : Around) (zs : List Addr) (g n : Nat) (F : Nat → Value → Prop) (IV : Nat → Shared → Prop) (IE : Shared → Prop) (j : Nat) (s : Shared) : Prop where
  inv : IV j s
  goes : ∃ gs, s.gens[g]? = some gs ∧ ∀ s', Nap zs s s' → gs.Goes (model prog w) A.in1 (GR IE) (GY zs n F IV) (n - j) (.send .none) s'
theorem bare_set {s : Shared} {g : Nat} {x : GenState} (h : AllBare s.gens) (hx : x.bare = true) : AllBare (s.setGen g x).gens := by
  intro y hy
  have hy' : y ∈ s.gens.setIfInBounds g x := hy
  obtain ⟨i, hi, e⟩ := Array.mem_iff_getElem.mp hy'
  have hi' : i < s.gens.size := by simpa using hi
  rw [Array.getElem_setIfInBounds hi'] at e
  split at e
  · rw [← e]; exact hx
  · rw [← e]; exact h _ (Array.getElem_mem _)
theorem nap_set {zs : List Addr} {s : Shared} {g : Nat} {x : GenState} (h : AllBare s.gens) (hx : x.bare = true) (ho : ∀ b ∈ zs, ∃ o, s.heap.get? b = some o ∧ ∀ v, o.data ≠ .cell v) : Nap zs s (s.setGen g x) :=
  ⟨rfl, bare_set h hx, fun _ _ _ e => e, ho⟩
section
variable {prog : Program} {w : World} {A : Around} {E : Value → Shared → Prop} {zs : List Addr} {a : Addr} {g n : Nat} {F : Nat → Value → Prop} {IV : Nat → Shared → Prop} {IE : Shared → Prop}
theorem GSt.napped (ok : IvOk zs a g n IV IE) {j : Nat} {s s' : Shared} (st : GSt prog w A zs g n F IV IE j s) (z : Nap zs s s') (hg : s'.gens[g]? = s.gens[g]?) : GSt prog w A zs g n F IV IE j s' := by
  obtain ⟨gs, h1, h2⟩ := st.goes
  exact ⟨ok.nap _ _ _ st.inv z, gs, hg.trans h1, fun s2 y => h2 s2 (z.trans y)⟩
theorem GSt.item (hh : A.handled = none) (hroom : A.depth < recursionLimit) (ok : IvOk zs a g n IV IE) {j : Nat} {s : Shared} {Q : Option Value → Shared → Prop} (hj : j < n) (st : GSt prog w A zs g n F IV IE j s)
    (hQ : ∀ v s', F j v → (∀ b ∈ zs, s'.heap.get? b = s.heap.get? b) → GSt prog w A zs g n F IV IE (j + 1) s' → Q (some v) s') : wpAny (model prog w) A (pyNext (.ref a)) Q E s := by
  obtain ⟨iv, gs, hgs, goes⟩ := st
  obtain ⟨h1, h2, h3⟩ := ok.gen _ _ iv
  obtain ⟨m, hm⟩ : ∃ m, n - j = m + 1 := ⟨n - j - 1, by omega⟩
  rw [hm] at goes
  have lt : g + 1 ≤ s.gens.size := (Array.getElem?_eq_some_iff.mp hgs).1
  refine wpAny_mono (wpAny_gsz lt (E := fun _ _ => False) (Q := fun r s' => ∃ v, r = some v ∧ F j v ∧ (∀ b ∈ zs, s'.heap.get? b = s.heap.get? b) ∧ GSt prog w A zs g n F IV IE (j + 1) s') ?_) (fun r s' h => ?_) fun _ _ z => z.elim
  · refine wpAny_mono (wpAny_pyNext_genexpQ (E := fun _ _ => False) (P := fun k s₀ s₁ => k = 0 ∧ IE s₁) (Q := fun r s' => g + 1 ≤ s'.gens.size → ∃ v, r = some v ∧ F j v ∧ (∀ b ∈ zs, s'.heap.get? b = s.heap.get? b) ∧ GSt prog w A zs g n F IV IE (j + 1) s') hh h2 hroom h1 hgs (goes _ (nap_set h3 rfl (ok.own _ _ iv))) (fun v s₁ gs' hb hy => ?_) (fun s₁ hp h' hk => ?_)) (fun _ _ x => x) fun _ _ x => x.elim
    · obtain ⟨j', e, hF, hu, hi, hk⟩ := hy
      obtain rfl : j' = j := by omega
      intro hsz
      have hsz' : g < s₁.gens.size := by rw [setGen_size] at hsz; exact hsz
      obtain ⟨_, _, b1⟩ := ok.gen _ _ hi
      have nz : Nap zs s₁ (s₁.setGen g gs') := nap_set b1 hb (ok.own _ _ hi)
      refine ⟨v, rfl, hF, hu, ok.nap _ _ _ hi nz, gs', setGen_self (Array.getElem?_eq_getElem hsz'), fun s' z => ?_⟩
      have e2 : n - (j' + 1) = m := by omega
      rw [e2]
      exact hk s' (nz.trans z)
    · exact absurd hp.1 (Nat.succ_ne_zero m)
  · obtain ⟨v, rfl, hF, hu, st'⟩ := h
    exact hQ v s' hF hu st'
theorem GSt.done (hh : A.handled = none) (hroom : A.depth < recursionLimit) (ok : IvOk zs a g n IV IE) {s : Shared} {Q : Option Value → Shared → Prop} (st : GSt prog w A zs g n F IV IE n s)
    (hQ : ∀ s', IE s' → Q none s') : wpAny (model prog w) A (pyNext (.ref a)) Q E s := by
  obtain ⟨iv, gs, hgs, goes⟩ := st
  obtain ⟨h1, h2, h3⟩ := ok.gen _ _ iv
  rw [Nat.sub_self] at goes
  refine wpAny_pyNext_genexpQ (P := fun k s₀ s₁ => k = 0 ∧ IE s₁) hh h2 hroom h1 hgs (goes _ (nap_set h3 rfl (ok.own _ _ iv))) (fun v s₁ gs' hb hy => ?_) (fun s₁ hp h' hk => ?_)
  · obtain ⟨_, _, _, _, hi, hk⟩ := hy
    exact (hk s₁ ⟨rfl, (ok.gen _ _ hi).2.2, fun _ _ _ e => e, ok.own _ _ hi⟩).elim
  · refine hQ _ (ok.napE _ _ hp.2 ⟨rfl, bare_set (ok.bareE _ hp.2) rfl, fun b o _ e => hk b o e, fun b hb => ?_⟩)
    obtain ⟨o, e1, e2⟩ := ok.ownE _ hp.2 b hb
    exact ⟨o, hk b o e1, e2⟩
/-! ### all, any -/
theorem all_go (hh : A.handled = none) (hroom : A.depth < recursionLimit) (ok : IvOk [] a g n IV IE) (tr : Nat → Bool) (hF : ∀ j v, F j v → v = .bool (tr j)) {R : Result → Shared → Prop} : ∀ (k j : Nat) (s : Shared), n - j = k → j ≤ n → GSt prog w A.in1 [] g n F IV IE j s →
    (∀ s', IE s' → R (.ok (.ret (.bool (((List.range n).drop j).all tr)))) s') → codeAny (model prog w) A (.builtin "all.loop" ⟨[.ref a], []⟩) R s := by
  intro k
  induction k with
  | zero =>
    intro j s hk hj st hR
    obtain rfl : j = n := by omega
    refine codeAny_builtin PySem.F.entry_all_loop ?_
    rw [Around.under_plainId PySem.F.plain_all_loop _]
    refine wpAny_bind (m := pyNext (.ref a)) (st.done (A := A.in1) hh hroom ok fun s' iv => ?_)
    refine wpAny_bind (wpAny_rule (wpAny_pure ?_))
    have q := hR s' iv
    rw [List.drop_of_length_le (by simp)] at q
    exact q
  | succ k ih =>
    intro j s hk hj st hR
    have lt : j < n := by omega
    refine codeAny_builtin PySem.F.entry_all_loop ?_
    rw [Around.under_plainId PySem.F.plain_all_loop _]
    refine wpAny_bind (m := pyNext (.ref a)) (st.item (A := A.in1) hh hroom ok lt fun v s' hv _ st' => ?_)
    rw [hF j v hv]
    refine wpAny_bind (wpAny_holding (wpAny_truthy_bool (wpAny_bind (wpAny_letGo ?_))))
    have hd : (List.range n).drop j = j :: (List.range n).drop (j + 1) := DL.drop_at (by simp [lt])
    rw [hd] at hR
    cases hb : tr j with
    | true =>
      rw [if_pos rfl]
      refine wpAny_pure ⟨plainId_quiet PySem.F.plain_all_loop _, ih (j + 1) s' (by omega) lt st' fun s2 h3 => ?_⟩
      have q := hR s2 h3
      rw [List.all_cons, hb, Bool.true_and] at q
      exact q
    | false =>
      rw [if_neg Bool.false_ne_true]
      refine wpAny_bind (wpAny_rule (wpAny_pure ?_))
      have q := hR s' (ok.weak _ _ lt st'.inv)
      rw [List.all_cons, hb, Bool.false_and] at q
      exact q
theorem any_go (hh : A.handled = none) (hroom : A.depth < recursionLimit) (ok : IvOk [] a g n IV IE) (tr : Nat → Bool) (hF : ∀ j v, F j v → v = .bool (tr j)) {R : Result → Shared → Prop} : ∀ (k j : Nat) (s : Shared), n - j = k → j ≤ n → GSt prog w A.in1 [] g n F IV IE j s →
    (∀ s', IE s' → R (.ok (.ret (.bool (((List.range n).drop j).any tr)))) s') → codeAny (model prog w) A (.builtin "any.loop" ⟨[.ref a], []⟩) R s := by
  intro k
  induction k with
  | zero =>
    intro j s hk hj st hR
    obtain rfl : j = n := by omega
    refine codeAny_builtin PySem.F.entry_any_loop ?_
    rw [Around.under_plainId PySem.F.plain_any_loop _]
    refine wpAny_bind (m := pyNext (.ref a)) (st.done (A := A.in1) hh hroom ok fun s' iv => ?_)
    refine wpAny_bind (wpAny_rule (wpAny_pure ?_))
    have q := hR s' iv
    rw [List.drop_of_length_le (by simp)] at q
    exact q
  | succ k ih =>
    intro j s hk hj st hR
    have lt : j < n := by omega
    refine codeAny_builtin PySem.F.entry_any_loop ?_
    rw [Around.under_plainId PySem.F.plain_any_loop _]
    refine wpAny_bind (m := pyNext (.ref a)) (st.item (A := A.in1) hh hroom ok lt fun v s' hv _ st' => ?_)
    rw [hF j v hv]
    refine wpAny_bind (wpAny_holding (wpAny_truthy_bool (wpAny_bind (wpAny_letGo ?_))))
    have hd : (List.range n).drop j = j :: (List.range n).drop (j + 1) := DL.drop_at (by simp [lt])
    rw [hd] at hR
    cases hb : tr j with
    | false =>
      rw [if_neg Bool.false_ne_true]
      refine wpAny_pure ⟨plainId_quiet PySem.F.plain_any_loop _, ih (j + 1) s' (by omega) lt st' fun s2 h3 => ?_⟩
      have q := hR s2 h3
      rw [List.any_cons, hb, Bool.false_or] at q
      exact q
    | true =>
      rw [if_pos rfl]
      refine wpAny_bind (wpAny_rule (wpAny_pure ?_))
      have q := hR s' (ok.weak _ _ lt st'.inv)
      rw [List.any_cons, hb, Bool.true_or] at q
      exact q
end
section
variable {prog : Program} {w : World} {A : Around} {E : Value → Shared → Prop} {s : Shared}
theorem all_call {x : Value} {Q : Value → Shared → Prop} (h : wpAny (model prog w) A.in1 (pyIter x) (fun it s2 => ∃ (a : Addr) (g n : Nat) (F : Nat → Value → Prop) (IV : Nat → Shared → Prop) (IE : Shared → Prop) (tr : Nat → Bool), it = .ref a ∧ A.handled = none ∧ A.depth < recursionLimit ∧ IvOk [] a g n IV IE ∧ (∀ j v, F j v → v = .bool (tr j)) ∧
      GSt prog w A.in1 [] g n F IV IE 0 s2 ∧ ∀ s', IE s' → Q (.bool ((List.range n).all tr)) s') E s) : wpAny (model prog w) A (call (.builtin "all") [x]) Q E s := by
  refine call_function_tree PySem.F.kind_all PySem.F.plain_all PySem.F.entry_all (PySem.F.args_all1 _) ?_
  unfold Builtin.«all»
  refine wpAny_bind (m := oneArg "all" _) (wpAny_pure ?_)
  refine wpAny_bind (wpAny_mono h (fun it s2 z => ?_) fun _ _ e => e)
  obtain ⟨a, g, n, F, IV, IE, tr, rfl, hh, hr, ok, hF, st, hQ⟩ := z
  exact wpAny_pure ⟨plainId_quiet PySem.F.plain_all_loop _, all_go (A := A) hh hr ok tr hF n 0 s2 rfl (Nat.zero_le _) st fun s' h3 => hQ s' h3⟩
theorem any_call {x : Value} {Q : Value → Shared → Prop} (h : wpAny (model prog w) A.in1 (pyIter x) (fun it s2 => ∃ (a : Addr) (g n : Nat) (F : Nat → Value → Prop) (IV : Nat → Shared → Prop) (IE : Shared → Prop) (tr : Nat → Bool), it = .ref a ∧ A.handled = none ∧ A.depth < recursionLimit ∧ IvOk [] a g n IV IE ∧ (∀ j v, F j v → v = .bool (tr j)) ∧
      GSt prog w A.in1 [] g n F IV IE 0 s2 ∧ ∀ s', IE s' → Q (.bool ((List.range n).any tr)) s') E s) : wpAny (model prog w) A (call (.builtin "any") [x]) Q E s := by
  refine call_function_tree PySem.F.kind_any PySem.F.plain_any PySem.F.entry_any (PySem.F.args_any1 _) ?_
  unfold Builtin.«any»
  refine wpAny_bind (m := oneArg "any" _) (wpAny_pure ?_)
  refine wpAny_bind (wpAny_mono h (fun it s2 z => ?_) fun _ _ e => e)
  obtain ⟨a, g, n, F, IV, IE, tr, rfl, hh, hr, ok, hF, st, hQ⟩ := z
  exact wpAny_pure ⟨plainId_quiet PySem.F.plain_any_loop _, any_go (A := A) hh hr ok tr hF n 0 s2 rfl (Nat.zero_le _) st fun s' h3 => hQ s' h3⟩
end
end GG

set_option Elab.async false
set_option linter.all false
set_option maxRecDepth 100000
set_option maxHeartbeats 4000000
/-! .. the turns of a generator's own frame. -/
namespace GG
open PySem PySem.Spec PyProof.Rows L2 DL GenW
/-- the code of the loop -/
abbrev loopC (elt tg iter : Expr) (scope : Scope) (gpos : Pos) (it : Addr) (env : Env) : Code := .compLoop (.GeneratorExp elt [⟨tg, iter, [], 0⟩] scope gpos) 0 (.ref it) .none env
abbrev startC (elt tg iter : Expr) (scope : Scope) (gpos : Pos) (it : Addr) (env : Env) : Code := .compStart (.GeneratorExp elt [⟨tg, iter, [], 0⟩] scope gpos) 0 (.ref it) .none env
def IVg (X : Cx) (zs fp : List Addr) (tn : Nat → Heap → Prop) (W : Nat → L2.St → Hp → Prop) (i : Nat) (s : Shared) : Prop :=
  ∃ pins σ H, pins.map (·.1) = zs ∧ Inv X pins σ H s ∧ (∀ b ∈ fp, H b = none) ∧ tn i s.heap ∧ W i σ H
def IEg (X : Cx) (zs : List Addr) (n : Nat) (W : Nat → L2.St → Hp → Prop) (s : Shared) : Prop := ∃ pins σ H i, i ≤ n ∧ pins.map (·.1) = zs ∧ Inv X pins σ H s ∧ W i σ H
/-- what does not change: the generator's frame, the iterator's objects fp, the consumer's zs -/
structure Gx (X : Cx) (zs fp : List Addr) (a : Addr) (g : Nat) : Prop where
  fp : ∀ b ∈ fp, b ≠ X.env.locals ∧ b ∉ X.fs ∧ b ∈ X.ex ∧ (∀ x c, X.env.cells.lookup x = some c → c ≠ b) ∧ (∀ p ∈ X.pn, p.1 ≠ b) ∧ b ∉ zs
  zs : ∀ b ∈ zs, X.s_0.heap.objs.size ≤ b ∧ (∀ x c, X.env.cells.lookup x = some c → c ≠ b) ∧ ∀ p ∈ X.pn, p.1 ≠ b
  gen : ∀ pins σ H s, Inv X pins σ H s → s.heap.IsGen a g
  calm : X.calm = true
  co : X.env.scope.isCoroutine = false
section
variable {X : Cx} {zs fp : List Addr} {a it : Addr} {g n : Nat} {tn : Nat → Heap → Prop} {W : Nat → L2.St → Hp → Prop} {J : It} {tg : Expr}
theorem Gx.stat (G : Gx X zs fp a g) {pins : List (Addr × Obj)} {H : Hp} (hp : pins.map (·.1) = zs) (h : ∀ b ∈ fp, H b = none) : ∀ b ∈ fp, FpOk X pins H b := fun b hb => by
  obtain ⟨h1, h2, h3, h4, h5, h6⟩ := G.fp b hb
  refine ⟨h b hb, h1, h2, .inl h3, h4, fun p hpp => ?_⟩
  rcases List.mem_append.mp hpp with q | q
  · exact h5 p q
  · exact fun e => h6 (by rw [← hp, ← e]; exact List.mem_map_of_mem q)
theorem ivOk (G : Gx X zs fp a g) (T : Turn X.prog X.w X.K tg J fp it tn) : IvOk zs a g n (IVg X zs fp tn W) (IEg X zs n W) where
  gen := fun j s h => by
    obtain ⟨pins, σ, H, _, I, _⟩ := h
    exact ⟨G.gen _ _ _ _ I, I.nolimit, I.bare⟩
  own := fun j s h b hb => by
    obtain ⟨pins, σ, H, e, I, _⟩ := h
    rw [← e] at hb
    obtain ⟨p, hp, rfl⟩ := List.mem_map.mp hb
    obtain ⟨h1, _, _, _, h5⟩ := I.pin p (List.mem_append_right _ hp)
    exact ⟨p.2, h1, h5⟩
  nap := fun j s s' h z => by
    obtain ⟨pins, σ, H, e, I, f, t, w⟩ := h
    obtain ⟨pins', e', I'⟩ := inv_nap I e G.zs z
    exact ⟨pins', σ, H, e', I', f, T.keep _ _ _ t fun b hb o ho => z.keep b o (G.fp b hb).2.2.2.2.2 ho, w⟩
  weak := fun j s hj h => by
    obtain ⟨pins, σ, H, e, I, f, t, w⟩ := h
    exact ⟨pins, σ, H, j, hj, e, I, w⟩
  bareE := fun s h => by
    obtain ⟨_, _, _, _, _, _, I, _⟩ := h
    exact I.bare
  ownE := fun s h b hb => by
    obtain ⟨pins, σ, H, i, _, e, I, _⟩ := h
    rw [← e] at hb
    obtain ⟨p, hp, rfl⟩ := List.mem_map.mp hb
    obtain ⟨h1, _, _, _, h5⟩ := I.pin p (List.mem_append_right _ hp)
    exact ⟨p.2, h1, h5⟩
  napE := fun s s' h z => by
    obtain ⟨pins, σ, H, i, hi, e, I, w⟩ := h
    obtain ⟨pins', e', I'⟩ := inv_nap I e G.zs z
    exact ⟨pins', σ, H, i, hi, e', I', w⟩
/-- one turn: W goes from i to i + 1, and what is handed out is as F tells -/
structure Turns (J : It) (n : Nat) (g : TG) (te : TE) (F : Nat → Value → Prop) (W : Nat → L2.St → Hp → Prop) : Prop where
  go : ∀ i σ H, i < n → W i σ H → J.go i H
  stop : ∀ σ H, W n σ H → J.stop n H
  step : ∀ i σ H x H1, i < n → W i σ H → J.yld i H x H1 → g x σ H1 fun σ2 H2 => te σ2 H2 fun v H3 => (∀ u, RelV v u → F i u) ∧ W (i + 1) σ2 H3
theorem turns_seg {A : Around} {elt iter : Expr} {scope : Scope} {gpos : Pos} {gt : TG} {te : TE} {F : Nat → Value → Prop} (G : Gx X zs fp a g) (T : Turn X.prog X.w X.K tg J fp it tn) (hA : A.over (loopC elt tg iter scope gpos it X.env) [] = X.A) (hxe : X.xe = fun _ _ => False)
    (pg : PG X tg gt) (pe : PE X elt te) (tt : Turns J n gt te F W) : ∀ (k i : Nat) (s₀ s : Shared), n - i = k → i ≤ n → (∀ b ∈ zs, s.heap.get? b = s₀.heap.get? b) → IVg X zs fp tn W i s →
    Seg (model X.prog X.w) A (GR (IEg X zs n W)) (GY zs n F (IVg X zs fp tn W)) k s₀ (loopC elt tg iter scope gpos it X.env) ((model X.prog X.w).den (loopC elt tg iter scope gpos it X.env)) [] s := by
  have no : ∀ {α : Type} {t : Sem α} {Q : α → Shared → Prop} {R : Value → Shared → Prop} {s : Shared}, wpAny (model X.prog X.w) X.A t Q X.xe s → wpAny (model X.prog X.w) X.A t Q R s := fun h => wpAny_mono h (fun _ _ z => z) fun _ _ z => by
    rw [hxe] at z
    exact z.elim
  intro k
  induction k with
  | zero =>
    intro i s₀ s hk hi hu h
    obtain rfl : i = n := by omega
    obtain ⟨pins, σ, H, e, I, f, t, w⟩ := h
    show Seg _ A _ _ _ s₀ _ ((compTurn (.GeneratorExp elt [⟨tg, iter, [], 0⟩] scope gpos) 0 (.ref it) .none X.env).onRaise (leaving X.env)) [] s
    rw [compTurn_gen, Sem.onRaise_eq_wrap]
    refine seg_bind_wrap (wpAny_standAt (seg_bind_wrap ?_))
    rw [hA]
    refine no (wpAny_mono (T.done X rfl rfl rfl G.calm i pins s σ H X.xe I (G.stat e f) t (tt.stop σ H w)) (fun r s1 z => ?_) fun _ _ z => z)
    obtain ⟨rfl, I1⟩ := z
    exact seg_end (.ok .next) ⟨rfl, rfl, pins, σ, H, i, hi, e, I1, w⟩
  | succ k ih =>
    intro i s₀ s hk hi hu h
    have lt : i < n := by omega
    obtain ⟨pins, σ, H, e, I, f, t, w⟩ := h
    show Seg _ A _ _ _ s₀ _ ((compTurn (.GeneratorExp elt [⟨tg, iter, [], 0⟩] scope gpos) 0 (.ref it) .none X.env).onRaise (leaving X.env)) [] s
    rw [compTurn_gen, Sem.onRaise_eq_wrap]
    refine seg_bind_wrap (wpAny_standAt (seg_bind_wrap ?_))
    rw [hA]
    refine no (wpAny_mono (T.item X rfl rfl rfl G.calm i pins s σ H X.xe I (G.stat e f) t (tt.go i σ H lt w)) (fun r s1 z => ?_) fun _ _ z => z)
    obtain ⟨u, rfl, z⟩ := z
    refine seg_bind_wrap ?_
    rw [hA]
    refine no (wpAny_mono z (fun _ s2 z => ?_) fun _ _ z => z)
    obtain ⟨x, H2, I2, r2, y2, t2, f2⟩ := z
    have I3 := I2.pinned (G.stat e f2) (T.obj _ _ t2)
    refine seg_bind_wrap ?_
    rw [hA]
    refine no (wpAny_mono (pg.run _ s2 σ H2 x u _ I3 r2 (tt.step i σ H x H2 lt w y2)) (fun _ s4 z => ?_) fun _ _ z => z)
    obtain ⟨σ4, H4, I4, q4⟩ := z
    simp only [List.forIn_nil]
    refine seg_bind_wrap (wpAny_pure ?_)
    rw [if_pos rfl]
    have hy : ∀ v, yieldOut X.env v = yieldValue v := fun v => by
      unfold yieldOut
      rw [G.co]
      rfl
    simp only [hy]
    rw [Sem.bind_eq_wrap', Sem.bind_eq_wrap', Sem.wrap_wrap, Sem.wrap_wrap]
    refine seg_wrap ?_
    rw [hA]
    refine no (wpAny_mono (pe.run _ s4 σ4 H4 _ I4 q4) (fun v s5 z => ?_) fun _ _ z => z)
    obtain ⟨v5, H5, I5, r5, hF, w5⟩ := z
    have t5 : tn (i + 1) s5.heap := T.keep _ _ _ t2 fun b hb o ho => (I5.pin (b, o) (List.mem_append_right _ (List.mem_append_right _ (mem_pinsAt hb ho)))).1
    have f5 : ∀ b ∈ fp, H5 b = none := fun b hb => by
      obtain ⟨o, ho, _⟩ := T.obj _ _ t2 b hb
      exact (I5.pin (b, o) (List.mem_append_right _ (List.mem_append_right _ (mem_pinsAt hb ho)))).2.1
    have iv5 : IVg X zs fp tn W (i + 1) s5 := ⟨pins, σ4, H5, e, I5.unpinned, f5, t5, w5⟩
    refine seg_at (seg_yield rfl rfl rfl ⟨i, by omega, hF v r5, fun b hb => ?_, iv5, fun s' z => ?_⟩)
    · rw [← e] at hb
      obtain ⟨p, hp, rfl⟩ := List.mem_map.mp hb
      have q1 := (I.pin p (List.mem_append_right _ hp)).1
      have q2 := (I5.pin p (List.mem_append_right _ (List.mem_append_left _ hp))).1
      rw [show s5.heap.get? p.1 = some p.2 from q2, ← q1]
      exact hu _ (by rw [← e]; exact hb)
    · exact seg_again rfl (ih (i + 1) s' s' (by omega) lt (fun _ _ => rfl) ((ivOk (n := n) G T).nap _ _ _ iv5 z))
end
end GG

set_option Elab.async false
set_option linter.all false
set_option maxRecDepth 100000
set_option maxHeartbeats 4000000
/-! .. a generator's frame is made. -/
namespace GG
open PySem PySem.Spec PyProof.Rows L2 DL GenW QG
/-- the context of a generator's frame at C, made where H, s stood -/
def gxOf (X : Cx) (A : Around) (N : List Str) (s : Shared) (H : Hp) (scope : Scope) (C : Addr) (code : Value) (ex : List Addr) (pn : List (Addr × Obj)) : Cx where
  prog := X.prog
  w := X.w
  K := X.K
  mg := X.mg
  base := X.base
  A := A
  N := N
  s_0 := s
  H_0 := H
  env := genEnv scope (cloFrom X.env.cells scope.names []) C code builtinsNs X.env
  outer := X.stack
  stack := genEnv scope (cloFrom X.env.cells scope.names []) C code builtinsNs X.env :: X.stack
  ex := ex
  fn := fun _ => false
  calm := true
  pn := pn
  xe := fun _ _ => False
/-- the slots of a generator's frame: own targets, what it captures -/
def capS (σ : L2.St) (m : Nat) (fv : List (Str × Nat)) : L2.St := List.replicate m none ++ fv.map fun p => (σ[p.2]?).join
/-- the scope of a generator expression: its targets, what it captures -/
structure GSc (X : Cx) (scope : Scope) (own : List Str) (fv : List (Str × Nat)) : Prop where
  kind : scope.kind = .function
  co : scope.isCoroutine = false
  cell : ∀ y ∈ scope.names, y.2 ≠ .cell
  dot : scope.names.lookup (".0" : Str) = some NameKind.local
  free : ∀ y ∈ scope.names, y.2 = .free → ∃ c, X.env.cells.lookup y.1 = some c
  loc : ∀ x ∈ own, scope.names.lookup x = some .local
  fv : FvS X scope fv
def genObj (g : Nat) (q : Str) (t : Nat) : Obj := { cls := .type "generator", data := .fields #[.int g 0, .str "<genexpr>" (t + 1), .str q (t + 1 + 1)] }
section
variable {X : Cx} {pins : List (Addr × Obj)} {σ : L2.St} {H : Hp} {s : Shared} {scope : Scope} {own : List Str} {fv : List (Str × Nat)} {fp : List Addr}
theorem around_gen {A : Around} {env : Env} {outer : List Env} {elt tg iter : Expr} {scope : Scope} {gpos : Pos} {it : Addr} (h : A.frames = some outer) : (A.in1.in1.over (loopC elt tg iter scope gpos it env) []).frames = some (env :: outer) := by
  show A.frames.map _ = _
  rw [h]
  rfl
theorem room_gen {A : Around} {k : Nat} {env : Env} {elt tg iter : Expr} {scope : Scope} {gpos : Pos} {it : Addr} (r : Room (k + 1) A) : Room k (A.in1.in1.over (loopC elt tg iter scope gpos it env) []) :=
  ⟨r.hd, by have := r.dp; show A.depth + 1 + 3 * k + 5 < _; omega, by have := r.un; show A.units + 1 + 1 + 3 + 16 * k + 200 < _; omega⟩
theorem inv_gen {A : Around} {code : Value} {h5 : Heap} {q : Str} {G : Array GenState} {t5 it : Nat} {m5 : Str → Option Value} (hd : A.handled = none) (hf : A.frames = some (genEnv scope (cloFrom X.env.cells scope.names []) s.heap.objs.size code builtinsNs X.env :: X.stack)) (S : GSc X scope own fv) (I : Inv X pins σ H s) (hfp : ∀ b ∈ fp, FpOk X pins H b ∧ b < s.heap.objs.size)
    (hn : h5.Ns s.heap.objs.size m5) (up : ∀ b o, s.heap.get? b = some o → h5.get? b = some o) {a g : Addr} {t : Nat} (ha : s.heap.objs.size < a) (hg : h5.get? a = some (genObj g q t)) (hG : AllBare G) :
    Inv (gxOf X A (own ++ fv.map (·.1)) s H scope s.heap.objs.size code fp [(a, genObj g q t)]) [] (capS σ own.length fv) H { s with heap := h5, gens := G, toks := t5 } := by
  have cm : ∀ {x : Str} {c : Addr}, (cloFrom X.env.cells scope.names []).lookup x = some c → X.env.cells.lookup x = some c := fun e => NdefX.clo_cm S.free e
  have nst : ∀ b, s.heap.objs.size ≤ b → b ∉ frs X.stack := fun b hb z => by
    rcases List.mem_cons.mp (I.stkSub b z) with e | e
    · rw [e] at hb
      exact absurd (Nat.lt_of_lt_of_le I.lt hb) (Nat.lt_irrefl _)
    · exact I.nofs hb e
  refine ⟨⟨I.ok.mod, S.kind, I.ok.glob, rfl, Nat.le_refl _, fun x y c h1 h2 => I.ok.inj x y c (cm h1) (cm h2), fun x hx => ?_, (fun x c h => by cases h), fun _ => hd, hf, .inr ⟨rfl, rfl⟩, fun b hb => ?_, I.bs, Nat.le_trans I.ok.bsz I.sz, fun b o e hb => ?_, fun b hb z => ?_, I.env0.funs, I.env0.frf⟩, rfl, hG, Un.kept up, ⟨m5, hn, fun i x v h1 h2 h3 => ?_⟩, fun x c e => ?_, I.hok.fresh (Nat.le_refl _), fun x c e => I.freeC x c (cm e), fun p hp => ?_, I.hok.kept up, ?_⟩
  · have hx' : scope.names.lookup x = some .cell ∨ scope.names.lookup x = some .free := hx
    rcases hx' with e | e
    · exact absurd rfl (S.cell _ (PySem.mem_of_lookup e))
    · obtain ⟨c, hc⟩ := S.free _ (PySem.mem_of_lookup e) rfl
      exact ⟨c, NdefX.clo_has S.free (PySem.mem_of_lookup e) hc⟩
  · obtain ⟨⟨_, _, _, _, h5, _⟩, lt⟩ := hfp b hb
    exact ⟨Nat.ne_of_lt lt, fun x c e => h5 x c (cm e)⟩
  · obtain ⟨⟨_, _, _, h4, _⟩, _⟩ := hfp b hb
    rcases h4 with z | z
    · exact I.ok.noex b o e z
    · exact absurd (Nat.lt_of_lt_of_le (Heap.lt_size e) (Nat.le_trans I.ok.bsz z)) (Nat.lt_irrefl _)
  · obtain ⟨⟨_, h2, h3, _⟩, _⟩ := hfp b hb
    rcases List.mem_cons.mp (I.stkSub b z) with e | e
    · exact h2 e
    · exact h3 e
  · have h1' : (own ++ fv.map (·.1))[i]? = some x := h1
    unfold capS at h2
    by_cases hi : i < own.length
    · rw [List.getElem?_append_left (by simpa using hi), List.getElem?_replicate, if_pos hi] at h2
      cases h2
    · rw [List.getElem?_append_right (by simpa using hi), List.length_replicate, List.getElem?_map] at h2
      rw [List.getElem?_append_right (by omega), List.getElem?_map] at h1'
      cases e : fv[i - own.length]? with
      | none => rw [e] at h2; cases h2
      | some p =>
        rw [e] at h2 h1'
        have e1 : p.1 = x := Option.some.inj h1'
        have e2 : (σ[p.2]?).join = some v := Option.some.inj h2
        have e3 : σ[p.2]? = some (some v) := by
          cases y : σ[p.2]? with
          | none => rw [y] at e2; cases e2
          | some z => rw [y] at e2; rw [show z = some v from e2]
        have hp := List.mem_of_getElem? e
        have ow := S.fv.own p hp
        obtain ⟨m, _, lk⟩ := I.loc
        obtain ⟨u, r, l⟩ := lk p.2 p.1 v (S.fv.at_ p hp) e3 (.inr ow)
        have ow' : X.env.kindOf p.1 = some .cell ∨ X.env.kindOf p.1 = some .free := ow
        rcases l with ⟨z, _⟩ | ⟨_, c, hc, ⟨o, ho, hd2⟩⟩
        · rw [z] at ow'
          rcases ow' with y | y <;> cases y
        · refine ⟨u, r, .inr ⟨.inr ?_, c, ?_, o, up c o ho, hd2⟩⟩
          · rw [← e1]; exact S.fv.knd p hp
          · rw [← e1]; exact NdefX.clo_has S.free (S.fv.mem p hp) hc
  · obtain ⟨v, o, ho, hd2⟩ := I.cell x c (cm e)
    exact ⟨v, o, up c o ho, hd2⟩
  · have hp' : p ∈ [(a, genObj g q t)] ++ [] := hp
    rw [List.append_nil, List.mem_singleton] at hp'
    subst hp'
    exact ⟨hg, I.hok.fresh (Nat.le_of_lt ha), Nat.ne_of_gt ha, nst a (Nat.le_of_lt ha), (fun v e => nomatch e)⟩
  · show (capS σ own.length fv).length = (own ++ fv.map (·.1)).length
    unfold capS
    simp
end
end GG

set_option Elab.async false
set_option linter.all false
set_option maxRecDepth 100000
set_option maxHeartbeats 4000000
/-! .. a generator expression is made, and walked by all, any. -/
namespace GG
open PySem PySem.Spec PyProof.Rows L2 DL GenW QG
/-- behind the iterator: W tells the turns of a generator's frame, QE what is wanted wherever its walk may end -/
structure GRd (P : Addr) (m : Nat) (fv : List (Str × Nat)) (σ : L2.St) (gt : TG) (te : TE) (J : It) (H1 : Hp) (n : Nat) (F : Nat → Value → Prop) (QE : Hp → Prop) : Prop where
  ex : ∃ W : Nat → L2.St → Hp → Prop, TabG H1 P ∧ Turns J n gt te F W ∧ (∀ H2, GxR.Tabbed P H1 H2 → W 0 (capS σ m fv) H2) ∧ ∀ i σ' H', i ≤ n → W i σ' H' → QE H'
/-- a generator at a that nobody has asked yet -/
def Made (X : Cx) (pins : List (Addr × Obj)) (σ : L2.St) (n : Nat) (F : Nat → Value → Prop) (QE : Hp → Prop) (a : Addr) (s5 : Shared) : Prop :=
  ∃ g, s5.heap.IsGen a g ∧ AllBare s5.gens ∧ ∀ (zs : List Addr) (s6 : Shared), (∀ b ∈ zs, s5.heap.objs.size ≤ b ∧ ∃ o, s6.heap.get? b = some o ∧ ∀ v, o.data ≠ .cell v) → (∀ b o, s5.heap.get? b = some o → s6.heap.get? b = some o) → s6.os = s5.os → AllBare s6.gens → s6.gens[g]? = s5.gens[g]? →
    ∃ IV IE, IvOk zs a g n IV IE ∧ GSt X.prog X.w X.A.in1 zs g n F IV IE 0 s6 ∧ ∀ s', IE s' → ∃ H', Inv X pins σ H' s' ∧ QE H'
section
variable {X : Cx} {pins : List (Addr × Obj)} {σ : L2.St} {H : Hp} {s : Shared} {scope : Scope} {own : List Str} {fv : List (Str × Nat)} {elt tg iter : Expr} {gpos : Pos} {c P : Addr} {wi : TI} {gt : TG} {te : TE} {k : Nat}
theorem made_by {J : It} {fp : List Addr} {it : Addr} {tn : Nat → Heap → Prop} {H3 : Hp} {s3 : Shared} {code : Value} {n : Nat} {F : Nat → Value → Prop} {QE : Hp → Prop} (hr : Room (k + 1) X.A) (S : GSc X scope own fv)
    (hpg : ∀ (A : Around) (s : Shared) (H : Hp) (C : Addr) (code : Value) (ex : List Addr) (pn : List (Addr × Obj)), Room k A → PG (gxOf X A (own ++ fv.map (·.1)) s H scope C code ex pn) tg gt)
    (hpe : ∀ (A : Around) (s : Shared) (H : Hp) (C : Addr) (code : Value) (ex : List Addr) (pn : List (Addr × Obj)), Room k A → PE (gxOf X A (own ++ fv.map (·.1)) s H scope C code ex pn) elt te)
    (I3 : Inv X pins σ H3 s3) (T : Turn X.prog X.w X.K tg J fp it tn) (t3 : tn 0 s3.heap) (f3 : ∀ b ∈ fp, FpOk X pins H3 b) (W : Nat → L2.St → Hp → Prop) (tt : Turns J n gt te F W) (w0 : W 0 (capS σ own.length fv) H3) (wE : ∀ i σ' H', i ≤ n → W i σ' H' → QE H')
    {h' : Heap} {q : Str} (hn' : h'.Ns s3.heap.objs.size (fun y => if y = ".0" then some (.ref it) else none)) (hs' : Heap.SameBut s3.heap.objs.size (s3.heap.push { cls := .type "frame", data := .dict #[] }) h') :
    Made X pins σ n F QE h'.objs.size { s3 with
      gens := s3.gens.push (.fresh (startC elt tg iter scope gpos it (genEnv scope (cloFrom X.env.cells scope.names []) s3.heap.objs.size code builtinsNs X.env)))
      toks := s3.toks + 1 + 1 + 1
      heap := h'.push (genObj s3.gens.size q s3.toks) } := by
  have hsz : h'.objs.size = s3.heap.objs.size + 1 := by rw [hs'.1, Heap.size_push]
  have up : ∀ b o, s3.heap.get? b = some o → (h'.push (genObj s3.gens.size q s3.toks)).get? b = some o := fun b o e => Heap.get?_push_of_some _ (hs'.extBut b o (Nat.ne_of_lt (Heap.lt_size e)) (Heap.get?_push_of_some _ e))
  have fl : ∀ b ∈ fp, FpOk X pins H3 b ∧ b < s3.heap.objs.size := fun b hb => ⟨f3 b hb, let ⟨o, e, _⟩ := T.obj _ _ t3 b hb; Heap.lt_size e⟩
  have ga : (h'.push (genObj s3.gens.size q s3.toks)).get? h'.objs.size = some (genObj s3.gens.size q s3.toks) := Heap.get?_push_size _ rfl
  have bp : AllBare (s3.gens.push (.fresh (startC elt tg iter scope gpos it (genEnv scope (cloFrom X.env.cells scope.names []) s3.heap.objs.size code builtinsNs X.env)))) := I3.bare.push rfl
  have alt : s3.heap.objs.size < h'.objs.size := by rw [hsz]; exact Nat.lt_succ_self _
  refine ⟨s3.gens.size, ⟨_, _, _, ga, rfl, rfl, rfl⟩, bp, fun zs s6 hz k6 o6 b6 g6 => ?_⟩
  have A5 := around_gen (elt := elt) (tg := tg) (iter := iter) (scope := scope) (gpos := gpos) (it := it) (env := genEnv scope (cloFrom X.env.cells scope.names []) s3.heap.objs.size code builtinsNs X.env) I3.env0.frames
  have I5 := inv_gen (A := X.A.in1.in1.over (loopC elt tg iter scope gpos it (genEnv scope (cloFrom X.env.cells scope.names []) s3.heap.objs.size code builtinsNs X.env)) []) (code := code) (t5 := s3.toks + 1 + 1 + 1) (it := it) (g := s3.gens.size) (q := q) (t := s3.toks) (a := h'.objs.size) hr.hd A5 S I3 fl (hn'.push _) up alt ga bp
  have RG := room_gen (elt := elt) (tg := tg) (iter := iter) (scope := scope) (gpos := gpos) (it := it) (env := genEnv scope (cloFrom X.env.cells scope.names []) s3.heap.objs.size code builtinsNs X.env) hr
  have pg := hpg (X.A.in1.in1.over (loopC elt tg iter scope gpos it (genEnv scope (cloFrom X.env.cells scope.names []) s3.heap.objs.size code builtinsNs X.env)) []) s3 H3 s3.heap.objs.size code fp [(h'.objs.size, genObj s3.gens.size q s3.toks)] RG
  have pe := hpe (X.A.in1.in1.over (loopC elt tg iter scope gpos it (genEnv scope (cloFrom X.env.cells scope.names []) s3.heap.objs.size code builtinsNs X.env)) []) s3 H3 s3.heap.objs.size code fp [(h'.objs.size, genObj s3.gens.size q s3.toks)] RG
  generalize hXg : gxOf X (X.A.in1.in1.over (loopC elt tg iter scope gpos it (genEnv scope (cloFrom X.env.cells scope.names []) s3.heap.objs.size code builtinsNs X.env)) []) (own ++ fv.map (·.1)) s3 H3 scope s3.heap.objs.size code fp [(h'.objs.size, genObj s3.gens.size q s3.toks)] = Xg at I5 pg pe
  have s5z : (h'.push (genObj s3.gens.size q s3.toks)).objs.size = h'.objs.size + 1 := Heap.size_push ..
  have cl : ∀ x c, Xg.env.cells.lookup x = some c → X.env.cells.lookup x = some c := fun x c e => by subst hXg; exact NdefX.clo_cm S.free e
  have cz : ∀ x c, Xg.env.cells.lookup x = some c → c < s3.heap.objs.size := fun x c e => by
    obtain ⟨v, o, ho, _⟩ := I3.cell x c (cl x c e)
    exact Heap.lt_size ho
  have zge : ∀ b ∈ zs, h'.objs.size + 1 ≤ b := fun b hb => by
    have := (hz b hb).1
    rw [← s5z]
    exact this
  have G : Gx Xg zs fp h'.objs.size s3.gens.size := {
    fp := fun b hb => by
      obtain ⟨⟨h1, h2, h3, h4, h5, h6⟩, lt⟩ := fl b hb
      refine ⟨?_, ?_, ?_, fun x c e => h5 x c (cl x c e), fun p hp => ?_, fun z => ?_⟩
      · subst hXg; exact Nat.ne_of_lt lt
      · subst hXg
        intro z
        rcases List.mem_cons.mp (I3.stkSub b z) with e | e
        · exact h2 e
        · exact h3 e
      · subst hXg; exact hb
      · subst hXg
        have hp' : p ∈ [(h'.objs.size, genObj s3.gens.size q s3.toks)] := hp
        rw [List.mem_singleton] at hp'
        subst hp'
        exact Nat.ne_of_gt (Nat.lt_trans lt alt)
      · exact absurd (Nat.lt_trans (Nat.lt_of_lt_of_le (Nat.lt_succ_self _) (zge b z)) (Nat.lt_trans lt alt)) (Nat.lt_irrefl _)
    zs := fun b hb => by
      have q1 := zge b hb
      have q2 : s3.heap.objs.size < b := Nat.lt_trans alt (Nat.lt_of_lt_of_le (Nat.lt_succ_self _) q1)
      refine ⟨?_, fun x c e => ?_, fun p hp => ?_⟩
      · subst hXg; exact Nat.le_of_lt q2
      · exact Nat.ne_of_lt (Nat.lt_trans (cz x c e) q2)
      · subst hXg
        have hp' : p ∈ [(h'.objs.size, genObj s3.gens.size q s3.toks)] := hp
        rw [List.mem_singleton] at hp'
        subst hp'
        exact Nat.ne_of_lt (Nat.lt_of_lt_of_le (Nat.lt_succ_self _) q1)
    gen := fun ps σ' H' s' J' => by
      have := (J'.pin (h'.objs.size, genObj s3.gens.size q s3.toks) (List.mem_append_left _ (by subst hXg; exact List.mem_singleton.mpr rfl))).1
      exact ⟨_, _, _, this, rfl, rfl, rfl⟩
    calm := by subst hXg; rfl
    co := by subst hXg; exact S.co }
  have T' : Turn Xg.prog Xg.w Xg.K tg J fp it tn := by subst hXg; exact T
  refine ⟨IVg Xg zs fp tn W, IEg Xg zs n W, ivOk G T', ?_, fun s' h => ?_⟩
  · obtain ⟨p0, e0, I6⟩ := inv_nap (zs := []) I5 rfl (fun b hb => by cases hb) (s' := s6) ⟨o6, b6, fun b o _ e => k6 b o e, fun b hb => by cases hb⟩
    have I6' : Inv Xg [] (capS σ own.length fv) H3 s6 := I6.pins_of fun p hp => by cases hp
    have mk : ∀ ys : List Addr, (∀ b ∈ ys, b ∈ zs) → ∃ ps : List (Addr × Obj), ps.map (·.1) = ys ∧ ∀ p ∈ ps, p.1 ∈ zs ∧ s6.heap.get? p.1 = some p.2 ∧ ∀ v, p.2.data ≠ .cell v := by
      intro ys
      induction ys with
      | nil => exact fun _ => ⟨[], rfl, fun p hp => by cases hp⟩
      | cons y ys ih =>
        intro hy
        obtain ⟨_, o, e1, e2⟩ := hz y (hy y List.mem_cons_self)
        obtain ⟨ps, e3, e4⟩ := ih fun b hb => hy b (List.mem_cons_of_mem _ hb)
        refine ⟨(y, o) :: ps, by rw [List.map_cons, e3], fun p hp => ?_⟩
        rcases List.mem_cons.mp hp with rfl | hp
        · exact ⟨hy y List.mem_cons_self, e1, e2⟩
        · exact e4 p hp
    obtain ⟨ps, e1, e2⟩ := mk zs fun _ h => h
    have I7 : Inv Xg ps (capS σ own.length fv) H3 s6 := I6'.pins_of fun p hp => by
      obtain ⟨h1, h2, h3⟩ := e2 p hp
      have q1 := zge _ h1
      have q2 : s3.heap.objs.size < p.1 := Nat.lt_trans alt (Nat.lt_of_lt_of_le (Nat.lt_succ_self _) q1)
      refine ⟨h2, I3.hok.fresh (Nat.le_of_lt q2), ?_, ?_, h3⟩
      · subst hXg; exact Nat.ne_of_gt q2
      · subst hXg
        intro z
        rcases List.mem_cons.mp (I3.stkSub p.1 z) with e | e
        · rw [e] at q2
          exact absurd (Nat.lt_trans I3.lt q2) (Nat.lt_irrefl _)
        · exact I3.nofs (Nat.le_of_lt q2) e
    have iv : IVg Xg zs fp tn W 0 s6 := ⟨ps, _, H3, e1, I7, fun b hb => (fl b hb).1.1, T.keep _ _ _ t3 fun b hb o e => k6 b o (up b o e), w0⟩
    refine ⟨iv, .fresh (startC elt tg iter scope gpos it (genEnv scope (cloFrom X.env.cells scope.names []) s3.heap.objs.size code builtinsNs X.env)), g6.trans (Array.getElem?_push_size ..), fun s' z => ⟨rfl, ?_⟩⟩
    have iv' := (ivOk (n := n) G T').nap _ _ _ iv z
    have loop := turns_seg (A := X.A.in1.in1) (iter := iter) (scope := scope) (gpos := gpos) (F := F) G T' (by subst hXg; rfl) (by subst hXg; rfl) pg pe tt n 0 s' s' (Nat.sub_zero _) (Nat.zero_le _) (fun _ _ => rfl) iv'
    have t' : tn 0 s'.heap := by obtain ⟨_, _, _, _, _, _, t, _⟩ := iv'; exact t
    have envq : Xg.env = genEnv scope (cloFrom X.env.cells scope.names []) s3.heap.objs.size code builtinsNs X.env := by subst hXg; rfl
    have mq : model Xg.prog Xg.w = model X.prog X.w := by subst hXg; rfl
    rw [envq, mq] at loop
    show Seg _ _ _ _ _ s' _ ((compStart (.GeneratorExp elt [⟨tg, iter, [], 0⟩] scope gpos) 0 (.ref it) .none (genEnv scope (cloFrom X.env.cells scope.names []) s3.heap.objs.size code builtinsNs X.env)).onRaise (leaving _)) [] s'
    unfold compStart
    rw [Sem.onRaise_eq_wrap]
    show Seg _ _ _ _ _ s' _ ((ask >>= _).wrap _ _ _ _) [] s'
    refine seg_bind_wrap (wpAny_askSetting ?_)
    split
    · exact seg_again rfl loop
    · first
        | exact seg_bind_wrap (wpAny_rule (seg_bind_wrap (wpAny_standAt (seg_bind_wrap (T.self _ 0 s' _ _ t' (seg_again rfl loop))))))
        | (refine seg_bind_wrap (wpAny_rule ?_)
           show Seg _ _ _ _ _ s' _ ((standAt iter.pos >>= _).wrap _ _ _ _) [] s'
           exact seg_bind_wrap (wpAny_standAt (seg_bind_wrap (T.self _ 0 s' _ _ t' (seg_again rfl loop)))))
  · obtain ⟨ps, σ', H', i, hi, _, J', w'⟩ := h
    refine ⟨H', ?_, wE i σ' H' hi w'⟩
    subst hXg
    exact I3.call' (ch := fp) J'.os J'.base J'.hok J'.bare fun b hb => by
      obtain ⟨h1, h2, h3, h4, h5, h6⟩ := f3 b hb
      exact ⟨h4, h2, h5, h6⟩
end
end GG

set_option Elab.async false
set_option linter.all false
set_option maxRecDepth 100000
set_option maxHeartbeats 4000000
/-! .. all(..), any(..), sum(..) of generator expressions. -/
namespace GG
open PySem PySem.Spec PyProof.Rows L2 DL GenW QG
section
variable {X : Cx} {pins : List (Addr × Obj)} {σ : L2.St} {H : Hp} {s : Shared} {scope : Scope} {own : List Str} {fv : List (Str × Nat)} {elt tg iter : Expr} {gpos : Pos} {c P : Addr} {wi : TI} {gt : TG} {te : TE} {k : Nat}
theorem gen_run {R : Nat → (Nat → Value → Prop) → (Hp → Prop) → Prop} {Q' : Value → Shared → Prop} (hr : Room (k + 1) X.A) (TB : GxR.TabB X.base X.mg c P) (hcode : X.env.code = .ref c) (S : GSc X scope own fv) (hi : PI X tg iter wi)
    (hpg : ∀ (A : Around) (s : Shared) (H : Hp) (C : Addr) (code : Value) (ex : List Addr) (pn : List (Addr × Obj)), Room k A → PG (gxOf X A (own ++ fv.map (·.1)) s H scope C code ex pn) tg gt)
    (hpe : ∀ (A : Around) (s : Shared) (H : Hp) (C : Addr) (code : Value) (ex : List Addr) (pn : List (Addr × Obj)), Room k A → PE (gxOf X A (own ++ fv.map (·.1)) s H scope C code ex pn) elt te)
    (hs : ∀ v, genFold iter X.env v = pure v) (I : Inv X pins σ H s) (h : wi σ H fun J H1 => ∃ n F QE, GRd P own.length fv σ gt te J H1 n F QE ∧ R n F QE)
    (hQ : ∀ n F QE a s5, R n F QE → Made X pins σ n F QE a s5 → Q' (.ref a) s5) : wpAny (model X.prog X.w) X.A (eval (.GeneratorExp elt [⟨tg, iter, [], 0⟩] scope gpos) X.env) Q' X.xe s := by
  refine wpAny_GeneratorExp_make S.co (closure_ok S.free) S.cell S.dot S.kind (by have := hr.dp; omega) ?_ hs
  refine wpAny_mono (hi.run pins s σ H _ I h) (fun xv s1 z => wpAny_mono z (fun itv s2 z2 => ?_) fun _ _ e => e) fun _ _ e => e
  obtain ⟨it, fp, tn, J, H2, rfl, I2, T, t2, f2, n, F, QE, ⟨W, tg2, tt, w0, wE⟩, hR⟩ := z2
  obtain ⟨ps, hP, ht, hPs⟩ := tab_at I2 tg2
  have cd : PySem.W.CodeHd s2.heap c P := TB.code.keeps I2.bk
  have go : ∀ (code : Value) (s3 : Shared) (H3 : Hp), Inv X pins σ H3 s3 → GxR.Tabbed P H2 H3 → (∀ b o, b ≠ P → s2.heap.get? b = some o → s3.heap.get? b = some o) → wpAny (model X.prog X.w) X.A (builtinsFor X.env.globals X.env.builtins) (fun bi s4 => ∀ h', h'.Ns s4.heap.objs.size (fun y => if y = ".0" then some (.ref it) else none) → Heap.SameBut s4.heap.objs.size (s4.heap.push { cls := .type "frame", data := .dict #[] }) h' →
      Q' (.ref h'.objs.size) { s4 with
        gens := s4.gens.push (.fresh (.compStart (.GeneratorExp elt [⟨tg, iter, [], 0⟩] scope gpos) 0 (.ref it) .none (genEnv scope (cloFrom X.env.cells scope.names []) s4.heap.objs.size code bi X.env)))
        toks := s4.toks + 1 + 1 + 1
        heap := h'.push { cls := .type "generator", data := .fields #[.int s4.gens.size 0, .str "<genexpr>" (s4.toks + 1), .str (X.env.qual ++ "<genexpr>") (s4.toks + 1 + 1)] } }) X.xe s3 := by
    intro code s3 H3 I3 tb up
    have nP : ∀ b, H2 b = none → b ≠ P := fun b e z => by rw [z, hP] at e; cases e
    have t3 : tn 0 s3.heap := T.keep _ _ _ t2 fun b hb o e => up b o (nP b (f2 b hb).1) e
    have f3 : ∀ b ∈ fp, FpOk X pins H3 b := fun b hb => ⟨by rw [tb.2 b (nP b (f2 b hb).1)]; exact (f2 b hb).1, (f2 b hb).2⟩
    obtain ⟨bm, ob, e1, e2, e3, e4, e5, e6, e7, e8⟩ := TB.bm
    refine wpAny_builtinsFor (m := X.mg) (by rw [I3.ok.glob]; exact I3.mod.glob.keeps I3.bk) e1 e2 (I3.bk _ _ e5) e6 e7 e8 ?_
    intro h' hn' hs'
    exact hQ n F QE _ _ hR (made_by hr S hpg hpe I3 T t3 f3 W tt (w0 H3 tb) wE hn' hs')
  refine ⟨I2.nolimit, ?_⟩
  cases hf : codeAmong gpos ps.toList with
  | none =>
    refine wpAny_genexprCodeX hcode (cd.code hPs ht) (cd.tab hPs) hf fun c' h' tk hx hge hlt hco' _ htab' _ => ?_
    obtain ⟨_, _, _, _, _, _, _, _, _, _, _, _, _, _, _, _, _, _, _, htr, _⟩ := hco'
    have J2 := GxR.inv_tab (h' := h') (g' := s2.gens) (d' := s2.drawn) (t' := tk) I2 hP (fun b o hb e => hx b o hb e) htab'.2 I2.bare
    exact go _ _ _ J2 ⟨⟨_, upd_same, htr⟩, fun b hb => upd_ne hb⟩ fun b o hb e => hx b o hb e
  | some cv => exact wpAny_genexprCode_hit hcode (cd.code hPs ht) hf (go cv s2 H2 I2 ⟨tg2, fun _ _ => rfl⟩ fun _ _ _ e => e)
/-- all(e for t in it), any, sum -/
def tAllG (P : Addr) (m : Nat) (fv : List (Str × Nat)) (wi : TI) (gt : TG) (te : TE) : TE := fun σ H Q => wi σ H fun J H1 => ∃ n F QE, GRd P m fv σ gt te J H1 n F QE ∧ ∃ tr : Nat → Bool, (∀ j v, F j v → v = .bool (tr j)) ∧ ∀ H', QE H' → Q (.bl ((List.range n).all tr)) H'
def tAnyG (P : Addr) (m : Nat) (fv : List (Str × Nat)) (wi : TI) (gt : TG) (te : TE) : TE := fun σ H Q => wi σ H fun J H1 => ∃ n F QE, GRd P m fv σ gt te J H1 n F QE ∧ ∃ tr : Nat → Bool, (∀ j v, F j v → v = .bool (tr j)) ∧ ∀ H', QE H' → Q (.bl ((List.range n).any tr)) H'
variable {p pos : Pos}
theorem pe_allG (hr : Room (k + 1) X.A) (hg : Gl X "all") (hm : X.mg "all" = none) (TB : GxR.TabB X.base X.mg c P) (hcode : X.env.code = .ref c) (S : GSc X scope own fv) (hi : PI X tg iter wi)
    (hpg : ∀ (A : Around) (s : Shared) (H : Hp) (C : Addr) (code : Value) (ex : List Addr) (pn : List (Addr × Obj)), Room k A → PG (gxOf X A (own ++ fv.map (·.1)) s H scope C code ex pn) tg gt)
    (hpe : ∀ (A : Around) (s : Shared) (H : Hp) (C : Addr) (code : Value) (ex : List Addr) (pn : List (Addr × Obj)), Room k A → PE (gxOf X A (own ++ fv.map (·.1)) s H scope C code ex pn) elt te)
    (hs : ∀ v, genFold iter X.env v = pure v)
    (he : starEach [.GeneratorExp elt [⟨tg, iter, [], 0⟩] scope gpos] X.env = (false, eval (.GeneratorExp elt [⟨tg, iter, [], 0⟩] scope gpos) X.env) :: starEach [] X.env := by rfl) :
    PE X (.Call (.Name "all" p) [.GeneratorExp elt [⟨tg, iter, [], 0⟩] scope gpos] [] pos) (tAllG P own.length fv wi gt te) := by
  refine ⟨fun pins s σ H Q I h => wpAny_Call_Name_kw (ld_blt I hg hm (by decide +kernel : bootBuiltins "all" = some (.builtin "all")) (PyProof.Rows.callWith_builtin1 ?_ he (by rfl)))⟩
  rw [he]
  refine Calls.spliced_cons (gen_run (R := fun n F QE => ∃ tr : Nat → Bool, (∀ j v, F j v → v = .bool (tr j)) ∧ ∀ H', QE H' → Q (.bl ((List.range n).all tr)) H') hr TB hcode S hi hpg hpe hs I h fun n F QE a s5 hR md => Calls.spliced_nil ?_)
  obtain ⟨tr, hF, hq⟩ := hR
  obtain ⟨g, isg, bare, md⟩ := md
  obtain ⟨IV, IE, ok, st, fin⟩ := md [] s5 (fun b hb => by cases hb) (fun _ _ e => e) rfl bare rfl
  refine all_call (wpAny_pyIter_gen isg ⟨a, g, n, F, IV, IE, tr, rfl, hr.hd, by have := hr.dp; omega, ok, hF, st, fun s' h' => ?_⟩)
  obtain ⟨H', J, q⟩ := fin s' h'
  exact ⟨.bl _, H', J, rfl, hq H' q⟩
theorem pe_anyG (hr : Room (k + 1) X.A) (hg : Gl X "any") (hm : X.mg "any" = none) (TB : GxR.TabB X.base X.mg c P) (hcode : X.env.code = .ref c) (S : GSc X scope own fv) (hi : PI X tg iter wi)
    (hpg : ∀ (A : Around) (s : Shared) (H : Hp) (C : Addr) (code : Value) (ex : List Addr) (pn : List (Addr × Obj)), Room k A → PG (gxOf X A (own ++ fv.map (·.1)) s H scope C code ex pn) tg gt)
    (hpe : ∀ (A : Around) (s : Shared) (H : Hp) (C : Addr) (code : Value) (ex : List Addr) (pn : List (Addr × Obj)), Room k A → PE (gxOf X A (own ++ fv.map (·.1)) s H scope C code ex pn) elt te)
    (hs : ∀ v, genFold iter X.env v = pure v)
    (he : starEach [.GeneratorExp elt [⟨tg, iter, [], 0⟩] scope gpos] X.env = (false, eval (.GeneratorExp elt [⟨tg, iter, [], 0⟩] scope gpos) X.env) :: starEach [] X.env := by rfl) :
    PE X (.Call (.Name "any" p) [.GeneratorExp elt [⟨tg, iter, [], 0⟩] scope gpos] [] pos) (tAnyG P own.length fv wi gt te) := by
  refine ⟨fun pins s σ H Q I h => wpAny_Call_Name_kw (ld_blt I hg hm (by decide +kernel : bootBuiltins "any" = some (.builtin "any")) (PyProof.Rows.callWith_builtin1 ?_ he (by rfl)))⟩
  rw [he]
  refine Calls.spliced_cons (gen_run (R := fun n F QE => ∃ tr : Nat → Bool, (∀ j v, F j v → v = .bool (tr j)) ∧ ∀ H', QE H' → Q (.bl ((List.range n).any tr)) H') hr TB hcode S hi hpg hpe hs I h fun n F QE a s5 hR md => Calls.spliced_nil ?_)
  obtain ⟨tr, hF, hq⟩ := hR
  obtain ⟨g, isg, bare, md⟩ := md
  obtain ⟨IV, IE, ok, st, fin⟩ := md [] s5 (fun b hb => by cases hb) (fun _ _ e => e) rfl bare rfl
  refine any_call (wpAny_pyIter_gen isg ⟨a, g, n, F, IV, IE, tr, rfl, hr.hd, by have := hr.dp; omega, ok, hF, st, fun s' h' => ?_⟩)
  obtain ⟨H', J, q⟩ := fin s' h'
  exact ⟨.bl _, H', J, rfl, hq H' q⟩
end
/-! ### sum -/
section
variable {prog : Program} {w : World} {A : Around} {E : Value → Shared → Prop} {a : Addr} {g n : Nat} {F : Nat → Value → Prop} {IV : Nat → Shared → Prop} {IE : Shared → Prop}
abbrev accObj (u : Int) (t : Tok) (c : Nat) : Obj := { cls := .type "list", dict := none, data := .seq #[.int u t] c, slots := #[] }
theorem nap_acc {s s' : Shared} {S : Addr} {u : Int} {t : Tok} {c : Nat} (hb : AllBare s.gens) (e1 : s'.gens = s.gens) (e2 : s'.os = s.os) (k : ∀ b o, b ≠ S → s.heap.get? b = some o → s'.heap.get? b = some o) (h : s'.heap.get? S = some (accObj u t c)) : Nap [S] s s' :=
  ⟨e2, by rw [e1]; exact hb, fun b o hn e => k b o (fun z => hn (by rw [z]; exact List.mem_singleton.mpr rfl)) e, fun b hb => by rw [List.mem_singleton.mp hb]; exact ⟨_, h, fun v e => nomatch e⟩⟩
theorem sum_go (hh : A.handled = none) (hroom : A.depth < recursionLimit) (S : Addr) (ok : IvOk [S] a g n IV IE) (val : Nat → Int) (hF : ∀ j v, F j v → ∃ t, v = .int (val j) t) {R : Result → Shared → Prop} : ∀ (k j : Nat) (s : Shared) (tA : Tok) (c : Nat) (st : Int), (st = 0 ∨ st = 2) → n - j = k → j ≤ n → GSt prog w A.in1 [S] g n F IV IE j s →
    s.heap.get? S = some (accObj (preSum val j) tA c) → (∀ s' t', IE s' → R (.ok (.ret (.int (preSum val n) t'))) s') → codeAny (model prog w) A (.builtin "sum.loop" ⟨[.ref a, .ref S, rawInt st, rawInt 0], []⟩) R s := by
  intro k
  induction k with
  | zero =>
    intro j s tA c st _ hk hj gst hS hR
    obtain rfl : j = n := by omega
    refine codeAny_builtin PySem.F.entry_sum_loop ?_
    rw [Around.under_plainId PySem.F.plain_sum_loop _]
    refine wpAny_bind (m := seqItems? (.ref S)) (wpAny_seqItems hS rfl ?_)
    refine wpAny_bind (m := tryCatch (pyNext (.ref a)) _) (wpAny_tryCatch (gst.done (A := A.in1) hh hroom ok fun s' iv => ?_))
    exact wpAny_pure (hR s' tA iv)
  | succ k ih =>
    intro j s tA c st hst hk hj gst hS hR
    have lt : j < n := by omega
    refine codeAny_builtin PySem.F.entry_sum_loop ?_
    rw [Around.under_plainId PySem.F.plain_sum_loop _]
    refine wpAny_bind (m := seqItems? (.ref S)) (wpAny_seqItems hS rfl ?_)
    refine wpAny_bind (m := tryCatch (pyNext (.ref a)) _) (wpAny_tryCatch (gst.item (A := A.in1) hh hroom ok lt fun v s' hv hu gst' => ?_))
    obtain ⟨t, rfl⟩ := hF j v hv
    have hS' : s'.heap.get? S = some (accObj (preSum val j) tA c) := (hu S (List.mem_singleton.mpr rfl)).trans hS
    have bs : AllBare s'.gens := (ok.gen _ _ gst'.inv).2.2
    have oth : ∀ (h : Heap) (f : Obj → Obj) (b : Addr) (o : Obj), b ≠ S → h.get? b = some o → (h.update S f).get? b = some o := fun h f b o hb e => (Heap.get?_update_other _ _ (Ne.symm hb)).trans e
    rcases hst with rfl | rfl
    · show wpAny _ A.in1 (if (_ : Bool) = true then (mkInt (preSum val j + val j) >>= _) else _) _ _ _
      split
      · refine wpAny_bind (wpAny_mkInt ?_)
        refine wpAny_bind (m := updateSeq S (fun _ => #[.int (preSum val j + val j) s'.toks])) ?_
        have hS2 := Heap.get?_update_self (Obj.mapSeq fun _ => #[Value.int (preSum val j + val j) s'.toks]) hS' rfl
        exact wpAny_updateSeq hS' rfl (wpAny_pure ⟨plainId_quiet PySem.F.plain_sum_loop _, ih (j + 1) _ s'.toks _ 0 (.inl rfl) (by omega) lt (gst'.napped ok (nap_acc bs rfl rfl (oth _ _) hS2) rfl) hS2 hR⟩)
      · refine wpAny_bind (wpAny_rule ?_)
        refine wpAny_bind (wpAny_attempt (wpAny_holding (wpAny_add_int ?_)))
        refine wpAny_bind (m := updateSeq S (fun _ => #[.int (preSum val j + val j) s'.toks])) ?_
        have hS2 := Heap.get?_update_self (Obj.mapSeq fun _ => #[Value.int (preSum val j + val j) s'.toks]) hS' rfl
        refine wpAny_updateSeq hS' rfl (wpAny_bind (wpAny_letGo ?_))
        have hS3 := Heap.get?_update_self (Obj.mapSeq fun _ => #[Value.int (preSum val j + val j) s'.toks]) hS2 rfl
        exact wpAny_bind (wpAny_updateSeq hS2 rfl (wpAny_pure ⟨plainId_quiet PySem.F.plain_sum_loop _, ih (j + 1) _ s'.toks _ 2 (.inr rfl) (by omega) lt (gst'.napped ok (nap_acc bs rfl rfl (fun b o hb e => oth _ _ b o hb (oth _ _ b o hb e)) hS3) rfl) hS3 hR⟩))
    · refine wpAny_bind (m := (holding [Value.int (val j) t] (binaryOp .Add (.int (preSum val j) tA) (.int (val j) t))).attempt) (wpAny_attempt (wpAny_holding (wpAny_add_int ?_)))
      refine wpAny_bind (m := updateSeq S (fun _ => #[.int (preSum val j + val j) s'.toks])) ?_
      have hS2 := Heap.get?_update_self (Obj.mapSeq fun _ => #[Value.int (preSum val j + val j) s'.toks]) hS' rfl
      refine wpAny_updateSeq hS' rfl (wpAny_bind (wpAny_letGo ?_))
      have hS3 := Heap.get?_update_self (Obj.mapSeq fun _ => #[Value.int (preSum val j + val j) s'.toks]) hS2 rfl
      exact wpAny_bind (wpAny_updateSeq hS2 rfl (wpAny_pure ⟨plainId_quiet PySem.F.plain_sum_loop _, ih (j + 1) _ s'.toks _ 2 (.inr rfl) (by omega) lt (gst'.napped ok (nap_acc bs rfl rfl (fun b o hb e => oth _ _ b o hb (oth _ _ b o hb e)) hS3) rfl) hS3 hR⟩))
end
section
variable {prog : Program} {w : World} {A : Around} {E : Value → Shared → Prop} {s : Shared}
theorem sum_call {x : Value} {Q : Value → Shared → Prop} (h : wpAny (model prog w) A.in1 (pyIter x) (fun it s2 => ∃ (a : Addr) (g n : Nat) (F : Nat → Value → Prop) (IE' : Shared → Prop) (val : Nat → Int), it = .ref a ∧ A.handled = none ∧ A.depth < recursionLimit ∧ (∀ j v, F j v → ∃ t, v = .int (val j) t) ∧
      (∀ (S : Addr) (s6 : Shared), s2.heap.objs.size ≤ S → (∃ o, s6.heap.get? S = some o ∧ ∀ v, o.data ≠ .cell v) → (∀ b o, s2.heap.get? b = some o → s6.heap.get? b = some o) → s6.os = s2.os → s6.gens = s2.gens → ∃ IV IE, IvOk [S] a g n IV IE ∧ GSt prog w A.in1 [S] g n F IV IE 0 s6 ∧ ∀ s', IE s' → IE' s') ∧
      ∀ s' t', IE' s' → Q (.int (preSum val n) t') s') E s) : wpAny (model prog w) A (call (.builtin "sum") [x]) Q E s := by
  refine call_function_tree PySem.F.kind_sum PySem.F.plain_sum PySem.F.entry_sum (PySem.F.args_sum1 _) ?_
  unfold Builtin.«sum»
  simp only [List.length_cons, List.length_nil]
  rw [if_neg (by decide)]
  refine wpAny_bind (wpAny_of_eq (a := [none]) rfl ?_)
  refine wpAny_bind (wpAny_mono h (fun it s2 z => ?_) fun _ _ e => e)
  obtain ⟨a, g, n, F, IE', val, rfl, hh, hr, hF, mk, hQ⟩ := z
  refine wpAny_bind (wpAny_mkInt (wpAny_bind (wpAny_pure ?_)))
  simp only [List.forIn_cons, List.forIn_nil]
  refine wpAny_bind (wpAny_bind (wpAny_bind (wpAny_isInstance (T := "int") (b := false) (typeIs_int _ _ _) PySem.sub_int_str ?_)))
  rw [if_neg Bool.false_ne_true]
  refine wpAny_pure (wpAny_bind (wpAny_bind (wpAny_isInstance (T := "int") (b := false) (typeIs_int _ _ _) PySem.sub_int_bytes ?_)))
  rw [if_neg Bool.false_ne_true]
  refine wpAny_pure (wpAny_bind (wpAny_bind (wpAny_isInstance (T := "int") (b := false) (typeIs_int _ _ _) PySem.sub_int_bytearray ?_)))
  rw [if_neg Bool.false_ne_true]
  refine wpAny_pure (wpAny_pure (wpAny_bind (wpAny_newObj_type ?_)))
  have up : ∀ b o, s2.heap.get? b = some o → (s2.heap.push (accObj 0 s2.toks 0)).get? b = some o := fun b o e => Heap.get?_push_of_some _ e
  have hS : (s2.heap.push (accObj 0 s2.toks 0)).get? s2.heap.objs.size = some (accObj (preSum val 0) s2.toks 0) := Heap.get?_push_size _ rfl
  obtain ⟨IV, IE, ok, st, fin⟩ := mk s2.heap.objs.size { s2 with heap := s2.heap.push (accObj 0 s2.toks 0), toks := s2.toks + 1 } (Nat.le_refl _) ⟨_, hS, fun v e => nomatch e⟩ up rfl rfl
  exact wpAny_pure ⟨plainId_quiet PySem.F.plain_sum_loop _, sum_go (A := A) hh hr s2.heap.objs.size ok val hF n 0 _ s2.toks 0 0 (.inl rfl) rfl (Nat.zero_le _) st hS fun s' t' h' => hQ s' t' (fin s' h')⟩
end
section
variable {X : Cx} {pins : List (Addr × Obj)} {σ : L2.St} {H : Hp} {s : Shared} {scope : Scope} {own : List Str} {fv : List (Str × Nat)} {elt tg iter : Expr} {gpos : Pos} {c P : Addr} {wi : TI} {gt : TG} {te : TE} {k : Nat} {p pos : Pos}
def tSumG (P : Addr) (m : Nat) (fv : List (Str × Nat)) (wi : TI) (gt : TG) (te : TE) : TE := fun σ H Q => wi σ H fun J H1 => ∃ n F QE, GRd P m fv σ gt te J H1 n F QE ∧ ∃ val : Nat → Int, (∀ j v, F j v → ∃ t, v = .int (val j) t) ∧ ∀ H', QE H' → Q (.int (preSum val n)) H'
theorem pe_sumG (hr : Room (k + 1) X.A) (hg : Gl X "sum") (hm : X.mg "sum" = none) (TB : GxR.TabB X.base X.mg c P) (hcode : X.env.code = .ref c) (S : GSc X scope own fv) (hi : PI X tg iter wi)
    (hpg : ∀ (A : Around) (s : Shared) (H : Hp) (C : Addr) (code : Value) (ex : List Addr) (pn : List (Addr × Obj)), Room k A → PG (gxOf X A (own ++ fv.map (·.1)) s H scope C code ex pn) tg gt)
    (hpe : ∀ (A : Around) (s : Shared) (H : Hp) (C : Addr) (code : Value) (ex : List Addr) (pn : List (Addr × Obj)), Room k A → PE (gxOf X A (own ++ fv.map (·.1)) s H scope C code ex pn) elt te)
    (hs : ∀ v, genFold iter X.env v = pure v)
    (he : starEach [.GeneratorExp elt [⟨tg, iter, [], 0⟩] scope gpos] X.env = (false, eval (.GeneratorExp elt [⟨tg, iter, [], 0⟩] scope gpos) X.env) :: starEach [] X.env := by rfl) :
    PE X (.Call (.Name "sum" p) [.GeneratorExp elt [⟨tg, iter, [], 0⟩] scope gpos] [] pos) (tSumG P own.length fv wi gt te) := by
  refine ⟨fun pins s σ H Q I h => wpAny_Call_Name_kw (ld_blt I hg hm (by decide +kernel : bootBuiltins "sum" = some (.builtin "sum")) (PyProof.Rows.callWith_builtin1 ?_ he (by rfl)))⟩
  rw [he]
  refine Calls.spliced_cons (gen_run (R := fun n F QE => ∃ val : Nat → Int, (∀ j v, F j v → ∃ t, v = .int (val j) t) ∧ ∀ H', QE H' → Q (.int (preSum val n)) H') hr TB hcode S hi hpg hpe hs I h fun n F QE a s5 hR md => Calls.spliced_nil ?_)
  obtain ⟨val, hF, hq⟩ := hR
  obtain ⟨g, isg, bare, md⟩ := md
  refine sum_call (wpAny_pyIter_gen isg ⟨a, g, n, F, fun s' => ∃ H', Inv X pins σ H' s' ∧ QE H', val, rfl, hr.hd, by have := hr.dp; omega, hF, fun S s6 h1 h2 h3 h4 h5 => ?_, fun s' t' h' => ?_⟩)
  · exact md [S] s6 (fun b hb => by rw [List.mem_singleton.mp hb]; exact ⟨h1, h2⟩) h3 h4 (by rw [h5]; exact bare) (by rw [h5])
  · obtain ⟨H', J, q⟩ := h'
    exact ⟨.int _, H', J, ⟨t', rfl⟩, hq H' q⟩
end
end GG

set_option Elab.async false
set_option linter.all false
set_option maxRecDepth 100000
set_option maxHeartbeats 4000000
/-! .. over data. -/
namespace DL
open PySem PySem.Spec PyProof.Rows L2 QG GG
/-- captured slots, to stay -/
def capD : Gm → List (Str × Nat) → Option (List D × Gm)
  | Γ, [] => some ([], Γ)
  | Γ, (_, i) :: r => match Γ[i]? with
    | some (.dat d) => (capD Γ r).map fun z => (d :: z.1, z.2)
    | some (.own false l) => (capD (Γ.set i (.dat (.lst l))) r).map fun z => (.lst l :: z.1, z.2)
    | _ => none
theorem En.capd {P : Par} {σ : L2.St} {H : Hp} : ∀ {fv : List (Str × Nat)} {Bv : Hp} {Γ Γ2 : Gm} {ds : List D}, En P Bv Γ σ H → capD Γ fv = some (ds, Γ2) →
    ∃ B2, Ex Bv B2 ∧ En P B2 Γ2 σ H ∧ ds.length = fv.length ∧ ∀ (j : Nat) (p : Str × Nat) (d : D), fv[j]? = some p → ds[j]? = some d → ∃ v, σ[p.2]? = some (some v) ∧ Rp P.K B2 v d
  | [], Bv, Γ, Γ2, ds, n, e => by
    cases e
    exact ⟨Bv, Ex.refl _, n, rfl, fun j p d h => by cases h⟩
  | (y, i) :: r, Bv, Γ, Γ2, ds, n, e => by
    unfold capD at e
    cases q : Γ[i]? with
    | none => rw [q] at e; cases e
    | some s =>
      rw [q] at e
      cases s with
      | non => cases e
      | heap _ => cases e
      | dat d =>
        dsimp only at e
        cases q2 : capD Γ r with
        | none => rw [q2] at e; cases e
        | some z =>
          rw [q2] at e
          cases e
          obtain ⟨B2, x2, n2, hl, h⟩ := En.capd n (show capD Γ r = some (z.1, z.2) from q2)
          obtain ⟨v, h1, h2⟩ := n.dat i d q
          refine ⟨B2, x2, n2, by rw [List.length_cons, List.length_cons, hl], fun j p d' e1 e2 => ?_⟩
          cases j with
          | zero => cases e1; cases e2; exact ⟨v, h1, h2.mono x2⟩
          | succ j => exact h j p d' (by simpa using e1) (by simpa using e2)
      | own b l =>
        cases b with
        | true => cases e
        | false =>
          dsimp only at e
          cases q2 : capD (Γ.set i (.dat (.lst l))) r with
          | none => rw [q2] at e; cases e
          | some z =>
            rw [q2] at e
            cases e
            obtain ⟨a, vs, h1, h2, h3, h4⟩ := n.freeze q
            obtain ⟨B2, x2, n2, hl, h⟩ := En.capd h3 (show capD _ r = some (z.1, z.2) from q2)
            refine ⟨B2, h2.trans x2, n2, by rw [List.length_cons, List.length_cons, hl], fun j p d' e1 e2 => ?_⟩
            cases j with
            | zero => cases e1; cases e2; exact ⟨.ref a, h1, h4.mono x2⟩
            | succ j => exact h j p d' (by simpa using e1) (by simpa using e2)
/-- the slots of a generator's frame -/
def genG (m : Nat) (ds : List D) : Gm := List.replicate m .non ++ ds.map .dat
/-- the frames of generator expressions -/
def Fam.gen (F : Fam) (k : Nat) (N : List Str) (scope : Scope) : Fam where
  ι := { z : F.ι × Around × Shared × Hp × Addr × Value × List Addr × List (Addr × Obj) // Room k z.2.1 }
  X := fun z => gxOf (F.X z.1.1) z.1.2.1 N z.1.2.2.1 z.1.2.2.2.1 scope z.1.2.2.2.2.1 z.1.2.2.2.2.2.1 z.1.2.2.2.2.2.2.1 z.1.2.2.2.2.2.2.2
  K := F.K
  k := fun z => F.k z.1.1
  ts := F.ts
/-- the element of one item: r is handed out -/
def dElt (G : DG) (A : DE) (vs : List Nat) (Γg : Gm) (x : D) (r : D) : Prop := ∃ Γx, G x Γg = some Γx ∧ A no Γx fun w Γ3 => w = .dat r ∧ okW Γ3 vs = true ∧ wipeG Γ3 vs = Γg
def dAllG (I : DI) (m : Nat) (fv : List (Str × Nat)) (G : DG) (A : DE) (vs : List Nat) : DE := fun xd Γ Q => I xd Γ fun xs Γ1 => ∃ ds Γ2, capD Γ1 fv = some (ds, Γ2) ∧ ∃ f : D → Bool, (∀ x ∈ xs, dElt G A vs (genG m ds) x (.bl (f x))) ∧ Q (.dat (.bl (xs.all f))) Γ2
def dAnyG (I : DI) (m : Nat) (fv : List (Str × Nat)) (G : DG) (A : DE) (vs : List Nat) : DE := fun xd Γ Q => I xd Γ fun xs Γ1 => ∃ ds Γ2, capD Γ1 fv = some (ds, Γ2) ∧ ∃ f : D → Bool, (∀ x ∈ xs, dElt G A vs (genG m ds) x (.bl (f x))) ∧ Q (.dat (.bl (xs.any f))) Γ2
def dSumG (I : DI) (m : Nat) (fv : List (Str × Nat)) (G : DG) (A : DE) (vs : List Nat) : DE := fun xd Γ Q => I xd Γ fun xs Γ1 => ∃ ds Γ2, capD Γ1 fv = some (ds, Γ2) ∧ ∃ f : D → Int, (∀ x ∈ xs, dElt G A vs (genG m ds) x (.int (f x))) ∧ Q (.dat (.int (xs.map f).sum)) Γ2
/-- what a generator's walk leaves of the heap -/
def LeftG (B2 Hh : Hp) (H' : Hp) : Prop := ∃ B', Ex B2 B' ∧ Ex B' H' ∧ Ex Hh H' ∧ Dj B' Hh
theorem grd_of {P : Par} {P0 : Addr} {m : Nat} {fv : List (Str × Nat)} {gt : TG} {G : DG} {ix vs : List Nat} {te : TE} {A : DE} {B1 : Hp} {Γ1 Γ2 : Gm} {σ : L2.St} {H1 : Hp} {xs : List D} {J : It} {ds : List D} (hts : P0 ∈ P.ts)
    (lg : ∀ P' : Par, P'.K = P.K → P'.E = E0 ∧ P'.ts = P.ts → LG P' gt G ix) (le : ∀ P' : Par, P'.K = P.K → P'.E = E0 ∧ P'.ts = P.ts → LE P' te A) (n1 : En P B1 Γ1 σ H1) (it : ItD P.K J B1 xs) (hc : capD Γ1 fv = some (ds, Γ2)) (f : D → D) (hf : ∀ x, ∃ b : Sum Bool Int, f x = (match b with | .inl q => .bl q | .inr i => .int i))
    (he : ∀ x ∈ xs, dElt G A vs (genG m ds) x (f x)) :
    ∃ B2, Ex B1 B2 ∧ En P B2 Γ2 σ H1 ∧ GRd P0 m fv σ gt te J H1 xs.length (fun j u => ∃ x, xs[j]? = some x ∧ ∃ v, RelV v u ∧ Rp P.K (fun _ => none) v (f x)) (LeftG B2 (hidF P Γ2 σ H1)) := by
  obtain ⟨B2, x2, n2, hl, hcap⟩ := n1.capd hc
  have tg : TabG H1 P0 := n1.frm.tab (P.tab P0 hts)
  let P' : Par := ⟨P.K, hidF P Γ2 σ H1, [], B2, no, E0, P.ts, hidF_tab n2, fun _ _ _ _ _ _ z => z.elim⟩
  refine ⟨B2, x2, n2, ⟨fun i σ' H' => ∃ B', Ex B2 B' ∧ En P' B' (genG m ds) σ' H', tg, ⟨fun i σ' H' hi w => ?_, fun σ' H' w => ?_, fun i σ' H' x H2 hi w y => ?_⟩, fun H2 tb => ?_, fun i σ' H' _ w => ?_⟩⟩
  · obtain ⟨B', e, n'⟩ := w
    exact it.go B' H' (x2.trans e) n'.sub i hi
  · obtain ⟨B', e, n'⟩ := w
    exact it.stop B' H' (x2.trans e) n'.sub
  · obtain ⟨B', e, n'⟩ := w
    obtain ⟨B4, d, hd, gr, rp⟩ := it.yld B' H' (x2.trans e) n'.sub i x H2 hi y
    obtain ⟨Γx, hg, ha⟩ := he d (List.mem_of_getElem? hd)
    refine lg P' rfl ⟨rfl, rfl⟩ B4 (genG m ds) σ' H2 x d Γx _ (n'.grow gr) rp hg fun σ2 n4 _ => ?_
    refine le P' rfl ⟨rfl, rfl⟩ B4 Γx σ2 H2 _ _ n4 ha fun w Γ3 v H3 B5 e5 n5 r5 h5 => ?_
    obtain ⟨rfl, hw, hz⟩ := h5
    refine ⟨fun u ru => ⟨d, hd, v, ru, ?_⟩, B5, e.trans (gr.vis.trans e5), ?_⟩
    · have r5' : Rp P.K B5 v (f d) := r5
      obtain ⟨b, hb⟩ := hf d
      rw [hb] at r5' ⊢
      cases b with
      | inl q => cases r5'; exact .bl _
      | inr q => cases r5'; exact .int _
    · rw [← hz]
      exact n5.wipe hw rfl fun _ _ => rfl
  · have ex := Ex.grown tg tb
    refine ⟨B2, Ex.refl _, ?_⟩
    have none_own : ∀ (i : Nat) (p : Bool) (l : List D), (genG m ds)[i]? ≠ some (.own p l) := fun i p l h => by
      unfold genG at h
      rw [List.getElem?_append] at h
      split at h
      · rw [List.getElem?_replicate] at h
        split at h <;> cases h
      · rw [List.getElem?_map] at h
        cases q : ds[i - (List.replicate m Sl.non).length]? with
        | none => rw [q] at h; cases h
        | some d => rw [q] at h; cases h
    exact {
      len := by unfold genG capS; simp [hl]
      base := Ex.refl _
      sub := n2.sub.trans ex
      frm := (hidF_ex n2).trans ex
      dj := hidF_dj n2
      dat := fun i d h => by
        unfold genG at h
        unfold capS
        rw [List.getElem?_append] at h ⊢
        rw [List.length_replicate] at h ⊢
        split at h
        · rw [List.getElem?_replicate] at h
          split at h <;> cases h
        · rename_i hi
          rw [if_neg hi]
          rw [List.getElem?_map] at h ⊢
          cases q : ds[i - m]? with
          | none => rw [q] at h; cases h
          | some d' =>
            rw [q] at h
            cases h
            have hlt : i - m < fv.length := by rw [← hl]; exact (List.getElem?_eq_some_iff.mp q).1
            obtain ⟨v, h1, h2⟩ := hcap (i - m) fv[i - m] d (List.getElem?_eq_getElem hlt) q
            refine ⟨v, ?_, h2⟩
            rw [List.getElem?_eq_getElem hlt, Option.map_some, h1]
            rfl
      own := fun i p l h => absurd h (none_own i p l)
      inj := fun i j p p' l l' a h => absurd h (none_own i p l)
      pin := fun q hq => by cases hq
      hf := .none fun i M h => by
        unfold genG at h
        rw [List.getElem?_append] at h
        split at h
        · rw [List.getElem?_replicate] at h
          split at h <;> cases h
        · rw [List.getElem?_map] at h
          cases q : ds[i - (List.replicate m Sl.non).length]? with
          | none => rw [q] at h; cases h
          | some d => rw [q] at h; cases h }
  · obtain ⟨B', e, n'⟩ := w
    exact ⟨B', e, n'.sub, n'.frm, n'.dj⟩
section
variable {F : Fam} {E : XK} {c P0 : Addr} {elt tg iter : Expr} {p pos gpos : Pos} {scope : Scope} {own : List Str} {fv : List (Str × Nat)} {k : Nat} {I : DI} {G : DG} {ix : List Nat} {A : DE}
theorem pd_allG (own : List Str) (fv : List (Str × Nat)) (vs : List Nat) (hts : P0 ∈ F.ts) (hr : ∀ j, Room (k + 1) (F.X j).A) (hm : ∀ j, (F.X j).mg "all" = none) (TB : ∀ j, GxR.TabB (F.X j).base (F.X j).mg c P0) (hcode : ∀ j, (F.X j).env.code = .ref c) (S : ∀ j, GSc (F.X j) scope own fv) (hi : PDI F E tg iter I)
    (hpg : PDG (F.gen k (own ++ fv.map (·.1)) scope) tg G ix) (hel : PD (F.gen k (own ++ fv.map (·.1)) scope) E0 elt A)
    (hg : ∀ j, Gl (F.X j) "all" := by intro _; rfl) (hs : ∀ j v, genFold iter (F.X j).env v = pure v := by intro _ _; rfl)
    (he : ∀ j, starEach [.GeneratorExp elt [⟨tg, iter, [], 0⟩] scope gpos] (F.X j).env = (false, eval (.GeneratorExp elt [⟨tg, iter, [], 0⟩] scope gpos) (F.X j).env) :: starEach [] (F.X j).env := by intro _; rfl) :
    PD F E (.Call (.Name "all" p) [.GeneratorExp elt [⟨tg, iter, [], 0⟩] scope gpos] [] pos) (dAllG I own.length fv G A vs) :=
  let ⟨wi, pi, li⟩ := hi; let ⟨gt, pg, lg⟩ := hpg; let ⟨te, pe, le⟩ := hel
  ⟨tAllG P0 own.length fv wi gt te, fun j => pe_allG (hr j) (hg j) (hm j) (TB j) (hcode j) (S j) (pi j) (fun A s H C code ex pn r => pg ⟨(j, A, s, H, C, code, ex, pn), r⟩) (fun A s H C code ex pn r => pe ⟨(j, A, s, H, C, code, ex, pn), r⟩) (hs j) (he j),
    fun P hK hE Bv Γ σ H Qd Q n h kk => li P hK hE Bv Γ σ H _ _ n h fun xs Γ1 J H1 B1 e1 n1 it h1 => by
    obtain ⟨ds, Γ2, hc, f, hf, h2⟩ := h1
    obtain ⟨B2, x2, n2, gr⟩ := grd_of (hE.2 ▸ hts) (fun P' h1 _ => lg P' (h1.trans hK)) (fun P' h1 h2 => le P' (h1.trans hK) ⟨h2.1, h2.2.trans hE.2⟩) n1 it hc (fun x => .bl (f x)) (fun x => ⟨.inl (f x), rfl⟩) hf
    refine ⟨_, _, _, gr, atB xs f, fun j u z => ?_, fun H' z => ?_⟩
    · obtain ⟨x, hx, v, rv, rp⟩ := z
      cases rp
      obtain rfl : u = .bool (f x) := rv
      simp [atB, hx]
    · obtain ⟨B', x1, x3, x4, x5⟩ := z
      rw [all_at]
      exact finD kk ((e1.trans x2).trans x1) (n2.called x1 x3 x4 x5) (.bl _) h2⟩
theorem pd_anyG (own : List Str) (fv : List (Str × Nat)) (vs : List Nat) (hts : P0 ∈ F.ts) (hr : ∀ j, Room (k + 1) (F.X j).A) (hm : ∀ j, (F.X j).mg "any" = none) (TB : ∀ j, GxR.TabB (F.X j).base (F.X j).mg c P0) (hcode : ∀ j, (F.X j).env.code = .ref c) (S : ∀ j, GSc (F.X j) scope own fv) (hi : PDI F E tg iter I)
    (hpg : PDG (F.gen k (own ++ fv.map (·.1)) scope) tg G ix) (hel : PD (F.gen k (own ++ fv.map (·.1)) scope) E0 elt A)
    (hg : ∀ j, Gl (F.X j) "any" := by intro _; rfl) (hs : ∀ j v, genFold iter (F.X j).env v = pure v := by intro _ _; rfl)
    (he : ∀ j, starEach [.GeneratorExp elt [⟨tg, iter, [], 0⟩] scope gpos] (F.X j).env = (false, eval (.GeneratorExp elt [⟨tg, iter, [], 0⟩] scope gpos) (F.X j).env) :: starEach [] (F.X j).env := by intro _; rfl) :
    PD F E (.Call (.Name "any" p) [.GeneratorExp elt [⟨tg, iter, [], 0⟩] scope gpos] [] pos) (dAnyG I own.length fv G A vs) :=
  let ⟨wi, pi, li⟩ := hi; let ⟨gt, pg, lg⟩ := hpg; let ⟨te, pe, le⟩ := hel
  ⟨tAnyG P0 own.length fv wi gt te, fun j => pe_anyG (hr j) (hg j) (hm j) (TB j) (hcode j) (S j) (pi j) (fun A s H C code ex pn r => pg ⟨(j, A, s, H, C, code, ex, pn), r⟩) (fun A s H C code ex pn r => pe ⟨(j, A, s, H, C, code, ex, pn), r⟩) (hs j) (he j),
    fun P hK hE Bv Γ σ H Qd Q n h kk => li P hK hE Bv Γ σ H _ _ n h fun xs Γ1 J H1 B1 e1 n1 it h1 => by
    obtain ⟨ds, Γ2, hc, f, hf, h2⟩ := h1
    obtain ⟨B2, x2, n2, gr⟩ := grd_of (hE.2 ▸ hts) (fun P' h1 _ => lg P' (h1.trans hK)) (fun P' h1 h2 => le P' (h1.trans hK) ⟨h2.1, h2.2.trans hE.2⟩) n1 it hc (fun x => .bl (f x)) (fun x => ⟨.inl (f x), rfl⟩) hf
    refine ⟨_, _, _, gr, atB xs f, fun j u z => ?_, fun H' z => ?_⟩
    · obtain ⟨x, hx, v, rv, rp⟩ := z
      cases rp
      obtain rfl : u = .bool (f x) := rv
      simp [atB, hx]
    · obtain ⟨B', x1, x3, x4, x5⟩ := z
      rw [any_at]
      exact finD kk ((e1.trans x2).trans x1) (n2.called x1 x3 x4 x5) (.bl _) h2⟩
theorem pd_sumG (own : List Str) (fv : List (Str × Nat)) (vs : List Nat) (hts : P0 ∈ F.ts) (hr : ∀ j, Room (k + 1) (F.X j).A) (hm : ∀ j, (F.X j).mg "sum" = none) (TB : ∀ j, GxR.TabB (F.X j).base (F.X j).mg c P0) (hcode : ∀ j, (F.X j).env.code = .ref c) (S : ∀ j, GSc (F.X j) scope own fv) (hi : PDI F E tg iter I)
    (hpg : PDG (F.gen k (own ++ fv.map (·.1)) scope) tg G ix) (hel : PD (F.gen k (own ++ fv.map (·.1)) scope) E0 elt A)
    (hg : ∀ j, Gl (F.X j) "sum" := by intro _; rfl) (hs : ∀ j v, genFold iter (F.X j).env v = pure v := by intro _ _; rfl)
    (he : ∀ j, starEach [.GeneratorExp elt [⟨tg, iter, [], 0⟩] scope gpos] (F.X j).env = (false, eval (.GeneratorExp elt [⟨tg, iter, [], 0⟩] scope gpos) (F.X j).env) :: starEach [] (F.X j).env := by intro _; rfl) :
    PD F E (.Call (.Name "sum" p) [.GeneratorExp elt [⟨tg, iter, [], 0⟩] scope gpos] [] pos) (dSumG I own.length fv G A vs) :=
  let ⟨wi, pi, li⟩ := hi; let ⟨gt, pg, lg⟩ := hpg; let ⟨te, pe, le⟩ := hel
  ⟨tSumG P0 own.length fv wi gt te, fun j => pe_sumG (hr j) (hg j) (hm j) (TB j) (hcode j) (S j) (pi j) (fun A s H C code ex pn r => pg ⟨(j, A, s, H, C, code, ex, pn), r⟩) (fun A s H C code ex pn r => pe ⟨(j, A, s, H, C, code, ex, pn), r⟩) (hs j) (he j),
    fun P hK hE Bv Γ σ H Qd Q n h kk => li P hK hE Bv Γ σ H _ _ n h fun xs Γ1 J H1 B1 e1 n1 it h1 => by
    obtain ⟨ds, Γ2, hc, f, hf, h2⟩ := h1
    obtain ⟨B2, x2, n2, gr⟩ := grd_of (hE.2 ▸ hts) (fun P' h1 _ => lg P' (h1.trans hK)) (fun P' h1 h2 => le P' (h1.trans hK) ⟨h2.1, h2.2.trans hE.2⟩) n1 it hc (fun x => .int (f x)) (fun x => ⟨.inr (f x), rfl⟩) hf
    refine ⟨_, _, _, gr, fun j => (xs.map f).getD j 0, fun j u z => ?_, fun H' z => ?_⟩
    · obtain ⟨x, hx, v, rv, rp⟩ := z
      cases rp
      obtain ⟨t, rfl⟩ := (show ∃ t, u = Value.int (f x) t from rv)
      exact ⟨t, by simp [List.getD_eq_getElem?_getD, hx]⟩
    · obtain ⟨B', x1, x3, x4, x5⟩ := z
      rw [preSum_getD, List.take_of_length_le (by simp)]
      exact finD kk ((e1.trans x2).trans x1) (n2.called x1 x3 x4 x5) (.int _) h2⟩
end
end DL

set_option Elab.async false
set_option linter.all false
set_option maxRecDepth 100000
set_option maxHeartbeats 4000000
/-! zip of two lists or tuples, in any mixture; enumerate of a tuple. -/
namespace ZZ
open PySem PySem.Spec PyProof.Rows L2
/-- a list (false) | a tuple (true) -/
def sqK (b : Bool) (K : PySem.W.Frag) (H : Hp) (a : Addr) (xs : List V) : Prop := match b with
  | true => SqT K H a xs
  | false => SqL K H a xs
def itK (b : Bool) (h : Heap) (i a : Addr) (k : Nat) : Prop := match b with
  | true => h.IsTupleIter i a k
  | false => h.IsListIter i a k
def rawK (b : Bool) (h : Heap) (a : Addr) (its : Array Value) : Prop := match b with
  | true => h.IsTuple a its
  | false => h.IsList a its
section
variable {X : Cx} {pins : List (Addr × Obj)} {σ : L2.St} {H : Hp} {s : Shared} {b : Bool} {a : Addr} {xs : List V}
theorem sq_raw (I : Inv X pins σ H s) (h : sqK b X.K H a xs) : ∃ its : List Value, Vals xs its ∧ rawK b s.heap a its.toArray ∧ a < s.heap.objs.size := by
  cases b with
  | true =>
    obtain ⟨its, r, p, _⟩ := I.tuple h
    obtain ⟨o, e, _⟩ := id p
    exact ⟨its, r, p, Heap.lt_size e⟩
  | false =>
    obtain ⟨its, r, p, _⟩ := I.list h
    exact ⟨its, r, p.isList, p.lt⟩
theorem sq_inj (I : Inv X pins σ H s) {ys : List V} (h : sqK b X.K H a xs) (h' : sqK b X.K H a ys) : xs = ys := by
  cases b with
  | true => exact I.tuple_inj h h'
  | false => exact I.list_inj h h'
end
theorem itK_at {b : Bool} {h h' : Heap} {i a : Addr} {k : Nat} (z : itK b h i a k) (u : ∀ o, h.get? i = some o → h'.get? i = some o) : itK b h' i a k := by
  cases b with
  | true => exact z.at u
  | false => exact z.at u
theorem itK_obj {b : Bool} {h : Heap} {i a : Addr} {k : Nat} (z : itK b h i a k) : ∃ o, h.get? i = some o ∧ ∀ v, o.data ≠ .cell v := by
  cases b with
  | true =>
    obtain ⟨o, e, _, d⟩ := z
    exact ⟨o, e, fun v q => by rw [d] at q; cases q⟩
  | false =>
    obtain ⟨o, e, _, d⟩ := z
    exact ⟨o, e, fun v q => by rw [d] at q; cases q⟩
theorem draws_K {prog : Program} {w : World} {A : Around} (hh : A.handled = none) (b : Bool) (it t : Addr) (hne : t ≠ it) (items : Array Value) :
    Draws prog w A it [it, t] items.size (fun i v => items[i]? = some v) (fun i h => itK b h it t i ∧ rawK b h t items) := by
  cases b with
  | true => exact Draws.tuple hh it t hne items
  | false => exact Draws.list hh it t hne items
def itO (b : Bool) (a : Addr) : Obj := { cls := .type (if b then "tuple_iterator" else "list_iterator"), data := .fields #[.ref a, .int 0 0] }
theorem begins_K (b : Bool) (a : Addr) (items : Array Value) : Begins (.ref a) (itO b a) fun h => rawK b h a items := by
  cases b with
  | true => exact begins_tuple a items
  | false => exact begins_list a items
/-- what stands at a and b, the items in new pairs -/
def ItzK (K : PySem.W.Frag) (p q : Bool) (a b : Addr) : It :=
  ⟨fun i H => ∃ (xs ys : List V) (x y : V), sqK p K H a xs ∧ sqK q K H b ys ∧ xs[i]? = some x ∧ ys[i]? = some y,
    fun i H v H' => ∃ T x y, v = .ref T ∧ H T = none ∧ H' = upd H T (.tup [x, y]) ∧ (∀ xs, sqK p K H a xs → xs[i]? = some x) ∧ ∀ ys, sqK q K H b ys → ys[i]? = some y,
    fun i H => ∃ xs ys : List V, sqK p K H a xs ∧ sqK q K H b ys ∧ i ≤ xs.length ∧ i ≤ ys.length ∧ (i = xs.length ∨ i = ys.length)⟩
/-- the cells of a zip, and what is zipped: apart -/
structure Apart2 (z TI TO i1 i2 a b : Addr) : Prop where
  sep : ZipSep2 z TI TO i1 i2 [i1, a] [i2, b]
  a1 : a ≠ i1
  b2 : b ≠ i2
theorem turn_zK {P : Program} {w : World} {K : PySem.W.Frag} {elts : List Expr} {kk : Nat} {tpos : Pos} {p q : Bool} {a b z TI TO i1 i2 : Addr} (D : Apart2 z TI TO i1 i2 a b) :
    Turn P w K (.Tuple elts kk tpos) (ItzK K p q a b) [z, TI, TO, i1, i2] z (fun i h => IsZip h z TI TO .none ∧ IsTupOf2 h TI (.ref i1) (.ref i2) ∧ (∃ x y, IsTupOf2 h TO x y) ∧ itK p h i1 a i ∧ itK q h i2 b i) where
  mem := by simp
  obj := fun i h st c hc => by
    obtain ⟨hz, hTI, ⟨x, y, hTO⟩, h1, h2⟩ := st
    have e' : c = z ∨ c = TI ∨ c = TO ∨ c = i1 ∨ c = i2 := by simpa using hc
    rcases e' with rfl | rfl | rfl | rfl | rfl
    · exact ⟨_, hz, fun v y => nomatch y⟩
    · exact ⟨_, hTI, fun v y => nomatch y⟩
    · exact ⟨_, hTO, fun v y => nomatch y⟩
    · exact itK_obj h1
    · exact itK_obj h2
  keep := fun i h h' st k => by
    obtain ⟨hz, hTI, ⟨x, y, hTO⟩, h1, h2⟩ := st
    exact ⟨k z (by simp) _ hz, k TI (by simp) _ hTI, ⟨x, y, k TO (by simp) _ hTO⟩, itK_at h1 fun o e => k i1 (by simp) o e, itK_at h2 fun o e => k i2 (by simp) o e⟩
  item := by
    intro X hP hw hK hc i pins s σ H E I hf st hg
    subst hP hw hK
    obtain ⟨hz, hTI, ⟨x0, y0, hTO⟩, h1, h2⟩ := st
    obtain ⟨xs, ys, x, y, hqx, hqy, hx, hy⟩ := hg
    obtain ⟨its, rv, p1, _⟩ := sq_raw I hqx
    obtain ⟨its2, rv2, p2, _⟩ := sq_raw I hqy
    obtain ⟨u, hu, ru⟩ := rv.get hx
    obtain ⟨u2, hu2, ru2⟩ := rv2.get hy
    have hd : X.A.in1.handled = none := I.ok.hd hc
    have hzl : z < s.heap.objs.size := Heap.lt_size hz
    have lt1 : i < its.toArray.size := by rw [List.size_toArray]; exact (List.getElem?_eq_some_iff.mp hu).1
    have lt2 : i < its2.toArray.size := by rw [List.size_toArray]; exact (List.getElem?_eq_some_iff.mp hu2).1
    refine wpAny_pyNext_zipD2_item D.sep (draws_K hd p i1 a D.a1 its.toArray) (draws_K hd q i2 b D.b2 its2.toArray) hz hTI hTO ⟨h1, p1⟩ ⟨h2, p2⟩ lt1 lt2 fun w1 w2 h' tk e1 e2 z' TO' st1 st2 hT hsz hk => ?_
    have f1 : w1 = u := by
      have : its[i]? = some w1 := by simpa using e1
      rw [hu] at this
      exact (Option.some.inj this).symm
    have f2 : w2 = u2 := by
      have : its2[i]? = some w2 := by simpa using e2
      rw [hu2] at this
      exact (Option.some.inj this).symm
    subst f1 f2
    refine ⟨_, rfl, wpAny_letOwnedTupleGo_zip (s := { s with heap := h', toks := tk }) z' fun h'' z'' sb => ?_⟩
    have hT2 : h''.get? s.heap.objs.size = some { cls := .type "tuple", data := .seq #[w1, w2] } := (sb.2 _ (Nat.ne_of_gt hzl)).trans hT
    have new : ObjOk X.prog X.w (upd H s.heap.objs.size (.tup [x, y])) h'' s.heap.objs.size (.tup [x, y]) := ⟨by show 2 ≤ sizeLine; decide, [w1, w2], .cons ru (.cons ru2 .nil), ⟨_, hT2, rfl, _, rfl⟩⟩
    have I1 : Inv X pins σ (upd H s.heap.objs.size (.tup [x, y])) { s with heap := h'', toks := tk } :=
      I.turnedNew (t' := tk) (ch := [z, TI, TO, i1, i2]) (fun c o hb e => (sb.2 c (fun y => hb (by simp [y]))).trans (hk c o (fun y => hb (by simp [y])) (fun y => hb (by simp [y])) (fun y => hb (by simp [y])) (fun y => hb (by simp [y])) e)) hf (Nat.le_refl _) new
    refine ⟨.ref s.heap.objs.size, _, I1, rfl, ⟨_, x, y, rfl, I.hok.fresh (Nat.le_refl _), rfl, fun l hl => by rw [sq_inj I hl hqx]; exact hx, fun l hl => by rw [sq_inj I hl hqy]; exact hy⟩, ⟨z'', ?_, ⟨w1, w2, ?_⟩, ?_, ?_⟩, fun c hcm => ?_⟩
    · exact (sb.2 _ D.sep.TIz).trans (hk _ _ D.sep.TIz D.sep.TITO D.sep.TIi1 D.sep.TIi2 hTI)
    · exact (sb.2 _ D.sep.TOz).trans TO'
    · exact itK_at st1.1 fun o e => (sb.2 _ (Ne.symm D.sep.zi1)).trans e
    · exact itK_at st2.1 fun o e => (sb.2 _ (Ne.symm D.sep.zi2)).trans e
    · have hlt : c < s.heap.objs.size := by
        have e' : c = z ∨ c = TI ∨ c = TO ∨ c = i1 ∨ c = i2 := by simpa using hcm
        rcases e' with rfl | rfl | rfl | rfl | rfl
        · exact hzl
        · exact Heap.lt_size hTI
        · exact Heap.lt_size hTO
        · obtain ⟨_, e1, _⟩ := itK_obj h1; exact Heap.lt_size e1
        · obtain ⟨_, e2, _⟩ := itK_obj h2; exact Heap.lt_size e2
      rw [upd_ne (Nat.ne_of_lt hlt)]
      exact (hf c hcm).1
  done := by
    intro X hP hw hK hc i pins s σ H E I hf st hg
    subst hP hw hK
    obtain ⟨hz, hTI, ⟨x0, y0, hTO⟩, h1, h2⟩ := st
    obtain ⟨xs, ys, hqx, hqy, l1, l2, hend⟩ := hg
    obtain ⟨its, rv, p1, _⟩ := sq_raw I hqx
    obtain ⟨its2, rv2, p2, _⟩ := sq_raw I hqy
    have n1 := rv.length
    have n2 := rv2.length
    have hd : X.A.in1.handled = none := I.ok.hd hc
    exact wpAny_pyNext_zipD2_end (i := i) D.sep (draws_K hd p i1 a D.a1 its.toArray) (draws_K hd q i2 b D.b2 its2.toArray) hz hTI hTO ⟨h1, p1⟩ ⟨h2, p2⟩ (by rw [List.size_toArray]; omega) (by rw [List.size_toArray]; omega) (by rw [List.size_toArray, List.size_toArray]; omega) fun h' tk hk => ⟨rfl, I.turnedL (t' := tk) (ch := [z, TI, TO, i1, i2]) (fun c o hb e =>
      hk c o (fun y => hb (by simp [y])) (fun y => hb (by simp [y])) (fun y => hb (by simp [y])) (fun y => hb (by simp [y])) e) hf⟩
  self := fun A i s Q E st h => wpAny_pyIter_zip st.1 h
def iZK (K : PySem.W.Frag) (ta : TA) : TI := fun σ H R => ta σ H fun vs H1 => ∃ p q a b xs ys, vs = [.ref a, .ref b] ∧ sqK p K H1 a xs ∧ sqK q K H1 b ys ∧ R (ItzK K p q a b) H1
theorem pi_zK {X : Cx} {e e2 : Expr} {ta : TA} {pp pos tpos : Pos} {elts : List Expr} {kk : Nat} (hg : Gl X "zip") (hm : X.mg "zip" = none) (ha : PA X [e, e2] ta)
    (hs : starEach [e, e2] X.env = (false, eval e X.env) :: starEach [e2] X.env := by rfl) (hpl : (backTo pos (starEach [e2] X.env)).any (·.1) = false := by rfl) :
    PI X (.Tuple elts kk tpos) (.Call (.Name "zip" pp) [e, e2] [] pos) (iZK X.K ta) := by
  refine ⟨fun pins s σ H R I h => ?_⟩
  refine Call_ (ld_blt I hg hm PyProof.Rows.boot_zip (PyProof.Rows.callWith_type1 (thn (ha.run pos pins s σ H _ I h) fun us s1 ⟨vs, H1, I1, r1, q1⟩ => ?_) hs hpl))
  obtain ⟨p, q, a, b, xs, ys, rfl, hqx, hqy, q1⟩ := q1
  cases r1 with
  | cons r rr =>
    cases rr with
    | cons r' rr =>
      cases rr
      cases r
      cases r'
      obtain ⟨its, rv, p1, la⟩ := sq_raw I1 hqx
      obtain ⟨its2, rv2, p2, lb⟩ := sq_raw I1 hqy
      refine zip_begins2 (begins_K p a its.toArray) (begins_K q b its2.toArray) p1 p2 fun h' hz hTI hTO h1 h2 hsz hk => wpAny_pyIter_zip hz ?_
      have I2 : Inv X pins σ H1 { s1 with heap := h' } := I1.kept (t' := s1.toks) hk
      have sep : Apart2 (s1.heap.objs.size + 4) (s1.heap.objs.size + 2) (s1.heap.objs.size + 3) s1.heap.objs.size (s1.heap.objs.size + 1) a b :=
        ⟨zip_sep2 (fun c hc => by rw [List.mem_singleton.mp hc]; exact la) (fun c hc => by rw [List.mem_singleton.mp hc]; exact lb), Nat.ne_of_lt la, Nat.ne_of_lt (Nat.lt_succ_of_lt lb)⟩
      have it1 : itK p h' s1.heap.objs.size a 0 := by cases p <;> exact ⟨_, h1, rfl, rfl⟩
      have it2 : itK q h' (s1.heap.objs.size + 1) b 0 := by cases q <;> exact ⟨_, h2, rfl, rfl⟩
      refine ⟨s1.heap.objs.size + 4, [s1.heap.objs.size + 4, s1.heap.objs.size + 2, s1.heap.objs.size + 3, s1.heap.objs.size, s1.heap.objs.size + 1], _, _, H1, rfl, I2, turn_zK sep, ⟨hz, hTI, ⟨_, _, hTO⟩, it1, it2⟩, fun c hcm => ?_, q1⟩
      have e' : c = s1.heap.objs.size + 4 ∨ c = s1.heap.objs.size + 2 ∨ c = s1.heap.objs.size + 3 ∨ c = s1.heap.objs.size ∨ c = s1.heap.objs.size + 1 := by simpa using hcm
      have hle : s1.heap.objs.size ≤ c := by
        rcases e' with z | z | z | z | z
        · rw [z]; exact Nat.le_add_right _ _
        · rw [z]; exact Nat.le_add_right _ _
        · rw [z]; exact Nat.le_add_right _ _
        · rw [z]; exact Nat.le_refl _
        · rw [z]; exact Nat.le_add_right _ _
      exact I1.fpOk hle (I1.hok.fresh hle)
end ZZ
namespace DL
open PySem PySem.Spec PyProof.Rows L2 ZZ
theorem sqK_ex {b : Bool} {K : PySem.W.Frag} {H H' : Hp} {a : Addr} {xs : List V} (e : Ex H H') (h : sqK b K H a xs) : sqK b K H' a xs := by
  cases b with
  | true => exact ex_t e h
  | false => exact ex_l e h
theorem itd_zK {K : PySem.W.Frag} {p q : Bool} {a b : Addr} {B0 : Hp} {vs ws : List V} {l m : List D} (h : sqK p K B0 a vs) (r : RpL K B0 vs l) (h' : sqK q K B0 b ws) (r' : RpL K B0 ws m) : ItD K (ItzK K p q a b) B0 (zipD l m) where
  go := fun B H e1 e2 i hi => by
    rw [zipD_len, ← r.len, ← r'.len] at hi
    exact ⟨vs, ws, vs[i], ws[i], sqK_ex (e1.trans e2) h, sqK_ex (e1.trans e2) h', by simp [show i < vs.length by omega], by simp [show i < ws.length by omega]⟩
  stop := fun B H e1 e2 => ⟨vs, ws, sqK_ex (e1.trans e2) h, sqK_ex (e1.trans e2) h', by rw [zipD_len, r.len]; omega, by rw [zipD_len, r'.len]; omega, by rw [zipD_len, r.len, r'.len]; omega⟩
  yld := fun B H e1 e2 i x H' hi y => by
    obtain ⟨T, x1, y1, rfl, hT, rfl, f1, f2⟩ := y
    obtain ⟨d, g1, g2⟩ := r.get (f1 vs (sqK_ex (e1.trans e2) h))
    obtain ⟨e, g3, g4⟩ := r'.get (f2 ws (sqK_ex (e1.trans e2) h'))
    obtain ⟨g, z⟩ := pair_yld e2 hT (g2.mono e1) (g4.mono e1)
    exact ⟨_, pairD d e, by simp [zipD, List.getElem?_zipWith, g1, g3], g, z⟩
theorem rp_seqK {K : PySem.W.Frag} {B : Hp} {v : V} {d : D} {l : List D} (h : Rp K B v d) (q : itemsOf d = some l) : ∃ (b : Bool) (a : Addr) (vs : List V), v = .ref a ∧ sqK b K B a vs ∧ RpL K B vs l := by
  cases d <;> cases q
  · cases h with
    | tup hs hr => exact ⟨true, _, _, rfl, hs, hr⟩
  · cases h with
    | lst hs hr => exact ⟨false, _, _, rfl, hs, hr⟩
section
variable {F : Fam} {E : XK} {e a b c tg : Expr} {R : DA} {pos p : Pos}
/-- zip of two lists or tuples -/
def dZipK (R : DA) : DI := fun xd Γ Rd => R xd Γ fun ws Γ1 => ∃ d1 d2 l m Γ2, fixL Γ1 ws = some ([d1, d2], Γ2) ∧ itemsOf d1 = some l ∧ itemsOf d2 = some m ∧ Rd (zipD l m) Γ2
theorem pdi_zipK {elts : List Expr} {kk : Nat} {tpos : Pos} (hg : ∀ j, Gl (F.X j) "zip") (hm : ∀ j, (F.X j).mg "zip" = none) (ha : PDA F E [a, b] R)
    (hs : ∀ j, starEach [a, b] (F.X j).env = (false, eval a (F.X j).env) :: starEach [b] (F.X j).env := by intro _; rfl) (hpl : ∀ j, (backTo pos (starEach [b] (F.X j).env)).any (·.1) = false := by intro _; rfl) : PDI F E (.Tuple elts kk tpos) (.Call (.Name "zip" p) [a, b] [] pos) (dZipK R) :=
  let ⟨_, pa, la⟩ := ha
  ⟨iZK F.K _, fun j => F.k j ▸ pi_zK (hg j) (hm j) (pa j) (hs j) (hpl j), fun P hK hE Bv Γ σ H Rd R n h k => la P hK hE Bv Γ σ H _ _ n h fun ws Γ1 vs H1 B1 e1 n1 r1 h1 => by
    obtain ⟨d1, d2, l, m, Γ2, f, i1, i2, h1⟩ := h1
    obtain ⟨B2, e2, n2, r2⟩ := n1.fixedL r1 f
    cases r2 with
    | cons ra rr =>
      cases rr with
      | cons rb rr =>
        cases rr
        obtain ⟨p, a1, v1, rfl, hs1, hr1⟩ := rp_seqK ra i1
        obtain ⟨q, a2, v2, rfl, hs2, hr2⟩ := rp_seqK rb i2
        rw [hK] at hs1 hr1 hs2 hr2
        exact ⟨p, q, a1, a2, v1, v2, rfl, sqK_ex n2.sub hs1, sqK_ex n2.sub hs2, k _ Γ2 _ H1 B2 (e1.trans e2) n2 (by rw [hK]; exact itd_zK hs1 hr1 hs2 hr2) h1⟩⟩
end
end DL

set_option Elab.async false
set_option linter.all false
set_option maxRecDepth 100000
set_option maxHeartbeats 4000000
namespace ZZ
open PySem PySem.Spec PyProof.Rows L2
/-! ### enumerate of a list or tuple -/
def ItenK (K : PySem.W.Frag) (p : Bool) (a : Addr) : It :=
  ⟨fun i H => ∃ (xs : List V) (x : V), sqK p K H a xs ∧ xs[i]? = some x,
    fun i H v H' => ∃ T x, v = .ref T ∧ H T = none ∧ H' = upd H T (.tup [.int (i : Nat), x]) ∧ ∀ xs, sqK p K H a xs → xs[i]? = some x,
    fun i H => ∃ xs : List V, sqK p K H a xs ∧ i = xs.length⟩
theorem turn_enK {P : Program} {w : World} {K : PySem.W.Frag} {elts : List Expr} {kk : Nat} {tpos : Pos} {p : Bool} {a e it : Addr} (h1 : e ≠ it) (h2 : e ≠ a) (h3 : a ≠ it) :
    Turn P w K (.Tuple elts kk tpos) (ItenK K p a) [e, it] e (fun i h => (∃ old, IsEnum h e it ((i : Nat) : Int) old) ∧ itK p h it a i) where
  mem := by simp
  obj := fun i h st c hc => by
    obtain ⟨⟨old, he⟩, hi⟩ := st
    have e' : c = e ∨ c = it := by simpa using hc
    rcases e' with rfl | rfl
    · exact ⟨_, he, fun v y => nomatch y⟩
    · exact itK_obj hi
  keep := fun i h h' st k => by
    obtain ⟨⟨old, he⟩, hi⟩ := st
    exact ⟨⟨old, k e (by simp) _ he⟩, itK_at hi fun o y => k it (by simp) o y⟩
  item := by
    intro X hP hw hK hc i pins s σ H E I hf st hg
    subst hP hw hK
    obtain ⟨⟨old, he⟩, hi⟩ := st
    obtain ⟨xs, x, hqx, hx⟩ := hg
    obtain ⟨its, rv, p1, _⟩ := sq_raw I hqx
    obtain ⟨u, hu, ru⟩ := rv.get hx
    have hd : X.A.in1.handled = none := I.ok.hd hc
    have lt1 : i < its.toArray.size := by rw [List.size_toArray]; exact (List.getElem?_eq_some_iff.mp hu).1
    have hel : e < s.heap.objs.size := Heap.lt_size he
    refine wpAny_pyNext_enum_itemD (draws_K hd p it a h3 its.toArray) he ⟨hi, p1⟩ lt1 h1 (by simp [h1, h2]) fun w1 h' tk e1 ho st1 hT hsz hk => ?_
    have f1 : w1 = u := by
      have : its[i]? = some w1 := by simpa using e1
      rw [hu] at this
      exact (Option.some.inj this).symm
    subst f1
    refine ⟨_, rfl, wpAny_letOwnedTupleGo_enum (s := { s with heap := h', toks := tk + 1 }) ho fun h3' he3 sb => ?_⟩
    have hT2 : h3'.get? s.heap.objs.size = some { cls := .type "tuple", data := .seq #[.int i tk, w1] } := (sb.2 _ (Nat.ne_of_gt hel)).trans hT
    have new : ObjOk X.prog X.w (upd H s.heap.objs.size (.tup [.int (i : Nat), x])) h3' s.heap.objs.size (.tup [.int (i : Nat), x]) := ⟨by show 2 ≤ sizeLine; decide, [.int i tk, w1], .cons ⟨_, rfl⟩ (.cons ru .nil), ⟨_, hT2, rfl, _, rfl⟩⟩
    have I1 : Inv X pins σ (upd H s.heap.objs.size (.tup [.int (i : Nat), x])) { s with heap := h3', toks := tk + 1 } :=
      I.turnedNew (t' := tk + 1) (ch := [e, it]) (fun c o hb y => (sb.2 c (fun z => hb (by simp [z]))).trans (hk c o (fun z => hb (by simp [z])) (fun z => hb (by simp [z])) y)) hf (Nat.le_refl _) new
    refine ⟨.ref s.heap.objs.size, _, I1, rfl, ⟨_, x, rfl, I.hok.fresh (Nat.le_refl _), rfl, fun l hl => by rw [sq_inj I hl hqx]; exact hx⟩, ⟨⟨w1, ?_⟩, itK_at st1.1 fun o y => (sb.2 _ (Ne.symm h1)).trans y⟩, fun c hcm => ?_⟩
    · have e1 : ((i + 1 : Nat) : Int) = (i : Int) + 1 := by omega
      rw [e1]; exact he3
    · have hlt : c < s.heap.objs.size := by
        have e' : c = e ∨ c = it := by simpa using hcm
        rcases e' with rfl | rfl
        · exact hel
        · obtain ⟨_, e2, _⟩ := itK_obj hi; exact Heap.lt_size e2
      rw [upd_ne (Nat.ne_of_lt hlt)]
      exact (hf c hcm).1
  done := by
    intro X hP hw hK hc i pins s σ H E I hf st hg
    subst hP hw hK
    obtain ⟨⟨old, he⟩, hi⟩ := st
    obtain ⟨xs, hqx, rfl⟩ := hg
    obtain ⟨its, rv, p1, _⟩ := sq_raw I hqx
    have hd : X.A.in1.handled = none := I.ok.hd hc
    have n1 : xs.length = its.toArray.size := by rw [List.size_toArray]; exact rv.length
    rw [n1] at hi
    exact wpAny_pyNext_enum_endD (draws_K hd p it a h3 its.toArray) he ⟨hi, p1⟩ fun h' hx => ⟨rfl, I.turnedL (t' := s.toks) (ch := [e, it]) (fun c o hb y => hx c o (fun z => hb (by simp [z])) y) hf⟩
  self := fun A i s Q E st h => let ⟨⟨_, he⟩, _⟩ := st; wpAny_pyIter_enum he h
theorem meets_enum_K {v : Value} {o : Obj} {H : Heap → Prop} (B : Begins v o H) :
    Meets (Builtin.«enumerate.__new__» ⟨[.type "enumerate", v], []⟩) (fun _ R s => H s.heap ∧
      R (.ok (.ret (.ref (s.heap.push o).objs.size))) { s with heap := (s.heap.push o).push { cls := .type "enumerate", data := .fields #[.none, .bool false, .ref s.heap.objs.size, rawInt 0, .none, .none] } }) :=
  .of_wp fun prog w A R s h => by
    obtain ⟨hp, g, d, tk, os⟩ := s; obtain ⟨hB, hR⟩ := h
    have hsub := sub_enumerate
    have it1 : ∀ {A' : Around} {E : Value → Shared → Prop} {Q : Value → Shared → Prop}, Q (.ref hp.objs.size) ⟨hp.push o, g, d, tk, os⟩ → wpAny (model prog w) A' (pyIter v) Q E ⟨hp, g, d, tk, os⟩ := fun q => B.iter prog w _ _ ⟨hp, g, d, tk, os⟩ _ hB q
    wp_walk using it1
    refine wpAny_stack_any fun st => wpAny_pure ?_
    split
    · rename_i c _ _ _ _ _
      cases (c == Value.type "enumerate")
      · wp_walk using it1
        exact ⟨_, rfl, hR⟩
      · wp_walk using it1
        exact ⟨_, rfl, hR⟩
    · wp_walk using it1
      exact ⟨_, rfl, hR⟩
theorem call_enum_K {prog : Program} {w : World} {A : Around} {E : Value → Shared → Prop} {s : Shared} {v : Value} {o : Obj} {H : Heap → Prop} {Q : Value → Shared → Prop} (B : Begins v o H) (hB : H s.heap)
    (h : ∀ h', IsEnum h' (s.heap.objs.size + 1) s.heap.objs.size 0 .none → h'.get? s.heap.objs.size = some o → (∀ b o, s.heap.get? b = some o → h'.get? b = some o) → Q (.ref (s.heap.objs.size + 1)) { s with heap := h' }) :
    wpAny (model prog w) A (call (.type "enumerate") [v]) Q E s := by
  refine callType_new PySem.F.called_enumerate (by decide) (PySem.F.typeCall_enumerate_1 _) (PySem.F.newCall_enumerate_1 _) (fun obj => PySem.F.args_object_init_2 obj _) PySem.F.entry_enumerate_new (meets_enum_K B) ⟨hB, ?_⟩
  have sz : (s.heap.push o).objs.size = s.heap.objs.size + 1 := Heap.size_push ..
  have he : ((s.heap.push o).push { cls := .type "enumerate", data := .fields #[.none, .bool false, .ref s.heap.objs.size, rawInt 0, .none, .none] }).get? (s.heap.push o).objs.size = some { cls := .type "enumerate", data := .fields #[.none, .bool false, .ref s.heap.objs.size, rawInt 0, .none, .none] } := Heap.get?_push_size _ rfl
  rw [sz] at he
  show _ ∧ _
  rw [sz]
  exact ⟨⟨_, he, rfl⟩, h _ he (Heap.get?_push_of_some _ (Heap.get?_push_size _ B.free)) fun b o x => Heap.get?_push_of_some _ (Heap.get?_push_of_some _ x)⟩
def iEnK (K : PySem.W.Frag) (ta : TA) : TI := fun σ H R => ta σ H fun vs H1 => ∃ p a xs, vs = [.ref a] ∧ sqK p K H1 a xs ∧ R (ItenK K p a) H1
theorem pi_enK {X : Cx} {e : Expr} {ta : TA} {pp pos tpos : Pos} {elts : List Expr} {kk : Nat} (hg : Gl X "enumerate") (hm : X.mg "enumerate" = none) (ha : PA X [e] ta) (hs : starEach [e] X.env = [(false, eval e X.env)] := by rfl) :
    PI X (.Tuple elts kk tpos) (.Call (.Name "enumerate" pp) [e] [] pos) (iEnK X.K ta) := by
  refine ⟨fun pins s σ H R I h => ?_⟩
  refine Call_ (ld_blt I hg hm boot_enumerate (PyProof.Rows.callWith_type1 (thn (ha.run pos pins s σ H _ I h) fun us s1 ⟨vs, H1, I1, r1, q1⟩ => ?_) hs rfl))
  obtain ⟨p, a, xs, rfl, hqx, q1⟩ := q1
  cases r1 with
  | cons r rr =>
    cases rr
    cases r
    obtain ⟨its, rv, p1, la⟩ := sq_raw I1 hqx
    refine call_enum_K (begins_K p a its.toArray) p1 fun h' he hi hk => wpAny_pyIter_enum he ?_
    have I2 : Inv X pins σ H1 { s1 with heap := h' } := I1.kept (t' := s1.toks) hk
    have it1 : itK p h' s1.heap.objs.size a 0 := by cases p <;> exact ⟨_, hi, rfl, rfl⟩
    refine ⟨s1.heap.objs.size + 1, [s1.heap.objs.size + 1, s1.heap.objs.size], _, _, H1, rfl, I2, turn_enK (Nat.succ_ne_self _) (Nat.ne_of_gt (Nat.lt_succ_of_lt la)) (Nat.ne_of_lt la), ⟨⟨_, he⟩, it1⟩, fun c hcm => ?_, q1⟩
    have e' : c = s1.heap.objs.size + 1 ∨ c = s1.heap.objs.size := by simpa using hcm
    have hle : s1.heap.objs.size ≤ c := by
      rcases e' with z | z
      · rw [z]; exact Nat.le_add_right _ _
      · rw [z]; exact Nat.le_refl _
    exact I1.fpOk hle (I1.hok.fresh hle)
end ZZ

set_option Elab.async false
set_option linter.all false
set_option maxRecDepth 100000
set_option maxHeartbeats 4000000
namespace ZZ
open PySem PySem.Spec PyProof.Rows L2
/-! ### sorted of a list with fewer than two items -/
theorem few_out {its : List Value} {out : Array Value} {ps : List (Value × Value)} (hl : its.length < 2) (a1 : out.toList = ps.map Prod.snd) (a2 : ps.Perm (its.zip its)) : out = its.toArray := by
  have pz : out.toList = its := by
    cases its with
    | nil =>
      have e : ps = [] := a2.eq_nil
      rw [a1, e]
      rfl
    | cons v r =>
      cases r with
      | nil =>
        have e : ps = [(v, v)] := List.perm_singleton.mp a2
        rw [a1, e]
        rfl
      | cons u r => simp only [List.length_cons] at hl; omega
  rw [← pz]
section
variable {X : Cx}
def rSort1 (K : PySem.W.Frag) : List V → Hp → VK → Prop := fun vs H Q => ∃ (a : Addr) (xs : List V), vs = [V.ref a] ∧ SqL K H a xs ∧ xs.length < 2 ∧ ∀ p : Addr, H p = none → Q (.ref p) (upd H p (.lst xs))
theorem cr_sort1 : CallR X (.builtin "sorted") (rSort1 X.K) := by
  intro pins s σ H vs us Q I r h
  obtain ⟨a, xs, rfl, hs, h2, q⟩ := h
  obtain ⟨its, rv, hl, hz⟩ := I.list hs
  rw [Vals.ref1 r]
  have hl2 : its.length < 2 := by rw [← rv.length]; exact h2
  refine Calls.call_function_entry kind_sorted plain_sorted entry_sorted (args_sorted1 _) ?_
  unfold Builtin.«sorted»
  refine wpAny_bind (m := checkCount "sorted" 1 1 _) (wpAny_pure ?_)
  refine wpAny_bind (collect_list hl.isList ?_ (by rw [sizeLine_eq]; omega))
  refine wpAny_bind (wpAny_newList ?_ (by rw [sizeLine_eq]; omega))
  have sz : ((s.heap.push (seqObj "list" #[] 0)).update s.heap.objs.size (Obj.mapSeq (· ++ its.toArray))).objs.size = s.heap.objs.size + 1 := by rw [Heap.size_update, size_push']
  have at1 : (((s.heap.push (seqObj "list" #[] 0)).update s.heap.objs.size (Obj.mapSeq (· ++ its.toArray))).push (seqObj "list" its.toArray 0)).get? (s.heap.objs.size + 1) = some (seqObj "list" its.toArray 0) := by
    rw [← sz]; exact Heap.get?_push_size _ rfl
  show wpAny _ _ _ _ _ { s with heap := ((s.heap.push (seqObj "list" #[] 0)).update s.heap.objs.size (Obj.mapSeq (· ++ its.toArray))).push (seqObj "list" its.toArray 0) }
  rw [sz]
  refine wpAny_bind (wpAny_holding (wpAny_call_entry slot_list_sort ⟨_, at1, rfl⟩ entry_list_sort (SK.plain_sort (r := fun _ => 0) at1 (by omega) (fun hc => absurd hc (by omega)) fun ps out a1 a2 _ => ⟨_, rfl, ?_⟩) (args_list_sort _)))
  have oz : out = its.toArray := few_out hl2 a1 a2
  refine wpAny_pure ⟨_, rfl, ?_⟩
  subst oz
  obtain ⟨ep, he⟩ := PyProof.Rows.sortedAll_at s.heap its its.toArray
  exact ⟨.ref (s.heap.objs.size + 1), upd H (s.heap.objs.size + 1) (.lst xs), I.laid (t' := s.toks) (fun _ _ => PyProof.Rows.sortedAll_old) (Nat.le_succ _) ⟨hz, its, ep, rv, he⟩, rfl, q _ (I.hok.fresh (Nat.le_succ _))⟩
end
end ZZ

set_option Elab.async false
set_option linter.all false
set_option maxRecDepth 100000
set_option maxHeartbeats 4000000
namespace ZZ
open PySem PySem.Spec PyProof.Rows L2
/-! ### xs[i], as a value -/
theorem get_listL {X : Cx} : PGet X (rIxL X.K) := by
  intro pins s σ H o i ov iv Q I ro ri h
  obtain ⟨p, xs, k, z, rfl, rfl, hq, he, q⟩ := h
  cases ro
  obtain ⟨t, rfl⟩ := ri
  obtain ⟨its, r, pl, hz⟩ := I.list hq
  obtain ⟨j, h1, h2, h3, h4, h5⟩ := atI_get he
  obtain ⟨w, ew, rw'⟩ := r.get h2
  have hl := r.length
  have hn := line63
  have fin : EP X pins σ Q w s := ⟨z, H, I, rw', q⟩
  by_cases h0 : 0 ≤ k
  · have hj : k.toNat = j := by
      rw [seqIndex_of h0 h5] at h1
      exact Option.some.inj h1
    exact wpAny_getItem_list pl.isList h0 (by omega) (by rw [hj]; simpa using ew) fin
  · have hj : (k + (its.toArray.size : Int)).toNat = j := by
      rw [seqIndex_neg (by omega) h4] at h1
      rw [List.size_toArray, ← hl]
      exact Option.some.inj h1
    exact wpAny_getItem_list_neg pl.isList (by omega) (by rw [List.size_toArray]; omega) (by omega) (by rw [hj]; simpa using ew) fin
end ZZ

set_option Elab.async false
set_option linter.all false
set_option maxRecDepth 100000
set_option maxHeartbeats 4000000
namespace DL
open PySem PySem.Spec PyProof.Rows L2 ZZ
section
variable {F : Fam} {E : XK} {a b c e tg : Expr} {es : List Expr} {A B : DE} {T U : DO} {R : DA} {pos p : Pos} {x : Str}
/-! ### enumerate -/
def enumD : Nat → List D → List D
  | _, [] => []
  | k, d :: l => pairD (.int k) d :: enumD (k + 1) l
theorem enumD_len : ∀ (k : Nat) (l : List D), (enumD k l).length = l.length
  | _, [] => rfl
  | k, d :: l => by simp [enumD, enumD_len (k + 1) l]
theorem enumD_get : ∀ (k : Nat) (l : List D) (i : Nat) (d : D), l[i]? = some d → (enumD k l)[i]? = some (pairD (.int ((k + i : Nat) : Int)) d)
  | _, [], _, _, h => by cases h
  | k, x :: l, 0, d, h => by cases h; rfl
  | k, x :: l, i + 1, d, h => by
    have := enumD_get (k + 1) l i d (by simpa using h)
    rw [show k + 1 + i = k + (i + 1) by omega] at this
    simpa [enumD] using this
theorem itd_enK {K : PySem.W.Frag} {p : Bool} {a : Addr} {B0 : Hp} {vs : List V} {l : List D} (h : sqK p K B0 a vs) (r : RpL K B0 vs l) : ItD K (ItenK K p a) B0 (enumD 0 l) where
  go := fun B H e1 e2 i hi => by
    rw [enumD_len, ← r.len] at hi
    exact ⟨vs, vs[i], sqK_ex (e1.trans e2) h, by simp [hi]⟩
  stop := fun B H e1 e2 => ⟨vs, sqK_ex (e1.trans e2) h, by rw [enumD_len, r.len]⟩
  yld := fun B H e1 e2 i x H' hi y => by
    obtain ⟨T, x1, rfl, hT, rfl, f1⟩ := y
    obtain ⟨d, g1, g2⟩ := r.get (f1 vs (sqK_ex (e1.trans e2) h))
    obtain ⟨g, z⟩ := pair_yld e2 hT (.int (i : Nat)) (g2.mono e1)
    refine ⟨_, pairD (.int (i : Nat)) d, ?_, g, z⟩
    have := enumD_get 0 l i d g1
    rw [Nat.zero_add] at this
    exact this
def dEnK (R : DA) : DI := fun xd Γ Rd => R xd Γ fun ws Γ1 => ∃ d l Γ2, fixL Γ1 ws = some ([d], Γ2) ∧ itemsOf d = some l ∧ Rd (enumD 0 l) Γ2
theorem pdi_enK {elts : List Expr} {kk : Nat} {tpos : Pos} (hg : ∀ j, Gl (F.X j) "enumerate") (hm : ∀ j, (F.X j).mg "enumerate" = none) (ha : PDA F E [a] R) (hs : ∀ j, starEach [a] (F.X j).env = [(false, eval a (F.X j).env)] := by intro _; rfl) : PDI F E (.Tuple elts kk tpos) (.Call (.Name "enumerate" p) [a] [] pos) (dEnK R) :=
  let ⟨_, pa, la⟩ := ha
  ⟨iEnK F.K _, fun j => F.k j ▸ pi_enK (hg j) (hm j) (pa j) (hs j), fun P hK hE Bv Γ σ H Rd R n h k => la P hK hE Bv Γ σ H _ _ n h fun ws Γ1 vs H1 B1 e1 n1 r1 h1 => by
    obtain ⟨d1, l, Γ2, f, i1, h1⟩ := h1
    obtain ⟨B2, e2, n2, r2⟩ := n1.fixedL r1 f
    cases r2 with
    | cons ra rr =>
      cases rr
      obtain ⟨p, a1, v1, rfl, hs1, hr1⟩ := rp_seqK ra i1
      rw [hK] at hs1 hr1
      exact ⟨p, a1, v1, rfl, sqK_ex n2.sub hs1, k _ Γ2 _ H1 B2 (e1.trans e2) n2 (by rw [hK]; exact itd_enK hs1 hr1) h1⟩⟩
/-! ### [..] * n -/
def dRep (T : DO) (B : DE) : DO := fun xd Γ Q => T xd Γ fun l Γ1 => B xd Γ1 fun w Γ2 => ∃ k : Nat, w = .dat (.int k) ∧ k ≤ 1000 ∧ l.length * k ≤ 100000 ∧ Q (List.replicate k l).flatten Γ2
theorem RpL.rep {K : PySem.W.Frag} {H : Hp} {vs : List V} {ds : List D} (r : RpL K H vs ds) : ∀ k : Nat, RpL K H (List.replicate k vs).flatten (List.replicate k ds).flatten
  | 0 => .nil
  | k + 1 => by
    rw [List.replicate_succ, List.replicate_succ, List.flatten_cons, List.flatten_cons]
    exact r.app (RpL.rep r k)
theorem pdo_rep (ha : PDO F E a T) (hb : PD F E b B) : PDO F E (.BinOp a .Mult b pos) (dRep T B) :=
  let ⟨_, pa, la⟩ := ha; let ⟨_, pb, lb⟩ := hb
  ⟨_, fun j => pe_op op_rep (pa j) (pb j), fun P hK hE Bv Γ σ H Qd Q n h k => la P hK hE Bv Γ σ H _ _ n h fun l Γ1 q vs H1 B1 e1 n1 z h1 => by
    obtain ⟨ex, n1', _⟩ := n1.show z
    refine lb P hK hE _ Γ1 σ H1 _ _ n1' h1 fun w Γ2 v H2 B2 e2 n2 r2 h2 => ?_
    obtain ⟨m, rfl, hm, hz, h2⟩ := h2
    cases r2
    have hq : H2 q = some (.lst vs) := n2.sub.lst (e2.lst upd_same)
    have rl : RpL P.K B2 vs l := z.rp.mono (ex.trans e2)
    refine ⟨q, m, vs, rfl, rfl, hq, by omega, by omega, ?_, fun q' hq' => ?_⟩
    · rw [rl.len, Int.toNat_natCast]
      exact Evl.sz_of hz
    · rw [Int.toNat_natCast]
      exact n2.newL (rl.rep m) ((e1.trans ex).trans e2) h2 k hq'⟩
/-! ### two new lists -/
def dCat2 (T U : DO) : DO := fun xd Γ Q => T xd Γ fun l Γ1 => U xd Γ1 fun m Γ2 => l.length + m.length ≤ 100000 ∧ Q (l ++ m) Γ2
theorem pdo_cat2 (ha : PDO F E a T) (hb : PDO F E b U) : PDO F E (.BinOp a .Add b pos) (dCat2 T U) :=
  let ⟨_, pa, la⟩ := ha; let ⟨_, pb, lb⟩ := hb
  ⟨_, fun j => pe_op op_cat (pa j) (pb j), fun P hK hE Bv Γ σ H Qd Q n h k => la P hK hE Bv Γ σ H _ _ n h fun l Γ1 q vs H1 B1 e1 n1 z h1 => by
    obtain ⟨ex, n1', _⟩ := n1.show z
    refine lb P hK hE _ Γ1 σ H1 _ _ n1' h1 fun m Γ2 q2 vs2 H2 B2 e2 n2 z2 h2 => ?_
    obtain ⟨hz, h2⟩ := h2
    have hq : H2 q = some (.lst vs) := n2.sub.lst (e2.lst upd_same)
    have rl : RpL P.K B2 vs l := z.rp.mono (ex.trans e2)
    exact ⟨q, q2, vs, vs2, rfl, rfl, hq, z2.at_, by rw [rl.len, z2.rp.len]; exact Evl.sz_of hz, fun q' hq' => n2.newL (rl.app z2.rp) ((e1.trans ex).trans e2) h2 k hq'⟩⟩
/-! ### xs[k] op= e -/
def dAugIx (i : Nat) (f : Int → Int → Int) (A B : DE) : DS := fun xd D Γ => dVar i xd Γ fun u Γ1 => u = .slot i ∧ B xd Γ1 fun wk Γ2 => ∃ k p l, wk = .dat (.int k) ∧ Γ2[i]? = some (.own p l) ∧ ∃ n, atI l k = some (.int n) ∧ A xd Γ2 fun w Γ3 => ∃ m j p l, w = .dat (.int m) ∧ Γ3[i]? = some (.own p l) ∧ ixN l.length k = some j ∧ D.nx (Γ3.set i (.own p (l.set j (.int (f n m)))))
theorem ls_augIx {P : Par} {te tk : TE} {i : Nat} {f : Int → Int → Int} (la : LE P te A) (lb : LE P tk B) : LS P (tAugS (tVar i) tk te (rIxL P.K) (ipI f) rSetL) (dAugIx i f A B) := fun Bv Γ σ H Dd D n h k => by
  refine le_var Bv Γ σ H _ _ n h fun u Γ1 o H1 B1 e1 n1 r1 h1 => ?_
  obtain ⟨rfl, h1⟩ := h1
  refine lb B1 Γ1 σ H1 _ _ n1 h1 fun wk Γ2 vk H2 B2 e2 n2 r2 h2 => ?_
  obtain ⟨kk, p, l, rfl, hl, m, hm, h2⟩ := h2
  cases r2
  obtain ⟨a', vs, g1, g2, g3, _, _⟩ := n2.own i p l hl
  have r1' : σ[i]? = some (some o) := r1
  rw [g1] at r1'
  cases r1'
  obtain ⟨v, hv, rv⟩ := g3.at_ hm
  cases rv
  refine ⟨a', vs, kk, .int m, rfl, rfl, .inl (.inl g2), hv, ?_⟩
  refine la B2 Γ2 σ H2 _ _ n2 h2 fun w Γ3 v3 H3 B3 e3 n3 r3 h3 => ?_
  obtain ⟨m3, j, p3, l3, rfl, hl3, hj, h3⟩ := h3
  cases r3
  obtain ⟨a3, vs3, k1, k2, k3, _, _⟩ := n3.own i p3 l3 hl3
  rw [g1] at k1
  cases k1
  exact ⟨m, m3, rfl, rfl, a', vs3, kk, j, rfl, rfl, k2, by rw [k3.len]; exact hj, k.nx _ σ _ B3 ((e1.trans e2).trans e3) (n3.write hl3 g1 (k3.setAt (.int _) j)) h3⟩
theorem pd_augIxAdd (i : Nat) {px tpos : Pos} (ha : PD F E e A) (hb : PD F E b B) (hN : ∀ j, (F.X j).N[i]? = some x := by intro _; rfl) (hv : ∀ j, Vis (F.X j).env.scope x := by first | exact fun _ => Or.inl rfl | exact fun _ => Or.inr (Or.inl rfl) | exact fun _ => Or.inr (Or.inr rfl)) (hd : (x == ("__debug__" : Str)) = false := by decide)
    (hcd : (x == ("__classdict__" : Str)) = false := by decide) (hs : ∀ ov iv new, augStore b ov iv new = (do holding [new, ov, iv] (setItem ov iv new); release [new, ov, iv] []; pure .next) := by intros; rfl) : PDS F E (.AugAssign (.Subscript (.Name x px) b tpos) .Add e pos) (dAugIx i (fun a b => a + b) A B) :=
  let ⟨_, pa, la⟩ := ha; let ⟨_, pb, lb⟩ := hb
  ⟨_, fun j => F.k j ▸ ps_augS (pe_var (hN j) (hv j) hd hcd) (pb j) get_listL (pa j) ip_add set_list hs, fun P hK hE => hK ▸ ls_augIx (la P hK hE) (lb P hK hE)⟩
/-! ### two bools -/
def rdEqB (neg : Bool) : D2 := fun Γ x y Q => ∃ p q : Bool, x = .dat (.bl p) ∧ y = .dat (.bl q) ∧ Q (.dat (.bl (if neg then p != q else p == q))) Γ
theorem rl_neB {P : Par} : RL P (rNeD P.K) (rdEqB true) := by
  intro Bv Γ σ H x y wx wy Qd Q n rx ry h k
  obtain ⟨p, q, rfl, rfl, h⟩ := h
  cases rx
  cases ry
  refine ⟨.bool p, .bool q, .bl p, .bl q, rfl, rfl, finD k (Ex.refl _) n (.bl _) ?_⟩
  have e : (!PyData.eqv (.bool p) (.bool q)) = (p != q) := by cases p <;> cases q <;> decide
  rw [e]
  exact h
theorem rl_eqB {P : Par} : RL P (rEqD P.K) (rdEqB false) := by
  intro Bv Γ σ H x y wx wy Qd Q n rx ry h k
  obtain ⟨p, q, rfl, rfl, h⟩ := h
  cases rx
  cases ry
  refine ⟨.bool p, .bool q, .bl p, .bl q, rfl, rfl, finD k (Ex.refl _) n (.bl _) ?_⟩
  have e : PyData.eqv (.bool p) (.bool q) = (p == q) := by cases p <;> cases q <;> decide
  rw [e]
  exact h
theorem pdt_neB (hu : ∀ j, (F.X j).A.units + 64 < cLine) (ha : PD F E a A) (hb : PD F E b B) : PDT F E (.Compare a [.NotEq] [b] pos) (dB (dOp (rdEqB true) A B)) := pdt_cmp2 (fun j => F.k j ▸ op_neD (hu j)) (fun P hK => by rw [← hK]; exact rl_neB) ha hb
theorem pdt_eqB (hu : ∀ j, (F.X j).A.units + 64 < cLine) (ha : PD F E a A) (hb : PD F E b B) : PDT F E (.Compare a [.Eq] [b] pos) (dB (dOp (rdEqB false) A B)) := pdt_cmp2 (fun j => F.k j ▸ op_eqD (hu j)) (fun P hK => by rw [← hK]; exact rl_eqB) ha hb
/-! ### isinstance(x, T), x of the built-in type T -/
def tyN : D → Option String
  | .non => some "NoneType"
  | .bl _ => some "bool"
  | .int _ => some "int"
  | .str _ => some "str"
  | .tup _ => some "tuple"
  | .lst _ => some "list"
  | _ => none
def dIsT (T : String) (A : DE) : DE := fun xd Γ Q => A xd Γ fun w Γ1 => ∃ d, asD Γ1 w = some d ∧ tyN d = some T ∧ Q (.dat (.bl true)) Γ1
theorem Rp.ty {P : Par} {Bv : Hp} {Γ : Gm} {σ : L2.St} {H : Hp} {v : V} {d : D} {S : String} (h : Rp P.K H v d) (t : tyN d = some S) : TyX P.K H v (.type S) := by
  cases h with
  | non => cases t; exact .base .non
  | bl b => cases t; exact .base (.bl b)
  | int i => cases t; exact .base (.int i)
  | str x => cases t; exact .base (.str x)
  | tup hs hr =>
    cases t
    rcases hs with (h | ⟨o, h⟩) | ⟨o, _, _, h, c, _⟩
    · exact .base (.tup h)
    · exact .fTuple h
    · exact .kTuple h c
  | lst hs hr =>
    cases t
    rcases hs with (h | ⟨o, h⟩) | ⟨o, _, _, h, c, _⟩
    · exact .base (.lst h)
    · exact .base (.frz h)
    · exact .kList h c
  | obj _ _ => cases t
  | opq _ => cases t
theorem pd_isT (T : String) {px pt pos' : Pos} {x : Str} (hg : ∀ j, Gl (F.X j) "isinstance") (hm : ∀ j, (F.X j).mg "isinstance" = none) (hg2 : ∀ j, Gl (F.X j) x) (hm2 : ∀ j, (F.X j).mg x = none) (hv2 : bootBuiltins x = some (.type T)) (ha : PD F E a A) (hd : (x == ("__debug__" : Str)) = false := by decide) (hn : x ≠ "__name__" := by decide)
    (he : ∀ j, starEach [a, .Name x pt] (F.X j).env = (false, eval a (F.X j).env) :: starEach [.Name x pt] (F.X j).env := by intro _; rfl) (he2 : ∀ j, starEach [.Name x pt] (F.X j).env = (false, eval (.Name x pt) (F.X j).env) :: starEach [] (F.X j).env := by intro _; rfl) (hpl : ∀ j, (backTo pos (starEach [.Name x pt] (F.X j).env)).any (·.1) = false := by intro _; rfl) :
    PD F E (.Call (.Name "isinstance" px) [a, .Name x pt] [] pos) (dIsT T A) :=
  let ⟨_, pa, la⟩ := ha
  ⟨tCB (rIsi F.K) (tCons _ (tCons (tC (.ty T)) tNil)), fun j => F.k j ▸ pe_callB (r := rIsi (F.X j).K) call_isi (hg j) (hm j) (by decide +kernel) (pa_cons (pa j) (pa_cons (pe_bltn (v := .ty T) (hg2 j) (hm2 j) hv2 rfl hn hd) pa_nil (he2 j)) (he j)) (by decide) (by decide) (he j) (hpl j), fun P hK hE Bv Γ σ H Qd Q n h k => la P hK hE Bv Γ σ H _ _ n h fun w Γ1 v H1 B1 e1 n1 r1 h1 => by
    obtain ⟨d, hd, ht, h1⟩ := h1
    have ty := (n1.full r1 hd).ty (P := P) (Bv := B1) (Γ := Γ1) (σ := σ) ht
    rw [hK] at ty
    exact ⟨v, .ty T, .type T, .type T, true, rfl, .ty T, ty, if_pos (beq_self_eq_true _), finD k e1 n1 (.bl true) h1⟩⟩
/-! ### sorted of rows of ints that ascend already */ -/
theorem perm_asc {α : Type} (c : α → Int) : ∀ {ys xs : List α}, ys.Perm xs → xs.Pairwise (fun a b => c a < c b) → ys.Pairwise (fun a b => c a ≤ c b) → ys = xs
  | ys, [], h, _, _ => h.eq_nil
  | ys, x :: xs, h, hx, hy => by
    obtain ⟨h1, h2⟩ := List.pairwise_cons.mp hx
    match ys, h, hy with
    | [], h, _ => exact absurd h.symm.eq_nil (by simp)
    | y :: ys, h, hy =>
      obtain ⟨g1, g2⟩ := List.pairwise_cons.mp hy
      have hm : y ∈ x :: xs := h.mem_iff.mp List.mem_cons_self
      have hm2 : x ∈ y :: ys := h.mem_iff.mpr List.mem_cons_self
      have e : y = x := by
        rcases List.mem_cons.mp hm with z | z
        · exact z
        · rcases List.mem_cons.mp hm2 with q | q
          · exact q.symm
          · have := h1 y z
            have := g1 x q
            omega
      subst e
      rw [perm_asc c (List.perm_cons y |>.mp h) h2 g2]
/-- rows of d ints from 0 to less than B, ascending; or fewer than two rows -/
def AscR (rows : List (List Int)) : Prop := rows.length < 2 ∨ ∃ (d : Nat) (B : Int), 1 ≤ d ∧ (∀ r ∈ rows, r.length = d ∧ TS.Bd B r) ∧ rows.Pairwise fun a b => TS.code B a < TS.code B b
def rdSortR : Gm → List Wv → (List D → Gm → Prop) → Prop := fun Γ ws Q => ∃ (w : Wv) (rows : List (List Int)), ws = [w] ∧ asD Γ w = some (.lst (rows.map tI)) ∧ rows.length < 64 ∧ AscR rows ∧ Q (rows.map tI) Γ
theorem rp_tups {K : PySem.W.Frag} {B H : Hp} (e : Ex B H) : ∀ {vs : List V} {rows : List (List Int)}, RpL K B vs (rows.map tI) → Paired (fun x ns => TupI K H x ns) vs rows
  | _, [], h => by cases h; exact .nil
  | _, r :: rows, h => by
    cases h with
    | cons h1 h2 =>
      cases h1 with
      | @tup a xs _ hs hr =>
        rw [hr.ints_of] at hs
        exact .cons ⟨a, rfl, ex_t e hs⟩ (rp_tups e h2)
theorem paired_mem {α β : Type} {R : α → β → Prop} : ∀ {xs : List α} {ys : List β}, Paired R xs ys → ∀ x ∈ xs, ∃ y ∈ ys, R x y
  | _, _, .nil, x, hx => by cases hx
  | _, _, .cons h t, x, hx => by
    rcases List.mem_cons.mp hx with rfl | hx
    · exact ⟨_, List.mem_cons_self, h⟩
    · obtain ⟨y, m, r⟩ := paired_mem t x hx
      exact ⟨y, List.mem_cons_of_mem _ m, r⟩
theorem same_rows {K : PySem.W.Frag} {H : Hp} {Bd : Int} {vs ys : List V} {rows : List (List Int)} (r : Paired (fun x ns => TupI K H x ns) vs rows) (inj : ∀ x n m, TupI K H x n → TupI K H x m → n = m) (hasc : rows.Pairwise fun a b => TS.code Bd a < TS.code Bd b) (hp : ys.Perm vs) (hy : ys.Pairwise fun x y => ∀ n m, TupI K H x n → TupI K H y m → TS.code Bd n ≤ TS.code Bd m) : ys = vs := by
  classical
  let c : V → Int := fun x => if h : ∃ n, TupI K H x n then TS.code Bd h.choose else 0
  have cq : ∀ x n, TupI K H x n → c x = TS.code Bd n := fun x n t => by
    have ex : ∃ n, TupI K H x n := ⟨n, t⟩
    show (if h : ∃ n, TupI K H x n then TS.code Bd h.choose else 0) = _
    rw [dif_pos ex, inj x _ _ ex.choose_spec t]
  have asc : ∀ {vs : List V} {rows : List (List Int)}, Paired (fun x ns => TupI K H x ns) vs rows → rows.Pairwise (fun a b => TS.code Bd a < TS.code Bd b) → vs.Pairwise fun x y => c x < c y := by
    intro vs rows r h
    induction r with
    | nil => exact List.Pairwise.nil
    | cons h1 h2 ih =>
      obtain ⟨g1, g2⟩ := List.pairwise_cons.mp h
      refine List.pairwise_cons.mpr ⟨fun y hy => ?_, ih g2⟩
      obtain ⟨m, hm, tm⟩ := paired_mem h2 y hy
      rw [cq _ _ h1, cq y m tm]
      exact g1 m hm
  refine perm_asc c hp (asc r hasc) (hy.imp_of_mem fun {x y} hx hy' h => ?_)
  obtain ⟨n, _, tn⟩ := paired_mem r x (hp.mem_iff.mp hx)
  obtain ⟨m, _, tm⟩ := paired_mem r y (hp.mem_iff.mp hy')
  rw [cq x n tn, cq y m tm]
  exact h n m tn tm
theorem ints_inj : ∀ {a b : List Int}, a.map V.int = b.map V.int → a = b
  | [], [], _ => rfl
  | [], _ :: _, h => by cases h
  | _ :: _, [], h => by cases h
  | x :: a, y :: b, h => by
    rw [List.map_cons, List.map_cons] at h
    injection h with h1 h2
    injection h1 with h1
    rw [h1, ints_inj h2]
def rSortR (K : PySem.W.Frag) : List V → Hp → VK → Prop := fun vs H Q => ∃ (a : Addr) (xs : List V) (rows : List (List Int)), vs = [V.ref a] ∧ SqL K H a xs ∧ xs.length < 64 ∧ Paired (fun x ns => TupI K H x ns) xs rows ∧ AscR rows ∧ ∀ p : Addr, H p = none → Q (.ref p) (upd H p (.lst xs))
theorem cr_sortR {X : Cx} : CallR X (.builtin "sorted") (rSortR X.K) := by
  intro pins s σ H vs us Q I r h
  obtain ⟨a, xs, rows, rfl, hs, h64, pr, h, q⟩ := h
  rcases h with h | ⟨d, B, hd, hb, asc⟩
  · exact cr_sort1 pins s σ H _ us Q I r ⟨a, xs, rfl, hs, by rw [Paired.length pr]; exact h, q⟩
  · refine cr_sortT (B := B) hd pins s σ H _ us Q I r ⟨a, xs, rfl, hs, h64, fun x hx => ?_, fun ys p hp hy hn => ?_⟩
    · obtain ⟨ns, m, t⟩ := paired_mem pr x hx
      exact ⟨ns, t, hb ns m⟩
    · rw [same_rows pr (fun x n m h1 h2 => ?_) asc hp hy]
      · exact q p hn
      · obtain ⟨t, rfl, h1⟩ := h1
        obtain ⟨t', e, h2⟩ := h2
        cases e
        have := I.tuple_inj h1 h2
        exact ints_inj this
theorem pdo_callBl {id : String} {r : List V → Hp → VK → Prop} {rd : Gm → List Wv → (List D → Gm → Prop) → Prop} (hc : ∀ j, CallR (F.X j) (.builtin id) r) (hl : ∀ P : Par, P.K = F.K → CLO P r rd) (hg : ∀ j, Gl (F.X j) x) (hm : ∀ j, (F.X j).mg x = none) (hv : bootBuiltins x = some (.builtin id)) (ha : PDA F E (e :: es) R) (hn : x ≠ "__name__" := by decide) (hdb : (x == ("__debug__" : Str)) = false := by decide)
    (he : ∀ j, starEach (e :: es) (F.X j).env = (false, eval e (F.X j).env) :: starEach es (F.X j).env := by intro _; rfl) (hpl : ∀ j, (backTo pos (starEach es (F.X j).env)).any (·.1) = false := by intro _; rfl) : PDO F E (.Call (.Name x p) (e :: es) [] pos) (dCO rd R) :=
  let ⟨_, pa, la⟩ := ha
  ⟨_, fun j => pe_callB (hc j) (hg j) (hm j) hv (pa j) hn hdb (he j) (hpl j), fun P hK hE => lo_CB (hl P hK) (la P hK hE)⟩
theorem pdo_sortR (hg : ∀ j, Gl (F.X j) "sorted") (hm : ∀ j, (F.X j).mg "sorted" = none) (ha : PDA F E [a] R) (he : ∀ j, starEach [a] (F.X j).env = (false, eval a (F.X j).env) :: starEach [] (F.X j).env := by intro _; rfl) : PDO F E (.Call (.Name "sorted" p) [a] [] pos) (dCO rdSortR R) :=
  pdo_callBl (fun j => F.k j ▸ cr_sortR) (fun P hK => by
    intro Bv Γ σ H vs ws Qd Q n r h k
    obtain ⟨w, rows, rfl, h1, h64, asc, h⟩ := h
    obtain ⟨v, rfl, rr⟩ := r.one
    obtain ⟨a, us, rfl, hs, hr⟩ := n.list rr h1
    rw [← hK]
    have hl : us.length = rows.length := by rw [hr.len, List.length_map]
    exact ⟨a, us, rows, rfl, hs, by rw [hl]; exact h64, rp_tups n.sub hr, asc, fun q hq => n.newL hr (Ex.refl _) h k hq⟩) hg hm (by decide +kernel) ha (by decide) (by decide) he
end
end DL

set_option Elab.async false
set_option linter.all false
set_option maxRecDepth 100000
set_option maxHeartbeats 4000000
/-! Loops and comprehensions over known lists: what is behind them by what is done so far. -/
namespace DL
open PySem PySem.Spec PyProof.Rows L2
theorem for_map {α : Type} {G : DG} {T : DS} {xd : Xd} {D : DEnds} (φ : α → DL.D) (S : List α → Gm → Prop) (l : List α) {Γ : Gm} (h0 : S [] Γ)
    (hs : ∀ pre x post Γ, l = pre ++ x :: post → S pre Γ → ∃ Γ', G (φ x) Γ = some Γ' ∧ ∀ L : Gm → Prop, (∀ Γ, S (pre ++ [x]) Γ → L Γ) → T xd { nx := L, ct := L, bk := D.nx, rt := D.rt } Γ') (h1 : ∀ Γ, S l Γ → D.nx Γ) : dLoop G T xd D (l.map φ) Γ := by
  have key : ∀ (post pre : List α) (Γ : Gm), l = pre ++ post → S pre Γ → dLoop G T xd D (post.map φ) Γ := by
    intro post
    induction post with
    | nil =>
      intro pre Γ e h
      rw [List.append_nil] at e
      subst e
      exact h1 Γ h
    | cons x post ih =>
      intro pre Γ e h
      obtain ⟨Γ', h2, h3⟩ := hs pre x post Γ e h
      exact ⟨Γ', h2, h3 _ fun Γ h4 => ih (pre ++ [x]) Γ (by rw [e, List.append_assoc]; rfl) h4⟩
  exact key l [] Γ rfl h0
/-- .. that may be left with break or return -/
theorem for_brk {α : Type} {G : DG} {T : DS} {xd : Xd} {D : DEnds} (φ : α → DL.D) (S : List α → Gm → Prop) (l : List α) {Γ : Gm} (h0 : S [] Γ)
    (hs : ∀ pre x post Γ, l = pre ++ x :: post → S pre Γ → ∃ Γ', G (φ x) Γ = some Γ' ∧ ∀ L : Gm → Prop, (∀ Γ, S (pre ++ [x]) Γ → L Γ) → T xd { nx := L, ct := L, bk := D.nx, rt := D.rt } Γ') (h1 : ∀ Γ, S l Γ → D.nx Γ) : dLoop G T xd D (l.map φ) Γ := for_map φ S l h0 hs h1
theorem lc_st {α : Type} {G : DG} {tt : DT} {A : DE} {vs : List Nat} {K : List D → Gm → Prop} (φ : α → D) (S : List α → List D → Gm → Prop) (l : List α) {acc : List D} {Γ : Gm} (h0 : S [] acc Γ)
    (hs : ∀ pre x post acc Γ, l = pre ++ x :: post → S pre acc Γ → ∃ Γ1, G (φ x) Γ = some Γ1 ∧ ∀ L : List D → Gm → Prop, (∀ acc Γ, S (pre ++ [x]) acc Γ → L acc Γ) → tt no Γ1 fun q Γ2 => if q = true then A no Γ2 fun w Γ3 => ∃ d Γ4, fix Γ3 w = some (d, Γ4) ∧ okW Γ4 vs = true ∧ L (acc ++ [d]) (wipeG Γ4 vs) else okW Γ2 vs = true ∧ L acc (wipeG Γ2 vs))
    (h1 : ∀ acc Γ, S l acc Γ → K acc Γ) : dLcR G tt A vs K (l.map φ) acc Γ := by
  have key : ∀ (post pre : List α) (acc : List D) (Γ : Gm), l = pre ++ post → S pre acc Γ → dLcR G tt A vs K (post.map φ) acc Γ := by
    intro post
    induction post with
    | nil =>
      intro pre acc Γ e h
      rw [List.append_nil] at e
      subst e
      exact h1 acc Γ h
    | cons x post ih =>
      intro pre acc Γ e h
      obtain ⟨Γ', h2, h3⟩ := hs pre x post acc Γ e h
      exact ⟨Γ', h2, h3 _ fun acc Γ h4 => ih (pre ++ [x]) acc Γ (by rw [e, List.append_assoc]; rfl) h4⟩
  exact key l [] acc Γ rfl h0
/-- [g x for x in l]: each item is worked out at the same Γ -/
theorem lc_map {α : Type} {G : DG} {A : DE} {vs : List Nat} {K : List D → Gm → Prop} (φ g : α → D) {Γ : Gm} (l : List α) {acc : List D}
    (hs : ∀ x ∈ l, ∀ acc, ∃ Γ1, G (φ x) Γ = some Γ1 ∧ ∀ L : List D → Gm → Prop, L (acc ++ [g x]) Γ → A no Γ1 fun w Γ3 => ∃ d Γ4, fix Γ3 w = some (d, Γ4) ∧ okW Γ4 vs = true ∧ L (acc ++ [d]) (wipeG Γ4 vs))
    (h1 : K (acc ++ l.map g) Γ) : dLcR G dYes A vs K (l.map φ) acc Γ := by
  refine lc_st φ (fun pre a Γ' => Γ' = Γ ∧ a = acc ++ pre.map g) l ⟨rfl, by simp⟩ ?_ ?_
  · rintro pre x post a Γ' e ⟨rfl, rfl⟩
    obtain ⟨Γ1, h2, h3⟩ := hs x (by rw [e]; simp) (acc ++ pre.map g)
    refine ⟨Γ1, h2, fun L hL => ?_⟩
    have q := h3 L (hL _ _ ⟨rfl, by simp⟩)
    exact q
  · rintro a Γ' ⟨rfl, rfl⟩
    exact h1
/-- [g x for x in l if p x] -/
theorem lc_filter {α : Type} {G : DG} {tt : DT} {A : DE} {vs : List Nat} {K : List D → Gm → Prop} (φ g : α → D) (p : α → Bool) {Γ : Gm} (l : List α) {acc : List D}
    (hs : ∀ x ∈ l, ∀ acc, ∃ Γ1, G (φ x) Γ = some Γ1 ∧ ∀ L : List D → Gm → Prop, L (acc ++ (if p x then [g x] else [])) Γ → tt no Γ1 fun q Γ2 => if q = true then A no Γ2 fun w Γ3 => ∃ d Γ4, fix Γ3 w = some (d, Γ4) ∧ okW Γ4 vs = true ∧ L (acc ++ [d]) (wipeG Γ4 vs) else okW Γ2 vs = true ∧ L acc (wipeG Γ2 vs))
    (h1 : K (acc ++ (l.filter p).map g) Γ) : dLcR G tt A vs K (l.map φ) acc Γ := by
  refine lc_st φ (fun pre a Γ' => Γ' = Γ ∧ a = acc ++ (pre.filter p).map g) l ⟨rfl, by simp⟩ ?_ ?_
  · rintro pre x post a Γ' e ⟨rfl, rfl⟩
    obtain ⟨Γ1, h2, h3⟩ := hs x (by rw [e]; simp) (acc ++ (pre.filter p).map g)
    refine ⟨Γ1, h2, fun L hL => h3 L (hL _ _ ⟨rfl, ?_⟩)⟩
    rw [List.filter_append, List.map_append, List.append_assoc]
    congr 2
    cases q : p x <;> simp [q]
  · rintro a Γ' ⟨rfl, rfl⟩
    exact h1
theorem rangeD_map (lo : Int) (n : Nat) : rangeD lo n = (List.range n).map fun i : Nat => D.int (lo + (i : Int)) := rfl
theorem rangeD_map0 (n : Nat) : rangeD 0 n = (List.range n).map fun i : Nat => D.int (i : Int) := by
  unfold rangeD
  refine List.map_congr_left fun i _ => ?_
  rw [Int.zero_add]
theorem zipD_map {α β : Type} (f : α → D) (g : β → D) : ∀ (l : List α) (m : List β), zipD (l.map f) (m.map g) = (l.zip m).map fun p => pairD (f p.1) (g p.2)
  | [], _ => rfl
  | _ :: _, [] => rfl
  | a :: l, b :: m => by
    have := zipD_map f g l m
    simp only [zipD, List.map_cons, List.zipWith_cons_cons, List.zip_cons_cons] at this ⊢
    rw [this]
theorem enumD_map {α : Type} (f : α → D) : ∀ (k : Nat) (l : List α), enumD k (l.map f) = (l.zipIdx k).map fun p => pairD (.int (p.2 : Int)) (f p.1)
  | _, [] => rfl
  | k, a :: l => by
    simp only [List.map_cons, enumD, List.zipIdx_cons, enumD_map f (k + 1) l]
/-- behind a comprehension in its head -/
theorem lc_go {I : DI} {G : DG} {tt : DT} {A : DE} {vs : List Nat} {xd : Xd} {Γ : Gm} {Q : List D → Gm → Prop} : dLc I G tt A vs xd Γ Q = I xd Γ fun xs Γ1 => okW Γ1 vs = true ∧ xs.length ≤ 100000 ∧ dLcR G tt A vs Q xs [] (wipeG Γ1 vs) := rfl
end DL

set_option Elab.async false
set_option linter.all false
set_option maxRecDepth 100000
set_option maxHeartbeats 4000000
namespace GG
open PySem PySem.Spec PyProof.Rows L2 DL QG
def AllC (cells : List (Str × Addr)) : List (Str × Nat) → Prop
  | [] => True
  | p :: r => (∃ c, cells.lookup p.1 = some c) ∧ AllC cells r
def AllF (X : Cx) (scope : Scope) : List (Str × Nat) → Prop
  | [] => True
  | p :: r => (X.N[p.2]? = some p.1 ∧ (p.1, NameKind.free) ∈ scope.names ∧ scope.names.lookup p.1 = some .free ∧ (X.env.scope.names.lookup p.1 = some .cell ∨ X.env.scope.names.lookup p.1 = some .free)) ∧ AllF X scope r
theorem allC_mem {cells : List (Str × Addr)} : ∀ {fv : List (Str × Nat)}, AllC cells fv → ∀ z ∈ fv.map (·.1), ∃ c, cells.lookup z = some c
  | [], _, z, h => by cases h
  | p :: r, h, z, hz => by
    rw [List.map_cons] at hz
    rcases List.mem_cons.mp hz with rfl | hz
    · exact h.1
    · exact allC_mem h.2 z hz
theorem allF_mem {X : Cx} {scope : Scope} : ∀ {fv : List (Str × Nat)}, AllF X scope fv → ∀ p ∈ fv, X.N[p.2]? = some p.1 ∧ (p.1, NameKind.free) ∈ scope.names ∧ scope.names.lookup p.1 = some .free ∧ (X.env.scope.names.lookup p.1 = some .cell ∨ X.env.scope.names.lookup p.1 = some .free)
  | [], _, z, h => by cases h
  | p :: r, h, z, hz => by
    rcases List.mem_cons.mp hz with rfl | hz
    · exact h.1
    · exact allF_mem h.2 z hz
theorem gsc_by {X : Cx} {scope : Scope} {own : List Str} {fv : List (Str × Nat)} (kind : scope.kind = .function) (co : scope.isCoroutine = false) (cell : ∀ y ∈ scope.names, y.2 ≠ .cell) (dot : scope.names.lookup (".0" : Str) = some NameKind.local)
    (free : ∀ y ∈ scope.names, y.2 = .free → y.1 ∈ fv.map (·.1)) (loc : ∀ x ∈ own, scope.names.lookup x = some .local) (hc : AllC X.env.cells fv) (hf : AllF X scope fv) : GSc X scope own fv :=
  ⟨kind, co, cell, dot, fun y hy e => allC_mem hc _ (free y hy e), loc, ⟨fun p hp => (allF_mem hf p hp).1, fun p hp => (allF_mem hf p hp).2.1, fun p hp => (allF_mem hf p hp).2.2.1, fun p hp => (allF_mem hf p hp).2.2.2⟩⟩
end GG
namespace DL
open PySem PySem.Spec PyProof.Rows L2
/-- a def that works out f: by its arguments, where pre holds -/
def sdF {α : Type} (enc : α → List D) (pre : α → Prop) (f : α → D) : Sd := fun ds Q _ => ∃ a, ds = enc a ∧ pre a ∧ Q (f a)
theorem sdF_mono {α : Type} {enc : α → List D} {pre : α → Prop} {f : α → D} : ∀ ds Q Q' E E', (∀ r, Q r → Q' r) → (∀ C fs, E C fs → E' C fs) → sdF enc pre f ds Q E → sdF enc pre f ds Q' E' := by
  rintro ds Q Q' E E' h1 _ ⟨a, e, hp, q⟩
  exact ⟨a, e, hp, h1 _ q⟩
section
variable {F : Fam} {E : XK} {e : Expr} {es : List Expr} {R : DA} {pos p : Pos} {x : Str} {k : Nat} {ps : List Str}
theorem pd_callF {α : Type} {enc : α → List D} {pre : α → Prop} {f : α → D} (hD : ∀ j, Dn (F.X j).prog (F.X j).w (F.X j).K (F.X j).mg (F.X j).base x k ps (spD (F.X j).K F.ts (sdF enc pre f))) (hr : ∀ j, Room k (F.X j).A)
    (ha : PDA F E (e :: es) R) (hg : ∀ j, Gl (F.X j) x := by intro _; rfl) (hdb : (x == ("__debug__" : Str)) = false := by decide) (he : ∀ j, starEach (e :: es) (F.X j).env = (false, eval e (F.X j).env) :: starEach es (F.X j).env := by intro _; rfl) (hpl : ∀ j, (backTo pos (starEach es (F.X j).env)).any (·.1) = false := by intro _; rfl) :
    PD F E (.Call (.Name x p) (e :: es) [] pos) (dCall (sdF enc pre f) R) := pd_callG hD sdF_mono hr ha hg hdb he hpl
end
/-! costs and counts of choices -/
abbrev Pats := List (Int × List Int)
def costM : Pats → List Int → Int
  | p :: ps, c :: cs => c * p.1 + costM ps cs
  | _, _ => 0
def goodM (j : Nat) : Pats → List Int → Int
  | p :: ps, c :: cs => c * p.2.getD j 0 + goodM j ps cs
  | _, _ => 0
def giveM (g : Nat) (ps : Pats) (cs : List Int) : List Int := (List.range g).map fun j => goodM j ps cs
theorem costM_snoc : ∀ (ps : Pats) (cs : List Int) (p : Int × List Int) (c : Int), ps.length = cs.length → costM (ps ++ [p]) (cs ++ [c]) = costM ps cs + c * p.1
  | [], [], p, c, _ => by simp [costM]
  | q :: ps, d :: cs, p, c, h => by
    have := costM_snoc ps cs p c (by simpa using h)
    simp only [List.cons_append, costM, this]
    omega
  | [], _ :: _, _, _, h => by cases h
  | _ :: _, [], _, _, h => by cases h
theorem goodM_snoc (j : Nat) : ∀ (ps : Pats) (cs : List Int) (p : Int × List Int) (c : Int), ps.length = cs.length → goodM j (ps ++ [p]) (cs ++ [c]) = goodM j ps cs + c * p.2.getD j 0
  | [], [], p, c, _ => by simp [goodM]
  | q :: ps, d :: cs, p, c, h => by
    have := goodM_snoc j ps cs p c (by simpa using h)
    simp only [List.cons_append, goodM, this]
    omega
  | [], _ :: _, _, _, h => by cases h
  | _ :: _, [], _, _, h => by cases h
theorem take_succ {α : Type} {l : List α} {k : Nat} (h : k < l.length) : l.take (k + 1) = l.take k ++ [l[k]] := by
  rw [List.take_add_one, List.getElem?_eq_getElem h]
  rfl
theorem costM_take {ps : Pats} {cs : List Int} {k : Nat} (h1 : k < ps.length) (h2 : k < cs.length) : costM (ps.take (k + 1)) (cs.take (k + 1)) = costM (ps.take k) (cs.take k) + cs[k] * ps[k].1 := by
  rw [take_succ h1, take_succ h2, costM_snoc _ _ _ _ (by rw [List.length_take, List.length_take]; omega)]
theorem goodM_take (j : Nat) {ps : Pats} {cs : List Int} {k : Nat} (h1 : k < ps.length) (h2 : k < cs.length) : goodM j (ps.take (k + 1)) (cs.take (k + 1)) = goodM j (ps.take k) (cs.take k) + cs[k] * ps[k].2.getD j 0 := by
  rw [take_succ h1, take_succ h2, goodM_snoc j _ _ _ _ (by rw [List.length_take, List.length_take]; omega)]
theorem take_of_eq {α β : Type} {l : List α} {m : List β} (h : m.length = l.length) : l.take m.length = l := by rw [h, List.take_length]
/-! rows of small sums -/
def grow (M : Int) (rows : List (List Int)) : List (List Int) := rows.flatMap fun r => (List.range (M - r.sum + 1).toNat).map fun (c : Nat) => r ++ [(c : Int)]
def rowsM (M : Int) : Nat → List (List Int)
  | 0 => [[]]
  | n + 1 => grow M (rowsM M n)
theorem grow_cons (M : Int) (r : List Int) (rows : List (List Int)) : grow M (r :: rows) = ((List.range (M - r.sum + 1).toNat).map fun (c : Nat) => r ++ [(c : Int)]) ++ grow M rows := rfl
theorem grow_app (M : Int) : ∀ (a b : List (List Int)), grow M (a ++ b) = grow M a ++ grow M b
  | [], b => rfl
  | r :: a, b => by rw [List.cons_append, grow_cons, grow_cons, grow_app M a b, List.append_assoc]
theorem rows_mem {M : Int} (hM : 0 ≤ M) : ∀ (n : Nat) (r : List Int), r ∈ rowsM M n ↔ r.length = n ∧ (∀ c ∈ r, 0 ≤ c) ∧ r.sum ≤ M
  | 0, r => by
    show r ∈ [[]] ↔ _
    rw [List.mem_singleton]
    constructor
    · rintro rfl; exact ⟨rfl, by simp, hM⟩
    · rintro ⟨h, _⟩; exact List.length_eq_zero_iff.mp h
  | n + 1, r => by
    show r ∈ (rowsM M n).flatMap _ ↔ _
    rw [List.mem_flatMap]
    constructor
    · rintro ⟨a, ha, h⟩
      obtain ⟨c, hc, rfl⟩ := List.mem_map.mp h
      obtain ⟨h1, h2, h3⟩ := (rows_mem hM n a).mp ha
      have hc' := List.mem_range.mp hc
      refine ⟨by simp [h1], fun x hx => ?_, ?_⟩
      · rcases List.mem_append.mp hx with z | z
        · exact h2 x z
        · rw [List.mem_singleton.mp z]; omega
      · simp only [List.sum_append, List.sum_cons, List.sum_nil]
        omega
    · rintro ⟨h1, h2, h3⟩
      have hne : r ≠ [] := fun e => by rw [e] at h1; cases h1
      obtain ⟨a, c, rfl⟩ : ∃ a c, r = a ++ [c] := ⟨r.dropLast, r.getLast hne, (List.dropLast_concat_getLast hne).symm⟩
      simp only [List.length_append, List.length_singleton] at h1
      simp only [List.sum_append, List.sum_cons, List.sum_nil] at h3
      have hc := h2 c (by simp)
      refine ⟨a, (rows_mem hM n a).mpr ⟨by omega, fun x hx => h2 x (by simp [hx]), by omega⟩, List.mem_map.mpr ⟨c.toNat, List.mem_range.mpr (by omega), by rw [Int.toNat_of_nonneg hc]⟩⟩
theorem sum_nonneg : ∀ {r : List Int}, (∀ c ∈ r, 0 ≤ c) → 0 ≤ r.sum
  | [], _ => by simp
  | a :: r, h => by
    rw [List.sum_cons]
    have h1 := h a (by simp)
    have h2 := sum_nonneg (r := r) fun c hc => h c (by simp [hc])
    omega
theorem le_sum : ∀ {r : List Int}, (∀ c ∈ r, 0 ≤ c) → ∀ c ∈ r, c ≤ r.sum
  | a :: r, h, c, hc => by
    rw [List.sum_cons]
    have h1 := h a (by simp)
    have h2 := sum_nonneg (r := r) fun c hc => h c (by simp [hc])
    rcases List.mem_cons.mp hc with rfl | hc
    · omega
    · have := le_sum (r := r) (fun c hc => h c (by simp [hc])) c hc
      omega
theorem code_snoc (B c : Int) : ∀ r : List Int, TS.code B (r ++ [c]) = TS.code B r * B + c
  | [] => by simp [TS.code]
  | d :: r => by
    rw [List.cons_append]
    show d * B ^ (r ++ [c]).length + TS.code B (r ++ [c]) = (d * B ^ r.length + TS.code B r) * B + c
    rw [code_snoc B c r, List.length_append, List.length_singleton, Int.pow_succ, Int.add_mul, Int.mul_assoc]
    omega
theorem rows_asc {M : Int} (hM : 0 ≤ M) : ∀ n, (rowsM M n).Pairwise fun a b => TS.code (M + 1) a < TS.code (M + 1) b
  | 0 => List.pairwise_singleton _ _
  | n + 1 => by
    have ih := rows_asc hM n
    have hb : ∀ r ∈ rowsM M n, 0 ≤ r.sum := fun r hr => sum_nonneg ((rows_mem hM n r).mp hr).2.1
    show (grow M (rowsM M n)).Pairwise _
    generalize rowsM M n = rows at ih hb
    induction rows with
    | nil => exact List.Pairwise.nil
    | cons r rows ih2 =>
      obtain ⟨h1, h2⟩ := List.pairwise_cons.mp ih
      rw [grow_cons, List.pairwise_append]
      refine ⟨?_, ih2 h2 fun x hx => hb x (List.mem_cons_of_mem _ hx), ?_⟩
      · rw [List.pairwise_map]
        refine List.Pairwise.imp (fun {a b} h => ?_) List.pairwise_lt_range
        rw [code_snoc, code_snoc]
        omega
      · intro x hx y hy
        obtain ⟨c, hc, rfl⟩ := List.mem_map.mp hx
        obtain ⟨r', hr', hy⟩ := List.mem_flatMap.mp hy
        obtain ⟨c', _, rfl⟩ := List.mem_map.mp hy
        have g1 := h1 r' hr'
        have g2 := hb r List.mem_cons_self
        have hc2 := List.mem_range.mp hc
        rw [code_snoc, code_snoc]
        have : TS.code (M + 1) r * (M + 1) + (M + 1) ≤ TS.code (M + 1) r' * (M + 1) := by
          have := Int.mul_le_mul_of_nonneg_right (show TS.code (M + 1) r + 1 ≤ TS.code (M + 1) r' by omega) (show (0 : Int) ≤ M + 1 by omega)
          rw [Int.add_mul, Int.one_mul] at this
          exact this
        omega
theorem rows_ascR {M : Int} (hM : 0 ≤ M) (n : Nat) : AscR (rowsM M n) := by
  cases n with
  | zero => exact .inl (show 1 < 2 from Nat.lt_succ_self 1)
  | succ n =>
    refine .inr ⟨n + 1, M + 1, by omega, fun r hr => ?_, rows_asc hM _⟩
    obtain ⟨h1, h2, h3⟩ := (rows_mem hM _ r).mp hr
    refine ⟨h1, fun m hm => ⟨h2 m hm, ?_⟩⟩
    have := le_sum h2 m hm
    omega
theorem rows_few : ∀ n ≤ 3, ∀ M ≤ 4, (rowsM ((M : Nat) : Int) n).length < 64 := by decide +kernel
end DL
namespace DL
def frS : Option Sl → Bool
  | some (.own true _) => false
  | some (.heap _) => false
  | some _ => true
  | none => false
theorem freeOk_fr (Γ : Gm) (i : Nat) : freeOk Γ i = frS Γ[i]? := by
  unfold freeOk frS
  cases Γ[i]? with
  | none => rfl
  | some s => cases s with
    | non => rfl
    | dat d => rfl
    | own b l => cases b <;> rfl
    | heap _ => rfl
theorem frS_dat (d : D) : frS (some (.dat d)) = true := rfl
theorem frS_non : frS (some .non) = true := rfl
theorem frS_own (l : List D) : frS (some (.own false l)) = true := rfl
theorem frS_soft {c : Sl} (h : soft c = true) : frS (some c) = true := by
  cases c with
  | non => rfl
  | dat d => rfl
  | own b l => cases h
  | heap _ => cases h
theorem grow_len_app (M : Int) (a b : List (List Int)) : (grow M a).length ≤ (grow M (a ++ b)).length := by
  rw [grow_app, List.length_append]
  exact Nat.le_add_right _ _
end DL
namespace DL
theorem range_split {n x : Nat} {pre post : List Nat} (e : List.range n = pre ++ x :: post) : x = pre.length ∧ pre.length < n := by
  have hl := congrArg List.length e
  simp only [List.length_range, List.length_append, List.length_cons] at hl
  have hlt : pre.length < n := by omega
  have h := congrArg (fun l : List Nat => l[pre.length]?) e
  simp only [List.getElem?_range hlt, List.getElem?_append_right (Nat.le_refl _), Nat.sub_self, List.getElem?_cons_zero] at h
  exact ⟨(Option.some.inj h).symm, hlt⟩
end DL
namespace DL
theorem sdF_go {α : Type} {enc : α → List D} {pre : α → Prop} {f : α → D} {Q : D → Prop} {E : Xd} (a : α) (hp : pre a) (q : Q (f a)) : sdF enc pre f (enc a) Q E := ⟨a, rfl, hp, q⟩
end DL
/-! places in known lists -/
namespace DL
open PySem PySem.Spec PyProof.Rows L2
theorem split_at {α : Type} {l pre post : List α} {x : α} (e : l = pre ++ x :: post) : ∃ h : pre.length < l.length, x = l[pre.length] := by
  subst e
  exact ⟨by simp, by simp⟩
theorem zip_split {α β : Type} {l : List α} {m : List β} {pre post : List (α × β)} {x : α × β} (e : l.zip m = pre ++ x :: post) : ∃ (h1 : pre.length < l.length) (h2 : pre.length < m.length), x = (l[pre.length], m[pre.length]) := by
  obtain ⟨h, hx⟩ := split_at e
  rw [List.length_zip] at h
  exact ⟨by omega, by omega, by rw [hx, List.getElem_zip]⟩
theorem idx_split {α : Type} {l : List α} {pre post : List (α × Nat)} {x : α × Nat} (e : l.zipIdx 0 = pre ++ x :: post) : ∃ h : pre.length < l.length, x = (l[pre.length], pre.length) := by
  obtain ⟨h, hx⟩ := split_at e
  rw [List.length_zipIdx] at h
  refine ⟨h, ?_⟩
  rw [hx, List.getElem_zipIdx, Nat.zero_add]
/-- the first j by a, the others by b -/
def mixM (g j : Nat) (a b : Nat → Int) : List Int := (List.range g).map fun i => if i < j then a i else b i
theorem mix_len (g j : Nat) (a b : Nat → Int) : (mixM g j a b).length = g := by simp [mixM]
theorem mix_at {g j i : Nat} {a b : Nat → Int} (h : i < g) : (mixM g j a b)[i]'(by rw [mix_len]; exact h) = if i < j then a i else b i := by simp [mixM]
theorem mix_set {g j : Nat} {a b : Nat → Int} (h : j < g) : ((mixM g j a b).map D.int).set j (.int (a j)) = (mixM g (j + 1) a b).map D.int := by
  refine List.ext_getElem (by simp [mixM]) fun i h1 h2 => ?_
  rw [List.getElem_set]
  simp only [List.getElem_map, mixM, List.getElem_range]
  by_cases q : j = i
  · subst q
    rw [if_pos rfl, if_pos (Nat.lt_succ_self _)]
  · rw [if_neg q]
    by_cases q2 : i < j
    · rw [if_pos q2, if_pos (by omega)]
    · rw [if_neg q2, if_neg (by omega)]
theorem mix_zero (g : Nat) (a b : Nat → Int) : mixM g 0 a b = (List.range g).map b := by simp [mixM]
theorem mix_full (g : Nat) (a b : Nat → Int) : mixM g g a b = (List.range g).map a := by
  refine List.map_congr_left fun i h => ?_
  rw [if_pos (List.mem_range.mp h)]
end DL

set_option Elab.async false
set_option linter.all false
set_option maxRecDepth 100000
set_option maxHeartbeats 4000000
/-! is, is not of bools; tuple * int. -/
namespace DL
open PySem PySem.Spec PyProof.Rows L2
def rdIsB (neg : Bool) : D2 := fun Γ x y Q => ∃ p q : Bool, x = .dat (.bl p) ∧ y = .dat (.bl q) ∧ Q (.dat (.bl (if neg then p != q else p == q))) Γ
theorem rl_isB {P : Par} : RL P rIsB (rdIsB false) := by
  intro Bv Γ σ H x y wx wy Qd Q n rx ry h k
  obtain ⟨p, q, rfl, rfl, h⟩ := h
  cases rx
  cases ry
  refine ⟨p, q, rfl, rfl, finD k (Ex.refl _) n (.bl _) ?_⟩
  have e : decide (p = q) = (p == q) := by cases p <;> cases q <;> decide
  rw [e]
  exact h
theorem rl_notB {P : Par} : RL P rNotB (rdIsB true) := by
  intro Bv Γ σ H x y wx wy Qd Q n rx ry h k
  obtain ⟨p, q, rfl, rfl, h⟩ := h
  cases rx
  cases ry
  refine ⟨p, q, rfl, rfl, finD k (Ex.refl _) n (.bl _) ?_⟩
  have e : (!decide (p = q)) = (p != q) := by cases p <;> cases q <;> decide
  rw [e]
  exact h
section
variable {F : Fam} {E : XK} {a b : Expr} {A B : DE} {pos : Pos}
theorem pd_isB (ha : PD F E a A) (hb : PD F E b B) (h1 : behindInMarks .Is b = false := by first | exact nomark _ | rfl) : PD F E (.Compare a [.Is] [b] pos) (dOp (rdIsB false) A B) := pd_cmp (fun _ => op_isBl) (fun _ _ => rl_isB) ha hb h1
theorem pd_notB (ha : PD F E a A) (hb : PD F E b B) (h1 : behindInMarks .IsNot b = false := by first | exact nomark _ | rfl) : PD F E (.Compare a [.IsNot] [b] pos) (dOp (rdIsB true) A B) := pd_cmp (fun _ => op_notBl) (fun _ _ => rl_notB) ha hb h1
theorem pdt_isB (ha : PD F E a A) (hb : PD F E b B) (h1 : behindInMarks .Is b = false := by first | exact nomark _ | rfl) : PDT F E (.Compare a [.Is] [b] pos) (dB (dOp (rdIsB false) A B)) := pdt_cmp2 (fun _ => op_isBl) (fun _ _ => rl_isB) ha hb h1
theorem pdt_notB (ha : PD F E a A) (hb : PD F E b B) (h1 : behindInMarks .IsNot b = false := by first | exact nomark _ | rfl) : PDT F E (.Compare a [.IsNot] [b] pos) (dB (dOp (rdIsB true) A B)) := pdt_cmp2 (fun _ => op_notBl) (fun _ _ => rl_notB) ha hb h1
end
/-! ### tuple * int -/
theorem tuple_mul1 (l : Addr) (items : Array Value) (n : Nat) (dd : Option Addr) (sl : Array (Option Value)) (u : Tok) :
    Meets (Builtin.«tuple.__mul__» ⟨[.ref l, .int 1 u], []⟩) (fun _ R s => s.heap.get? l = some { cls := .type "tuple", dict := dd, data := .seq items n, slots := sl } ∧ R (.ok (.ret (Value.ref l))) s) :=
  .of_wp fun prog w A R s h => by
    obtain ⟨hp, g, d, tk, os⟩ := s
    obtain ⟨hl, h⟩ := h
    have f1 := AutoSeq1.idx_int
    have c1 : (items.isEmpty || (1 : Int) == 1) = true := by simp
    wp_walk using wpAny_loadPart' hl
    exact ⟨_, rfl, h⟩
def rRepT1 (K : PySem.W.Frag) : R2 := fun x y H Q => ∃ l k xs, x = .ref l ∧ y = .int k ∧ SqT K H l xs ∧ xs ≠ [] ∧ 1 ≤ k ∧ k ≤ 1000 ∧ xs.length ≤ 1000 ∧ (k = 1 → Q (.ref l) H) ∧ (2 ≤ k → ∀ p, H p = none → Q (.ref p) (upd H p (.tup (List.replicate k.toNat xs).flatten)))
theorem op_repT1 {X : Cx} : OpR X (binaryOp .Mult) (rRepT1 X.K) := by
  intro pins s σ H x y v u Q I rx ry h
  obtain ⟨l, k, xs, rfl, rfl, hT, hne, h1, h2, hz, q1, q2⟩ := h
  by_cases e : k = 1
  · subst e
    cases rx
    obtain ⟨t, rfl⟩ := ry
    obtain ⟨its, r, ⟨⟨cls, dd, data, sl⟩, ho, hc, n, hd⟩, hs⟩ := I.tuple hT
    simp only at hc hd
    subst hc hd
    refine wpAny_binaryOp_repeat_ref (T := "tuple") (U := "int") (by decide) ⟨_, ho, rfl⟩ (fun s' => typeIs_int s' 1 t) noFill_tuple_mul F.fills_int_mul F.slot_int_rmul repeat_tuple F.slot_int_index.lookup
      (call_meets F.slot_int_rmul (typeIs_int s 1 t) F.entry_int_rmul (F.args_int_rmul_2 _ _) (int_rmul_tuple 1 t l its.toArray n dd sl)
        ⟨ho, rfl, ⟨_, ho, rfl⟩, call_meets F.slot_tuple_mul ⟨_, ho, rfl⟩ F.entry_tuple_mul (F.args_tuple_mul_2 _ _) (tuple_mul1 l its.toArray n dd sl t) ⟨ho, ?_⟩⟩)
    exact ⟨.ref l, H, I, rfl, q1 rfl⟩
  · exact op_repT pins s σ H _ _ v u Q I rx ry ⟨l, k, xs, rfl, rfl, hT, hne, by omega, h2, hz, q2 (by omega)⟩
def rdRepT : D2 := fun Γ x y Q => ∃ (l : List D) (k : Nat), x = .dat (.tup l) ∧ y = .dat (.int k) ∧ l ≠ [] ∧ 1 ≤ k ∧ k ≤ 1000 ∧ l.length ≤ 1000 ∧ Q (.dat (.tup (List.replicate k l).flatten)) Γ
theorem rl_repT {P : Par} : RL P (rRepT1 P.K) rdRepT := by
  intro Bv Γ σ H x y wx wy Qd Q n rx ry h k
  obtain ⟨l, m, rfl, rfl, hne, h1, h2, hz, h⟩ := h
  have rx' : Rp P.K Bv x (.tup l) := rx
  cases ry
  cases rx' with
  | @tup a xs _ hs hr =>
    refine ⟨a, m, xs, rfl, rfl, ex_t n.sub hs, fun e => hne (hr.nil_iff.mp e), by omega, by omega, by rw [hr.len]; exact hz, fun e => ?_, fun _ p hp => ?_⟩
    · obtain rfl : m = 1 := by omega
      rw [List.replicate_one, List.flatten_cons, List.flatten_nil, List.append_nil] at h
      exact finD k (Ex.refl _) n rx h
    · rw [Int.toNat_natCast]
      exact n.newT (hr.rep m) (Ex.refl _) h k hp
section
variable {F : Fam} {E : XK} {a b : Expr} {A B : DE} {pos : Pos}
theorem pd_repT (ha : PD F E a A) (hb : PD F E b B) : PD F E (.BinOp a .Mult b pos) (dOp rdRepT A B) := pd_op (fun j => F.k j ▸ op_repT1) (fun P hK => by rw [← hK]; exact rl_repT) ha hb
end
end DL

set_option Elab.async false
set_option linter.all false
set_option maxRecDepth 100000
set_option maxHeartbeats 4000000
/-! a, b = e. -/
namespace DL
open PySem PySem.Spec PyProof.Rows L2
section
variable {F : Fam} {E : XK} {e tg : Expr} {A : DE} {pos : Pos} {G : DG} {ix : List Nat}
def dAsgT (A : DE) (G : DG) : DS := fun xd D Γ => A xd Γ fun w Γ1 => ∃ d Γ2 Γ3, fix Γ1 w = some (d, Γ2) ∧ G d Γ2 = some Γ3 ∧ D.nx Γ3
theorem pd_asgT {elts : List Expr} {k : Nat} {tp : Pos} (he : PD F E e A) (hg : PDG F (.Tuple elts k tp) G ix) (hs : ∀ j, swapsWithSole [.Tuple elts k tp] e pos.line (F.X j).env = pure false := by intro _; rfl) (hw : ∀ j, swappedStores [.Tuple elts k tp] e (F.X j).env = pure none := by intro _; rfl) (h1 : ∀ j, (assignEach [.Tuple elts k tp] (F.X j).env).map (·.2) = [assign (.Tuple elts k tp) (F.X j).env] := by intro _; rfl) : PDS F E (.Assign [.Tuple elts k tp] e pos) (dAsgT A G) :=
  let ⟨te, p, l⟩ := he; let ⟨gt, pg, lg⟩ := hg
  ⟨tAsg te gt, fun j => ps_asg (p j) (pg j) (hs j) (hw j) (h1 j), fun P hK hE Bv Γ σ H Dd D n h k => l P hK hE Bv Γ σ H _ _ n h fun w Γ1 v H1 B1 e1 n1 r1 h1 => by
    obtain ⟨d, Γ2, Γ3, f, g, h2⟩ := h1
    obtain ⟨B2, e2, n2, r2⟩ := n1.fixed r1 f
    exact lg P hK B2 Γ2 σ H1 v d Γ3 _ n2 r2 g fun σ2 n3 _ => k.nx Γ3 σ2 H1 B2 (e1.trans e2) n3 h2⟩
end
end DL

set_option Elab.async false
set_option linter.all false
set_option maxRecDepth 100000
set_option maxHeartbeats 4000000
/-! isinstance(x, T), both answers. -/
namespace DL
open PySem PySem.Spec PyProof.Rows L2
def dIsTB (T : String) (A : DE) : DE := fun xd Γ Q => A xd Γ fun w Γ1 => ∃ d S b, asD Γ1 w = some d ∧ tyN d = some S ∧ kitB S T = some b ∧ Q (.dat (.bl b)) Γ1
section
variable {F : Fam} {E : XK} {a : Expr} {A : DE} {pos : Pos}
theorem pd_isTB (T : String) {px pt pos' : Pos} {x : Str} (hg : ∀ j, Gl (F.X j) "isinstance") (hm : ∀ j, (F.X j).mg "isinstance" = none) (hg2 : ∀ j, Gl (F.X j) x) (hm2 : ∀ j, (F.X j).mg x = none) (hv2 : bootBuiltins x = some (.type T)) (ha : PD F E a A) (hd : (x == ("__debug__" : Str)) = false := by decide) (hn : x ≠ "__name__" := by decide)
    (he : ∀ j, starEach [a, .Name x pt] (F.X j).env = (false, eval a (F.X j).env) :: starEach [.Name x pt] (F.X j).env := by intro _; rfl) (he2 : ∀ j, starEach [.Name x pt] (F.X j).env = (false, eval (.Name x pt) (F.X j).env) :: starEach [] (F.X j).env := by intro _; rfl) (hpl : ∀ j, (backTo pos (starEach [.Name x pt] (F.X j).env)).any (·.1) = false := by intro _; rfl) :
    PD F E (.Call (.Name "isinstance" px) [a, .Name x pt] [] pos) (dIsTB T A) :=
  let ⟨_, pa, la⟩ := ha
  ⟨tCB (rIsi F.K) (tCons _ (tCons (tC (.ty T)) tNil)), fun j => F.k j ▸ pe_callB (r := rIsi (F.X j).K) call_isi (hg j) (hm j) (by decide +kernel) (pa_cons (pa j) (pa_cons (pe_bltn (v := .ty T) (hg2 j) (hm2 j) hv2 rfl hn hd) pa_nil (he2 j)) (he j)) (by decide) (by decide) (he j) (hpl j), fun P hK hE Bv Γ σ H Qd Q n h k => la P hK hE Bv Γ σ H _ _ n h fun w Γ1 v H1 B1 e1 n1 r1 h1 => by
    obtain ⟨d, S, b, hd, ht, hb, h1⟩ := h1
    have ty := (n1.full r1 hd).ty (P := P) (Bv := B1) (Γ := Γ1) (σ := σ) ht
    rw [hK] at ty
    exact ⟨v, .ty T, .type S, .type T, b, rfl, .ty T, ty, kit_ty hb, finD k e1 n1 (.bl b) h1⟩⟩
end
end DL

set_option Elab.async false
set_option linter.all false
set_option maxRecDepth 100000
set_option maxHeartbeats 4000000
/-! a, b = e, e a list. -/
namespace DL
open PySem PySem.Spec PyProof.Rows L2
section
variable {F : Fam} {pos : Pos}
def dgLst (m : Nat) (Gs : DGs) : DG := fun d Γ => match d with
  | .lst l => if l.length = m then Gs l Γ else none
  | _ => none
theorem pdg_unl {es : List Expr} {k : Nat} {m : Nat} {Gs : DGs} {ix : List Nat} (hc : ∀ j, (F.X j).calm = true := by intro _; rfl) (h : PDGs F es Gs ix) (hn : ∀ j, (assignEach es (F.X j).env).length = m := by intro _; rfl) (hst : ∀ j, (assignEach es (F.X j).env).findIdx? (·.1) = none := by intro _; rfl) : PDG F (.Tuple es k pos) (dgLst m Gs) ix :=
  let ⟨_, p, l⟩ := h
  ⟨gUnl F.K m _, fun j => F.k j ▸ pg_unl (hc j) (p j) (hn j) (hst j), fun P hK Bv Γ σ H v d Γ' Q n r h k => by
    cases r with
    | lst hs hr =>
      rename_i a vs ds
      have h' : (if ds.length = m then Gs ds Γ else none) = some Γ' := h
      split at h'
      · rename_i hm
        rw [hK] at hs
        exact ⟨a, vs, rfl, ex_l n.sub hs, by rw [hr.len]; exact hm, l P hK Bv Γ σ H vs ds Γ' Q n hr h' k⟩
      · cases h'
    | _ => cases h⟩
end
end DL

set_option Elab.async false
set_option linter.all false
set_option maxRecDepth 100000
set_option maxHeartbeats 4000000
/-! t[::-1], t a tuple. -/
namespace HT
open PySem PySem.Calls PyProof.Rows
section
variable {prog : Program} {w : World} {A : Around} {E : Value → Shared → Prop} {s : Shared}
theorem fm_congr {α β : Type} {f g : α → Option β} : ∀ {l : List α}, (∀ x ∈ l, f x = g x) → l.filterMap f = l.filterMap g
  | [], _ => rfl
  | a :: l, h => by
    have h1 := h a (by simp)
    have h2 := fm_congr (l := l) fun x hx => h x (by simp [hx])
    simp only [List.filterMap_cons, h1, h2]
theorem pick_back (xs : Array Value) : ((List.range xs.size).filterMap fun (m : Nat) => xs[(((xs.size : Int) - 1) + (m : Int) * -1).toNat]?).toArray = xs.toList.reverse.toArray := by
  have h := pick_gen xs.toList.reverse.toArray 0 xs.size
  have e : (List.range xs.size).filterMap (fun (m : Nat) => xs[(((xs.size : Int) - 1) + (m : Int) * -1).toNat]?) = (List.range xs.size).filterMap (fun (m : Nat) => (xs.toList.reverse.toArray)[(((0 : Nat) : Int) + (m : Int) * 1).toNat]?) := by
    refine fm_congr fun m hm => ?_
    have hm := List.mem_range.mp hm
    have e1 : (((xs.size : Int) - 1) + (m : Int) * -1).toNat = xs.size - 1 - m := by omega
    have e2 : (((0 : Nat) : Int) + (m : Int) * 1).toNat = m := by omega
    rw [e1, e2]
    have e3 : (xs.toList.reverse.toArray)[m]? = xs.toList.reverse[m]? := by simp
    rw [e3, List.getElem?_reverse (by rw [Array.length_toList]; exact hm), Array.length_toList, Array.getElem?_toList]
  rw [e, h]
  show ((xs.toList.reverse.drop 0).take xs.size).toArray = _
  rw [List.drop_zero, List.take_of_length_le (by rw [List.length_reverse, Array.length_toList]; exact Nat.le_refl _)]
theorem sliceApplied_back {sl : Addr} {vl vu vs : Value} {n : Nat} {Q : Int × Int × Nat → Shared → Prop} (hs : s.heap.IsSliceOf sl vl vu vs) (pl : IsPart vl none) (pu : IsPart vu none) (ps : IsPart vs (some (-1)))
    (h : Q ((n : Int) - 1, -1, n) s) : wpAny (model prog w) A (Builtin.Slice.sliceApplied (.ref sl) (pure (n : Int))) Q E s := by
  obtain ⟨os, hos, hcs, hds⟩ := id hs
  unfold Builtin.Slice.sliceApplied Builtin.Slice.sliceFields
  refine wpAny_bind (wpAny_bind (wpAny_field hos hds (x := vl) rfl (wpAny_bind (wpAny_field hos hds (x := vu) rfl (wpAny_bind (wpAny_field hos hds (x := vs) rfl (wpAny_pure ?_)))))))
  refine wpAny_bind (slicePart_ ps ?_)
  show wpAny _ _ (if ((-1 : Int) == 0) = true then _ else _) _ _ s
  rw [if_neg (by decide)]
  refine wpAny_bind (slicePart_ pl (wpAny_bind (slicePart_ pu (wpAny_bind (wpAny_pure ?_)))))
  have e : Builtin.Slice.sliceAdjust none none (-1) (n : Int) = ((n : Int) - 1, -1) := rfl
  show wpAny _ _ (match Builtin.Slice.sliceAdjust none none (-1) (n : Int) with | (lo, hi) => pure (lo, (-1 : Int), Builtin.Slice.slicePlaces lo hi (-1))) _ _ s
  rw [e]
  have e2 : Builtin.Slice.slicePlaces ((n : Int) - 1) (-1) (-1) = n := by
    unfold Builtin.Slice.slicePlaces
    rw [if_neg (by decide)]
    split
    · show ((((n : Int) - 1) - -1 - 1) / 1 + 1).toNat = n
      rw [Int.ediv_one]
      omega
    · omega
  show wpAny _ _ (pure ((n : Int) - 1, (-1 : Int), Builtin.Slice.slicePlaces ((n : Int) - 1) (-1) (-1))) _ _ s
  rw [e2]
  exact wpAny_pure h
theorem getItem_tuple_back {t sl : Addr} {items : Array Value} {vl vu vs : Value} {Q : Value → Shared → Prop} (ht : IsTup s.heap t items) (hs : s.heap.IsSliceOf sl vl vu vs) (pl : IsPart vl none) (pu : IsPart vu none) (ps : IsPart vs (some (-1)))
    (h : Q (.ref s.heap.objs.size) { s with heap := s.heap.push { cls := .type "tuple", data := .seq items.toList.reverse.toArray } })
    (hsz : items.size ≤ sizeLine) : wpAny (model prog w) A (getItem (.ref t) (.ref sl)) Q E s := by
  have htake : sizeOk (.seq items.toList.reverse.toArray) := by
    show items.toList.reverse.toArray.size ≤ sizeLine
    rw [List.size_toArray, List.length_reverse, Array.length_toList]
    omega
  obtain ⟨os, hos, hcs, hds⟩ := id hs
  have hTs : s.TypeIs (.ref sl) "slice" := ⟨os, hos, hcs⟩
  unfold getItem
  try with_reducible refine wpAny_holding ?_
  first | refine wpAny_bind (wpAny_pure ?_) | skip
  refine wpAny_bind (wpAny_sequenceKey ht.typeIs (by decide) ?_)
  refine wpAny_bind (wpAny_callSpecial?_slot (name := Str.ofString "__getitem__") ht.typeIs PyProof.Rows.slot_tuple_getitem
    (wpAny_call_entry PyProof.Rows.slot_tuple_getitem ht.typeIs entry_tuple_getitem ?_ (args_tuple_getitem _ _)))
  show wpAny _ _ (Builtin.Tuple.tupleItemsOf (.ref t) >>= _) _ _ s
  refine wpAny_bind (tupleItemsOf_ ht ?_)
  refine wpAny_bind (wpAny_typeOf hTs ?_)
  rw [if_pos (by decide)]
  refine wpAny_bind (sliceApplied_back hs pl pu ps ?_)
  have hno : ¬ ((((items.size : Int) - 1) == 0 && (-1 : Int) == 1 && items.size == items.size) = true) := by
    intro q
    rw [Bool.and_eq_true, Bool.and_eq_true] at q
    exact absurd q.1.2 (by decide)
  show wpAny _ _ (if (((items.size : Int) - 1) == 0 && (-1 : Int) == 1 && items.size == items.size) = true then _ else _) _ _ s
  rw [if_neg hno, pick_back]
  first
    | exact wpAny_bind (m := Builtin.Tuple.tupleExact _) (wpAny_newObj_type (wpAny_pure ⟨_, rfl, wpAny_pure h⟩) htake)
    | exact wpAny_bind (m := Builtin.Tuple.tupleExact _) (wpAny_newObj_type (wpAny_bind (wpAny_pure (wpAny_pure ⟨_, rfl, wpAny_pure h⟩))) htake)
    | exact wpAny_bind (wpAny_bind (m := Builtin.Tuple.tupleExact _) (wpAny_newObj_type (wpAny_pure (wpAny_pure ⟨_, rfl, wpAny_pure h⟩)) htake))
    | exact wpAny_bind (wpAny_bind (m := Builtin.Tuple.tupleExact _) (wpAny_newObj_type (wpAny_pure ⟨_, rfl, wpAny_pure h⟩) htake))
end
end HT
namespace L2
open PySem PySem.Spec PyProof.Rows
section
variable {X : Cx}
def tRevT (K : PySem.W.Frag) (te : TE) : TE := fun σ H Q => te σ H fun x H1 => ∃ a xs, x = .ref a ∧ SqT K H1 a xs ∧ ∀ p, H1 p = none → Q (.ref p) (upd H1 p (.tup xs.reverse))
theorem pe_revT {e : Expr} {te : TE} {k : Nat} {p1 p2 p3 pos : Pos} (he : PE X e te) : PE X (.Subscript e (.Slice none none (some (.UnaryOp .USub (.Constant (.int 1) k p1) p2)) p3) pos) (tRevT X.K te) := by
  refine ⟨fun pins s σ H Q I h => ?_⟩
  refine Subscript_ (thn (he.run pins s σ H _ I h) fun v s1 ⟨x, H1, I1, r1, q1⟩ => ?_)
  obtain ⟨a, xs, ex, hx, q⟩ := q1
  subst ex
  cases r1
  have hst : PO X (some (.UnaryOp .USub (.Constant (.int 1) k p1) p2)) (tPart (tUn (rU fun i => .int (-i)) (tC (.int 1)))) := po_some (pe_un un_neg pe_int)
  refine wpAny_Slice (thn (po_none.run pins s1 σ H1 (fun o H2 => o = none ∧ H2 = H1) I1 ⟨rfl, rfl⟩) fun vl s2 ⟨l, H2, I2, pl, el, e2⟩ => ?_)
  subst el e2
  refine thn (po_none.run pins s2 σ H2 (fun o H3 => o = none ∧ H3 = H2) I2 ⟨rfl, rfl⟩) fun vu s3 ⟨u, H3, I3, pu, eu, e3⟩ => ?_
  subst eu e3
  refine thn (hst.run pins s3 σ H3 (fun o H4 => o = some (-1) ∧ H4 = H3) I3 ⟨1, rfl, -1, rfl, rfl, rfl⟩) fun vs s4 ⟨o, H4, I4, ps, eo, e4⟩ => ?_
  subst eo e4
  have I5 : Inv X pins σ H4 { s4 with heap := s4.heap.push { cls := .type "slice", data := .fields #[vl, vu, vs] } } := I4.kept (t' := s4.toks) fun b ob q => Heap.get?_push_of_some _ q
  obtain ⟨its, r, ht, hz⟩ := I5.tuple hx
  show wpAny (model X.prog X.w) X.A (subscriptTail e (.Slice none none (some (.UnaryOp .USub (.Constant (.int 1) k p1) p2)) p3) (.ref a) (.ref s4.heap.objs.size)) (EP X pins σ Q) X.xe { s4 with heap := s4.heap.push { cls := .type "slice", data := .fields #[vl, vu, vs] } }
  refine tail_any (ops := [.ref a, .ref s4.heap.objs.size]) ht.typeIs (PyProof.Rows.slot_tuple_getitem.lookup) ?_ (by with_unfolding_all rfl)
  have hlen : its.toArray.size = xs.length := by rw [List.size_toArray]; exact r.length.symm
  refine HT.getItem_tuple_back ht (Heap.IsSliceOf.new _ vl vu vs) pl pu ps ?_ (by rw [hlen]; exact hz)
  refine ⟨.ref _, _, I5.laid (t' := s4.toks) (o := .tup xs.reverse) (fun b ob q => Heap.get?_push_of_some _ q) (Nat.le_refl _) ?_, rfl, q _ (I5.hok.fresh (Nat.le_refl _))⟩
  exact ⟨by rw [List.length_reverse]; exact hz, _, r.reverse, IsTup.new _ _⟩
end
end L2
namespace DL
open PySem PySem.Spec PyProof.Rows L2
section
variable {F : Fam} {E : XK} {a : Expr} {A : DE} {pos : Pos}
def dRevT (A : DE) : DE := fun xd Γ Q => A xd Γ fun w Γ1 => ∃ l, w = .dat (.tup l) ∧ Q (.dat (.tup l.reverse)) Γ1
theorem pd_revT {k : Nat} {p1 p2 p3 : Pos} (ha : PD F E a A) : PD F E (.Subscript a (.Slice none none (some (.UnaryOp .USub (.Constant (.int 1) k p1) p2)) p3) pos) (dRevT A) :=
  let ⟨_, pa, la⟩ := ha
  ⟨_, fun j => F.k j ▸ pe_revT (pa j), fun P hK hE Bv Γ σ H Qd Q n h k => by
    refine la P hK hE Bv Γ σ H _ _ n h fun w Γ1 v H1 B1 e1 n1 r1 h1 => ?_
    obtain ⟨l, rfl, h1⟩ := h1
    have r3 : Rp P.K B1 v (.tup l) := r1
    cases r3 with
    | @tup a' xs _ hs hr =>
      have hr' : RpL P.K B1 xs l := hr
      rw [hK] at hs
      refine ⟨a', xs, rfl, ex_t n1.sub hs, fun p hp => ?_⟩
      exact n1.newT hr'.rev e1 h1 k hp⟩
end
end DL

set_option Elab.async false
set_option linter.all false
set_option maxRecDepth 100000
set_option maxHeartbeats 4000000
/-! Objects of one's own beside the slots: their contents stand in the frame while they are changed, then they are shown. -/
namespace DL
open PySem PySem.Spec PyProof.Rows L2
def orH (F G : Hp) : Hp := fun b => match F b with
  | some u => some u
  | none => G b
theorem orH_some {F G : Hp} {b : Addr} {u : HO} (h : F b = some u) : orH F G b = some u := by
  unfold orH
  rw [h]
theorem orH_none {F G : Hp} {b : Addr} (h : F b = none) : orH F G b = G b := by
  unfold orH
  rw [h]
theorem orH_left {F G : Hp} {b : Addr} (h : orH F G b = none) : F b = none := by
  cases q : F b with
  | none => rfl
  | some u => rw [orH_some q] at h; cases h
theorem orH_right {F G : Hp} {b : Addr} (h : orH F G b = none) : G b = none := by
  rw [orH_none (orH_left h)] at h
  exact h
/-- P while the objects of G are in work -/
def Par.obs (P : Par) (G : Hp) : Par where
  K := P.K
  F := orH P.F G
  ts := P.ts
  tab := fun T hT => let ⟨ps, h1, h2⟩ := P.tab T hT; ⟨ps, orH_some h1, h2⟩
  pin := P.pin
  B0 := P.B0
  Ed := no
  E := E0
  xok := fun _ _ _ _ _ _ z => z.elim
section
variable {P : Par} {Bv : Hp} {Γ : Gm} {σ : L2.St} {H G : Hp}
theorem En.obsIn (n : En P Bv Γ σ H) (hG : ∀ b o, G b = some o → H b = some o) (hB : ∀ b, G b ≠ none → Bv b = none) (hO : ∀ (i : Nat) (p : Bool) (l : List D) (a : Addr), Γ[i]? = some (.own p l) → σ[i]? = some (some (.ref a)) → G a = none) (hR : ∀ (i : Nat) (M : Mm), Γ[i]? = some (.heap M) → ∀ b, InReg M H b → G b = none) : En (P.obs G) Bv Γ σ H where
  len := n.len
  base := n.base
  sub := n.sub
  frm := fun b o e => by
    have e' : orH P.F G b = some o := e
    cases q : P.F b with
    | some u =>
      rw [orH_some q] at e'
      cases e'
      exact n.frm b _ q
    | none =>
      rw [orH_none q] at e'
      exact .inl (hG b o e')
  dj := fun b z => by
    have z' : orH P.F G b ≠ none := z
    cases q : P.F b with
    | some u => exact n.dj b (by rw [q]; exact fun y => nomatch y)
    | none =>
      rw [orH_none q] at z'
      exact hB b z'
  dat := n.dat
  own := fun i p l h => by
    obtain ⟨a, vs, g1, g2, g3, g4, g5⟩ := n.own i p l h
    refine ⟨a, vs, g1, g2, g3, g4, ?_⟩
    show orH P.F G a = none
    rw [orH_none g5]
    exact hO i p l a h g1
  inj := n.inj
  pin := n.pin
  hf := n.hf.to (fun _ _ h => h) (Ex.refl _) (fun _ _ _ _ _ => rfl) (fun i M hM b hb f v => ⟨by
    show orH P.F G b = none
    rw [orH_none f]
    exact hR i M hM b hb, v⟩) (fun _ _ _ _ _ k => k)
theorem En.obsOut (n : En (P.obs G) Bv Γ σ H) : En P Bv Γ σ H where
  len := n.len
  base := n.base
  sub := n.sub
  frm := fun b o e => n.frm b o (orH_some e)
  dj := fun b z => n.dj b (by
    show orH P.F G b ≠ none
    cases q : P.F b with
    | none => exact absurd q z
    | some u => rw [orH_some q]; exact fun y => nomatch y)
  dat := n.dat
  own := fun i p l h => by
    obtain ⟨a, vs, g1, g2, g3, g4, g5⟩ := n.own i p l h
    exact ⟨a, vs, g1, g2, g3, g4, orH_left g5⟩
  inj := n.inj
  pin := n.pin
  hf := n.hf.to (fun _ _ h => h) (Ex.refl _) (fun _ _ _ _ _ => rfl) (fun i M hM b hb f v => ⟨orH_left f, v⟩) (fun _ _ _ _ _ k => k)
theorem En.obsAt (n : En (P.obs G) Bv Γ σ H) (hF : ∀ b, G b ≠ none → P.F b = none) {a : Addr} {vs : List V} (h : G a = some (.lst vs)) : H a = some (.lst vs) :=
  n.frm.get (by show orH P.F G a = _; rw [orH_none (hF a (by rw [h]; exact fun y => nomatch y))]; exact h) fun _ z => nomatch z
theorem En.obsSet {a : Addr} {vs vs' : List V} (n : En (P.obs G) Bv Γ σ H) (hF : ∀ b, G b ≠ none → P.F b = none) (h : G a = some (.lst vs)) : En (P.obs (upd G a (.lst vs'))) Bv Γ σ (upd H a (.lst vs')) := by
  have hFa : P.F a = none := hF a (by rw [h]; exact fun y => nomatch y)
  have hBa : Bv a = none := n.dj a (by show orH P.F G a ≠ none; rw [orH_none hFa, h]; exact fun y => nomatch y)
  exact {
    len := n.len
    base := n.base
    sub := fun b u e => by
      have : b ≠ a := fun z => by rw [z, hBa] at e; cases e
      rw [upd_ne this]
      exact n.sub b u e
    frm := fun b u e => by
      have e' : orH P.F (upd G a (.lst vs')) b = some u := e
      by_cases q : b = a
      · subst q
        rw [orH_none hFa, upd_same] at e'
        rw [upd_same]
        exact .inl e'
      · rw [upd_ne q]
        refine n.frm b u ?_
        show orH P.F G b = some u
        cases w : P.F b with
        | some u' => rw [orH_some w] at e' ⊢; exact e'
        | none => rw [orH_none w, upd_ne q] at e'; rw [orH_none w]; exact e'
    dj := fun b z => by
      by_cases q : b = a
      · rw [q]; exact hBa
      · refine n.dj b fun y => z ?_
        have y' : orH P.F G b = none := y
        show orH P.F (upd G a (.lst vs')) b = none
        rw [orH_none (orH_left y'), upd_ne q]
        exact orH_right y'
    dat := n.dat
    own := fun i q l hq => by
      obtain ⟨c, us, g1, g2, g3, g4, g5⟩ := n.own i q l hq
      have g5' : orH P.F G c = none := g5
      have ne : c ≠ a := fun z => by rw [z] at g5'; rw [orH_right g5'] at h; cases h
      refine ⟨c, us, g1, by rw [upd_ne ne]; exact g2, g3, g4, ?_⟩
      show orH P.F (upd G a (.lst vs')) c = none
      rw [orH_none (orH_left g5'), upd_ne ne]
      exact orH_right g5'
    inj := n.inj
    pin := n.pin
    hf := by
      have na : ∀ (i : Nat) (M : Mm), Γ[i]? = some (.heap M) → ∀ b, InReg M H b → b ≠ a := fun i M hM b hb z => by
        have f : orH P.F G b = none := ((n.hf.2 i M hM).2 b hb).1
        rw [z] at f
        rw [orH_right f] at h
        cases h
      exact n.hf.to (fun _ _ h => h) (Ex.refl _) (fun i M hM b hb => upd_ne (na i M hM b hb)) (fun i M hM b hb f v => ⟨by
        show orH P.F (upd G a (.lst vs')) b = none
        have f : orH P.F G b = none := f
        rw [orH_none (orH_left f), upd_ne (na i M hM b hb)]
        exact orH_right f, v⟩) (fun _ _ _ _ _ k => k) }
/-- they are done, and to be seen -/
theorem En.obsShow (n : En (P.obs G) Bv Γ σ H) (hF : ∀ b, G b ≠ none → P.F b = none) : Ex Bv (orH Bv G) ∧ En P (orH Bv G) Γ σ H := by
  have hGB : ∀ b, G b ≠ none → Bv b = none := fun b z => n.dj b (by show orH P.F G b ≠ none; rw [orH_none (hF b z)]; exact z)
  have ex : Ex Bv (orH Bv G) := .of fun b o e => orH_some e
  refine ⟨ex, ⟨n.len, n.base.trans ex, fun b o e => ?_, fun b o e => n.frm b o (orH_some e), fun b z => ?_, fun i d h => ?_, fun i p l h => ?_, n.inj, n.pin, n.hf.to (fun _ _ h => h) ex (fun _ _ _ _ _ => rfl) (fun i M hM b hb f v => ⟨orH_left f, by rw [orH_none v]; exact orH_right f⟩) (fun _ _ _ _ _ k => k)⟩⟩
  · cases q : Bv b with
    | some u =>
      rw [orH_some q] at e
      cases e
      exact n.sub b _ q
    | none =>
      rw [orH_none q] at e
      refine n.frm b o ?_
      show orH P.F G b = some o
      rw [orH_none (hF b (by rw [e]; exact fun y => nomatch y))]
      exact e
  · have hB : Bv b = none := n.dj b (by
      show orH P.F G b ≠ none
      cases q : P.F b with
      | none => exact absurd q z
      | some u => rw [orH_some q]; exact fun y => nomatch y)
    rw [orH_none hB]
    cases q : G b with
    | none => rfl
    | some u => exact absurd (hF b (by rw [q]; exact fun y => nomatch y)) z
  · obtain ⟨v, h1, h2⟩ := n.dat i d h
    exact ⟨v, h1, h2.mono ex⟩
  · obtain ⟨a, vs, g1, g2, g3, g4, g5⟩ := n.own i p l h
    refine ⟨a, vs, g1, g2, g3.mono ex, ?_, orH_left g5⟩
    rw [orH_none g4]
    exact orH_right g5
end
end DL

set_option Elab.async false
set_option linter.all false
set_option maxRecDepth 100000
set_option maxHeartbeats 4000000
/-! len(set(rows)), rows a list of tuples of ints. -/
namespace L2
open PySem PySem.Spec PyProof.Rows
section
variable {X : Cx}
def tLenSetT (K : PySem.W.Frag) (ta : TE) : TE := fun σ H Q => ta σ H fun x H1 => ∃ (l : Addr) (ks : List (Addr × List Int)), x = V.ref l ∧ SqL K H1 l (ks.map fun p => V.ref p.1) ∧ (∀ p ∈ ks, SqT K H1 p.1 (p.2.map V.int)) ∧ ks.length < 64 ∧
  ∀ (L : List (List Int)), L.Nodup → (∀ r, r ∈ L ↔ r ∈ ks.map (·.2)) → Q (.int L.length) H1
theorem pe_lenSetT {a : Expr} {ta : TE} {p p2 q pos : Pos} (hc : X.calm = true) (hu : X.A.units + 64 < cLine) (hg : Gl X "len") (hm : X.mg "len" = none) (hg2 : Gl X "set") (hm2 : X.mg "set" = none) (ha : PE X a ta)
    (na : starEach [a] X.env = (false, eval a X.env) :: starEach [] X.env := by rfl) : PE X (.Call (.Name "len" p) [.Call (.Name "set" p2) [a] [] q] [] pos) (tLenSetT X.K ta) := by
  refine ⟨fun pins s σ H Q I h => ?_⟩
  refine Call_ (ld_blt I hg hm PySem.boot_len ?_)
  refine PyProof.Rows.callWith_builtin1 (PyProof.Rows.args_cons ?_ rfl) rfl rfl
  refine Call_ (ld_blt I hg2 hm2 PyProof.Rows.boot_set ?_)
  refine PyProof.Rows.callWith_type1 (PyProof.Rows.args_cons (thn (ha.run pins s σ H _ I h) fun v s1 ⟨x, H1, I1, r1, q1⟩ => PyProof.Rows.args_nil ?_) na) na rfl
  obtain ⟨l, ks, rfl, hq, hk, hf, q1⟩ := q1
  cases r1
  obtain ⟨its, rv, pl, hz⟩ := I1.list hq
  refine call_set_tups (P := X.prog) (w := X.w) ks (I1.ok.hd hc) pl.isList (by simpa using refs_of_vals rv) (fun p hp => I1.isT (hk p hp)) hf (by omega) fun h' tk L es ep t R g k => ?_
  refine PyProof.Rows.args_nil ?_
  obtain ⟨o, ho, hex, hd⟩ := R.ob
  have I2 : Inv X pins σ H1 { s1 with heap := h', toks := tk } := I1.kept k
  have hsz : es.size = L.length := by
    have h := congrArg List.length R.rows
    unfold rowsOf at h
    rw [Array.length_toList, List.length_map] at h
    exact h
  have hfew := R.few
  refine call_len_set ho hex hd ?_ (by rw [hsz]; omega) ⟨.int L.length, H1, I2.tok _, ⟨_, by rw [hsz]⟩, ?_⟩
  · exact SetTR.fits (s := { s1 with heap := h', toks := tk }) R
  · have := q1 (L.map (·.2)) R.nd fun r => ⟨fun hr => ?_, fun hr => ?_⟩
    · rw [List.length_map] at this
      exact this
    · obtain ⟨p, hp, rfl⟩ := List.mem_map.mp hr
      exact List.mem_map_of_mem (List.mem_of_mem_take (g.sub p hp))
    · obtain ⟨p, hp, rfl⟩ := List.mem_map.mp hr
      exact g.all p (by rw [List.take_length]; exact hp)
end
end L2

namespace DL
open PySem PySem.Spec PyProof.Rows L2
theorem rows_ks {K : PySem.W.Frag} {B : Hp} : ∀ (vs : List V) (rows : List (List Int)), RpL K B vs (rows.map tI) → ∃ ks : List (Addr × List Int), vs = ks.map (fun p => V.ref p.1) ∧ rows = ks.map (·.2) ∧ ∀ p ∈ ks, SqT K B p.1 (p.2.map V.int)
  | _, [], h => by
    cases h
    exact ⟨[], rfl, rfl, fun _ h => by cases h⟩
  | _, r :: rows, h => by
    rw [List.map_cons] at h
    cases h with
    | @cons v vs _ _ hv hr =>
      obtain ⟨ks, e1, e2, e3⟩ := rows_ks vs rows hr
      cases hv with
      | @tup a xs _ hs hx =>
        have := RpL.ints_of hx
        subst this
        refine ⟨(a, r) :: ks, by rw [e1]; rfl, by rw [e2]; rfl, fun p hp => ?_⟩
        rcases List.mem_cons.mp hp with rfl | hp
        · exact hs
        · exact e3 p hp
/-! how many there are without those that come again -/
theorem nd_le {α : Type} [DecidableEq α] : ∀ (L M : List α), L.Nodup → (∀ x ∈ L, x ∈ M) → L.length ≤ M.length
  | [], _, _, _ => Nat.zero_le _
  | a :: L, M, h, hm => by
    rw [List.nodup_cons] at h
    have ha := hm a (by simp)
    have := nd_le L (M.erase a) h.2 fun x hx => by
      have : x ≠ a := fun z => h.1 (z ▸ hx)
      exact (List.mem_erase_of_ne this).mpr (hm x (by simp [hx]))
    have hl := List.length_erase_of_mem ha
    have hp := List.length_pos_of_mem ha
    simp only [List.length_cons]
    omega
theorem not_nd {α : Type} [DecidableEq α] : ∀ (M : List α), ¬ M.Nodup → ∃ a, a ∈ M ∧ a ∈ M.erase a
  | [], h => absurd List.nodup_nil h
  | b :: M, h => by
    by_cases hb : b ∈ M
    · exact ⟨b, by simp, by rw [List.erase_cons_head]; exact hb⟩
    · have hM : ¬ M.Nodup := fun z => h (List.nodup_cons.mpr ⟨hb, z⟩)
      obtain ⟨a, h1, h2⟩ := not_nd M hM
      have ne : b ≠ a := fun z => hb (z ▸ h1)
      refine ⟨a, by simp [h1], ?_⟩
      rw [List.erase_cons_tail (by simpa using ne)]
      exact List.mem_cons_of_mem _ h2
theorem nd_iff {α : Type} [DecidableEq α] {L M : List α} (hL : L.Nodup) (h : ∀ x, x ∈ L ↔ x ∈ M) : L.length = M.length ↔ M.Nodup := by
  constructor
  · intro e
    cases Decidable.em M.Nodup with
    | inl z => exact z
    | inr z =>
      obtain ⟨a, h1, h2⟩ := not_nd M z
      have := nd_le L (M.erase a) hL fun x hx => by
        by_cases e : x = a
        · rw [e]; exact h2
        · exact (List.mem_erase_of_ne e).mpr ((h x).mp hx)
      have hl := List.length_erase_of_mem h1
      have hp := List.length_pos_of_mem h1
      omega
  · intro z
    have a := nd_le L M hL fun x hx => (h x).mp hx
    have b := nd_le M L z fun x hx => (h x).mpr hx
    omega
section
variable {F : Fam} {E : XK} {a : Expr} {A : DE} {pos p p2 q : Pos}
def dLenSet (A : DE) : DE := fun xd Γ Q => A xd Γ fun w Γ1 => ∃ rows : List (List Int), asD Γ1 w = some (.lst (rows.map tI)) ∧ rows.length < 64 ∧ ∀ n : Nat, (n = rows.length ↔ rows.Nodup) → Q (.dat (.int (n : Int))) Γ1
theorem pd_lenSet (hc : ∀ j, (F.X j).calm = true := by intro _; rfl) (hu : ∀ j, (F.X j).A.units + 64 < cLine) (hg : ∀ j, Gl (F.X j) "len") (hm : ∀ j, (F.X j).mg "len" = none) (hg2 : ∀ j, Gl (F.X j) "set") (hm2 : ∀ j, (F.X j).mg "set" = none) (ha : PD F E a A)
    (na : ∀ j, starEach [a] (F.X j).env = (false, eval a (F.X j).env) :: starEach [] (F.X j).env := by intro _; rfl) : PD F E (.Call (.Name "len" p) [.Call (.Name "set" p2) [a] [] q] [] pos) (dLenSet A) :=
  let ⟨_, pa, la⟩ := ha
  ⟨_, fun j => F.k j ▸ pe_lenSetT (hc j) (hu j) (hg j) (hm j) (hg2 j) (hm2 j) (pa j) (na j), fun P hK hE Bv Γ σ H Qd Q n h k => by
    refine la P hK hE Bv Γ σ H _ _ n h fun w Γ1 v H1 B1 e1 n1 r1 h1 => ?_
    obtain ⟨rows, hd, h64, h1⟩ := h1
    obtain ⟨a', us, rfl, hs, hr⟩ := n1.list r1 hd
    obtain ⟨ks, e2, e3, e4⟩ := rows_ks us rows hr
    subst e2 e3
    rw [hK] at hs e4
    refine ⟨a', ks, rfl, hs, fun p hp => ex_t n1.sub (e4 p hp), by rw [List.length_map] at h64; exact h64, fun L hL hm => ?_⟩
    refine finD k e1 n1 (.int _) (h1 L.length ?_)
    exact nd_iff hL hm⟩
end
end DL

set_option Elab.async false
set_option linter.all false
set_option maxRecDepth 100000
set_option maxHeartbeats 4000000
/-! A def whose last statement returns a new list, which the caller then holds alone. -/
namespace DL
open PySem PySem.Spec PyProof.Rows L2
/-- a new list for the caller alone, by a def that may write its first argument -/
def spBO (K : PySem.W.Frag) (ts : List Addr) (sd : SdB) : Sp := fun vs H Q E => ∃ (a : Addr) (us xs : List V) (l ds : List D) (F B : Hp), (∀ T ∈ ts, TabG F T) ∧ vs = .ref a :: us ∧ H a = some (.lst xs) ∧ RpL K B xs l ∧ RpL K B us ds ∧ Ex B H ∧ Ex F H ∧ Dj B F ∧ B a = none ∧ F a = none ∧
  sd l ds (fun r l' => ∀ lr, r = .lst lr → ∀ (p : Addr) (ys xs' : List V) (H' B' : Hp), Ex B B' → Ex B' H' → Ex F H' → Dj B' F → B' a = none → H' a = some (.lst xs') → RpL K B' xs' l' → F p = none → B' p = none → p ≠ a → H' p = some (.lst ys) → RpL K B' ys lr → Q (.ref p) H')
/-- statements of which the last one returns a new list -/
def PDR (F : Fam) (sts : List Stmt) (T : (Gm → List D → Prop) → Gm → Prop) : Prop := ∃ t, (∀ j, PSs (F.X j) sts t) ∧ ∀ P : Par, P.K = F.K → P.E = E0 ∧ P.ts = F.ts → P.Ed = no → ∀ (De : Ends) (B0 : Hp) (Z : Gm → List D → Prop),
  (∀ (Γ : Gm) (σ : L2.St) (p : Addr) (H Bv : Hp) (ys : List V) (l : List D), Ex B0 Bv → En P Bv Γ σ H → RpL P.K Bv ys l → H p = none → Z Γ l → De.rt (.ref p) (upd H p (.lst ys))) → ∀ (Bv : Hp) (Γ : Gm) (σ : L2.St) (H : Hp), Ex B0 Bv → En P Bv Γ σ H → T Z Γ → t De σ H
section
variable {F : Fam} {es : List Expr} {R : DA} {st : Stmt} {rest : List Stmt} {T : DS} {U : (Gm → List D → Prop) → Gm → Prop}
def dRetO (R : DA) : (Gm → List D → Prop) → Gm → Prop := fun Z Γ => R no Γ fun ws Γ1 => ∃ ds Γ2, fixL Γ1 ws = some (ds, Γ2) ∧ ds.length ≤ 1000 ∧ Z Γ2 ds
theorem pdr_ret {lp rp : Pos} (h : PDA F E0 es R) : PDR F [.Return (some (.List es lp)) rp] (dRetO R) := by
  obtain ⟨t, p, l⟩ := h
  refine ⟨_, fun j => pss_one (ps_ret (pe_lst (p j))), fun P hK hE hEd De B0 Z hZ Bv Γ σ H e n h => ?_⟩
  have h' : R P.Ed Γ fun ws Γ1 => ∃ ds Γ2, fixL Γ1 ws = some (ds, Γ2) ∧ ds.length ≤ 1000 ∧ Z Γ2 ds := by rw [hEd]; exact h
  refine l P hK hE Bv Γ σ H _ _ n h' fun ws Γ1 vs H1 B1 e1 n1 r1 h1 => ?_
  obtain ⟨ds, Γ2, f, hlen, h1⟩ := h1
  obtain ⟨B2, e2, n2, r2⟩ := n1.fixedL r1 f
  exact ⟨Nat.le_of_lt (Evl.sz_lt (by rw [r2.len]; exact Nat.lt_of_le_of_lt hlen (by decide))), fun p hp => hZ Γ2 σ p H1 B2 vs ds ((e.trans e1).trans e2) n2 r2 hp h1⟩
def dSeqR (T : DS) (U : (Gm → List D → Prop) → Gm → Prop) : (Gm → List D → Prop) → Gm → Prop := fun Z Γ => T no { nx := U Z, rt := fun _ _ => False, bk := fun _ => False, ct := fun _ => False } Γ
theorem pdr_cons (h : PDS F E0 st T) (hr : PDR F rest U) : PDR F (st :: rest) (dSeqR T U) := by
  obtain ⟨t1, p1, l1⟩ := h
  obtain ⟨t2, p2, l2⟩ := hr
  refine ⟨_, fun j => pss_cons (p1 j) (p2 j), fun P hK hE hEd De B0 Z hZ Bv Γ σ H e n h => ?_⟩
  have h' : T P.Ed { nx := U Z, rt := fun _ _ => False, bk := fun _ => False, ct := fun _ => False } Γ := by rw [hEd]; exact h
  exact l1 P hK hE Bv Γ σ H _ _ n h' ⟨fun Γ' σ' H' B' x n' q => l2 P hK hE hEd De B0 Z hZ B' Γ' σ' H' (e.trans x) n' q, fun _ _ _ _ _ _ _ _ _ z => z.elim, fun _ _ _ _ _ _ z => z.elim, fun _ _ _ _ _ _ z => z.elim⟩
end
section
variable {P : Program} {w : World} {K : PySem.W.Frag} {mg : Str → Option Value} {base : Heap} {ts : List Addr}
theorem okDefBO {x qual : Str} {st : Stmt} {f : Addr} {fd : FuncData} {N ps : List Str} {k : Nat} {sd : SdB} {T : (Gm → List D → Prop) → Gm → Prop} (F : Fun K x qual st f fd) (S : FnScope N ps (defScope st)) (hps : ps.length ≤ N.length)
    (hl : ∀ l ds Q, sd l ds Q → ds.length + 1 = ps.length)
    (hb : ∀ (cdv : Value) (A : Around) (outer : List Env) (s : Shared) (H : Hp) (E : XK), Room k (A.deeper (envOfC qual (defScope st) s.heap.objs.size f cdv)) → PDR (Fam.of ts (cxOf CX0 P w K mg base N qual (defScope st) f cdv A outer s H E).nox) (defBody st) T)
    (hr : ∀ l ds Q, sd l ds Q → T (fun Γ lr => ∀ l', Γ[0]? = some (.own true l') → Q (.lst lr) l') (startD N.length (.own true l :: ds.map .dat))) : FnOk P w K mg base CX0 (k + 1) f fd ps (spBO K ts sd) := by
  refine F.ok S (fun vs H Q E h => ?_) (fun cdv A outer s H vs Q E hroom h => ?_)
  · obtain ⟨a, us, xs, l, ds, F, B, _, rfl, _, _, r, _, _, _, _, _, h⟩ := h
    rw [List.length_cons, r.len]
    exact hl _ _ _ h
  · obtain ⟨a, us, xs, l, ds, F, B, tb, rfl, ha, rl, r, e, f', dj, ba, fa, h⟩ := h
    obtain ⟨t, pt, lt⟩ := hb cdv A outer s H E hroom
    refine ⟨t, pt (), ?_⟩
    have hlen : us.length + 1 ≤ N.length := by rw [r.len, hl _ _ _ h]; exact hps
    let Q' : Par := ⟨K, F, [(0, a)], B, no, E0, ts, tb, fun _ _ _ _ _ _ z => z.elim⟩
    have n : En Q' B (startD N.length (.own true l :: ds.map .dat)) (L2.start N (.ref a :: us)) H := En.beginB (P := Q') rfl ha rl r hlen e f' dj ba fa
    refine lt Q' rfl ⟨rfl, rfl⟩ rfl _ B _ (fun Γ' σ' p H' B' ys lr x n' rr hp q => ?_) B _ _ H (Ex.refl _) n (hr _ _ _ h)
    obtain ⟨l', g1, g2⟩ := n'.pin (0, a) (List.mem_singleton.mpr rfl)
    obtain ⟨c, xs', h1, h2, h3, h4, h5⟩ := n'.own 0 true l' g1
    rw [g2] at h1
    cases h1
    have pa : p ≠ a := fun z => by rw [z] at hp; rw [hp] at h2; cases h2
    have pF : F p = none := by
      cases y : F p with
      | none => rfl
      | some u => exact absurd hp (n'.frm.some y)
    have pB : B' p = none := by
      cases y : B' p with
      | none => rfl
      | some u => exact absurd hp (n'.sub.some y)
    exact q l' g1 lr rfl p ys xs' (upd H' p (.lst ys)) B' x (n'.sub.trans (Ex.new hp)) (n'.frm.trans (Ex.new hp)) n'.dj h4 (by rw [upd_ne (Ne.symm pa)]; exact h2) h3 pF pB pa upd_same rr
end
section
variable {F : Fam} {E : XK} {e : Expr} {es : List Expr} {R : DA} {pos p pos2 pos3 : Pos} {x y : Str} {k : Nat} {ps : List Str} {sb : SdB}
/-- y = x(..), a new list of y's own -/
def dAsgBO (i b : Nat) (sb : SdB) (R : DA) : DS := fun xd Dd Γ => R xd Γ fun ws Γ1 => ∃ us ds Γ2 p l, ws = .slot b :: us ∧ fixL Γ1 us = some (ds, Γ2) ∧ Γ2[b]? = some (.own p l) ∧ notOwn Γ2 i = true ∧ i ≠ b ∧ sb l ds fun r l' => ∀ lr, r = .lst lr → Dd.nx ((Γ2.set b (.own p l')).set i (.own false lr))
theorem pd_asgBO (i b : Nat) {pre : List D → List D → Prop} {post : List D → List D → D → List D → Prop} (hD : ∀ j, Dn (F.X j).prog (F.X j).w (F.X j).K (F.X j).mg (F.X j).base x k ps (spBO (F.X j).K F.ts (sdBR pre post))) (hN : ∀ j, (F.X j).N.Nodup) (hr : ∀ j, Room k (F.X j).A)
    (ha : PDA F E (e :: es) R) (hi : ∀ j, (F.X j).N[i]? = some y := by intro _; rfl) (hx : ∀ j, Loc (F.X j).env.scope y := by first | exact fun _ => .inl rfl | exact fun _ => .inr rfl) (hs : ∀ j, swapsWith (.Call (.Name x p) (e :: es) [] pos) (some (.Name y pos2)) pos3.line (F.X j).env = pure false := by intro _; rfl) (hf : ∀ j, (F.X j).fn y = true ∨ (F.X j).env.scope.names.lookup y = some .local := by first | exact fun _ => .inl rfl | exact fun _ => .inr rfl | assumption)
    (hg : ∀ j, Gl (F.X j) x := by intro _; rfl) (hdb : (x == ("__debug__" : Str)) = false := by decide) (he : ∀ j, starEach (e :: es) (F.X j).env = (false, eval e (F.X j).env) :: starEach es (F.X j).env := by intro _; rfl) (hpl : ∀ j, (backTo pos (starEach es (F.X j).env)).any (·.1) = false := by intro _; rfl) :
    PDS F E (.Assign [.Name y pos2] (.Call (.Name x p) (e :: es) [] pos) pos3) (dAsgBO i b (sdBR pre post) R) := by
  obtain ⟨t, pa, la⟩ := ha
  refine ⟨tAsg (tCall (spBO F.K F.ts (sdBR pre post)) [] E0 t) (gName i), fun j => ?_, fun P hK hE => ?_⟩
  · obtain ⟨f, fd, G, hmg, hk, hb⟩ := (hD j).ex
    exact ps_set (hN j) (hi j) (hx j) (F.k j ▸ pe_call G (hr j) (hg j) hmg hk hb .nil pass0 (pa j) hdb (he j) (hpl j)) (hs j) (hf j)
  · rw [← hK, ← hE.2]
    intro Bv Γ σ H Dd De n h kk
    refine la P hK hE Bv Γ σ H _ _ n h fun ws Γ1 vs H1 B1 e1 n1 r1 h1 => ?_
    obtain ⟨us, ds, Γ2, q, l, rfl, f, hbx, hni, hne, h1⟩ := h1
    match vs, r1 with
    | v :: vs, r1 =>
      obtain ⟨B2, e2, n2, r2⟩ := n1.fixedL r1.2 f
      obtain ⟨a, xs, g1, g2, g3, g4, g5⟩ := n2.own b q l hbx
      have hv : σ[b]? = some (some v) := r1.1
      rw [g1] at hv
      cases hv
      have ex : Ex (but (hidF P Γ2 σ H1) a) H1 := fun b o z => by
        by_cases q : b = a
        · rw [q, but_same] at z; cases z
        · rw [but_ne q] at z; exact hidF_ex n2 b o z
      have tbb : ∀ T ∈ P.ts, TabG (but (hidF P Γ2 σ H1) a) T := fun T hT => by
        obtain ⟨ps, k1, k2⟩ := P.tab T hT
        have ne : T ≠ a := fun z => by rw [z, g5] at k1; cases k1
        exact ⟨ps, by rw [but_ne ne]; exact hidF_F n2 k1, k2⟩
      have dj : Dj B2 (but (hidF P Γ2 σ H1) a) := fun b z => by
        by_cases q : b = a
        · rw [q]; exact g4
        · rw [but_ne q] at z; exact hidF_dj n2 b z
      refine ⟨a, vs, xs, l, ds, but (hidF P Γ2 σ H1) a, B2, tbb, by rw [List.append_nil], g2, g3, r2, n2.sub, ex, dj, g4, but_same, h1.1, fun r l' hpost => ?_⟩
      intro lr hlr p' ys xs' H' B' x1 x2 x3 x4 x5 x6 x7 x8 x9 x10 x11 x12
      have n3 := n2.calledB hbx g1 x1 x2 x3 x4 x5 x6 x7
      have hFp : hidF P Γ2 σ H1 p' = none := by rw [but_ne x10] at x8; exact x8
      have hPF : P.F p' = none := by
        cases z : P.F p' with
        | none => rfl
        | some u => rw [hidF_F n2 z] at hFp; cases hFp
      have n4 := n3.putOwn (i := i) (p := p') (by unfold notOwn; rw [List.getElem?_set_ne (Ne.symm hne)]; exact hni) x11 x9 hPF x12 (fun j q' m hj hs' => by
        rcases get_set hj with ⟨rfl, _⟩ | ⟨z, hj⟩
        · rw [g1] at hs'
          cases hs'
          exact x10 rfl
        · obtain ⟨c, us', k1, k2, _⟩ := n2.own j q' m hj
          rw [hs'] at k1
          cases k1
          rw [hidF_own hj hs', k2] at hFp
          cases hFp) fun j M hj z => by
        have hj := heap_set (by intro _ z; cases z) hj
        have na : ∀ b, InReg M H1 b → b ≠ a := fun b hb z => ((n2.hf.2 j M hj).2 b hb).2.2 _ q l hbx (by rw [z]; exact g1)
        have z := InReg.back ((n2.hf.2 j M hj).1.keep fun b o hb ho hn => x3.get (by rw [but_ne (na b hb), hidF_reg hj hb]; exact ho) hn) z
        rw [hidF_reg hj z] at hFp
        exact (n2.hf.2 j M hj).1.alloc z hFp
      exact kk.nx _ _ H' B' ((e1.trans e2).trans x1) n4 (h1.2 r l' hpost lr hlr)
end
end DL

set_option Elab.async false
set_option linter.all false
set_option maxRecDepth 100000
set_option maxHeartbeats 4000000
/-! list + list, any lists. -/
namespace PyProof.Rows
open PySem PySem.Calls
theorem add_any {prog : Program} {w : World} {A : Around} {E : Value → Shared → Prop} {s : Shared} {l b : Addr} {vs ws : List Value} {Q : Value → Shared → Prop} (hl : s.heap.IsList l vs.toArray) (hb : s.heap.IsList b ws.toArray)
    (h : Q (.ref s.heap.objs.size) { s with heap := s.heap.push { cls := .type "list", data := .seq (vs ++ ws).toArray } }) (hsz : vs.length + ws.length ≤ sizeLine) : wpAny (model prog w) A (binaryOp .Add (.ref l) (.ref b)) Q E s := by
  obtain ⟨⟨cls, dd, data, sl⟩, ho, hc, n, hd⟩ := id hl
  obtain ⟨⟨cls2, dd2, data2, sl2⟩, ho2, hc2, n2, hd2⟩ := id hb
  simp only at hc hd hc2 hd2
  subst hc hd hc2 hd2
  have e : vs.toArray ++ ws.toArray = (vs ++ ws).toArray := by simp
  refine concat_meets ⟨_, ho, rfl⟩ ⟨_, ho2, rfl⟩ noFill_list_add seq_list_add PySem.F.slot_list_add PySem.F.entry_list_add (PySem.F.args_list_add_2 _ _) (list_addW l b vs.toArray ws.toArray n n2 dd dd2 sl sl2 (by simpa using hsz)) ⟨ho, ho2, ?_⟩
  rw [e]
  exact h
end PyProof.Rows
namespace L2
open PySem PySem.Spec PyProof.Rows
section
variable {X : Cx}
def rCatL (K : PySem.W.Frag) : R2 := fun x y H Q => ∃ l b xs zs, x = .ref l ∧ y = .ref b ∧ SqL K H l xs ∧ SqL K H b zs ∧ xs.length + zs.length ≤ sizeLine ∧ ∀ p, H p = none → Q (.ref p) (upd H p (.lst (xs ++ zs)))
theorem op_catL : OpR X (binaryOp .Add) (rCatL X.K) := by
  intro pins s σ H x y v u Q I rx ry h
  obtain ⟨l, b, xs, zs, rfl, rfl, hH, hB, hz, q⟩ := h
  cases rx
  cases ry
  obtain ⟨its, r, pl, _⟩ := I.list hH
  obtain ⟨its2, r2, pl2, _⟩ := I.list hB
  refine PyProof.Rows.add_any pl.isList pl2.isList ?_ (by rw [← r.length, ← r2.length]; exact hz)
  exact ⟨.ref _, _, I.lnew (t' := s.toks) (r.append r2) (by rw [List.length_append]; omega), rfl, q _ I.fresh⟩
end
end L2
namespace DL
open PySem PySem.Spec PyProof.Rows L2
section
variable {F : Fam} {E : XK} {a b : Expr} {A : DE} {T : DO} {pos : Pos}
/-- xs + [..], xs a list that nobody changes -/
def dCatD (A : DE) (T : DO) : DO := fun xd Γ Q => A xd Γ fun w Γ1 => T xd Γ1 fun m Γ2 => ∃ l, w = .dat (.lst l) ∧ l.length + m.length ≤ 100000 ∧ Q (l ++ m) Γ2
theorem pdo_catD (ha : PD F E a A) (hb : PDO F E b T) : PDO F E (.BinOp a .Add b pos) (dCatD A T) :=
  let ⟨_, pa, la⟩ := ha; let ⟨_, pb, lb⟩ := hb
  ⟨_, fun j => F.k j ▸ pe_op op_catL (pa j) (pb j), fun P hK hE Bv Γ σ H Qd Q n h k => la P hK hE Bv Γ σ H _ _ n h fun w Γ1 v H1 B1 e1 n1 r1 h1 =>
    lb P hK hE B1 Γ1 σ H1 _ _ n1 h1 fun m Γ2 q vs H2 B2 e2 n2 z h2 => by
      obtain ⟨l, rfl, hz, h2⟩ := h2
      have r1' : Rp P.K B1 v (.lst l) := r1
      cases r1' with
      | @lst a' us _ hs hr =>
        have hr2 := hr.mono e2
        rw [hK] at hs
        exact ⟨a', q, us, vs, rfl, rfl, ex_l (e2.trans n2.sub) hs, .inl (.inl z.at_), by rw [hr.len, z.rp.len]; exact Evl.sz_of hz, fun q' hq' => n2.newL (hr2.app z.rp) (e1.trans e2) h2 k hq'⟩⟩
end
end DL

set_option Elab.async false
set_option linter.all false
set_option maxRecDepth 100000
set_option maxHeartbeats 4000000
/-! An own exception over ValueError whose __init__(self) says super().__init__(a text), nothing more. -/
namespace PySem
namespace SupY
open PySem.W PySem.Calls PyProof.Rows PySem.HandSPX PySem.SupX
def jA (p1 : Pos) : Arguments := { posonlyargs := [], args := [{ arg := "self", annotation := none, pos := p1 }], vararg := none, kwonlyargs := [], kw_defaults := [], kwarg := none, defaults := [] }
def jB (e : Expr) (p0 p1 p2 p3 p4 : Pos) : List Stmt := [.Expr (.Call (.Attribute (.Call (.Name "super" p0) [] [] p1) "__init__" p2) [e] [] p3) p4]
def jS : Scope := { kind := .function, names := [(PySem.Str.ofString "self", .local), (PySem.Str.ofString "__class__", .free), (PySem.Str.ofString "super", .globalImplicit)], isGenerator := false, isCoroutine := false, more := [] }
structure YTxt (P : Program) (K : Frag) (mg : Str → Option Value) (x q : Str) (e : Expr) (C fI cc cda : Addr) : Prop where
  gC : mg x = some (.ref C)
  noSuper : mg "super" = none
  cls : ∃ nm q N bs bm sn sub ab col dd k0 k1 k2 k3 k5, K.lookup C = some (excClassObj nm q C N bs bm true sn sub ab col dd k0 k1 k2 k3 k5 "ValueError.__new__") ∧ refsVE bm = true
  iC : findIn K (.ref C) "__init__" = some (some (.ref fI))
  tC : typeIn K (.ref fI) = some (.type "function")
  kC : keepIn K (.ref C) = true
  exC : subIn K (.ref C) (.type "BaseException") = some true
  veC : subIn K (.ref C) (.type "ValueError") = some true
  tyC : typeIn K (.ref C) = some (.type "type")
  sup : ks_superIn K C C "__init__" = some (some (.builtin "ValueError.__init__"))
  sub : mroIn K C (.ref C) = some true
  opq : nsIn K cStatics "thirdparty.any" = some none
  cell : ∃ cl cld csl, K.lookup cc = some ⟨cl, cld, .cell (some (.ref C)), csl⟩
  code : ∃ ccl cdd vs ccs file tf, K.lookup cda = some ⟨ccl, cdd, .fields vs, ccs⟩ ∧ vs[2]? = some (.str file tf) ∧ ((P.main.file : Str) == file) = true
  top : (P.main.scope.names.lookup ("super" : Str)).isSome = false
  fn : ∃ (oc : Value) (od : Option Addr) (doc pm : Value) (an : Option Addr) (ct : Value) (osl : Array (Option Value)) (p1 q0 q1 q2 q3 q4 : Pos),
    K.lookup fI = some ⟨oc, od, .func (ksFn "__init__" q (jA p1) (jB e q0 q1 q2 q3 q4) jS .none .none doc pm an (.ref cda) ct cc), osl⟩ ∧ codeIn K (.ref cda) q = true ∧ (q2.endLine == q3.line) = true
def Told0 (P : Program) (w : World) (e : Expr) : Prop := ∀ (A : Around) (E : Value → Shared → Prop) (s : Shared) (env : Env) (Q : Value → Shared → Prop), (∀ u tk, Q u { s with toks := tk }) → wpAny (model P w) A (eval e env) Q E s
section
variable {prog : Program} {w : World} {A : Around} {E : Value → Shared → Prop} {R : Result → Shared → Prop} {s : Shared} {K : Frag} {mg mb : Str → Option Value} {C fI cc cda : Addr} {x q : Str} {e : Expr}
structure OwnMade0 (h h' : Heap) (e C : Addr) : Prop where
  keep : ∀ b o, h.get? b = some o → h'.get? b = some o
  new : h.objs.size ≤ e
  obj : ∃ oe vs, h'.get? e = some oe ∧ oe.cls = .ref C ∧ oe.dict = none ∧ oe.data = .fields vs ∧ vs[1]? = some .none
theorem init0 (T : YTxt prog K mg x q e C fI cc cda) (Fe : Fm e) {a t0 : Addr} (Te : Told0 prog w e) (X : K.In s.heap) (hG : s.heap.Ns mainGlobals mg) (hB : s.heap.Ns builtinsNs mb) (hmb : mb "super" = bootBuiltins "super") (hlim : s.heap.NoLimit) (hx : s.heap.get? a = some (excO C t0)) (hnx : K.lookup a = none) (hroom : A.depth < recursionLimit)
    (hq : ∀ h' tk t1, (∀ b o, b ≠ a → s.heap.get? b = some o → h'.get? b = some o) → h'.get? a = some (excO C t1) → R (.ok (.ret .none)) { s with heap := h', toks := tk }) :
    codeAny (model prog w) A (.call (.ref fI) ⟨[.ref a], []⟩) R s := by
  obtain ⟨oc, od, doc, pm, an, ct, osl, p1, q0, q1, q2, q3, q4, ho, hcd, hline⟩ := T.fn
  obtain ⟨nm, qn, N, bs, bm, sn, sub, ab, col, dd, k0, k1, k2, k3, k5, hC, hbm⟩ := T.cls
  obtain ⟨cl, cld, csl, hcell⟩ := T.cell
  obtain ⟨ccl, cdd, vs, ccs, file, tf, hcode, hvs, hfile⟩ := T.code
  have hcl : clsIn K C = some { name := nm, bases := bs, mro := .ref C :: bm, ns := N, qualname := qn, hasDict := true, slotNames := sn, subclasses := sub, abstract := ab, collection := col, hasDel := false } := by unfold clsIn; rw [hC] <;> rfl
  refine ks_codeAny_call_defAt (fd := ksFn "__init__" q (jA p1) (jB e q0 q1 q2 q3 q4) jS .none .none doc pm an (.ref cda) ct cc) (body := jB e q0 q1 q2 q3 q4) (binds := [("self", .ref a)]) hroom (X _ _ ho) rfl hlim (codeRec_of X hcd) rfl
    (.of_eq rfl) ?hc (fun y hy => ?hb) (fun h₁ hns hk₁ => ?_) rfl rfl rfl
  case hc =>
    intro y hy
    show y.2 ≠ .cell
    have : y ∈ jS.names := hy
    unfold jS at this
    simp only [List.mem_cons, List.not_mem_nil, or_false] at this
    rcases this with rfl | rfl | rfl <;> exact fun z => nomatch z
  case hb =>
    simp only [List.mem_cons, List.not_mem_nil, or_false] at hy
    subst hy
    rfl
  have ms : ([("self", Value.ref a)] : List (Str × Value)).reverse.lookup ("self" : Str) = some (Value.ref a) := by
    show List.lookup ("self" : Str) [(("self" : Str), Value.ref a)] = _
    rw [List.lookup_cons, beq_self_eq_true]
  have k : ∀ b o, s.heap.get? b = some o → h₁.get? b = some o := hk₁
  have X₁ : K.In h₁ := X.keeps k
  have hx₁ := k _ _ hx
  have hG₁ := hG.keeps k
  have hB₁ := hB.keeps k
  obtain ⟨hh, g, d, tk, os⟩ := s
  obtain ⟨pl, hev⟩ := Fe.call q0 q1 q2 q3 (ksEnv q jS hh.objs.size fI (.ref cda) cc) hline
  refine ks_wpAt_execs_cons (ks_wpAt_Expr_any (ks_wpAt_MethodCall (pl := pl) ?_ hev))
  refine ks_wpAt_super_base (f := fI) (cc := cda) (ar := { arg := "self", annotation := none, pos := p1 }) rfl rfl (by decide) rfl (X₁ _ _ ho) rfl rfl rfl (X₁ _ _ hcode) rfl hvs hfile T.top ?_
  refine ks_loadName_global rfl rfl (loadGlobal_builtin hG₁ T.noSuper hB₁ (hmb.trans (by decide +kernel)) ⟨rfl, ?_⟩)
  refine wpAny_loadName_free rfl rfl rfl ⟨_, X₁ _ _ hcell, rfl⟩ ?_
  refine wpAny_loadName_local rfl rfl hns ms ?_
  refine ks_wpAny_isType_cls (X₁ _ _ hC) rfl ⟨rfl, ?_⟩
  refine ks_wpAny_call_super (X₁ _ _ hC) rfl hx₁ rfl (fun c z => nomatch z) (looks_mroIn X₁ T.sub) (fun h2 hso kk2 => ?_)
  have X2 : K.In h2 := X₁.keeps kk2
  have hx2 := kk2 _ _ hx₁
  have I2 : InstAt h2 a (excO C t0) C none := ⟨hx2, rfl, rfl, trivial⟩
  have hI : Looks (model prog w) h2 (isInstance (.ref a) (.type "ValueError")) true := I2.type.andThen (looks_subIn X2 T.veC)
  have hsup := T.sup
  unfold ks_superIn at hsup
  rw [hcl] at hsup
  refine kxs_getMethod kxs_ValueError hso (looks_opaque X2 T.opq) (l₀ := .ref C :: bm) (fun A Q E s k q => wpAny_bind ((looks_clsIn X2 hcl) A _ E s k (wpAny_pure q))) rfl X2 hsup hI (ks_ne X2 I2 hcl) (by decide) ?_
  have k3 : ∀ b o, h2.get? b = some o → (h2.push (kxs_mw "ValueError.__init__" a)).get? b = some o := fun b o e => Heap.get?_push_of_some _ e
  have hst : backTo q3 (starEach [e] (ksEnv q jS hh.objs.size fI (.ref cda) cc)) = backTo q3 [(false, eval e (ksEnv q jS hh.objs.size fI (.ref cda) cc))] := by rw [Fe.star]
  show wpAny _ _ (callWith q3 _ _ (backTo q3 (starEach [e] (ksEnv q jS hh.objs.size fI (.ref cda) cc))) []) _ _ _
  rw [hst]
  have hrec : backTo q3 [(false, eval e (ksEnv q jS hh.objs.size fI (.ref cda) cc))] = [(false, eval e (ksEnv q jS hh.objs.size fI (.ref cda) cc))] := rfl
  rw [hrec]
  refine kxs_callWith (i := "ValueError.__init__") (x := a) rfl (evalArgs_plain (spliced_cons ?_))
  refine Te _ _ _ _ _ fun u tk' => spliced_nil ⟨Heap.get?_push_at rfl rfl, ?_⟩
  show wpAny _ _ (call _ [u]) _ _ _
  refine call_mw (k3 _ _ ((X2 _ _ hC))) (k3 _ _ hx2) (Heap.get?_push_at rfl rfl) (by rw [sizeLine_eq]; show 1 ≤ _; omega) fun h3 t1 kk3 hx3 => ?_
  show wpAt _ _ _ (execs _ _) _ _ _
  refine wpAt_of_wpAny ?_
  exact wpAny_execs_nil (hq h3 _ t1 (fun b o hb z => kk3 b o hb (k3 _ _ (kk2 _ _ (k b o z)))) hx3)
theorem made0 (T : YTxt prog K mg x q e C fI cc cda) (Fe : Fm e) (Te : Told0 prog w e) (X : K.In s.heap) (hG : s.heap.Ns mainGlobals mg) (hB : s.heap.Ns builtinsNs mb) (hmb : mb "super" = bootBuiltins "super") (hlim : s.heap.NoLimit) (hroom : A.depth + 1 < recursionLimit)
    (hq : ∀ h' tk a, OwnMade0 s.heap h' a C → R (.ok (.ret (.ref a))) { s with heap := h', toks := tk }) :
    codeAny (model prog w) A (.call (.ref C) ⟨[], []⟩) R s := by
  obtain ⟨nm, qn, N, bs, bm, sn, sub, ab, col, dd, k0, k1, k2, k3, k5, hC, hbm⟩ := T.cls
  obtain ⟨hp, g, dr, tk, os⟩ := s
  have k : ∀ b o, hp.get? b = some o → ((hp.push (kdv_tup [])).push (excO C hp.objs.size)).get? b = some o := fun b o e => Heap.get?_push_of_some _ (Heap.get?_push_of_some _ e)
  have hget : ((hp.push (kdv_tup [])).push (excO C hp.objs.size)).get? (hp.objs.size + 1) = some (excO C hp.objs.size) := by heap_get
  have hnx : K.lookup (hp.objs.size + 1) = none := by
    cases e : K.lookup (hp.objs.size + 1) with
    | none => rfl
    | some o =>
      have z : hp.get? (hp.objs.size + 1) = some o := X _ _ e
      exact absurd (Nat.lt_of_succ_lt (Heap.lt_size z)) (Nat.lt_irrefl _)
  refine call_own F.excBase_ValueError (fun X => refsVE_contains X bm hbm) (X _ _ hC) (looks_findIn X T.iC) (fun self => bind_fn X self T.tC) (by rw [sizeLine_eq]; show 0 ≤ _; omega) ?_
  refine init0 (s := ⟨(hp.push (kdv_tup [])).push (excO C hp.objs.size), g, dr, tk, os⟩) T Fe Te (X.keeps k) (hG.keeps k) (hB.keeps k) hmb (hlim.keeps k) hget hnx ?_ fun h' tk' t1 k' hx => ?_
  · show A.depth + 1 < recursionLimit
    exact hroom
  · have old : ∀ b o, hp.get? b = some o → h'.get? b = some o := fun b o e => k' b o (Nat.ne_of_lt (Nat.lt_succ_of_lt (Heap.lt_size e))) (k b o e)
    exact ⟨rfl, hq h' tk' (hp.objs.size + 1) ⟨old, Nat.le_succ _, ⟨_, _, hx, rfl, rfl, rfl, rfl⟩⟩⟩
end
end SupY
end PySem
namespace L2
open PySem PySem.Spec PyProof.Rows
section
variable {X : Cx} {C fI cc cda : Addr} {x q : Str} {e : Expr}
/-- x() -/
theorem pmk_sup0 {p pos : Pos} {k : Nat} (T : PySem.SupY.YTxt X.prog X.K X.mg x q e C fI cc cda) (Fe : PySem.SupX.Fm e) (Te : PySem.SupY.Told0 X.prog X.w e) (hr : Room k X.A) (hg : Gl X x)
    (hd : (x == ("__debug__" : Str)) = false := by decide) :
    PMk X (.Call (.Name x p) [] [] pos) (fun _ H Q => Q (.ref C) none H) := by
  intro pins s σ H Q I h
  refine wpAny_Call_Name_kw (ld_glob I hg T.gC ?_ hd)
  refine PySem.W.callWith_K0 I.kIn T.kC ?_
  have hlim := I.nolimit
  obtain ⟨mb, hb1, hb2⟩ := I.mod.blt
  have hG := I.mod.glob.keeps I.bk
  have hB := hb1.keeps I.bk
  have kIn := I.kIn
  obtain ⟨hp, g, dr, tk, os⟩ := s
  refine wpAny_call (PySem.SupY.made0 T Fe Te kIn hG hB (hb2 _ (by decide)) hlim (by have := hr.dp; omega) fun h' tk' e d => ?_)
  show MkP X pins σ Q (.ref e) ⟨h', g, dr, tk', os⟩
  obtain ⟨oe, fv, hoe, hc, hdi, hdat, h1⟩ := d.obj
  obtain ⟨G', g1, g2⟩ := restrict h' fun b => decide (b ≠ e)
  have gk : ∀ b, b ≠ e → G'.get? b = h'.get? b := fun b hb => g1 b (decide_eq_true hb)
  have ge : G'.get? e = none := g2 e (by simp)
  have old : ∀ b o, hp.get? b = some o → G'.get? b = some o := fun b o q => (gk b (Nat.ne_of_lt (Nat.lt_of_lt_of_le (Heap.lt_size q) d.new))).trans (d.keep b o q)
  have J : Inv X pins σ H ⟨G', g, dr, tk', os⟩ := I.kept (t' := tk') old
  refine ⟨e, oe, fv, ⟨G', g, dr, tk', os⟩, _, .ref C, none, rfl, J, fun b o q => ?_, ge, hoe, ⟨hc, hdi⟩, hdat, h1, I.hok.fresh d.new, rfl, I.bare, raises_own T.exC T.tyC, h⟩
  by_cases hb : b = e
  · have q' : G'.get? b = some o := q
    rw [hb, ge] at q'; cases q'
  · exact (gk b hb).symm.trans q
theorem ps_raiseSup0 {W : WX} {p pos pos2 : Pos} {k : Nat} (hc : X.calm = true) (T : PySem.SupY.YTxt X.prog X.K X.mg x q e C fI cc cda) (Fe : PySem.SupX.Fm e) (Te : PySem.SupY.Told0 X.prog X.w e) (hr : Room k X.A) (tk : Takes X W) (hg : Gl X x)
    (hd : (x == ("__debug__" : Str)) = false := by decide) :
    PS X (.Raise (some (.Call (.Name x p) [] [] pos)) none pos2) (fun _ σ H => W (.ref C) none σ H) := ps_raise hc tk (pmk_sup0 T Fe Te hr hg hd)
end
end L2

set_option Elab.async false
set_option linter.all false
set_option maxRecDepth 100000
set_option maxHeartbeats 4000000
namespace DL
open PySem PySem.Spec PyProof.Rows L2
section
variable {F : Fam} {E : XK} {pos p pos' : Pos} {x : Str}
/-- raise x(), an exception without fields -/
def dRaise0 (C : Addr) : DS := fun xd _ _ => xd C []
theorem pd_raise0 {q : Str} {m : Expr} {C fI cc cda : Addr} {k : Nat} (hc : ∀ j, (F.X j).calm = true) (T : ∀ j, PySem.SupY.YTxt (F.X j).prog (F.X j).K (F.X j).mg x q m C fI cc cda) (Fe : PySem.SupX.Fm m) (Te : ∀ j, PySem.SupY.Told0 (F.X j).prog (F.X j).w m)
    (hr : ∀ j, Room k (F.X j).A) (tk : ∀ j, Takes (F.X j) (fun cls d _ H => E cls d H)) (hg : ∀ j, Gl (F.X j) x := by intro _; rfl) (hd : (x == ("__debug__" : Str)) = false := by decide) :
    PDS F E (.Raise (some (.Call (.Name x p) [] [] pos)) none pos') (dRaise0 C) :=
  ⟨fun _ σ H => E (.ref C) none H, fun j => ps_raiseSup0 (hc j) (T j) Fe (Te j) (hr j) (tk j) (hg j) hd, fun P hK hE Bv Γ σ H Dd D n h k => by
    show E (.ref C) none H
    rw [← hE.1]
    exact P.xok C [] none [] _ Bv h n.base n.sub n.frm n.dj rfl⟩
/-- a text as the message -/
theorem told_text {P : Program} {w : World} {m : Str} {j : Nat} {p : Pos} : PySem.SupY.Told0 P w (.Constant (.str m) j p) := fun A E s env Q hq => Calls.Constant_str (hq _ _)
/-- a statement that is never reached -/
theorem pd_never {st : Stmt} : PDS F E st (fun _ _ _ => False) := ⟨fun _ _ _ => False, fun j => ⟨fun _ _ _ _ _ _ z => z.elim⟩, fun P hK hE Bv Γ σ H Dd D n h k => h.elim⟩
end
end DL

set_option Elab.async false
set_option linter.all false
set_option maxRecDepth 100000
set_option maxHeartbeats 4000000
/-! Generator expressions with two fors: the turns. -/
namespace GG
open PySem PySem.Spec PyProof.Rows L2 DL GenW QG
abbrev ge2 (elt tg iter tg2 iter2 : Expr) (scope : Scope) (gpos : Pos) : Expr := .GeneratorExp elt [⟨tg, iter, [], 0⟩, ⟨tg2, iter2, [], 0⟩] scope gpos
section
variable {elt tg iter tg2 iter2 : Expr} {scope : Scope} {gpos : Pos}
theorem turn_out (it acc : Value) (env : Env) :
    compTurn (ge2 elt tg iter tg2 iter2 scope gpos) 0 it acc env = (do
      standAt iter.pos
      match ← pyNext it with
      | none => pure (.done .next)
      | some v =>
        letOwnedTupleGo tg it v
        assign tg env v
        let mut ok := true
        for c in ([] : List Expr) do
          if ok then ok ← isTrue c env (eval c env)
        if ok then
          let x ← eval iter2 env
          standAt iter2.pos
          let x ← foldedSetIterable iter2 env x
          let _ ← runOwn (.compStart (ge2 elt tg iter tg2 iter2 scope gpos) 1 (← holding [x] (pyIter x)) acc env) env
        again (.compLoop (ge2 elt tg iter tg2 iter2 scope gpos) 0 it acc env)) := by rfl
theorem turn_in (it acc : Value) (env : Env) :
    compTurn (ge2 elt tg iter tg2 iter2 scope gpos) 1 it acc env = (do
      standAt iter2.pos
      match ← pyNext it with
      | none => pure (.done .next)
      | some v =>
        letOwnedTupleGo tg2 it v
        assign tg2 env v
        let mut ok := true
        for c in ([] : List Expr) do
          if ok then ok ← isTrue c env (eval c env)
        if ok then
          (do let v ← eval elt env; standAt elt.pos; let _ ← yieldOut env v)
        again (.compLoop (ge2 elt tg iter tg2 iter2 scope gpos) 1 it acc env)) := by rfl
end
/-- an iterator's object: what does not change -/
structure Stat (X : Cx) (zs : List Addr) (b : Addr) : Prop where
  loc : b ≠ X.env.locals
  fs : b ∉ X.fs
  ex : b ∈ X.ex ∨ X.s_0.heap.objs.size ≤ b
  cell : ∀ x c, X.env.cells.lookup x = some c → c ≠ b
  pn : ∀ p ∈ X.pn, p.1 ≠ b
  zs : b ∉ zs
section
variable {X : Cx} {pins : List (Addr × Obj)} {σ : L2.St} {H : Hp} {s : Shared} {zs : List Addr} {b : Addr}
theorem Stat.ok (S : Stat X zs b) (hp : ∀ p ∈ pins, p.1 ≠ b) (h : H b = none) : FpOk X pins H b := ⟨h, S.loc, S.fs, S.ex, S.cell, fun p hpp => (List.mem_append.mp hpp).elim (S.pn p) (hp p)⟩
theorem Stat.apart (S : Stat X zs b) (hp : pins.map (·.1) = zs) : ∀ p ∈ pins, p.1 ≠ b := fun p hpp e => S.zs (by rw [← hp, ← e]; exact List.mem_map_of_mem hpp)
theorem Stat.of (f : FpOk X pins H b) (hp : pins.map (·.1) = zs) : Stat X zs b := by
  obtain ⟨_, h1, h2, h3, h4, h5⟩ := f
  refine ⟨h1, h2, h3, h4, fun p hpp => h5 p (List.mem_append_left _ hpp), fun z => ?_⟩
  rw [← hp] at z
  obtain ⟨p, hpp, e⟩ := List.mem_map.mp z
  exact h5 p (List.mem_append_right _ hpp) e
/-- the same where other code runs -/
theorem inv_around {A2 : Around} (I : Inv X pins σ H s) (hd : A2.handled = none) (hf : A2.frames = some X.stack) : Inv { X with A := A2 } pins σ H s :=
  ⟨⟨I.ok.mod, I.ok.kind, I.ok.glob, I.ok.blt, I.ok.above, I.ok.inj, I.ok.has, I.ok.cab, fun _ => hd, hf, I.ok.stk, I.ok.exf, I.ok.bs, I.ok.bsz, I.ok.noex, I.ok.exfs, I.ok.funs, I.ok.frf⟩, I.os, I.bare, I.base, I.loc, I.cell, I.free, I.freeC, I.pin, I.hok, I.len⟩
theorem inv_back {A2 : Around} (hd : X.calm = true → X.A.handled = none) (hf : X.A.frames = some X.stack) (I : Inv { X with A := A2 } pins σ H s) : Inv X pins σ H s :=
  ⟨⟨I.ok.mod, I.ok.kind, I.ok.glob, I.ok.blt, I.ok.above, I.ok.inj, I.ok.has, I.ok.cab, hd, hf, I.ok.stk, I.ok.exf, I.ok.bs, I.ok.bsz, I.ok.noex, I.ok.exfs, I.ok.funs, I.ok.frf⟩, I.os, I.bare, I.base, I.loc, I.cell, I.free, I.freeC, I.pin, I.hok, I.len⟩
end
/-- wherever a generator may sleep or end -/
def IEq (X : Cx) (zs : List Addr) (QE : Hp → Prop) (s : Shared) : Prop := ∃ pins σ H, pins.map (·.1) = zs ∧ Inv X pins σ H s ∧ QE H
structure Gz (X : Cx) (zs : List Addr) (a : Addr) (g : Nat) : Prop where
  zs : ∀ b ∈ zs, X.s_0.heap.objs.size ≤ b ∧ (∀ x c, X.env.cells.lookup x = some c → c ≠ b) ∧ ∀ p ∈ X.pn, p.1 ≠ b
  gen : ∀ pins σ H s, Inv X pins σ H s → s.heap.IsGen a g
  calm : X.calm = true
  co : X.env.scope.isCoroutine = false
section
variable {X : Cx} {zs : List Addr} {a : Addr} {g n : Nat} {QE : Hp → Prop}
theorem ivOk2 (G : Gz X zs a g) : IvOk zs a g n (fun _ => IEq X zs QE) (IEq X zs QE) where
  gen := fun j s h => by
    obtain ⟨pins, σ, H, _, I, _⟩ := h
    exact ⟨G.gen _ _ _ _ I, I.nolimit, I.bare⟩
  own := fun j s h b hb => by
    obtain ⟨pins, σ, H, e, I, _⟩ := h
    rw [← e] at hb
    obtain ⟨p, hp, rfl⟩ := List.mem_map.mp hb
    obtain ⟨h1, _, _, _, h5⟩ := I.pin p (List.mem_append_right _ hp)
    exact ⟨p.2, h1, h5⟩
  nap := fun j s s' h z => by
    obtain ⟨pins, σ, H, e, I, w⟩ := h
    obtain ⟨pins', e', I'⟩ := inv_nap I e G.zs z
    exact ⟨pins', σ, H, e', I', w⟩
  weak := fun j s _ h => h
  bareE := fun s h => by
    obtain ⟨_, _, _, _, I, _⟩ := h
    exact I.bare
  ownE := fun s h b hb => by
    obtain ⟨pins, σ, H, e, I, _⟩ := h
    rw [← e] at hb
    obtain ⟨p, hp, rfl⟩ := List.mem_map.mp hb
    obtain ⟨h1, _, _, _, h5⟩ := I.pin p (List.mem_append_right _ hp)
    exact ⟨p.2, h1, h5⟩
  napE := fun s s' h z => by
    obtain ⟨pins, σ, H, e, I, w⟩ := h
    obtain ⟨pins', e', I'⟩ := inv_nap I e G.zs z
    exact ⟨pins', σ, H, e', I', w⟩
end
/-- at an inner turn -/
def INi (X : Cx) (zs fp fp2 : List Addr) (T1 : Heap → Prop) (tn2 : Nat → Heap → Prop) (V : Nat → L2.St → Hp → Prop) (m : Nat) (s : Shared) : Prop :=
  ∃ pins σ H, pins.map (·.1) = zs ∧ Inv X pins σ H s ∧ (∀ b ∈ fp, H b = none) ∧ (∀ b ∈ fp2, H b = none) ∧ T1 s.heap ∧ tn2 m s.heap ∧ V m σ H
section
variable {X : Cx} {zs fp fp2 : List Addr} {a it it2 : Addr} {g n : Nat} {tn2 : Nat → Heap → Prop} {T1 : Heap → Prop} {V : Nat → L2.St → Hp → Prop} {J2 : It} {elt tg iter tg2 iter2 : Expr} {scope : Scope} {gpos : Pos} {QE : Hp → Prop} {F : Nat → Value → Prop}
theorem inner_nap (G : Gz X zs a g) (T2 : Turn X.prog X.w X.K tg2 J2 fp2 it2 tn2) (k1 : ∀ h h', T1 h → (∀ b ∈ fp, ∀ o, h.get? b = some o → h'.get? b = some o) → T1 h') (s1 : ∀ b ∈ fp, Stat X zs b) (s2 : ∀ b ∈ fp2, Stat X zs b) {m : Nat} {s s' : Shared} (h : INi X zs fp fp2 T1 tn2 V m s) (z : Nap zs s s') : INi X zs fp fp2 T1 tn2 V m s' := by
  obtain ⟨pins, σ, H, e, I, f1, f2, t1, t2, v⟩ := h
  obtain ⟨pins', e', I'⟩ := inv_nap I e G.zs z
  exact ⟨pins', σ, H, e', I', f1, f2, k1 _ _ t1 fun b hb o ho => z.keep b o (s1 b hb).zs ho, T2.keep _ _ _ t2 fun b hb o ho => z.keep b o (s2 b hb).zs ho, v⟩
theorem inner_seg {A : Around} {A2 : Around} {fr : Frame} {n2 j0 : Nat} {gt2 : TG} {te : TE} (G : Gz X zs a g) (T2 : Turn X.prog X.w X.K tg2 J2 fp2 it2 tn2) (o1 : ∀ h, T1 h → ∀ b ∈ fp, ∃ o, h.get? b = some o ∧ ∀ v, o.data ≠ .cell v)
    (k1 : ∀ h h', T1 h → (∀ b ∈ fp, ∀ o, h.get? b = some o → h'.get? b = some o) → T1 h') (s1 : ∀ b ∈ fp, Stat X zs b) (s2 : ∀ b ∈ fp2, Stat X zs b) (dj : ∀ b ∈ fp2, b ∉ fp)
    (hA : A.over (.compLoop (ge2 elt tg iter tg2 iter2 scope gpos) 1 (.ref it2) .none X.env) [fr] = A2) (hd : A2.handled = none) (hf : A2.frames = some X.stack) (hsp : splitAtGen [fr] = none) (hgd : [fr].any Frame.guarded = false) (hxe : X.xe = fun _ _ => False)
    (pg : PG { X with A := A2 } tg2 gt2) (pe : PE { X with A := A2 } elt te) (tt : Turns J2 n2 gt2 te (fun m => F (j0 + m)) V) (qe : ∀ m σ H, m ≤ n2 → V m σ H → QE H) (hn : j0 + n2 ≤ n) (hdX : X.calm = true → X.A.handled = none) (hfX : X.A.frames = some X.stack)
    (fin : ∀ s₀ s', (∀ b ∈ zs, s'.heap.get? b = s₀.heap.get? b) → INi X zs fp fp2 T1 tn2 V n2 s' ∨ (∃ pins σ H, pins.map (·.1) = zs ∧ Inv X pins σ H s' ∧ (∀ b ∈ fp, H b = none) ∧ T1 s'.heap ∧ V n2 σ H) → Seg (model X.prog X.w) A (GR (IEq X zs QE)) (GY zs n F (fun _ => IEq X zs QE)) (n - (j0 + n2)) s₀ (.compLoop (ge2 elt tg iter tg2 iter2 scope gpos) 1 (.ref it2) .none X.env) (leafOf (.ok .next)) [fr] s') :
    ∀ (k m : Nat) (s₀ s : Shared), n2 - m = k → m ≤ n2 → (∀ b ∈ zs, s.heap.get? b = s₀.heap.get? b) → INi X zs fp fp2 T1 tn2 V m s →
      Seg (model X.prog X.w) A (GR (IEq X zs QE)) (GY zs n F (fun _ => IEq X zs QE)) (n - (j0 + m)) s₀ (.compLoop (ge2 elt tg iter tg2 iter2 scope gpos) 1 (.ref it2) .none X.env) ((model X.prog X.w).den (.compLoop (ge2 elt tg iter tg2 iter2 scope gpos) 1 (.ref it2) .none X.env)) [fr] s := by
  have no : ∀ {α : Type} {t : Sem α} {Q : α → Shared → Prop} {R : Value → Shared → Prop} {s : Shared}, wpAny (model X.prog X.w) A2 t Q X.xe s → wpAny (model X.prog X.w) A2 t Q R s := fun h => wpAny_mono h (fun _ _ z => z) fun _ _ z => by
    rw [hxe] at z
    exact z.elim
  have pf : ∀ {pins : List (Addr × Obj)} {h : Heap}, pins.map (·.1) = zs → ∀ b ∈ fp2, ∀ p ∈ pins ++ pinsAt fp h, p.1 ≠ b := fun {pins h} e b hb p hp => by
    rcases List.mem_append.mp hp with q | q
    · exact (s2 b hb).apart e p q
    · exact fun e2 => dj b hb (e2 ▸ (of_pinsAt q).1)
  intro k
  induction k with
  | zero =>
    intro m s₀ s hk hm hu h
    obtain rfl : m = n2 := by omega
    obtain ⟨pins, σ, H, e, I, f1, f2, t1, t2, v⟩ := h
    show Seg _ A _ _ _ s₀ _ ((compTurn (ge2 elt tg iter tg2 iter2 scope gpos) 1 (.ref it2) .none X.env).onRaise _) [fr] s
    rw [turn_in, Sem.onRaise_eq_wrap]
    refine seg_bind_wrap (wpAny_standAt (seg_bind_wrap ?_))
    rw [hA]
    have I1 := inv_around (I.pinned (fp := fp) (fun b hb => (s1 b hb).ok ((s1 b hb).apart e) (f1 b hb)) (o1 _ t1)) hd hf
    refine no (wpAny_mono (T2.done { X with A := A2 } rfl rfl rfl G.calm m _ s σ H X.xe I1 (fun b hb => (s2 b hb).ok (pf e b hb) (f2 b hb)) t2 (tt.stop σ H v)) (fun r s3 z => ?_) fun _ _ z => z)
    obtain ⟨rfl, I2⟩ := z
    have I3 := inv_back hdX hfX I2
    refine fin s₀ s3 (fun b hb => ?_) (.inr ⟨pins, σ, H, e, I3.unpinned, f1, k1 _ _ t1 fun b hb o ho => (I3.pin (b, o) (List.mem_append_right _ (List.mem_append_right _ (mem_pinsAt hb ho)))).1, v⟩)
    rw [← e] at hb
    obtain ⟨p, hp, rfl⟩ := List.mem_map.mp hb
    have q1 := (I.pin p (List.mem_append_right _ hp)).1
    have q2 := (I3.pin p (List.mem_append_right _ (List.mem_append_left _ hp))).1
    rw [q2, ← q1]
    exact hu _ (by rw [← e]; exact hb)
  | succ k ih =>
    intro m s₀ s hk hm hu h
    have lt : m < n2 := by omega
    obtain ⟨pins, σ, H, e, I, f1, f2, t1, t2, v⟩ := h
    show Seg _ A _ _ _ s₀ _ ((compTurn (ge2 elt tg iter tg2 iter2 scope gpos) 1 (.ref it2) .none X.env).onRaise _) [fr] s
    rw [turn_in, Sem.onRaise_eq_wrap]
    refine seg_bind_wrap (wpAny_standAt (seg_bind_wrap ?_))
    rw [hA]
    have I1 := inv_around (I.pinned (fp := fp) (fun b hb => (s1 b hb).ok ((s1 b hb).apart e) (f1 b hb)) (o1 _ t1)) hd hf
    refine no (wpAny_mono (T2.item { X with A := A2 } rfl rfl rfl G.calm m _ s σ H X.xe I1 (fun b hb => (s2 b hb).ok (pf e b hb) (f2 b hb)) t2 (tt.go m σ H lt v)) (fun r s3 z => ?_) fun _ _ z => z)
    obtain ⟨u, rfl, z⟩ := z
    refine seg_bind_wrap ?_
    rw [hA]
    refine no (wpAny_mono z (fun _ s3 z => ?_) fun _ _ z => z)
    obtain ⟨x, H2, I2, r2, y2, t3, f3⟩ := z
    have I3 := I2.pinned (fp := fp2) (fun b hb => Stat.ok (X := { X with A := A2 }) (zs := zs) ⟨(s2 b hb).loc, (s2 b hb).fs, (s2 b hb).ex, (s2 b hb).cell, (s2 b hb).pn, (s2 b hb).zs⟩ (pf e b hb) (f3 b hb)) (T2.obj _ _ t3)
    refine seg_bind_wrap ?_
    rw [hA]
    refine no (wpAny_mono (pg.run _ s3 σ H2 x u _ I3 r2 (tt.step m σ H x H2 lt v y2)) (fun _ s4 z => ?_) fun _ _ z => z)
    obtain ⟨σ4, H4, I4, q4⟩ := z
    simp only [List.forIn_nil]
    refine seg_bind_wrap (wpAny_pure ?_)
    rw [if_pos rfl]
    have hy : ∀ v, yieldOut X.env v = yieldValue v := fun v => by
      unfold yieldOut
      rw [G.co]
      rfl
    simp only [hy]
    rw [Sem.bind_eq_wrap', Sem.bind_eq_wrap', Sem.wrap_wrap, Sem.wrap_wrap]
    refine seg_wrap ?_
    rw [hA]
    refine no (wpAny_mono (pe.run _ s4 σ4 H4 _ I4 q4) (fun v5 s5 z => ?_) fun _ _ z => z)
    obtain ⟨w5, H5, I5, r5, hF, v6⟩ := z
    have I6 := inv_back hdX hfX I5
    have t5 : tn2 (m + 1) s5.heap := T2.keep _ _ _ t3 fun b hb o ho => (I6.pin (b, o) (List.mem_append_right _ (List.mem_append_right _ (mem_pinsAt hb ho)))).1
    have f5 : ∀ b ∈ fp2, H5 b = none := fun b hb => by
      obtain ⟨o, ho, _⟩ := T2.obj _ _ t3 b hb
      exact (I6.pin (b, o) (List.mem_append_right _ (List.mem_append_right _ (mem_pinsAt hb ho)))).2.1
    have t6 : T1 s5.heap := k1 _ _ t1 fun b hb o ho => (I6.pin (b, o) (List.mem_append_right _ (List.mem_append_left _ (List.mem_append_right _ (mem_pinsAt hb ho))))).1
    have f6 : ∀ b ∈ fp, H5 b = none := fun b hb => by
      obtain ⟨o, ho, _⟩ := o1 _ t1 b hb
      exact (I6.pin (b, o) (List.mem_append_right _ (List.mem_append_left _ (List.mem_append_right _ (mem_pinsAt hb ho))))).2.1
    have iv5 : INi X zs fp fp2 T1 tn2 V (m + 1) s5 := ⟨pins, σ4, H5, e, I6.unpinned.unpinned, f6, f5, t6, t5, v6⟩
    obtain ⟨c, hc⟩ : ∃ c, n - (j0 + m) = c + 1 := ⟨n - (j0 + m) - 1, by omega⟩
    rw [hc]
    refine seg_at (seg_yield hsp rfl hgd ⟨j0 + m, by omega, hF v5 r5, fun b hb => ?_, ⟨pins, σ4, H5, e, I6.unpinned.unpinned, qe _ _ _ lt v6⟩, fun s' z => ?_⟩)
    · rw [← e] at hb
      obtain ⟨p, hp, rfl⟩ := List.mem_map.mp hb
      have q1 := (I.pin p (List.mem_append_right _ hp)).1
      have q2 := (I6.pin p (List.mem_append_right _ (List.mem_append_left _ (List.mem_append_left _ hp)))).1
      rw [show s5.heap.get? p.1 = some p.2 from q2, ← q1]
      exact hu _ (by rw [← e]; exact hb)
    · have e3 : n - (j0 + (m + 1)) = c := by omega
      have q := ih (m + 1) s' s' (by omega) lt (fun _ _ => rfl) (inner_nap G T2 k1 s1 s2 iv5 z)
      rw [e3] at q
      exact seg_again rfl q
end
end GG

set_option Elab.async false
set_option linter.all false
set_option maxRecDepth 100000
set_option maxHeartbeats 4000000
/-! .. the outer loop. -/
namespace GG
open PySem PySem.Spec PyProof.Rows L2 DL GenW QG
structure Turns2 (J : It) (n1 : Nat) (wi2 : TI) (g1 g2 : TG) (te : TE) (n : Nat) (F : Nat → Value → Prop) (QE : Hp → Prop) (W : Nat → Nat → L2.St → Hp → Prop) : Prop where
  go : ∀ i j σ H, i < n1 → W i j σ H → J.go i H
  stop : ∀ j σ H, W n1 j σ H → J.stop n1 H ∧ j = n
  qe : ∀ i j σ H, W i j σ H → QE H
  step : ∀ i j σ H x H1, i < n1 → W i j σ H → J.yld i H x H1 → g1 x σ H1 fun σ2 H2 => wi2 σ2 H2 fun J2 H3 => ∃ (n2 : Nat) (V : Nat → L2.St → Hp → Prop), j + n2 ≤ n ∧ Turns J2 n2 g2 te (fun m => F (j + m)) V ∧ V 0 σ2 H3 ∧ (∀ m σ' H', m ≤ n2 → V m σ' H' → QE H') ∧ ∀ σ' H', V n2 σ' H' → W (i + 1) (j + n2) σ' H'
def INo (X : Cx) (zs fp : List Addr) (tn : Nat → Heap → Prop) (W : Nat → Nat → L2.St → Hp → Prop) (i j : Nat) (s : Shared) : Prop :=
  ∃ pins σ H, pins.map (·.1) = zs ∧ Inv X pins σ H s ∧ (∀ b ∈ fp, H b = none) ∧ tn i s.heap ∧ W i j σ H
section
variable {X : Cx} {zs fp : List Addr} {a it : Addr} {g n n1 : Nat} {tn : Nat → Heap → Prop} {W : Nat → Nat → L2.St → Hp → Prop} {J : It} {elt tg iter tg2 iter2 : Expr} {scope : Scope} {gpos : Pos} {QE : Hp → Prop} {F : Nat → Value → Prop}
theorem turns2_seg {A : Around} {kk : Nat} {wi2 : TI} {gt gt2 : TG} {te : TE} (G : Gz X zs a g) (T : Turn X.prog X.w X.K tg J fp it tn) (s1 : ∀ b ∈ fp, Stat X zs b)
    (hA : A.over (.compLoop (ge2 elt tg iter tg2 iter2 scope gpos) 0 (.ref it) .none X.env) [] = X.A) (hxe : X.xe = fun _ _ => False) (hdA : A.handled = none) (hfA : A.frames.map (X.env :: ·) = some X.stack) (hr : Room (kk + 1) X.A) (hdX : X.calm = true → X.A.handled = none) (hfX : X.A.frames = some X.stack)
    (pg : PG X tg gt) (pi2 : PI X tg2 iter2 wi2) (hs : ∀ v, foldedSetIterable iter2 X.env v = pure v)
    (ctx : ∀ A2 : Around, A2.handled = none → A2.frames = some X.stack → Room kk A2 → PG { X with A := A2 } tg2 gt2 ∧ PE { X with A := A2 } elt te)
    (tt : Turns2 J n1 wi2 gt gt2 te n F QE W) :
    ∀ (k i j : Nat) (s₀ s : Shared), n1 - i = k → i ≤ n1 → (∀ b ∈ zs, s.heap.get? b = s₀.heap.get? b) → INo X zs fp tn W i j s →
      Seg (model X.prog X.w) A (GR (IEq X zs QE)) (GY zs n F (fun _ => IEq X zs QE)) (n - j) s₀ (.compLoop (ge2 elt tg iter tg2 iter2 scope gpos) 0 (.ref it) .none X.env) ((model X.prog X.w).den (.compLoop (ge2 elt tg iter tg2 iter2 scope gpos) 0 (.ref it) .none X.env)) [] s := by
  have no : ∀ {α : Type} {t : Sem α} {Q : α → Shared → Prop} {R : Value → Shared → Prop} {s : Shared}, wpAny (model X.prog X.w) X.A t Q X.xe s → wpAny (model X.prog X.w) X.A t Q R s := fun h => wpAny_mono h (fun _ _ z => z) fun _ _ z => by
    rw [hxe] at z
    exact z.elim
  intro k
  induction k with
  | zero =>
    intro i j s₀ s hk hi hu h
    obtain rfl : i = n1 := by omega
    obtain ⟨pins, σ, H, e, I, f, t, w⟩ := h
    show Seg _ A _ _ _ s₀ _ ((compTurn (ge2 elt tg iter tg2 iter2 scope gpos) 0 (.ref it) .none X.env).onRaise (leaving X.env)) [] s
    rw [turn_out, Sem.onRaise_eq_wrap]
    refine seg_bind_wrap (wpAny_standAt (seg_bind_wrap ?_))
    rw [hA]
    obtain ⟨st, rfl⟩ := tt.stop j σ H w
    refine no (wpAny_mono (T.done X rfl rfl rfl G.calm i pins s σ H X.xe I (fun b hb => (s1 b hb).ok ((s1 b hb).apart e) (f b hb)) t st) (fun r s3 z => ?_) fun _ _ z => z)
    obtain ⟨rfl, I1⟩ := z
    exact seg_end (.ok .next) ⟨rfl, Nat.sub_self j, pins, σ, H, e, I1, tt.qe _ _ _ _ w⟩
  | succ k ih =>
    intro i j s₀ s hk hi hu h
    have lt : i < n1 := by omega
    obtain ⟨pins, σ, H, e, I, f, t, w⟩ := h
    show Seg _ A _ _ _ s₀ _ ((compTurn (ge2 elt tg iter tg2 iter2 scope gpos) 0 (.ref it) .none X.env).onRaise (leaving X.env)) [] s
    rw [turn_out, Sem.onRaise_eq_wrap]
    refine seg_bind_wrap (wpAny_standAt (seg_bind_wrap ?_))
    rw [hA]
    refine no (wpAny_mono (T.item X rfl rfl rfl G.calm i pins s σ H X.xe I (fun b hb => (s1 b hb).ok ((s1 b hb).apart e) (f b hb)) t (tt.go i j σ H lt w)) (fun r s3 z => ?_) fun _ _ z => z)
    obtain ⟨u, rfl, z⟩ := z
    refine seg_bind_wrap ?_
    rw [hA]
    refine no (wpAny_mono z (fun _ s3 z => ?_) fun _ _ z => z)
    obtain ⟨x, H2, I2, r2, y2, t2, f2⟩ := z
    have I3 := I2.pinned (fp := fp) (fun b hb => (s1 b hb).ok ((s1 b hb).apart e) (f2 b hb)) (T.obj _ _ t2)
    refine seg_bind_wrap ?_
    rw [hA]
    refine no (wpAny_mono (pg.run _ s3 σ H2 x u _ I3 r2 (tt.step i j σ H x H2 lt w y2)) (fun _ s4 z => ?_) fun _ _ z => z)
    obtain ⟨σ4, H4, I4, q4⟩ := z
    simp only [List.forIn_nil]
    refine seg_bind_wrap (wpAny_pure ?_)
    rw [if_pos rfl]
    refine seg_bind_wrap ?_
    rw [hA]
    refine no (wpAny_mono (pi2.run _ s4 σ4 H4 _ I4 q4) (fun v5 s5 z => ?_) fun _ _ z => z)
    refine seg_bind_wrap (wpAny_standAt (seg_bind_wrap (wpAny_of_eq (hs v5) (seg_bind_wrap (wpAny_holding ?_)))))
    rw [hA]
    refine no (wpAny_mono z (fun itv s6 z => ?_) fun _ _ z => z)
    obtain ⟨it2, fp2, tn2, J2, H6, rfl, I6, T2, t6, f6, n2, V, hn, tt2, v0, qv, vw⟩ := z
    have iv6 : INi X zs fp fp2 (tn (i + 1)) tn2 V 0 s6 := ⟨pins, σ4, H6, e, I6.unpinned, fun b hb => by
      obtain ⟨o, ho, _⟩ := T.obj _ _ t2 b hb
      exact (I6.pin (b, o) (List.mem_append_right _ (List.mem_append_right _ (mem_pinsAt hb ho)))).2.1, fun b hb => (f6 b hb).1,
      T.keep _ _ _ t2 fun b hb o ho => (I6.pin (b, o) (List.mem_append_right _ (List.mem_append_right _ (mem_pinsAt hb ho)))).1, t6, v0⟩
    have s2 : ∀ b ∈ fp2, Stat X zs b := fun b hb => by
      obtain ⟨h0, h1, h2, h3, h4, h5⟩ := f6 b hb
      exact Stat.of (pins := pins) ⟨h0, h1, h2, h3, h4, fun p hp => h5 p ((List.mem_append.mp hp).elim (fun q => List.mem_append_left _ q) fun q => List.mem_append_right _ (List.mem_append_left _ q))⟩ e
    have dj : ∀ b ∈ fp2, b ∉ fp := fun b hb z => by
      obtain ⟨o, ho, _⟩ := T.obj _ _ t2 b z
      exact (f6 b hb).2.2.2.2.2 (b, o) (List.mem_append_right _ (List.mem_append_right _ (mem_pinsAt z ho))) rfl
    have hu6 : ∀ b ∈ zs, s6.heap.get? b = s₀.heap.get? b := fun b hb => by
      rw [← e] at hb
      obtain ⟨p, hp, rfl⟩ := List.mem_map.mp hb
      have q1 := (I.pin p (List.mem_append_right _ hp)).1
      have q2 := (I6.pin p (List.mem_append_right _ (List.mem_append_left _ hp))).1
      rw [q2, ← q1]
      exact hu _ (by rw [← e]; exact hb)
    show Seg _ _ _ _ _ _ _ (.call _ _ _ _ _) [] _
    refine seg_call fun p => ?_
    generalize hkont : (fun x => Sem.wrap _ _ _ _ _) = kont
    have hko : kont (.ok .next) = .pure (.again (.compLoop (ge2 elt tg iter tg2 iter2 scope gpos) 0 (.ref it) .none X.env)) := by subst hkont; rfl
    have hd2 : (A.over (.compLoop (ge2 elt tg iter tg2 iter2 scope gpos) 1 (.ref it2) .none X.env) [.ret kont none (id false) (id []) (.compLoop (ge2 elt tg iter tg2 iter2 scope gpos) 0 (.ref it) .none X.env) p []]).handled = none := hdA
    have hf2 : (A.over (.compLoop (ge2 elt tg iter tg2 iter2 scope gpos) 1 (.ref it2) .none X.env) [.ret kont none (id false) (id []) (.compLoop (ge2 elt tg iter tg2 iter2 scope gpos) 0 (.ref it) .none X.env) p []]).frames = some X.stack := hfA
    have hr2 : Room kk (A.over (.compLoop (ge2 elt tg iter tg2 iter2 scope gpos) 1 (.ref it2) .none X.env) [.ret kont none (id false) (id []) (.compLoop (ge2 elt tg iter tg2 iter2 scope gpos) 0 (.ref it) .none X.env) p []]) := by
      have h1 := hr.dp
      have h2 := hr.un
      rw [← hA] at h1 h2
      refine ⟨hd2, ?_, ?_⟩
      · have h3 : A.depth + 1 + 3 * (kk + 1) + 5 < recursionLimit := h1
        show A.depth + 1 + 0 + 3 * kk + 5 < _
        omega
      · have h3 : A.units + 3 + 16 * (kk + 1) + 200 < cLine := h2
        have h4 : unitsOf ([Frame.ret kont none (id false) (id []) (Code.compLoop (ge2 elt tg iter tg2 iter2 scope gpos) 0 (.ref it) .none X.env) p []].map Frame.where_) ≤ 8 := (by decide : (3 + 0 : Nat) ≤ 8)
        have h5 : (Code.compLoop (ge2 elt tg iter tg2 iter2 scope gpos) 1 (.ref it2) .none X.env).cUnits ≤ 5 := (by decide : (0 : Nat) ≤ 5)
        show A.units + unitsOf _ + Code.cUnits _ + 16 * kk + 200 < _
        omega
    obtain ⟨pg2, pe2⟩ := ctx _ hd2 hf2 hr2
    have loop := inner_seg (n := n) (F := F) G T2 (fun h t b hb => T.obj _ _ t b hb) (fun h h' t k => T.keep _ _ _ t k) s1 s2 dj rfl hd2 hf2 rfl rfl hxe pg2 pe2 tt2 qv hn hdX hfX (fun s₀' s' hu' h => by
      refine seg_leaf (.ok .next) ?_
      rw [hko]
      refine seg_again rfl (ih (i + 1) (j + n2) s₀' s' (by omega) lt hu' ?_)
      rcases h with ⟨ps, σ', H', e', I', g1, _, t', _, v'⟩ | ⟨ps, σ', H', e', I', g1, t', v'⟩
      · exact ⟨ps, σ', H', e', I', g1, t', vw _ _ v'⟩
      · exact ⟨ps, σ', H', e', I', g1, t', vw _ _ v'⟩) n2 0 s₀ s6 (Nat.sub_zero _) (Nat.zero_le _) hu6 iv6
    rw [Nat.add_zero] at loop
    show Seg _ _ _ _ _ _ _ ((compStart (ge2 elt tg iter tg2 iter2 scope gpos) 1 (.ref it2) .none X.env).onRaise _) [_] s6
    unfold compStart
    rw [Sem.onRaise_eq_wrap]
    show Seg _ _ _ _ _ _ _ ((ask >>= _).wrap _ _ _ _) [_] s6
    refine seg_bind_wrap (wpAny_askSetting ?_)
    split
    · exact seg_again rfl loop
    · refine seg_bind_wrap (wpAny_rule ?_)
      show Seg _ _ _ _ _ _ _ ((standAt iter2.pos >>= _).wrap _ _ _ _) [_] s6
      exact seg_bind_wrap (wpAny_standAt (seg_bind_wrap (T2.self _ 0 s6 _ _ t6 (seg_again rfl loop))))
end
end GG

set_option Elab.async false
set_option linter.all false
set_option maxRecDepth 100000
set_option maxHeartbeats 4000000
namespace GG
open PySem PySem.Spec PyProof.Rows L2 DL GenW QG
theorem eval_ge2 (elt tg iter tg2 iter2 : Expr) (scope : Scope) (gpos : Pos) (env : Env) (nc : scope.isCoroutine = false) :
    eval (ge2 elt tg iter tg2 iter2 scope gpos) env = (do
      let v ← eval iter env
      standAt iter.pos
      let v ← genFold iter env v
      let i ← holding [v] (pyIter v)
      enterFrame
      let cs ← closureFor scope env
      let cd ← genexprCode env gpos (env.qual ++ "<genexpr>") scope
      let b ← builtinsFor env.globals env.builtins
      let e2 ← newFunctionEnv scope env.globals cs [(".0", i)] (env.qual ++ "<genexpr>.") none cd none b
      newGenerator (.compStart (ge2 elt tg iter tg2 iter2 scope gpos) 0 i .none e2) "<genexpr>" (env.qual ++ "<genexpr>")) := by
  rw [arm_eval_GeneratorExp]; simp only [nc, Bool.false_eq_true, if_false]
  cases iter <;> rfl
section
variable {M : Model} {A : Around} {E : Value → Shared → Prop} {s : Shared}
theorem make_ge2 {env : Env} {elt tg iter tg2 iter2 : Expr} {scope : Scope} {cs : List (Str × Addr)} {gpos : Pos} {Q : Value → Shared → Prop} (nc : scope.isCoroutine = false) (cl : closureFor scope env = pure cs) (ncell : ∀ y ∈ scope.names, y.2 ≠ .cell) (dot : scope.names.lookup (".0" : Str) = some NameKind.local) (kd : scope.kind = .function) (dp : A.depth < recursionLimit)
    (h : wpAny M A (eval iter env) (fun v s1 => wpAny M A (pyIter v) (fun i s2 => s2.heap.NoLimit ∧ wpAny M A (genexprCode env gpos (env.qual ++ "<genexpr>") scope) (fun cd s3 => wpAny M A (builtinsFor env.globals env.builtins) (fun b s4 =>
      ∀ h2, h2.Ns s4.heap.objs.size (fun y => if y = ".0" then some i else none) → Heap.SameBut s4.heap.objs.size (s4.heap.push { cls := .type "frame", data := .dict #[] }) h2 → Q (.ref h2.objs.size) { s4 with gens := s4.gens.push (.fresh (.compStart (ge2 elt tg iter tg2 iter2 scope gpos) 0 i .none (genEnv scope cs s4.heap.objs.size cd b env))), toks := s4.toks + 1 + 1 + 1, heap := h2.push { cls := .type "generator", data := .fields #[.int s4.gens.size 0, .str "<genexpr>" (s4.toks + 1), .str (env.qual ++ "<genexpr>") (s4.toks + 1 + 1)] } }) E s3) E s2) E s1) E s)
    (gf : ∀ v, genFold iter env v = pure v) : wpAny M A (eval (ge2 elt tg iter tg2 iter2 scope gpos) env) Q E s := by
  rw [eval_ge2 _ _ _ _ _ _ _ _ nc, cl]
  refine wpAny_bind (wpAny_mono h (fun v s1 h1 => wpAny_bind (wpAny_standAt (wpAny_bind (wpAny_of_eq (gf v) (wpAny_bind (wpAny_holding (wpAny_mono h1 (fun i s2 h2 => ?_) fun _ _ e => e))))))) fun _ _ e => e)
  refine wpAny_bind (wpAny_enterFrame h2.1 dp (wpAny_bind (wpAny_pure (wpAny_bind (wpAny_mono h2.2 (fun cd s3 h3 => wpAny_bind (wpAny_mono h3 (fun b s4 h4 => ?_) fun _ _ e => e)) fun _ _ e => e)))))
  have hb : ∀ y ∈ ([((".0" : Str), i)] : List (Str × Value)), scope.names.lookup y.1 = some NameKind.local := fun y hy => by
    rw [List.mem_singleton.mp hy]; exact dot
  refine wpAny_bind (wpAny_newFunctionEnv ncell hb (fun h5 n5 b5 => ?_) kd)
  have e : (fun y : Str => ([((".0" : Str), i)] : List (Str × Value)).reverse.lookup y) = fun y : Str => if y = (".0" : Str) then some i else none := funext fun y => by
    by_cases q : y = ".0"
    · subst q; simp
    · simp [List.lookup, show (y == (".0" : Str)) = false by simpa using q, q]
  rw [e] at n5; simp only [newGenerator, newFields]
  exact wpAny_bind (wpAny_newGen (wpAny_bind (wpAny_mkText (wpAny_bind (wpAny_mkText (wpAny_newObj_type (h4 h5 n5 b5) (by size_fits)))))))
end
end GG

set_option Elab.async false
set_option linter.all false
set_option maxRecDepth 100000
set_option maxHeartbeats 4000000
/-! .. made, walked by all. -/
namespace GG
open PySem PySem.Spec PyProof.Rows L2 DL GenW QG
abbrev loop2 (elt tg iter tg2 iter2 : Expr) (scope : Scope) (gpos : Pos) (it : Addr) (env : Env) : Code := .compLoop (ge2 elt tg iter tg2 iter2 scope gpos) 0 (.ref it) .none env
abbrev start2 (elt tg iter tg2 iter2 : Expr) (scope : Scope) (gpos : Pos) (it : Addr) (env : Env) : Code := .compStart (ge2 elt tg iter tg2 iter2 scope gpos) 0 (.ref it) .none env
theorem around_gen2 {A : Around} {env : Env} {outer : List Env} {elt tg iter tg2 iter2 : Expr} {scope : Scope} {gpos : Pos} {it : Addr} (h : A.frames = some outer) : (A.in1.in1.over (loop2 elt tg iter tg2 iter2 scope gpos it env) []).frames = some (env :: outer) := by
  show A.frames.map _ = _
  rw [h]
  rfl
theorem room_gen2 {A : Around} {k : Nat} {env : Env} {elt tg iter tg2 iter2 : Expr} {scope : Scope} {gpos : Pos} {it : Addr} (r : Room (k + 1) A) : Room k (A.in1.in1.over (loop2 elt tg iter tg2 iter2 scope gpos it env) []) :=
  ⟨r.hd, by have := r.dp; show A.depth + 1 + 3 * k + 5 < _; omega, by have := r.un; show A.units + 1 + 1 + 3 + 16 * k + 200 < _; omega⟩
structure GRd2 (P : Addr) (m : Nat) (fv : List (Str × Nat)) (σ : L2.St) (wi2 : TI) (gt gt2 : TG) (te : TE) (J : It) (H1 : Hp) (n : Nat) (F : Nat → Value → Prop) (QE : Hp → Prop) : Prop where
  ex : ∃ (n1 : Nat) (W : Nat → Nat → L2.St → Hp → Prop), TabG H1 P ∧ Turns2 J n1 wi2 gt gt2 te n F QE W ∧ (∀ H2, GxR.Tabbed P H1 H2 → W 0 0 (capS σ m fv) H2)
section
variable {X : Cx} {pins : List (Addr × Obj)} {σ : L2.St} {H : Hp} {s : Shared} {scope : Scope} {own : List Str} {fv : List (Str × Nat)} {elt tg iter tg2 iter2 : Expr} {gpos : Pos} {c P : Addr} {wi wi2 : TI} {gt gt2 : TG} {te : TE} {k : Nat}
theorem made_by2 {n1 : Nat} {J : It} {fp : List Addr} {it : Addr} {tn : Nat → Heap → Prop} {H3 : Hp} {s3 : Shared} {code : Value} {n : Nat} {F : Nat → Value → Prop} {QE : Hp → Prop} (hr : Room (k + 1 + 1) X.A) (S : GSc X scope own fv)
    (hpg : ∀ (A : Around) (s : Shared) (H : Hp) (C : Addr) (code : Value) (ex : List Addr) (pn : List (Addr × Obj)), Room k A → PG (gxOf X A (own ++ fv.map (·.1)) s H scope C code ex pn) tg gt)
    (hpi : ∀ (A : Around) (s : Shared) (H : Hp) (C : Addr) (code : Value) (ex : List Addr) (pn : List (Addr × Obj)), Room k A → PI (gxOf X A (own ++ fv.map (·.1)) s H scope C code ex pn) tg2 iter2 wi2)
    (hpg2 : ∀ (A : Around) (s : Shared) (H : Hp) (C : Addr) (code : Value) (ex : List Addr) (pn : List (Addr × Obj)), Room k A → PG (gxOf X A (own ++ fv.map (·.1)) s H scope C code ex pn) tg2 gt2)
    (hpe : ∀ (A : Around) (s : Shared) (H : Hp) (C : Addr) (code : Value) (ex : List Addr) (pn : List (Addr × Obj)), Room k A → PE (gxOf X A (own ++ fv.map (·.1)) s H scope C code ex pn) elt te)
    (hs2 : ∀ env v, foldedSetIterable iter2 env v = pure v)
    (I3 : Inv X pins σ H3 s3) (T : Turn X.prog X.w X.K tg J fp it tn) (t3 : tn 0 s3.heap) (f3 : ∀ b ∈ fp, FpOk X pins H3 b) (W : Nat → Nat → L2.St → Hp → Prop) (tt : Turns2 J n1 wi2 gt gt2 te n F QE W) (w0 : W 0 0 (capS σ own.length fv) H3)
    {h' : Heap} {q : Str} (hn' : h'.Ns s3.heap.objs.size (fun y => if y = ".0" then some (.ref it) else none)) (hs' : Heap.SameBut s3.heap.objs.size (s3.heap.push { cls := .type "frame", data := .dict #[] }) h') :
    Made X pins σ n F QE h'.objs.size { s3 with
      gens := s3.gens.push (.fresh (start2 elt tg iter tg2 iter2 scope gpos it (genEnv scope (cloFrom X.env.cells scope.names []) s3.heap.objs.size code builtinsNs X.env)))
      toks := s3.toks + 1 + 1 + 1
      heap := h'.push (genObj s3.gens.size q s3.toks) } := by
  have hsz : h'.objs.size = s3.heap.objs.size + 1 := by rw [hs'.1, Heap.size_push]
  have up : ∀ b o, s3.heap.get? b = some o → (h'.push (genObj s3.gens.size q s3.toks)).get? b = some o := fun b o e => Heap.get?_push_of_some _ (hs'.extBut b o (Nat.ne_of_lt (Heap.lt_size e)) (Heap.get?_push_of_some _ e))
  have fl : ∀ b ∈ fp, FpOk X pins H3 b ∧ b < s3.heap.objs.size := fun b hb => ⟨f3 b hb, let ⟨o, e, _⟩ := T.obj _ _ t3 b hb; Heap.lt_size e⟩
  have ga : (h'.push (genObj s3.gens.size q s3.toks)).get? h'.objs.size = some (genObj s3.gens.size q s3.toks) := Heap.get?_push_size _ rfl
  have bp : AllBare (s3.gens.push (.fresh (start2 elt tg iter tg2 iter2 scope gpos it (genEnv scope (cloFrom X.env.cells scope.names []) s3.heap.objs.size code builtinsNs X.env)))) := I3.bare.push rfl
  have alt : s3.heap.objs.size < h'.objs.size := by rw [hsz]; exact Nat.lt_succ_self _
  refine ⟨s3.gens.size, ⟨_, _, _, ga, rfl, rfl, rfl⟩, bp, fun zs s6 hz k6 o6 b6 g6 => ?_⟩
  have A5 := around_gen2 (elt := elt) (tg := tg) (iter := iter) (tg2 := tg2) (iter2 := iter2) (scope := scope) (gpos := gpos) (it := it) (env := genEnv scope (cloFrom X.env.cells scope.names []) s3.heap.objs.size code builtinsNs X.env) I3.env0.frames
  have I5 := inv_gen (A := X.A.in1.in1.over (loop2 elt tg iter tg2 iter2 scope gpos it (genEnv scope (cloFrom X.env.cells scope.names []) s3.heap.objs.size code builtinsNs X.env)) []) (code := code) (t5 := s3.toks + 1 + 1 + 1) (it := it) (g := s3.gens.size) (q := q) (t := s3.toks) (a := h'.objs.size) hr.hd A5 S I3 fl (hn'.push _) up alt ga bp
  have RG := room_gen2 (elt := elt) (tg := tg) (iter := iter) (tg2 := tg2) (iter2 := iter2) (scope := scope) (gpos := gpos) (it := it) (env := genEnv scope (cloFrom X.env.cells scope.names []) s3.heap.objs.size code builtinsNs X.env) hr
  have pg := hpg (X.A.in1.in1.over (loop2 elt tg iter tg2 iter2 scope gpos it (genEnv scope (cloFrom X.env.cells scope.names []) s3.heap.objs.size code builtinsNs X.env)) []) s3 H3 s3.heap.objs.size code fp [(h'.objs.size, genObj s3.gens.size q s3.toks)] (RG.mono (Nat.le_succ _))
  have pi2 := hpi (X.A.in1.in1.over (loop2 elt tg iter tg2 iter2 scope gpos it (genEnv scope (cloFrom X.env.cells scope.names []) s3.heap.objs.size code builtinsNs X.env)) []) s3 H3 s3.heap.objs.size code fp [(h'.objs.size, genObj s3.gens.size q s3.toks)] (RG.mono (Nat.le_succ _))
  have ctx : ∀ A2 : Around, A2.handled = none → A2.frames = some (genEnv scope (cloFrom X.env.cells scope.names []) s3.heap.objs.size code builtinsNs X.env :: X.stack) → Room k A2 → PG { gxOf X (X.A.in1.in1.over (loop2 elt tg iter tg2 iter2 scope gpos it (genEnv scope (cloFrom X.env.cells scope.names []) s3.heap.objs.size code builtinsNs X.env)) []) (own ++ fv.map (·.1)) s3 H3 scope s3.heap.objs.size code fp [(h'.objs.size, genObj s3.gens.size q s3.toks)] with A := A2 } tg2 gt2 ∧ PE { gxOf X (X.A.in1.in1.over (loop2 elt tg iter tg2 iter2 scope gpos it (genEnv scope (cloFrom X.env.cells scope.names []) s3.heap.objs.size code builtinsNs X.env)) []) (own ++ fv.map (·.1)) s3 H3 scope s3.heap.objs.size code fp [(h'.objs.size, genObj s3.gens.size q s3.toks)] with A := A2 } elt te := fun A2 _ _ r => ⟨hpg2 A2 s3 H3 s3.heap.objs.size code fp [(h'.objs.size, genObj s3.gens.size q s3.toks)] r, hpe A2 s3 H3 s3.heap.objs.size code fp [(h'.objs.size, genObj s3.gens.size q s3.toks)] r⟩
  have hs3 : ∀ v, foldedSetIterable iter2 (gxOf X (X.A.in1.in1.over (loop2 elt tg iter tg2 iter2 scope gpos it (genEnv scope (cloFrom X.env.cells scope.names []) s3.heap.objs.size code builtinsNs X.env)) []) (own ++ fv.map (·.1)) s3 H3 scope s3.heap.objs.size code fp [(h'.objs.size, genObj s3.gens.size q s3.toks)]).env v = pure v := fun v => hs2 _ v
  generalize hXg : gxOf X (X.A.in1.in1.over (loop2 elt tg iter tg2 iter2 scope gpos it (genEnv scope (cloFrom X.env.cells scope.names []) s3.heap.objs.size code builtinsNs X.env)) []) (own ++ fv.map (·.1)) s3 H3 scope s3.heap.objs.size code fp [(h'.objs.size, genObj s3.gens.size q s3.toks)] = Xg at I5 pg pi2 ctx hs3 RG
  have s5z : (h'.push (genObj s3.gens.size q s3.toks)).objs.size = h'.objs.size + 1 := Heap.size_push ..
  have cl : ∀ x c, Xg.env.cells.lookup x = some c → X.env.cells.lookup x = some c := fun x c e => by subst hXg; exact NdefX.clo_cm S.free e
  have cz : ∀ x c, Xg.env.cells.lookup x = some c → c < s3.heap.objs.size := fun x c e => by
    obtain ⟨v, o, ho, _⟩ := I3.cell x c (cl x c e)
    exact Heap.lt_size ho
  have zge : ∀ b ∈ zs, h'.objs.size + 1 ≤ b := fun b hb => by
    have := (hz b hb).1
    rw [← s5z]
    exact this
  have St : ∀ b ∈ fp, Stat Xg zs b := fun b hb => by
      obtain ⟨⟨h1, h2, h3, h4, h5, h6⟩, lt⟩ := fl b hb
      refine ⟨?_, ?_, .inl ?_, fun x c e => h5 x c (cl x c e), fun p hp => ?_, fun z => ?_⟩
      · subst hXg; exact Nat.ne_of_lt lt
      · subst hXg
        intro z
        rcases List.mem_cons.mp (I3.stkSub b z) with e | e
        · exact h2 e
        · exact h3 e
      · subst hXg; exact hb
      · subst hXg
        have hp' : p ∈ [(h'.objs.size, genObj s3.gens.size q s3.toks)] := hp
        rw [List.mem_singleton] at hp'
        subst hp'
        exact Nat.ne_of_gt (Nat.lt_trans lt alt)
      · exact absurd (Nat.lt_trans (Nat.lt_of_lt_of_le (Nat.lt_succ_self _) (zge b z)) (Nat.lt_trans lt alt)) (Nat.lt_irrefl _)
  have G : Gz Xg zs h'.objs.size s3.gens.size := {
    zs := fun b hb => by
      have q1 := zge b hb
      have q2 : s3.heap.objs.size < b := Nat.lt_trans alt (Nat.lt_of_lt_of_le (Nat.lt_succ_self _) q1)
      refine ⟨?_, fun x c e => ?_, fun p hp => ?_⟩
      · subst hXg; exact Nat.le_of_lt q2
      · exact Nat.ne_of_lt (Nat.lt_trans (cz x c e) q2)
      · subst hXg
        have hp' : p ∈ [(h'.objs.size, genObj s3.gens.size q s3.toks)] := hp
        rw [List.mem_singleton] at hp'
        subst hp'
        exact Nat.ne_of_lt (Nat.lt_of_lt_of_le (Nat.lt_succ_self _) q1)
    gen := fun ps σ' H' s' J' => by
      have := (J'.pin (h'.objs.size, genObj s3.gens.size q s3.toks) (List.mem_append_left _ (by subst hXg; exact List.mem_singleton.mpr rfl))).1
      exact ⟨_, _, _, this, rfl, rfl, rfl⟩
    calm := by subst hXg; rfl
    co := by subst hXg; exact S.co }
  have T' : Turn Xg.prog Xg.w Xg.K tg J fp it tn := by subst hXg; exact T
  refine ⟨fun _ => IEq Xg zs QE, IEq Xg zs QE, ivOk2 G, ?_, fun s' h => ?_⟩
  · obtain ⟨p0, e0, I6⟩ := inv_nap (zs := []) I5 rfl (fun b hb => by cases hb) (s' := s6) ⟨o6, b6, fun b o _ e => k6 b o e, fun b hb => by cases hb⟩
    have I6' : Inv Xg [] (capS σ own.length fv) H3 s6 := I6.pins_of fun p hp => by cases hp
    have mk : ∀ ys : List Addr, (∀ b ∈ ys, b ∈ zs) → ∃ ps : List (Addr × Obj), ps.map (·.1) = ys ∧ ∀ p ∈ ps, p.1 ∈ zs ∧ s6.heap.get? p.1 = some p.2 ∧ ∀ v, p.2.data ≠ .cell v := by
      intro ys
      induction ys with
      | nil => exact fun _ => ⟨[], rfl, fun p hp => by cases hp⟩
      | cons y ys ih =>
        intro hy
        obtain ⟨_, o, e1, e2⟩ := hz y (hy y List.mem_cons_self)
        obtain ⟨ps, e3, e4⟩ := ih fun b hb => hy b (List.mem_cons_of_mem _ hb)
        refine ⟨(y, o) :: ps, by rw [List.map_cons, e3], fun p hp => ?_⟩
        rcases List.mem_cons.mp hp with rfl | hp
        · exact ⟨hy y List.mem_cons_self, e1, e2⟩
        · exact e4 p hp
    obtain ⟨ps, e1, e2⟩ := mk zs fun _ h => h
    have I7 : Inv Xg ps (capS σ own.length fv) H3 s6 := I6'.pins_of fun p hp => by
      obtain ⟨h1, h2, h3⟩ := e2 p hp
      have q1 := zge _ h1
      have q2 : s3.heap.objs.size < p.1 := Nat.lt_trans alt (Nat.lt_of_lt_of_le (Nat.lt_succ_self _) q1)
      refine ⟨h2, I3.hok.fresh (Nat.le_of_lt q2), ?_, ?_, h3⟩
      · subst hXg; exact Nat.ne_of_gt q2
      · subst hXg
        intro z
        rcases List.mem_cons.mp (I3.stkSub p.1 z) with e | e
        · rw [e] at q2
          exact absurd (Nat.lt_trans I3.lt q2) (Nat.lt_irrefl _)
        · exact I3.nofs (Nat.le_of_lt q2) e
    have iv : IEq Xg zs QE s6 := ⟨ps, _, H3, e1, I7, tt.qe 0 0 _ _ w0⟩
    refine ⟨iv, .fresh (start2 elt tg iter tg2 iter2 scope gpos it (genEnv scope (cloFrom X.env.cells scope.names []) s3.heap.objs.size code builtinsNs X.env)), g6.trans (Array.getElem?_push_size ..), fun s' z => ⟨rfl, ?_⟩⟩
    obtain ⟨pins', e', I8⟩ := inv_nap I7 e1 G.zs z
    have t' : tn 0 s'.heap := T.keep _ _ _ t3 fun b hb o e => z.keep b o (St b hb).zs (k6 b o (up b o e))
    have iv' : INo Xg zs fp tn W 0 0 s' := ⟨pins', _, H3, e', I8, fun b hb => (fl b hb).1.1, t', w0⟩
    have A6 : X.A.in1.in1.frames.map (Xg.env :: ·) = some Xg.stack := by subst hXg; exact A5
    have A7 : Xg.A.frames = some Xg.stack := by subst hXg; exact A5
    have q1 : X.A.in1.in1.over (.compLoop (ge2 elt tg iter tg2 iter2 scope gpos) 0 (.ref it) .none Xg.env) [] = Xg.A := by subst hXg; rfl
    have q2 : Xg.xe = fun _ _ => False := by subst hXg; rfl
    have q3 : Room (k + 1) Xg.A := by subst hXg; exact RG
    have q4 : Xg.calm = true → Xg.A.handled = none := by subst hXg; exact fun _ => hr.hd
    have q5 : ∀ A2 : Around, A2.handled = none → A2.frames = some Xg.stack → Room k A2 → PG { Xg with A := A2 } tg2 gt2 ∧ PE { Xg with A := A2 } elt te := by subst hXg; exact ctx
    have loop := turns2_seg (F := F) G T' St q1 q2 hr.hd A6 q3 q4 A7 pg pi2 hs3 q5 tt n1 0 0 s' s' (Nat.sub_zero _) (Nat.zero_le _) (fun _ _ => rfl) iv'
    have envq : Xg.env = genEnv scope (cloFrom X.env.cells scope.names []) s3.heap.objs.size code builtinsNs X.env := by subst hXg; rfl
    have mq : model Xg.prog Xg.w = model X.prog X.w := by subst hXg; rfl
    rw [envq, mq] at loop
    show Seg _ _ _ _ _ s' _ ((compStart (ge2 elt tg iter tg2 iter2 scope gpos) 0 (.ref it) .none (genEnv scope (cloFrom X.env.cells scope.names []) s3.heap.objs.size code builtinsNs X.env)).onRaise (leaving _)) [] s'
    unfold compStart
    rw [Sem.onRaise_eq_wrap]
    show Seg _ _ _ _ _ s' _ ((ask >>= _).wrap _ _ _ _) [] s'
    refine seg_bind_wrap (wpAny_askSetting ?_)
    split
    · exact seg_again rfl loop
    · first
        | exact seg_bind_wrap (wpAny_rule (seg_bind_wrap (wpAny_standAt (seg_bind_wrap (T.self _ 0 s' _ _ t' (seg_again rfl loop))))))
        | (refine seg_bind_wrap (wpAny_rule ?_)
           show Seg _ _ _ _ _ s' _ ((standAt iter.pos >>= _).wrap _ _ _ _) [] s'
           exact seg_bind_wrap (wpAny_standAt (seg_bind_wrap (T.self _ 0 s' _ _ t' (seg_again rfl loop)))))
  · obtain ⟨ps, σ', H', _, J', w'⟩ := h
    refine ⟨H', ?_, w'⟩
    subst hXg
    exact I3.call' (ch := fp) J'.os J'.base J'.hok J'.bare fun b hb => by
      obtain ⟨h1, h2, h3, h4, h5, h6⟩ := f3 b hb
      exact ⟨h4, h2, h5, h6⟩
theorem gen_run2 {R : Nat → (Nat → Value → Prop) → (Hp → Prop) → Prop} {Q' : Value → Shared → Prop} (hr : Room (k + 1 + 1) X.A) (TB : GxR.TabB X.base X.mg c P) (hcode : X.env.code = .ref c) (S : GSc X scope own fv) (hi : PI X tg iter wi)
    (hpg : ∀ (A : Around) (s : Shared) (H : Hp) (C : Addr) (code : Value) (ex : List Addr) (pn : List (Addr × Obj)), Room k A → PG (gxOf X A (own ++ fv.map (·.1)) s H scope C code ex pn) tg gt)
    (hpi : ∀ (A : Around) (s : Shared) (H : Hp) (C : Addr) (code : Value) (ex : List Addr) (pn : List (Addr × Obj)), Room k A → PI (gxOf X A (own ++ fv.map (·.1)) s H scope C code ex pn) tg2 iter2 wi2)
    (hpg2 : ∀ (A : Around) (s : Shared) (H : Hp) (C : Addr) (code : Value) (ex : List Addr) (pn : List (Addr × Obj)), Room k A → PG (gxOf X A (own ++ fv.map (·.1)) s H scope C code ex pn) tg2 gt2)
    (hpe : ∀ (A : Around) (s : Shared) (H : Hp) (C : Addr) (code : Value) (ex : List Addr) (pn : List (Addr × Obj)), Room k A → PE (gxOf X A (own ++ fv.map (·.1)) s H scope C code ex pn) elt te)
    (hs2 : ∀ env v, foldedSetIterable iter2 env v = pure v)
    (hs : ∀ v, genFold iter X.env v = pure v) (I : Inv X pins σ H s) (h : wi σ H fun J H1 => ∃ n F QE, GRd2 P own.length fv σ wi2 gt gt2 te J H1 n F QE ∧ R n F QE)
    (hQ : ∀ n F QE a s5, R n F QE → Made X pins σ n F QE a s5 → Q' (.ref a) s5) : wpAny (model X.prog X.w) X.A (eval (ge2 elt tg iter tg2 iter2 scope gpos) X.env) Q' X.xe s := by
  refine make_ge2 S.co (closure_ok S.free) S.cell S.dot S.kind (by have := hr.dp; omega) ?_ hs
  refine wpAny_mono (hi.run pins s σ H _ I h) (fun xv s1 z => wpAny_mono z (fun itv s2 z2 => ?_) fun _ _ e => e) fun _ _ e => e
  obtain ⟨it, fp, tn, J, H2, rfl, I2, T, t2, f2, n, F, QE, ⟨n1, W, tgP, tt, w0⟩, hR⟩ := z2
  obtain ⟨ps, hP, ht, hPs⟩ := tab_at I2 tgP
  have cd : PySem.W.CodeHd s2.heap c P := TB.code.keeps I2.bk
  have go : ∀ (code : Value) (s3 : Shared) (H3 : Hp), Inv X pins σ H3 s3 → GxR.Tabbed P H2 H3 → (∀ b o, b ≠ P → s2.heap.get? b = some o → s3.heap.get? b = some o) → wpAny (model X.prog X.w) X.A (builtinsFor X.env.globals X.env.builtins) (fun bi s4 => ∀ h', h'.Ns s4.heap.objs.size (fun y => if y = ".0" then some (.ref it) else none) → Heap.SameBut s4.heap.objs.size (s4.heap.push { cls := .type "frame", data := .dict #[] }) h' →
      Q' (.ref h'.objs.size) { s4 with
        gens := s4.gens.push (.fresh (.compStart (ge2 elt tg iter tg2 iter2 scope gpos) 0 (.ref it) .none (genEnv scope (cloFrom X.env.cells scope.names []) s4.heap.objs.size code bi X.env)))
        toks := s4.toks + 1 + 1 + 1
        heap := h'.push { cls := .type "generator", data := .fields #[.int s4.gens.size 0, .str "<genexpr>" (s4.toks + 1), .str (X.env.qual ++ "<genexpr>") (s4.toks + 1 + 1)] } }) X.xe s3 := by
    intro code s3 H3 I3 tb up
    have nP : ∀ b, H2 b = none → b ≠ P := fun b e z => by rw [z, hP] at e; cases e
    have t3 : tn 0 s3.heap := T.keep _ _ _ t2 fun b hb o e => up b o (nP b (f2 b hb).1) e
    have f3 : ∀ b ∈ fp, FpOk X pins H3 b := fun b hb => ⟨by rw [tb.2 b (nP b (f2 b hb).1)]; exact (f2 b hb).1, (f2 b hb).2⟩
    obtain ⟨bm, ob, e1, e2, e3, e4, e5, e6, e7, e8⟩ := TB.bm
    refine wpAny_builtinsFor (m := X.mg) (by rw [I3.ok.glob]; exact I3.mod.glob.keeps I3.bk) e1 e2 (I3.bk _ _ e5) e6 e7 e8 ?_
    intro h' hn' hs'
    exact hQ n F QE _ _ hR (made_by2 hr S hpg hpi hpg2 hpe hs2 I3 T t3 f3 W tt (w0 H3 tb) hn' hs')
  refine ⟨I2.nolimit, ?_⟩
  cases hf : codeAmong gpos ps.toList with
  | none =>
    refine wpAny_genexprCodeX hcode (cd.code hPs ht) (cd.tab hPs) hf fun c' h' tk hx hge hlt hco' _ htab' _ => ?_
    obtain ⟨_, _, _, _, _, _, _, _, _, _, _, _, _, _, _, _, _, _, _, htr, _⟩ := hco'
    have J2 := GxR.inv_tab (h' := h') (g' := s2.gens) (d' := s2.drawn) (t' := tk) I2 hP (fun b o hb e => hx b o hb e) htab'.2 I2.bare
    exact go _ _ _ J2 ⟨⟨_, upd_same, htr⟩, fun b hb => upd_ne hb⟩ fun b o hb e => hx b o hb e
  | some cv => exact wpAny_genexprCode_hit hcode (cd.code hPs ht) hf (go cv s2 H2 I2 ⟨tgP, fun _ _ => rfl⟩ fun _ _ _ e => e)
/-- all(e for t in it for t2 in it2) -/
def tAll2G (P : Addr) (m : Nat) (fv : List (Str × Nat)) (wi wi2 : TI) (gt gt2 : TG) (te : TE) : TE := fun σ H Q => wi σ H fun J H1 => ∃ n F QE, GRd2 P m fv σ wi2 gt gt2 te J H1 n F QE ∧ ∃ tr : Nat → Bool, (∀ j v, F j v → v = .bool (tr j)) ∧ ∀ H', QE H' → Q (.bl ((List.range n).all tr)) H'
variable {p pos : Pos}
theorem pe_all2G (hr : Room (k + 1 + 1) X.A) (hg : Gl X "all") (hm : X.mg "all" = none) (TB : GxR.TabB X.base X.mg c P) (hcode : X.env.code = .ref c) (S : GSc X scope own fv) (hi : PI X tg iter wi)
    (hpg : ∀ (A : Around) (s : Shared) (H : Hp) (C : Addr) (code : Value) (ex : List Addr) (pn : List (Addr × Obj)), Room k A → PG (gxOf X A (own ++ fv.map (·.1)) s H scope C code ex pn) tg gt)
    (hpi : ∀ (A : Around) (s : Shared) (H : Hp) (C : Addr) (code : Value) (ex : List Addr) (pn : List (Addr × Obj)), Room k A → PI (gxOf X A (own ++ fv.map (·.1)) s H scope C code ex pn) tg2 iter2 wi2)
    (hpg2 : ∀ (A : Around) (s : Shared) (H : Hp) (C : Addr) (code : Value) (ex : List Addr) (pn : List (Addr × Obj)), Room k A → PG (gxOf X A (own ++ fv.map (·.1)) s H scope C code ex pn) tg2 gt2)
    (hpe : ∀ (A : Around) (s : Shared) (H : Hp) (C : Addr) (code : Value) (ex : List Addr) (pn : List (Addr × Obj)), Room k A → PE (gxOf X A (own ++ fv.map (·.1)) s H scope C code ex pn) elt te)
    (hs2 : ∀ env v, foldedSetIterable iter2 env v = pure v)
    (hs : ∀ v, genFold iter X.env v = pure v)
    (he : starEach [ge2 elt tg iter tg2 iter2 scope gpos] X.env = (false, eval (ge2 elt tg iter tg2 iter2 scope gpos) X.env) :: starEach [] X.env := by rfl) :
    PE X (.Call (.Name "all" p) [ge2 elt tg iter tg2 iter2 scope gpos] [] pos) (tAll2G P own.length fv wi wi2 gt gt2 te) := by
  refine ⟨fun pins s σ H Q I h => wpAny_Call_Name_kw (ld_blt I hg hm (by decide +kernel : bootBuiltins "all" = some (.builtin "all")) (PyProof.Rows.callWith_builtin1 ?_ he (by rfl)))⟩
  rw [he]
  refine Calls.spliced_cons (gen_run2 (R := fun n F QE => ∃ tr : Nat → Bool, (∀ j v, F j v → v = .bool (tr j)) ∧ ∀ H', QE H' → Q (.bl ((List.range n).all tr)) H') hr TB hcode S hi hpg hpi hpg2 hpe hs2 hs I h fun n F QE a s5 hR md => Calls.spliced_nil ?_)
  obtain ⟨tr, hF, hq⟩ := hR
  obtain ⟨g, isg, bare, md⟩ := md
  obtain ⟨IV, IE, ok, st, fin⟩ := md [] s5 (fun b hb => by cases hb) (fun _ _ e => e) rfl bare rfl
  refine all_call (wpAny_pyIter_gen isg ⟨a, g, n, F, IV, IE, tr, rfl, hr.hd, by have := hr.dp; omega, ok, hF, st, fun s' h' => ?_⟩)
  obtain ⟨H', J, q⟩ := fin s' h'
  exact ⟨.bl _, H', J, rfl, hq H' q⟩
end
end GG

set_option Elab.async false
set_option linter.all false
set_option maxRecDepth 100000
set_option maxHeartbeats 4000000
/-! .. over data. -/
namespace DL
open PySem PySem.Spec PyProof.Rows L2 QG GG
def dElt2 (G1 : DG) (I2 : DI) (G2 : DG) (A : DE) (vs1 vs2 : List Nat) (Γg : Gm) (x : D) (bs : List Bool) : Prop := ∃ Γx, G1 x Γg = some Γx ∧ I2 no Γx fun ys Γy => okW Γy vs1 = true ∧ wipeG Γy vs1 = Γg ∧ ∃ h : D → Bool, bs = ys.map h ∧ ∀ y ∈ ys, ∃ Γz, G2 y Γy = some Γz ∧ A no Γz fun w Γ3 => w = .dat (.bl (h y)) ∧ okW Γ3 vs2 = true ∧ wipeG Γ3 vs2 = Γy
def dAll2G (I : DI) (m : Nat) (fv : List (Str × Nat)) (G1 : DG) (I2 : DI) (G2 : DG) (A : DE) (vs1 vs2 : List Nat) : DE := fun xd Γ Q => I xd Γ fun xs Γ1 => ∃ ds Γ2, capD Γ1 fv = some (ds, Γ2) ∧ ∃ f : D → List Bool, (∀ x ∈ xs, dElt2 G1 I2 G2 A vs1 vs2 (genG m ds) x (f x)) ∧ Q (.dat (.bl ((xs.flatMap f).all id))) Γ2
theorem all_getD : ∀ l : List Bool, (List.range l.length).all (fun j => l.getD j false) = l.all id
  | [] => rfl
  | b :: l => by
    rw [List.length_cons, List.range_succ_eq_map, List.all_cons, List.all_map, List.all_cons, ← all_getD l]
    rfl
theorem flat_at {α β : Type} (f : α → List β) {xs : List α} {i : Nat} {d : α} (h : xs[i]? = some d) (m : Nat) (hm : m < (f d).length) : (xs.flatMap f)[((xs.take i).flatMap f).length + m]? = (f d)[m]? := by
  have e : xs = xs.take i ++ d :: xs.drop (i + 1) := by
    obtain ⟨hi, rfl⟩ := List.getElem?_eq_some_iff.mp h
    rw [← List.drop_eq_getElem_cons hi, List.take_append_drop]
  have e2 : xs.flatMap f = (xs.take i).flatMap f ++ (f d ++ (xs.drop (i + 1)).flatMap f) := by
    conv => lhs; rw [e]
    rw [List.flatMap_append, List.flatMap_cons]
  rw [e2, List.getElem?_append_right (by omega), Nat.add_sub_cancel_left, List.getElem?_append_left hm]
theorem flat_take {α β : Type} (f : α → List β) {xs : List α} {i : Nat} {d : α} (h : xs[i]? = some d) : ((xs.take (i + 1)).flatMap f).length = ((xs.take i).flatMap f).length + (f d).length := by
  rw [List.take_add_one, h, List.flatMap_append, List.length_append]
  simp
theorem flat_le {α β : Type} (f : α → List β) (xs : List α) (i : Nat) : ((xs.take i).flatMap f).length ≤ (xs.flatMap f).length := by
  conv => rhs; rw [← List.take_append_drop i xs]
  rw [List.flatMap_append, List.length_append]
  exact Nat.le_add_right _ _
theorem genG_en {P : Par} {m : Nat} {fv : List (Str × Nat)} {B2 : Hp} {Γ2 : Gm} {σ : L2.St} {H1 H2 : Hp} {ds : List D} (n2 : En P B2 Γ2 σ H1) (ex : Ex H1 H2) (hcap : ∀ (j : Nat) (p : Str × Nat) (d : D), fv[j]? = some p → ds[j]? = some d → ∃ v, σ[p.2]? = some (some v) ∧ Rp P.K B2 v d) (hl : ds.length = fv.length) :
    En ⟨P.K, hidF P Γ2 σ H1, [], B2, no, E0, P.ts, hidF_tab n2, fun _ _ _ _ _ _ z => z.elim⟩ B2 (genG m ds) (capS σ m fv) H2 := by
  have none_own : ∀ (i : Nat) (p : Bool) (l : List D), (genG m ds)[i]? ≠ some (.own p l) := fun i p l h => by
    unfold genG at h
    rw [List.getElem?_append] at h
    split at h
    · rw [List.getElem?_replicate] at h
      split at h <;> cases h
    · rw [List.getElem?_map] at h
      cases q : ds[i - (List.replicate m Sl.non).length]? with
      | none => rw [q] at h; cases h
      | some d => rw [q] at h; cases h
  exact {
    len := by unfold genG capS; simp [hl]
    base := Ex.refl _
    sub := n2.sub.trans ex
    frm := (hidF_ex n2).trans ex
    dj := hidF_dj n2
    dat := fun i d h => by
      unfold genG at h
      unfold capS
      rw [List.getElem?_append] at h ⊢
      rw [List.length_replicate] at h ⊢
      split at h
      · rw [List.getElem?_replicate] at h
        split at h <;> cases h
      · rename_i hi
        rw [if_neg hi]
        rw [List.getElem?_map] at h ⊢
        cases q : ds[i - m]? with
        | none => rw [q] at h; cases h
        | some d' =>
          rw [q] at h
          cases h
          have hlt : i - m < fv.length := by rw [← hl]; exact (List.getElem?_eq_some_iff.mp q).1
          obtain ⟨v, h1, h2⟩ := hcap (i - m) fv[i - m] d (List.getElem?_eq_getElem hlt) q
          refine ⟨v, ?_, h2⟩
          rw [List.getElem?_eq_getElem hlt, Option.map_some, h1]
          rfl
    own := fun i p l h => absurd h (none_own i p l)
    inj := fun i j p p' l l' a h => absurd h (none_own i p l)
    pin := fun q hq => by cases hq
    hf := .none fun i M h => by
      unfold genG at h
      rw [List.getElem?_append] at h
      split at h
      · rw [List.getElem?_replicate] at h
        split at h <;> cases h
      · rw [List.getElem?_map] at h
        cases q : ds[i - (List.replicate m Sl.non).length]? with
        | none => rw [q] at h; cases h
        | some d => rw [q] at h; cases h }
theorem grd2_of {P : Par} {P0 : Addr} {m : Nat} {fv : List (Str × Nat)} {gt gt2 : TG} {G1 G2 : DG} {ix ix2 vs1 vs2 : List Nat} {wi2 : TI} {I2 : DI} {te : TE} {A : DE} {B1 : Hp} {Γ1 Γ2 : Gm} {σ : L2.St} {H1 : Hp} {xs : List D} {J : It} {ds : List D} (hts : P0 ∈ P.ts)
    (lg : ∀ P' : Par, P'.K = P.K → P'.E = E0 ∧ P'.ts = P.ts → LG P' gt G1 ix) (li : ∀ P' : Par, P'.K = P.K → P'.E = E0 ∧ P'.ts = P.ts → LI P' wi2 I2) (lg2 : ∀ P' : Par, P'.K = P.K → P'.E = E0 ∧ P'.ts = P.ts → LG P' gt2 G2 ix2) (le : ∀ P' : Par, P'.K = P.K → P'.E = E0 ∧ P'.ts = P.ts → LE P' te A)
    (n1 : En P B1 Γ1 σ H1) (it : ItD P.K J B1 xs) (hc : capD Γ1 fv = some (ds, Γ2)) (f : D → List Bool) (he : ∀ x ∈ xs, dElt2 G1 I2 G2 A vs1 vs2 (genG m ds) x (f x)) :
    ∃ B2, Ex B1 B2 ∧ En P B2 Γ2 σ H1 ∧ GRd2 P0 m fv σ wi2 gt gt2 te J H1 (xs.flatMap f).length (fun j u => ∃ b, (xs.flatMap f)[j]? = some b ∧ u = .bool b) (LeftG B2 (hidF P Γ2 σ H1)) := by
  obtain ⟨B2, x2, n2, hl, hcap⟩ := n1.capd hc
  have tg : TabG H1 P0 := n1.frm.tab (P.tab P0 hts)
  let P' : Par := ⟨P.K, hidF P Γ2 σ H1, [], B2, no, E0, P.ts, hidF_tab n2, fun _ _ _ _ _ _ z => z.elim⟩
  refine ⟨B2, x2, n2, ⟨xs.length, fun i j σ' H' => j = ((xs.take i).flatMap f).length ∧ ∃ B', Ex B2 B' ∧ En P' B' (genG m ds) σ' H', tg, ⟨fun i j σ' H' hi w => ?_, fun j σ' H' w => ?_, fun i j σ' H' w => ?_, fun i j σ' H' x H2 hi w y => ?_⟩, fun H2 tb => ?_⟩⟩
  · obtain ⟨_, B', e, n'⟩ := w
    exact it.go B' H' (x2.trans e) n'.sub i hi
  · obtain ⟨hj, B', e, n'⟩ := w
    exact ⟨it.stop B' H' (x2.trans e) n'.sub, by rw [hj, List.take_length]⟩
  · obtain ⟨_, B', e, n'⟩ := w
    exact ⟨B', e, n'.sub, n'.frm, n'.dj⟩
  · obtain ⟨hj, B', e, n'⟩ := w
    obtain ⟨B4, d, hd, gr, rp⟩ := it.yld B' H' (x2.trans e) n'.sub i x H2 hi y
    obtain ⟨Γx, hg, hI⟩ := he d (List.mem_of_getElem? hd)
    refine lg P' rfl ⟨rfl, rfl⟩ B4 (genG m ds) σ' H2 x d Γx _ (n'.grow gr) rp hg fun σ2 n4 _ => ?_
    refine li P' rfl ⟨rfl, rfl⟩ B4 Γx σ2 H2 _ _ n4 hI fun ys Γy J2 H3 B5 e5 n5 it2 h5 => ?_
    obtain ⟨w1, w2, h, hb, hy⟩ := h5
    have hfl : (f d).length = ys.length := by rw [hb, List.length_map]
    have hle : j + ys.length ≤ (xs.flatMap f).length := by
      have := flat_le f xs (i + 1)
      rw [flat_take f hd] at this
      omega
    refine ⟨ys.length, fun m' σ3 H4 => ∃ B6, Ex B5 B6 ∧ En P' B6 Γy σ3 H4, hle, ⟨fun m' σ3 H4 hm v => ?_, fun σ3 H4 v => ?_, fun m' σ3 H4 x2' H5 hm v y2 => ?_⟩, ⟨B5, Ex.refl _, n5⟩, fun m' σ3 H4 _ v => ?_, fun σ3 H4 v => ?_⟩
    · obtain ⟨B6, e6, n6⟩ := v
      exact it2.go B6 H4 e6 n6.sub m' hm
    · obtain ⟨B6, e6, n6⟩ := v
      exact it2.stop B6 H4 e6 n6.sub
    · obtain ⟨B6, e6, n6⟩ := v
      obtain ⟨B7, d2, hd2, gr2, rp2⟩ := it2.yld B6 H4 e6 n6.sub m' x2' H5 hm y2
      obtain ⟨Γz, hg2, hA⟩ := hy d2 (List.mem_of_getElem? hd2)
      refine lg2 P' rfl ⟨rfl, rfl⟩ B7 Γy σ3 H5 x2' d2 Γz _ (n6.grow gr2) rp2 hg2 fun σ4 n7 _ => ?_
      refine le P' rfl ⟨rfl, rfl⟩ B7 Γz σ4 H5 _ _ n7 hA fun w Γ3 v8 H8 B8 e8 n8 r8 h8 => ?_
      obtain ⟨rfl, hw, hz⟩ := h8
      refine ⟨fun u ru => ⟨h d2, ?_, ?_⟩, B8, e6.trans (gr2.vis.trans e8), ?_⟩
      · rw [hj, flat_at f hd m' (by rw [hfl]; exact hm), hb, List.getElem?_map, hd2]
        rfl
      · have r8' : Rp P.K B8 v8 (.bl (h d2)) := r8
        cases r8'
        exact ru
      · rw [← hz]
        exact n8.wipe hw rfl fun _ _ => rfl
    · obtain ⟨B6, e6, n6⟩ := v
      exact ⟨B6, e.trans (gr.vis.trans (e5.trans e6)), n6.sub, n6.frm, n6.dj⟩
    · obtain ⟨B6, e6, n6⟩ := v
      refine ⟨by rw [flat_take f hd, hj, hfl], B6, e.trans (gr.vis.trans (e5.trans e6)), ?_⟩
      rw [← w2]
      exact n6.wipe w1 rfl fun _ _ => rfl
  · have ex := Ex.grown tg tb
    exact ⟨rfl, B2, Ex.refl _, genG_en n2 ex hcap hl⟩
section
variable {F : Fam} {E : XK} {c P0 : Addr} {elt tg iter tg2 iter2 : Expr} {p pos gpos : Pos} {scope : Scope} {own : List Str} {fv : List (Str × Nat)} {k : Nat} {I I2 : DI} {G1 G2 : DG} {ix ix2 : List Nat} {A : DE}
theorem pd_all2G (own : List Str) (fv : List (Str × Nat)) (vs1 vs2 : List Nat) (hts : P0 ∈ F.ts) (hr : ∀ j, Room (k + 1 + 1) (F.X j).A) (hm : ∀ j, (F.X j).mg "all" = none) (TB : ∀ j, GxR.TabB (F.X j).base (F.X j).mg c P0) (hcode : ∀ j, (F.X j).env.code = .ref c) (S : ∀ j, GSc (F.X j) scope own fv) (hi : PDI F E tg iter I)
    (hpg : PDG (F.gen k (own ++ fv.map (·.1)) scope) tg G1 ix) (hi2 : PDI (F.gen k (own ++ fv.map (·.1)) scope) E0 tg2 iter2 I2) (hpg2 : PDG (F.gen k (own ++ fv.map (·.1)) scope) tg2 G2 ix2) (hel : PD (F.gen k (own ++ fv.map (·.1)) scope) E0 elt A)
    (hg : ∀ j, Gl (F.X j) "all" := by intro _; rfl) (hs : ∀ j v, genFold iter (F.X j).env v = pure v := by intro _ _; rfl) (hs2 : ∀ env v, foldedSetIterable iter2 env v = pure v := by intro _ _; rfl)
    (he : ∀ j, starEach [ge2 elt tg iter tg2 iter2 scope gpos] (F.X j).env = (false, eval (ge2 elt tg iter tg2 iter2 scope gpos) (F.X j).env) :: starEach [] (F.X j).env := by intro _; rfl) :
    PD F E (.Call (.Name "all" p) [ge2 elt tg iter tg2 iter2 scope gpos] [] pos) (dAll2G I own.length fv G1 I2 G2 A vs1 vs2) :=
  let ⟨wi, pi, li⟩ := hi; let ⟨gt, pg, lg⟩ := hpg; let ⟨wi2, pi2, li2⟩ := hi2; let ⟨gt2, pg2, lg2⟩ := hpg2; let ⟨te, pe, le⟩ := hel
  ⟨tAll2G P0 own.length fv wi wi2 gt gt2 te, fun j => pe_all2G (hr j) (hg j) (hm j) (TB j) (hcode j) (S j) (pi j) (fun A s H C code ex pn r => pg ⟨(j, A, s, H, C, code, ex, pn), r⟩) (fun A s H C code ex pn r => pi2 ⟨(j, A, s, H, C, code, ex, pn), r⟩) (fun A s H C code ex pn r => pg2 ⟨(j, A, s, H, C, code, ex, pn), r⟩) (fun A s H C code ex pn r => pe ⟨(j, A, s, H, C, code, ex, pn), r⟩) hs2 (hs j) (he j),
    fun P hK hE Bv Γ σ H Qd Q n h kk => li P hK hE Bv Γ σ H _ _ n h fun xs Γ1 J H1 B1 e1 n1 it h1 => by
    obtain ⟨ds, Γ2, hc, f, hf, h2⟩ := h1
    obtain ⟨B2, x2, n2, gr⟩ := grd2_of (hE.2 ▸ hts) (fun P' h1 _ => lg P' (h1.trans hK)) (fun P' h1 h2 => li2 P' (h1.trans hK) ⟨h2.1, h2.2.trans hE.2⟩) (fun P' h1 _ => lg2 P' (h1.trans hK)) (fun P' h1 h2 => le P' (h1.trans hK) ⟨h2.1, h2.2.trans hE.2⟩) n1 it hc f hf
    refine ⟨_, _, _, gr, fun j => (xs.flatMap f).getD j false, fun j u z => ?_, fun H' z => ?_⟩
    · obtain ⟨b, hb, rfl⟩ := z
      dsimp only
      rw [List.getD_eq_getElem?_getD, hb]
      rfl
    · obtain ⟨B', x1, x3, x4, x5⟩ := z
      rw [all_getD]
      exact finD kk ((e1.trans x2).trans x1) (n2.called x1 x3 x4 x5) (.bl _) h2⟩
end
end DL

set_option Elab.async false
set_option linter.all false
set_option maxRecDepth 100000
set_option maxHeartbeats 4000000
/-! The head, with tables of code objects. -/
namespace HY
open PySem PySem.Spec PyProof.Rows L2 He DL
/-- a def without defaults -/
theorem fun_of {K : PySem.W.Frag} {x qual : Str} {st : Stmt} {f : Addr} {fd : FuncData} (F : FunD K x qual (defArgs st) (defBody st) (defScope st) [] [] f fd) : Fun K x qual st f fd := by
  obtain ⟨oc, od, dV, kV, doc, pm, an, cdv, ct, osl, e, l, c, dv, kv⟩ := F.ex
  rcases dv with ⟨_, rfl⟩ | ⟨z, _⟩
  · exact ⟨⟨oc, od, kV, doc, pm, an, cdv, ct, osl, e, l, c⟩, F.kp⟩
  · exact absurd rfl z
def dd (x : Str) (st : Stmt) : DefD := ⟨(x, none), x, x, defArgs st, defBody st, defScope st, [], []⟩
section
variable {K : PySem.W.Frag} {h : Heap} {mg : Str → Option Value}
theorem df_of (X : K.In h) (G : h.Ns mainGlobals mg) {x : Str} {st : Stmt} {ps : List Str} (hd : ∃ fd, FunD K x x (defArgs st) (defBody st) (defScope st) [] [] (ga K x) fd) (hg : (Fa.glo x).ok K = true)
    (hb : ∀ (kV doc pm : Value) (an : Option Addr) (cdv ct : Value) (us : List Value), us.length = ps.length → bindArgs (PySem.W.fnOf x x (defArgs st) (defBody st) (defScope st) .none kV doc pm an cdv ct) ⟨us, []⟩ = pure (ps.zip us)) : Df K mg x st ps := by
  obtain ⟨fd, F⟩ := hd
  have F' := fun_of F
  exact ⟨_, fd, F', glo_ok X G hg, F'.binds hb⟩
/-- .. that holds a generator expression -/
structure DfC (K : PySem.W.Frag) (mg : Str → Option Value) (p : Addr × Addr) (x : Str) (st : Stmt) (ps : List Str) : Prop where
  ex : ∃ (f : Addr) (fd : FuncData), Fun K x x st f fd ∧ fd.code = .ref p.1 ∧ mg x = some (.ref f) ∧ Binds K fd ps []
theorem dfc_of (X : K.In h) (G : h.Ns mainGlobals mg) {x : Str} {st : Stmt} {ps : List Str} (hd : ∃ fd, FunD K x x (defArgs st) (defBody st) (defScope st) [] [] (ga K x) fd) (hg : (Fa.glo x).ok K = true)
    (hb : ∀ (kV doc pm : Value) (an : Option Addr) (cdv ct : Value) (us : List Value), us.length = ps.length → bindArgs (PySem.W.fnOf x x (defArgs st) (defBody st) (defScope st) .none kV doc pm an cdv ct) ⟨us, []⟩ = pure (ps.zip us)) : DfC K mg (cT K (x, none)) x st ps := by
  obtain ⟨fd, F⟩ := hd
  have F' := fun_of F
  refine ⟨_, fd, F', ?_, glo_ok X G hg, F'.binds hb⟩
  obtain ⟨oc, od, dV, kV, doc, pm, an, cdv, ct, osl, rfl, lk, c, _, _⟩ := F.ex
  obtain ⟨cc, rfl⟩ := codeIn_ref c
  have e := codeOf_eq (p := (x, none)) lk rfl
  show Value.ref cc = Value.ref (codeOf K (x, none))
  rw [e]
theorem DfC.dn {P : Program} {w : World} {base : Heap} {x : Str} {k : Nat} {ps : List Str} {st : Stmt} {sp : Sp} {p : Addr × Addr} (d : DfC K mg p x st ps) (h : ∀ (f : Addr) (fd : FuncData), Fun K x x st f fd → fd.code = .ref p.1 → FnOk P w K mg base CX0 k f fd ps sp) : Dn P w K mg base x k ps sp := by
  obtain ⟨f, fd, hF, hc, hm, hb⟩ := d.ex
  exact ⟨f, fd, h f fd hF hc, hm, hF.kp, hb⟩
end
/-- the script's list and the tables, apart -/
theorem law_sp {K : PySem.W.Frag} {H : Hp} {a : Addr} {ns : List Int} {cs : List (Addr × Addr)} {sd : Sd} (hT : ∀ p ∈ cs, H p.2 = some (.tbl #[])) (hS : SqL K H a (ns.map V.int)) (hs : ∀ Q E, Q (D.bl true) → sd [lI ns] Q E) :
    spD K (cs.map (·.2)) sd [.ref a] H (fun v _ => v = .bl true) (fun _ _ _ => False) := by
  let F : Hp := fun b => if b ∈ cs.map (·.2) then H b else none
  let B : Hp := fun b => if b ∈ cs.map (·.2) then none else H b
  have tb : ∀ b ∈ cs.map (·.2), H b = some (.tbl #[]) := fun b hb => by
    obtain ⟨p, hp, rfl⟩ := List.mem_map.mp hb
    exact hT p hp
  have hB : ∀ b, H b ≠ some (.tbl #[]) → B b = H b := fun b hb => if_neg fun z => hb (tb b z)
  have hSB : SqL K B a (ns.map V.int) := by
    rcases hS with h | h
    · refine .inl ?_
      rcases h with h | ⟨o, h⟩
      · exact .inl ((hB a (by rw [h]; exact fun z => nomatch z)).trans h)
      · exact .inr ⟨o, (hB a (by rw [h]; exact fun z => nomatch z)).trans h⟩
    · exact .inr h
  refine ⟨[lI ns], F, B, fun T hT' => ⟨#[], (if_pos hT').trans (tb T hT'), ?_⟩, .cons (.lst hSB (RpL.ints ns)) .nil, .of fun b o z => ?_, .of fun b o z => ?_, fun b z => ?_, hs _ _ ?_⟩
  · trivial
  · show H b = some o
    by_cases q : b ∈ cs.map (·.2)
    · rw [show B b = none from if_pos q] at z; cases z
    · rw [← show B b = H b from if_neg q]; exact z
  · by_cases q : b ∈ cs.map (·.2)
    · rw [← show F b = H b from if_pos q]; exact z
    · rw [show F b = none from if_neg q] at z; cases z
  · refine if_pos ?_
    by_cases q : b ∈ cs.map (·.2)
    · exact q
    · exact absurd (show F b = none from if_neg q) z
  · intro v H' B' _ _ _ _ rp
    cases rp
    rfl
abbrev sdLaw : Sd := sdR (fun ds => ∃ ns : List Int, ds = [lI ns]) (fun _ r => r = .bl true)
theorem sdLaw_ok {ns : List Int} (Q : D → Prop) (E : Xd) (q : Q (D.bl true)) : sdLaw [lI ns] Q E := ⟨⟨ns, rfl⟩, fun r hr => by
  have hr' : r = .bl true := hr
  rw [hr']
  exact q⟩
theorem tabB_of {base : Heap} {mg : Str → Option Value} {c P : Addr} (T : LamX.TabB base mg c P) : GxR.TabB base mg c P := ⟨T.code, T.bm, T.gP⟩
theorem codeHd_of {K : PySem.W.Frag} {h : Heap} (X : K.In h) {fa : List Fa} {fn : List DefD} {ts : List Tab} {tf : List Defn} {ex : PySem.W.Frag → Bool} {w : World} (c : SaysX fa fn ts tf ex w h K) : ∀ p ∈ tf.map (cT K), PySem.W.CodeHd h p.1 p.2 := fun p hp => by
  obtain ⟨q, hq, rfl⟩ := List.mem_map.mp hp
  exact PySem.W.codeHd_of_K X (c.hd q hq)
end HY

set_option Elab.async false
set_option linter.all false
set_option maxRecDepth 100000
set_option maxHeartbeats 4000000
/-! The head, with tables and own exceptions. -/
namespace HZ
open PySem PySem.Spec PyProof.Rows L2 He DL
/-- an own exception's __init__: class, qualified name, parameters, body, scope -/
structure Ed where
  x : Str
  q : Str
  params : Arguments
  body : List Stmt
  scope : Scope
abbrev InO : Type := Option (Str × Str × Arguments × FuncBody × Scope × Addr × List Str × Addr)
def initW (K : PySem.W.Frag) (x : Str) : InO := match K.lookup (ma K (ga K x) "__init__") with
  | some ⟨_, _, .func fd, _⟩ => some (fd.name, fd.qualname, fd.params, fd.body, fd.scope, fd.globals, fd.closure.map (·.1), fd.builtins)
  | _ => none
def Ed.val (d : Ed) : InO := some ("__init__", d.q, d.params, .stmts d.body, d.scope, mainGlobals, ["__class__"], builtinsNs)
def clsB (K : PySem.W.Frag) (C : Addr) : Bool := match K.lookup C with
  | some ⟨.type t, _, .cls cd, sl⟩ => (match cd.mro, sl.toList with
    | .ref C' :: bm, [_, _, _, _, some (.builtin n), _] => decide (t = "type") && (decide (C' = C) && (decide (n = "ValueError.__new__") && (!cd.hasDel && (cd.hasDict && PySem.HandSPX.refsVE bm))))
    | _, _ => false)
  | _ => false
theorem clsB_ok {K : PySem.W.Frag} {C : Addr} (h : clsB K C = true) : ∃ nm q N bs bm sn sub ab col dd k0 k1 k2 k3 k5, K.lookup C = some (excClassObj nm q C N bs bm true sn sub ab col dd k0 k1 k2 k3 k5 "ValueError.__new__") ∧ PySem.HandSPX.refsVE bm = true := by
  unfold clsB at h
  split at h
  · rename_i t dd cd sl ho
    split at h
    · rename_i C' bm k0 k1 k2 k3 n k5 hm hs
      obtain ⟨h1, h⟩ := ba h
      obtain ⟨h2, h⟩ := ba h
      obtain ⟨h3, h⟩ := ba h
      obtain ⟨h4, h⟩ := ba h
      obtain ⟨h5, h6⟩ := ba h
      have e1 := of_decide_eq_true h1
      have e2 := of_decide_eq_true h2
      have e3 := of_decide_eq_true h3
      subst e1 e2 e3
      obtain ⟨nm, bs, mro, ns, qn, hd, sn, sub, ab, col, del⟩ := cd
      dsimp only at hm h4 h5
      have h4' : del = false := by
        cases del with
        | false => rfl
        | true => cases h4
      subst hm h4' h5
      have hsl : sl = #[k0, k1, k2, k3, some (.builtin "ValueError.__new__"), k5] := by
        obtain ⟨l⟩ := sl
        simp only at hs
        rw [hs]
      subst hsl
      exact ⟨nm, qn, ns, bs, bm, sn, sub, ab, col, dd, k0, k1, k2, k3, k5, ho, h6⟩
    · cases h
  · cases h
def cellB (K : PySem.W.Frag) (cc C : Addr) : Bool := match K.lookup cc with
  | some ⟨_, _, .cell (some (.ref D)), _⟩ => decide (D = C)
  | _ => false
theorem cellB_ok {K : PySem.W.Frag} {cc C : Addr} (h : cellB K cc C = true) : ∃ cl cld csl, K.lookup cc = some ⟨cl, cld, .cell (some (.ref C)), csl⟩ := by
  unfold cellB at h
  split at h
  · rename_i cl cld D csl ho
    have e := of_decide_eq_true h
    subst e
    exact ⟨cl, cld, csl, ho⟩
  · cases h
def codB (P : Program) (K : PySem.W.Frag) (cda : Addr) : Bool := match K.lookup cda with
  | some ⟨_, _, .fields vs, _⟩ => (match (vs[2]? : Option Value) with
    | some (Value.str file _) => ((P.main.file : Str) == file)
    | _ => false)
  | _ => false
theorem codB_ok {P : Program} {K : PySem.W.Frag} {cda : Addr} (h : codB P K cda = true) : ∃ ccl cdd vs ccs file tf, K.lookup cda = some ⟨ccl, cdd, .fields vs, ccs⟩ ∧ vs[2]? = some (.str file tf) ∧ ((P.main.file : Str) == file) = true := by
  unfold codB at h
  split at h
  · rename_i ccl cdd vs ccs ho
    split at h
    · rename_i file tf hv
      exact ⟨ccl, cdd, vs, ccs, file, tf, ho, hv, h⟩
    · cases h
  · cases h
def iniB (P : Program) (K : PySem.W.Frag) (C fI : Addr) (q : Str) : Bool := match K.lookup fI with
  | some ⟨_, _, .func fd, _⟩ => (match fd.defaults, fd.kwdefaults, fd.closure, fd.code with
    | .none, .none, [(_, cc)], .ref cda => PySem.W.codeIn K (.ref cda) q && (cellB K cc C && codB P K cda)
    | _, _, _, _ => false)
  | _ => false
def decO (a : Option Bool) : Bool := match a with
  | some true => true
  | _ => false
theorem decO_ok {a : Option Bool} (h : decO a = true) : a = some true := by
  cases a with
  | none => cases h
  | some b => cases b with
    | true => rfl
    | false => cases h
def excB (P : Program) (K : PySem.W.Frag) (d : Ed) : Bool :=
  [eqO (PySem.W.nsIn K mainGlobals d.x) (some (some (.ref (ga K d.x)))), clsB K (ga K d.x), iniB P K (ga K d.x) (ma K (ga K d.x) "__init__") d.q,
  eqO (PySem.W.findIn K (.ref (ga K d.x)) "__setattr__") (some (some (.builtin "object.__setattr__"))), eqO (PySem.W.findIn K (.ref (ga K d.x)) "__init__") (some (some (.ref (ma K (ga K d.x) "__init__")))),
  decide (PySem.W.typeIn K (.ref (ma K (ga K d.x) "__init__")) = some (.type "function")), PySem.W.keepIn K (.ref (ga K d.x)), decO (PySem.W.subIn K (.ref (ga K d.x)) (.type "BaseException")), decO (PySem.W.subIn K (.ref (ga K d.x)) (.type "ValueError")),
  decide (PySem.W.typeIn K (.ref (ga K d.x)) = some (.type "type")), PySem.W.hasDictIn K (ga K d.x), eqO (PySem.W.ks_superIn K (ga K d.x) (ga K d.x) "__init__") (some (some (.builtin "ValueError.__init__"))),
  decO (PySem.W.mroIn K (ga K d.x) (.ref (ga K d.x))), eqO (PySem.W.nsIn K cStatics "thirdparty.any") (some none),
  eqO (PySem.W.findIn K (.ref (ga K d.x)) "__getattribute__") (some (some (.builtin "BaseException.__getattribute__"))), eqO (PySem.W.findIn K (.ref (ga K d.x)) "__getattr__") (some none),
  eqO (PySem.W.findIn K (.ref (ga K d.x)) "__class__") (some (some (.builtin "object.__class__"))), eqO (PySem.W.specialIn K (.builtin "object.__class__") "__get__") (some (some (.builtin "getset_descriptor.__get__"))),
  decO (PySem.W.takesIn K (.builtin "object.__class__")), decO (PySem.W.mroIn K (ga K d.x) (.type "object"))].all id
structure ExcFacts0 (P : Program) (K : PySem.W.Frag) (mg : Str → Option Value) (x q : Str) (e : Expr) (C : Addr) : Prop where
  ex : ∃ fI cc cda, PySem.SupY.YTxt P K mg x q e C fI cc cda
  ec : ExcC K C
  xf : XfC K C
theorem all_at {l : List Bool} (h : l.all id = true) (i : Nat) {b : Bool} (e : l[i]? = some b) : b = true := List.all_eq_true.mp h b (List.mem_of_getElem? e)
theorem exc0_ok {P : Program} {K : PySem.W.Frag} {h : Heap} {mg : Str → Option Value} {d : Ed} {e : Expr} {p1 q0 q1 q2 q3 q4 : Pos} (X : K.In h) (G : h.Ns mainGlobals mg) (c : excB P K d = true) (w : initW K d.x = d.val) (hs : mg "super" = none) (top : (P.main.scope.names.lookup ("super" : Str)).isSome = false)
    (hp : d.params = PySem.SupY.jA p1) (hb : d.body = PySem.SupY.jB e q0 q1 q2 q3 q4) (hsc : d.scope = PySem.SupY.jS) (hl : (q2.endLine == q3.line) = true) : ExcFacts0 P K mg d.x d.q e (ga K d.x) := by
  unfold excB at c
  have c0 := all_at c 0 rfl
  have c1 := all_at c 1 rfl
  have c2 := all_at c 2 rfl
  have c4 := all_at c 4 rfl
  have c5 := all_at c 5 rfl
  have c6 := all_at c 6 rfl
  have c7 := all_at c 7 rfl
  have c8 := all_at c 8 rfl
  have c9 := all_at c 9 rfl
  have c10 := all_at c 10 rfl
  have c11 := all_at c 11 rfl
  have c12 := all_at c 12 rfl
  have c13 := all_at c 13 rfl
  have c14 := all_at c 14 rfl
  have c15 := all_at c 15 rfl
  have c16 := all_at c 16 rfl
  have c17 := all_at c 17 rfl
  have c18 := all_at c 18 rfl
  have c19 := all_at c 19 rfl
  refine ⟨?_, ⟨eqO_ok c14, eqO_ok c15, decO_ok c7, c10, eqO_ok c16, eqO_ok c17, decO_ok c18, decO_ok c19⟩, ⟨eqO_ok c14, eqO_ok c15, decO_ok c7, c10⟩⟩
  unfold iniB at c2
  unfold initW at w
  split at c2
  · rename_i oc od fd osl ho
    rw [ho] at w
    split at c2
    · rename_i n cc cda g1 g2 g3 g4
      obtain ⟨d1, d2⟩ := ba c2
      obtain ⟨d3, d4⟩ := ba d2
      obtain ⟨n1, n2, n3, n4, n5, n6, n7, n8, n9, n10, n11, n12, n13, n14, n15⟩ := fd
      dsimp only at g1 g2 g3 g4
      subst g1 g2 g3 g4
      have w2 : (some (n1, n2, n3, n4, n5, n6, [n], n15) : InO) = d.val := w
      unfold Ed.val at w2
      simp only [Option.some.injEq, Prod.mk.injEq, List.cons.injEq, and_true] at w2
      obtain ⟨e1, e2, e3, e4, e5, e6, e7, e8⟩ := w2
      subst e1 e2 e3 e4 e5 e6 e7 e8
      rw [hp, hb, hsc] at ho
      exact ⟨_, cc, cda, ⟨PySem.W.mg_of X G (eqO_ok c0), hs, clsB_ok c1, eqO_ok c4, of_decide_eq_true c5, c6, decO_ok c7, decO_ok c8, of_decide_eq_true c9, eqO_ok c11, decO_ok c12, eqO_ok c13, cellB_ok d3, codB_ok d4, top,
        ⟨oc, od, n10, n11, n12, n14, osl, p1, q0, q1, q2, q3, q4, ho, d1, hl⟩⟩⟩
    · cases c2
  · cases c2
structure ExcFacts (P : Program) (K : PySem.W.Frag) (mg : Str → Option Value) (x q b : Str) (e : Expr) (C : Addr) : Prop where
  ex : ∃ fI cc cda, PySem.SupX.XTxt P K mg x q b e C fI cc cda
  ec : ExcC K C
  xf : XfC K C
theorem exc_ok {P : Program} {K : PySem.W.Frag} {h : Heap} {mg : Str → Option Value} {d : Ed} {b : Str} {e : Expr} {p1 p2 q0 q1 q2 q3 q4 q5 q6 q7 q8 : Pos} (X : K.In h) (G : h.Ns mainGlobals mg) (c : excB P K d = true) (nb : (Fa.noat d.x b).ok K = true) (w : initW K d.x = d.val) (hs : mg "super" = none) (top : (P.main.scope.names.lookup ("super" : Str)).isSome = false)
    (hp : d.params = PySem.SupX.iA b p1 p2) (hb : d.body = PySem.SupX.iB b e q0 q1 q2 q3 q4 q5 q6 q7 q8) (hsc : d.scope = PySem.SupX.iS b) (hl : (q2.endLine == q3.line) = true) : ExcFacts P K mg d.x d.q b e (ga K d.x) := by
  unfold excB at c
  have c0 := all_at c 0 rfl
  have c1 := all_at c 1 rfl
  have c2 := all_at c 2 rfl
  have c3 := all_at c 3 rfl
  have c4 := all_at c 4 rfl
  have c5 := all_at c 5 rfl
  have c6 := all_at c 6 rfl
  have c7 := all_at c 7 rfl
  have c8 := all_at c 8 rfl
  have c9 := all_at c 9 rfl
  have c10 := all_at c 10 rfl
  have c11 := all_at c 11 rfl
  have c12 := all_at c 12 rfl
  have c13 := all_at c 13 rfl
  have c14 := all_at c 14 rfl
  have c15 := all_at c 15 rfl
  have c16 := all_at c 16 rfl
  have c17 := all_at c 17 rfl
  have c18 := all_at c 18 rfl
  have c19 := all_at c 19 rfl
  refine ⟨?_, ⟨eqO_ok c14, eqO_ok c15, decO_ok c7, c10, eqO_ok c16, eqO_ok c17, decO_ok c18, decO_ok c19⟩, ⟨eqO_ok c14, eqO_ok c15, decO_ok c7, c10⟩⟩
  unfold iniB at c2
  unfold initW at w
  split at c2
  · rename_i oc od fd osl ho
    rw [ho] at w
    split at c2
    · rename_i n cc cda g1 g2 g3 g4
      obtain ⟨d1, d2⟩ := ba c2
      obtain ⟨d3, d4⟩ := ba d2
      obtain ⟨n1, n2, n3, n4, n5, n6, n7, n8, n9, n10, n11, n12, n13, n14, n15⟩ := fd
      dsimp only at g1 g2 g3 g4
      subst g1 g2 g3 g4
      have w2 : (some (n1, n2, n3, n4, n5, n6, [n], n15) : InO) = d.val := w
      unfold Ed.val at w2
      simp only [Option.some.injEq, Prod.mk.injEq, List.cons.injEq, and_true] at w2
      obtain ⟨e1, e2, e3, e4, e5, e6, e7, e8⟩ := w2
      subst e1 e2 e3 e4 e5 e6 e7 e8
      rw [hp, hb, hsc] at ho
      exact ⟨_, cc, cda, ⟨PySem.W.mg_of X G (eqO_ok c0), hs, clsB_ok c1, eqO_ok c3, noat_ok nb, eqO_ok c4, of_decide_eq_true c5, c6, decO_ok c7, decO_ok c8, of_decide_eq_true c9, c10, eqO_ok c11, decO_ok c12, eqO_ok c13, cellB_ok d3, codB_ok d4, top,
        ⟨oc, od, n10, n11, n12, n14, osl, p1, p2, q0, q1, q2, q3, q4, q5, q6, q7, q8, ho, d1, hl⟩⟩⟩
    · cases c2
  · cases c2
/-! ### the Hook -/
def asZ (g : Addr → Option Obj) : Nat → List Addr
  | 0 => [mainGlobals, cStatics]
  | n + 1 => growD g (asZ g n)
/-- what is told: facts, defs, exceptions, the defs' tables -/
structure SaysZ (P : Program) (fa : List Fa) (fn : List DefD) (es : List Ed) (tf : List Defn) (h : Heap) (K : PySem.W.Frag) : Prop where
  d : SaysD fa fn K
  exb : ∀ e ∈ es, excB P K e = true
  exw : es.map (fun e => initW K e.x) = es.map Ed.val
  hd : ∀ p ∈ tf, PySem.W.codeHdIn K (cT K p).1 (cT K p).2 = true
  out : ∀ p ∈ tf, K.lookup (cT K p).2 = none
  empty : ∀ p ∈ tf, h.get? (cT K p).2 = some { cls := .none, data := .fields #[] }
abbrev AlZ : Type := AlD × Bool × List InO
def obsZ (P : Program) (n : Nat) (fa : List Fa) (fn : List DefD) (es : List Ed) (tf : List Defn) (g : Addr → Option Obj) : AlZ := (obsD fa fn (frT g (asZ g n)), (es.all fun e => excB P (frT g (asZ g n)) e) && tabsB g tf (frT g (asZ g n)), es.map fun e => initW (frT g (asZ g n)) e.x)
def valZ (fn : List DefD) (es : List Ed) : AlZ := (valD fn, true, es.map Ed.val)
theorem saysZ_of {P : Program} {n : Nat} {fa : List Fa} {fn : List DefD} {es : List Ed} {tf : List Defn} {h : Heap} (e : obsZ P n fa fn es tf h.get? = valZ fn es) : SaysZ P fa fn es tf h (frT h.get? (asZ h.get? n)) := by
  have e1 : obsD fa fn (frT h.get? (asZ h.get? n)) = valD fn := congrArg (fun z : AlZ => z.1) e
  have e2 : ((es.all fun e => excB P (frT h.get? (asZ h.get? n)) e) && tabsB h.get? tf (frT h.get? (asZ h.get? n))) = true := congrArg (fun z : AlZ => z.2.1) e
  have e3 : (es.map fun e => initW (frT h.get? (asZ h.get? n)) e.x) = es.map Ed.val := congrArg (fun z : AlZ => z.2.2) e
  obtain ⟨h1, h2⟩ := ba e2
  have key : ∀ p ∈ tf, PySem.W.codeHdIn (frT h.get? (asZ h.get? n)) (cT (frT h.get? (asZ h.get? n)) p).1 (cT (frT h.get? (asZ h.get? n)) p).2 = true ∧ ∃ o, h.get? (cT (frT h.get? (asZ h.get? n)) p).2 = some o ∧ emptyTab o = true := fun p hp => by
    obtain ⟨h3, h4⟩ := ba (List.all_eq_true.mp h2 p hp)
    refine ⟨h3, ?_⟩
    cases q : h.get? (cT (frT h.get? (asZ h.get? n)) p).2 with
    | none => rw [q] at h4; cases h4
    | some o => rw [q] at h4; exact ⟨o, rfl, h4⟩
  refine ⟨e1, fun e he => List.all_eq_true.mp h1 e he, e3, fun p hp => (key p hp).1, fun p hp => ?_, fun p hp => ?_⟩
  · obtain ⟨_, o, q, z⟩ := key p hp
    exact frT_none q z
  · obtain ⟨_, o, q, z⟩ := key p hp
    rw [q, emptyTab_eq z]
def hookZ (P : Program) (n : Nat) (fa : List Fa) (fn : List DefD) (es : List Ed) (tf : List Defn) : PySem.W.Hook where
  α := AlZ
  obs := fun s => obsZ P n fa fn es tf s.heap.get?
  val := fun _ => valZ fn es
  says := fun _ h => ∃ K : PySem.W.Frag, K.In h ∧ SaysZ P fa fn es tf h K
  of := fun _ _ e => ⟨_, frT_in, saysZ_of e⟩
  keeps := fun _ _ _ ⟨K, hK, c⟩ k => ⟨K, PySem.W.Frag.In.keeps hK k, ⟨c.d, c.exb, c.exw, c.hd, c.out, fun p hp => k _ _ (c.empty p hp)⟩⟩
theorem obsZ_eq {P : Program} {n : Nat} {fa : List Fa} {fn : List DefD} {es : List Ed} {tf : List Defn} {g : Addr → Option Obj} {s : Shared} (h : ∀ a, g a = s.heap.get? a) : obsZ P n fa fn es tf g = (hookZ P n fa fn es tf).obs s := by
  have e : g = s.heap.get? := funext h
  rw [e] <;> rfl
theorem SaysZ.exc {P : Program} {fa : List Fa} {fn : List DefD} {es : List Ed} {tf : List Defn} {h : Heap} {K : PySem.W.Frag} (c : SaysZ P fa fn es tf h K) (i : Nat) {d : Ed} (e : es[i]? = some d := by rfl) : excB P K d = true ∧ initW K d.x = d.val := by
  refine ⟨c.exb d (List.mem_of_getElem? e), ?_⟩
  have e2 : (es.map fun d => initW K d.x)[i]? = (es.map Ed.val)[i]? := by rw [c.exw]
  rw [List.getElem?_map, List.getElem?_map, e] at e2
  exact Option.some.inj e2
theorem codeHd_of {K : PySem.W.Frag} {h : Heap} (X : K.In h) {P : Program} {fa : List Fa} {fn : List DefD} {es : List Ed} {tf : List Defn} (c : SaysZ P fa fn es tf h K) : ∀ p ∈ tf.map (cT K), PySem.W.CodeHd h p.1 p.2 := fun p hp => by
  obtain ⟨q, hq, rfl⟩ := List.mem_map.mp hp
  exact PySem.W.codeHd_of_K X (c.hd q hq)
end HZ

set_option Elab.async false
set_option linter.all false
set_option maxRecDepth 100000
set_option maxHeartbeats 4000000
/-! repr of plain data: no list is being shown around the call (that must be known of the stack: defs whose promise asks for it). -/
namespace DL
open PySem PySem.Spec PyProof.Rows L2
/-- nothing is being shown -/
def Quiet (A : Around) : Prop := A.guards = some []
theorem Quiet.deeper {A : Around} (h : Quiet A) (env : Env) : Quiet (A.deeper env) := h
/-- data with a short text -/
structure Shows (d : D) : Prop where
  pl : plain d = true
  dp : dep d ≤ 60
  sh : (toPy d).showable = true
  len : (toPy d).shown.length ≤ sizeLine
mutual
theorem toPy_noDict : ∀ d : D, (toPy d).hasDict = false
  | .non => by simp only [toPy, PyData.hasDict]
  | .bl _ => by simp only [toPy, PyData.hasDict]
  | .int _ => by simp only [toPy, PyData.hasDict]
  | .str _ => by simp only [toPy, PyData.hasDict]
  | .tup l => by simp only [toPy, PyData.hasDict]; exact toPyL_noDict l
  | .lst l => by simp only [toPy, PyData.hasDict]; exact toPyL_noDict l
  | .obj _ _ => by simp only [toPy, PyData.hasDict]
  | .opq _ => by simp only [toPy, PyData.hasDict]
theorem toPyL_noDict : ∀ l : List D, PyData.hasDictAll (toPyL l) = false
  | [] => by simp only [toPyL, PyData.hasDictAll]
  | d :: l => by simp only [toPyL, PyData.hasDictAll, toPy_noDict d, toPyL_noDict l, Bool.or_self]
end
/-- the text of a value by its data -/
def rShow (K : PySem.W.Frag) : List V → Hp → VK → Prop := fun xs H Q => ∃ v d, xs = [v] ∧ Dp K H v (toPy d) ∧ Shows d ∧ Q (.str (toPy d).shown) H
section
variable {X : Cx}
theorem call_show (hq : Quiet X.A) (hu : X.A.units + 64 < cLine) : CallR X (.builtin "repr") (rShow X.K) := by
  intro pins s σ H xs us Q I rs h
  obtain ⟨v, d, rfl, hd, S, q⟩ := h
  cases rs with
  | cons rv rn =>
    rename_i u ut
    cases rn
    have fin : ∀ (h' : Heap) (t : Tok) (tk : Nat), (∀ b o, s.heap.get? b = some o → h'.get? b = some o) → EP X pins σ Q (.str (toPy d).shown t) { s with heap := h', toks := tk } := fun h' t tk k => ⟨.str _, H, I.kept k, ⟨t, rfl⟩, q⟩
    obtain ⟨as, hr⟩ := Dp.reads I (toPy d) v u hd rv
    have hu2 : X.A.units + ((toPy d).depth + 1) < cLine := by have := toPy_dep d; have := S.dp; omega
    have same : ∀ b o, s.heap.get? b = some o → s.heap.get? b = some o := fun _ _ e => e
    cases d with
    | tup l =>
      simp only [toPy] at hr
      cases hr with
      | tuple h1 h2 h3 h4 => exact repr_of_reads' (h₀ := s.heap) (d := toPy (.tup l)) (.tuple h1 h2 h3 h4) S.sh (PyData.noDict_hsm (toPy_noDict _)) hq hu2 same (fun h' t tk k => fin h' t tk k) S.len
    | lst l =>
      simp only [toPy] at hr
      cases hr with
      | list h1 h2 h3 h4 => exact repr_of_reads' (h₀ := s.heap) (d := toPy (.lst l)) (.list h1 h2 h3 h4) S.sh (PyData.noDict_hsm (toPy_noDict _)) hq hu2 same (fun h' t tk k => fin h' t tk k) S.len
    | int i =>
      simp only [toPy] at hr
      cases hr
      exact PySem.P.repr_of_int (by have := S.sh; simpa only [toPy, PyData.showable, decide_eq_true_eq] using this) (fin s.heap _ _ same)
    | non =>
      simp only [toPy] at hr
      cases hr
      exact PySem.P.repr_of_none (fin s.heap _ _ same)
    | str x =>
      simp only [toPy] at hr
      cases hr
      exact PySem.P.repr_of_str (fin s.heap _ _ same) S.len
    | bl b => exact absurd S.pl (by simp [plain])
    | obj C fs => exact absurd S.pl (by simp [plain])
    | opq a => exact absurd S.pl (by simp [plain])
end
def rdShow : D1 := fun Γ ws Q => ∃ w d, ws = [w] ∧ asD Γ w = some d ∧ Shows d ∧ Q (.dat (.str (toPy d).shown)) Γ
theorem cl_show {P : Par} : CL P (rShow P.K) rdShow := fun Bv Γ σ H vs ws Qd Q n rs h k => by
  obtain ⟨w, d, rfl, hd, S, h⟩ := h
  match vs, rs with
  | [v], rs => exact ⟨v, d, rfl, (n.full rs.1 hd).dp S.pl, S, finD k (Ex.refl _) n (.str _) h⟩
section
variable {F : Fam} {E : XK} {a : Expr} {R : DA} {p pos : Pos}
theorem pd_repr (hq : ∀ j, Quiet (F.X j).A) (hu : ∀ j, (F.X j).A.units + 64 < cLine) (hg : ∀ j, Gl (F.X j) "repr") (hm : ∀ j, (F.X j).mg "repr" = none) (ha : PDA F E [a] R) (he : ∀ j, starEach [a] (F.X j).env = (false, eval a (F.X j).env) :: starEach [] (F.X j).env := by intro _; rfl) :
    PD F E (.Call (.Name "repr" p) [a] [] pos) (dCB rdShow R) :=
  pd_callB (fun j => F.k j ▸ call_show (hq j) (hu j)) (fun P hK => by rw [← hK]; exact cl_show) hg hm (by decide +kernel) ha (by decide) (by decide) he
/-- == of two texts -/
def rdEqS : D2 := fun Γ x y Q => ∃ s t, asD Γ x = some (.str s) ∧ asD Γ y = some (.str t) ∧ Q (.dat (.bl (decide (s = t)))) Γ
theorem rl_eqS {P : Par} : RL P rEq rdEqS := by
  intro Bv Γ σ H x y wx wy Qd Q n rx ry h k
  obtain ⟨s, t, hd, he, h⟩ := h
  have ex := n.full rx hd
  have ey := n.full ry he
  cases ex
  cases ey
  have e : decide (V.str s = V.str t) = decide (s = t) := by rw [Bool.eq_iff_iff]; simp
  refine ⟨rfl, ?_⟩
  rw [e]
  exact finD k (Ex.refl _) n (.bl _) h
theorem pd_eqS {b : Expr} {A B : DE} (ha : PD F E a A) (hb : PD F E b B) : PD F E (.Compare a [.Eq] [b] pos) (dOp rdEqS A B) := pd_cmp (fun _ => op_eq) (fun _ _ => rl_eqS) ha hb
end
/-! ### promises of defs that show data -/
/-- a def's promise where nothing is being shown around it -/
structure FnG (P : Program) (w : World) (K : PySem.W.Frag) (mg : Str → Option Value) (base : Heap) (k : Nat) (f : Addr) (fd : FuncData) (ps : List Str) (sp : Sp) : Prop where
  cnt : ∀ vs H Q E, sp vs H Q E → vs.length = ps.length
  go : ∀ {A : Around} {fr : List Env} {s : Shared} {H : Hp} {args : Args} {us : List Value} {vs : List V} {Q : VK} {E : XK}, Quiet A → Room k A → Env0 P w K mg base A fr s H → BindsTo s fd args (ps.zip us) → Vals vs us → sp vs H Q E →
    codeAny (model P w) A (.call (.ref f) args) (CR CX0 fr P w H s Q E) s
section
variable {P : Program} {w : World} {K : PySem.W.Frag} {mg : Str → Option Value} {base : Heap}
theorem FnG.less {j k : Nat} {f : Addr} {fd : FuncData} {ps : List Str} {sp : Sp} (F : FnG P w K mg base j f fd ps sp) (h : j ≤ k) : FnG P w K mg base k f fd ps sp := ⟨F.cnt, fun q r => F.go q (r.mono h)⟩
theorem fnG_by {x qual : Str} {st : Stmt} {f : Addr} {fd : FuncData} {N ps : List Str} {k : Nat} {sp : Sp} (F : Fun K x qual st f fd) (S : FnScope N ps (defScope st)) (cnt : ∀ vs H Q E, sp vs H Q E → vs.length = ps.length)
    (body : ∀ (cd : Value) (A : Around) (fr : List Env) (s : Shared) (H : Hp) (vs : List V) (Q : VK) (E : XK), Quiet A → Room k (A.deeper (envOfC qual (defScope st) s.heap.objs.size f cd)) → sp vs H Q E →
      ∃ t, PSs (cxOf CX0 P w K mg base N qual (defScope st) f cd A fr s H E).nox (defBody st) t ∧ t { rt := Q, nx := fun _ H' => Q .non H' } (start N vs) H) : FnG P w K mg base (k + 1) f fd ps sp := by
  obtain ⟨oc, od, kV, doc, pm, an, cd, ct, osl, rfl, lk, hcd⟩ := F.ex
  constructor
  · exact cnt
  intro A fr s H args us vs Q E quiet room e0 hb r hsp
  have same : ∀ b o, base.get? b = some o → s.heap.get? b = some o := fun b o e => (e0.bs b o e).1
  have inK := e0.mod.kin.keeps same
  refine codeAny_call_function room.depth (inK _ _ lk) rfl S.co S.gen rfl (PySem.W.codeRec_of inK hcd) (hb _ _ _ _ (wpAny_newFunctionEnv_cells S.kind (fun y hy => ?_) fun env he s1 x => ?_))
  · obtain ⟨n, v⟩ := y
    rcases S.par n (List.of_mem_zip hy).1 with q | q
    · exact Or.inl q
    · exact Or.inr ⟨q, PySem.W.cellsFrom_some _ _ _ (Or.inl q)⟩
  · subst he
    obtain ⟨t, ht, hq⟩ := body cd A fr s H vs Q E quiet (room.deeper _) hsp
    have I := inv_start (CX := CX0) (P := P) (w := w) (E := E) S room.hd e0 (cnt _ _ _ _ hsp) r x
    refine ⟨(e0.mod.nolimit.keeps same).keeps x.toInCall.keep, codeAny_func (wpAny_mono (ht.nox.run [] s1 _ H _ I hq) (fun fl s' hs => ?_) fun _ _ z => z)⟩
    cases fl with
    | brk =>
      obtain ⟨_, _, _, z⟩ := hs
      exact z.elim
    | cont =>
      obtain ⟨_, _, _, z⟩ := hs
      exact z.elim
    | next =>
      obtain ⟨_, H', J, z⟩ := hs
      exact ⟨V.non, H', J.os, J.bare, J.base, J.hok, rfl, z⟩
    | ret u =>
      obtain ⟨v, _, H', J, rv, z⟩ := hs
      exact ⟨v, H', J.os, J.bare, J.base, J.hok, rv, z⟩
/-- by a derivation -/
theorem okDefG {ts : List Addr} {x qual : Str} {st : Stmt} {f : Addr} {fd : FuncData} {N ps : List Str} {k : Nat} {sd : Sd} {T : DS} (F : Fun K x qual st f fd) (S : FnScope N ps (defScope st)) (hps : ps.length ≤ N.length)
    (hl : ∀ ds Q E, sd ds Q E → ds.length = ps.length)
    (hb : ∀ (cdv : Value) (A : Around) (outer : List Env) (s : Shared) (H : Hp) (E : XK), Quiet A → Room k (A.deeper (envOfC qual (defScope st) s.heap.objs.size f cdv)) → PDSs (Fam.of ts (cxOf CX0 P w K mg base N qual (defScope st) f cdv A outer s H E).nox) E0 (defBody st) T)
    (hr : ∀ ds Q E, sd ds Q E → T no { nx := fun _ => Q .non, rt := fun d _ => Q d } (startD N.length (ds.map .dat))) : FnG P w K mg base (k + 1) f fd ps (spD K ts sd) := by
  refine fnG_by F S (fun vs H Q E h => ?_) (fun cdv A outer s H vs Q E quiet hroom h => ?_)
  · obtain ⟨ds, F, B, _, r, _, _, _, h⟩ := h
    rw [r.len]
    exact hl _ _ _ h
  · obtain ⟨ds, F, B, tb, r, e, f', dj, h⟩ := h
    obtain ⟨t, pt, lt⟩ := hb cdv A outer s H E quiet hroom
    refine ⟨t, pt (), ?_⟩
    have hlen : vs.length ≤ N.length := by rw [r.len, hl _ _ _ h]; exact hps
    let Q' : Par := ⟨K, F, [], B, no, E0, ts, tb, fun _ _ _ _ _ _ z => z.elim⟩
    have n : En Q' B (startD N.length (ds.map .dat)) (L2.start N vs) H := En.begin0 (P := Q') rfl r hlen e f' dj
    exact lt Q' rfl ⟨rfl, rfl⟩ B _ _ H _ _ n (hr _ _ _ h) ⟨fun Γ' σ' H' B' x n' q => q .non H' B' x n'.sub n'.frm n'.dj .non, fun d Γ' σ' v H' B' x n' rp q => q v H' B' x n'.sub n'.frm n'.dj rp, fun _ _ _ _ _ _ z => z.elim, fun _ _ _ _ _ _ z => z.elim⟩
end
/-- a def of the text with such a promise -/
structure DnG (P : Program) (w : World) (K : PySem.W.Frag) (mg : Str → Option Value) (base : Heap) (x : Str) (k : Nat) (ps : List Str) (sp : Sp) : Prop where
  ex : ∃ (f : Addr) (fd : FuncData), FnG P w K mg base k f fd ps sp ∧ mg x = some (.ref f) ∧ PySem.W.keepIn K (.ref f) = true ∧ Binds K fd ps []
theorem Df.dnG {P : Program} {w : World} {K : PySem.W.Frag} {mg : Str → Option Value} {base : Heap} {x : Str} {k : Nat} {ps : List Str} {st : Stmt} {sp : Sp} (d : Df K mg x st ps) (h : ∀ (f : Addr) (fd : FuncData), Fun K x x st f fd → FnG P w K mg base k f fd ps sp) : DnG P w K mg base x k ps sp := by
  obtain ⟨f, fd, hF, hm, hb⟩ := d.ex
  exact ⟨f, fd, h f fd hF, hm, hF.kp, hb⟩
section
variable {X : Cx} {k : Nat} {f : Addr} {fd : FuncData} {ps : List Str} {sp : Sp} {x : Str} {p pos : Pos} {e : Expr} {es : List Expr} {t : TA}
/-- such a def is called -/
theorem pe_callQ (F : FnG X.prog X.w X.K X.mg X.base k f fd ps sp) (quiet : Quiet X.A) (room : Room k X.A) (hg : Gl X x) (hm : X.mg x = some (.ref f)) (keep : PySem.W.keepIn X.K (.ref f) = true) (hb : Binds X.K fd ps []) (ha : PA X (e :: es) t) (hdb : (x == ("__debug__" : Str)) = false)
    (he : starEach (e :: es) X.env = (false, eval e X.env) :: starEach es X.env) (hpl : (backTo pos (starEach es X.env)).any (·.1) = false) : PE X (.Call (.Name x p) (e :: es) [] pos) (tCall sp [] E0 t) := by
  constructor
  intro pins s σ H Q I h
  refine wpAny_Call_Name_kw (ld_glob I hg hm (PySem.W.callWith_K (h₀ := X.base) I.ok.mod.kin keep (thn (ha.run pos pins s σ H _ I h) fun us s1 got => ?_) he hpl) hdb)
  obtain ⟨vs, H1, I1, r, q⟩ := got
  rw [List.append_nil] at q
  have hl : us.length = ps.length := by rw [← r.length]; exact F.cnt _ _ _ _ q
  have bt := hb s1 us I1.kIn (by rw [List.append_nil]; exact hl)
  rw [List.append_nil] at bt
  refine ⟨I1.kIn, wpAny_call (codeAny_mono (F.go quiet room I1.env0 bt r q) fun res s' z => ?_)⟩
  match res, z with
  | .error _, z => exact (show False from z).elim
  | .ok (.ret _), z => exact I1.after z
  | .ok .next, z => exact (show False from z).elim
  | .ok .brk, z => exact (show False from z).elim
  | .ok .cont, z => exact (show False from z).elim
end
section
variable {F : Fam} {E : XK} {e : Expr} {es : List Expr} {R : DA} {pos p : Pos} {x : Str} {k : Nat} {ps : List Str} {sd : Sd}
theorem pd_callQ (hD : ∀ j, DnG (F.X j).prog (F.X j).w (F.X j).K (F.X j).mg (F.X j).base x k ps (spD (F.X j).K F.ts sd)) (hm : ∀ ds Q Q' E E', (∀ r, Q r → Q' r) → (∀ C fs, E C fs → E' C fs) → sd ds Q E → sd ds Q' E') (hq : ∀ j, Quiet (F.X j).A) (hr : ∀ j, Room k (F.X j).A)
    (ha : PDA F E (e :: es) R) (hg : ∀ j, Gl (F.X j) x := by intro _; rfl) (hdb : (x == ("__debug__" : Str)) = false := by decide) (he : ∀ j, starEach (e :: es) (F.X j).env = (false, eval e (F.X j).env) :: starEach es (F.X j).env := by intro _; rfl) (hpl : ∀ j, (backTo pos (starEach es (F.X j).env)).any (·.1) = false := by intro _; rfl) :
    PD F E (.Call (.Name x p) (e :: es) [] pos) (dCall sd R) :=
  let ⟨t, pa, la⟩ := ha
  ⟨tCall (spD F.K F.ts sd) [] E0 t, fun j => by
    obtain ⟨f, fd, G, hmg, hk, hb⟩ := (hD j).ex
    exact F.k j ▸ pe_callQ G (hq j) (hr j) (hg j) hmg hk hb (pa j) hdb (he j) (hpl j), fun P hK hE => hK ▸ hE.2 ▸ le_call hm (la P hK hE)⟩
end
end DL

set_option Elab.async false
set_option linter.all false
set_option maxRecDepth 100000
set_option maxHeartbeats 4000000
/-! The law's call at the head, by a promise that asks for a quiet stack. -/
namespace HW
open PySem PySem.Spec PyProof.Rows L2 LamX DL
def tabO : Obj := { cls := .none, data := .fields #[] }
def scrO (vs : List Value) : Obj := { cls := .type "list", data := .seq vs.toArray }
open Classical in
/-- the tables, and the script where it is none of the fixed objects -/
noncomputable def gH (K : PySem.W.Frag) (T : List Addr) (a : Addr) (vs : List Value) (ns : List Int) : Hp := fun b => if b ∈ T then some (.tbl #[]) else if b = a ∧ K.lookup a = none then some (.frz (scrO vs) (.lst (ns.map V.int))) else none
section
variable {P : Program} {w : World} {K : PySem.W.Frag} {T : List Addr} {a b : Addr} {vs : List Value} {ns : List Int} {h : Heap} {u : HO}
theorem gH_of (z : gH K T a vs ns b = some u) : (b ∈ T ∧ u = .tbl #[]) ∨ (b ∉ T ∧ b = a ∧ K.lookup a = none ∧ u = .frz (scrO vs) (.lst (ns.map V.int))) := by
  unfold gH at z
  by_cases h1 : b ∈ T
  · rw [if_pos h1] at z
    exact .inl ⟨h1, (Option.some.inj z).symm⟩
  · rw [if_neg h1] at z
    by_cases h2 : b = a ∧ K.lookup a = none
    · rw [if_pos h2] at z
      exact .inr ⟨h1, h2.1, h2.2, (Option.some.inj z).symm⟩
    · rw [if_neg h2] at z
      cases z
structure Gr (h : Heap) (K : PySem.W.Frag) (T : List Addr) (a : Addr) (vs : List Value) (ns : List Int) : Prop where
  tb : ∀ b ∈ T, h.get? b = some tabO
  sc : h.get? a = some (scrO vs)
  it : IntsAre vs ns
  ln : ns.length ≤ sizeLine
  kn : K.In h
  kt : ∀ b ∈ T, K.lookup b = none
theorem Gr.out (g : Gr h K T a vs ns) : a ∉ T := fun z => by
  have e := (g.tb a z).symm.trans g.sc
  have e2 : (Data.fields #[] : Data) = Data.seq vs.toArray _ := congrArg Obj.data (Option.some.inj e)
  cases e2
theorem Gr.offH (g : Gr h K T a vs ns) {o : Obj} (e : h.get? b = some o) (n1 : ∀ xs n, o.data ≠ .seq xs n) (n2 : o.data ≠ .fields #[]) : gH K T a vs ns b = none := by
  cases z : gH K T a vs ns b with
  | none => rfl
  | some u =>
    rcases gH_of z with ⟨h1, _⟩ | ⟨_, h2, _, _⟩
    · rw [g.tb b h1] at e
      cases e
      exact absurd rfl n2
    · rw [h2, g.sc] at e
      cases e
      exact absurd rfl (n1 _ _)
theorem Gr.noneK (g : Gr h K T a vs ns) {o : Obj} (e : K.lookup b = some o) : gH K T a vs ns b = none := by
  cases z : gH K T a vs ns b with
  | none => rfl
  | some u =>
    rcases gH_of z with ⟨h1, _⟩ | ⟨_, h2, h3, _⟩
    · rw [g.kt b h1] at e
      cases e
    · rw [h2, h3] at e
      cases e
theorem Gr.ok (g : Gr h K T a vs ns) : HOk P w (gH K T a vs ns) h := fun b u z => by
  rcases gH_of z with ⟨h1, rfl⟩ | ⟨_, rfl, _, rfl⟩
  · exact g.tb b h1
  · exact ⟨g.sc, by rw [List.length_map]; exact g.ln, vs, _, vals_ints g.it, g.sc⟩
theorem Gr.tab (g : Gr h K T a vs ns) (hb : b ∈ T) : gH K T a vs ns b = some (.tbl #[]) := by
  unfold gH
  exact if_pos hb
theorem Gr.scr (g : Gr h K T a vs ns) : SqL K (gH K T a vs ns) a (ns.map V.int) := by
  cases k : K.lookup a with
  | none =>
    refine .inl (.inr ⟨scrO vs, ?_⟩)
    unfold gH
    rw [if_neg g.out, if_pos ⟨rfl, k⟩]
  | some o =>
    have e := (g.kn a o k).symm.trans g.sc
    cases e
    exact .inr ⟨_, vs.toArray, _, k, rfl, rfl, rfl, by rw [List.size_toArray, g.it.length]; exact g.ln, by simpa using vals_ints g.it⟩
end
section
variable {P : Program} {w : World} {K : PySem.W.Frag} {mg mb : Str → Option Value} {k : Nat} {fa a : Addr} {cs : List (Addr × Addr)} {fd : FuncData} {x : Str} {sp : Sp} {s : Shared} {vs : List Value} {ns : List Int}
theorem quiet_call (KX : K.In s.heap) (glob : s.heap.Ns mainGlobals mg) (blt : s.heap.Ns builtinsNs mb) (bltE : ∀ x : Str, x ≠ "__name__" → mb x = bootBuiltins x) (lim : s.heap.NoLimit) (gens : s.gens = #[])
    (hT : ∀ p ∈ cs, s.heap.get? p.2 = some { cls := .none, data := .fields #[] }) (nT : ∀ p ∈ cs, K.lookup p.2 = none) (C : ∀ p ∈ cs, PySem.W.CodeHd s.heap p.1 p.2)
    (bmod : ∃ (bm : Addr) (ob : Obj), mg "__builtins__" = some (.ref bm) ∧ bm ≠ builtinsNs ∧ s.heap.get? bm = some ob ∧ ob.cls = .type "module" ∧ ob.dict = some builtinsNs ∧ ob.data = .plain)
    (scr : s.heap.get? a = some { cls := .type "list", data := .seq vs.toArray }) (allI : IntsAre vs ns) (len : ns.length ≤ sizeLine) (room : Room k callerA)
    (F : ∀ base : Heap, K.In base → base.Ns mainGlobals mg → (∀ p ∈ cs, TabB base mg p.1 p.2) → FnG P w K mg base k fa fd [x] sp) (binds : ∀ (s : Shared) (u : Value), BindsTo s fd ⟨[u], []⟩ [(x, u)])
    (asks : ∀ H : Hp, (∀ p ∈ cs, H p.2 = some (.tbl #[])) → SqL K H a (ns.map V.int) → sp [.ref a] H (fun v _ => v = .bl true) fun _ _ _ => False) :
    codeAny (model P w) callerA (.call (.ref fa) ⟨[.ref a], []⟩) (fun r s' => r = .ok (.ret (.bool true)) ∧ OldK s.heap s'.heap ∧ s'.os = s.os ∧ AllBare s'.gens) s := by
  have inT : ∀ {p : Addr × Addr}, p ∈ cs → p.2 ∈ cs.map (·.2) := fun {p} hp => List.mem_map.mpr ⟨p, hp, rfl⟩
  have ofT : ∀ {b : Addr}, b ∈ cs.map (·.2) → ∃ p ∈ cs, p.2 = b := fun {b} hb => List.mem_map.mp hb
  have g : Gr s.heap K (cs.map (·.2)) a vs ns := ⟨fun b hb => by obtain ⟨p, hp, e⟩ := ofT hb; rw [← e]; exact hT p hp, scr, allI, len, KX, fun b hb => by obtain ⟨p, hp, e⟩ := ofT hb; rw [← e]; exact nT p hp⟩
  generalize hH : gH K (cs.map (·.2)) a vs ns = H at g
  have g0 := g
  have hok : HOk P w H s.heap := by rw [← hH]; exact g0.ok
  have tabs : ∀ p ∈ cs, H p.2 = some (.tbl #[]) := fun p hp => by rw [← hH]; exact g0.tab (inT hp)
  have hS : SqL K H a (ns.map V.int) := by rw [← hH]; exact g0.scr
  have down : ∀ {b : Addr} {o : Obj}, s.heap.get? b = some o → H b = none → (hidT s.heap H).get? b = some o := fun e n => hidT_get e n
  have off : ∀ {b : Addr} {o : Obj}, s.heap.get? b = some o → (∀ xs n, o.data ≠ .seq xs n) → o.data ≠ .fields #[] → (hidT s.heap H).get? b = some o := fun {b o} e n1 n2 => down e (by rw [← hH]; exact g0.offH e n1 n2)
  have ns_ : ∀ {b : Addr} {m : Str → Option Value}, s.heap.Ns b m → (hidT s.heap H).Ns b m := fun {b m} q => by
    obtain ⟨o, es, ep, e, d, r⟩ := q
    refine ⟨o, es, ep, off e (fun xs n z => ?_) (fun z => ?_), d, r⟩ <;> rw [d] at z <;> cases z
  have inK : K.In (hidT s.heap H) := fun b o e => down (KX b o e) (by rw [← hH]; exact g0.noneK e)
  have tb : ∀ p ∈ cs, TabB (hidT s.heap H) mg p.1 p.2 := fun p hp => by
    have here := hT p hp
    refine ⟨?_, ?_, fun z => ?_⟩
    · obtain ⟨o, us, file, tf, flags, tg, inF, text, tt, e1, r1, r2, r3, rest⟩ := C p hp
      refine ⟨o, us, file, tf, flags, tg, inF, text, tt, off e1 (fun xs n z => ?_) (fun z => ?_), r1, r2, r3, rest⟩ <;> rw [r2] at z <;> cases z
      simp at r3
    · obtain ⟨bm, ob, b1, b2, b3, b4, b5, b6⟩ := bmod
      refine ⟨bm, ob, b1, b2, fun q => ?_, fun q => ?_, off b3 (fun xs n z => ?_) (fun z => ?_), b4, b5, b6⟩
      · obtain ⟨o, es, ep, e, d, _⟩ := glob
        rw [q, e] at b3
        cases b3
        rw [d] at b6
        cases b6
      · rw [q, here] at b3
        cases b3
        cases b6
      · rw [b6] at z; cases z
      · rw [b6] at z; cases z
    · obtain ⟨o, es, ep, e, d, _⟩ := glob
      rw [z, here] at e
      cases e
      cases d
  obtain ⟨mc, l1, l2⟩ := lim
  have mod : L2.Mod K mg (hidT s.heap H) := ⟨inK, ns_ glob, ⟨mb, ns_ blt, bltE⟩, mc, ns_ l1, l2⟩
  have e0 : Env0 P w K mg (hidT s.heap H) callerA [] s H := ⟨rfl, mod, fun b o e => of_hidT e, Nat.le_of_eq (hidT_size _ _), trivial, fun b hb => (List.not_mem_nil hb).elim, hok, .of_eq gens⟩
  have rn : Vals [V.ref a] [Value.ref a] := .cons rfl .nil
  refine codeAny_mono ((F _ inK (ns_ glob) tb).go (A := callerA) (us := [.ref a]) rfl room e0 (binds s (.ref a)) rn (asks H tabs hS)) fun r s' z => ?_
  match r, z with
  | .error _, z => exact (show False from z).elim
  | .ok .next, z => exact (show False from z).elim
  | .ok .brk, z => exact (show False from z).elim
  | .ok .cont, z => exact (show False from z).elim
  | .ok (.ret u), z =>
    obtain ⟨v, H', os, bare, un, ok', rv, q⟩ := z
    rw [show v = .bl true from q] at rv
    cases (show u = Value.bool true from rv)
    have stay : ∀ b o, b ∉ cs.map (·.2) → s.heap.get? b = some o → s'.heap.get? b = some o := fun b o nb e => by
      cases y : H b with
      | none => exact un.keep b o e y (fun m => List.not_mem_nil m) (by simp)
      | some u =>
        have y0 := y
        rw [← hH] at y0
        rcases gH_of y0 with ⟨m, _⟩ | ⟨_, _, _, rfl⟩
        · exact absurd m nb
        · have k1 := (hok b _ y).1
          have k2 := (ok' b _ (un.frzs b _ _ y)).1
          rw [e] at k1
          cases k1
          exact k2
    have grow : ∀ p ∈ cs, ∃ more : Array Value, s'.heap.get? p.2 = some { cls := .none, data := .fields more } := fun p hp => by
      obtain ⟨more, m⟩ := un.tbls p.2 #[] (tabs p hp)
      exact ⟨_, ok' p.2 _ m⟩
    refine ⟨rfl, ⟨fun b o e => ?_, fun b o e => ?_⟩, os, bare⟩
    · by_cases hb : b ∈ cs.map (·.2)
      · obtain ⟨p, hp, rfl⟩ := ofT hb
        obtain ⟨more, hm⟩ := grow p hp
        have ee := (hT p hp).symm.trans e
        cases ee
        exact .inr (.inl ⟨((C p hp).tab (hT p hp)).isCodeTable, rfl, #[], more, rfl, by rw [Array.empty_append]; exact hm⟩)
      · exact .inl (stay b o hb e)
    · by_cases hb : b ∈ cs.map (·.2)
      · obtain ⟨p, hp, rfl⟩ := ofT hb
        obtain ⟨more, hm⟩ := grow p hp
        exact ⟨_, hm⟩
      · exact ⟨o, stay b o hb e⟩
end
/-- the law's promise at the head's heap, where it asks for a quiet stack -/
def LawQ (l : PySem.W.OpenLaw) (w : World) (K : PySem.W.Frag) (k n : Nat) (x : Str) (mg : Str → Option Value) (fa : Addr) (h : Heap) : Prop :=
  ∃ (fd : FuncData) (cs : List (Addr × Addr)) (sp : Sp), (∀ p ∈ cs, h.get? p.2 = some { cls := .none, data := .fields #[] }) ∧ (∀ p ∈ cs, K.lookup p.2 = none) ∧ (∀ p ∈ cs, PySem.W.CodeHd h p.1 p.2) ∧ (∀ (s : Shared) (u : Value), BindsTo s fd ⟨[u], []⟩ [(x, u)]) ∧
    (∀ (H : Hp) (a : Addr) (ns : List Int), ns.length ≤ n → (∀ z ∈ ns, Builtin.Int.intBits z ≤ 1048576) → (∀ p ∈ cs, H p.2 = some (.tbl #[])) → SqL K H a (ns.map V.int) → sp [.ref a] H (fun v _ => v = .bl true) fun _ _ _ => False) ∧
    ∀ base : Heap, K.In base → base.Ns mainGlobals mg → (∀ p ∈ cs, TabB base mg p.1 p.2) → FnG l.prog w K mg base k fa fd [x] sp
theorem walk_quiet {l : PySem.W.OpenLaw} {n k : Nat} {q : Program} {loose : List Str} {XP : (Str → Option Value) → Heap → Prop} {YP : World → Heap → Prop} {d : DefRec} {x : Str} (most : l.most = some n) (fits : n ≤ sizeLine) (noD : d.params.defaults = []) (room : Room k callerA)
    (F : ∀ (w : World) (mg : Str → Option Value) (fa : Addr) (h : Heap), YP w h → h.Ns mainGlobals mg → mg d.name = some (.ref fa) → ∃ K : PySem.W.Frag, K.In h ∧ LawQ l w K k n x mg fa h) : PySem.W.WalkO q loose XP YP l.row.toRowW d [] (fun f vs => PySem.call f vs) := by
  refine Att.attach_callB most noD fun w s₀ s₁ mg mb fa o pm cd doc a vs ns G Y _ _ _ named scr allI many bits gens => ?_
  obtain ⟨K, KX, fd, cs, sp, hT, nT, C, hb, hsp, hF⟩ := F w mg fa _ Y G.T.g named
  exact quiet_call KX G.T.g G.T.b G.T.builtins G.T.nolimit gens hT nT C G.T.bmain scr allI (Nat.le_trans many fits) room hF hb fun H hH hS => hsp H a ns many bits hH hS
end HW

set_option Elab.async false
set_option linter.all false
set_option maxRecDepth 100000
set_option maxHeartbeats 4000000
/-! Starred items; list + list of any two; a def that returns a new list, by its arguments alone. -/
namespace DL
open PySem PySem.Spec PyProof.Rows L2
theorem RpWL.dats {K : PySem.W.Frag} {Bv : Hp} {σ : L2.St} {ys : List V} {ws : List Wv} (h : RpWL K Bv σ ys ws) : ∀ {xs : List V} {l : List D}, RpL K Bv xs l → RpWL K Bv σ (xs ++ ys) (l.map Wv.dat ++ ws)
  | _, _, .nil => h
  | _, _, .cons r t => ⟨r, RpWL.dats h t⟩
section
variable {F : Fam} {E : XK} {e a b : Expr} {es : List Expr} {A B : DE} {R : DA} {T : DO} {pos p : Pos} {x : Str} {k : Nat} {ps : List Str}
/-- *e, then the others -/
def dStar (A : DE) (R : DA) : DA := fun xd Γ Q => A xd Γ fun w Γ1 => ∃ l, (w = .dat (.lst l) ∨ w = .dat (.tup l)) ∧ R xd Γ1 fun ws Γ2 => Q (l.map Wv.dat ++ ws) Γ2
theorem pda_star (ha : PD F E e A) (hr : PDA F E es R) (hs : ∀ j, starEach (.Starred e p :: es) (F.X j).env = (true, eval e (F.X j).env) :: starEach es (F.X j).env := by intro _; rfl) : PDA F E (.Starred e p :: es) (dStar A R) :=
  let ⟨_, pe, le⟩ := ha; let ⟨_, pr, lr⟩ := hr
  ⟨_, fun j => F.k j ▸ StX.pa_star (pe j) (pr j) (hs j), fun P hK hE Bv Γ σ H Qd Q n h k => le P hK hE Bv Γ σ H _ _ n h fun w Γ1 v H1 B1 e1 n1 r1 h1 => by
    obtain ⟨l, hw, h1⟩ := h1
    rcases hw with rfl | rfl
    · have r1' : Rp P.K B1 v (.lst l) := r1
      cases r1' with
      | lst hs hr =>
        rw [hK] at hs
        exact ⟨_, _, rfl, .inr (ex_l n1.sub hs), lr P hK hE B1 Γ1 σ H1 _ _ n1 h1 fun ws Γ2 vs H2 B2 e2 n2 r2 h2 => k _ Γ2 _ H2 B2 (e1.trans e2) n2 (RpWL.dats r2 (hr.mono e2)) h2⟩
    · have r1' : Rp P.K B1 v (.tup l) := r1
      cases r1' with
      | tup hs hr =>
        rw [hK] at hs
        exact ⟨_, _, rfl, .inl (ex_t n1.sub hs), lr P hK hE B1 Γ1 σ H1 _ _ n1 h1 fun ws Γ2 vs H2 B2 e2 n2 r2 h2 => k _ Γ2 _ H2 B2 (e1.trans e2) n2 (RpWL.dats r2 (hr.mono e2)) h2⟩⟩
/-- list + list -/
def dCatW (A B : DE) : DO := fun xd Γ Q => A xd Γ fun w Γ1 => B xd Γ1 fun u Γ2 => ∃ l m, asD Γ2 w = some (.lst l) ∧ asD Γ2 u = some (.lst m) ∧ l.length + m.length ≤ 100000 ∧ Q (l ++ m) Γ2
theorem pdo_catW (ha : PD F E a A) (hb : PD F E b B) : PDO F E (.BinOp a .Add b pos) (dCatW A B) :=
  let ⟨_, pa, la⟩ := ha; let ⟨_, pb, lb⟩ := hb
  ⟨_, fun j => F.k j ▸ pe_op op_catL (pa j) (pb j), fun P hK hE Bv Γ σ H Qd Q n h k => la P hK hE Bv Γ σ H _ _ n h fun w Γ1 v H1 B1 e1 n1 r1 h1 =>
    lb P hK hE B1 Γ1 σ H1 _ _ n1 h1 fun u Γ2 v2 H2 B2 e2 n2 r2 h2 => by
      obtain ⟨l, m, hw, hu, hz, h2⟩ := h2
      obtain ⟨a1, xs, rfl, s1, q1⟩ := n2.list (r1.mono e2) hw
      obtain ⟨a2, ys, rfl, s2, q2⟩ := n2.list r2 hu
      rw [hK] at s1 s2
      exact ⟨a1, a2, xs, ys, rfl, rfl, s1, s2, by rw [q1.len, q2.len]; exact Evl.sz_of hz, fun q' hq' => n2.newL (q1.app q2) (e1.trans e2) h2 k hq'⟩⟩
end
/-! ### new lists by arguments -/
def spO (K : PySem.W.Frag) (ts : List Addr) (sd : Sd) : Sp := fun vs H Q E => ∃ (ds : List D) (F B : Hp), (∀ T ∈ ts, TabG F T) ∧ RpL K B vs ds ∧ Ex B H ∧ Ex F H ∧ Dj B F ∧
  sd ds (fun r => ∀ lr, r = .lst lr → ∀ (p : Addr) (ys : List V) (H' B' : Hp), Ex B B' → Ex B' H' → Ex F H' → Dj B' F → F p = none → B' p = none → H' p = some (.lst ys) → RpL K B' ys lr → Q (.ref p) H') no
section
variable {P : Program} {w : World} {K : PySem.W.Frag} {mg : Str → Option Value} {base : Heap} {ts : List Addr}
theorem okDefO {x qual : Str} {st : Stmt} {f : Addr} {fd : FuncData} {N ps : List Str} {k : Nat} {sd : Sd} {T : (Gm → List D → Prop) → Gm → Prop} (F : Fun K x qual st f fd) (S : FnScope N ps (defScope st)) (hps : ps.length ≤ N.length)
    (hl : ∀ ds Q E, sd ds Q E → ds.length = ps.length)
    (hb : ∀ (cdv : Value) (A : Around) (outer : List Env) (s : Shared) (H : Hp) (E : XK), Room k (A.deeper (envOfC qual (defScope st) s.heap.objs.size f cdv)) → PDR (Fam.of ts (cxOf CX0 P w K mg base N qual (defScope st) f cdv A outer s H E).nox) (defBody st) T)
    (hr : ∀ ds Q E, sd ds Q E → T (fun _ lr => Q (.lst lr)) (startD N.length (ds.map .dat))) : FnOk P w K mg base CX0 (k + 1) f fd ps (spO K ts sd) := by
  refine F.ok S (fun vs H Q E h => ?_) (fun cdv A outer s H vs Q E hroom h => ?_)
  · obtain ⟨ds, F, B, _, r, _, _, _, h⟩ := h
    rw [r.len]
    exact hl _ _ _ h
  · obtain ⟨ds, F, B, tb, r, e, f', dj, h⟩ := h
    obtain ⟨t, pt, lt⟩ := hb cdv A outer s H E hroom
    refine ⟨t, pt (), ?_⟩
    have hlen : vs.length ≤ N.length := by rw [r.len, hl _ _ _ h]; exact hps
    let Q' : Par := ⟨K, F, [], B, no, E0, ts, tb, fun _ _ _ _ _ _ z => z.elim⟩
    have n : En Q' B (startD N.length (ds.map .dat)) (L2.start N vs) H := En.begin0 (P := Q') rfl r hlen e f' dj
    refine lt Q' rfl ⟨rfl, rfl⟩ rfl _ B _ (fun Γ' σ' p H' B' ys lr x n' rr hp q => ?_) B _ _ H (Ex.refl _) n (hr _ _ _ h)
    have pF : F p = none := by
      cases y : F p with
      | none => rfl
      | some u => exact absurd hp (n'.frm.some y)
    have pB : B' p = none := by
      cases y : B' p with
      | none => rfl
      | some u => exact absurd hp (n'.sub.some y)
    exact q lr rfl p ys (upd H' p (.lst ys)) B' x (n'.sub.trans (Ex.new hp)) (n'.frm.trans (Ex.new hp)) n'.dj pF pB upd_same rr
end
section
variable {F : Fam} {E : XK} {e : Expr} {es : List Expr} {R : DA} {pos p : Pos} {x : Str} {k : Nat} {ps : List Str} {sd : Sd}
def dCallO (sd : Sd) (R : DA) : DO := fun xd Γ Q => R xd Γ fun ws Γ1 => ∃ ds Γ2, fixL Γ1 ws = some (ds, Γ2) ∧ sd ds (fun r => ∀ lr, r = .lst lr → Q lr Γ2) no
theorem pdo_callO {pre : List D → Prop} {post : List D → D → Prop} (hD : ∀ j, Dn (F.X j).prog (F.X j).w (F.X j).K (F.X j).mg (F.X j).base x k ps (spO (F.X j).K F.ts (sdR pre post))) (hr : ∀ j, Room k (F.X j).A)
    (ha : PDA F E (e :: es) R) (hg : ∀ j, Gl (F.X j) x := by intro _; rfl) (hdb : (x == ("__debug__" : Str)) = false := by decide) (he : ∀ j, starEach (e :: es) (F.X j).env = (false, eval e (F.X j).env) :: starEach es (F.X j).env := by intro _; rfl) (hpl : ∀ j, (backTo pos (starEach es (F.X j).env)).any (·.1) = false := by intro _; rfl) :
    PDO F E (.Call (.Name x p) (e :: es) [] pos) (dCallO (sdR pre post) R) := by
  obtain ⟨t, pa, la⟩ := ha
  refine ⟨tCall (spO F.K F.ts (sdR pre post)) [] E0 t, fun j => ?_, fun P hK hE => ?_⟩
  · obtain ⟨f, fd, G, hmg, hk, hb⟩ := (hD j).ex
    exact F.k j ▸ pe_call G (hr j) (hg j) hmg hk hb .nil pass0 (pa j) hdb (he j) (hpl j)
  · rw [← hK, ← hE.2]
    intro Bv Γ σ H Qd Q n h kk
    refine la P hK hE Bv Γ σ H _ _ n h fun ws Γ1 vs H1 B1 e1 n1 r1 h1 => ?_
    obtain ⟨ds, Γ2, f, h1⟩ := h1
    obtain ⟨B2, e2, n2, r2⟩ := n1.fixedL r1 f
    refine ⟨ds, hidF P Γ2 σ H1, B2, hidF_tab n2, by rw [List.append_nil]; exact r2, n2.sub, hidF_ex n2, hidF_dj n2, h1.1, fun r hpost => ?_⟩
    intro lr hlr q ys H' B' x1 x2 x3 x4 x5 x6 x7 x8
    have hPF : P.F q = none := by
      cases z : P.F q with
      | none => rfl
      | some u => rw [hidF_F n2 z] at x5; cases x5
    refine kk lr Γ2 q ys H' B' ((e1.trans e2).trans x1) (n2.called x1 x2 x3 x4) ⟨x7, x6, hPF, fun j q' m hj hs' => ?_, x8, fun j M hj z => ?_⟩ (h1.2 r hpost lr hlr)
    · obtain ⟨c, us', k1, k2, _⟩ := n2.own j q' m hj
      rw [hs'] at k1
      cases k1
      rw [hidF_own hj hs', k2] at x5
      cases x5
    · have z := InReg.back ((n2.hf.2 j M hj).1.keep fun b o hb ho hn => x3.get (by rw [hidF_reg hj hb]; exact ho) hn) z
      rw [hidF_reg hj z] at x5
      exact (n2.hf.2 j M hj).1.alloc z x5
end
end DL

set_option Elab.async false
set_option linter.all false
set_option maxRecDepth 100000
set_option maxHeartbeats 4000000
/-! Texts: split, join, int of a text, a text in a text. -/
namespace DL
open PySem PySem.Spec PyProof.Rows L2
section
variable {K : PySem.W.Frag} {H : Hp}
theorem RpL.strs : ∀ (ys : List Str), RpL K H (ys.map V.str) (ys.map D.str)
  | [] => .nil
  | y :: ys => .cons (.str y) (RpL.strs ys)
theorem RpL.strs_of : ∀ {vs : List V} {ys : List Str}, RpL K H vs (ys.map D.str) → vs = ys.map V.str
  | [], [], _ => rfl
  | [], _ :: _, h => by cases h
  | _ :: _, [], h => by cases h
  | _ :: _, y :: ys, h => by
    cases h with
    | cons a b =>
      cases a
      rw [RpL.strs_of b]
      rfl
end
section
variable {F : Fam} {E : XK} {a e b : Expr} {A B : DE} {R : DA} {pos apos p : Pos}
def dSplit (A B : DE) : DO := fun xd Γ Q => A xd Γ fun w Γ1 => ∃ s, w = .dat (.str s) ∧ B xd Γ1 fun u Γ2 => ∃ t, u = .dat (.str t) ∧ (t.length == 0) = false ∧ s.length ≤ 90000 ∧ Q ((Txt.split s t).map D.str) Γ2
theorem pdo_split (ha : PD F E a A) (hb : PD F E e B) (hs : ∀ j, starEach [e] (F.X j).env = [(false, eval e (F.X j).env)] := by intro _; rfl) (hbase : ∀ j, attributeBase a "split" (F.X j).env (eval a (F.X j).env) = eval a (F.X j).env := by intro _; rfl) (hline : (apos.endLine == pos.line) = true := by rfl) :
    PDO F E (.Call (.Attribute a "split" apos) [e] [] pos) (dSplit A B) :=
  let ⟨_, pa, la⟩ := ha; let ⟨_, pb, lb⟩ := hb
  ⟨_, fun j => pe_split (pa j) (pb j) (hs j) (hbase j) hline, fun P hK hE Bv Γ σ H Qd Q n h k => la P hK hE Bv Γ σ H _ _ n h fun w Γ1 v H1 B1 e1 n1 r1 h1 => by
    obtain ⟨s, rfl, h1⟩ := h1
    cases r1
    exact ⟨⟨s, rfl⟩, lb P hK hE B1 Γ1 σ H1 _ _ n1 h1 fun u Γ2 v2 H2 B2 e2 n2 r2 h2 => by
      obtain ⟨t, rfl, ht, hl, h2⟩ := h2
      cases r2
      exact ⟨s, t, rfl, rfl, ht, by have := Evl.sz_of (n := s.length + 2) (by omega); exact this, fun q hq => n2.newL (RpL.strs _) (e1.trans e2) h2 k hq⟩⟩⟩
def dJoin (A B : DE) : DE := fun xd Γ Q => A xd Γ fun w Γ1 => ∃ s, w = .dat (.str s) ∧ B xd Γ1 fun u Γ2 => ∃ ys : List Str, asD Γ2 u = some (.lst (ys.map D.str)) ∧ (ys.map (·.length)).sum + ys.length * s.length ≤ 16777216 ∧ Q (.dat (.str (Txt.join s ys))) Γ2
theorem pd_join (ha : PD F E a A) (hb : PD F E e B) (hs : ∀ j, starEach [e] (F.X j).env = [(false, eval e (F.X j).env)] := by intro _; rfl) (hbase : ∀ j, attributeBase a "join" (F.X j).env (eval a (F.X j).env) = eval a (F.X j).env := by intro _; rfl) (hline : (apos.endLine == pos.line) = true := by rfl) :
    PD F E (.Call (.Attribute a "join" apos) [e] [] pos) (dJoin A B) :=
  let ⟨_, pa, la⟩ := ha; let ⟨_, pb, lb⟩ := hb
  ⟨_, fun j => F.k j ▸ pe_join (pa j) (pb j) (hs j) (hbase j) hline, fun P hK hE Bv Γ σ H Qd Q n h k => la P hK hE Bv Γ σ H _ _ n h fun w Γ1 v H1 B1 e1 n1 r1 h1 => by
    obtain ⟨s, rfl, h1⟩ := h1
    cases r1
    exact ⟨⟨s, rfl⟩, lb P hK hE B1 Γ1 σ H1 _ _ n1 h1 fun u Γ2 v2 H2 B2 e2 n2 r2 h2 => by
      obtain ⟨ys, hu, hl, h2⟩ := h2
      obtain ⟨c, vs, rfl, s1, q1⟩ := n2.list r2 hu
      rw [hK] at s1
      have ev := RpL.strs_of q1
      subst ev
      exact ⟨s, c, ys, rfl, rfl, .inl s1, hl, finD k (e1.trans e2) n2 (.str _) h2⟩⟩⟩
def rdIntS : D1 := fun Γ ws Q => ∃ s n, ws = [.dat (.str s)] ∧ PySem.intText? s = some n ∧ s.length ≤ 640 ∧ Q (.dat (.int n)) Γ
/-- s in t, texts -/
def inT (s t : Str) : Bool := !(Builtin.Str.occurrences t s 0 t.length 1).isEmpty
def rdInT : D2 := fun Γ x y Q => ∃ s t, x = .dat (.str s) ∧ y = .dat (.str t) ∧ Q (.dat (.bl (inT s t))) Γ
theorem pd_inT (ha : PD F E a A) (hb : PD F E b B) (h1 : behindInMarks .In b = false := by first | exact nomark _ | rfl) : PD F E (.Compare a [.In] [b] pos) (dOp rdInT A B) :=
  pd_cmp (fun _ => op_in_str) (fun _ _ => by
    intro Bv Γ σ H x y wx wy Qd Q n rx ry h k
    obtain ⟨s, t, rfl, rfl, h⟩ := h
    cases rx
    cases ry
    exact ⟨s, t, rfl, rfl, finD k (Ex.refl _) n (.bl _) h⟩) ha hb h1
/-- the truth of data -/
def truD : D → Option Bool
  | .non => some false
  | .bl b => some b
  | .int i => some (i != 0)
  | .str y => if y.length ≤ 90000 then some ((y.length : Int) != 0) else none
  | .tup l => some (!l.isEmpty)
  | .lst l => some (!l.isEmpty)
  | _ => none
theorem empty_rp {K : PySem.W.Frag} {H : Hp} {vs : List V} {ds : List D} (r : RpL K H vs ds) : (!ds.isEmpty) = !vs.isEmpty := by cases r <;> rfl
theorem tru_rp {K : PySem.W.Frag} {H : Hp} {v : V} {d : D} {k : Bool} (r : Rp K H v d) (h : truD d = some k) : TruV K v H k := by
  cases r with
  | non => cases h; rfl
  | bl b => cases h; rfl
  | int i => cases h; rfl
  | str y =>
    simp only [truD] at h
    split at h
    · rename_i hl
      cases h
      exact ⟨by rw [sizeLine_eq]; omega, rfl⟩
    · cases h
  | tup hs hr => cases h; exact .inr (.inl ⟨_, hs, empty_rp hr⟩)
  | lst hs hr => cases h; exact .inl ⟨_, hs, empty_rp hr⟩
  | obj _ _ => cases h
  | opq _ => cases h
def dTru (A : DE) : DT := fun xd Γ Q => A xd Γ fun w Γ1 => ∃ d k, asD Γ1 w = some d ∧ truD d = some k ∧ Q k Γ1
theorem pdt_tru (ha : PD F E a A) (he : ∀ j whole, isTrue a (F.X j).env whole = (do let v ← whole; standAt a.pos; holding [v] (truthy v)) := by intro _ _; rfl) : PDT F E a (dTru A) :=
  let ⟨t, pa, la⟩ := ha
  ⟨fun σ H Q => t σ H fun x H' => ∃ k, TruV F.K x H' k ∧ Q k H', fun j => F.k j ▸ pt_truth (pa j) (he j), fun P hK hE Bv Γ σ H Qd Q n h k => la P hK hE Bv Γ σ H _ _ n h fun w Γ1 v H1 B1 e1 n1 r1 h1 => by
    obtain ⟨d, b, hd, hb, h1⟩ := h1
    have t := tru_rp (n1.full r1 hd) hb
    rw [hK] at t
    exact ⟨b, t, k b Γ1 H1 B1 e1 n1 h1⟩⟩
/-- the signs of a text, one by one -/
def signsD (z : Str) : List D := z.cps.toList.map fun c => D.str ⟨#[c]⟩
theorem itd_str {K : PySem.W.Frag} {B0 : Hp} {z : Str} : ItD K (Its z) B0 (signsD z) where
  go := fun B H e1 e2 i hi => by
    have h : i < z.cps.size := by simpa [signsD] using hi
    exact h
  stop := fun B H e1 e2 => by
    have : (signsD z).length = z.cps.size := by simp [signsD]
    rw [this]
    exact Nat.le_refl _
  yld := fun B H e1 e2 i x H' hi y => by
    obtain ⟨rfl, c, hc, rfl⟩ := y
    exact ⟨B, .str ⟨#[c]⟩, by simp [signsD, hc], Grow.refl e2, .str _⟩
def dItS (A : DE) : DI := fun xd Γ Rd => A xd Γ fun w Γ1 => ∃ z, w = .dat (.str z) ∧ Rd (signsD z) Γ1
theorem pdi_str {tg : Expr} (h : PD F E a A) : PDI F E tg a (dItS A) :=
  let ⟨_, p, l⟩ := h
  ⟨_, fun j => pi_str (p j), fun P hK hE Bv Γ σ H Rd R n h k => l P hK hE Bv Γ σ H _ _ n h fun w Γ1 v H1 B1 e1 n1 r1 h1 => by
    obtain ⟨z, rfl, h1⟩ := h1
    cases r1
    exact ⟨z, rfl, k (signsD z) Γ1 _ H1 B1 e1 n1 itd_str h1⟩⟩
/-- len of a text; one of its signs; a text of the module -/
def rdLenT : D1 := fun Γ ws Q => ∃ s, ws = [.dat (.str s)] ∧ s.length ≤ 90000 ∧ Q (.dat (.int s.length)) Γ
theorem pd_lenT (hg : ∀ j, Gl (F.X j) "len") (hm : ∀ j, (F.X j).mg "len" = none) (ha : PDA F E [a] R) (he : ∀ j, starEach [a] (F.X j).env = (false, eval a (F.X j).env) :: starEach [] (F.X j).env := by intro _; rfl) : PD F E (.Call (.Name "len" p) [a] [] pos) (dCB rdLenT R) :=
  pd_callB (r := fun xs H Q => ∃ x n, xs = [x] ∧ LenV F.K x H n ∧ Q (.int n) H) (fun j => F.k j ▸ call_len) (fun P hK => by
    intro Bv Γ σ H vs ws Qd Q n r h k
    obtain ⟨s, rfl, hl, h⟩ := h
    obtain ⟨v, rfl, rr⟩ := r.one
    cases rr
    exact ⟨_, s.length, rfl, ⟨by rw [sizeLine_eq]; omega, rfl⟩, finD k (Ex.refl _) n (.int _) h⟩) hg hm (by decide +kernel) ha (by decide) (by decide) he
def rdIxT : D2 := fun Γ x y Q => ∃ s i c, x = .dat (.str s) ∧ y = .dat (.int i) ∧ s.length ≤ 90000 ∧ atI s.cps.toList i = some c ∧ Q (.dat (.str ⟨#[c]⟩)) Γ
theorem pd_ixT (ha : PD F E a A) (hb : PD F E b B) (hs : PlainIx b := by exact fun _ _ => rfl) : PD F E (.Subscript a b pos) (dOp rdIxT A B) :=
  let ⟨_, pa, la⟩ := ha; let ⟨_, pb, lb⟩ := hb
  ⟨_, fun j => F.k j ▸ pe_ix ix_seq (pa j) (pb j) hs, fun P hK hE => by
    refine le_op (fun Bv Γ σ H x y wx wy Qd Q n rx ry h k => ?_) (la P hK hE) (lb P hK hE)
    obtain ⟨s, i, c, rfl, rfl, hl, hc, h⟩ := h
    cases rx
    cases ry
    exact .inr (.inr ⟨s, i, c, rfl, rfl, by rw [sizeLine_eq]; omega, hc, finD k (Ex.refl _) n (.str _) h⟩)⟩
theorem pd_globS {x : Str} {s : Str} {t : Tok} (hg : ∀ j, Gl (F.X j) x) (hm : ∀ j, (F.X j).mg x = some (.str s t)) (hd : (x == ("__debug__" : Str)) = false := by decide) : PD F E (.Name x pos) (dC (.str s)) :=
  ⟨_, fun j => pe_glob (hg j) (hm j) (v := .str s) ⟨t, rfl⟩ hd, fun _ _ _ => le_c fun _ => .str s⟩
theorem pd_intT (hc : ∀ j, (F.X j).calm = true := by intro _; rfl) (hg : ∀ j, Gl (F.X j) "int") (hm : ∀ j, (F.X j).mg "int" = none) (ha : PDA F E [a] R) (he : ∀ j, starEach [a] (F.X j).env = (false, eval a (F.X j).env) :: starEach [] (F.X j).env := by intro _; rfl) : PD F E (.Call (.Name "int" p) [a] [] pos) (dCB rdIntS R) :=
  pd_callTy (fun j => call_int_str) (fun P hK => by
    intro Bv Γ σ H vs ws Qd Q n r h k
    obtain ⟨s, m, rfl, hm, hl, h⟩ := h
    obtain ⟨v, rfl, rr⟩ := r.one
    cases rr
    exact ⟨s, m, rfl, hm, hl, finD k (Ex.refl _) n (.int _) h⟩) hg hm (by decide +kernel) ha (by decide) (by decide) he
def rdNeS : D2 := fun Γ x y Q => ∃ s t, asD Γ x = some (.str s) ∧ asD Γ y = some (.str t) ∧ Q (.dat (.bl (!decide (s = t)))) Γ
theorem pd_neS (ha : PD F E a A) (hb : PD F E b B) (h1 : behindInMarks .NotEq b = false := by first | exact nomark _ | rfl) : PD F E (.Compare a [.NotEq] [b] pos) (dOp rdNeS A B) :=
  pd_cmp (fun _ => op_ne) (fun _ _ => by
    intro Bv Γ σ H x y wx wy Qd Q n rx ry h k
    obtain ⟨s, t, hd, he, h⟩ := h
    have ex := n.full rx hd
    have ey := n.full ry he
    cases ex
    cases ey
    have e : (!decide (V.str s = V.str t)) = !decide (s = t) := by congr 1; rw [Bool.eq_iff_iff]; simp
    refine ⟨rfl, ?_⟩
    rw [e]
    exact finD k (Ex.refl _) n (.bl _) h) ha hb h1
end
end DL

set_option Elab.async false
set_option linter.all false
set_option maxRecDepth 100000
set_option maxHeartbeats 4000000
/-! A def that holds a generator expression and may raise. -/
namespace DL
open PySem PySem.Spec PyProof.Rows L2
section
variable {P : Program} {w : World} {K : PySem.W.Frag} {mg : Str → Option Value} {base : Heap} {ts : List Addr}
theorem okDefCX {x qual : Str} {st : Stmt} {f c : Addr} {fd : FuncData} {N ps : List Str} {k : Nat} {sd : Sd} {T : DS} (F : Fun K x qual st f fd) (hc : fd.code = .ref c) (S : FnScope N ps (defScope st)) (hps : ps.length ≤ N.length)
    (hl : ∀ ds Q E, sd ds Q E → ds.length = ps.length)
    (hb : ∀ (A : Around) (outer : List Env) (s : Shared) (H : Hp) (E : XK), Room k (A.deeper (envOfC qual (defScope st) s.heap.objs.size f (.ref c))) → Takes (cxX P w K mg base N qual st f (.ref c) A outer s H E) (fun cls d _ H => E cls d H) →
      PassesOwn (model P w) (cxX P w K mg base N qual st f (.ref c) A outer s H E).A (cxX P w K mg base N qual st f (.ref c) A outer s H E).env (cxX P w K mg base N qual st f (.ref c) A outer s H E).xe → PDSs (Fam.of ts (cxX P w K mg base N qual st f (.ref c) A outer s H E)) E (defBody st) T)
    (hr : ∀ ds Q E, sd ds Q E → T E { nx := fun _ => Q .non, rt := fun d _ => Q d } (startD N.length (ds.map .dat))) : FnOk P w K mg base (L2.CX P w) (k + 1) f fd ps (spD K ts sd) := by
  obtain ⟨oc, od, kV, doc, pm, an, cdv, ct, osl, rfl, lk, hcd⟩ := F.ex
  obtain rfl : cdv = .ref c := hc
  refine fn_of lk hcd S (fun vs H Q E h => ?_) fun A outer s H vs Q E hroom h => ?_
  · obtain ⟨ds, F, B, _, r, _, _, _, h⟩ := h
    rw [r.len]
    exact hl _ _ _ h
  · obtain ⟨ds, F, B, tb, r, e, f', dj, h⟩ := h
    obtain ⟨t, pt, lt⟩ := hb A outer s H E hroom (takes_of rfl rfl rfl rfl) (passes_of rfl)
    refine ⟨t, pt (), ?_⟩
    have hlen : vs.length ≤ N.length := by rw [r.len, hl _ _ _ h]; exact hps
    let Q' : Par := ⟨K, F, [], B, XkD K B F E, E, ts, tb, fun C fs d fvs H' B' z => z d fvs H' B'⟩
    have n : En Q' B (startD N.length (ds.map .dat)) (L2.start N vs) H := En.begin0 (P := Q') rfl r hlen e f' dj
    exact lt Q' rfl ⟨rfl, rfl⟩ B _ _ H _ _ n (hr _ _ _ h) ⟨fun Γ' σ' H' B' x n' q => q .non H' B' x n'.sub n'.frm n'.dj .non, fun d Γ' σ' v H' B' x n' rp q => q v H' B' x n'.sub n'.frm n'.dj rp, fun _ _ _ _ _ _ z => z.elim, fun _ _ _ _ _ _ z => z.elim⟩
end
section
variable {F : Fam} {E : XK} {a b c : Expr} {A B C : DE} {pos : Pos}
/-- a <= b <= c, as a test -/
theorem pdt_leLe (ha : PD F E a A) (hb : PD F E b B) (hc : PD F E c C) (hm : lastMarks [.LtE, .LtE] [b, c] = false := by with_unfolding_all rfl) : PDT F E (.Compare a [.LtE, .LtE] [b, c] pos) (dB (dChain (rdI0 gLe) (rdI0 gLe) A B C)) :=
  let ⟨ta, pa, la⟩ := ha; let ⟨tb, pb, lb⟩ := hb; let ⟨tc, pc, lc⟩ := hc
  ⟨_, fun j => pt_chain op_le op_le (pa j) (pb j) (pc j) hm, fun P hK hE => lt_B (t := tChain _ _ ta tb tc) fun Bv Γ σ H Qd Q n h k =>
    la P hK hE Bv Γ σ H _ _ n h fun w Γ1 v H1 B1 e1 n1 r1 h1 => lb P hK hE B1 Γ1 σ H1 _ _ n1 h1 fun w2 Γ2 v2 H2 B2 e2 n2 r2 h2 =>
      rl_I0 (P := P) (fun _ _ _ => .bl _) B2 Γ2 σ H2 v v2 w w2 _ _ n2 (r1.mono e2) r2 h2 fun z Γ3 vz H3 B3 e3 n3 r3 h3 => by
        obtain ⟨q, rfl, h3⟩ := h3
        cases r3
        refine ⟨q, rfl, ?_⟩
        cases q with
        | false => exact finD k ((e1.trans e2).trans e3) n3 (.bl false) h3
        | true => exact lc P hK hE B3 Γ3 σ H3 _ _ n3 h3 fun w4 Γ4 v4 H4 B4 e4 n4 r4 h4 => rl_I0 (P := P) (fun _ _ _ => .bl _) B4 Γ4 σ H4 v2 v4 w2 w4 _ _ n4 (r2.mono (e3.trans e4)) r4 h4 fun w5 Γ5 v5 H5 B5 e5 n5 r5 h5 => k w5 Γ5 v5 H5 B5 ((((e1.trans e2).trans e3).trans e4).trans e5) n5 r5 h5⟩
end
end DL

set_option Elab.async false
set_option linter.all false
set_option maxRecDepth 100000
set_option maxHeartbeats 4000000
/-! A list comprehension whose element may let an own error out. -/
namespace LX
open PySem PySem.Spec PyProof.Rows L2
/-- an exception flies through the air of X -/
def XEf (X : Cx) (W : WX) (u : Value) (s' : Shared) : Prop :=
  ∃ (a : Addr) (B : Heap) (t : Shared) (ps : List (Addr × Obj)) (σ : L2.St) (H : Hp) (c : Value) (d : Option Addr),
    u = .ref a ∧ Inv X ps σ H t ∧ (∀ b o, t.heap.get? b = some o → b ∉ frs X.stack → B.get? b = some o) ∧ t.heap.UpToSlots s'.heap ∧ HandSPX.FlyingZ B X.stack a (Zc c d) s'.heap ∧ H a = none ∧ s'.os = t.os ∧ AllBare s'.gens ∧ W c d σ H
def TakesF (X : Cx) (W : WX) : Prop := ∀ u s', XEf X W u s' → X.xe u s'
theorem XEf.of_call {X : Cx} {pins : List (Addr × Obj)} {σ : L2.St} {H : Hp} {s s' : Shared} {W : WX} {E : XK} (I : Inv X pins σ H s) (hW : ∀ c d G, E c d G → W c d σ G) {u : Value} (c : CX X.prog X.w X.stack H s E u s') : XEf X W u s' := by
  obtain ⟨a, B, G, k, d, rfl, fl, ok, ub, na, os, ag, hE⟩ := c
  obtain ⟨J, g1, g2⟩ := restrict s'.heap fun b => (B.get? b).isSome || decide (b ∈ frs X.stack)
  have gB : ∀ b o, B.get? b = some o → J.get? b = some o := fun b o e => (g1 b (by simp [e])).trans (fl.1 b o e)
  have gF : ∀ b, b ∈ frs X.stack → J.get? b = s'.heap.get? b := fun b hb => g1 b (by simp [hb])
  have og : ∀ b o, J.get? b = some o → s'.heap.get? b = some o ∧ ((B.get? b).isSome = true ∨ b ∈ frs X.stack) := fun b o e => by
    cases q : ((B.get? b).isSome || decide (b ∈ frs X.stack)) with
    | true => exact ⟨(g1 b q).symm.trans e, by simpa [Bool.or_eq_true] using q⟩
    | false => rw [g2 b q] at e; cases e
  refine ⟨a, B, { s with heap := J, gens := s'.gens, drawn := s'.drawn, toks := s'.toks }, pins, σ, G, k, d, rfl, ?_, fun b o e hb => ?_, Heap.UpToSlots.of_keeps fun b o e => (og b o e).1, fl, na, os, ag, hW _ _ _ hE⟩
  · refine I.call (ch := []) ⟨fun b o e n hb _ => gB b o (ub.keep b o e n hb), fun b o e n hb _ => (ub.slot b o e hb).elim fun sl q => ⟨sl, (gF b hb).trans q⟩, fun b o e n _ => ub.free b o e n, fun b o e _ => ?_, ub.tups, ub.frzs, ub.tbls⟩ (ok.kept gB) ag nofun
    by_cases hb : b ∈ frs X.stack
    · exact (ub.slot b o e hb).elim fun sl q => ⟨_, (gF b hb).trans q⟩
    · exact (ub.there b o e hb).elim fun o' q => ⟨o', gB b o' q⟩
  · obtain ⟨e', h⟩ := og b o e
    rcases h with h | h
    · obtain ⟨o', q⟩ := Option.isSome_iff_exists.mp h
      rw [fl.1 b o' q] at e'
      exact e' ▸ q
    · exact absurd h hb
theorem passAtF {X : Cx} {W : WX} (tk : TakesF X W) (σ : L2.St) : PassesAt (L2.CX X.prog X.w) X σ (WE W σ) := fun _ _ _ e s' I c => tk e s' (XEf.of_call I (fun _ _ _ h => h) c)
/-- .. and behind a comprehension's block, its environment told -/
def cPost (M : Model) (A : Around) (E : Value → Shared → Prop) (use : Option (Value → Sem Unit)) (Q : Value → Shared → Prop) (acc : Value) (ce : Env) : Result → Shared → Prop
  | .error x, s' => ∃ m, s'.heap.Ns ce.locals m ∧ ∀ h', Heap.SameBut ce.locals s'.heap h' → wpAny M A (PySem.passOn "comprehension.variables-let-go" x ce : Sem Value) (fun _ _ => False) E { s' with heap := h' }
  | .ok f, s' => compPost M A E use Q acc ce.locals (.ok f) s'
theorem comprehension_X {M : Model} {A : Around} {E : Value → Shared → Prop} {s : Shared} {env : Env} {e : Expr} {scope : Scope} {pos : Pos} {mk first : Sem Value} {g : Comprehension} {gs : List Comprehension} {cl : List (Str × Addr)} {use : Option (Value → Sem Unit)} {Q : Value → Shared → Prop}
    (hcl : clausesOf e = g :: gs) (hs : ∀ x, foldedSetIterable g.iter env x = pure x) (hclos : closureFor scope env = pure cl) (hk : scope.kind = .function) (hn : ∀ x ∈ scope.names, x.2 = .local → scope.names.lookup x.1 = some .local)
    (h : wpAny M A first (fun x t1 => wpAny M A (pyIter x) (fun it t2 => wpAny M A mk (fun acc t3 => wpAny M A (newFunctionEnv scope env.globals cl [] env.qual none .none (some env)) (fun ce t4 =>
        codeAny M A (.compStart e 0 it acc { ce with scope := relabel scope env }) (cPost M A E use Q acc { ce with scope := relabel scope env }) t4) E t3) E t2) E t1) E s) :
    wpAny M A (comprehension e scope env pos mk false first use) Q E s := by
  unfold comprehension
  rw [hclos, hcl]
  refine wpAny_bind (wpAny_mono h (fun x t1 h1 => wpAny_bind (wpAny_standAt (wpAny_bind (wpAny_of_eq (hs x) (wpAny_bind (wpAny_holding (wpAny_mono h1 (fun it t2 h2 =>
    wpAny_standIf (wpAny_bind (wpAny_mono h2 (fun acc t3 h3 => wpAny_bind (wpAny_pure (wpAny_bind (wpAny_mono h3 (fun ce t4 h4 => ?_) fun _ _ z => z)))) fun _ _ z => z))) fun _ _ z => z))))))) fun _ _ z => z)
  dsimp only
  have hv : ∀ x ∈ (scope.names.filter fun x => (x.2 == .local || x.2 == .cell) && x.1 != (".0" : Str)).reverse, x.2 = .local → Env.kindOf { ce with scope := relabel scope env } x.1 = some .local := fun x hx hl =>
    lookup_relabel_local (hn x (List.mem_filter.mp (List.mem_reverse.mp hx)).1 hl)
  refine wpAny_holding (wpAny_bind (wpAny_attempt (wpAny_holding (wpAny_run (codeAny_mono h4 fun r t5 hr => ?_)))))
  cases r with
  | error x =>
    obtain ⟨m, a, b⟩ := hr
    exact wpAny_bind (wpAny_holding (wpAny_comp_letGo (cenv := { ce with scope := relabel scope env }) hk _ t5 m hv a fun h' m' _ z => wpAny_mono (b h' z) (fun _ _ f => f.elim) fun _ _ y => y))
  | ok f =>
    cases use with
    | none =>
      obtain ⟨m, a, b⟩ := hr
      exact wpAny_bind (wpAny_holding (wpAny_comp_letGo (cenv := { ce with scope := relabel scope env }) hk _ t5 m hv a fun h' m' _ z => wpAny_pure (b h' z)))
    | some u =>
      refine wpAny_bind (wpAny_rule (wpAny_bind (wpAny_holding (wpAny_mono hr (fun _ t6 hq => ?_) fun _ _ z => z))))
      obtain ⟨m, a, b⟩ := hq
      refine wpAny_bind (wpAny_comp_letGo (cenv := { ce with scope := relabel scope env }) hk _ t6 m (fun x hx hl => ?_) a fun h' m' _ z => wpAny_pure (b h' z))
      rcases List.mem_append.mp hx with q | q
      · exact hv x (List.mem_of_mem_drop q) hl
      · exact hv x (List.mem_of_mem_take q) hl
theorem frames_but {base B h h' : Heap} {C : Addr} : ∀ {l : List Env}, C ∉ frs l → (∀ b, b ≠ C → h'.get? b = h.get? b) → (∀ b, base.get? b = none → B.get? b = none) → h.FunFrames base l → h'.FunFrames B l
  | [], _, _, _, _ => trivial
  | env :: l, hc, k, kb, ⟨h1, ⟨L, o, hf, hb, ho, hd⟩, hr⟩ => by
    have nL : L ≠ C := fun z => hc (List.mem_filterMap.mpr ⟨env, List.mem_cons_self, by rw [hf, z]⟩)
    refine ⟨h1, ⟨L, o, hf, kb L hb, (k L nL).trans ho, hd⟩, frames_but (fun z => hc ?_) k kb hr⟩
    obtain ⟨e, he, q⟩ := List.mem_filterMap.mp z
    exact List.mem_filterMap.mpr ⟨e, List.mem_cons_of_mem _ he, q⟩
/-- the context of a block that may let errors out -/
abbrev blkX (X : Cx) (s : Shared) (H : Hp) (scope : Scope) (cenv : Env) (fp : List Addr) (xe : Value → Shared → Prop) : Cx := { X with s_0 := s, H_0 := H, env := cenv, outer := X.stack, ex := fp, fn := fun x => scope.names.lookup x == some .cell, pn := [], xe := xe }
theorem inv_xe {X : Cx} {pins : List (Addr × Obj)} {σ : L2.St} {H : Hp} {s : Shared} (xe : Value → Shared → Prop) (I : Inv X pins σ H s) : Inv { X with xe := xe } pins σ H s :=
  ⟨⟨I.ok.mod, I.ok.kind, I.ok.glob, I.ok.blt, I.ok.above, I.ok.inj, I.ok.has, I.ok.cab, I.ok.hd, I.ok.frames, I.ok.stk, I.ok.exf, I.ok.bs, I.ok.bsz, I.ok.noex, I.ok.exfs, I.ok.funs, I.ok.frf⟩, I.os, I.bare, I.base, I.loc, I.cell, I.free, I.freeC, I.pin, I.hok, I.len⟩
/-- an error that flies through the block comes out of the comprehension -/
theorem takes_blk {X : Cx} {pins : List (Addr × Obj)} {σ : L2.St} {H : Hp} {s3 : Shared} {E : XK} {scope : Scope} {fp : List Addr} {ce : Env} {use : Option (Value → Sem Unit)} {Qf : Value → Shared → Prop} {acc : Value} {L : Addr}
    (hs : X.stack = X.env :: X.outer) (hf : X.env.frame = some L) (hL : L = X.env.locals) (tk : Takes X (fun c d _ H => E c d H)) (I3 : Inv X pins σ H s3) (hce : ce.frame = X.env.frame) (hC : ce.locals = s3.heap.objs.size)
    (hfp : ∀ b ∈ fp, (b ∈ X.ex ∨ X.s_0.heap.objs.size ≤ b) ∧ b ≠ X.env.locals ∧ (∀ x c, X.env.cells.lookup x = some c → c ≠ b) ∧ ∀ p ∈ X.pn ++ pins, p.1 ≠ b) :
    TakesF (blkX X s3 H scope ce fp (notedBy (model X.prog X.w) X.A ce fun e s' => cPost (model X.prog X.w) X.A X.xe use Qf acc ce (.error e) s')) (fun c d _ H => E c d H) := by
  rintro u t ⟨a, B, i, ps, τ, H5, c, d, rfl, I5, nb, up, fl, na, os, ag, w⟩
  have J : Inv X pins σ H5 i := I3.call' (ch := fp) I5.os I5.base I5.hok I5.bare hfp
  have nC : H5 ce.locals = none := I5.free
  have fC : FpOk X pins H5 ce.locals := hC ▸ I3.fpOk (Nat.le_refl _) (hC ▸ nC)
  obtain ⟨f0, f1, f2, f3, f4, f5⟩ := fC
  have cst : ce.locals ∉ frs X.stack := fun z => by
    rcases List.mem_cons.mp (J.stkSub _ z) with z | z
    · exact f1 z
    · exact f2 z
  have hfr : X.A.frames = some (X.env :: X.outer) := by rw [J.ok.frames, hs]
  obtain ⟨m, hn, _⟩ := I5.loc
  have hn : i.heap.Ns ce.locals m := hn
  have fl : HandSPX.FlyingZ B X.stack a (Zc c d) t.heap := fl
  have nb : ∀ b o, i.heap.get? b = some o → b ∉ frs X.stack → B.get? b = some o := nb
  rw [hs] at fl
  have key : ∀ h1, HandSPX.HeldZ B (X.env :: X.outer) a (Zc c d) L h1 → t.heap.UpToSlots h1 → cPost (model X.prog X.w) X.A X.xe use Qf acc ce (.error (.ref a)) { t with heap := h1 } := by
    rintro h1 ⟨k1, k2, k3, oe, vs, T, oT, ts, he, hz, hd, e1, hnT, hTe, hT, hdT, e3⟩ up1
    have n1 : h1.Ns ce.locals m := (up.trans up1).ns hn
    have nrec : ∀ b o ws, h1.get? b = some o → o.data = .fields ws → b ≠ ce.locals := by
      rintro b o ws hb hw rfl
      obtain ⟨o', es, ep, ho, hdd, _⟩ := n1
      rw [hb] at ho
      cases ho
      rw [hw] at hdd
      cases hdd
    have na' := nrec a oe vs he hd
    have nT := nrec T oT ts hT hdT
    refine ⟨m, n1, fun h2 sb => ?_⟩
    obtain ⟨B', b1, b2⟩ := restrict B fun b => decide (b ≠ ce.locals)
    obtain ⟨K, g1, g2⟩ := restrict i.heap fun b => decide (b ≠ ce.locals)
    have b1 : ∀ b, b ≠ ce.locals → B'.get? b = B.get? b := fun b hb => b1 b (decide_eq_true hb)
    have b2 : B'.get? ce.locals = none := b2 _ (by simp)
    have g1 : ∀ b, b ≠ ce.locals → K.get? b = i.heap.get? b := fun b hb => g1 b (decide_eq_true hb)
    have g2 : K.get? ce.locals = none := g2 _ (by simp)
    have bs : ∀ b, B.get? b = none → B'.get? b = none := fun b hb => by
      by_cases z : b = ce.locals
      · rw [z]; exact b2
      · exact (b1 b z).trans hb
    have J' : Inv X pins σ H5 { i with heap := K } := J.turned (t' := i.toks) (fun b o hb e => (g1 b hb).trans e) f0 f1 f3 f4 f5
    have held : HandSPX.HeldZ B' (X.env :: X.outer) a (Zc c d) L h2 := by
      refine ⟨fun b o e => ?_, bs a k2, frames_but (fun z => cst (by rw [hs]; exact z)) sb.2 bs k3, oe, vs, T, oT, ts, (sb.2 a na').trans he, hz, hd, e1, bs T hnT, hTe, (sb.2 T nT).trans hT, hdT, e3⟩
      have z : b ≠ ce.locals := fun z => by rw [z, b2] at e; cases e
      exact (sb.2 b z).trans (k1 b o ((b1 b z).symm.trans e))
    have up2 : Heap.UpToSlots K h2 := fun b o e hnf => by
      have z : b ≠ ce.locals := fun z => by rw [z, g2] at e; cases e
      obtain ⟨sl, q⟩ := (up.trans up1) b o ((g1 b z).symm.trans e) hnf
      exact ⟨sl, (sb.2 b z).trans q⟩
    have nb' : ∀ b o, K.get? b = some o → b ∉ frs X.stack → B'.get? b = some o := fun b o e hb => by
      have z : b ≠ ce.locals := fun z => by rw [z, g2] at e; cases e
      exact (b1 b z).trans (nb b o ((g1 b z).symm.trans e) hb)
    unfold PySem.passOn
    refine wpAny_bind (wpAny_field ((sb.2 a na').trans he) hd e1 ?_)
    rw [if_neg (by simp)]
    rw [hce, hf]
    refine wpAny_bind (HandSPX.setFlight_onZ (s := { t with heap := h2 }) held fun h3 hh up3 => wpAny_throw (tk _ _ ?_))
    exact ⟨a, B', _, pins, σ, H5, c, d, rfl, J', nb', up2.trans up3, .inr (.inr (by rw [hs, ← hL]; exact hh)), na, os, ag, w⟩
  show wpAny _ X.A (noteFrame (.ref a) ce) (fun _ s'' => cPost (model X.prog X.w) X.A X.xe use Qf acc ce (.error (.ref a)) s'') _ t
  have same : noteFrame (.ref a) ce = noteFrame (.ref a) X.env := by
    unfold noteFrame PySem.frameOf
    rw [hce]
  rw [same]
  exact HandSPX.looks_onZ Zc.steady hfr hf fl key
theorem ce_relabel {scope : Scope} {env : Env} {C : Addr} {cl : List (Str × Addr)} : (compEnvC scope cl C env).frame = env.frame ∧ (compEnvC scope cl C env).locals = C := ⟨rfl, rfl⟩
/-- a list comprehension whose element (and tests) may let errors out -/
theorem coreX {X : Cx} {pins : List (Addr × Obj)} {s : Shared} {σ : L2.St} {H : Hp} {Q : VK} {elt tg iter : Expr} {ifs : List Expr} {scope : Scope} {own : List (Str × Nat)} {pos pos' : Pos} {wi : TI} {g : TG} {tt : TT} {te : TE} {use : Option (Value → Sem Unit)} {Qf : Value → Shared → Prop} {E : XK} {L : Addr}
    (hst : X.stack = X.env :: X.outer) (hf : X.env.frame = some L) (hL : L = X.env.locals) (tk : Takes X (fun c d _ H => E c d H))
    (hc : X.calm = true) (hN : X.N.Nodup) (I : Inv X pins σ H s) (hi : PI X tg iter wi) (ok : BlkOk X.N X.env.scope scope own)
    (hg : ∀ s H C cl fp xe, TakesF (blkX X s H scope (compEnvC scope cl C X.env) fp xe) (fun c d _ H => E c d H) → PG (blkX X s H scope (compEnvC scope cl C X.env) fp xe) tg g)
    (ht : ∀ s H C cl fp xe, TakesF (blkX X s H scope (compEnvC scope cl C X.env) fp xe) (fun c d _ H => E c d H) → PTs (blkX X s H scope (compEnvC scope cl C X.env) fp xe) ifs tt)
    (he : ∀ s H C cl fp xe, TakesF (blkX X s H scope (compEnvC scope cl C X.env) fp xe) (fun c d _ H => E c d H) → PE (blkX X s H scope (compEnvC scope cl C X.env) fp xe) elt te)
    (hs : ∀ x, foldedSetIterable iter X.env x = pure x) (h : tLc wi g tt te (own.map (·.2)) σ H Q)
    (fin : ∀ D C t m G, Inv X pins σ G t → Q (.ref D) G → t.heap.Ns C m → FpOk X pins G C → compPost (model X.prog X.w) X.A X.xe use Qf (.ref D) C (.ok .next) t) :
    wpAny (model X.prog X.w) X.A (comprehension (.ListComp elt [⟨tg, iter, ifs, 0⟩] scope pos) scope X.env pos' (newList []) false (eval iter X.env) use) Qf X.xe s := by
  have free : ∀ y ∈ scope.names, y.2 = .free → ∃ c, X.env.cells.lookup y.1 = some c := fun y hy e => (ok.free y hy e).elim (fun k => I.ok.has _ (.inl k)) fun k => I.ok.has _ (.inr k)
  refine comprehension_X (use := use) rfl hs (closure_ok free) ok.kind (fun y hy e => by rw [ok.uniq y hy, e]) (thn (hi.run pins s σ H _ I h) fun xv t1 hx => thn hx fun itv t2 h2 => ?_)
  obtain ⟨it, fp, tn, J, H2, rfl, I2, T, st2, f2, q⟩ := h2
  refine wpAny_newObj_type (newEnv_comp ?_) (by show 0 ≤ sizeLine; decide)
  generalize hD : t2.heap.objs.size = D
  have hDn : H2 D = none := I2.hok.fresh (Nat.le_of_eq hD)
  obtain ⟨W, ⟨m0, w0⟩, turn⟩ := q D hDn
  generalize e3 : ({ t2 with heap := t2.heap.push { cls := .type "list", data := .seq ([] : List Value).toArray } } : Shared) = t3
  have I3 : Inv X pins σ (upd H2 D (.lst [])) t3 := by
    rw [← e3]
    refine I2.laid (t' := t2.toks) (fun b o e => Heap.get?_push_of_some _ e) (Nat.le_of_eq hD) ⟨Nat.zero_le _, [], 0, .nil, ?_⟩
    rw [← hD]
    exact Heap.get?_push_size _ rfl
  have p3 : t3.heap = t2.heap.push { cls := .type "list", data := .seq ([] : List Value).toArray } := by rw [← e3]
  have sz : ∀ b ∈ fp, b < t2.heap.objs.size := fun b hb => (T.obj _ _ st2 b hb).elim fun o e => Heap.lt_size e.1
  have f3 : ∀ b ∈ fp, FpOk X pins (upd H2 D (.lst [])) b ∧ b < t3.heap.objs.size := fun b hb => by
    have lt := sz b hb
    refine ⟨⟨?_, (f2 b hb).2⟩, by rw [p3, Heap.size_push]; exact Nat.lt_succ_of_lt lt⟩
    rw [upd_ne (by rw [← hD]; exact Nat.ne_of_lt lt)]
    exact (f2 b hb).1
  have st3 : tn 0 t3.heap := T.keep _ _ _ st2 fun b _ o e => by rw [p3]; exact Heap.get?_push_of_some _ e
  have I4 := block_start I3 ok hN f3
  show codeAny _ _ (.compStart (.ListComp elt [⟨tg, iter, ifs, 0⟩] scope pos) 0 (.ref it) (.ref D) (compEnvC scope (cellsFrom (t3.heap.objs.size + 1) scope.names (cloFrom X.env.cells scope.names [])) t3.heap.objs.size X.env)) (cPost (model X.prog X.w) X.A X.xe use Qf (.ref D) (compEnvC scope (cellsFrom (t3.heap.objs.size + 1) scope.names (cloFrom X.env.cells scope.names [])) t3.heap.objs.size X.env)) { t3 with heap := pushCells (t3.heap.push { cls := .type "dict", data := .dict #[] }) scope.names }
  have ufp : ∀ b ∈ fp, (b ∈ X.ex ∨ X.s_0.heap.objs.size ≤ b) ∧ b ≠ X.env.locals ∧ (∀ x c, X.env.cells.lookup x = some c → c ≠ b) ∧ ∀ p ∈ X.pn ++ pins, p.1 ≠ b := fun b hb => ⟨(f3 b hb).1.2.2.2.1, (f3 b hb).1.2.1, (f3 b hb).1.2.2.2.2.1, (f3 b hb).1.2.2.2.2.2⟩
  have tkb := takes_blk (scope := scope) (fp := fp) (ce := compEnvC scope (cellsFrom (t3.heap.objs.size + 1) scope.names (cloFrom X.env.cells scope.names [])) t3.heap.objs.size X.env) (use := use) (Qf := Qf) (acc := .ref D) hst hf hL tk I3 rfl rfl ufp
  have pg := hg t3 (upd H2 D (.lst [])) _ _ fp _ tkb
  have pt := ht t3 (upd H2 D (.lst [])) _ _ fp _ tkb
  have pe := he t3 (upd H2 D (.lst [])) _ _ fp _ tkb
  have nfp : ∀ b ∈ fp, (upd H2 D (.lst [])) b = none := fun b hb => (f3 b hb).1.1
  have I4 := inv_xe (notedBy (model X.prog X.w) X.A (compEnvC scope (cellsFrom (t3.heap.objs.size + 1) scope.names (cloFrom X.env.cells scope.names [])) t3.heap.objs.size X.env) fun e s' => cPost (model X.prog X.w) X.A X.xe use Qf (.ref D) (compEnvC scope (cellsFrom (t3.heap.objs.size + 1) scope.names (cloFrom X.env.cells scope.names [])) t3.heap.objs.size X.env) (.error e) s') I4
  generalize hce : compEnvC scope (cellsFrom (t3.heap.objs.size + 1) scope.names (cloFrom X.env.cells scope.names [])) t3.heap.objs.size X.env = ce at I4 pg pt pe ⊢
  have cL : ce.locals = t3.heap.objs.size := by subst hce; rfl
  generalize hH3 : upd H2 D (.lst []) = H3 at I3 I4 pg pt pe w0 nfp f3
  generalize hs4 : ({ t3 with heap := pushCells (t3.heap.push { cls := .type "dict", data := .dict #[] }) scope.names } : Shared) = t4 at I4 ⊢
  have st4 : tn 0 t4.heap := T.keep _ _ _ st3 fun b _ o e => by rw [← hs4]; exact pushCells_keeps _ _ _ _ (Heap.get?_push_of_some _ e)
  generalize hxe : (notedBy (model X.prog X.w) X.A ce fun e s' => cPost (model X.prog X.w) X.A X.xe use Qf (.ref D) ce (.error e) s') = xe at I4 pg pt pe
  have stat : ∀ {σ' : L2.St} {H' : Hp} {s' : Shared}, Inv (blkX X t3 H3 scope ce fp xe) [] σ' H' s' → (∀ b ∈ fp, H' b = none) → ∀ b ∈ fp, FpOk (blkX X t3 H3 scope ce fp xe) [] H' b := fun {σ' H' s'} I' hn b hb =>
    ⟨hn b hb, (I'.ok.exf b hb).1, I'.ok.exfs b hb, .inl hb, fun x c e => (I'.ok.exf b hb).2 x c e, fun p hp => absurd (show p ∈ ([] : List (Addr × Obj)) ++ [] from hp) (by simp)⟩
  have loop : codeAny (model X.prog X.w) X.A (.compLoop (.ListComp elt [⟨tg, iter, ifs, 0⟩] scope pos) 0 (.ref it) (.ref D) ce) (cPost (model X.prog X.w) X.A X.xe use Qf (.ref D) ce) t4 := by
    refine compLoop_any (fun n s' => ∃ i G, Inv (blkX X t3 H3 scope ce fp xe) [] (wipe σ (own.map (·.2))) G s' ∧ tn i s'.heap ∧ (∀ b ∈ fp, G b = none) ∧ W i n G) ?_ m0 ⟨0, H3, I4, st4, nfp, w0⟩
    rintro n t5 ⟨i, H5, I5, st5, n5, w5⟩
    rw [hxe]
    rcases turn i n H5 w5 with ⟨stop, qq⟩ | ⟨go, Nx, hNx, step⟩
    · refine thnF (T.done (blkX X t3 H3 scope ce fp xe) rfl rfl rfl hc i [] t5 _ H5 (fun _ _ => False) I5 (stat I5 n5) st5 stop) fun r t6 ⟨hr, I6⟩ => ?_
      subst hr
      have I7 : Inv X pins σ H5 t6 := I3.call' (ch := fp) I6.os I6.base I6.hok I6.bare ufp
      have nC : H5 t3.heap.objs.size = none := by
        have z : H5 ce.locals = none := I6.free
        rwa [cL] at z
      obtain ⟨m, hn, _⟩ := I6.loc
      have hn : t6.heap.Ns ce.locals m := hn
      rw [cL] at hn
      show compPost (model X.prog X.w) X.A X.xe use Qf (.ref D) ce.locals (.ok .next) t6
      rw [cL]
      exact fin D t3.heap.objs.size t6 m H5 I7 qq hn (I3.fpOk (Nat.le_refl _) nC)
    · refine thnF (T.item (blkX X t3 H3 scope ce fp xe) rfl rfl rfl hc i [] t5 _ H5 (fun _ _ => False) I5 (stat I5 n5) st5 go) fun r t6 ⟨u, hr, h6⟩ => ?_
      subst hr
      refine thnF h6 fun _ t7 ⟨x, H7, I7, r7, y7, st7, n7⟩ => ?_
      refine thn (pg.run _ t7 _ H7 x u _ (I7.pinned (stat I7 n7) (T.obj _ _ st7)) r7 (step x H7 y7)) fun _ t8 ⟨σ8, H8, I8, hw8, q8⟩ => ?_
      refine thn (pt.run _ t8 σ8 H8 _ I8 q8) fun b t9 ⟨H9, I9, q9⟩ => ?_
      have next : ∀ {s' : Shared} {H' : Hp}, Inv (blkX X t3 H3 scope ce fp xe) ([] ++ pinsAt fp t7.heap) σ8 H' s' → Nx H' → ∃ m, m < n ∧ ∃ i G, Inv (blkX X t3 H3 scope ce fp xe) [] (wipe σ (own.map (·.2))) G s' ∧ tn i s'.heap ∧ (∀ b ∈ fp, G b = none) ∧ W i m G := fun {s' H'} I' nx => by
        obtain ⟨m', hm, w'⟩ := hNx H' nx
        have pin' : ∀ b ∈ fp, ∀ o, t7.heap.get? b = some o → s'.heap.get? b = some o ∧ H' b = none := fun b hb o e =>
          let z := I'.pin (b, o) (List.mem_append_right _ (List.mem_append_right _ (mem_pinsAt hb e)))
          ⟨z.1, z.2.1⟩
        have hl : (wipe σ (own.map (·.2))).length = σ8.length := by rw [← hw8, wipe_length]
        refine ⟨m', hm, i + 1, H', (I'.unpinned (pins := [])).weak hl (fun j v e => ?_), T.keep _ _ _ st7 fun b hb o e => (pin' b hb o e).1, fun b hb => ?_, w'⟩
        · rw [← hw8] at e
          exact (wipe_some e).1
        · exact (T.obj _ _ st7 b hb).elim fun o e => (pin' b hb o e.1).2
      cases b with
      | true =>
        simp only [if_true] at q9 ⊢
        refine thn (pe.run _ t9 σ8 H9 _ I9 q9) fun z t10 ⟨yv, H10, I10, r10, acc, hD10, hz10, nx⟩ => ?_
        exact app_ok (X := blkX X t3 H3 scope ce fp xe) I10 hD10 hz10 r10 fun s11 I11 => next I11 nx
      | false =>
        simp only [Bool.false_eq_true, if_false] at q9 ⊢
        exact next I9 q9
  exact codeAny_compStart_list loop (T.self X.A 0 _ _ _ st4 loop)
section
variable {X : Cx} {E : XK} {L : Addr} {elt tg iter : Expr} {ifs : List Expr} {scope : Scope} {own : List (Str × Nat)} {pos : Pos} {wi : TI} {g : TG} {tt : TT} {te : TE}
theorem pe_lcX (hst : X.stack = X.env :: X.outer) (hf : X.env.frame = some L) (hL : L = X.env.locals) (tk : Takes X (fun c d _ H => E c d H))
    (hc : X.calm = true) (hN : X.N.Nodup) (hi : PI X tg iter wi) (ok : BlkOk X.N X.env.scope scope own)
    (hg : ∀ s H C cl fp xe, TakesF (blkX X s H scope (compEnvC scope cl C X.env) fp xe) (fun c d _ H => E c d H) → PG (blkX X s H scope (compEnvC scope cl C X.env) fp xe) tg g)
    (ht : ∀ s H C cl fp xe, TakesF (blkX X s H scope (compEnvC scope cl C X.env) fp xe) (fun c d _ H => E c d H) → PTs (blkX X s H scope (compEnvC scope cl C X.env) fp xe) ifs tt)
    (he : ∀ s H C cl fp xe, TakesF (blkX X s H scope (compEnvC scope cl C X.env) fp xe) (fun c d _ H => E c d H) → PE (blkX X s H scope (compEnvC scope cl C X.env) fp xe) elt te)
    (hs : ∀ x, foldedSetIterable iter X.env x = pure x := by intro _; rfl) : PE X (.ListComp elt [⟨tg, iter, ifs, 0⟩] scope pos) (tLc wi g tt te (own.map (·.2))) := by
  refine ⟨fun pins s σ H Q I h => ?_⟩
  rw [eval_ListComp]
  refine coreX hst hf hL tk hc hN I hi ok hg ht he hs h fun D C t m G I' q hn f => ⟨m, hn, fun h2 sb => ?_⟩
  obtain ⟨f0, f1, _, f3, f4, f5⟩ := f
  exact ⟨.ref D, G, I'.turned (t' := t.toks) (fun b o hb e => (sb.2 b hb).trans e) f0 f1 f3 f4 f5, rfl, q⟩
theorem ps_setLcX {i : Nat} {y : Str} {py spos : Pos} (hst : X.stack = X.env :: X.outer) (hf : X.env.frame = some L) (hL : L = X.env.locals) (tk : Takes X (fun c d _ H => E c d H))
    (hc : X.calm = true) (hN : X.N.Nodup) (hy : X.N[i]? = some y) (hyl : X.env.scope.names.lookup y = some .local) (hsw : swapsWith (.ListComp elt [⟨tg, iter, ifs, 0⟩] scope pos) (some (.Name y py)) spos.line X.env = pure true)
    (hi : PI X tg iter wi) (ok : BlkOk X.N X.env.scope scope own)
    (hg : ∀ s H C cl fp xe, TakesF (blkX X s H scope (compEnvC scope cl C X.env) fp xe) (fun c d _ H => E c d H) → PG (blkX X s H scope (compEnvC scope cl C X.env) fp xe) tg g)
    (ht : ∀ s H C cl fp xe, TakesF (blkX X s H scope (compEnvC scope cl C X.env) fp xe) (fun c d _ H => E c d H) → PTs (blkX X s H scope (compEnvC scope cl C X.env) fp xe) ifs tt)
    (he : ∀ s H C cl fp xe, TakesF (blkX X s H scope (compEnvC scope cl C X.env) fp xe) (fun c d _ H => E c d H) → PE (blkX X s H scope (compEnvC scope cl C X.env) fp xe) elt te)
    (hs : ∀ x, foldedSetIterable iter X.env x = pure x := by intro _; rfl) : PS X (.Assign [.Name y py] (.ListComp elt [⟨tg, iter, ifs, 0⟩] scope pos) spos) (tAsg (tLc wi g tt te (own.map (·.2))) (gName i)) := by
  refine ⟨fun pins s σ H D I h => ?_⟩
  rw [exec_Assign_Name_used _ _ _ _ hsw]
  refine wpAny_bind (wpAny_standAt (wpAny_bind ?_))
  show wpAny _ X.A (do let _ ← comprehension (.ListComp elt [⟨tg, iter, ifs, 0⟩] scope pos) scope X.env (firstIterPos [⟨tg, iter, ifs, 0⟩] pos) (newList []) false (eval iter X.env) (some (assign (.Name y py) X.env))) _ _ s
  have h : tLc wi g tt te (own.map (·.2)) σ H (fun x H1 => gName i x σ H1 D.nx) := h
  refine wpAny_bind (thn (coreX (Qf := fun _ t => SP X pins D .next t) hst hf hL tk hc hN I hi ok hg ht he hs h fun Z C t m G I' q hn f => ?_) fun _ t hq => wpAny_pure (wpAny_pure hq))
  show wpAny _ _ (assign (.Name y py) X.env (.ref Z)) _ _ _
  refine wpAny_assign_Name (store_ok2 (v := V.ref Z) I' hN hy (.inl hyl) rfl (fun s2 I2 ⟨a, sb, ha⟩ => ?_) (.inr hyl))
  obtain ⟨f0, f1, _, f3, f4, f5⟩ := f
  have ne : C ≠ a := by
    rcases ha with z | z
    · exact fun e => f1 (e.trans z)
    · exact fun e => f4 y a z e.symm
  exact ⟨m, hn.sameBut sb ne, fun h3 sb3 => ⟨_, G, I2.turned (t' := s2.toks) (fun b o hb e => (sb3.2 b hb).trans e) f0 f1 f3 f4 f5, q⟩⟩
end
end LX

set_option Elab.async false
set_option linter.all false
set_option maxRecDepth 100000
set_option maxHeartbeats 4000000
/-! .. over plain data; a def that may raise, called where it is known not to. -/
namespace DL
open PySem PySem.Spec PyProof.Rows L2 LX
/-- P while the list at p is being made, its errors going on -/
def Par.lcX (P : Par) (p : Addr) (acc : List V) (hp : P.F p = none) : Par where
  K := P.K
  F := lcF P.F p acc
  ts := P.ts
  tab := fun T hT => (P.tab T hT).elim fun ps h => ⟨ps, lcF_some h.1, h.2⟩
  pin := P.pin
  B0 := P.B0
  Ed := P.Ed
  E := P.E
  xok := fun C fs d fvs H' B' z e1 e2 e3 dj ok => P.xok C fs d fvs H' B' z e1 e2 (fun b o e => e3 b o (lcF_some e)) (fun b hb => dj b (by
    cases q : P.F b with
    | none => exact absurd q hb
    | some o => rw [lcF_some q]; exact nofun)) ok
section
variable {P : Par} {Bv : Hp} {Γ : Gm} {σ : L2.St} {H : Hp} {p : Addr} {acc acc' : List V} {hF : P.F p = none}
theorem En.toX (n : En (P.lc p acc) Bv Γ σ H) : En (P.lcX p acc hF) Bv Γ σ H := ⟨n.len, n.base, n.sub, n.frm, n.dj, n.dat, n.own, n.inj, n.pin, n.hf⟩
theorem En.ofX (n : En (P.lcX p acc hF) Bv Γ σ H) : En (P.lc p acc) Bv Γ σ H := ⟨n.len, n.base, n.sub, n.frm, n.dj, n.dat, n.own, n.inj, n.pin, n.hf⟩
end
def dLcRX (xd : Xd) (G : DG) (tt : DT) (A : DE) (vs : List Nat) (K : List D → Gm → Prop) : List D → List D → Gm → Prop
  | [], acc, Γ => K acc Γ
  | x :: r, acc, Γ => ∃ Γ1, G x Γ = some Γ1 ∧ tt xd Γ1 fun q Γ2 => if q = true then A xd Γ2 fun w Γ3 => ∃ d Γ4, fix Γ3 w = some (d, Γ4) ∧ okW Γ4 vs = true ∧ dLcRX xd G tt A vs K r (acc ++ [d]) (wipeG Γ4 vs) else okW Γ2 vs = true ∧ dLcRX xd G tt A vs K r acc (wipeG Γ2 vs)
def dLcX (I : DI) (G : DG) (tt : DT) (A : DE) (vs : List Nat) : DO := fun xd Γ Q => I xd Γ fun xs Γ1 => okW Γ1 vs = true ∧ xs.length ≤ 100000 ∧ dLcRX xd G tt A vs Q xs [] (wipeG Γ1 vs)
theorem lo_lcX {P : Par} {wi : TI} {I : DI} {g : TG} {G : DG} {ix : List Nat} {tt : TT} {tD : DT} {te : TE} {A : DE} {vs : List Nat} (hi : LI P wi I) (hg : ∀ p acc hp, LG (P.lcX p acc hp) g G ix) (ht : ∀ p acc hp, LT (P.lcX p acc hp) tt tD) (he : ∀ p acc hp, LE (P.lcX p acc hp) te A) (hix : ∀ i ∈ ix, i ∈ vs) : LO P (tLc wi g tt te vs) (dLcX I G tD A vs) := by
  intro Bv Γ σ H Qd Q n h k
  refine hi Bv Γ σ H _ _ n h fun xs Γ1 J H1 B1 e1 n1 it h1 => ?_
  obtain ⟨hw, hx, h1⟩ := h1
  intro p hp
  obtain ⟨pF, pB, pO⟩ := n1.noAt hp
  have n1' : En P B1 Γ1 σ (upd H1 p (.lst [])) := n1.grow (Grow.hid n1.sub hp)
  have n2 : En (P.lc p []) B1 (wipeG Γ1 vs) (wipe σ vs) (upd H1 p (.lst [])) := (n1'.lc pF upd_same pB pO (n1.nhAt hp)).wipe hw (wipe_length σ vs) fun j hj => wipe_get hj
  refine ⟨fun i m H' => m = xs.length - i ∧ i ≤ xs.length ∧ ∃ B' Γ' acc ds, Ex B1 B' ∧ En (P.lc p acc) B' Γ' (wipe σ vs) H' ∧ RpL P.K B' acc ds ∧ acc.length ≤ i ∧ (∀ (j : Nat) (s : Sl), j ∈ vs → Γ'[j]? = some s → s = .non) ∧ dLcRX P.Ed G tD A vs Qd (xs.drop i) ds Γ', ⟨_, rfl, Nat.zero_le _, B1, _, [], [], Ex.refl _, n2, .nil, Nat.le_refl _, fun j s hj hs => (wipeG_get hs).resolve_right fun z => z.1 hj, h1⟩, ?_⟩
  rintro i m H' ⟨rfl, hle, B', Γ', acc, ds, e2, n3, ra, hal, hnon, h3⟩
  by_cases hlt : i < xs.length
  · refine .inr ⟨it.go B' H' e2 n3.sub i hlt, fun H5 => ∃ B' Γ' acc ds, Ex B1 B' ∧ En (P.lc p acc) B' Γ' (wipe σ vs) H5 ∧ RpL P.K B' acc ds ∧ acc.length ≤ i + 1 ∧ (∀ (j : Nat) (s : Sl), j ∈ vs → Γ'[j]? = some s → s = .non) ∧ dLcRX P.Ed G tD A vs Qd (xs.drop (i + 1)) ds Γ', fun H5 z => ⟨xs.length - (i + 1), by omega, rfl, hlt, z⟩, fun x H4 y => ?_⟩
    obtain ⟨B4, d, hd, gr, rp⟩ := it.yld B' H' e2 n3.sub i x H4 hlt y
    have hdrop : xs.drop i = d :: xs.drop (i + 1) := by
      obtain ⟨hl, e⟩ := List.getElem?_eq_some_iff.mp hd
      rw [List.drop_eq_getElem_cons hl, e]
    rw [hdrop] at h3
    obtain ⟨Γ4, q4, h4⟩ := h3
    refine hg p acc pF B4 Γ' (wipe σ vs) H4 x d Γ4 _ (En.toX (n3.grow gr)) rp q4 fun σ2 n4 w4 => ?_
    have w5 : wipe σ2 vs = wipe σ vs := (w4 vs hix).trans wipe_wipe
    refine ⟨w5, ?_⟩
    have hlen : (wipe σ vs).length = σ2.length := by rw [← w5, wipe_length]
    have hoth : ∀ j, j ∉ vs → (wipe σ vs)[j]? = σ2[j]? := fun j hj => by rw [← w5, wipe_get hj]
    refine ht p acc pF B4 Γ4 σ2 H4 _ _ n4 h4 fun q Γ5 H5 B5 e5 n5 h5 => ?_
    have e5' : Ex B' B5 := gr.vis.trans e5
    cases q with
    | true =>
      have h5' : A P.Ed Γ5 fun w Γ3 => ∃ d Γ4, fix Γ3 w = some (d, Γ4) ∧ okW Γ4 vs = true ∧ dLcRX P.Ed G tD A vs Qd (xs.drop (i + 1)) (ds ++ [d]) (wipeG Γ4 vs) := h5
      show te σ2 H5 _
      refine he p acc pF B5 Γ5 σ2 H5 _ _ n5 h5' fun w Γ6 v H6 B6 e6 n6 r6 h6 => ?_
      obtain ⟨d6, Γ7, f6, hw6, h7⟩ := h6
      obtain ⟨B7, e7, n7, r7⟩ := n6.fixed r6 f6
      have n7 := n7.ofX
      have g7 : H6 p = some (.lst acc) := n7.frm.lst (lcF_same pF)
      have ee : Ex B' B7 := (e5'.trans e6).trans e7
      refine ⟨acc, g7, Evl.sz_lt (by omega), B7, wipeG Γ7 vs, acc ++ [v], ds ++ [d6], e2.trans ee, (n7.lcMore pF).wipe hw6 hlen hoth, (ra.mono ee).app (.one r7), ?_, fun j s hj hs => (wipeG_get hs).resolve_right fun z => z.1 hj, h7⟩
      rw [List.length_append, List.length_singleton]
      omega
    | false =>
      obtain ⟨hw5, h6⟩ : okW Γ5 vs = true ∧ dLcRX P.Ed G tD A vs Qd (xs.drop (i + 1)) ds (wipeG Γ5 vs) := h5
      exact ⟨B5, wipeG Γ5 vs, acc, ds, e2.trans e5', n5.ofX.wipe hw5 hlen hoth, ra.mono e5', by omega, fun j s hj hs => (wipeG_get hs).resolve_right fun z => z.1 hj, h6⟩
  · have e : i = xs.length := by omega
    subst e
    rw [List.drop_length] at h3
    have n4 : En (P.lc p acc) B' Γ' σ H' := n3.slots (wipe_length σ vs).symm fun j s hj hs => by
      by_cases q : j ∈ vs
      · exact absurd (hnon j s q hj) hs
      · rw [wipe_get q]
    obtain ⟨n5, z⟩ := n4.lcEnd pF ra
    exact .inl ⟨it.stop B' H' e2 n3.sub, k ds Γ' p acc H' B' (e1.trans e2) n5 z h3⟩
/-- the blocks of a comprehension, errors let out -/
def Fam.blkX (F : Fam) (E : XK) (scope : Scope) : Fam where
  ι := { z : F.ι × Shared × Hp × Addr × List (Str × Addr) × List Addr × (Value → Shared → Prop) // TakesF (LX.blkX (F.X z.1) z.2.1 z.2.2.1 scope (compEnvC scope z.2.2.2.2.1 z.2.2.2.1 (F.X z.1).env) z.2.2.2.2.2.1 z.2.2.2.2.2.2) (fun c d _ H => E c d H) }
  X := fun z => LX.blkX (F.X z.1.1) z.1.2.1 z.1.2.2.1 scope (compEnvC scope z.1.2.2.2.2.1 z.1.2.2.2.1 (F.X z.1.1).env) z.1.2.2.2.2.2.1 z.1.2.2.2.2.2.2
  K := F.K
  k := fun z => F.k z.1.1
  ts := F.ts
section
variable {F : Fam} {E : XK} {elt tg iter : Expr} {ifs : List Expr} {scope : Scope} {pos : Pos} {I : DI} {G : DG} {ix : List Nat} {tD : DT} {A : DE}
theorem pdo_lcX (own : List (Str × Nat)) (hst : ∀ j, (F.X j).stack = (F.X j).env :: (F.X j).outer) (hfr : ∀ j, (F.X j).env.frame = some (F.X j).env.locals) (tk : ∀ j, Takes (F.X j) (fun c d _ H => E c d H)) (hc : ∀ j, (F.X j).calm = true) (hN : ∀ j, (F.X j).N.Nodup) (hi : PDI F E tg iter I) (ok : ∀ j, BlkOk (F.X j).N (F.X j).env.scope scope own)
    (hg : PDG (F.blkX E scope) tg G ix) (ht : PDTs (F.blkX E scope) E ifs tD) (he : PD (F.blkX E scope) E elt A)
    (hix : ∀ i ∈ ix, i ∈ own.map (·.2) := by decide) (hs : ∀ j x, foldedSetIterable iter (F.X j).env x = pure x := by intro _ _; rfl) : PDO F E (.ListComp elt [⟨tg, iter, ifs, 0⟩] scope pos) (dLcX I G tD A (own.map (·.2))) :=
  let ⟨_, p1, l1⟩ := hi; let ⟨_, p2, l2⟩ := hg; let ⟨_, p3, l3⟩ := ht; let ⟨_, p4, l4⟩ := he
  ⟨_, fun j => pe_lcX (hst j) (hfr j) rfl (tk j) (hc j) (hN j) (p1 j) (ok j) (fun s H C cl fp xe t => p2 ⟨(j, s, H, C, cl, fp, xe), t⟩) (fun s H C cl fp xe t => p3 ⟨(j, s, H, C, cl, fp, xe), t⟩) (fun s H C cl fp xe t => p4 ⟨(j, s, H, C, cl, fp, xe), t⟩) (hs j),
    fun P hK hE => lo_lcX (l1 P hK hE) (fun p acc hp => l2 (P.lcX p acc hp) hK) (fun p acc hp => l3 (P.lcX p acc hp) hK hE) (fun p acc hp => l4 (P.lcX p acc hp) hK hE) hix⟩
theorem pd_setLcX (i : Nat) (own : List (Str × Nat)) {y : Str} {py spos : Pos} (hst : ∀ j, (F.X j).stack = (F.X j).env :: (F.X j).outer) (hfr : ∀ j, (F.X j).env.frame = some (F.X j).env.locals) (tk : ∀ j, Takes (F.X j) (fun c d _ H => E c d H)) (hc : ∀ j, (F.X j).calm = true) (hN : ∀ j, (F.X j).N.Nodup) (hi : PDI F E tg iter I)
    (hsw : ∀ j, swapsWith (.ListComp elt [⟨tg, iter, ifs, 0⟩] scope pos) (some (.Name y py)) spos.line (F.X j).env = pure true) (ok : ∀ j, BlkOk (F.X j).N (F.X j).env.scope scope own)
    (hg : PDG (F.blkX E scope) tg G ix) (ht : PDTs (F.blkX E scope) E ifs tD) (he : PD (F.blkX E scope) E elt A)
    (hy : ∀ j, (F.X j).N[i]? = some y := by intro _; rfl) (hyl : ∀ j, (F.X j).env.scope.names.lookup y = some .local := by intro _; rfl)
    (hix : ∀ i ∈ ix, i ∈ own.map (·.2) := by decide) (hs : ∀ j x, foldedSetIterable iter (F.X j).env x = pure x := by intro _ _; rfl) : PDS F E (.Assign [.Name y py] (.ListComp elt [⟨tg, iter, ifs, 0⟩] scope pos) spos) (dAsgO i (dLcX I G tD A (own.map (·.2)))) :=
  let ⟨_, p1, l1⟩ := hi; let ⟨_, p2, l2⟩ := hg; let ⟨_, p3, l3⟩ := ht; let ⟨_, p4, l4⟩ := he
  ⟨_, fun j => ps_setLcX (hst j) (hfr j) rfl (tk j) (hc j) (hN j) (hy j) (hyl j) (hsw j) (p1 j) (ok j) (fun s H C cl fp xe t => p2 ⟨(j, s, H, C, cl, fp, xe), t⟩) (fun s H C cl fp xe t => p3 ⟨(j, s, H, C, cl, fp, xe), t⟩) (fun s H C cl fp xe t => p4 ⟨(j, s, H, C, cl, fp, xe), t⟩) (hs j),
    fun P hK hE => ls_asgO (lo_lcX (l1 P hK hE) (fun p acc hp => l2 (P.lcX p acc hp) hK) (fun p acc hp => l3 (P.lcX p acc hp) hK hE) (fun p acc hp => l4 (P.lcX p acc hp) hK hE) hix)⟩
end
section
variable {F : Fam} {E : XK} {e : Expr} {es : List Expr} {R : DA} {pos p : Pos} {x : Str} {k : Nat} {ps : List Str} {sd : Sd}
/-- a call that may raise, in a comprehension's block -/
theorem pd_callXF (hD : ∀ j, DnX (F.X j).prog (F.X j).w (F.X j).K (F.X j).mg (F.X j).base x k ps (spD (F.X j).K F.ts sd)) (hm : ∀ ds Q Q' E E', (∀ r, Q r → Q' r) → (∀ C fs, E C fs → E' C fs) → sd ds Q E → sd ds Q' E') (hr : ∀ j, Room k (F.X j).A) (tk : ∀ j, TakesF (F.X j) (fun cls d _ H => E cls d H))
    (ha : PDA F E (e :: es) R) (hg : ∀ j, Gl (F.X j) x := by intro _; rfl) (hdb : (x == ("__debug__" : Str)) = false := by decide) (he : ∀ j, starEach (e :: es) (F.X j).env = (false, eval e (F.X j).env) :: starEach es (F.X j).env := by intro _; rfl) (hpl : ∀ j, (backTo pos (starEach es (F.X j).env)).any (·.1) = false := by intro _; rfl) :
    PD F E (.Call (.Name x p) (e :: es) [] pos) (dCallX sd R) :=
  let ⟨t, pa, la⟩ := ha
  ⟨tCallS (spD F.K F.ts sd) (fun _ => E) t, fun j => by
    obtain ⟨f, fd, G, hmg, hk, hb⟩ := (hD j).ex
    exact F.k j ▸ pe_callS G (hr j) (hg j) hmg hk hb (fun σ => passAtF (tk j) σ) (pa j) hdb (he j) (hpl j), fun P hK hE => by
      have q := le_callX (P := P) hm (la P hK hE)
      rw [hK, hE.1, hE.2] at q
      exact q⟩
/-- .. where it is known not to raise -/
def dCallY (sd : Sd) (R : DA) : DE := fun xd Γ Q => R xd Γ fun ws Γ1 => ∃ ds Γ2, fixL Γ1 ws = some (ds, Γ2) ∧ sd ds (fun r => Q (.dat r) Γ2) no
theorem passNo {X : Cx} (σ : L2.St) : PassesAt (L2.CX X.prog X.w) X σ E0 := fun _ _ _ e s' I c => by
  obtain ⟨_, _, _, _, _, _, _, _, _, _, _, _, z⟩ := c
  exact z.elim
theorem pd_callY (hD : ∀ j, DnX (F.X j).prog (F.X j).w (F.X j).K (F.X j).mg (F.X j).base x k ps (spD (F.X j).K F.ts sd)) (hm : ∀ ds Q Q' E E', (∀ r, Q r → Q' r) → (∀ C fs, E C fs → E' C fs) → sd ds Q E → sd ds Q' E') (hr : ∀ j, Room k (F.X j).A)
    (ha : PDA F E (e :: es) R) (hg : ∀ j, Gl (F.X j) x := by intro _; rfl) (hdb : (x == ("__debug__" : Str)) = false := by decide) (he : ∀ j, starEach (e :: es) (F.X j).env = (false, eval e (F.X j).env) :: starEach es (F.X j).env := by intro _; rfl) (hpl : ∀ j, (backTo pos (starEach es (F.X j).env)).any (·.1) = false := by intro _; rfl) :
    PD F E (.Call (.Name x p) (e :: es) [] pos) (dCallY sd R) :=
  let ⟨t, pa, la⟩ := ha
  ⟨tCallS (spD F.K F.ts sd) (fun _ => E0) t, fun j => by
    obtain ⟨f, fd, G, hmg, hk, hb⟩ := (hD j).ex
    exact F.k j ▸ pe_callS G (hr j) (hg j) hmg hk hb (fun σ => passNo σ) (pa j) hdb (he j) (hpl j), fun P hK hE Bv Γ σ H Qd Q n h kk => by
      refine la P hK hE Bv Γ σ H _ _ n h fun ws Γ1 vs H1 B1 e1 n1 r1 h1 => ?_
      obtain ⟨ds, Γ2, f, h1⟩ := h1
      obtain ⟨B2, e2, n2, r2⟩ := n1.fixedL r1 f
      rw [← hK, ← hE.2]
      exact ⟨ds, hidF P Γ2 σ H1, B2, hidF_tab n2, r2, n2.sub, hidF_ex n2, hidF_dj n2, hm _ _ _ _ _ (fun r q v H' B' x1 x2 x3 x4 rp => finD kk ((e1.trans e2).trans x1) (n2.called x1 x2 x3 x4) rp q) (fun C fs z => z.elim) h1⟩⟩
end
/-! reading -/
theorem dLcRX_by {xd : Xd} {G : DG} {tt : DT} {A : DE} {vs : List Nat} {K : List D → Gm → Prop} (I : List D → List D → Gm → Prop) (h0 : ∀ acc Γ, I [] acc Γ → K acc Γ)
    (hs : ∀ x r acc Γ, I (x :: r) acc Γ → ∃ Γ1, G x Γ = some Γ1 ∧ ∀ L : List D → Gm → Prop, (∀ acc Γ, I r acc Γ → L acc Γ) → tt xd Γ1 fun q Γ2 => if q = true then A xd Γ2 fun w Γ3 => ∃ d Γ4, fix Γ3 w = some (d, Γ4) ∧ okW Γ4 vs = true ∧ L (acc ++ [d]) (wipeG Γ4 vs) else okW Γ2 vs = true ∧ L acc (wipeG Γ2 vs)) :
    ∀ xs acc Γ, I xs acc Γ → dLcRX xd G tt A vs K xs acc Γ
  | [], acc, Γ, h => h0 acc Γ h
  | x :: r, acc, Γ, h => by
    obtain ⟨Γ1, h1, h2⟩ := hs x r acc Γ h
    exact ⟨Γ1, h1, h2 _ fun acc Γ q => dLcRX_by I h0 hs r acc Γ q⟩
end DL

set_option Elab.async false
set_option linter.all false
set_option maxRecDepth 100000
set_option maxHeartbeats 4000000
/-! str of an int or a text; text + text; a part of a text. -/
namespace DL
open PySem PySem.Spec PyProof.Rows L2
section
variable {F : Fam} {E : XK} {a e b : Expr} {A B : DE} {R : DA} {pos p p2 : Pos}
/-- the sign of an int -/
abbrev strI (i : Int) : Str := ((toString i : String) : Str)
def rdStrI : D1 := fun Γ ws Q => (∃ i : Int, ws = [.dat (.int i)] ∧ i.natAbs.log2 < 1920 ∧ Q (.dat (.str (strI i))) Γ) ∨ ∃ s, ws = [.dat (.str s)] ∧ Q (.dat (.str s)) Γ
theorem call_strB {X : Cx} : CallR X (.type "str") (fun xs H Q => (∃ i, xs = [.int i] ∧ i.natAbs.log2 < 1920 ∧ Q (.str (toString i)) H) ∨ ∃ s, xs = [.str s] ∧ Q (.str s) H) := by
  rintro pins s σ H xs us Q I r (h | h)
  · exact call_str_int pins s σ H xs us Q I r h
  · exact SkE.call_str_str pins s σ H xs us Q I r h
theorem pd_strOf (hg : ∀ j, Gl (F.X j) "str") (hm : ∀ j, (F.X j).mg "str" = none) (ha : PDA F E [a] R) (he : ∀ j, starEach [a] (F.X j).env = (false, eval a (F.X j).env) :: starEach [] (F.X j).env := by intro _; rfl) : PD F E (.Call (.Name "str" p) [a] [] pos) (dCB rdStrI R) :=
  pd_callTy (fun j => call_strB) (fun P hK => by
    intro Bv Γ σ H vs ws Qd Q n r h k
    rcases h with ⟨i, rfl, hl, h⟩ | ⟨s, rfl, h⟩
    · obtain ⟨v, rfl, rr⟩ := r.one
      cases rr
      exact .inl ⟨i, rfl, hl, finD k (Ex.refl _) n (.str _) h⟩
    · obtain ⟨v, rfl, rr⟩ := r.one
      cases rr
      exact .inr ⟨s, rfl, finD k (Ex.refl _) n (.str _) h⟩) hg hm (by decide +kernel) ha (by decide) (by decide) he
def rdCatS : D2 := fun Γ x y Q => ∃ s t, x = .dat (.str s) ∧ y = .dat (.str t) ∧ s.length + t.length ≤ 90000 ∧ Q (.dat (.str (s ++ t))) Γ
theorem pd_catS (ha : PD F E a A) (hb : PD F E b B) : PD F E (.BinOp a .Add b pos) (dOp rdCatS A B) :=
  pd_op (fun _ => op_add_str) (fun _ _ => by
    intro Bv Γ σ H x y wx wy Qd Q n rx ry h k
    obtain ⟨s, t, rfl, rfl, hl, h⟩ := h
    cases rx
    cases ry
    exact ⟨s, t, rfl, rfl, by rw [sizeLine_eq]; omega, finD k (Ex.refl _) n (.str _) h⟩) ha hb
theorem rl_neS {P : Par} : RL P rNe rdNeS := by
  intro Bv Γ σ H x y wx wy Qd Q n rx ry h k
  obtain ⟨s, t, hd, he, h⟩ := h
  have ex := n.full rx hd
  have ey := n.full ry he
  cases ex
  cases ey
  have e : (!decide (V.str s = V.str t)) = !decide (s = t) := by congr 1; rw [Bool.eq_iff_iff]; simp
  refine ⟨rfl, ?_⟩
  rw [e]
  exact finD k (Ex.refl _) n (.bl _) h
theorem pdt_neS (ha : PD F E a A) (hb : PD F E b B) : PDT F E (.Compare a [.NotEq] [b] pos) (dB (dOp rdNeS A B)) := pdt_cmp2 (fun _ => op_ne) (fun _ _ => rl_neS) ha hb
variable {lo hi : Option Expr} {L U : DP}
def dSlS (A : DE) (L U : DP) : DE := fun xd Γ Q => A xd Γ fun w Γ1 => L xd Γ1 fun lo Γ2 => U xd Γ2 fun hi Γ3 => ∃ z, w = .dat (.str z) ∧ z.length ≤ 90000 ∧ Q (.dat (.str (L2.cutS z lo hi))) Γ3
theorem pd_sliceS (ha : PD F E a A) (hl : PDP F E lo L) (hu : PDP F E hi U) : PD F E (.Subscript a (.Slice lo hi none p2) pos) (dSlS A L U) :=
  let ⟨_, pa, la⟩ := ha; let ⟨_, pl, ll⟩ := hl; let ⟨_, pu, lu⟩ := hu
  ⟨_, fun j => pe_slice (r := rSlS) sl_str (pa j) (pl j) (pu j), fun P hK hE Bv Γ σ H Qd Q n h k => by
    refine la P hK hE Bv Γ σ H _ _ n h fun w Γ1 v H1 B1 e1 n1 r1 h1 => ll P hK hE B1 Γ1 σ H1 _ _ n1 h1 fun lo Γ2 H2 B2 e2 n2 h2 => lu P hK hE B2 Γ2 σ H2 _ _ n2 h2 fun hi Γ3 H3 B3 e3 n3 h3 => ?_
    obtain ⟨z, rfl, hz, h3⟩ := h3
    cases r1
    exact ⟨z, rfl, by rw [sizeLine_eq]; omega, finD k ((e1.trans e2).trans e3) n3 (.str _) h3⟩⟩
end
end DL

set_option Elab.async false
set_option linter.all false
set_option maxRecDepth 100000
set_option maxHeartbeats 4000000
/-! sorted of nested data, of any length -/
namespace DL
open PySem PySem.Spec PyProof.Rows L2 PySem.W
/-- a <= b, as Python orders alike data -/
def leD (a b : D) : Bool := !dataLt (toPy b) (toPy a)
def AlikeL (l : List D) : Prop := ∀ a ∈ l, ∀ b ∈ l, alike (toPy a) (toPy b) = true
def TupsL (l : List D) : Prop := ∀ d ∈ l, ∃ x r, d = .tup (x :: r)
def rSortN (K : PySem.W.Frag) : List V → Hp → VK → Prop := fun vs H Q => ∃ (a : Addr) (zs : List (V × D)), vs = [V.ref a] ∧ SqL K H a (zs.map (·.1)) ∧ zs.length ≤ sizeLine ∧ (∀ z ∈ zs, Dp K H z.1 (toPy z.2)) ∧ AlikeL (zs.map (·.2)) ∧ TupsL (zs.map (·.2)) ∧ (∀ z ∈ zs, dep z.2 ≤ 60) ∧
  ∀ p : Addr, H p = none → Q (.ref p) (upd H p (.lst ((zs.mergeSort fun x y => leD x.2 y.2).map (·.1))))
section
variable {X : Cx}
theorem each_vals : ∀ {us : List Value} {zs : List (V × D)}, Vals (zs.map (·.1)) us → EachIs (fun (u : Value) (z : V × D) => RelV z.1 u) us zs
  | [], [], _ => .nil
  | u :: us, z :: zs, h => by
    rw [List.map_cons] at h
    cases h with
    | cons h1 h2 => exact .cons h1 (each_vals h2)
  | [], _ :: _, h => by cases h
  | _ :: _, [], h => by cases h
theorem vals_each {us : List Value} {zs : List (V × D)} (h : EachIs (fun (u : Value) (z : V × D) => RelV z.1 u) us zs) : Vals (zs.map (·.1)) us := by
  induction h with
  | nil => exact .nil
  | cons h _ ih => exact .cons h ih
theorem each_mono_mem {α β : Type} {R R' : α → β → Prop} : ∀ {as : List α} {bs : List β}, EachIs R as bs → (∀ a b, b ∈ bs → R a b → R' a b) → EachIs R' as bs
  | _, _, .nil, _ => .nil
  | _, _, .cons h t, m => .cons (m _ _ List.mem_cons_self h) (each_mono_mem t fun a b hb => m a b (List.mem_cons_of_mem _ hb))
theorem each_map {α β γ : Type} {R : α → γ → Prop} (f : β → γ) : ∀ {as : List α} {bs : List β}, EachIs (fun a b => R a (f b)) as bs → EachIs R as (bs.map f)
  | _, _, .nil => .nil
  | _, _, .cons h t => .cons h (each_map f t)
theorem cr_sortN (hu : X.A.units + 64 < cLine) : CallR X (.builtin "sorted") (rSortN X.K) := by
  intro pins s σ H vs us Q I r h
  obtain ⟨a, zs, rfl, hs, hL, hd, hal, ht, hdp, q⟩ := h
  obtain ⟨its, rv, hl, hz⟩ := I.list hs
  rw [Vals.ref1 r]
  have ev := each_vals rv
  have hlen : its.length = zs.length := ev.length
  have hl' : s.heap.IsList _ its.toArray := hl.isList
  let ps : List PyData := zs.map fun z => toPy z.2
  -- what the sort sees
  let h2 := sortingHeap (copyHeap s.heap its) (s.heap.objs.size + 1) its
  have old : ∀ b o, s.heap.get? b = some o → h2.get? b = some o := fun b o e => sorting_copy_old e
  have e1 : EachIs (fun (u : Value) (z : V × D) => ∃ as, Reads h2 u (toPy z.2) as) its zs := each_mono_mem ev fun u z hzm rr => by
    obtain ⟨as, h⟩ := Dp.reads I (toPy z.2) z.1 u (hd z hzm) rr
    exact ⟨as, Reads.keeps old h⟩
  have hal' : AllAlike ps := fun d h1 d' h1' => by
    obtain ⟨z, m, rfl⟩ := List.mem_map.mp h1
    obtain ⟨z', m', rfl⟩ := List.mem_map.mp h1'
    exact hal _ (List.mem_map.mpr ⟨z, m, rfl⟩) _ (List.mem_map.mpr ⟨z', m', rfl⟩)
  have hso : Sortable ps := .inl fun d h1 => by
    obtain ⟨z, m, rfl⟩ := List.mem_map.mp h1
    obtain ⟨x, r, e⟩ := ht z.2 (List.mem_map.mpr ⟨z, m, rfl⟩)
    exact ⟨toPy x, toPyL r, by rw [e]; simp only [toPy, toPyL]⟩
  have S : SortsAt X.prog X.w X.A.in1.in1 { s with heap := h2 } (dataKind h2 ps) its := SortsAt.data (s := { s with heap := h2 }) (each_map (fun z : V × D => toPy z.2) e1) hal' hso fun d h1 => by
    obtain ⟨z, m, rfl⟩ := List.mem_map.mp h1
    have e := toPy_dep z.2
    have b := hdp z m
    have u1 : X.A.in1.in1.units ≤ X.A.units + 2 := Nat.le_refl _
    omega
  have so := sortVals_each (κ := dataKind h2 ps) (rev := false) (R := fun (u : Value) (z : V × D) => RelV z.1 u) (fun z => keyToks (toPy z.2)) ev (each_mono_mem e1 fun u z hzm ⟨as, h⟩ => dataKind_some hal' (List.mem_map.mpr ⟨z, hzm, rfl⟩) h)
  refine sorted_vals (κ := dataKind h2 ps) hl' S (by rw [hlen]; exact hL) ?_
  obtain ⟨ep, he⟩ := PyProof.Rows.sortedAll_at s.heap its (sortVals (dataKind h2 ps) false its its).toArray
  refine ⟨.ref (s.heap.objs.size + 1), upd H (s.heap.objs.size + 1) (.lst ((zs.mergeSort fun x y => leD x.2 y.2).map (·.1))), I.laid (t' := s.toks) (fun _ _ => PyProof.Rows.sortedAll_old) (Nat.le_succ _) ⟨?_, _, ep, vals_each so, he⟩, rfl, q _ (I.hok.fresh (Nat.le_succ _))⟩
  rw [List.length_map, (List.mergeSort_perm _ _).length_eq]
  exact hL
end
end DL
namespace DL
open PySem PySem.Spec PyProof.Rows L2 PySem.W
def rdSortN : Gm → List Wv → (List D → Gm → Prop) → Prop := fun Γ ws Q => ∃ (w : Wv) (ds : List D), ws = [w] ∧ asD Γ w = some (.lst ds) ∧ ds.length ≤ 16777216 ∧ plainL ds = true ∧ AlikeL ds ∧ TupsL ds ∧ (∀ d ∈ ds, dep d ≤ 60) ∧ Q (ds.mergeSort leD) Γ
theorem rpl_zip {K : PySem.W.Frag} {B : Hp} : ∀ {us : List V} {ds : List D}, RpL K B us ds → ∀ z ∈ us.zip ds, Rp K B z.1 z.2
  | _, _, .nil, z, h => by cases h
  | _, _, .cons h t, z, hz => by
    rcases List.mem_cons.mp hz with rfl | hz
    · exact h
    · exact rpl_zip t z hz
theorem rpl_of {K : PySem.W.Frag} {B : Hp} : ∀ {zs : List (V × D)}, (∀ z ∈ zs, Rp K B z.1 z.2) → RpL K B (zs.map (·.1)) (zs.map (·.2))
  | [], _ => .nil
  | z :: zs, h => .cons (h z List.mem_cons_self) (rpl_of fun y hy => h y (List.mem_cons_of_mem _ hy))
theorem plainL_mem : ∀ {l : List D}, plainL l = true → ∀ d ∈ l, plain d = true
  | [], _, _, h => by cases h
  | x :: l, q, d, h => by
    simp only [plainL, Bool.and_eq_true] at q
    rcases List.mem_cons.mp h with rfl | h
    · exact q.1
    · exact plainL_mem q.2 d h
section
variable {F : Fam} {E : XK} {a : Expr} {R : DA} {p pos : Pos}
theorem pdo_sortN (hu : ∀ j, (F.X j).A.units + 64 < cLine) (hg : ∀ j, Gl (F.X j) "sorted") (hm : ∀ j, (F.X j).mg "sorted" = none) (ha : PDA F E [a] R) (he : ∀ j, starEach [a] (F.X j).env = (false, eval a (F.X j).env) :: starEach [] (F.X j).env := by intro _; rfl) : PDO F E (.Call (.Name "sorted" p) [a] [] pos) (dCO rdSortN R) :=
  pdo_callBl (fun j => F.k j ▸ cr_sortN (hu j)) (fun P hK => by
    intro Bv Γ σ H vs ws Qd Q n r h k
    obtain ⟨w, ds, rfl, h1, hL, hp, hal, ht, hdp, h⟩ := h
    obtain ⟨v, rfl, rr⟩ := r.one
    obtain ⟨a, us, rfl, hs, hr⟩ := n.list rr h1
    rw [← hK]
    have hl : us.length = ds.length := hr.len
    have z1 : (us.zip ds).map (·.1) = us := List.map_fst_zip (by omega)
    have z2 : (us.zip ds).map (·.2) = ds := List.map_snd_zip (by omega)
    have rz := rpl_zip hr
    have mz : ∀ z ∈ us.zip ds, z.2 ∈ ds := fun z hz => (List.of_mem_zip hz).2
    have e2 : ((us.zip ds).mergeSort fun x y => leD x.2 y.2).map (·.2) = ds.mergeSort leD := by
      rw [sort_maps (s := leD) Prod.snd (fun _ _ _ _ => rfl), z2]
    refine ⟨a, us.zip ds, rfl, by rw [z1]; exact hs, by rw [List.length_zip, PySem.sizeLine_eq]; omega, fun z hz => ((rz z hz).mono n.sub).dp (plainL_mem hp _ (mz z hz)), by rw [z2]; exact hal, by rw [z2]; exact ht, fun z hz => hdp _ (mz z hz), fun q hq => ?_⟩
    refine n.newL (ds := ds.mergeSort leD) ?_ (Ex.refl _) h k hq
    rw [← e2]
    exact rpl_of fun z hz => rz z ((List.mergeSort_perm _ _).mem_iff.mp hz)) hg hm (by decide +kernel) ha (by decide) (by decide) he
end
/-! ### what sorting gives -/
theorem leD_total : TotalLe leD := sortLe_total (PyProof.Rows.listOrd itemOrd) false fun d => keyToks (toPy d)
theorem perm_sorted {α : Type} {le : α → α → Bool} {lt : α → α → Prop} (h : ∀ a b, lt a b → le b a = false) : ∀ {l m : List α}, l.Perm m → l.Pairwise (fun a b => le a b = true) → m.Pairwise lt → l = m
  | [], _, p, _, _ => (List.nil_perm.mp p).symm
  | a :: l, [], p, _, _ => absurd p.length_eq (by simp)
  | a :: l, b :: m, p, hl, hm => by
    have e : a = b := Classical.byContradiction fun ne => by
      have h1 : a ∈ m := (List.mem_cons.mp (p.mem_iff.mp List.mem_cons_self)).resolve_left ne
      have h2 : b ∈ l := (List.mem_cons.mp (p.mem_iff.mpr List.mem_cons_self)).resolve_left fun z => ne z.symm
      have k1 := (List.pairwise_cons.mp hm).1 a h1
      have k2 := (List.pairwise_cons.mp hl).1 b h2
      rw [h b a k1] at k2
      cases k2
    subst e
    rw [perm_sorted h ((List.perm_cons a).mp p) (List.pairwise_cons.mp hl).2 (List.pairwise_cons.mp hm).2]
def ltD (a b : D) : Prop := dataLt (toPy a) (toPy b) = true
theorem sort_asc {l m : List D} (p : l.Perm m) (h : m.Pairwise ltD) : l.mergeSort leD = m :=
  perm_sorted (lt := ltD) (fun a b h => by unfold leD; rw [show dataLt (toPy a) (toPy b) = true from h]; rfl) ((List.mergeSort_perm _ _).trans p) (sort_pairwise leD_total l) h
/-! Python's order of tuples of one shape -/
inductive LexP {α : Type} (r : α → α → Prop) : List α → List α → Prop
  | head {a b : α} {l m : List α} : r a b → LexP r (a :: l) (b :: m)
  | tail {a : α} {l m : List α} : LexP r l m → LexP r (a :: l) (a :: m)
section
variable {α : Type} {r : α → α → Prop}
theorem LexP.app {l m : List α} (h : LexP r l m) (c d : List α) : LexP r (l ++ c) (m ++ d) := by
  induction h with
  | head h => exact .head h
  | tail _ ih => exact .tail ih
theorem LexP.last {a b : α} (h : r a b) : ∀ l : List α, LexP r (l ++ [a]) (l ++ [b])
  | [] => .head h
  | x :: l => .tail (LexP.last h l)
theorem LexP.asymm (hr : ∀ a b, r a b → ¬ r b a) {l m : List α} (h : LexP r l m) : ¬ LexP r m l := by
  induction h with
  | head h =>
    intro z
    cases z with
    | head z => exact hr _ _ h z
    | tail _ => exact hr _ _ h h
  | tail _ ih =>
    intro z
    cases z with
    | head z => exact hr _ _ z z
    | tail z => exact ih z
end
theorem ltD_int {a b : Int} (h : a < b) : ltD (.int a) (.int b) := by
  show dataLt (.int a) (.int b) = true
  rw [dataLt_int]
  exact decide_eq_true h
theorem toPyL_ints (a : List Int) : toPyL (a.map D.int) = a.map PyData.int := by
  induction a with
  | nil => rfl
  | cons x a ih => simp only [List.map_cons, toPyL, toPy, ih]
theorem alike_ints : ∀ a b : List Int, alikeAll (a.map PyData.int) (b.map PyData.int) = true
  | [], b => by cases b <;> simp [alikeAll]
  | _ :: _, [] => by simp [alikeAll]
  | x :: a, y :: b => by
    rw [List.map_cons, List.map_cons, alikeAll, alike_ints a b]
    rfl
theorem alike_tI (a b : List Int) : alike (toPy (tI a)) (toPy (tI b)) = true := by
  simp only [toPy, toPyL_ints, alike]
  exact alike_ints a b
theorem ltI_ints {a b : List Int} (h : LexP (· < ·) a b) : PyProof.Rows.lexLt itemOrd (keyToksAll (a.map PyData.int)) (keyToksAll (b.map PyData.int)) = true := by
  induction h with
  | @head x y l m h =>
    rw [List.map_cons, List.map_cons, dataLt_all_no (by rfl) (by
      have : x ≠ y := by have h' : x < y := h; omega
      simp [PyData.eqv, this]), dataLt_int]
    exact decide_eq_true h
  | @tail x l m _ ih => rw [List.map_cons, List.map_cons, dataLt_all_yes (by rfl) (by simp [PyData.eqv]), ih]
theorem ltD_tI {a b : List Int} (h : LexP (· < ·) a b) : ltD (tI a) (tI b) := by
  unfold ltD
  simp only [toPy, toPyL_ints]
  rw [dataLt_tuple]
  exact ltI_ints h
theorem tI_inj' {a b : List Int} (h : tI a = tI b) : a = b := by
  injection h with h
  induction a generalizing b with
  | nil => cases b with
    | nil => rfl
    | cons _ _ => cases h
  | cons x a ih => cases b with
    | nil => cases h
    | cons y b =>
      rw [List.map_cons, List.map_cons] at h
      injection h with h1 h2
      injection h1 with h1
      rw [h1, ih h2]
theorem int_asymm : ∀ a b : Int, a < b → ¬ b < a := fun a b h k => by omega
theorem ltI_rows {s t : List (List Int)} (h : LexP (LexP (· < ·)) s t) : PyProof.Rows.lexLt itemOrd (keyToksAll (toPyL (s.map tI))) (keyToksAll (toPyL (t.map tI))) = true := by
  induction h with
  | @head x y l m h =>
    rw [List.map_cons, List.map_cons, toPyL, toPyL, dataLt_all_no (alike_tI x y) ?_]
    · exact ltD_tI h
    · cases q : PyData.eqv (toPy (tI x)) (toPy (tI y)) with
      | false => rfl
      | true =>
        have e := tI_inj' ((eqv_iff _ _ (plain_tI x) (plain_tI y)).mp q)
        subst e
        exact absurd h (LexP.asymm int_asymm h)
  | @tail x l m _ ih =>
    rw [List.map_cons, List.map_cons, toPyL, toPyL, dataLt_all_yes (alike_tI x x) ((eqv_iff _ _ (plain_tI x) (plain_tI x)).mpr rfl)]
    exact ih
theorem ltD_ttI {s t : List (List Int)} (h : LexP (LexP (· < ·)) s t) : ltD (.tup (s.map tI)) (.tup (t.map tI)) := by
  unfold ltD
  simp only [toPy]
  rw [dataLt_tuple]
  exact ltI_rows h
theorem alike_rows : ∀ s t : List (List Int), alikeAll (toPyL (s.map tI)) (toPyL (t.map tI)) = true
  | [], t => by cases t <;> simp [alikeAll, toPyL]
  | _ :: _, [] => by simp [alikeAll, toPyL]
  | x :: s, y :: t => by
    rw [List.map_cons, List.map_cons, toPyL, toPyL, alikeAll, alike_tI, alike_rows s t]
    rfl
theorem alike_ttI (s t : List (List Int)) : alike (toPy (.tup (s.map tI))) (toPy (.tup (t.map tI))) = true := by
  simp only [toPy, alike]
  exact alike_rows s t
theorem plain_ttI (s : List (List Int)) : plain (.tup (s.map tI)) = true := by
  simp only [plain]
  exact plainL_map tI plain_tI s
theorem depL_le {k : Nat} : ∀ {l : List D}, (∀ d ∈ l, dep d ≤ k) → depL l ≤ k
  | [], _ => Nat.zero_le _
  | d :: l, h => by
    simp only [depL]
    have := h d List.mem_cons_self
    have := depL_le fun x hx => h x (List.mem_cons_of_mem _ hx)
    omega
theorem dep_ttI (s : List (List Int)) : dep (.tup (s.map tI)) ≤ 2 := by
  simp only [dep]
  have : depL (s.map tI) ≤ 1 := depL_le fun d hd => by
    obtain ⟨x, _, rfl⟩ := List.mem_map.mp hd
    exact dep_tI x
  omega
/-- rows of rows that are no longer in order -/
theorem sort_ttI {l m : List (List (List Int))} (p : l.Perm m) (h : m.Pairwise (LexP (LexP (· < ·)))) : (l.map fun s => D.tup (s.map tI)).mergeSort leD = m.map fun s => D.tup (s.map tI) :=
  sort_asc (p.map _) (List.pairwise_map.mpr (h.imp fun h => ltD_ttI h))
end DL

set_option Elab.async false
set_option linter.all false
set_option maxRecDepth 100000
set_option maxHeartbeats 4000000
namespace K06
open PySem PySem.Spec PyProof.Rows L2 DL QG GG
def top (i : Nat) : Stmt := PySem.Challenge.pw_larderdays_k06_oldest_first_is_best.main.body.getD i (.Pass ⟨0, 0, 0, 0⟩)
def inClass (st : Stmt) (i : Nat) : Stmt := match st with
  | .ClassDef (body := b) .. => b.getD i (.Pass ⟨0, 0, 0, 0⟩)
  | _ => .Pass ⟨0, 0, 0, 0⟩
/-- the built-ins that stand -/
structure Tx (mg : Str → Option Value) : Prop where
  len : mg "len" = none
  int : mg "int" = none
  max : mg "max" = none
  min : mg "min" = none
  tuple : mg "tuple" = none
  list : mg "list" = none
  sum : mg "sum" = none
  range : mg "range" = none
  zip : mg "zip" = none
  enumerate : mg "enumerate" = none
  all : mg "all" = none
  any : mg "any" = none
  sorted : mg "sorted" = none
  isinstance : mg "isinstance" = none
  bool : mg "bool" = none
/-! ### the law's own small defs -/
abbrev dI (n : Int) : D := .int n
/-- the box of digits: any ints, a place -/
def Box (l : List D) : Prop := ∃ (gs : List Int) (t : Nat), l = [lI gs, .int t]
local macro_rules | `(tactic| walk_at "rd") => `(tactic| simp only [dAllG, dAnyG, dSumG, capD, genG, dElt, dZipK, dEnK, dRep, dCat2, dAugIx, rdEqB, dIsT, tyN, rdSortR, dFld, dChain, dSlT, dSlL, dPn, dPs, rdCatT, dLc2, fvD, Option.map_some, dFSeq, dSetF, dFNil, DL.pairD, List.replicate_succ, Bool.not_true, Bool.not_false, dSeq, dIfS, dB, dOp, dVar, dC, dCB, dCO, dACons, dANil, dRet, dAsg, dAsgO, dAsgOF, dExpr, dSetIx, dApp, dOf, dTup, dLst, dCat, dUn, dFor, dRng1, dRng2, dItL, dItT, dZip, dLc, dNext, dAnd, dOr, dNot, dAndV, dOrV, dIfE, dYes, dAug, dCall, dCallB, dCallX, dRaise, dEz, dBreak, dCont, dRetN, sdR, sdBR, sdX, dIsN,
  rdLen, rdInt, rdMM, rdTup, rdLstOf, rdSum, rdIx, rdI, rdI0, rdEq, rdIn, asD, itemsOf_lst, itemsOf_tup, fix, fixL, startD, notOwn, freeOk_fr, frS_dat, frS_non, frS_own, okW, wipeG, dgName, dgTup, dgsCons, dgsNil, gAdd, DL.gSub, gMul, gMod, gDiv, gPow, gLt, gLe, gGt, gGe, atI_c0, atI_c1, atI_c2, atI_c3, atI_c4, ixN_21, ixN_20, soft_dat, soft_non, soft_own,
  List.cons_append, List.nil_append, List.map_cons, List.map_nil, List.length_cons, List.length_nil, List.length_map, List.getElem?_cons_zero, List.getElem?_cons_succ, List.set_cons_zero, List.set_cons_succ, List.replicate_succ, List.replicate_zero, Nat.reduceSub, Nat.reduceAdd, Nat.zero_add, List.all_cons, List.all_nil, Option.some.injEq, Prod.mk.injEq, Option.bind_some, reduceCtorEq,
  Wv.dat.injEq, Wv.slot.injEq, D.obj.injEq, D.int.injEq, D.bl.injEq, D.lst.injEq, D.tup.injEq, List.cons.injEq, Sl.dat.injEq, Sl.own.injEq, exists_eq_left, exists_eq_left', exists_and_left, exists_and_right, exists_eq_right, exists_eq, exists_false, exists_const, true_and, and_true, false_and, and_false, ite_true, ite_false, if_true, if_false, eq_self, ↓reduceIte, Bool.and_true, Bool.true_and, and_self, or_false, false_or, Bool.false_eq_true, and_assoc, exists_prop, exists_eq_right_right, exists_eq_right', forall_eq, forall_eq', Int.reducePow, Int.reduceToNat, decide_eq_true_eq])
local macro_rules | `(tactic| walk_at "rs") => `(tactic| simp only [dAllG, dAnyG, dSumG, capD, genG, dElt, dZipK, dEnK, dRep, dCat2, dAugIx, rdEqB, dIsT, tyN, rdSortR, dFld, dChain, dSlT, dSlL, dPn, dPs, rdCatT, dLc2, fvD, Option.map_some, dFSeq, dSetF, dFNil, DL.pairD, List.replicate_succ, Bool.not_true, Bool.not_false, dIfS, dB, dOp, dVar, dC, dCB, dCO, dACons, dANil, dRet, dAsg, dAsgO, dAsgOF, dExpr, dSetIx, dApp, dOf, dTup, dLst, dCat, dUn, dFor, dRng1, dRng2, dItL, dItT, dZip, dLc, dNext, dAnd, dOr, dNot, dAndV, dOrV, dIfE, dYes, dAug, dCall, dCallB, dCallX, dRaise, dEz, dBreak, dCont, dRetN, sdR, sdBR, sdX, dIsN,
  rdLen, rdInt, rdMM, rdTup, rdLstOf, rdSum, rdIx, rdI, rdI0, rdEq, rdIn, asD, itemsOf_lst, itemsOf_tup, fix, fixL, startD, notOwn, freeOk_fr, frS_dat, frS_non, frS_own, okW, wipeG, dgName, dgTup, dgsCons, dgsNil, gAdd, DL.gSub, gMul, gMod, gDiv, gPow, gLt, gLe, gGt, gGe, atI_c0, atI_c1, atI_c2, atI_c3, atI_c4, ixN_21, ixN_20, soft_dat, soft_non, soft_own,
  List.cons_append, List.nil_append, List.map_cons, List.map_nil, List.length_cons, List.length_nil, List.length_map, List.getElem?_cons_zero, List.getElem?_cons_succ, List.set_cons_zero, List.set_cons_succ, List.replicate_succ, List.replicate_zero, Nat.reduceSub, Nat.reduceAdd, Nat.zero_add, List.all_cons, List.all_nil, Option.some.injEq, Prod.mk.injEq, Option.bind_some, reduceCtorEq,
  Wv.dat.injEq, Wv.slot.injEq, D.obj.injEq, D.int.injEq, D.bl.injEq, D.lst.injEq, D.tup.injEq, List.cons.injEq, Sl.dat.injEq, Sl.own.injEq, exists_eq_left, exists_eq_left', exists_and_left, exists_and_right, exists_eq_right, exists_eq, exists_false, exists_const, true_and, and_true, false_and, and_false, ite_true, ite_false, if_true, if_false, eq_self, ↓reduceIte, Bool.and_true, Bool.true_and, and_self, or_false, false_or, Bool.false_eq_true, and_assoc, exists_prop, exists_eq_right_right, exists_eq_right', forall_eq, forall_eq', Int.reducePow, Int.reduceToNat, decide_eq_true_eq])
section
variable {P : Program} {w : World} {K : PySem.W.Frag} {mg : Str → Option Value} {base : Heap} {ts : List Addr}
abbrev s_law_cell : Stmt := top 12
abbrev N_law_cell : List Str := ["script", "k"]
theorem sc_law_cell : FnScope N_law_cell ["script", "k"] (defScope s_law_cell) := ⟨rfl, rfl, rfl, by decide +kernel, rfl, by decide +kernel, by decide +kernel⟩
abbrev s_law_digits : Stmt := top 13
abbrev N_law_digits : List Str := ["script", "first", "last", "digits", "k", "cell", "turn", "seed"]
theorem sc_law_digits : FnScope N_law_digits ["script", "first", "last"] (defScope s_law_digits) := ⟨rfl, rfl, rfl, by decide +kernel, rfl, by decide +kernel, by decide +kernel⟩
abbrev s_law_draw : Stmt := top 14
abbrev N_law_draw : List Str := ["box", "many", "at"]
theorem sc_law_draw : FnScope N_law_draw ["box", "many"] (defScope s_law_draw) := ⟨rfl, rfl, rfl, by decide +kernel, rfl, by decide +kernel, by decide +kernel⟩
abbrev s_law_counts : Stmt := top 15
abbrev N_law_counts : List Str := ["box", "goods", "most", "good"]
theorem sc_law_counts : FnScope N_law_counts ["box", "goods", "most"] (defScope s_law_counts) := ⟨rfl, rfl, rfl, by decide +kernel, rfl, by decide +kernel, by decide +kernel⟩
abbrev s_law_week : Stmt := top 16
abbrev N_law_week : List Str := ["box", "goods", "most", "week", "day", "orders", "turn", "order"]
theorem sc_law_week : FnScope N_law_week ["box", "goods", "most"] (defScope s_law_week) := ⟨rfl, rfl, rfl, by decide +kernel, rfl, by decide +kernel, by decide +kernel⟩
abbrev s_law_parts : Stmt := top 17
abbrev N_law_parts : List Str := ["box", "goods", "longest", "keep", "patterns", "turn", "budget", "good"]
theorem sc_law_parts : FnScope N_law_parts ["box", "goods", "longest"] (defScope s_law_parts) := ⟨rfl, rfl, rfl, by decide +kernel, rfl, by decide +kernel, by decide +kernel⟩

def preCell (ds : List D) : Prop := ∃ (ns : List Int) (k : Nat), ds = [lI ns, .int k]
def postCell (ds : List D) (r : D) : Prop := ∃ v : Int, r = .int v
abbrev SpCell (K : PySem.W.Frag) (ts : List Addr) : Sp := spD K ts (sdR preCell postCell)
theorem ok_law_cell {f : Addr} {fd : FuncData} {k : Nat} (T : Tx mg) (F : Fun K "_law_cell" "_law_cell" s_law_cell f fd) : FnOk P w K mg base CX0 (k + 1) f fd ["script", "k"] (SpCell K ts) := by
  refine' okDef F sc_law_cell (by decide) ?hl ?hb ?hr
  case hb =>
    intro cdv A outer s H E hr
    exact (pds_cons (pd_if (pdt_lt (pd_var 1) (pd_len (fun _ => rfl) (fun _ => T.len) (pda_cons (pd_var 0) pda_nil))) (pds_one (pd_ret (pd_ix (pd_var 0) (pd_var 1)))) pds_nil)
    (pds_one (pd_ret pd_int)))
  case hl =>
    rintro ds Q E ⟨⟨ns, k, rfl⟩, _⟩
    rfl
  case hr =>
    rintro ds Q E ⟨⟨ns, k, rfl⟩, q⟩
    walk_at "rd"
    by_cases h : k < ns.length
    · rw [if_pos (by omega)]
      exact ⟨_, atI_int ns h, q _ ⟨_, rfl⟩⟩
    · rw [if_neg (by omega)]
      exact q _ ⟨0, rfl⟩
/-! all the digits of a script -/
def preDig (ds : List D) : Prop := ∃ (ns : List Int), ds = [lI ns, .int 0, .int 63]
def postDig (ds : List D) (r : D) : Prop := ∃ gs : List Int, r = lI gs
abbrev SpDig (K : PySem.W.Frag) (ts : List Addr) : Sp := spD K ts (sdR preDig postDig)
theorem ok_law_digits {f : Addr} {fd : FuncData} (T : Tx mg) (F : Fun K "_law_digits" "_law_digits" s_law_digits f fd) (D__law_cell : Dn P w K mg base "_law_cell" 1 ["script", "k"] (SpCell K ts)) : FnOk P w K mg base CX0 2 f fd ["script", "first", "last"] (SpDig K ts) := by
  refine' okDef F sc_law_digits (by decide) ?hl ?hb ?hr
  case hb =>
    intro cdv A outer s H E hr
    exact (pds_cons (pd_asgO 3 (fun _ => sc_law_digits.nd) (pdo_lst pda_nil))
    (pds_cons (pd_for (fun _ => PassesOwn.never) (fun _ => rfl) (pdi_range2 (fun _ => rfl) (fun _ => T.range) (pda_cons (pd_var 1) (pda_cons (pd_var 2) pda_nil))) (pdg_name 4 (fun _ => sc_law_digits.nd)) (pds_cons (pd_asg 5 (fun _ => sc_law_digits.nd) (pd_callN (fun _ => D__law_cell) (fun _ => hr.mono (by decide)) (pda_cons (pd_var 0) (pda_cons (pd_var 4) pda_nil))))
    (pds_cons (pd_if (pdt_lt (pd_var 5) pd_int) (pds_one (pd_asg 5 (fun _ => sc_law_digits.nd) (pd_sub pd_int (pd_mul pd_int (pd_var 5))))) pds_nil)
    (pds_one (pd_if (pdt_ge (pd_var 5) (pd_pow pd_int pd_int)) (pds_one (pd_for (fun _ => PassesOwn.never) (fun _ => rfl) (pdi_range1 (fun _ => rfl) (fun _ => T.range) (pda_cons pd_int pda_nil)) (pdg_name 6 (fun _ => sc_law_digits.nd)) (pds_one (pd_if (pdt_gt (pd_var 5) pd_int) (pds_cons (pd_app 3 (pd_mod (pd_intOf (fun _ => rfl) (fun _ => T.int) (pda_cons (pd_var 5) pda_nil)) pd_int))
    (pds_one (pd_asg 5 (fun _ => sc_law_digits.nd) (pd_fdiv (pd_var 5) pd_int)))) pds_nil)))) (pds_cons (pd_asg 7 (fun _ => sc_law_digits.nd) (pd_mod (pd_intOf (fun _ => rfl) (fun _ => T.int) (pda_cons (pd_add (pd_add (pd_mul (pd_var 5) pd_int) (pd_mul (pd_var 4) pd_int)) pd_int) pda_nil)) pd_int))
    (pds_one (pd_for (fun _ => PassesOwn.never) (fun _ => rfl) (pdi_range1 (fun _ => rfl) (fun _ => T.range) (pda_cons pd_int pda_nil)) (pdg_name 6 (fun _ => sc_law_digits.nd)) (pds_cons (pd_asg 7 (fun _ => sc_law_digits.nd) (pd_mod (pd_intOf (fun _ => rfl) (fun _ => T.int) (pda_cons (pd_add (pd_add (pd_mul (pd_var 7) pd_int) (pd_mul pd_int (pd_var 6))) pd_int) pda_nil)) pd_int))
    (pds_one (pd_app 3 (pd_mod (pd_intOf (fun _ => rfl) (fun _ => T.int) (pda_cons (pd_fdiv (pd_var 7) pd_int) pda_nil)) pd_int))))))))))))
    (pds_one (pd_ret (pd_var 3)))))
  case hl =>
    rintro ds Q E ⟨⟨ns, rfl⟩, _⟩
    rfl
  case hr =>
    rintro ds Q E ⟨⟨ns, rfl⟩, q⟩
    walk_at "rd"
    refine ⟨by decide, by decide, by decide, by decide, by decide, ?_⟩
    refine dLoop_by (fun xs Γ => ∃ (gs : List Int) (c4 c5 c6 c7 : Sl), Γ = [.dat (lI ns), .dat (.int 0), .dat (.int 63), .own false (gs.map .int), c4, c5, c6, c7] ∧ soft c4 = true ∧ soft c5 = true ∧ soft c6 = true ∧ soft c7 = true ∧ gs.length + 60 * xs.length ≤ 4000 ∧ ∀ x ∈ xs, ∃ k : Nat, x = .int k ∧ k ≤ 63) ?_ ?_ _ _ ⟨[], _, _, _, _, rfl, rfl, rfl, rfl, rfl, by decide, ?_⟩
    · rintro Γ ⟨gs, c4, c5, c6, c7, rfl, _, _, _, _, _, _⟩
      walk_at "rd"
      exact q _ ⟨gs, rfl⟩
    · rintro x r Γ ⟨gs, c4, c5, c6, c7, rfl, h4, h5, h6, h7, hl, hx⟩
      obtain ⟨k, rfl, hk⟩ := hx x List.mem_cons_self
      have hx' : ∀ x ∈ r, ∃ k : Nat, x = .int k ∧ k ≤ 63 := fun x hx2 => hx x (List.mem_cons_of_mem _ hx2)
      rw [List.length_cons] at hl
      refine ⟨_, if_pos h4, fun L hL => ?_⟩
      rw [seq_go]
      walk_at "rs"
      refine ⟨⟨ns, k, rfl⟩, ?_⟩
      rintro r' ⟨v, rfl⟩
      refine ⟨h5, ?_⟩
      refine seq_cut (fun Γ => ∃ v : Int, 0 ≤ v ∧ Γ = [.dat (lI ns), .dat (.int 0), .dat (.int 63), .own false (gs.map .int), .dat (.int k), .dat (.int v), c6, c7]) ?_ ?_
      · rintro Γ ⟨v, hv, rfl⟩
        walk_at "rs"
        refine ⟨⟨by decide, by decide, by decide⟩, ?_⟩
        by_cases hb : (1000000000000000000 : Int) ≤ v
        · rw [if_pos hb]
          refine ⟨by decide, by decide, ?_⟩
          refine dLoop_by (fun xs Γ => ∃ (gs' : List Int) (v : Int) (c6 : Sl), Γ = [.dat (lI ns), .dat (.int 0), .dat (.int 63), .own false (gs'.map .int), .dat (.int k), .dat (.int v), c6, c7] ∧ soft c6 = true ∧ gs'.length + xs.length ≤ gs.length + 60) ?_ ?_ _ _ ⟨gs, v, c6, rfl, h6, by rw [rangeD_len]; exact Nat.le_refl _⟩
          · rintro Γ ⟨gs', v, c6, rfl, h6, hl'⟩
            exact hL _ ⟨gs', _, _, _, _, rfl, rfl, rfl, h6, h7, by rw [List.length_nil] at hl'; omega, hx'⟩
          · rintro x r' Γ ⟨gs', v, c6, rfl, h6, hl'⟩
            refine ⟨_, if_pos h6, fun L' hL' => ?_⟩
            rw [List.length_cons] at hl'
            walk_at "rd"
            by_cases hv : 0 < v
            · rw [if_pos hv]
              refine ⟨⟨_, rfl⟩, by decide, by omega, ⟨by decide, by decide⟩, ?_⟩
              exact hL' _ ⟨gs' ++ [v % 1000], v / 1000, _, by rw [map_snoc], rfl, by rw [List.length_append, List.length_singleton]; omega⟩
            · rw [if_neg hv]
              exact hL' _ ⟨gs', v, _, rfl, rfl, by omega⟩
        · rw [if_neg hb]
          rw [seq_go]
          walk_at "rs"
          refine ⟨.inl ⟨by omega, by omega⟩, .inl ⟨by omega, by omega⟩, by decide, h7, ?_⟩
          refine ⟨by decide, by decide, ?_⟩
          refine dLoop_by (fun xs Γ => ∃ (gs' : List Int) (u : Int) (c6 : Sl), 0 ≤ u ∧ u < 2147483647 ∧ Γ = [.dat (lI ns), .dat (.int 0), .dat (.int 63), .own false (gs'.map .int), .dat (.int k), .dat (.int v), c6, .dat (.int u)] ∧ soft c6 = true ∧ gs'.length + xs.length ≤ gs.length + 12 ∧ ∀ x ∈ xs, ∃ t : Nat, x = .int t ∧ t < 12) ?_ ?_ _ _ ⟨gs, _, c6, Int.emod_nonneg _ (by decide), Int.emod_lt_of_pos _ (by decide), rfl, h6, by rw [rangeD_len]; exact Nat.le_refl _, ?_⟩
          · rintro Γ ⟨gs', u, c6, _, _, rfl, h6, hl', _⟩
            exact hL _ ⟨gs', _, _, _, _, rfl, rfl, rfl, h6, rfl, by rw [List.length_nil] at hl'; omega, hx'⟩
          · rintro x r' Γ ⟨gs', u, c6, hu0, hu1, rfl, h6, hl', hx2⟩
            obtain ⟨t, rfl, ht⟩ := hx2 x List.mem_cons_self
            refine ⟨_, if_pos h6, fun L' hL' => ?_⟩
            rw [List.length_cons] at hl'
            walk_at "rd"
            refine ⟨.inl ⟨by omega, by omega⟩, .inl ⟨by omega, by omega⟩, by decide, ⟨_, rfl⟩, ⟨by decide, by decide⟩, by decide, by omega, ?_⟩
            exact hL' _ ⟨gs' ++ [_], _, _, Int.emod_nonneg _ (by decide), Int.emod_lt_of_pos _ (by decide), by rw [map_snoc], rfl, by rw [List.length_append, List.length_singleton]; omega, fun x hx3 => hx2 x (List.mem_cons_of_mem _ hx3)⟩
          · intro x hx3
            obtain ⟨i, hi, rfl⟩ := mem_rangeD hx3
            exact ⟨i, by rw [Int.zero_add], hi⟩
      · intro L' hL'
        walk_at "rs"
        by_cases hv : v < 0
        · rw [if_pos hv]
          refine ⟨.inl ⟨by decide, by decide⟩, hL' _ ⟨1 - 2 * v, by omega, rfl⟩⟩
        · rw [if_neg hv]
          exact hL' _ ⟨v, by omega, rfl⟩
    · intro x hx
      obtain ⟨i, hi, rfl⟩ := mem_rangeD hx
      refine ⟨i, by rw [Int.zero_add], ?_⟩
      have : i < 63 := hi
      omega
/-! one digit is drawn -/
def preDraw (l ds : List D) : Prop := Box l ∧ ∃ m : Int, 0 < m ∧ ds = [.int m]
def postDraw (l ds : List D) (r : D) (l' : List D) : Prop := Box l' ∧ ∀ m : Int, ds = [.int m] → ∃ v : Int, r = .int v ∧ 0 ≤ v ∧ v < m
abbrev SpDraw (K : PySem.W.Frag) (ts : List Addr) : Sp := spB K ts (sdBR preDraw postDraw)
theorem ok_law_draw {f : Addr} {fd : FuncData} {k : Nat} (T : Tx mg) (F : Fun K "_law_draw" "_law_draw" s_law_draw f fd) : FnOk P w K mg base CX0 (k + 1) f fd ["box", "many"] (SpDraw K ts) := by
  refine' okDefB F sc_law_draw (by decide) ?hl ?hb ?hr
  case hb =>
    intro cdv A outer s H E hr
    exact (pds_cons (pd_asg 2 (fun _ => sc_law_draw.nd) (pd_ix (pd_var 0) pd_int))
    (pds_cons (pd_setIx 0 (pd_add (pd_var 2) pd_int) pd_int)
    (pds_cons (pd_if (pdt_lt (pd_var 2) (pd_len (fun _ => rfl) (fun _ => T.len) (pda_cons (pd_ix (pd_var 0) pd_int) pda_nil))) (pds_one (pd_ret (pd_mod (pd_intOf (fun _ => rfl) (fun _ => T.int) (pda_cons (pd_ix (pd_ix (pd_var 0) pd_int) (pd_var 2)) pda_nil)) (pd_var 1)))) pds_nil)
    (pds_one (pd_ret pd_int)))))
  case hl =>
    rintro l ds Q ⟨⟨_, m, _, rfl⟩, _⟩
    rfl
  case hr =>
    rintro l ds Q ⟨⟨⟨gs, t, rfl⟩, m, hm, rfl⟩, q⟩
    walk_at "rd"
    have bx : Box [lI gs, D.int ((t : Int) + 1)] := ⟨gs, t + 1, rfl⟩
    by_cases h : t < gs.length
    · rw [if_pos (by omega)]
      exact ⟨_, atI_int gs h, .inl ⟨_, rfl, hm, q _ _ ⟨bx, fun m' e => by cases e; exact ⟨_, rfl, Int.emod_nonneg _ (by omega), Int.emod_lt_of_pos _ hm⟩⟩⟩⟩
    · rw [if_neg (by omega)]
      exact q _ _ ⟨bx, fun m' e => by cases e; exact ⟨0, rfl, Int.le_refl _, hm⟩⟩
/-! counts -/
def preCnt (l ds : List D) : Prop := Box l ∧ ∃ g m : Nat, g ≤ 1000 ∧ ds = [.int g, .int m]
def postCnt (l ds : List D) (r : D) (l' : List D) : Prop := Box l' ∧ ∀ g m : Nat, ds = [.int g, .int m] → ∃ ns : List Int, r = tI ns ∧ ns.length = g ∧ ∀ n ∈ ns, 0 ≤ n ∧ n ≤ m
abbrev SpCnt (K : PySem.W.Frag) (ts : List Addr) : Sp := spB K ts (sdBR preCnt postCnt)
theorem ok_law_counts {f : Addr} {fd : FuncData} (T : Tx mg) (F : Fun K "_law_counts" "_law_counts" s_law_counts f fd) (D__law_draw : Dn P w K mg base "_law_draw" 1 ["box", "many"] (SpDraw K ts)) : FnOk P w K mg base CX0 2 f fd ["box", "goods", "most"] (SpCnt K ts) := by
  refine' okDefB F sc_law_counts (by decide) ?hl ?hb ?hr
  case hb =>
    intro cdv A outer s H E hr
    exact (pds_one (pd_ret (pd_tupOf (fun _ => rfl) (fun _ => T.tuple) (pda_cons (pd_of (pdo_lc [("good", 3)] (fun _ => rfl) (fun _ => sc_law_counts.nd) (pdi_range1 (fun _ => rfl) (fun _ => T.range) (pda_cons (pd_var 1) pda_nil)) (fun _ => blkOk_by (own := [("good", 3)]) (N := N_law_counts) (sc := defScope s_law_counts) (by decide +kernel)) (pdg_name 3 (fun _ => sc_law_counts.nd)) pdts_nil (pd_callBN 0 (fun _ => D__law_draw) (fun _ => hr.mono (by decide)) (pda_cons (pd_var 0) (pda_cons (pd_add (pd_var 2) pd_int) pda_nil))))) pda_nil))))
  case hl =>
    rintro l ds Q ⟨⟨_, g, m, _, rfl⟩, _⟩
    rfl
  case hr =>
    rintro l ds Q ⟨⟨hb, g, m, hg, rfl⟩, q⟩
    walk_at "rd"
    refine ⟨by omega, by omega, by rw [rangeD_len]; omega, ?_⟩
    refine dLcR_by (fun xs acc Γ => ∃ (l' : List D) (ns : List Int) (c3 : Sl), Box l' ∧ acc = ns.map .int ∧ ns.length + xs.length = g ∧ (∀ n ∈ ns, 0 ≤ n ∧ n ≤ m) ∧ Γ = [.own true l', .dat (.int g), .dat (.int m), c3] ∧ soft c3 = true) ?_ ?_ _ _ _ ⟨l, [], _, hb, rfl, by rw [rangeD_len]; exact Nat.zero_add _, by simp, rfl, rfl⟩
    · rintro acc Γ ⟨l', ns, c3, hb, rfl, hl, hn, rfl, h3⟩ l2 e
      cases e
      exact q _ _ ⟨hb, fun g' m' e => by cases e; exact ⟨ns, rfl, hl, hn⟩⟩
    · rintro x r acc Γ ⟨l', ns, c3, hb, rfl, hl, hn, rfl, h3⟩
      refine ⟨_, if_pos h3, fun L hL => ?_⟩
      walk_at "rd"
      refine ⟨⟨hb, (m : Int) + 1, by omega, rfl⟩, ?_⟩
      rintro r' l2 ⟨hb2, hr⟩
      obtain ⟨v, rfl, v0, v1⟩ := hr _ rfl
      refine hL _ _ ⟨l2, ns ++ [v], _, hb2, map_snoc ns v, by rw [List.length_append, List.length_singleton]; rw [List.length_cons] at hl; omega, fun n hn2 => ?_, rfl, rfl⟩
      rcases List.mem_append.mp hn2 with z | z
      · exact hn n z
      · rw [List.mem_singleton.mp z]; omega
/-! a week -/
abbrev encW (wk : List (List (List Int))) : D := .lst (wk.map ltI)
def WeekOk (g m : Nat) (wk : List (List (List Int))) : Prop := 1 ≤ wk.length ∧ wk.length ≤ 2 ∧ ∀ os ∈ wk, 1 ≤ os.length ∧ os.length ≤ 3 ∧ os.Nodup ∧ ∀ o ∈ os, o.length = g ∧ ∀ n ∈ o, 0 ≤ n ∧ n ≤ (m : Int)
def preWk (l ds : List D) : Prop := Box l ∧ ∃ g m : Nat, g ≤ 1000 ∧ ds = [.int g, .int m]
def postWk (l ds : List D) (r : D) (l' : List D) : Prop := Box l' ∧ ∀ g m : Nat, ds = [.int g, .int m] → ∃ wk, r = encW wk ∧ WeekOk g m wk
abbrev SpWk (K : PySem.W.Frag) (ts : List Addr) : Sp := spB K ts (sdBR preWk postWk)
theorem ok_law_week {f : Addr} {fd : FuncData} (T : Tx mg) (F : Fun K "_law_week" "_law_week" s_law_week f fd) (D__law_draw : Dn P w K mg base "_law_draw" 1 ["box", "many"] (SpDraw K ts)) (D__law_counts : Dn P w K mg base "_law_counts" 2 ["box", "goods", "most"] (SpCnt K ts)) : FnOk P w K mg base CX0 3 f fd ["box", "goods", "most"] (SpWk K ts) := by
  refine' okDefB F sc_law_week (by decide) ?hl ?hb ?hr
  case hb =>
    intro cdv A outer s H E hr
    exact (pds_cons (pd_asgO 3 (fun _ => sc_law_week.nd) (pdo_lst pda_nil))
    (pds_cons (pd_for (fun _ => PassesOwn.never) (fun _ => rfl) (pdi_range1 (fun _ => rfl) (fun _ => T.range) (pda_cons (pd_add pd_int (pd_callBN 0 (fun _ => D__law_draw) (fun _ => hr.mono (by decide)) (pda_cons (pd_var 0) (pda_cons pd_int pda_nil)))) pda_nil)) (pdg_name 4 (fun _ => sc_law_week.nd)) (pds_cons (pd_asgO 5 (fun _ => sc_law_week.nd) (pdo_lst pda_nil))
    (pds_cons (pd_for (fun _ => PassesOwn.never) (fun _ => rfl) (pdi_range1 (fun _ => rfl) (fun _ => T.range) (pda_cons (pd_add pd_int (pd_callBN 0 (fun _ => D__law_draw) (fun _ => hr.mono (by decide)) (pda_cons (pd_var 0) (pda_cons pd_int pda_nil)))) pda_nil)) (pdg_name 6 (fun _ => sc_law_week.nd)) (pds_cons (pd_asg 7 (fun _ => sc_law_week.nd) (pd_callBN 0 (fun _ => D__law_counts) (fun _ => hr.mono (by decide)) (pda_cons (pd_var 0) (pda_cons (pd_var 1) (pda_cons (pd_var 2) pda_nil)))))
    (pds_one (pd_if (pdt_notIn (fun _ => hu65 hr) (pd_var 7) (pd_var 5)) (pds_one (pd_app 5 (pd_var 7))) pds_nil))))
    (pds_one (pd_app 3 (pd_var 5))))))
    (pds_one (pd_ret (pd_var 3)))))
  case hl =>
    rintro l ds Q ⟨⟨_, g, m, _, rfl⟩, _⟩
    rfl
  case hr =>
    rintro l ds Q ⟨⟨hb, g, m, hg, rfl⟩, q⟩
    walk_at "rd"
    refine ⟨by decide, ⟨hb, 2, by decide, rfl⟩, ?_⟩
    rintro r l1 ⟨hb1, hr⟩
    obtain ⟨x, rfl, x0, x1⟩ := hr 2 rfl
    refine ⟨x, rfl, by omega, by omega, ?_⟩
    refine dLoop_by (fun xs Γ => ∃ (l : List D) (wk : List (List (List Int))) (c4 c5 c6 c7 : Sl), Box l ∧ Γ = [.own true l, .dat (.int g), .dat (.int m), .own false (wk.map ltI), c4, c5, c6, c7] ∧ soft c4 = true ∧ soft c5 = true ∧ soft c6 = true ∧ soft c7 = true ∧ wk.length + xs.length = (1 + x).toNat ∧
      ∀ os ∈ wk, 1 ≤ os.length ∧ os.length ≤ 3 ∧ os.Nodup ∧ ∀ o ∈ os, o.length = g ∧ ∀ n ∈ o, 0 ≤ n ∧ n ≤ (m : Int)) ?_ ?_ _ _ ⟨l1, [], _, _, _, _, hb1, rfl, rfl, rfl, rfl, rfl, by rw [rangeD_len]; exact Nat.zero_add _, by simp⟩
    · rintro Γ ⟨l, wk, c4, c5, c6, c7, hb, rfl, _, _, _, _, hl, hw⟩
      walk_at "rd"
      rw [List.length_nil] at hl
      exact q _ _ ⟨hb, fun g' m' e => by cases e; exact ⟨wk, rfl, by omega, by omega, hw⟩⟩
    · rintro y r Γ ⟨l, wk, c4, c5, c6, c7, hb, rfl, h4, h5, h6, h7, hl, hw⟩
      refine ⟨_, if_pos h4, fun L hL => ?_⟩
      rw [List.length_cons] at hl
      walk_at "rd"
      refine ⟨by decide, h5, ⟨hb, 3, by decide, rfl⟩, ?_⟩
      rintro r2 l2 ⟨hb2, hr2⟩
      obtain ⟨z, rfl, z0, z1⟩ := hr2 3 rfl
      refine ⟨z, rfl, by omega, by omega, ?_⟩
      refine dLoop_by (fun xs Γ => ∃ (l : List D) (os : List (List Int)) (c6 c7 : Sl), Box l ∧ Γ = [.own true l, .dat (.int g), .dat (.int m), .own false (wk.map ltI), .dat y, .own false (os.map tI), c6, c7] ∧ soft c6 = true ∧ soft c7 = true ∧ os.length + xs.length ≤ (1 + z).toNat ∧ (os = [] → xs.length = (1 + z).toNat) ∧ os.Nodup ∧ ∀ o ∈ os, o.length = g ∧ ∀ n ∈ o, 0 ≤ n ∧ n ≤ (m : Int)) ?_ ?_ _ _
        ⟨l2, [], _, _, hb2, rfl, h6, h7, by rw [rangeD_len]; exact Nat.le_of_eq (Nat.zero_add _), fun _ => rangeD_len _ _, List.nodup_nil, by simp⟩
      · rintro Γ ⟨l, os, c6, c7, hb, rfl, h6, h7, ho1, ho2, ho3, ho4⟩
        walk_at "rd"
        rw [List.length_nil] at ho1 ho2
        have hne : 1 ≤ os.length := by
          cases os with
          | nil => have := ho2 rfl; omega
          | cons _ _ => exact Nat.succ_le_succ (Nat.zero_le _)
        refine ⟨⟨_, rfl⟩, by omega, hL _ ⟨l, wk ++ [os], _, _, _, _, hb, by rw [← map_snoc' ltI], rfl, rfl, h6, h7, by rw [List.length_append, List.length_singleton]; omega, fun os' hm => ?_⟩⟩
        rcases List.mem_append.mp hm with hm | hm
        · exact hw os' hm
        · rw [List.mem_singleton.mp hm]
          exact ⟨hne, by omega, ho3, ho4⟩
      · rintro u r3 Γ ⟨l, os, c6, c7, hb, rfl, h6, h7, ho1, ho2, ho3, ho4⟩
        refine ⟨_, if_pos h6, fun L' hL' => ?_⟩
        rw [List.length_cons] at ho1 ho2
        walk_at "rd"
        refine ⟨⟨hb, g, m, hg, rfl⟩, ?_⟩
        rintro r4 l4 ⟨hb4, hr4⟩
        obtain ⟨o, rfl, og, om⟩ := hr4 g m rfl
        refine ⟨h7, okD_tI o, okD_ltI os, ?_⟩
        intro b hbq
        rw [tI_mem] at hbq
        cases b with
        | true =>
          have hin := hbq.mp rfl
          exact hL' _ ⟨l4, os, _, _, hb4, rfl, rfl, rfl, by omega, fun e => by rw [e] at hin; simp at hin, ho3, ho4⟩
        | false =>
          have hno : o ∉ os := fun h => Bool.false_ne_true (hbq.mpr h)
          simp only [Bool.not_false, if_true]
          refine ⟨⟨_, rfl⟩, by omega, hL' _ ⟨l4, os ++ [o], _, _, hb4, by rw [← map_snoc' tI], rfl, rfl, by rw [List.length_append, List.length_singleton]; omega, fun e => by simp at e, ?_, fun o' hm => ?_⟩⟩
          · exact List.nodup_append.mpr ⟨ho3, by simp, fun a ha b hb2 e => hno (by rw [← List.mem_singleton.mp hb2, ← e]; exact ha)⟩
          · rcases List.mem_append.mp hm with hm | hm
            · exact ho4 o' hm
            · rw [List.mem_singleton.mp hm]
              exact ⟨og, om⟩
end
end K06

set_option Elab.async false
set_option linter.all false
set_option maxRecDepth 100000
set_option maxHeartbeats 4000000
namespace K06
open PySem PySem.Spec PyProof.Rows L2 DL QG GG
local macro_rules | `(tactic| walk_at "rd") => `(tactic| simp only [dAllG, dAnyG, dSumG, capD, genG, dElt, dZipK, dEnK, dRep, dCat2, dAugIx, rdEqB, dIsT, tyN, rdSortR, dFld, dChain, dSlT, dSlL, dPn, dPs, rdCatT, dLc2, fvD, Option.map_some, dFSeq, dSetF, dFNil, DL.pairD, List.replicate_succ, Bool.not_true, Bool.not_false, dSeq, dIfS, dB, dOp, dVar, dC, dCB, dCO, dACons, dANil, dRet, dAsg, dAsgO, dAsgOF, dExpr, dSetIx, dApp, dOf, dTup, dLst, dCat, dUn, dFor, dRng1, dRng2, dItL, dItT, dZip, dLc, dNext, dAnd, dOr, dNot, dAndV, dOrV, dIfE, dYes, dAug, dCall, dCallB, dCallX, dRaise, dEz, dBreak, dCont, dRetN, sdR, sdBR, sdX, dIsN,
  rdLen, rdInt, rdMM, rdTup, rdLstOf, rdSum, rdIx, rdI, rdI0, rdEq, rdIn, asD, itemsOf_lst, itemsOf_tup, fix, fixL, startD, notOwn, freeOk_fr, frS_dat, frS_non, frS_own, okW, wipeG, dgName, dgTup, dgsCons, dgsNil, gAdd, DL.gSub, gMul, gMod, gDiv, gPow, gLt, gLe, gGt, gGe, atI_c0, atI_c1, atI_c2, atI_c3, atI_c4, ixN_21, ixN_20, soft_dat, soft_non, soft_own,
  List.cons_append, List.nil_append, List.map_cons, List.map_nil, List.length_cons, List.length_nil, List.length_map, List.getElem?_cons_zero, List.getElem?_cons_succ, List.set_cons_zero, List.set_cons_succ, List.replicate_succ, List.replicate_zero, Nat.reduceSub, Nat.reduceAdd, Nat.zero_add, List.all_cons, List.all_nil, Option.some.injEq, Prod.mk.injEq, Option.bind_some, reduceCtorEq,
  Wv.dat.injEq, Wv.slot.injEq, D.obj.injEq, D.int.injEq, D.bl.injEq, D.lst.injEq, D.tup.injEq, List.cons.injEq, Sl.dat.injEq, Sl.own.injEq, exists_eq_left, exists_eq_left', exists_and_left, exists_and_right, exists_eq_right, exists_eq, exists_false, exists_const, true_and, and_true, false_and, and_false, ite_true, ite_false, if_true, if_false, eq_self, ↓reduceIte, Bool.and_true, Bool.true_and, and_self, or_false, false_or, Bool.false_eq_true, and_assoc, exists_prop, exists_eq_right_right, exists_eq_right', forall_eq, forall_eq', Int.reducePow, Int.reduceToNat, decide_eq_true_eq])
local macro_rules | `(tactic| walk_at "rs") => `(tactic| simp only [dAllG, dAnyG, dSumG, capD, genG, dElt, dZipK, dEnK, dRep, dCat2, dAugIx, rdEqB, dIsT, tyN, rdSortR, dFld, dChain, dSlT, dSlL, dPn, dPs, rdCatT, dLc2, fvD, Option.map_some, dFSeq, dSetF, dFNil, DL.pairD, List.replicate_succ, Bool.not_true, Bool.not_false, dIfS, dB, dOp, dVar, dC, dCB, dCO, dACons, dANil, dRet, dAsg, dAsgO, dAsgOF, dExpr, dSetIx, dApp, dOf, dTup, dLst, dCat, dUn, dFor, dRng1, dRng2, dItL, dItT, dZip, dLc, dNext, dAnd, dOr, dNot, dAndV, dOrV, dIfE, dYes, dAug, dCall, dCallB, dCallX, dRaise, dEz, dBreak, dCont, dRetN, sdR, sdBR, sdX, dIsN,
  rdLen, rdInt, rdMM, rdTup, rdLstOf, rdSum, rdIx, rdI, rdI0, rdEq, rdIn, asD, itemsOf_lst, itemsOf_tup, fix, fixL, startD, notOwn, freeOk_fr, frS_dat, frS_non, frS_own, okW, wipeG, dgName, dgTup, dgsCons, dgsNil, gAdd, DL.gSub, gMul, gMod, gDiv, gPow, gLt, gLe, gGt, gGe, atI_c0, atI_c1, atI_c2, atI_c3, atI_c4, ixN_21, ixN_20, soft_dat, soft_non, soft_own,
  List.cons_append, List.nil_append, List.map_cons, List.map_nil, List.length_cons, List.length_nil, List.length_map, List.getElem?_cons_zero, List.getElem?_cons_succ, List.set_cons_zero, List.set_cons_succ, List.replicate_succ, List.replicate_zero, Nat.reduceSub, Nat.reduceAdd, Nat.zero_add, List.all_cons, List.all_nil, Option.some.injEq, Prod.mk.injEq, Option.bind_some, reduceCtorEq,
  Wv.dat.injEq, Wv.slot.injEq, D.obj.injEq, D.int.injEq, D.bl.injEq, D.lst.injEq, D.tup.injEq, List.cons.injEq, Sl.dat.injEq, Sl.own.injEq, exists_eq_left, exists_eq_left', exists_and_left, exists_and_right, exists_eq_right, exists_eq, exists_false, exists_const, true_and, and_true, false_and, and_false, ite_true, ite_false, if_true, if_false, eq_self, ↓reduceIte, Bool.and_true, Bool.true_and, and_self, or_false, false_or, Bool.false_eq_true, and_assoc, exists_prop, exists_eq_right_right, exists_eq_right', forall_eq, forall_eq', Int.reducePow, Int.reduceToNat, decide_eq_true_eq])
section
variable {P : Program} {w : World} {K : PySem.W.Frag} {mg : Str → Option Value} {base : Heap} {ts : List Addr}
/-! the parts of a shop -/
abbrev encP (p : Int × List Int) : D := .tup [.int p.1, tI p.2]
def encB : Option Int → D
  | none => .non
  | some n => .int n
abbrev encParts (keep : List Int) (pats : List (Int × List Int)) (most : Int) (wk : List (List (List Int))) (bud : Option Int) : D := .lst [lI keep, .lst (pats.map encP), .int most, encW wk, encB bud]
structure PartsOk (g h : Nat) (keep : List Int) (pats : List (Int × List Int)) (most : Int) (wk : List (List (List Int))) (bud : Option Int) : Prop where
  kl : keep.length = g
  kb : ∀ n ∈ keep, 1 ≤ n ∧ n ≤ (h : Int)
  p1 : 1 ≤ pats.length
  p3 : pats.length ≤ 3
  pb : ∀ p ∈ pats, 0 ≤ p.1 ∧ p.1 ≤ 9 ∧ p.2.length = g ∧ ∀ n ∈ p.2, 0 ≤ n ∧ n ≤ 2
  mb : 1 ≤ most ∧ most ≤ 2
  wb : ∃ m : Nat, 1 ≤ m ∧ m ≤ 3 ∧ WeekOk g m wk
  bb : ∀ n, bud = some n → 0 ≤ n ∧ n < 20
def prePt (l ds : List D) : Prop := Box l ∧ ∃ g h : Nat, g ≤ 100 ∧ 1 ≤ h ∧ h ≤ 100 ∧ ds = [.int g, .int h]
def postPt (l ds : List D) (r : D) (l' : List D) : Prop := Box l' ∧ ∀ g h : Nat, ds = [.int g, .int h] → ∃ keep pats most wk bud, r = encParts keep pats most wk bud ∧ PartsOk g h keep pats most wk bud
abbrev SpPt (K : PySem.W.Frag) (ts : List Addr) : Sp := spB K ts (sdBR prePt postPt)
theorem pick3 (d : D) {i : Int} (h0 : 0 ≤ i) (h3 : i < 3) : ∃ e, atI [D.non, D.non, d] i = some e ∧ (e = .non ∨ e = d) := by
  have : i = 0 ∨ i = 1 ∨ i = 2 := by omega
  rcases this with rfl | rfl | rfl
  · exact ⟨_, rfl, .inl rfl⟩
  · exact ⟨_, rfl, .inl rfl⟩
  · exact ⟨_, rfl, .inr rfl⟩
theorem ok_law_parts {f : Addr} {fd : FuncData} (T : Tx mg) (F : Fun K "_law_parts" "_law_parts" s_law_parts f fd) (D__law_draw : Dn P w K mg base "_law_draw" 1 ["box", "many"] (SpDraw K ts)) (D__law_counts : Dn P w K mg base "_law_counts" 2 ["box", "goods", "most"] (SpCnt K ts)) (D__law_week : Dn P w K mg base "_law_week" 3 ["box", "goods", "most"] (SpWk K ts)) : FnOk P w K mg base CX0 4 f fd ["box", "goods", "longest"] (SpPt K ts) := by
  refine' okDefB F sc_law_parts (by decide) ?hl ?hb ?hr
  case hb =>
    intro cdv A outer s H E hr
    exact (pds_cons (pd_setLc 3 [("good", 7)] (fun _ => rfl) (fun _ => sc_law_parts.nd) (pdi_range1 (fun _ => rfl) (fun _ => T.range) (pda_cons (pd_var 1) pda_nil)) (fun _ => sw_true rfl rfl rfl (by decide +kernel)) (fun _ => blkOk_by (own := [("good", 7)]) (N := N_law_parts) (sc := defScope s_law_parts) (by decide +kernel)) (pdg_name 7 (fun _ => sc_law_parts.nd)) pdts_nil (pd_add pd_int (pd_callBN 0 (fun _ => D__law_draw) (fun _ => hr.mono (by decide)) (pda_cons (pd_var 0) (pda_cons (pd_var 2) pda_nil)))))
    (pds_cons (pd_asgO 4 (fun _ => sc_law_parts.nd) (pdo_lst pda_nil))
    (pds_cons (pd_for (fun _ => PassesOwn.never) (fun _ => rfl) (pdi_range1 (fun _ => rfl) (fun _ => T.range) (pda_cons (pd_add pd_int (pd_callBN 0 (fun _ => D__law_draw) (fun _ => hr.mono (by decide)) (pda_cons (pd_var 0) (pda_cons pd_int pda_nil)))) pda_nil)) (pdg_name 5 (fun _ => sc_law_parts.nd)) (pds_one (pd_app 4 (pd_tup (pda_cons (pd_callBN 0 (fun _ => D__law_draw) (fun _ => hr.mono (by decide)) (pda_cons (pd_var 0) (pda_cons pd_int pda_nil))) (pda_cons (pd_callBN 0 (fun _ => D__law_counts) (fun _ => hr.mono (by decide)) (pda_cons (pd_var 0) (pda_cons (pd_var 1) (pda_cons pd_int pda_nil)))) pda_nil))))))
    (pds_cons (pd_asg 6 (fun _ => sc_law_parts.nd) (pd_ix (pd_of (pdo_lst (pda_cons pd_non (pda_cons pd_non (pda_cons (pd_callBN 0 (fun _ => D__law_draw) (fun _ => hr.mono (by decide)) (pda_cons (pd_var 0) (pda_cons pd_int pda_nil))) pda_nil))))) (pd_callBN 0 (fun _ => D__law_draw) (fun _ => hr.mono (by decide)) (pda_cons (pd_var 0) (pda_cons pd_int pda_nil)))))
    (pds_one (pd_ret (pd_of (pdo_lst (pda_cons (pd_var 3) (pda_cons (pd_var 4) (pda_cons (pd_add pd_int (pd_callBN 0 (fun _ => D__law_draw) (fun _ => hr.mono (by decide)) (pda_cons (pd_var 0) (pda_cons pd_int pda_nil)))) (pda_cons (pd_callBN 0 (fun _ => D__law_week) (fun _ => hr.mono (by decide)) (pda_cons (pd_var 0) (pda_cons (pd_var 1) (pda_cons (pd_ix (pd_of (pdo_lst (pda_cons pd_int (pda_cons pd_int (pda_cons pd_int pda_nil))))) (pd_callBN 0 (fun _ => D__law_draw) (fun _ => hr.mono (by decide)) (pda_cons (pd_var 0) (pda_cons pd_int pda_nil)))) pda_nil)))) (pda_cons (pd_var 6) pda_nil)))))))))))))
  case hl =>
    rintro l ds Q ⟨⟨_, g, h, _, _, _, rfl⟩, _⟩
    rfl
  case hr =>
    rintro l ds Q ⟨⟨hb, g, h, hg, hh1, hh, rfl⟩, q⟩
    rw [seq_go]
    walk_at "rs"
    refine ⟨by omega, by omega, by rw [rangeD_len]; omega, ?_⟩
    refine dLcR_by (fun xs acc Γ => ∃ (l' : List D) (ns : List Int) (c7 : Sl), Box l' ∧ acc = ns.map .int ∧ ns.length + xs.length = g ∧ (∀ n ∈ ns, 1 ≤ n ∧ n ≤ (h : Int)) ∧ Γ = [.own true l', .dat (.int g), .dat (.int h), .non, .non, .non, .non, c7] ∧ soft c7 = true) ?_ ?_ _ _ _ ⟨l, [], _, hb, rfl, by rw [rangeD_len]; exact Nat.zero_add _, by simp, rfl, rfl⟩
    · rintro acc Γ ⟨l1, keep, c7, hb1, rfl, hkl, hkb, rfl, h7⟩
      refine ⟨rfl, ?_⟩
      rw [List.length_nil] at hkl
      rw [seq_go]
      walk_at "rs"
      refine ⟨by decide, ?_⟩
      rw [seq_go]
      walk_at "rs"
      refine ⟨⟨hb1, 3, by decide, rfl⟩, ?_⟩
      rintro r2 l2 ⟨hb2, hr2⟩
      obtain ⟨z, rfl, z0, z1⟩ := hr2 3 rfl
      refine ⟨z, rfl, by omega, by omega, ?_⟩
      refine dLoop_by (fun xs Γ => ∃ (l : List D) (ps : List (Int × List Int)) (c5 : Sl), Box l ∧ Γ = [.own true l, .dat (.int g), .dat (.int h), .own false (keep.map .int), .own false (ps.map encP), c5, .non, c7] ∧ soft c5 = true ∧ ps.length + xs.length = (1 + z).toNat ∧ ∀ p ∈ ps, 0 ≤ p.1 ∧ p.1 ≤ 9 ∧ p.2.length = g ∧ ∀ n ∈ p.2, 0 ≤ n ∧ n ≤ 2) ?_ ?_ _ _
        ⟨l2, [], _, hb2, rfl, rfl, by rw [rangeD_len]; exact Nat.zero_add _, by simp⟩
      · rintro Γ ⟨l3, ps, c5, hb3, rfl, h5, hpl, hpb⟩
        rw [List.length_nil] at hpl
        dsimp only
        refine seq_cut (fun Γ => ∃ (l : List D) (bud : Option Int), Box l ∧ (∀ n, bud = some n → 0 ≤ n ∧ n < 20) ∧ Γ = [.own true l, .dat (.int g), .dat (.int h), .own false (keep.map .int), .own false (ps.map encP), c5, .dat (encB bud), c7]) ?_ ?_
        · rintro Γ ⟨l4, bud, hb4, hbud, rfl⟩
          walk_at "rd"
          refine ⟨⟨hb4, 2, by decide, rfl⟩, ?_⟩
          rintro r5 l5 ⟨hb5, hr5⟩
          obtain ⟨x, rfl, x0, x1⟩ := hr5 2 rfl
          refine ⟨x, rfl, by decide, ⟨hb5, 3, by decide, rfl⟩, ?_⟩
          rintro r6 l6 ⟨hb6, hr6⟩
          obtain ⟨y, rfl, y0, y1⟩ := hr6 3 rfl
          obtain ⟨m, hm, hm1, hm3⟩ : ∃ m : Nat, atI [D.int 1, D.int 2, D.int 3] y = some (D.int m) ∧ 1 ≤ m ∧ m ≤ 3 := by
            have : y = 0 ∨ y = 1 ∨ y = 2 := by omega
            rcases this with rfl | rfl | rfl
            · exact ⟨1, rfl, by decide, by decide⟩
            · exact ⟨2, rfl, by decide, by decide⟩
            · exact ⟨3, rfl, by decide, by decide⟩
          refine ⟨y, rfl, _, hm, ⟨hb6, g, m, by omega, rfl⟩, ?_⟩
          rintro r7 l7 ⟨hb7, hr7⟩
          obtain ⟨wk, rfl, hwk⟩ := hr7 g m rfl
          refine ⟨by decide, q _ _ ⟨hb7, fun g' h' e => ?_⟩⟩
          injection e with e1 e2
          injection e1 with e1
          injection e2 with e2
          injection e2 with e2
          have eg : g = g' := by omega
          have eh : h = h' := by omega
          subst eg eh
          exact ⟨keep, ps, 1 + x, wk, bud, rfl, ⟨by omega, hkb, by omega, by omega, hpb, by omega, ⟨m, hm1, hm3, hwk⟩, hbud⟩⟩
        · intro L hL
          walk_at "rd"
          refine ⟨⟨hb3, 20, by decide, rfl⟩, ?_⟩
          rintro r4 l4 ⟨hb4, hr4⟩
          obtain ⟨b0, rfl, b1, b2⟩ := hr4 20 rfl
          refine ⟨by decide, ⟨hb4, 3, by decide, rfl⟩, ?_⟩
          rintro r5 l5 ⟨hb5, hr5⟩
          obtain ⟨i, rfl, i0, i3⟩ := hr5 3 rfl
          obtain ⟨bd, hbd, hbd2⟩ := pick3 (.int b0) i0 i3
          refine ⟨i, rfl, bd, hbd, ?_⟩
          rcases hbd2 with rfl | rfl
          · exact hL _ ⟨l5, none, hb5, (fun n e => by cases e), rfl⟩
          · exact hL _ ⟨l5, some b0, hb5, (fun n e => by cases e; exact ⟨b1, b2⟩), rfl⟩
      · rintro x r3 Γ ⟨l3, ps, c5, hb3, rfl, h5, hpl, hpb⟩
        refine ⟨_, if_pos h5, fun L hL => ?_⟩
        rw [List.length_cons] at hpl
        walk_at "rd"
        refine ⟨⟨_, rfl⟩, ⟨hb3, 10, by decide, rfl⟩, ?_⟩
        rintro r4 l4 ⟨hb4, hr4⟩
        obtain ⟨v, rfl, v0, v1⟩ := hr4 10 rfl
        refine ⟨⟨hb4, g, 2, by omega, rfl⟩, ?_⟩
        rintro r5 l5 ⟨hb5, hr5⟩
        obtain ⟨o, rfl, og, om⟩ := hr5 g 2 rfl
        refine ⟨by decide, by omega, hL _ ⟨l5, ps ++ [(v, o)], _, hb5, by rw [← map_snoc' encP], rfl, by rw [List.length_append, List.length_singleton]; omega, fun p hp => ?_⟩⟩
        rcases List.mem_append.mp hp with hp | hp
        · exact hpb p hp
        · rw [List.mem_singleton.mp hp]
          exact ⟨v0, by show v ≤ 9; omega, og, om⟩
    · rintro x r acc Γ ⟨l1, ns, c7, hb1, rfl, hl, hn, rfl, h7⟩
      refine ⟨_, if_pos h7, fun L hL => ?_⟩
      walk_at "rd"
      refine ⟨⟨hb1, h, by omega, rfl⟩, ?_⟩
      rintro r' l2 ⟨hb2, hr⟩
      obtain ⟨v, rfl, v0, v1⟩ := hr _ rfl
      refine ⟨v, rfl, ?_⟩
      refine hL _ _ ⟨l2, ns ++ [1 + v], _, hb2, map_snoc ns _, by rw [List.length_append, List.length_singleton]; rw [List.length_cons] at hl; omega, fun n hn2 => ?_, rfl, rfl⟩
      rcases List.mem_append.mp hn2 with z | z
      · exact hn n z
      · rw [List.mem_singleton.mp z]; omega
end
end K06

set_option Elab.async false
set_option linter.all false
set_option maxRecDepth 100000
set_option maxHeartbeats 4000000
namespace K06
open PySem PySem.Spec PyProof.Rows L2 DL QG GG
local macro_rules | `(tactic| walk_at "rd") => `(tactic| simp only [dAllG, dAnyG, dSumG, capD, genG, dElt, dZipK, dEnK, dRep, dCat2, dAugIx, rdEqB, dIsT, tyN, rdSortR, dFld, dChain, dSlT, dSlL, dPn, dPs, rdCatT, dLc2, fvD, Option.map_some, dFSeq, dSetF, dFNil, DL.pairD, List.replicate_succ, Bool.not_true, Bool.not_false, dSeq, dIfS, dB, dOp, dVar, dC, dCB, dCO, dACons, dANil, dRet, dAsg, dAsgO, dAsgOF, dExpr, dSetIx, dApp, dOf, dTup, dLst, dCat, dUn, dFor, dRng1, dRng2, dItL, dItT, dZip, dLc, dNext, dAnd, dOr, dNot, dAndV, dOrV, dIfE, dYes, dAug, dCall, dCallB, dCallX, dRaise, dEz, dBreak, dCont, dRetN, sdR, sdBR, sdX, dIsN,
  rdLen, rdInt, rdMM, rdTup, rdLstOf, rdSum, rdIx, rdI, rdI0, rdEq, rdIn, asD, itemsOf_lst, itemsOf_tup, fix, fixL, startD, notOwn, freeOk_fr, frS_dat, frS_non, frS_own, okW, wipeG, dgName, dgTup, dgsCons, dgsNil, gAdd, DL.gSub, gMul, gMod, gDiv, gPow, gLt, gLe, gGt, gGe, atI_c0, atI_c1, atI_c2, atI_c3, atI_c4, ixN_21, ixN_20, soft_dat, soft_non, soft_own,
  List.cons_append, List.nil_append, List.map_cons, List.map_nil, List.length_cons, List.length_nil, List.length_map, List.getElem?_cons_zero, List.getElem?_cons_succ, List.set_cons_zero, List.set_cons_succ, List.replicate_succ, List.replicate_zero, Nat.reduceSub, Nat.reduceAdd, Nat.zero_add, List.all_cons, List.all_nil, Option.some.injEq, Prod.mk.injEq, Option.bind_some, reduceCtorEq,
  Wv.dat.injEq, Wv.slot.injEq, D.obj.injEq, D.int.injEq, D.bl.injEq, D.lst.injEq, D.tup.injEq, List.cons.injEq, Sl.dat.injEq, Sl.own.injEq, exists_eq_left, exists_eq_left', exists_and_left, exists_and_right, exists_eq_right, exists_eq, exists_false, exists_const, true_and, and_true, false_and, and_false, ite_true, ite_false, if_true, if_false, eq_self, ↓reduceIte, Bool.and_true, Bool.true_and, and_self, or_false, false_or, Bool.false_eq_true, and_assoc, exists_prop, exists_eq_right_right, exists_eq_right', forall_eq, forall_eq', Int.reducePow, Int.reduceToNat, decide_eq_true_eq])
local macro_rules | `(tactic| walk_at "rs") => `(tactic| simp only [dAllG, dAnyG, dSumG, capD, genG, dElt, dZipK, dEnK, dRep, dCat2, dAugIx, rdEqB, dIsT, tyN, rdSortR, dFld, dChain, dSlT, dSlL, dPn, dPs, rdCatT, dLc2, fvD, Option.map_some, dFSeq, dSetF, dFNil, DL.pairD, List.replicate_succ, Bool.not_true, Bool.not_false, dIfS, dB, dOp, dVar, dC, dCB, dCO, dACons, dANil, dRet, dAsg, dAsgO, dAsgOF, dExpr, dSetIx, dApp, dOf, dTup, dLst, dCat, dUn, dFor, dRng1, dRng2, dItL, dItT, dZip, dLc, dNext, dAnd, dOr, dNot, dAndV, dOrV, dIfE, dYes, dAug, dCall, dCallB, dCallX, dRaise, dEz, dBreak, dCont, dRetN, sdR, sdBR, sdX, dIsN,
  rdLen, rdInt, rdMM, rdTup, rdLstOf, rdSum, rdIx, rdI, rdI0, rdEq, rdIn, asD, itemsOf_lst, itemsOf_tup, fix, fixL, startD, notOwn, freeOk_fr, frS_dat, frS_non, frS_own, okW, wipeG, dgName, dgTup, dgsCons, dgsNil, gAdd, DL.gSub, gMul, gMod, gDiv, gPow, gLt, gLe, gGt, gGe, atI_c0, atI_c1, atI_c2, atI_c3, atI_c4, ixN_21, ixN_20, soft_dat, soft_non, soft_own,
  List.cons_append, List.nil_append, List.map_cons, List.map_nil, List.length_cons, List.length_nil, List.length_map, List.getElem?_cons_zero, List.getElem?_cons_succ, List.set_cons_zero, List.set_cons_succ, List.replicate_succ, List.replicate_zero, Nat.reduceSub, Nat.reduceAdd, Nat.zero_add, List.all_cons, List.all_nil, Option.some.injEq, Prod.mk.injEq, Option.bind_some, reduceCtorEq,
  Wv.dat.injEq, Wv.slot.injEq, D.obj.injEq, D.int.injEq, D.bl.injEq, D.lst.injEq, D.tup.injEq, List.cons.injEq, Sl.dat.injEq, Sl.own.injEq, exists_eq_left, exists_eq_left', exists_and_left, exists_and_right, exists_eq_right, exists_eq, exists_false, exists_const, true_and, and_true, false_and, and_false, ite_true, ite_false, if_true, if_false, eq_self, ↓reduceIte, Bool.and_true, Bool.true_and, and_self, or_false, false_or, Bool.false_eq_true, and_assoc, exists_prop, exists_eq_right_right, exists_eq_right', forall_eq, forall_eq', Int.reducePow, Int.reduceToNat, decide_eq_true_eq])
section
variable {P : Program} {w : World} {K : PySem.W.Frag} {mg : Str → Option Value} {base : Heap} {ts : List Addr}
abbrev s_law_stock : Stmt := top 23
abbrev N_law_stock : List Str := ["box", "parts", "most", "place", "days"]
theorem sc_law_stock : FnScope N_law_stock ["box", "parts", "most"] (defScope s_law_stock) := ⟨rfl, rfl, rfl, by decide +kernel, rfl, by decide +kernel, by decide +kernel⟩

/-! a stock -/
def StockOk (keep : List Int) (m : Nat) (st : List (List Int)) : Prop := st.map (fun r => (r.length : Int)) = keep ∧ ∀ r ∈ st, ∀ n ∈ r, 0 ≤ n ∧ n ≤ (m : Int)
def preSt (l ds : List D) : Prop := Box l ∧ ∃ (keep : List Int) (rest : List D) (m : Nat), keep.length ≤ 100 ∧ (∀ n ∈ keep, 0 ≤ n ∧ n ≤ 100) ∧ ds = [.lst (lI keep :: rest), .int m]
def postSt (l ds : List D) (r : D) (l' : List D) : Prop := Box l' ∧ ∀ (keep : List Int) (rest : List D) (m : Nat), ds = [.lst (lI keep :: rest), .int m] → ∃ st, r = ttI st ∧ StockOk keep m st
abbrev SpSt (K : PySem.W.Frag) (ts : List Addr) : Sp := spB K ts (sdBR preSt postSt)
theorem ok_law_stock {f : Addr} {fd : FuncData} (T : Tx mg) (F : Fun K "_law_stock" "_law_stock" s_law_stock f fd) (D__law_draw : Dn P w K mg base "_law_draw" 1 ["box", "many"] (SpDraw K ts)) : FnOk P w K mg base CX0 2 f fd ["box", "parts", "most"] (SpSt K ts) := by
  refine' okDefB F sc_law_stock (by decide) ?hl ?hb ?hr
  case hb =>
    intro cdv A outer s H E hr
    exact (pds_one (pd_ret (pd_tupOf (fun _ => rfl) (fun _ => T.tuple) (pda_cons (pd_of (pdo_lc [("days", 4)] (fun _ => rfl) (fun _ => sc_law_stock.nd) (pdi_list (pd_ix (pd_var 1) pd_int)) (fun _ => blkOk_by (own := [("days", 4)]) (N := N_law_stock) (sc := defScope s_law_stock) (by decide +kernel)) (pdg_name 4 (fun _ => sc_law_stock.nd)) pdts_nil (pd_tupOf (fun _ => rfl) (fun _ => T.tuple) (pda_cons (pd_of (pdo_lc [("place", 3)] (fun _ => rfl) (fun _ => sc_law_stock.nd) (pdi_range1 (fun _ => rfl) (fun _ => T.range) (pda_cons (pd_var 4) pda_nil)) (fun _ => blkOk_by (own := [("place", 3)]) (by kernel_rfl)) (pdg_name 3 (fun _ => sc_law_stock.nd)) pdts_nil (pd_callBN 0 (fun _ => D__law_draw) (fun _ => hr.mono (by decide)) (pda_cons (pd_var 0) (pda_cons (pd_add (pd_var 2) pd_int) pda_nil))))) pda_nil)))) pda_nil))))
  case hl =>
    rintro l ds Q ⟨⟨_, keep, rest, m, _, _, rfl⟩, _⟩
    rfl
  case hr =>
    rintro l ds Q ⟨⟨hb, keep, rest, m, hkl, hkb, rfl⟩, q⟩
    walk_at "rd"
    refine ⟨by omega, ?_⟩
    refine dLcR_by (fun xs acc Γ => ∃ (l : List D) (st : List (List Int)) (k2 : List Int) (c3 c4 : Sl), Box l ∧ xs = k2.map .int ∧ acc = st.map tI ∧ st.map (fun r => (r.length : Int)) ++ k2 = keep ∧ (∀ r ∈ st, ∀ n ∈ r, 0 ≤ n ∧ n ≤ (m : Int)) ∧ Γ = [.own true l, .dat (.lst (lI keep :: rest)), .dat (.int m), c3, c4] ∧ soft c3 = true ∧ soft c4 = true) ?_ ?_ _ _ _ ⟨l, [], keep, _, _, hb, rfl, rfl, rfl, by simp, rfl, rfl, rfl⟩
    · rintro acc Γ ⟨l, st, k2, c3, c4, hb, hk, rfl, hst, hsb, rfl, h3, h4⟩ l2 e
      cases e
      have : k2 = [] := by
        cases k2 with
        | nil => rfl
        | cons _ _ => cases hk
      subst this
      rw [List.append_nil] at hst
      refine q _ _ ⟨hb, fun k r m' e => ?_⟩
      injection e with e1 e2
      injection e1 with e1
      injection e1 with e1 e3
      injection e1 with e1
      injection e2 with e2
      injection e2 with e2
      have em : (m : Int) = m' := e2
      refine ⟨st, rfl, hst.trans (int_inj e1), fun r hr n hn => ?_⟩
      have := hsb r hr n hn
      omega
    · rintro x r acc Γ ⟨l, st, k2, c3, c4, hb, hk, rfl, hst, hsb, rfl, h3, h4⟩
      refine ⟨_, if_pos h4, fun L hL => ?_⟩
      cases k2 with
      | nil => cases hk
      | cons kd k2 =>
        rw [List.map_cons] at hk
        injection hk with hk1 hk2
        subst hk1 hk2
        have hkd : 0 ≤ kd ∧ kd ≤ 100 := hkb kd (by rw [← hst]; simp)
        walk_at "rd"
        refine ⟨by omega, by omega, h3, by rw [rangeD_len]; omega, ?_⟩
        refine dLcR_by (fun xs acc Γ => ∃ (l : List D) (ns : List Int) (c3 : Sl), Box l ∧ acc = ns.map .int ∧ ns.length + xs.length = kd.toNat ∧ (∀ n ∈ ns, 0 ≤ n ∧ n ≤ (m : Int)) ∧ Γ = [.own true l, .dat (.lst (lI keep :: rest)), .dat (.int m), c3, .dat (.int kd)] ∧ soft c3 = true) ?_ ?_ _ _ _ ⟨l, [], _, hb, rfl, by rw [rangeD_len]; exact Nat.zero_add _, by simp, rfl, rfl⟩
        · rintro acc Γ ⟨l, ns, c3, hb, rfl, hnl, hnb, rfl, h3⟩
          rw [List.length_nil] at hnl
          refine ⟨rfl, hL _ _ ⟨l, st ++ [ns], k2, _, _, hb, rfl, map_snoc' tI st ns, ?_, fun r hr => ?_, rfl, h3, rfl⟩⟩
          · rw [← hst, List.map_append, List.append_assoc]
            have : ((ns.length : Nat) : Int) = kd := by omega
            show _ ++ ([(ns.length : Int)] ++ k2) = _
            rw [this]
            rfl
          · rcases List.mem_append.mp hr with hr | hr
            · exact hsb r hr
            · rw [List.mem_singleton.mp hr]
              exact hnb
        · rintro x r acc Γ ⟨l, ns, c3, hb, rfl, hnl, hnb, rfl, h3⟩
          refine ⟨_, if_pos h3, fun L' hL' => ?_⟩
          rw [List.length_cons] at hnl
          walk_at "rd"
          refine ⟨⟨hb, (m : Int) + 1, by omega, rfl⟩, ?_⟩
          rintro r' l2 ⟨hb2, hr⟩
          obtain ⟨v, rfl, v0, v1⟩ := hr _ rfl
          refine hL' _ _ ⟨l2, ns ++ [v], _, hb2, map_snoc ns v, by rw [List.length_append, List.length_singleton]; omega, fun n hn2 => ?_, rfl, rfl⟩
          rcases List.mem_append.mp hn2 with z | z
          · exact hnb n z
          · rw [List.mem_singleton.mp z]; omega
end
end K06

set_option Elab.async false
set_option linter.all false
set_option maxRecDepth 100000
set_option maxHeartbeats 4000000
namespace K06
open PySem PySem.Spec PyProof.Rows L2 DL QG GG
theorem lk_keep (a b c d e : D) : [(("keep" : Str), a), (("patterns" : Str), b), (("most" : Str), c), (("week" : Str), d), (("budget" : Str), e)].lookup ("keep" : Str) = some a := rfl
theorem lk_patterns (a b c d e : D) : [(("keep" : Str), a), (("patterns" : Str), b), (("most" : Str), c), (("week" : Str), d), (("budget" : Str), e)].lookup ("patterns" : Str) = some b := rfl
theorem lk_most (a b c d e : D) : [(("keep" : Str), a), (("patterns" : Str), b), (("most" : Str), c), (("week" : Str), d), (("budget" : Str), e)].lookup ("most" : Str) = some c := rfl
theorem lk_week (a b c d e : D) : [(("keep" : Str), a), (("patterns" : Str), b), (("most" : Str), c), (("week" : Str), d), (("budget" : Str), e)].lookup ("week" : Str) = some d := rfl
theorem lk_budget (a b c d e : D) : [(("keep" : Str), a), (("patterns" : Str), b), (("most" : Str), c), (("week" : Str), d), (("budget" : Str), e)].lookup ("budget" : Str) = some e := rfl
def msgOf : List Stmt → Expr
  | .Expr (.Call _ [e] _ _) _ :: _ => e
  | _ => .Constant .none 0 ⟨0, 0, 0, 0⟩
end K06

set_option Elab.async false
set_option linter.all false
set_option maxRecDepth 100000
set_option maxHeartbeats 4000000
namespace K06
open PySem PySem.Spec PyProof.Rows L2 DL QG GG
local macro_rules | `(tactic| walk_at "rd") => `(tactic| simp only [exists_eq', lk_keep, lk_patterns, lk_most, lk_week, lk_budget, dMake, dSlL, rdRepT, rdIsB, dAsgT, dAllG, dAnyG, dSumG, capD, genG, dElt, dZipK, dEnK, dRep, dCat2, dAugIx, rdEqB, dIsT, tyN, rdSortR, dFld, dChain, dSlT, dSlL, dPn, dPs, rdCatT, dLc2, fvD, Option.map_some, dFSeq, dSetF, dFNil, DL.pairD, List.replicate_succ, Bool.not_true, Bool.not_false, dSeq, dIfS, dB, dOp, dVar, dC, dCB, dCO, dACons, dANil, dRet, dAsg, dAsgO, dAsgOF, dExpr, dSetIx, dApp, dOf, dTup, dLst, dCat, dUn, dFor, dRng1, dRng2, dItL, dItT, dZip, dLc, dNext, dAnd, dOr, dNot, dAndV, dOrV, dIfE, dYes, dAug, dCall, dCallB, dCallX, dRaise, dEz, dBreak, dCont, dRetN, sdR, sdBR, sdX, dIsN,
  rdLen, rdInt, rdMM, rdTup, rdLstOf, rdSum, rdIx, rdI, rdI0, rdEq, rdIn, asD, itemsOf_lst, itemsOf_tup, fix, fixL, startD, notOwn, freeOk_fr, frS_dat, frS_non, frS_own, okW, wipeG, dgName, dgTup, dgsCons, dgsNil, gAdd, DL.gSub, gMul, gMod, gDiv, gPow, gLt, gLe, gGt, gGe, atI_c0, atI_c1, atI_c2, atI_c3, atI_c4, ixN_21, ixN_20, soft_dat, soft_non, soft_own,
  List.cons_append, List.nil_append, List.map_cons, List.map_nil, List.length_cons, List.length_nil, List.length_map, List.getElem?_cons_zero, List.getElem?_cons_succ, List.set_cons_zero, List.set_cons_succ, List.replicate_succ, List.replicate_zero, Nat.reduceSub, Nat.reduceAdd, Nat.zero_add, List.all_cons, List.all_nil, Option.some.injEq, Prod.mk.injEq, Option.bind_some, reduceCtorEq,
  Wv.dat.injEq, Wv.slot.injEq, D.obj.injEq, D.int.injEq, D.bl.injEq, D.lst.injEq, D.tup.injEq, List.cons.injEq, Sl.dat.injEq, Sl.own.injEq, exists_eq_left, exists_eq_left', exists_and_left, exists_and_right, exists_eq_right, exists_eq, exists_false, exists_const, true_and, and_true, false_and, and_false, ite_true, ite_false, if_true, if_false, eq_self, ↓reduceIte, Bool.and_true, Bool.true_and, and_self, or_false, false_or, Bool.false_eq_true, and_assoc, exists_prop, exists_eq_right_right, exists_eq_right', forall_eq, forall_eq', Int.reducePow, Int.reduceToNat, decide_eq_true_eq])
local macro_rules | `(tactic| walk_at "rs") => `(tactic| simp only [exists_eq', lk_keep, lk_patterns, lk_most, lk_week, lk_budget, dMake, dSlL, rdRepT, rdIsB, dAsgT, dAllG, dAnyG, dSumG, capD, genG, dElt, dZipK, dEnK, dRep, dCat2, dAugIx, rdEqB, dIsT, tyN, rdSortR, dFld, dChain, dSlT, dSlL, dPn, dPs, rdCatT, dLc2, fvD, Option.map_some, dFSeq, dSetF, dFNil, DL.pairD, List.replicate_succ, Bool.not_true, Bool.not_false, dIfS, dB, dOp, dVar, dC, dCB, dCO, dACons, dANil, dRet, dAsg, dAsgO, dAsgOF, dExpr, dSetIx, dApp, dOf, dTup, dLst, dCat, dUn, dFor, dRng1, dRng2, dItL, dItT, dZip, dLc, dNext, dAnd, dOr, dNot, dAndV, dOrV, dIfE, dYes, dAug, dCall, dCallB, dCallX, dRaise, dEz, dBreak, dCont, dRetN, sdR, sdBR, sdX, dIsN,
  rdLen, rdInt, rdMM, rdTup, rdLstOf, rdSum, rdIx, rdI, rdI0, rdEq, rdIn, asD, itemsOf_lst, itemsOf_tup, fix, fixL, startD, notOwn, freeOk_fr, frS_dat, frS_non, frS_own, okW, wipeG, dgName, dgTup, dgsCons, dgsNil, gAdd, DL.gSub, gMul, gMod, gDiv, gPow, gLt, gLe, gGt, gGe, atI_c0, atI_c1, atI_c2, atI_c3, atI_c4, ixN_21, ixN_20, soft_dat, soft_non, soft_own,
  List.cons_append, List.nil_append, List.map_cons, List.map_nil, List.length_cons, List.length_nil, List.length_map, List.getElem?_cons_zero, List.getElem?_cons_succ, List.set_cons_zero, List.set_cons_succ, List.replicate_succ, List.replicate_zero, Nat.reduceSub, Nat.reduceAdd, Nat.zero_add, List.all_cons, List.all_nil, Option.some.injEq, Prod.mk.injEq, Option.bind_some, reduceCtorEq,
  Wv.dat.injEq, Wv.slot.injEq, D.obj.injEq, D.int.injEq, D.bl.injEq, D.lst.injEq, D.tup.injEq, List.cons.injEq, Sl.dat.injEq, Sl.own.injEq, exists_eq_left, exists_eq_left', exists_and_left, exists_and_right, exists_eq_right, exists_eq, exists_false, exists_const, true_and, and_true, false_and, and_false, ite_true, ite_false, if_true, if_false, eq_self, ↓reduceIte, Bool.and_true, Bool.true_and, and_self, or_false, false_or, Bool.false_eq_true, and_assoc, exists_prop, exists_eq_right_right, exists_eq_right', forall_eq, forall_eq', Int.reducePow, Int.reduceToNat, decide_eq_true_eq])
section
variable {P : Program} {w : World} {K : PySem.W.Frag} {mg : Str → Option Value} {base : Heap} {ts : List Addr}
/-! ### an order is issued -/
abbrev shortInit : Stmt := inClass (top 2) 0
abbrev msgS : Expr := msgOf (defBody shortInit)
theorem nm_good : PySem.SupX.Nm "good" := ⟨by decide, by decide, by decide, by decide, by decide, by decide, by decide, by decide, fun _ _ _ _ _ _ _ _ _ _ _ _ _ => .of_eq rfl⟩
theorem fm_short : PySem.SupX.Fm msgS := ⟨fun q0 q1 q2 q3 env hq => ⟨(do return (← importBound (.Call (.Name "super" q0) [] [] q1) env).getD true), by
  rw [arm_eval_Call]
  unfold methodCall
  have h1 : methodCallForm 1 (backTo q3 (starEach [msgS] env)) (backToKw q3 (keywordEach [] env)) = true := rfl
  have h2 : methodCallPos true (.Call (.Name "super" q0) [] [] q1) env q2 q3 = pure q3 := by unfold methodCallPos; simp only [hq, Bool.not_true, Bool.false_or, if_true]
  show (do
    let ov ← attributeBase (.Call (.Name "super" q0) [] [] q1) "__init__" env (eval (.Call (.Name "super" q0) [] [] q1) env)
    standAt q2.atName
    let (f, first) ← holding [ov] (calleeOf (methodCallForm 1 (backTo q3 (starEach [msgS] env)) (backToKw q3 (keywordEach [] env))) (.Call (.Name "super" q0) [] [] q1) env ov "__init__")
    let callPos ← methodCallPos (methodCallForm 1 (backTo q3 (starEach [msgS] env)) (backToKw q3 (keywordEach [] env))) (.Call (.Name "super" q0) [] [] q1) env q2 q3
    callWith callPos f first (backTo q3 (starEach [msgS] env)) (backToKw q3 (keywordEach [] env))) = _
  rw [h1, h2]
  rfl⟩, fun _ => rfl⟩
def okN (v : V) : Prop := ∃ i : Int, v = .int i ∧ 0 ≤ i ∧ i < 1000
def okdN (d : D) : Prop := ∃ i : Int, d = .int i ∧ 0 ≤ i ∧ i < 1000
theorem ok_short : ∀ (K : PySem.W.Frag) (H : Hp) (v : V) (d : D), Rp K H v d → okdN d → okN v := by
  rintro K H v d r ⟨i, rfl, h⟩
  cases r
  exact ⟨i, rfl, h⟩
theorem told_short' {P : Program} {w : World} {v : V} {u : Value} (h : okN v) (r : RelV v u) : PySem.SupX.Told P w "good" msgS u := by
  obtain ⟨i, rfl, h0, h1⟩ := h
  obtain ⟨tk, rfl⟩ := r
  intro A E s env m Q hns hm hk hl hq
  show wpAny _ _ (eval (.JoinedStr [.Constant (.str "there is too little of good ") 0 _, .FormattedValue (.Name "good" _) (-1) none _] _) env) Q E s
  refine wpAny_JoinedStr ?_
  show wpAny _ _ (eval (.Constant (.str "there is too little of good ") 0 _) env) _ E s
  refine Calls.Constant_str ⟨_, _, rfl, by decide +kernel, ?_⟩
  show wpAny _ _ (eval (.FormattedValue (.Name "good" _) (-1) none _) env) _ E _
  refine wpAny_FormattedValue_plain (wpAny_Name (wpAny_loadName_local hk hl hns hm ?_) (by decide))
  have hd : i.natAbs.log2 < 1920 := Nat.lt_of_le_of_lt (Nat.log2_le_self _) (by omega)
  have hlen : (Str.empty ++ ("there is too little of good " : Str) ++ ((toString i : String) : Str)).length ≤ sizeLine := by
    have e := int_text_length_le10 (a := i) (k := 4) (by decide) (by omega)
    rw [strLen_append, PySem.ofString_length, sizeLine_eq]
    have e2 : (Str.empty ++ ("there is too little of good " : Str)).length = 28 := by decide +kernel
    rw [e2]
    omega
  exact wpAny_formatField_int hd ⟨_, _, rfl, hlen, hlen, hq _ _⟩

abbrev s_oldest_taken : Stmt := top 6
abbrev N_oldest_taken : List Str := ["row", "count", "left", "pieces", "taken"]
theorem sc_oldest_taken : FnScope N_oldest_taken ["row", "count"] (defScope s_oldest_taken) := ⟨rfl, rfl, rfl, by decide +kernel, rfl, by decide +kernel, by decide +kernel⟩
abbrev s_check_enough : Stmt := top 4
abbrev N_check_enough : List Str := ["stock", "order", "good", "row", "count"]
theorem sc_check_enough : FnScope N_check_enough ["stock", "order"] (defScope s_check_enough) := ⟨rfl, rfl, rfl, by decide +kernel, rfl, by decide +kernel, by decide +kernel⟩
abbrev s_issue : Stmt := top 5
abbrev N_issue : List Str := ["stock", "order", "row", "count"]
theorem sc_issue : FnScope N_issue ["stock", "order"] (defScope s_issue) := ⟨rfl, rfl, rfl, by decide +kernel, rfl, by decide +kernel, by decide +kernel⟩

/-- oldest first -/
def takeOld : List Int → Int → List Int
  | [], _ => []
  | p :: r, c => (p - if c < p then c else p) :: takeOld r (c - if c < p then c else p)
theorem takeOld_len : ∀ (r : List Int) (c : Int), (takeOld r c).length = r.length
  | [], _ => rfl
  | p :: r, c => by simp only [takeOld, List.length_cons, takeOld_len r]
abbrev sdOT : Sd := sdF (fun a : List Int × Int => [tI a.1, .int a.2]) (fun a => a.1.length ≤ 1000) fun a => tI (takeOld a.1 a.2)
theorem ok_oldest_taken {f : Addr} {fd : FuncData} {k : Nat} (T : Tx mg) (F : Fun K "oldest_taken" "oldest_taken" s_oldest_taken f fd) : FnOk P w K mg base CX0 (k + 1) f fd ["row", "count"] (spD K ts sdOT) := by
  refine' okDef F sc_oldest_taken (by decide) ?hl ?hb ?hr
  case hb =>
    intro cdv A outer s H E hr
    exact (pds_cons (pd_asgO 2 (fun _ => sc_oldest_taken.nd) (pdo_lst pda_nil))
    (pds_cons (pd_for (fun _ => PassesOwn.never) (fun _ => rfl) (pdi_tup (pd_var 0)) (pdg_name 3 (fun _ => sc_oldest_taken.nd)) (pds_cons (pd_asg 4 (fun _ => sc_oldest_taken.nd) (pd_min2 (fun _ => rfl) (fun _ => rfl) (fun _ => T.min) (pda_cons (pd_var 3) (pda_cons (pd_var 1) pda_nil))))
    (pds_cons (pd_app 2 (pd_sub (pd_var 3) (pd_var 4)))
    (pds_one (pd_augSub 1 (fun _ => sc_oldest_taken.nd) (pd_var 4))))))
    (pds_one (pd_ret (pd_tupOf (fun _ => rfl) (fun _ => T.tuple) (pda_cons (pd_var 2) pda_nil))))))
  case hl =>
    rintro ds Q E ⟨a, rfl, _⟩
    rfl
  case hr =>
    rintro ds Q E ⟨⟨r, c⟩, rfl, hlen, q⟩
    dsimp only at hlen q
    walk_at "rd"
    refine ⟨by decide, ?_⟩
    refine dLoop_by (fun xs Γ => ∃ (done rest : List Int) (c' : Int) (c3 c4 : Sl), xs = rest.map D.int ∧ Γ = [.dat (tI r), .dat (.int c'), .own false (done.map D.int), c3, c4] ∧ soft c3 = true ∧ soft c4 = true ∧ takeOld r c = done ++ takeOld rest c' ∧ done.length + rest.length ≤ 1000) ?_ ?_ _ _
      ⟨[], r, c, _, _, rfl, rfl, rfl, rfl, rfl, by simpa using hlen⟩
    · rintro Γ ⟨done, rest, c', c3, c4, hx, rfl, h3, h4, ht, hl⟩
      have : rest = [] := by
        cases rest with
        | nil => rfl
        | cons _ _ => cases hx
      subst this
      walk_at "rd"
      rw [ht] at q
      simpa only [takeOld, List.append_nil] using q
    · rintro x xs Γ ⟨done, rest, c', c3, c4, hx, rfl, h3, h4, ht, hl⟩
      cases rest with
      | nil => cases hx
      | cons p rest =>
        rw [List.map_cons] at hx
        injection hx with hx1 hx2
        subst hx1 hx2
        refine ⟨_, if_pos h3, fun L hL => ?_⟩
        rw [List.length_cons] at hl
        walk_at "rd"
        refine ⟨h4, by omega, hL _ ⟨done ++ [p - if c' < p then c' else p], rest, c' - (if c' < p then c' else p), .dat (.int p), .dat (.int (if c' < p then c' else p)), rfl, ?_, rfl, rfl, ?_, ?_⟩⟩
        · rw [← map_snoc]
        · rw [ht, takeOld, List.append_assoc]
          rfl
        · rw [List.length_append, List.length_singleton]
          omega
/-- the first good of which there is too little -/
def lackAt : Nat → List (List Int) → List Int → Option Nat
  | i, r :: st, c :: od => if r.sum < c then some i else lackAt (i + 1) st od
  | _, _, _ => none
theorem lackAt_lt : ∀ (i : Nat) (st : List (List Int)) (od : List Int) (g : Nat), lackAt i st od = some g → g < i + st.length
  | _, [], _, _, h => by cases h
  | _, _ :: _, [], _, h => by cases h
  | i, r :: st, c :: od, g, h => by
    unfold lackAt at h
    split at h
    · cases h
      simp only [List.length_cons]
      omega
    · have := lackAt_lt (i + 1) st od g h
      simp only [List.length_cons]
      omega
structure StOd (st : List (List Int)) (od : List Int) : Prop where
  ls : st.length ≤ 100
  lr : ∀ r ∈ st, r.length ≤ 1000
  le : st.length = od.length
def sdCE (C : Addr) : Sd := fun ds Q E => ∃ st od, ds = [ttI st, tI od] ∧ StOd st od ∧ match lackAt 0 st od with
  | none => Q .non
  | some g => E C [("good", .int g)]
theorem sdCE_mono {C : Addr} : ∀ ds Q Q' E E', (∀ r, Q r → Q' r) → (∀ C fs, E C fs → E' C fs) → sdCE C ds Q E → sdCE C ds Q' E' := by
  rintro ds Q Q' E E' h1 h2 ⟨st, od, hd, hs, h⟩
  refine ⟨st, od, hd, hs, ?_⟩
  cases q : lackAt 0 st od with
  | none => rw [q] at h; exact h1 _ h
  | some g => rw [q] at h; exact h2 _ _ h
abbrev XS (P : Program) (K : PySem.W.Frag) (mg : Str → Option Value) (C fI cc cda : Addr) : Prop := PySem.SupX.XTxt P K mg "Short" "Short.__init__" "good" msgS C fI cc cda
theorem told_short {P : Program} {w : World} : ∀ v u, okN v → RelV v u → PySem.SupX.Told P w "good" msgS u := fun _ _ => told_short'
theorem ezD_cons (i : Nat) (r : List Int) (st : List (List Int)) (c : Int) (od : List Int) : ezD i ((r :: st).map tI) ((c :: od).map D.int) = .tup [.int i, .tup [tI r, .int c]] :: ezD (i + 1) (st.map tI) (od.map D.int) := rfl
theorem ok_check_enough {f : Addr} {fd : FuncData} {k : Nat} {C fI cc cda : Addr} (T : Tx mg) (XT : XS P K mg C fI cc cda) (F : Fun K "check_enough" "check_enough" s_check_enough f fd) : FnOk P w K mg base (L2.CX P w) (k + 2) f fd ["stock", "order"] (spD K ts (sdCE C)) := by
  refine' okDefX F sc_check_enough (by decide) ?hl ?hb ?hr
  case hb =>
    intro cdv A outer s H E hr tk hp
    exact (pds_one (pd_for (fun _ => hp) (fun _ => rfl) (pdi_ez (fun _ => rfl) (fun _ => T.enumerate) (fun _ => rfl) (fun _ => T.zip) (pda_cons (pd_var 0) (pda_cons (pd_var 1) pda_nil))) (pdg_tup (m := 2) (fun _ => rfl) (pdgs_cons (pdg_name 2 (fun _ => sc_check_enough.nd)) (pdgs_cons (pdg_tup (m := 2) (fun _ => rfl) (pdgs_cons (pdg_name 3 (fun _ => sc_check_enough.nd)) (pdgs_cons (pdg_name 4 (fun _ => sc_check_enough.nd)) pdgs_nil))) pdgs_nil))) (pds_one (pd_if (pdt_lt (pd_sum (fun _ => rfl) (fun _ => rfl) (fun _ => T.sum) (pda_cons (pd_var 3) pda_nil)) (pd_var 4)) (pds_one (pd_raise (fun _ => rfl) (fun _ => XT) nm_good fm_short (fun _ => told_short) ok_short (fun _ => hr) (fun _ => tk) (pd_var 2))) pds_nil))))
  case hl =>
    rintro ds Q E ⟨st, od, rfl, _, _⟩
    rfl
  case hr =>
    rintro ds Q E ⟨st, od, rfl, hs, q⟩
    walk_at "rd"
    refine dLoop_by (fun xs Γ => ∃ (i : Nat) (st' : List (List Int)) (od' : List Int) (c2 c3 c4 : Sl), xs = ezD i (st'.map tI) (od'.map D.int) ∧ Γ = [.dat (ttI st), .dat (tI od), c2, c3, c4] ∧ soft c2 = true ∧ soft c3 = true ∧ soft c4 = true ∧ lackAt 0 st od = lackAt i st' od' ∧ st'.length = od'.length ∧ i + st'.length ≤ 100) ?_ ?_ _ _
      ⟨0, st, od, _, _, _, rfl, rfl, rfl, rfl, rfl, rfl, hs.le, by have := hs.ls; omega⟩
    · rintro Γ ⟨i, st', od', c2, c3, c4, hx, rfl, h2, h3, h4, hl, hle, hi⟩
      have : lackAt 0 st od = none := by
        rw [hl]
        cases st' with
        | nil => rfl
        | cons r st' =>
          cases od' with
          | nil => cases hle
          | cons c od' => cases hx
      rw [this] at q
      exact q
    · rintro x xs Γ ⟨i, st', od', c2, c3, c4, hx, rfl, h2, h3, h4, hl, hle, hi⟩
      cases st' with
      | nil => cases hx
      | cons r st' =>
        cases od' with
        | nil => cases hx
        | cons c od' =>
          rw [ezD_cons] at hx
          injection hx with hx1 hx2
          subst hx1 hx2
          have e2 : notOwn [.dat (ttI st), .dat (tI od), c2, c3, c4] 2 = true := h2
          refine ⟨[.dat (ttI st), .dat (tI od), .dat (.int i), .dat (tI r), .dat (.int c)], ?_, fun L hL => ?_⟩
          · have e3 : notOwn [.dat (ttI st), .dat (tI od), .dat (.int i), c3, c4] 3 = true := h3
            have e4 : notOwn [.dat (ttI st), .dat (tI od), .dat (.int i), .dat (tI r), c4] 4 = true := h4
            show (dgName 2 (.int i) _).bind _ = _
            unfold dgName
            rw [if_pos e2]
            show Option.bind (dgTup 2 _ (.tup [tI r, .int c]) [.dat (ttI st), .dat (tI od), .dat (.int i), c3, c4]) _ = _
            show Option.bind (Option.bind (dgName 3 (tI r) _) _) _ = _
            unfold dgName
            rw [if_pos e3]
            show Option.bind (Option.bind (dgName 4 (.int c) [.dat (ttI st), .dat (tI od), .dat (.int i), .dat (tI r), c4]) _) _ = _
            unfold dgName
            rw [if_pos e4]
            rfl
          · simp only [List.length_cons] at hle hi
            walk_at "rd"
            refine ⟨r, rfl, ?_⟩
            by_cases h : r.sum < c
            · rw [if_pos h]
              have : lackAt 0 st od = some i := by rw [hl, lackAt, if_pos h]
              rw [this] at q
              exact ⟨⟨i, rfl, by omega, by omega⟩, q⟩
            · rw [if_neg h]
              exact hL _ ⟨i + 1, st', od', _, _, _, rfl, rfl, rfl, rfl, rfl, by rw [hl, lackAt, if_neg h], by omega, by omega⟩
def soldAll (st : List (List Int)) (od : List Int) : List (List Int) := List.zipWith takeOld st od
def sdIU (C : Addr) : Sd := fun ds Q E => ∃ st od, ds = [ttI st, tI od] ∧ StOd st od ∧ match lackAt 0 st od with
  | none => Q (ttI (soldAll st od))
  | some g => E C [("good", .int g)]
theorem sdIU_mono {C : Addr} : ∀ ds Q Q' E E', (∀ r, Q r → Q' r) → (∀ C fs, E C fs → E' C fs) → sdIU C ds Q E → sdIU C ds Q' E' := by
  rintro ds Q Q' E E' h1 h2 ⟨st, od, hd, hs, h⟩
  refine ⟨st, od, hd, hs, ?_⟩
  cases q : lackAt 0 st od with
  | none => rw [q] at h; exact h1 _ h
  | some g => rw [q] at h; exact h2 _ _ h
theorem ok_issue {f : Addr} {fd : FuncData} {C : Addr} (T : Tx mg) (F : Fun K "issue" "issue" s_issue f fd) (D_oldest_taken : Dn P w K mg base "oldest_taken" 1 ["row", "count"] (spD K ts sdOT)) (D_check_enough : DnX P w K mg base "check_enough" 2 ["stock", "order"] (spD K ts (sdCE C))) : FnOk P w K mg base (L2.CX P w) 3 f fd ["stock", "order"] (spD K ts (sdIU C)) := by
  refine' okDefX F sc_issue (by decide) ?hl ?hb ?hr
  case hb =>
    intro cdv A outer s H E hr tk hp
    exact (pds_cons (pd_expr (pd_callX (fun _ => D_check_enough) sdCE_mono (fun _ => hr.mono (by decide)) (fun _ => tk) (pda_cons (pd_var 0) (pda_cons (pd_var 1) pda_nil))))
    (pds_one (pd_ret (pd_tupOf (fun _ => rfl) (fun _ => T.tuple) (pda_cons (pd_of (pdo_lc [("row", 2), ("count", 3)] (fun _ => rfl) (fun _ => sc_issue.nd) (pdi_zipK (fun _ => rfl) (fun _ => T.zip) (pda_cons (pd_var 0) (pda_cons (pd_var 1) pda_nil))) (fun _ => blkOk_by (own := [("row", 2), ("count", 3)]) (N := N_issue) (sc := defScope s_issue) (by decide +kernel)) (pdg_tup (m := 2) (fun _ => rfl) (pdgs_cons (pdg_name 2 (fun _ => sc_issue.nd)) (pdgs_cons (pdg_name 3 (fun _ => sc_issue.nd)) pdgs_nil))) pdts_nil (pd_callF (fun _ => D_oldest_taken) (fun _ => hr.mono (by decide)) (pda_cons (pd_var 2) (pda_cons (pd_var 3) pda_nil))))) pda_nil)))))
  case hl =>
    rintro ds Q E ⟨st, od, rfl, _, _⟩
    rfl
  case hr =>
    rintro ds Q E ⟨st, od, rfl, hs, q⟩
    walk_at "rd"
    refine ⟨st, od, rfl, hs, ?_⟩
    cases hq : lackAt 0 st od with
    | some g => rw [hq] at q; exact q
    | none =>
      rw [hq] at q
      show (_ : Nat) ≤ _ ∧ _
      refine ⟨by rw [zipD_len, List.length_map, List.length_map]; have := hs.ls; omega, ?_⟩
      refine dLcR_by (fun xs acc Γ => ∃ (st1 : List (List Int)) (od1 : List Int) (st2 : List (List Int)) (od2 : List Int) (c2 c3 : Sl), xs = zipD (st2.map tI) (od2.map D.int) ∧ acc = (soldAll st1 od1).map tI ∧ st = st1 ++ st2 ∧ od = od1 ++ od2 ∧ st1.length = od1.length ∧ Γ = [.dat (ttI st), .dat (tI od), c2, c3] ∧ soft c2 = true ∧ soft c3 = true) ?_ ?_ _ _ _
        ⟨[], [], st, od, _, _, rfl, rfl, rfl, rfl, rfl, rfl, rfl, rfl⟩
      · rintro acc Γ ⟨st1, od1, st2, od2, c2, c3, hx, rfl, e1, e2, hl1, rfl, h2, h3⟩
        have hle := hs.le
        rw [e1, e2, List.length_append, List.length_append] at hle
        have : st2 = [] := by
          cases st2 with
          | nil => rfl
          | cons r st2 =>
            cases od2 with
            | nil => simp only [List.length_cons, List.length_nil] at hle; omega
            | cons c od2 => cases hx
        subst this
        have : od2 = [] := List.eq_nil_of_length_eq_zero (by simp only [List.length_nil] at hle; omega)
        subst this
        rw [List.append_nil] at e1 e2
        subst e1 e2
        exact q
      · rintro x xs acc Γ ⟨st1, od1, st2, od2, c2, c3, hx, rfl, e1, e2, hl1, rfl, h2, h3⟩
        cases st2 with
        | nil => cases hx
        | cons r st2 =>
          cases od2 with
          | nil => cases hx
          | cons c od2 =>
            have hx' : .tup [tI r, .int c] :: zipD (st2.map tI) (od2.map D.int) = x :: xs := hx.symm
            injection hx' with hx1 hx2
            subst hx1 hx2
            refine ⟨[.dat (ttI st), .dat (tI od), .dat (tI r), .dat (.int c)], ?_, fun L hL => ?_⟩
            · have e3 : notOwn [.dat (ttI st), .dat (tI od), c2, c3] 2 = true := h2
              have e4 : notOwn [.dat (ttI st), .dat (tI od), .dat (tI r), c3] 3 = true := h3
              show (dgName 2 (tI r) _).bind _ = _
              unfold dgName
              rw [if_pos e3]
              show Option.bind (dgName 3 (.int c) [.dat (ttI st), .dat (tI od), .dat (tI r), c3]) _ = _
              unfold dgName
              rw [if_pos e4]
              rfl
            · walk_at "rd"
              have hr1 : r.length ≤ 1000 := hs.lr r (by rw [e1]; simp)
              refine sdF_go ((r, c) : List Int × Int) hr1 ?_
              refine hL _ _ ⟨st1 ++ [r], od1 ++ [c], st2, od2, .non, .non, rfl, ?_, by rw [e1, List.append_assoc]; rfl, by rw [e2, List.append_assoc]; rfl, by rw [List.length_append, List.length_append, hl1]; rfl, rfl, rfl, rfl⟩
              unfold soldAll
              rw [List.zipWith_append hl1, List.map_append]
              rfl
end
end K06

set_option Elab.async false
set_option linter.all false
set_option maxRecDepth 100000
set_option maxHeartbeats 4000000
namespace K06
open PySem PySem.Spec PyProof.Rows L2 DL QG GG
local macro_rules | `(tactic| walk_at "rd") => `(tactic| simp only [exists_eq', lk_keep, lk_patterns, lk_most, lk_week, lk_budget, dMake, dSlL, rdRepT, rdIsB, dAsgT, dRevT, dAllG, dAnyG, dSumG, capD, genG, dElt, dZipK, dEnK, dRep, dCat2, dAugIx, rdEqB, dIsT, tyN, rdSortR, dFld, dChain, dSlT, dSlL, dPn, dPs, rdCatT, dLc2, fvD, Option.map_some, dFSeq, dSetF, dFNil, DL.pairD, List.replicate_succ, Bool.not_true, Bool.not_false, dSeq, dIfS, dB, dOp, dVar, dC, dCB, dCO, dACons, dANil, dRet, dAsg, dAsgO, dAsgOF, dExpr, dSetIx, dApp, dOf, dTup, dLst, dCat, dUn, dFor, dRng1, dRng2, dItL, dItT, dZip, dLc, dNext, dAnd, dOr, dNot, dAndV, dOrV, dIfE, dYes, dAug, dCall, dCallB, dCallX, dRaise, dEz, dBreak, dCont, dRetN, sdR, sdBR, sdX, dIsN,
  rdLen, rdInt, rdMM, rdTup, rdLstOf, rdSum, rdIx, rdI, rdI0, rdEq, rdIn, asD, itemsOf_lst, itemsOf_tup, fix, fixL, startD, notOwn, freeOk_fr, frS_dat, frS_non, frS_own, okW, wipeG, dgName, dgTup, dgsCons, dgsNil, gAdd, DL.gSub, gMul, gMod, gDiv, gPow, gLt, gLe, gGt, gGe, atI_c0, atI_c1, atI_c2, atI_c3, atI_c4, ixN_21, ixN_20, soft_dat, soft_non, soft_own,
  List.cons_append, List.nil_append, List.map_cons, List.map_nil, List.length_cons, List.length_nil, List.length_map, List.getElem?_cons_zero, List.getElem?_cons_succ, List.set_cons_zero, List.set_cons_succ, List.replicate_succ, List.replicate_zero, Nat.reduceSub, Nat.reduceAdd, Nat.zero_add, List.all_cons, List.all_nil, Option.some.injEq, Prod.mk.injEq, Option.bind_some, reduceCtorEq,
  Wv.dat.injEq, Wv.slot.injEq, D.obj.injEq, D.int.injEq, D.bl.injEq, D.lst.injEq, D.tup.injEq, List.cons.injEq, Sl.dat.injEq, Sl.own.injEq, exists_eq_left, exists_eq_left', exists_and_left, exists_and_right, exists_eq_right, exists_eq, exists_false, exists_const, true_and, and_true, false_and, and_false, ite_true, ite_false, if_true, if_false, eq_self, ↓reduceIte, Bool.and_true, Bool.true_and, and_self, or_false, false_or, Bool.false_eq_true, and_assoc, exists_prop, exists_eq_right_right, exists_eq_right', forall_eq, forall_eq', Int.reducePow, Int.reduceToNat, decide_eq_true_eq])
local macro_rules | `(tactic| walk_at "rs") => `(tactic| simp only [exists_eq', lk_keep, lk_patterns, lk_most, lk_week, lk_budget, dMake, dSlL, rdRepT, rdIsB, dAsgT, dRevT, dAllG, dAnyG, dSumG, capD, genG, dElt, dZipK, dEnK, dRep, dCat2, dAugIx, rdEqB, dIsT, tyN, rdSortR, dFld, dChain, dSlT, dSlL, dPn, dPs, rdCatT, dLc2, fvD, Option.map_some, dFSeq, dSetF, dFNil, DL.pairD, List.replicate_succ, Bool.not_true, Bool.not_false, dIfS, dB, dOp, dVar, dC, dCB, dCO, dACons, dANil, dRet, dAsg, dAsgO, dAsgOF, dExpr, dSetIx, dApp, dOf, dTup, dLst, dCat, dUn, dFor, dRng1, dRng2, dItL, dItT, dZip, dLc, dNext, dAnd, dOr, dNot, dAndV, dOrV, dIfE, dYes, dAug, dCall, dCallB, dCallX, dRaise, dEz, dBreak, dCont, dRetN, sdR, sdBR, sdX, dIsN,
  rdLen, rdInt, rdMM, rdTup, rdLstOf, rdSum, rdIx, rdI, rdI0, rdEq, rdIn, asD, itemsOf_lst, itemsOf_tup, fix, fixL, startD, notOwn, freeOk_fr, frS_dat, frS_non, frS_own, okW, wipeG, dgName, dgTup, dgsCons, dgsNil, gAdd, DL.gSub, gMul, gMod, gDiv, gPow, gLt, gLe, gGt, gGe, atI_c0, atI_c1, atI_c2, atI_c3, atI_c4, ixN_21, ixN_20, soft_dat, soft_non, soft_own,
  List.cons_append, List.nil_append, List.map_cons, List.map_nil, List.length_cons, List.length_nil, List.length_map, List.getElem?_cons_zero, List.getElem?_cons_succ, List.set_cons_zero, List.set_cons_succ, List.replicate_succ, List.replicate_zero, Nat.reduceSub, Nat.reduceAdd, Nat.zero_add, List.all_cons, List.all_nil, Option.some.injEq, Prod.mk.injEq, Option.bind_some, reduceCtorEq,
  Wv.dat.injEq, Wv.slot.injEq, D.obj.injEq, D.int.injEq, D.bl.injEq, D.lst.injEq, D.tup.injEq, List.cons.injEq, Sl.dat.injEq, Sl.own.injEq, exists_eq_left, exists_eq_left', exists_and_left, exists_and_right, exists_eq_right, exists_eq, exists_false, exists_const, true_and, and_true, false_and, and_false, ite_true, ite_false, if_true, if_false, eq_self, ↓reduceIte, Bool.and_true, Bool.true_and, and_self, or_false, false_or, Bool.false_eq_true, and_assoc, exists_prop, exists_eq_right_right, exists_eq_right', forall_eq, forall_eq', Int.reducePow, Int.reduceToNat, decide_eq_true_eq])

abbrev St := List (List Int)
abbrev llI (st : St) : D := .lst (st.map lI)
def RowsOk (st : St) : Prop := ∀ r ∈ st, 1 ≤ r.length ∧ r.length ≤ 1000
def NN (st : St) : Prop := ∀ r ∈ st, ∀ n ∈ r, 0 ≤ n
theorem sum_nn {l : List Int} (h : ∀ n ∈ l, 0 ≤ n) : 0 ≤ l.sum := by
  induction l with
  | nil => simp
  | cons a l ih =>
    rw [List.sum_cons]
    have h1 := h a (by simp)
    have h2 := ih fun n q => h n (by simp [q])
    omega
/-- what a state is for the law -/
theorem cut_map {α : Type} (f : α → D) (l : List α) (lo hi : Option Int) : DL.cutD (l.map f) lo hi = ((l.drop (HT.sIx l.length 0 lo)).take (HT.sIx l.length l.length hi - HT.sIx l.length 0 lo)).map f := by
  unfold DL.cutD
  rw [List.length_map, List.map_take, List.map_drop]
theorem getD_st {st : St} {i : Nat} (h : i < st.length) : st.getD i [] = st[i] := by
  rw [List.getD_eq_getElem?_getD, List.getElem?_eq_getElem h]
  rfl
/-! ### better -/
def BRp (a b : List Int) : Prop := ∀ k, (b.drop k).sum ≤ (a.drop k).sum
def goB : Int → List (Int × Int) → Bool
  | _, [] => true
  | s, c :: r => if s + (c.1 - c.2) < 0 then false else goB (s + (c.1 - c.2)) r
def betR (a b : List Int) : Bool := goB 0 (a.reverse.zip b.reverse)
def betM (one other : St) : Bool := (one.zip other).all fun p => betR p.1 p.2
theorem goB_iff : ∀ (x y : List Int) (s : Int), x.length = y.length → (goB s (x.zip y) = true ↔ ∀ k, 1 ≤ k → k ≤ x.length → 0 ≤ s + (x.take k).sum - (y.take k).sum)
  | [], [], s, _ => ⟨fun _ k h1 h2 => by simp at h2; omega, fun _ => rfl⟩
  | [], _ :: _, _, h => by cases h
  | _ :: _, [], _, h => by cases h
  | a :: x, b :: y, s, h => by
    have ih := goB_iff x y (s + (a - b)) (Nat.succ.inj h)
    show (if s + (a - b) < 0 then false else goB (s + (a - b)) (x.zip y)) = true ↔ _
    constructor
    · intro z k h1 h2
      split at z
      · cases z
      · rename_i hn
        cases k with
        | zero => omega
        | succ k =>
          simp only [List.take_succ_cons, List.sum_cons]
          cases k with
          | zero => simp; omega
          | succ k =>
            have := ih.mp z (k + 1) (by omega) (by simpa using h2)
            omega
    · intro z
      have h1 := z 1 (Nat.le_refl _) (by simp)
      simp only [List.take_succ_cons, List.sum_cons, List.take_zero, List.sum_nil] at h1
      rw [if_neg (by omega)]
      refine ih.mpr fun k h1 h2 => ?_
      have := z (k + 1) (by omega) (by simpa using h2)
      simp only [List.take_succ_cons, List.sum_cons] at this
      omega
theorem sum_rev (l : List Int) : l.reverse.sum = l.sum := by
  induction l with
  | nil => rfl
  | cons a l ih => rw [List.reverse_cons, List.sum_append, ih, List.sum_cons, List.sum_cons, List.sum_nil]; omega
theorem take_rev (l : List Int) (k : Nat) : (l.reverse.take k).sum = (l.drop (l.length - k)).sum := by
  rw [List.take_reverse, sum_rev]
theorem betR_iff {a b : List Int} (h : a.length = b.length) : betR a b = true ↔ BRp a b := by
  unfold betR
  rw [goB_iff _ _ _ (by rw [List.length_reverse, List.length_reverse, h])]
  constructor
  · intro z k
    by_cases hk : k < a.length
    · have := z (a.length - k) (by omega) (by rw [List.length_reverse]; omega)
      rw [take_rev, take_rev, ← h, show a.length - (a.length - k) = k by omega] at this
      omega
    · rw [List.drop_eq_nil_of_le (by omega), List.drop_eq_nil_of_le (by omega)]
      exact Int.le_refl _
  · intro z k h1 h2
    rw [List.length_reverse] at h2
    rw [take_rev, take_rev, ← h]
    have := z (a.length - k)
    omega
structure Same (one other : St) : Prop where
  len : one.length = other.length
  row : ∀ (i : Nat) (a b : List Int), one[i]? = some a → other[i]? = some b → a.length = b.length
theorem betM_iff {one other : St} (s : Same one other) : betM one other = true ↔ ∀ (i : Nat) (a b : List Int), one[i]? = some a → other[i]? = some b → BRp a b := by
  unfold betM
  rw [List.all_eq_true]
  constructor
  · intro z i a b h1 h2
    have hz : (one.zip other)[i]? = some (a, b) := by rw [List.getElem?_zip_eq_some]; exact ⟨h1, h2⟩
    exact (betR_iff (s.row i a b h1 h2)).mp (z _ (List.mem_of_getElem? hz))
  · rintro z ⟨a, b⟩ hp
    obtain ⟨i, hi⟩ := List.getElem?_of_mem hp
    rw [List.getElem?_zip_eq_some] at hi
    exact (betR_iff (s.row i a b hi.1 hi.2)).mpr (z i a b hi.1 hi.2)
theorem drop_le : ∀ (r : List Int) (k : Nat), (∀ n ∈ r, 0 ≤ n) → (r.drop k).sum ≤ r.sum
  | [], k, _ => by simp
  | a :: r, 0, _ => Int.le_refl _
  | a :: r, k + 1, h => by
    have := drop_le r k fun n hn => h n (by simp [hn])
    have h1 := h a (by simp)
    rw [List.drop_succ_cons, List.sum_cons]
    omega
theorem drop_take : ∀ (r : List Int) (c : Int) (k : Nat), (∀ n ∈ r, 0 ≤ n) → 0 ≤ c → c ≤ r.sum → ((takeOld r c).drop k).sum = if (r.drop k).sum < r.sum - c then (r.drop k).sum else r.sum - c
  | [], c, k, _, h1, h2 => by
    have : c = 0 := by simp at h2; omega
    simp [takeOld, this]
  | p :: r, c, k, hn, h1, h2 => by
    have hp := hn p (by simp)
    have hr : ∀ n ∈ r, 0 ≤ n := fun n q => hn n (by simp [q])
    rw [List.sum_cons] at h2
    have hs := sum_nn hr
    have ih := drop_take r (c - if c < p then c else p)
    cases k with
    | zero =>
      have := ih 0 hr (by split <;> omega) (by split <;> omega)
      simp only [List.drop_zero] at this
      simp only [takeOld, List.drop_zero, List.sum_cons, this]
      split <;> split <;> split <;> omega
    | succ k =>
      have := ih k hr (by split <;> omega) (by split <;> omega)
      have hd := drop_le r k hr
      simp only [takeOld, List.drop_succ_cons, List.sum_cons, this]
      split <;> split <;> split <;> omega
theorem zw_get {α β γ : Type} {f : α → β → γ} : ∀ {l : List α} {m : List β} {i : Nat} {z : γ}, (List.zipWith f l m)[i]? = some z → ∃ a b, l[i]? = some a ∧ m[i]? = some b ∧ z = f a b
  | [], _, _, _, h => by simp at h
  | _ :: _, [], _, _, h => by simp at h
  | a :: l, b :: m, 0, z, h => by
    simp at h
    exact ⟨a, b, rfl, rfl, h.symm⟩
  | a :: l, b :: m, i + 1, z, h => by
    obtain ⟨a', b', h1, h2, h3⟩ := zw_get (l := l) (m := m) (i := i) (by simpa using h)
    exact ⟨a', b', by simpa using h1, by simpa using h2, h3⟩
theorem zw_mk {α β γ : Type} {f : α → β → γ} {l : List α} {m : List β} {i : Nat} {a : α} {b : β} (h1 : l[i]? = some a) (h2 : m[i]? = some b) : (List.zipWith f l m)[i]? = some (f a b) := by
  rw [List.getElem?_zipWith, h1, h2]
theorem lack_none : ∀ (i : Nat) (st : List (List Int)) (od : List Int), lackAt i st od = none → ∀ (j : Nat) (r : List Int) (c : Int), st[j]? = some r → od[j]? = some c → c ≤ r.sum
  | _, [], _, _, j, _, _, h, _ => by simp at h
  | _, _ :: _, [], _, j, _, _, _, h => by simp at h
  | i, r0 :: st, c0 :: od, h, 0, r, c, h1, h2 => by
    cases h1
    cases h2
    unfold lackAt at h
    split at h
    · cases h
    · omega
  | i, r0 :: st, c0 :: od, h, j + 1, r, c, h1, h2 => by
    unfold lackAt at h
    split at h
    · cases h
    · exact lack_none (i + 1) st od h j r c h1 h2
theorem lack_all : ∀ (i : Nat) (st : List (List Int)) (od : List Int), (∀ (j : Nat) (r : List Int) (c : Int), st[j]? = some r → od[j]? = some c → c ≤ r.sum) → lackAt i st od = none
  | _, [], _, _ => by unfold lackAt; rfl
  | _, _ :: _, [], _ => by unfold lackAt; rfl
  | i, r0 :: st, c0 :: od, h => by
    unfold lackAt
    rw [if_neg (by have := h 0 r0 c0 rfl rfl; omega)]
    exact lack_all (i + 1) st od fun j r c h1 h2 => h (j + 1) r c (by simpa using h1) (by simpa using h2)
theorem lack_of_rows {st : St} {od : List Int} (h : ∀ (j : Nat) (r : List Int) (c : Int), st[j]? = some r → od[j]? = some c → c ≤ r.sum) : lackAt 0 st od = none := lack_all 0 st od h
theorem cut_drop0 {r : List Int} {k : Nat} (h : k ≤ r.length) : DL.cutD (r.map D.int) (some (k : Int)) none = (r.drop k).map D.int := by
  rw [cut_map, HT.sIx_none, HT.sIx_nat, Nat.min_eq_left h, List.take_of_length_le (by rw [List.length_drop]; omega)]
section
variable {P : Program} {w : World} {K : PySem.W.Frag} {mg : Str → Option Value} {base : Heap} {ts : List Addr}
abbrev s_is_better_row : Stmt := top 10
abbrev N_is_better_row : List Str := ["row", "other", "ahead", "pieces", "other_pieces"]
theorem sc_is_better_row : FnScope N_is_better_row ["row", "other"] (defScope s_is_better_row) := ⟨rfl, rfl, rfl, by decide +kernel, rfl, by decide +kernel, by decide +kernel⟩
abbrev s_is_better : Stmt := top 9
abbrev N_is_better : List Str := ["one", "other"]
theorem sc_is_better : FnScope N_is_better ["one", "other"] (defScope s_is_better) := ⟨rfl, rfl, rfl, by decide +kernel, rfl, by decide +kernel, by decide +kernel⟩
abbrev s_law_better : Stmt := top 29
abbrev N_law_better : List Str := ["one", "other", "good", "place"]
theorem sc_law_better : FnScope N_law_better ["one", "other"] (defScope s_law_better) := ⟨rfl, rfl, rfl, by decide +kernel, rfl, by decide +kernel, by decide +kernel⟩

abbrev sdBR' : Sd := sdF (fun a : List Int × List Int => [tI a.1, tI a.2]) (fun _ => True) fun a => .bl (betR a.1 a.2)
theorem ok_is_better_row {f : Addr} {fd : FuncData} {k : Nat} (T : Tx mg) (F : Fun K "is_better_row" "is_better_row" s_is_better_row f fd) : FnOk P w K mg base CX0 (k + 1) f fd ["row", "other"] (spD K ts sdBR') := by
  refine' okDef F sc_is_better_row (by decide) ?hl ?hb ?hr
  case hb =>
    intro cdv A outer s H E hr
    exact (pds_cons (pd_asg 2 (fun _ => sc_is_better_row.nd) pd_int)
    (pds_cons (pd_for (fun _ => PassesOwn.never) (fun _ => rfl) (pdi_zipK (fun _ => rfl) (fun _ => T.zip) (pda_cons (pd_revT (pd_var 0)) (pda_cons (pd_revT (pd_var 1)) pda_nil))) (pdg_tup (m := 2) (fun _ => rfl) (pdgs_cons (pdg_name 3 (fun _ => sc_is_better_row.nd)) (pdgs_cons (pdg_name 4 (fun _ => sc_is_better_row.nd)) pdgs_nil))) (pds_cons (pd_augAdd 2 (fun _ => sc_is_better_row.nd) (pd_sub (pd_var 3) (pd_var 4)))
    (pds_one (pd_if (pdt_lt (pd_var 2) pd_int) (pds_one (pd_ret pd_bl)) pds_nil))))
    (pds_one (pd_ret pd_bl))))
  case hl =>
    rintro ds Q E ⟨a, rfl, _⟩
    rfl
  case hr =>
    rintro ds Q E ⟨⟨a, b⟩, rfl, _, q⟩
    dsimp only at q
    walk_at "rd"
    rw [← List.map_reverse, ← List.map_reverse, zipD_map]
    refine dLoop_by (fun xs Γ => ∃ (s : Int) (rest : List (Int × Int)) (c3 c4 : Sl), xs = rest.map (fun c => DL.pairD (.int c.1) (.int c.2)) ∧ Γ = [.dat (tI a), .dat (tI b), .dat (.int s), c3, c4] ∧ soft c3 = true ∧ soft c4 = true ∧ betR a b = goB s rest) ?_ ?_ _ _ ⟨0, a.reverse.zip b.reverse, .non, .non, rfl, rfl, rfl, rfl, rfl⟩
    · rintro Γ ⟨s, rest, c3, c4, hx, rfl, h3, h4, hb⟩
      cases rest with
      | cons _ _ => cases hx
      | nil =>
        rw [hb] at q
        walk_at "rd"
        exact q
    · rintro x xs Γ ⟨s, rest, c3, c4, hx, rfl, h3, h4, hb⟩
      cases rest with
      | nil => cases hx
      | cons c rest =>
        rw [List.map_cons] at hx
        injection hx with hx1 hx2
        subst hx1 hx2
        obtain ⟨u, v⟩ := c
        refine ⟨[.dat (tI a), .dat (tI b), .dat (.int s), .dat (.int u), .dat (.int v)], by simp [dgTup, dgsCons, dgsNil, dgName, DL.pairD, notOwn, h3, h4], fun L hL => ?_⟩
        walk_at "rd"
        by_cases hlt : s + (u - v) < 0
        · rw [if_pos hlt]
          have e : goB s ((u, v) :: rest) = false := if_pos hlt
          rw [hb, e] at q
          exact q
        · rw [if_neg hlt]
          have e : goB s ((u, v) :: rest) = goB (s + (u - v)) rest := if_neg hlt
          exact hL _ ⟨s + (u - v), rest, .dat (.int u), .dat (.int v), rfl, rfl, rfl, rfl, hb.trans e⟩
def unI : List D → List Int
  | .int n :: l => n :: unI l
  | _ => []
theorem unI_map : ∀ ns : List Int, unI (ns.map D.int) = ns
  | [] => rfl
  | n :: ns => congrArg (n :: ·) (unI_map ns)
def pairB : D → Bool
  | .tup [.tup x, .tup y] => betR (unI x) (unI y)
  | _ => false
abbrev sdBet : Sd := sdF (fun a : St × St => [ttI a.1, ttI a.2]) (fun _ => True) fun a => .bl (betM a.1 a.2)
theorem ok_is_better {f c P0 : Addr} {fd : FuncData} (T : Tx mg) (hts : P0 ∈ ts) (TB : GxR.TabB base mg c P0) (F : Fun K "is_better" "is_better" s_is_better f fd) (hc : fd.code = .ref c) (D_is_better_row : Dn P w K mg base "is_better_row" 1 ["row", "other"] (spD K ts sdBR')) : FnOk P w K mg base CX0 4 f fd ["one", "other"] (spD K ts sdBet) := by
  refine' okDefC F hc sc_is_better (by decide) ?hl ?hb ?hr
  case hb =>
    intro A outer s H E hr
    exact (pds_one (pd_ret (pd_allG ["row", "other_row"] [] [0, 1] hts (fun _ => hr) (fun _ => T.all) (fun _ => TB) (fun _ => rfl) (fun _ => gsc_by rfl rfl (by decide +kernel) rfl (by decide +kernel) (by decide +kernel) trivial trivial) (pdi_zipK (fun _ => rfl) (fun _ => T.zip) (pda_cons (pd_var 0) (pda_cons (pd_var 1) pda_nil))) (pdg_tup (m := 2) (fun _ => rfl) (pdgs_cons (pdg_name 0 (fun _ => (by decide : (["row", "other_row"] : List Str).Nodup))) (pdgs_cons (pdg_name 1 (fun _ => (by decide : (["row", "other_row"] : List Str).Nodup))) pdgs_nil))) (pd_callF (fun _ => D_is_better_row) (fun z => z.2.mono (by decide)) (pda_cons (pd_var 0) (pda_cons (pd_var 1) pda_nil))))))
  case hl =>
    rintro ds Q E ⟨a, rfl, _⟩
    rfl
  case hr =>
    rintro ds Q E ⟨⟨a, b⟩, rfl, _, q⟩
    dsimp only at q
    walk_at "rd"
    rw [zipD_map]
    refine ⟨pairB, fun x hx => ?_, ?_⟩
    · obtain ⟨⟨r, s⟩, hm, rfl⟩ := List.mem_map.mp hx
      refine ⟨_, rfl, ?_⟩
      refine sdF_go ((r, s) : List Int × List Int) trivial ?_
      refine ⟨?_, rfl, rfl⟩
      show D.bl (betR r s) = D.bl (betR (unI (r.map D.int)) (unI (s.map D.int)))
      rw [unI_map, unI_map]
    · have e : ((a.zip b).map fun p => DL.pairD (tI p.1) (tI p.2)).all pairB = betM a b := by
        rw [List.all_map, betM]
        congr 1
        funext p
        show betR (unI (p.1.map D.int)) (unI (p.2.map D.int)) = _
        rw [unI_map, unI_map]
      rw [e]
      exact q
abbrev sdLB : Sd := sdF (fun a : St × St => [ttI a.1, ttI a.2]) (fun a => Same a.1 a.2 ∧ a.1.length ≤ 1000 ∧ ∀ r ∈ a.1, r.length ≤ 1000) fun a => .bl (betM a.1 a.2)
theorem ok_law_better {f : Addr} {fd : FuncData} {k : Nat} (T : Tx mg) (F : Fun K "_law_better" "_law_better" s_law_better f fd) : FnOk P w K mg base CX0 (k + 1) f fd ["one", "other"] (spD K ts sdLB) := by
  refine' okDef F sc_law_better (by decide) ?hl ?hb ?hr
  case hb =>
    intro cdv A outer s H E hr
    exact (pds_cons (pd_for (fun _ => PassesOwn.never) (fun _ => rfl) (pdi_range1 (fun _ => rfl) (fun _ => T.range) (pda_cons (pd_len (fun _ => rfl) (fun _ => T.len) (pda_cons (pd_var 0) pda_nil)) pda_nil)) (pdg_name 2 (fun _ => sc_law_better.nd)) (pds_one (pd_for (fun _ => PassesOwn.never) (fun _ => rfl) (pdi_range1 (fun _ => rfl) (fun _ => T.range) (pda_cons (pd_len (fun _ => rfl) (fun _ => T.len) (pda_cons (pd_ix (pd_var 0) (pd_var 2)) pda_nil)) pda_nil)) (pdg_name 3 (fun _ => sc_law_better.nd)) (pds_one (pd_if (pdt_lt (pd_sum (fun _ => rfl) (fun _ => rfl) (fun _ => T.sum) (pda_cons (pd_sliceT (pd_ix (pd_var 0) (pd_var 2)) (pdp_some (pd_var 3)) pdp_none) pda_nil)) (pd_sum (fun _ => rfl) (fun _ => rfl) (fun _ => T.sum) (pda_cons (pd_sliceT (pd_ix (pd_var 1) (pd_var 2)) (pdp_some (pd_var 3)) pdp_none) pda_nil))) (pds_one (pd_ret pd_bl)) pds_nil)))))
    (pds_one (pd_ret pd_bl)))
  case hl =>
    rintro ds Q E ⟨a, rfl, _⟩
    rfl
  case hr =>
    rintro ds Q E ⟨⟨one, other⟩, rfl, ⟨hs, h1, h2⟩, q⟩
    dsimp only at hs h1 h2 q
    walk_at "rd"
    refine ⟨by omega, by omega, ?_⟩
    rw [rangeD_map0, Int.toNat_natCast]
    refine for_map _ (fun pre Γ => ∃ c2 c3 : Sl, Γ = [.dat (ttI one), .dat (ttI other), c2, c3] ∧ soft c2 = true ∧ soft c3 = true ∧ ∀ i, i < pre.length → BRp (one.getD i []) (other.getD i [])) _ ⟨.non, .non, rfl, rfl, rfl, fun i hi => by simp at hi⟩ ?_ ?_
    · rintro pre x post Γ e ⟨c2, c3, rfl, s2, s3, hall⟩
      obtain ⟨rfl, hlt⟩ := range_split e
      have hlt2 : pre.length < other.length := by rw [← hs.len]; exact hlt
      have hrow := hs.row pre.length _ _ (List.getElem?_eq_getElem hlt) (List.getElem?_eq_getElem hlt2)
      have hle := h2 _ (List.getElem_mem hlt)
      refine ⟨_, if_pos s2, fun L hL => ?_⟩
      walk_at "rd"
      refine ⟨_, atI_map tI one hlt, _, rfl, ?_⟩
      rw [List.length_map]
      refine ⟨by omega, by omega, ?_⟩
      rw [rangeD_map0, Int.toNat_natCast]
      refine for_map _ (fun pre2 Γ => ∃ c3 : Sl, Γ = [.dat (ttI one), .dat (ttI other), .dat (.int (pre.length : Int)), c3] ∧ soft c3 = true ∧ ∀ k, k < pre2.length → ((other[pre.length]).drop k).sum ≤ ((one[pre.length]).drop k).sum) _ ⟨c3, rfl, s3, fun i hi => by simp at hi⟩ ?_ ?_
      · rintro pre2 x2 post2 Γ e2 ⟨c3, rfl, s3, hall2⟩
        obtain ⟨rfl, hlt3⟩ := range_split e2
        refine ⟨_, if_pos s3, fun L' hL' => ?_⟩
        walk_at "rd"
        refine ⟨_, atI_map tI one hlt, _, rfl, (one[pre.length]).drop pre2.length, cut_drop0 (by omega), _, atI_map tI other hlt2, _, rfl, (other[pre.length]).drop pre2.length, cut_drop0 (by omega), ?_⟩
        by_cases hc : ((one[pre.length]).drop pre2.length).sum < ((other[pre.length]).drop pre2.length).sum
        · rw [if_pos hc]
          have e : betM one other = false := by
            cases z : betM one other with
            | false => rfl
            | true =>
              have := (betM_iff hs).mp z pre.length _ _ (List.getElem?_eq_getElem hlt) (List.getElem?_eq_getElem hlt2) pre2.length
              omega
          rw [e] at q
          exact q
        · rw [if_neg hc]
          refine hL' _ ⟨_, rfl, rfl, fun k hk => ?_⟩
          rw [List.length_append, List.length_singleton] at hk
          rcases Nat.lt_succ_iff_lt_or_eq.mp hk with h | rfl
          · exact hall2 k h
          · omega
      · rintro Γ ⟨c3, rfl, s3, hall2⟩
        rw [List.length_range] at hall2
        refine hL _ ⟨.dat (.int pre.length), c3, rfl, rfl, s3, fun i hi => ?_⟩
        rw [List.length_append, List.length_singleton] at hi
        rcases Nat.lt_succ_iff_lt_or_eq.mp hi with h | rfl
        · exact hall i h
        · rw [getD_st hlt, getD_st hlt2]
          intro k
          by_cases hk : k < (one[pre.length]).length
          · exact hall2 k hk
          · rw [List.drop_eq_nil_of_le (by omega), List.drop_eq_nil_of_le (by omega)]
            exact Int.le_refl _
    · rintro Γ ⟨c2, c3, rfl, s2, s3, hall⟩
      rw [List.length_range] at hall
      walk_at "rd"
      have e : betM one other = true := (betM_iff hs).mpr fun i a b h3 h4 => by
        have := hall i (List.getElem?_eq_some_iff.mp h3).1
        rw [List.getD_eq_getElem?_getD, List.getD_eq_getElem?_getD, h3, h4] at this
        exact this
      rw [e] at q
      exact q
end
end K06

set_option Elab.async false
set_option linter.all false
set_option maxRecDepth 100000
set_option maxHeartbeats 4000000
namespace K06
open PySem PySem.Spec PyProof.Rows L2 DL QG GG
/-! ### rows that are grown, in order -/
inductive Bnd : List Int → List Int → Prop
  | nil : Bnd [] []
  | cons {x c : Int} {w cs : List Int} : 0 ≤ x → x ≤ c → Bnd w cs → Bnd (x :: w) (c :: cs)
theorem Bnd.len {w cs : List Int} (h : Bnd w cs) : w.length = cs.length := by
  induction h with
  | nil => rfl
  | cons _ _ _ ih => simp [ih]
theorem Bnd.nn {w cs : List Int} (h : Bnd w cs) : 0 ≤ w.sum ∧ w.sum ≤ cs.sum := by
  induction h with
  | nil => exact ⟨Int.le_refl _, Int.le_refl _⟩
  | cons _ _ _ ih => simp only [List.sum_cons]; omega
abbrev minP (p c : Int) : Int := if c < p then c else p
abbrev maxP (a b : Int) : Int := if a < b then b else a
theorem minP_le {p c x : Int} : x < minP p c + 1 ↔ x ≤ p ∧ x ≤ c := by
  unfold minP
  split <;> omega
theorem maxP_le {p c x : Int} : maxP p c ≤ x ↔ p ≤ x ∧ c ≤ x := by
  unfold maxP
  split <;> omega
def rowG (lo hi : List Int → Int) (w : List Int) : List (List Int) := (List.range (hi w - lo w).toNat).map fun j : Nat => w ++ [lo w + (j : Int)]
def stepG (lo hi : List Int → Int) (rows : List (List Int)) : List (List Int) := rows.flatMap (rowG lo hi)
theorem rowG_mem {lo hi : List Int → Int} {w v : List Int} : v ∈ rowG lo hi w ↔ ∃ x, lo w ≤ x ∧ x < hi w ∧ v = w ++ [x] := by
  unfold rowG
  rw [List.mem_map]
  constructor
  · rintro ⟨j, hj, rfl⟩
    rw [List.mem_range] at hj
    exact ⟨_, by omega, by omega, rfl⟩
  · rintro ⟨x, h1, h2, rfl⟩
    refine ⟨(x - lo w).toNat, by rw [List.mem_range]; omega, ?_⟩
    rw [show lo w + ((x - lo w).toNat : Int) = x by omega]
theorem stepG_mem {lo hi : List Int → Int} {rows : List (List Int)} {v : List Int} : v ∈ stepG lo hi rows ↔ ∃ w ∈ rows, ∃ x, lo w ≤ x ∧ x < hi w ∧ v = w ++ [x] := by
  unfold stepG
  rw [List.mem_flatMap]
  exact ⟨fun ⟨w, h1, h2⟩ => ⟨w, h1, rowG_mem.mp h2⟩, fun ⟨w, h1, h2⟩ => ⟨w, h1, rowG_mem.mpr h2⟩⟩
theorem stepG_app (lo hi : List Int → Int) (a b : List (List Int)) : stepG lo hi (a ++ b) = stepG lo hi a ++ stepG lo hi b := List.flatMap_append
theorem stepG_one (lo hi : List Int → Int) (w : List Int) : stepG lo hi [w] = rowG lo hi w := by simp [stepG]
abbrev Asc (l : List (List Int)) : Prop := l.Pairwise (LexP (· < ·))
theorem stepG_asc {lo hi : List Int → Int} {rows : List (List Int)} (h : Asc rows) : Asc (stepG lo hi rows) := by
  unfold stepG
  show List.Pairwise _ _
  rw [List.pairwise_flatMap]
  refine ⟨fun w _ => ?_, h.imp fun {a b} hab x hx y hy => ?_⟩
  · unfold rowG
    rw [List.pairwise_map]
    exact List.pairwise_lt_range.imp fun {i j} hij => LexP.last (by omega) w
  · obtain ⟨_, _, _, rfl⟩ := rowG_mem.mp hx
    obtain ⟨_, _, _, rfl⟩ := rowG_mem.mp hy
    exact hab.app _ _
theorem stepG_few {lo hi : List Int → Int} {k : Nat} : ∀ {rows : List (List Int)}, (∀ w ∈ rows, hi w - lo w ≤ k) → (stepG lo hi rows).length ≤ k * rows.length
  | [], _ => by simp [stepG]
  | w :: rows, h => by
    have h1 := h w List.mem_cons_self
    have h2 := stepG_few (rows := rows) fun v hv => h v (List.mem_cons_of_mem _ hv)
    have e : stepG lo hi (w :: rows) = rowG lo hi w ++ stepG lo hi rows := rfl
    have l1 : (rowG lo hi w).length = (hi w - lo w).toNat := by simp [rowG]
    rw [e, List.length_append, l1, List.length_cons, Nat.mul_succ]
    omega
theorem stepG_split {lo hi : List Int → Int} {rows a b : List (List Int)} {w : List Int} (e : rows = a ++ w :: b) : (stepG lo hi rows).length = (stepG lo hi a).length + (rowG lo hi w).length + (stepG lo hi b).length := by
  subst e
  rw [stepG_app, show w :: b = [w] ++ b from rfl, stepG_app, stepG_one, List.length_append, List.length_append]
  omega
theorem rowG_len {lo hi : List Int → Int} {w : List Int} : (rowG lo hi w).length = (hi w - lo w).toNat := by simp [rowG]
/-! what is taken -/
abbrev loT : List Int → Int := fun _ => 0
abbrev hiT (many c : Int) : List Int → Int := fun w => minP c (many - w.sum) + 1
def takesGo (many : Int) : List Int → List (List Int) → List (List Int)
  | [], rows => rows
  | c :: cs, rows => takesGo many cs (stepG loT (hiT many c) rows)
theorem takesGo_mem (many : Int) (w : List Int) : ∀ (cs : List Int) (rows : List (List Int)), (∀ u ∈ rows, u.sum ≤ many) → (w ∈ takesGo many cs rows ↔ ∃ u ∈ rows, ∃ t, w = u ++ t ∧ Bnd t cs ∧ u.sum + t.sum ≤ many)
  | [], rows, h => by
    constructor
    · intro hw
      exact ⟨w, hw, [], (List.append_nil _).symm, .nil, by have := h w hw; simpa using this⟩
    · rintro ⟨u, hu, t, rfl, hb, _⟩
      cases hb
      rw [List.append_nil]
      exact hu
  | c :: cs, rows, h => by
    show w ∈ takesGo many cs (stepG loT (hiT many c) rows) ↔ _
    rw [takesGo_mem many w cs _ fun u hu => by
      obtain ⟨v, hv, x, h1, h2, rfl⟩ := stepG_mem.mp hu
      obtain ⟨k1, k2⟩ := minP_le.mp h2
      simp
      omega]
    constructor
    · rintro ⟨u', hu', t', rfl, hb, hs⟩
      obtain ⟨u, hu, x, h1, h2, rfl⟩ := stepG_mem.mp hu'
      obtain ⟨k1, k2⟩ := minP_le.mp h2
      refine ⟨u, hu, x :: t', by simp, .cons h1 k1 hb, ?_⟩
      simp at hs ⊢
      omega
    · rintro ⟨u, hu, t, rfl, hb, hs⟩
      cases hb with
      | @cons x _ t' _ h1 h2 hb =>
        have := hb.nn
        simp at hs
        exact ⟨u ++ [x], stepG_mem.mpr ⟨u, hu, x, h1, minP_le.mpr ⟨h2, by omega⟩, rfl⟩, t', by simp, hb, by simp; omega⟩
theorem takesGo_asc (many : Int) : ∀ (cs : List Int) (rows : List (List Int)), Asc rows → Asc (takesGo many cs rows)
  | [], _, h => h
  | _ :: cs, _, h => takesGo_asc many cs _ (stepG_asc h)
theorem takesGo_few (many : Int) : ∀ (cs : List Int) (rows : List (List Int)), (∀ c ∈ cs, c ≤ 2) → (takesGo many cs rows).length ≤ 3 ^ cs.length * rows.length
  | [], rows, _ => by simp [takesGo]
  | c :: cs, rows, h => by
    have h1 := takesGo_few many cs (stepG loT (hiT many c) rows) fun d hd => h d (List.mem_cons_of_mem _ hd)
    have hc := h c List.mem_cons_self
    have h2 : (stepG loT (hiT many c) rows).length ≤ 3 * rows.length := stepG_few fun w _ => by
      show minP c (many - w.sum) + 1 - 0 ≤ ((3 : Nat) : Int)
      unfold minP
      split <;> omega
    have h3 := Nat.mul_le_mul_left (3 ^ cs.length) h2
    show (takesGo many cs _).length ≤ _
    rw [List.length_cons, Nat.pow_succ, Nat.mul_assoc]
    omega
def takesM (row : List Int) (many : Int) : List (List Int) := (takesGo many row [[]]).filter fun w => decide (w.sum = many)
theorem takesM_mem {row : List Int} {many : Int} (h : 0 ≤ many) {w : List Int} : w ∈ takesM row many ↔ Bnd w row ∧ w.sum = many := by
  unfold takesM
  rw [List.mem_filter, takesGo_mem many w row [[]] (by simpa using h), decide_eq_true_eq]
  constructor
  · rintro ⟨⟨u, hu, t, rfl, hb, _⟩, hs⟩
    rw [List.mem_singleton] at hu
    subst hu
    exact ⟨hb, hs⟩
  · rintro ⟨hb, hs⟩
    exact ⟨⟨[], List.mem_singleton.mpr rfl, w, rfl, hb, by simp; omega⟩, hs⟩
theorem takesM_asc (row : List Int) (many : Int) : Asc (takesM row many) := List.Pairwise.filter _ (takesGo_asc many row [[]] (List.pairwise_singleton _ _))
theorem takesM_few {row : List Int} {many : Int} (h3 : row.length ≤ 3) (h : ∀ c ∈ row, c ≤ 2) : (takesM row many).length ≤ 27 := by
  have h1 := takesGo_few many row [[]] h
  have h2 := List.length_filter_le (fun w : List Int => decide (w.sum = many)) (takesGo many row [[]])
  have h4 : 3 ^ row.length ≤ 3 ^ 3 := Nat.pow_le_pow_right (by decide) h3
  unfold takesM
  simp at h1 ⊢ h2
  omega
/-! the ways -/
abbrev loW (rem b : Int) : List Int → Int := fun w => maxP 0 (rem - w.sum - b)
abbrev hiW (rem p : Int) : List Int → Int := fun w => minP p (rem - w.sum) + 1
def waysGo (rem : Int) : List Int → List (List Int) → List (List Int)
  | [], rows => rows
  | p :: r, rows => waysGo rem r (stepG (loW rem r.sum) (hiW rem p) rows)
theorem waysGo_mem (rem : Int) (w : List Int) : ∀ (cs : List Int) (rows : List (List Int)), (∀ u ∈ rows, u.sum ≤ rem ∧ rem ≤ u.sum + cs.sum) → (w ∈ waysGo rem cs rows ↔ ∃ u ∈ rows, ∃ t, w = u ++ t ∧ Bnd t cs ∧ u.sum + t.sum = rem)
  | [], rows, h => by
    constructor
    · intro hw
      exact ⟨w, hw, [], (List.append_nil _).symm, .nil, by have := h w hw; simp at this ⊢; omega⟩
    · rintro ⟨u, hu, t, rfl, hb, _⟩
      cases hb
      rw [List.append_nil]
      exact hu
  | c :: cs, rows, h => by
    show w ∈ waysGo rem cs (stepG (loW rem cs.sum) (hiW rem c) rows) ↔ _
    rw [waysGo_mem rem w cs _ fun u hu => by
      obtain ⟨v, hv, x, h1, h2, rfl⟩ := stepG_mem.mp hu
      obtain ⟨k1, k2⟩ := minP_le.mp h2
      obtain ⟨k3, k4⟩ := maxP_le.mp h1
      simp
      omega]
    constructor
    · rintro ⟨u', hu', t', rfl, hb, hs⟩
      obtain ⟨u, hu, x, h1, h2, rfl⟩ := stepG_mem.mp hu'
      obtain ⟨k1, k2⟩ := minP_le.mp h2
      obtain ⟨k3, k4⟩ := maxP_le.mp h1
      refine ⟨u, hu, x :: t', by simp, .cons k3 k1 hb, ?_⟩
      simp at hs ⊢
      omega
    · rintro ⟨u, hu, t, rfl, hb, hs⟩
      cases hb with
      | @cons x _ t' _ h1 h2 hb =>
        have := hb.nn
        simp at hs
        exact ⟨u ++ [x], stepG_mem.mpr ⟨u, hu, x, maxP_le.mpr ⟨h1, by omega⟩, minP_le.mpr ⟨h2, by omega⟩, rfl⟩, t', by simp, hb, by simp; omega⟩
theorem waysGo_asc (rem : Int) : ∀ (cs : List Int) (rows : List (List Int)), Asc rows → Asc (waysGo rem cs rows)
  | [], _, h => h
  | _ :: cs, _, h => waysGo_asc rem cs _ (stepG_asc h)
def waysM (row : List Int) (c : Int) : List (List Int) := waysGo (row.sum - c) row [[]]
theorem waysM_mem {row : List Int} {c : Int} (h0 : 0 ≤ c) (h : c ≤ row.sum) {w : List Int} : w ∈ waysM row c ↔ Bnd w row ∧ w.sum = row.sum - c := by
  unfold waysM
  rw [waysGo_mem _ w row [[]] (by simp; omega)]
  constructor
  · rintro ⟨u, hu, t, rfl, hb, hs⟩
    rw [List.mem_singleton] at hu
    subst hu
    exact ⟨hb, by simpa using hs⟩
  · rintro ⟨hb, hs⟩
    exact ⟨[], List.mem_singleton.mpr rfl, w, rfl, hb, by simpa using hs⟩
theorem waysM_asc (row : List Int) (c : Int) : Asc (waysM row c) := waysGo_asc _ row [[]] (List.pairwise_singleton _ _)
/-! what is left -/
def subL (row t : List Int) : List Int := List.zipWith (fun a b => a - b) row t
theorem subL_bnd {row t : List Int} (h : Bnd t row) : Bnd (subL row t) row ∧ (subL row t).sum = row.sum - t.sum ∧ subL row (subL row t) = t := by
  induction h with
  | nil => exact ⟨.nil, rfl, rfl⟩
  | @cons x c w cs h1 h2 _ ih =>
    obtain ⟨i1, i2, i3⟩ := ih
    refine ⟨.cons (by show 0 ≤ c - x; omega) (by show c - x ≤ c; omega) i1, ?_, ?_⟩
    · show (c - x) + (subL cs w).sum = _
      rw [i2, List.sum_cons, List.sum_cons]
      omega
    · show (c - (c - x)) :: subL cs (subL cs w) = _
      rw [i3, show c - (c - x) = x by omega]
theorem subL_lex {t t' : List Int} (h : LexP (· < ·) t t') : ∀ {row : List Int}, Bnd t row → Bnd t' row → LexP (· < ·) (subL row t') (subL row t) := by
  induction h with
  | @head a b l m h =>
    intro row h1 h2
    cases h1 with
    | @cons _ c _ cs _ _ _ =>
      cases h2 with
      | cons _ _ _ => exact .head (by show c - b < c - a; have h' : a < b := h; omega)
  | tail _ ih =>
    intro row h1 h2
    cases h1 with
    | cons _ _ b1 =>
      cases h2 with
      | cons _ _ b2 => exact .tail (ih b1 b2)
theorem uniq_asc {α : Type} {R : α → α → Prop} (hr : ∀ a b, R a b → ¬ R b a) : ∀ {l m : List α}, l.Pairwise R → m.Pairwise R → (∀ x, x ∈ l ↔ x ∈ m) → l = m
  | [], [], _, _, _ => rfl
  | [], b :: m, _, _, h => by have := (h b).mpr List.mem_cons_self; cases this
  | a :: l, [], _, _, h => by have := (h a).mp List.mem_cons_self; cases this
  | a :: l, b :: m, hl, hm, h => by
    obtain ⟨l1, l2⟩ := List.pairwise_cons.mp hl
    obtain ⟨m1, m2⟩ := List.pairwise_cons.mp hm
    have e : a = b := Classical.byContradiction fun ne => by
      have h1 := (List.mem_cons.mp ((h a).mp List.mem_cons_self)).resolve_left ne
      have h2 := (List.mem_cons.mp ((h b).mpr List.mem_cons_self)).resolve_left fun z => ne z.symm
      exact hr _ _ (l1 b h2) (m1 a h1)
    subst e
    rw [uniq_asc hr l2 m2 fun x => ⟨fun hx => ?_, fun hx => ?_⟩]
    · rcases List.mem_cons.mp ((h x).mp (List.mem_cons_of_mem _ hx)) with rfl | z
      · exact absurd (l1 x hx) (hr _ _ (l1 x hx))
      · exact z
    · rcases List.mem_cons.mp ((h x).mpr (List.mem_cons_of_mem _ hx)) with rfl | z
      · exact absurd (m1 x hx) (hr _ _ (m1 x hx))
      · exact z
theorem ways_takes {row : List Int} {c : Int} (h0 : 0 ≤ c) (h : c ≤ row.sum) : waysM row c = ((takesM row c).map (subL row)).reverse := by
  refine uniq_asc (fun _ _ => LexP.asymm int_asymm) (waysM_asc row c) ?_ fun w => ?_
  · rw [List.pairwise_reverse, List.pairwise_map]
    exact (takesM_asc row c).imp_of_mem fun {a b} ha hb hab => subL_lex hab ((takesM_mem h0).mp ha).1 ((takesM_mem h0).mp hb).1
  · rw [List.mem_reverse, waysM_mem h0 h, List.mem_map]
    constructor
    · rintro ⟨hb, hs⟩
      obtain ⟨b1, b2, b3⟩ := subL_bnd hb
      exact ⟨subL row w, (takesM_mem h0).mpr ⟨b1, by omega⟩, b3⟩
    · rintro ⟨t, ht, rfl⟩
      obtain ⟨tb, ts⟩ := (takesM_mem h0).mp ht
      obtain ⟨b1, b2, b3⟩ := subL_bnd tb
      exact ⟨b1, by omega⟩
/-! all goods -/
def dueF (r : List Int) (c : Int) : St → List St := fun first => (takesM r c).map fun t => first ++ [subL r t]
def dueGo : St → List Int → List St → List St
  | r :: st, c :: od, acc => dueGo st od (acc.flatMap (dueF r c))
  | _, _, acc => acc
def issF (r : List Int) (c : Int) : St → List St := fun rows => (waysM r c).map fun left => rows ++ [left]
def issGo : St → List Int → List St → List St
  | r :: st, c :: od, acc => issGo st od (acc.flatMap (issF r c))
  | _, _, acc => acc
/-- orders that can be met -/
def Can : St → List Int → Prop
  | r :: st, c :: od => 0 ≤ c ∧ c ≤ r.sum ∧ Can st od
  | [], [] => True
  | _, _ => False
theorem iss_due : ∀ (st : St) (od : List Int) (acc : List St), Can st od → issGo st od acc.reverse = (dueGo st od acc).reverse
  | [], [], _, _ => rfl
  | r :: st, c :: od, acc, ⟨h0, h1, h2⟩ => by
    show issGo st od (acc.reverse.flatMap (issF r c)) = (dueGo st od (acc.flatMap (dueF r c))).reverse
    rw [← iss_due st od _ h2, List.reverse_flatMap]
    congr 2
    funext first
    show (waysM r c).map _ = ((takesM r c).map _).reverse
    rw [ways_takes h0 h1, List.map_reverse, List.map_map]
    rfl
  | [], _ :: _, _, h => h.elim
  | _ :: _, [], _, h => h.elim
abbrev AscS (l : List St) : Prop := l.Pairwise (LexP (LexP (· < ·)))
theorem issGo_asc : ∀ (st : St) (od : List Int) (acc : List St), AscS acc → AscS (issGo st od acc)
  | r :: st, c :: od, acc, h => by
    refine issGo_asc st od (acc.flatMap (issF r c)) ?_
    show List.Pairwise _ _
    rw [List.pairwise_flatMap]
    refine ⟨fun w _ => ?_, h.imp fun {a b} hab x hx y hy => ?_⟩
    · unfold issF
      rw [List.pairwise_map]
      exact (waysM_asc r c).imp fun {i j} hij => LexP.last hij w
    · obtain ⟨_, _, rfl⟩ := List.mem_map.mp hx
      obtain ⟨_, _, rfl⟩ := List.mem_map.mp hy
      exact hab.app _ _
  | [], _, _, h => h
  | _ :: _, [], _, h => h
inductive W3 : St → St → List Int → Prop
  | nil : W3 [] [] []
  | cons {w r : List Int} {c : Int} {t st : St} {od : List Int} : w ∈ waysM r c → W3 t st od → W3 (w :: t) (r :: st) (c :: od)
theorem issGo_mem (s : St) : ∀ (st : St) (od : List Int) (acc : List St), st.length = od.length → (s ∈ issGo st od acc ↔ ∃ u ∈ acc, ∃ t, s = u ++ t ∧ W3 t st od)
  | [], [], acc, _ => by
    constructor
    · intro h
      exact ⟨s, h, [], (List.append_nil _).symm, .nil⟩
    · rintro ⟨u, hu, t, rfl, w⟩
      cases w
      rw [List.append_nil]
      exact hu
  | r :: st, c :: od, acc, hl => by
    show s ∈ issGo st od (acc.flatMap (issF r c)) ↔ _
    rw [issGo_mem s st od _ (by simpa using hl)]
    constructor
    · rintro ⟨u', hu', t', rfl, w'⟩
      obtain ⟨u, hu, h2⟩ := List.mem_flatMap.mp hu'
      obtain ⟨w, hw, rfl⟩ := List.mem_map.mp h2
      exact ⟨u, hu, w :: t', by simp, .cons hw w'⟩
    · rintro ⟨u, hu, t, rfl, w⟩
      cases w with
      | @cons w _ _ t' _ _ hw ht => exact ⟨u ++ [w], List.mem_flatMap.mpr ⟨u, hu, List.mem_map.mpr ⟨w, hw, rfl⟩⟩, t', by simp, ht⟩
  | [], _ :: _, _, h => by simp at h
  | _ :: _, [], _, h => by simp at h
theorem due_few : ∀ (st : St) (od : List Int) (acc : List St), (∀ r ∈ st, r.length ≤ 3 ∧ ∀ c ∈ r, c ≤ 2) → (dueGo st od acc).length ≤ 27 ^ st.length * acc.length
  | r :: st, c :: od, acc, h => by
    have h1 := due_few st od (acc.flatMap (dueF r c)) fun r hr => h r (List.mem_cons_of_mem _ hr)
    obtain ⟨h2, h3⟩ := h r List.mem_cons_self
    have h4 : (acc.flatMap (dueF r c)).length ≤ 27 * acc.length := by
      have hk := takesM_few (many := c) h2 h3
      clear h1
      induction acc with
      | nil => simp
      | cons a acc ih =>
        have : ((a :: acc).flatMap (dueF r c)).length = (takesM r c).length + (acc.flatMap (dueF r c)).length := by simp [dueF]
        rw [this, List.length_cons]
        omega
    have h5 := Nat.mul_le_mul_left (27 ^ st.length) h4
    show (dueGo st od _).length ≤ _
    rw [List.length_cons, Nat.pow_succ, Nat.mul_assoc]
    omega
  | [], _, acc, _ => by simp [dueGo]
  | r :: st, [], acc, _ => by
    have : 1 ≤ 27 ^ (r :: st).length := Nat.pow_pos (by decide)
    have := Nat.mul_le_mul_right acc.length this
    simp only [dueGo]
    omega
/-! oldest first -/
theorem takeOld_bnd : ∀ {r : List Int} {c : Int}, (∀ n ∈ r, 0 ≤ n) → 0 ≤ c → Bnd (takeOld r c) r
  | [], _, _, _ => .nil
  | p :: r, c, h, hc => by
    have hp := h p List.mem_cons_self
    refine .cons ?_ ?_ (takeOld_bnd (fun n hn => h n (List.mem_cons_of_mem _ hn)) ?_) <;> split <;> omega
theorem takeOld_way {r : List Int} {c : Int} (h : ∀ n ∈ r, 0 ≤ n) (h0 : 0 ≤ c) (h1 : c ≤ r.sum) : takeOld r c ∈ waysM r c := by
  refine (waysM_mem h0 h1).mpr ⟨takeOld_bnd h h0, ?_⟩
  have := drop_take r c 0 h h0 h1
  simp only [List.drop_zero] at this
  rw [this, if_neg (by omega)]
theorem bnd_drop {w r : List Int} (h : Bnd w r) : ∀ k, (w.drop k).sum ≤ (r.drop k).sum ∧ (w.drop k).sum ≤ w.sum := by
  induction h with
  | nil => intro k; simp
  | cons h1 h2 b ih =>
    intro k
    have := b.nn
    cases k with
    | zero => simp only [List.drop_zero, List.sum_cons]; omega
    | succ k =>
      have := ih k
      simp only [List.drop_succ_cons, List.sum_cons]
      omega
theorem old_best {r w : List Int} {c : Int} (h : ∀ n ∈ r, 0 ≤ n) (h0 : 0 ≤ c) (h1 : c ≤ r.sum) (hw : w ∈ waysM r c) : betR (takeOld r c) w = true := by
  obtain ⟨b, s⟩ := (waysM_mem h0 h1).mp hw
  refine (betR_iff (by rw [takeOld_len, b.len])).mpr fun k => ?_
  rw [drop_take r c k h h0 h1]
  have := bnd_drop b k
  split <;> omega
theorem sold_w3 : ∀ {st : St} {od : List Int}, NN st → Can st od → W3 (soldAll st od) st od
  | [], [], _, _ => .nil
  | r :: st, c :: od, hn, ⟨h0, h1, h2⟩ => .cons (takeOld_way (hn r List.mem_cons_self) h0 h1) (sold_w3 (fun r hr => hn r (List.mem_cons_of_mem _ hr)) h2)
  | [], _ :: _, _, h => h.elim
  | _ :: _, [], _, h => h.elim
theorem sold_best {st t : St} {od : List Int} (hn : NN st) (hc : Can st od) (hw : W3 t st od) : betM (soldAll st od) t = true := by
  induction hw with
  | nil => rfl
  | @cons w r c t st od hw _ ih =>
    obtain ⟨h0, h1, h2⟩ := hc
    have e : betM (soldAll (r :: st) (c :: od)) (w :: t) = (betR (takeOld r c) w && betM (soldAll st od) t) := rfl
    rw [e, old_best (hn r List.mem_cons_self) h0 h1 hw, ih (fun r hr => hn r (List.mem_cons_of_mem _ hr)) h2]
    rfl
theorem W3.len {t st : St} {od : List Int} (h : W3 t st od) (hc : Can st od) : t.length = st.length ∧ ∀ (i : Nat) (a b : List Int), t[i]? = some a → st[i]? = some b → a.length = b.length := by
  induction h with
  | nil => exact ⟨rfl, fun i a b h _ => by simp at h⟩
  | cons hw _ ih =>
    obtain ⟨h0, h1, h2⟩ := hc
    obtain ⟨i1, i2⟩ := ih h2
    refine ⟨by simp [i1], fun i a b ha hb => ?_⟩
    cases i with
    | zero =>
      simp at ha hb
      subst ha hb
      exact ((waysM_mem h0 h1).mp hw).1.len
    | succ i => exact i2 i a b (by simpa using ha) (by simpa using hb)
theorem can_lack : ∀ {st : St} {od : List Int} (i : Nat), Can st od → lackAt i st od = none
  | [], [], _, _ => rfl
  | r :: st, c :: od, i, ⟨h0, h1, h2⟩ => by
    show (if r.sum < c then some i else lackAt (i + 1) st od) = none
    rw [if_neg (by omega), can_lack (i + 1) h2]
  | [], _ :: _, _, h => h.elim
  | _ :: _, [], _, h => h.elim
theorem can_snoc : ∀ {st : St} {od : List Int} {r : List Int} {v : Int}, Can st od → 0 ≤ v → v ≤ r.sum → Can (st ++ [r]) (od ++ [v])
  | [], [], _, _, _, h0, h1 => ⟨h0, h1, trivial⟩
  | _ :: _, _ :: _, _, _, ⟨k0, k1, k2⟩, h0, h1 => ⟨k0, k1, can_snoc k2 h0 h1⟩
  | [], _ :: _, _, _, h, _, _ => h.elim
  | _ :: _, [], _, _, h, _, _ => h.elim
theorem can_at : ∀ {st : St} {od : List Int}, Can st od → ∀ (i : Nat) (r : List Int) (c : Int), st[i]? = some r → od[i]? = some c → 0 ≤ c ∧ c ≤ r.sum
  | [], [], _, i, r, c, h, _ => by simp at h
  | r :: st, c :: od, ⟨k0, k1, k2⟩, i, r', c', h1, h2 => by
    cases i with
    | zero =>
      simp at h1 h2
      subst h1 h2
      exact ⟨k0, k1⟩
    | succ i => exact can_at k2 i r' c' (by simpa using h1) (by simpa using h2)
  | [], _ :: _, h, _, _, _, _, _ => h.elim
  | _ :: _, [], h, _, _, _, _, _ => h.elim
theorem subL_map {r t : List Int} (h : t.length = r.length) : (List.range t.length).map (fun k => r.getD k 0 - t.getD k 0) = subL r t := by
  refine List.ext_getElem? fun i => ?_
  unfold subL
  rw [List.getElem?_map, List.getElem?_zipWith]
  by_cases hi : i < t.length
  · rw [List.getElem?_range hi, List.getElem?_eq_getElem hi, List.getElem?_eq_getElem (by omega : i < r.length)]
    simp [List.getD_eq_getElem?_getD, List.getElem?_eq_getElem hi, List.getElem?_eq_getElem (by omega : i < r.length)]
  · have e1 : (List.range t.length)[i]? = none := List.getElem?_eq_none (by rw [List.length_range]; omega)
    have e2 : t[i]? = none := List.getElem?_eq_none (by omega)
    have e3 : r[i]? = none := List.getElem?_eq_none (by omega)
    rw [e1, e2, e3]
    rfl
theorem can_len : ∀ {st : St} {od : List Int}, Can st od → st.length = od.length
  | [], [], _ => rfl
  | r :: st, c :: od, ⟨h0, h1, h2⟩ => by simp [can_len h2]
  | [], _ :: _, h => h.elim
  | _ :: _, [], h => h.elim
theorem okD_rows (l : List St) : okD (.lst (l.map fun s => ttI s)) = true := by
  unfold okD
  have h1 : DL.plain (.lst (l.map fun s => ttI s)) = true := by
    simp only [DL.plain]
    exact plainL_map (fun s => ttI s) plain_ttI l
  have h2 : dep (.lst (l.map fun s => ttI s)) ≤ 3 := by
    simp only [dep]
    have : depL (l.map fun s => ttI s) ≤ 2 := depL_le fun d hd => by
      obtain ⟨s, _, rfl⟩ := List.mem_map.mp hd
      exact dep_ttI s
    omega
  rw [h1, Bool.true_and, decide_eq_true_eq]
  omega
theorem okD_ttI (s : St) : okD (ttI s) = true := by
  unfold okD
  have h1 := plain_ttI s
  have h2 := dep_ttI s
  rw [show DL.plain (ttI s) = true from h1, Bool.true_and, decide_eq_true_eq]
  show dep (.tup (s.map tI)) ≤ _
  omega
end K06

set_option Elab.async false
set_option linter.all false
set_option maxRecDepth 100000
set_option maxHeartbeats 4000000
namespace K06
open PySem PySem.Spec PyProof.Rows L2 DL QG GG
local macro_rules | `(tactic| walk_at "rd") => `(tactic| simp only [exists_eq', lk_keep, lk_patterns, lk_most, lk_week, lk_budget, dMake, dSlL, rdRepT, rdIsB, dAsgT, dAllG, dAnyG, dSumG, capD, genG, dElt, dZipK, dEnK, dRep, dCat2, dAugIx, rdEqB, dIsT, tyN, rdSortR, dFld, dChain, dSlT, dSlL, dPn, dPs, rdCatT, dLc2, fvD, Option.map_some, dFSeq, dSetF, dFNil, DL.pairD, List.replicate_succ, Bool.not_true, Bool.not_false, dSeq, dIfS, dB, dOp, dVar, dC, dCB, dCO, dACons, dANil, dRet, dAsg, dAsgO, dAsgOF, dExpr, dSetIx, dApp, dOf, dTup, dLst, dCat, dUn, dFor, dRng1, dRng2, dItL, dItT, dZip, dLc, dNext, dAnd, dOr, dNot, dAndV, dOrV, dIfE, dYes, dAug, dCall, dCallB, dCallX, dRaise, dEz, dBreak, dCont, dRetN, sdR, sdBR, sdX, dIsN,
  rdLen, rdInt, rdMM, rdTup, rdLstOf, rdSum, rdIx, rdI, rdI0, rdEq, rdIn, asD, itemsOf_lst, itemsOf_tup, fix, fixL, startD, notOwn, freeOk_fr, frS_dat, frS_non, frS_own, okW, wipeG, dgName, dgTup, dgsCons, dgsNil, gAdd, DL.gSub, gMul, gMod, gDiv, gPow, gLt, gLe, gGt, gGe, atI_c0, atI_c1, atI_c2, atI_c3, atI_c4, ixN_21, ixN_20, soft_dat, soft_non, soft_own,
  List.cons_append, List.nil_append, List.map_cons, List.map_nil, List.length_cons, List.length_nil, List.length_map, List.getElem?_cons_zero, List.getElem?_cons_succ, List.set_cons_zero, List.set_cons_succ, List.replicate_succ, List.replicate_zero, Nat.reduceSub, Nat.reduceAdd, Nat.zero_add, List.all_cons, List.all_nil, Option.some.injEq, Prod.mk.injEq, Option.bind_some, reduceCtorEq,
  Wv.dat.injEq, Wv.slot.injEq, D.obj.injEq, D.int.injEq, D.bl.injEq, D.lst.injEq, D.tup.injEq, List.cons.injEq, Sl.dat.injEq, Sl.own.injEq, exists_eq_left, exists_eq_left', exists_and_left, exists_and_right, exists_eq_right, exists_eq, exists_false, exists_const, true_and, and_true, false_and, and_false, ite_true, ite_false, if_true, if_false, eq_self, ↓reduceIte, Bool.and_true, Bool.true_and, and_self, or_false, false_or, Bool.false_eq_true, and_assoc, exists_prop, exists_eq_right_right, exists_eq_right', forall_eq, forall_eq', Int.reducePow, Int.reduceToNat, decide_eq_true_eq])
local macro_rules | `(tactic| walk_at "rs") => `(tactic| simp only [exists_eq', lk_keep, lk_patterns, lk_most, lk_week, lk_budget, dMake, dSlL, rdRepT, rdIsB, dAsgT, dAllG, dAnyG, dSumG, capD, genG, dElt, dZipK, dEnK, dRep, dCat2, dAugIx, rdEqB, dIsT, tyN, rdSortR, dFld, dChain, dSlT, dSlL, dPn, dPs, rdCatT, dLc2, fvD, Option.map_some, dFSeq, dSetF, dFNil, DL.pairD, List.replicate_succ, Bool.not_true, Bool.not_false, dIfS, dB, dOp, dVar, dC, dCB, dCO, dACons, dANil, dRet, dAsg, dAsgO, dAsgOF, dExpr, dSetIx, dApp, dOf, dTup, dLst, dCat, dUn, dFor, dRng1, dRng2, dItL, dItT, dZip, dLc, dNext, dAnd, dOr, dNot, dAndV, dOrV, dIfE, dYes, dAug, dCall, dCallB, dCallX, dRaise, dEz, dBreak, dCont, dRetN, sdR, sdBR, sdX, dIsN,
  rdLen, rdInt, rdMM, rdTup, rdLstOf, rdSum, rdIx, rdI, rdI0, rdEq, rdIn, asD, itemsOf_lst, itemsOf_tup, fix, fixL, startD, notOwn, freeOk_fr, frS_dat, frS_non, frS_own, okW, wipeG, dgName, dgTup, dgsCons, dgsNil, gAdd, DL.gSub, gMul, gMod, gDiv, gPow, gLt, gLe, gGt, gGe, atI_c0, atI_c1, atI_c2, atI_c3, atI_c4, ixN_21, ixN_20, soft_dat, soft_non, soft_own,
  List.cons_append, List.nil_append, List.map_cons, List.map_nil, List.length_cons, List.length_nil, List.length_map, List.getElem?_cons_zero, List.getElem?_cons_succ, List.set_cons_zero, List.set_cons_succ, List.replicate_succ, List.replicate_zero, Nat.reduceSub, Nat.reduceAdd, Nat.zero_add, List.all_cons, List.all_nil, Option.some.injEq, Prod.mk.injEq, Option.bind_some, reduceCtorEq,
  Wv.dat.injEq, Wv.slot.injEq, D.obj.injEq, D.int.injEq, D.bl.injEq, D.lst.injEq, D.tup.injEq, List.cons.injEq, Sl.dat.injEq, Sl.own.injEq, exists_eq_left, exists_eq_left', exists_and_left, exists_and_right, exists_eq_right, exists_eq, exists_false, exists_const, true_and, and_true, false_and, and_false, ite_true, ite_false, if_true, if_false, eq_self, ↓reduceIte, Bool.and_true, Bool.true_and, and_self, or_false, false_or, Bool.false_eq_true, and_assoc, exists_prop, exists_eq_right_right, exists_eq_right', forall_eq, forall_eq', Int.reducePow, Int.reduceToNat, decide_eq_true_eq])

section
variable {P : Program} {w : World} {K : PySem.W.Frag} {mg : Str → Option Value} {base : Heap} {ts : List Addr}
abbrev s_all_taken : Stmt := top 8
abbrev N_all_taken : List Str := ["row", "count", "remaining", "behind", "ways", "pieces", "way", "stay"]
theorem sc_all_taken : FnScope N_all_taken ["row", "count"] (defScope s_all_taken) := ⟨rfl, rfl, rfl, by decide +kernel, rfl, by decide +kernel, by decide +kernel⟩
abbrev s_issues : Stmt := top 7
abbrev N_issues : List Str := ["stock", "order", "stocks", "row", "count", "ways", "rows", "left"]
theorem sc_issues : FnScope N_issues ["stock", "order"] (defScope s_issues) := ⟨rfl, rfl, rfl, by decide +kernel, rfl, by decide +kernel, by decide +kernel⟩
abbrev s_law_takes : Stmt := top 30
abbrev N_law_takes : List Str := ["row", "many", "rows", "count", "longer", "one", "more"]
theorem sc_law_takes : FnScope N_law_takes ["row", "many"] (defScope s_law_takes) := ⟨rfl, rfl, rfl, by decide +kernel, rfl, by decide +kernel, by decide +kernel⟩

structure Few (r : List Int) (c : Int) : Prop where
  len : r.length ≤ 3
  le : ∀ n ∈ r, 0 ≤ n ∧ n ≤ 2
  c0 : 0 ≤ c
  c1 : c ≤ r.sum
theorem row6 : ∀ {r : List Int}, r.length ≤ 3 → (∀ n ∈ r, 0 ≤ n ∧ n ≤ 2) → 0 ≤ r.sum ∧ r.sum ≤ 6
  | [], _, _ => by decide
  | [a], _, h => by have := h a (by simp); simp; omega
  | [a, b], _, h => by have := h a (by simp); have := h b (by simp); simp; omega
  | [a, b, c], _, h => by have := h a (by simp); have := h b (by simp); have := h c (by simp); simp; omega
  | _ :: _ :: _ :: _ :: _, h, _ => by simp at h
theorem few_w {rem b p : Int} (hp : p ≤ 2) {w : List Int} : hiW rem p w - loW rem b w ≤ ((3 : Nat) : Int) := by
  show minP p (rem - w.sum) + 1 - maxP 0 (rem - w.sum - b) ≤ _
  unfold minP maxP
  split <;> split <;> omega
theorem few_3 {r : List Int} (h : r.length ≤ 3) : 3 ^ r.length * ([[]] : List (List Int)).length ≤ 27 := by
  have h4 : 3 ^ r.length ≤ 3 ^ 3 := Nat.pow_le_pow_right (by decide) h
  simpa using h4
abbrev sdAT : Sd := sdF (fun a : List Int × Int => [tI a.1, .int a.2]) (fun a => Few a.1 a.2) fun a => ltI (waysM a.1 a.2)
theorem ok_all_taken {f : Addr} {fd : FuncData} {k : Nat} (T : Tx mg) (F : Fun K "all_taken" "all_taken" s_all_taken f fd) : FnOk P w K mg base CX0 (k + 1) f fd ["row", "count"] (spD K ts sdAT) := by
  refine' okDef F sc_all_taken (by decide) ?hl ?hb ?hr
  case hb =>
    intro cdv A outer s H E hr
    exact (pds_cons (pd_asg 2 (fun _ => sc_all_taken.nd) (pd_sub (pd_sum (fun _ => rfl) (fun _ => rfl) (fun _ => T.sum) (pda_cons (pd_var 0) pda_nil)) (pd_var 1)))
    (pds_cons (pd_asg 3 (fun _ => sc_all_taken.nd) (pd_sum (fun _ => rfl) (fun _ => rfl) (fun _ => T.sum) (pda_cons (pd_var 0) pda_nil)))
    (pds_cons (pd_asgO 4 (fun _ => sc_all_taken.nd) (pdo_lst (pda_cons (pd_tup pda_nil) pda_nil)))
    (pds_cons (pd_for (fun _ => PassesOwn.never) (fun _ => rfl) (pdi_tup (pd_var 0)) (pdg_name 5 (fun _ => sc_all_taken.nd)) (pds_cons (pd_augSub 3 (fun _ => sc_all_taken.nd) (pd_var 5))
    (pds_one (pd_setLc2F 4 [("way", 6), ("stay", 7)] [7] (fun _ => rfl) (fun _ => sc_all_taken.nd) (pdi_list (pd_var 4)) (fun _ => sw_true rfl rfl rfl (by decide +kernel)) (fun _ => blkOk_by (own := [("way", 6), ("stay", 7)]) (N := N_all_taken) (sc := defScope s_all_taken) (by decide +kernel)) (pdg_name 6 (fun _ => sc_all_taken.nd)) pdts_nil (pdi_range2 (fun _ => rfl) (fun _ => T.range) (pda_cons (pd_max2 (fun _ => rfl) (fun _ => rfl) (fun _ => T.max) (pda_cons pd_int (pda_cons (pd_sub (pd_sub (pd_var 2) (pd_sum (fun _ => rfl) (fun _ => rfl) (fun _ => T.sum) (pda_cons (pd_var 6) pda_nil))) (pd_var 3)) pda_nil))) (pda_cons (pd_add (pd_min2 (fun _ => rfl) (fun _ => rfl) (fun _ => T.min) (pda_cons (pd_var 5) (pda_cons (pd_sub (pd_var 2) (pd_sum (fun _ => rfl) (fun _ => rfl) (fun _ => T.sum) (pda_cons (pd_var 6) pda_nil))) pda_nil))) pd_int) pda_nil))) (pdg_name 7 (fun _ => sc_all_taken.nd)) pdts_nil (pd_catT (pd_var 6) (pd_tup (pda_cons (pd_var 7) pda_nil)))))))
    (pds_one (pd_ret (pd_var 4)))))))
  case hl =>
    rintro ds Q E ⟨a, rfl, _⟩
    rfl
  case hr =>
    rintro ds Q E ⟨⟨row, c⟩, rfl, h, q⟩
    dsimp only at h q
    have rs6 := row6 h.len h.le
    have hc0 := h.c0
    have hc1 := h.c1
    walk_at "rd"
    refine ⟨row, rfl, row, rfl, by decide, by decide, ?_⟩
    refine dLoop_by (fun xs Γ => ∃ (post : List Int) (rows : List (List Int)) (c5 c6 c7 : Sl), xs = post.map D.int ∧ waysGo (row.sum - c) post rows = waysM row c ∧ (∀ n ∈ post, 0 ≤ n ∧ n ≤ 2) ∧ 3 ^ post.length * rows.length ≤ 27 ∧ (∀ u ∈ rows, 0 ≤ u.sum ∧ u.sum ≤ row.sum - c ∧ u.length + post.length ≤ 3) ∧ post.sum ≤ 6 ∧ 0 ≤ post.sum ∧ Γ = [.dat (tI row), .dat (.int c), .dat (.int (row.sum - c)), .dat (.int post.sum), .own false (rows.map tI), c5, c6, c7] ∧ soft c5 = true ∧ soft c6 = true ∧ soft c7 = true) ?_ ?_ _ _ ⟨row, [[]], _, _, _, rfl, rfl, h.le, ?_, by have := h.len; simp; omega, rs6.2, rs6.1, rfl, rfl, rfl, rfl⟩
    · rintro Γ ⟨post, rows, c5, c6, c7, e, hw, _, _, _, _, _, rfl, h5, h6, h7⟩
      have ep : post = [] := by
        cases post with
        | nil => rfl
        | cons _ _ => cases e
      subst ep
      walk_at "rd"
      have hw' : rows = waysM row c := hw
      rw [hw']
      exact q
    · rintro x xs Γ ⟨post, rows, c5, c6, c7, e, hw, hp, hf, hu, hs6, hs0, rfl, h5, h6, h7⟩
      cases post with
      | nil => cases e
      | cons p post =>
        rw [List.map_cons] at e
        injection e with e1 e2
        subst e1 e2
        have hp2 := hp p List.mem_cons_self
        have hpp : ∀ n ∈ post, 0 ≤ n ∧ n ≤ 2 := fun n hn => hp n (List.mem_cons_of_mem _ hn)
        have hq0 := sum_nn fun n hn => (hpp n hn).1
        rw [List.sum_cons] at hs6 hs0
        have l1 : 3 * rows.length ≤ 27 := by
          have : 1 ≤ 3 ^ post.length := Nat.pow_pos (by decide)
          have := Nat.mul_le_mul_right (3 * rows.length) this
          rw [List.length_cons, Nat.pow_succ, Nat.mul_assoc] at hf
          omega
        refine ⟨_, if_pos h5, fun L hL => ?_⟩
        walk_at "rd"
        rw [show (p :: post).sum - p = post.sum by rw [List.sum_cons]; omega]
        refine ⟨by simp [h6, h7], ?_⟩
        refine dLc2R_by (fun xs acc Γ => ∃ a b : List (List Int), rows = a ++ b ∧ xs = b.map tI ∧ acc = (stepG (loW (row.sum - c) post.sum) (hiW (row.sum - c) p) a).map tI ∧ Γ = [.dat (tI row), .dat (.int c), .dat (.int (row.sum - c)), .dat (.int post.sum), .dat (ltI rows), .dat (.int p), .non, .non]) ?_ ?_ _ _ _ ⟨[], rows, rfl, rfl, rfl, rfl⟩
        · rintro acc Γ ⟨a, b, e, e1, rfl, rfl⟩
          have eb : b = [] := by
            cases b with
            | nil => rfl
            | cons _ _ => cases e1
          rw [eb, List.append_nil] at e
          walk_at "rd"
          refine hL _ ⟨post, _, .dat (.int p), .non, .non, rfl, ?_, hpp, ?_, ?_, by omega, hq0, rfl, rfl, rfl, rfl⟩
          · rw [← e]
            exact hw
          · rw [← e]
            have l2 : (stepG (loW (row.sum - c) post.sum) (hiW (row.sum - c) p) rows).length ≤ 3 * rows.length := stepG_few fun w _ => few_w hp2.2
            have l3 := Nat.mul_le_mul_left (3 ^ post.length) l2
            rw [List.length_cons, Nat.pow_succ, Nat.mul_assoc] at hf
            omega
          · rw [← e]
            intro u hm
            obtain ⟨v, hv, x, k1, k2, rfl⟩ := stepG_mem.mp hm
            obtain ⟨k3, k4⟩ := minP_le.mp k2
            obtain ⟨k5, k6⟩ := maxP_le.mp k1
            have hv' := hu v hv
            rw [List.length_cons] at hv'
            rw [List.sum_append, List.length_append]
            simp only [List.sum_cons, List.sum_nil, List.length_singleton]
            omega
        · rintro d r' acc Γ ⟨a, b, e, e1, rfl, rfl⟩
          cases b with
          | nil => cases e1
          | cons w b =>
            rw [List.map_cons, List.cons.injEq] at e1
            obtain ⟨rfl, rfl⟩ := e1
            have hwu := hu w (by rw [e]; simp)
            rw [List.length_cons] at hwu
            have l4 : (stepG (loW (row.sum - c) post.sum) (hiW (row.sum - c) p) a).length + (rowG (loW (row.sum - c) post.sum) (hiW (row.sum - c) p) w).length ≤ 27 := by
              have l2 : (stepG (loW (row.sum - c) post.sum) (hiW (row.sum - c) p) rows).length ≤ 3 * rows.length := stepG_few fun w _ => few_w hp2.2
              have := stepG_split (lo := loW (row.sum - c) post.sum) (hi := hiW (row.sum - c) p) e
              omega
            refine ⟨_, rfl, fun L' hL' => ?_⟩
            walk_at "rd"
            rw [rowG_len] at l4
            refine ⟨w, rfl, w, rfl, by split <;> omega, by split <;> omega, by split <;> omega, by split <;> omega, ?_, ?_⟩
            · show _ + (rangeD (loW (row.sum - c) post.sum w) (hiW (row.sum - c) p w - loW (row.sum - c) post.sum w).toNat).length ≤ _
              rw [rangeD_len]
              omega
            · rw [rangeD_map]
              refine lc_map _ (fun j : Nat => tI (w ++ [loW (row.sum - c) post.sum w + (j : Int)])) _ ?_ ?_
              · intro j hj acc
                refine ⟨_, rfl, fun L2 hL2 => ?_⟩
                walk_at "rd"
                refine ⟨by decide, by omega, ?_⟩
                rw [map_snoc]
                exact hL2
              · refine ⟨rfl, hL' _ _ ⟨a ++ [w], b, by rw [e, List.append_assoc]; rfl, rfl, ?_, rfl⟩⟩
                rw [stepG_app, stepG_one, List.map_append]
                congr 1
                unfold rowG
                rw [List.map_map]
                rfl
    · exact few_3 h.len
theorem few_t {m p : Int} (hp : p ≤ 2) {w : List Int} : hiT m p w - loT w ≤ ((3 : Nat) : Int) := by
  show minP p (m - w.sum) + 1 - 0 ≤ _
  unfold minP
  split <;> omega
abbrev sdTk : Sd := sdF (fun a : List Int × Int => [tI a.1, .int a.2]) (fun a => Few a.1 a.2) fun a => ltI (takesM a.1 a.2)
theorem ok_law_takes {f : Addr} {fd : FuncData} {k : Nat} (T : Tx mg) (F : Fun K "_law_takes" "_law_takes" s_law_takes f fd) : FnOk P w K mg base CX0 (k + 1) f fd ["row", "many"] (spD K ts sdTk) := by
  refine' okDef F sc_law_takes (by decide) ?hl ?hb ?hr
  case hb =>
    intro cdv A outer s H E hr
    exact (pds_cons (pd_asg 2 (fun _ => sc_law_takes.nd) (pd_of (pdo_lst (pda_cons (pd_tup pda_nil) pda_nil))))
    (pds_cons (pd_for (fun _ => PassesOwn.never) (fun _ => rfl) (pdi_tup (pd_var 0)) (pdg_name 3 (fun _ => sc_law_takes.nd)) (pds_cons (pd_asgOF 4 (fun _ => sc_law_takes.nd) (pdo_lst pda_nil))
    (pds_cons (pd_for (fun _ => PassesOwn.never) (fun _ => rfl) (pdi_list (pd_var 2)) (pdg_name 5 (fun _ => sc_law_takes.nd)) (pds_one (pd_asgOF 4 (fun _ => sc_law_takes.nd) (pdo_cat (pd_var 4) (pdo_lc [("more", 6)] (fun _ => rfl) (fun _ => sc_law_takes.nd) (pdi_range1 (fun _ => rfl) (fun _ => T.range) (pda_cons (pd_add (pd_min2 (fun _ => rfl) (fun _ => rfl) (fun _ => T.min) (pda_cons (pd_var 3) (pda_cons (pd_sub (pd_var 1) (pd_sum (fun _ => rfl) (fun _ => rfl) (fun _ => T.sum) (pda_cons (pd_var 5) pda_nil))) pda_nil))) pd_int) pda_nil)) (fun _ => blkOk_by (own := [("more", 6)]) (N := N_law_takes) (sc := defScope s_law_takes) (by decide +kernel)) (pdg_name 6 (fun _ => sc_law_takes.nd)) pdts_nil (pd_catT (pd_var 5) (pd_tup (pda_cons (pd_var 6) pda_nil))))))))
    (pds_one (pd_asg 2 (fun _ => sc_law_takes.nd) (pd_var 4))))))
    (pds_one (pd_ret (pd_of (pdo_lc [("one", 5)] (fun _ => rfl) (fun _ => sc_law_takes.nd) (pdi_list (pd_var 2)) (fun _ => blkOk_by (own := [("one", 5)]) (N := N_law_takes) (sc := defScope s_law_takes) (by decide +kernel)) (pdg_name 5 (fun _ => sc_law_takes.nd)) (pdts_one (pdt_eq (fun _ => hu64 hr) (pd_sum (fun _ => rfl) (fun _ => rfl) (fun _ => T.sum) (pda_cons (pd_var 5) pda_nil)) (pd_var 1))) (pd_var 5)))))))
  case hl =>
    rintro ds Q E ⟨a, rfl, _⟩
    rfl
  case hr =>
    rintro ds Q E ⟨⟨row, c⟩, rfl, h, q⟩
    dsimp only at h q
    have rs6 := row6 h.len h.le
    have hc0 := h.c0
    have hc1 := h.c1
    walk_at "rd"
    refine ⟨by decide, by decide, ?_⟩
    refine dLoop_by (fun xs Γ => ∃ (post : List Int) (rows : List (List Int)) (c3 c4 c5 c6 : Sl), xs = post.map D.int ∧ takesGo c post rows = takesGo c row [[]] ∧ (∀ n ∈ post, 0 ≤ n ∧ n ≤ 2) ∧ 3 ^ post.length * rows.length ≤ 27 ∧ (∀ u ∈ rows, 0 ≤ u.sum ∧ u.sum ≤ c ∧ u.length + post.length ≤ 3) ∧ Γ = [.dat (tI row), .dat (.int c), .dat (ltI rows), c3, c4, c5, c6] ∧ soft c3 = true ∧ frS c4 = true ∧ soft c5 = true ∧ soft c6 = true) ?_ ?_ _ _ ⟨row, [[]], _, _, _, _, rfl, rfl, h.le, ?_, by have := h.len; simp; omega, rfl, rfl, rfl, rfl, rfl⟩
    · rintro Γ ⟨post, rows, c3, c4, c5, c6, e, hw, _, _, hu, rfl, h3, h4, h5, h6⟩
      have ep : post = [] := by
        cases post with
        | nil => rfl
        | cons _ _ => cases e
      subst ep
      walk_at "rd"
      have hw' : rows = takesGo c row [[]] := hw
      rename_i hf
      refine ⟨h5, by simp at hf; omega, ?_⟩
      refine lc_filter tI tI (fun w : List Int => decide (w.sum = c)) _ ?_ ?_
      · intro w hm acc
        refine ⟨_, rfl, fun L hL => ?_⟩
        walk_at "rd"
        have hwu := hu w hm
        refine ⟨w, rfl, rfl, rfl, fun b hb => ?_⟩
        by_cases z : w.sum = c
        · rw [if_pos (decide_eq_true z)] at hL
          rw [if_pos (hb.mpr z)]
          exact hL
        · rw [if_neg (by simpa using z), List.append_nil] at hL
          rw [if_neg (fun y => z (hb.mp y))]
          exact hL
      · walk_at "rd"
        rw [hw']
        exact q
    · rintro x xs Γ ⟨post, rows, c3, c4, c5, c6, e, hw, hp, hf, hu, rfl, h3, h4, h5, h6⟩
      cases post with
      | nil => cases e
      | cons p post =>
        rw [List.map_cons] at e
        injection e with e1 e2
        subst e1 e2
        have hp2 := hp p List.mem_cons_self
        have hpp : ∀ n ∈ post, 0 ≤ n ∧ n ≤ 2 := fun n hn => hp n (List.mem_cons_of_mem _ hn)
        have l1 : 3 * rows.length ≤ 27 := by
          have : 1 ≤ 3 ^ post.length := Nat.pow_pos (by decide)
          have := Nat.mul_le_mul_right (3 * rows.length) this
          rw [List.length_cons, Nat.pow_succ, Nat.mul_assoc] at hf
          omega
        refine ⟨_, if_pos h3, fun L hL => ?_⟩
        rw [seq_go]
        walk_at "rs"
        refine ⟨by decide, h4, ?_⟩
        rw [seq_go]
        walk_at "rs"
        refine for_map tI (fun a Γ => ∃ c5 c6 : Sl, Γ = [.dat (tI row), .dat (.int c), .dat (ltI rows), .dat (.int p), .own false ((stepG loT (hiT c p) a).map tI), c5, c6] ∧ soft c5 = true ∧ soft c6 = true) _ ⟨_, _, rfl, h5, h6⟩ ?_ ?_
        · rintro a w b Γ e ⟨c5, c6, rfl, h5, h6⟩
          have hwu := hu w (by rw [e]; simp)
          have l2 : (stepG loT (hiT c p) rows).length ≤ 3 * rows.length := stepG_few fun w _ => few_t hp2.2
          have l4 : (stepG loT (hiT c p) a).length + (rowG loT (hiT c p) w).length ≤ 27 := by
            have := stepG_split (lo := loT) (hi := hiT c p) e
            omega
          refine ⟨_, if_pos h5, fun L' hL' => ?_⟩
          walk_at "rd"
          rw [rowG_len] at l4
          refine ⟨w, rfl, by split <;> omega, by split <;> omega, h6, ?_, ?_⟩
          · show (rangeD (loT w) (hiT c p w).toNat).length ≤ _
            rw [rangeD_len]
            have : loT w = 0 := rfl
            omega
          · rw [rangeD_map]
            refine lc_map _ (fun j : Nat => tI (w ++ [loT w + (j : Int)])) _ ?_ ?_
            · intro j hj acc
              refine ⟨_, rfl, fun L2 hL2 => ?_⟩
              walk_at "rd"
              refine ⟨by decide, by omega, ?_⟩
              rw [map_snoc]
              exact hL2
            · walk_at "rd"
              have eg : (stepG loT (hiT c p) a).map tI ++ ((List.range (hiT c p w - loT w).toNat).map fun j : Nat => tI (w ++ [loT w + (j : Int)])) = (stepG loT (hiT c p) (a ++ [w])).map tI := by
                rw [stepG_app, stepG_one, List.map_append]
                congr 1
                unfold rowG
                rw [List.map_map]
                rfl
              have ez : hiT c p w - loT w = hiT c p w := by
                have : loT w = 0 := rfl
                omega
              rw [ez] at eg l4
              refine ⟨?_, ?_⟩
              · rw [List.length_range]
                show _ + (hiT c p w).toNat ≤ _
                omega
              · refine Eq.mp (congrArg L' ?_) (hL' _ ⟨.dat (tI w), .non, rfl, rfl, rfl⟩)
                rw [← eg]
        · rintro Γ ⟨c5, c6, rfl, h5, h6⟩
          walk_at "rd"
          refine hL _ ⟨post, _, _, _, _, _, rfl, hw, hpp, ?_, ?_, rfl, rfl, rfl, h5, h6⟩
          · have l2 : (stepG loT (hiT c p) rows).length ≤ 3 * rows.length := stepG_few fun w _ => few_t hp2.2
            have l3 := Nat.mul_le_mul_left (3 ^ post.length) l2
            rw [List.length_cons, Nat.pow_succ, Nat.mul_assoc] at hf
            omega
          · intro u hm
            obtain ⟨v, hv, x, k1, k2, rfl⟩ := stepG_mem.mp hm
            obtain ⟨k3, k4⟩ := minP_le.mp k2
            have hv' := hu v hv
            have k1' : (0 : Int) ≤ x := k1
            rw [List.length_cons] at hv'
            rw [List.sum_append, List.length_append]
            simp only [List.sum_cons, List.sum_nil, List.length_singleton]
            omega
    · exact few_3 h.len
end
end K06

set_option Elab.async false
set_option linter.all false
set_option maxRecDepth 100000
set_option maxHeartbeats 4000000
namespace K06
open PySem PySem.Spec PyProof.Rows L2 DL QG GG
local macro_rules | `(tactic| walk_at "rd") => `(tactic| simp only [exists_eq', lk_keep, lk_patterns, lk_most, lk_week, lk_budget, dMake, dSlL, rdRepT, rdIsB, dAsgT, dCallY, dAllG, dAnyG, dSumG, capD, genG, dElt, dZipK, dEnK, dRep, dCat2, dAugIx, rdEqB, dIsT, tyN, rdSortR, dFld, dChain, dSlT, dSlL, dPn, dPs, rdCatT, dLc2, fvD, Option.map_some, dFSeq, dSetF, dFNil, DL.pairD, List.replicate_succ, Bool.not_true, Bool.not_false, dSeq, dIfS, dB, dOp, dVar, dC, dCB, dCO, dACons, dANil, dRet, dAsg, dAsgO, dAsgOF, dExpr, dSetIx, dApp, dOf, dTup, dLst, dCat, dUn, dFor, dRng1, dRng2, dItL, dItT, dZip, dLc, dNext, dAnd, dOr, dNot, dAndV, dOrV, dIfE, dYes, dAug, dCall, dCallB, dCallX, dRaise, dEz, dBreak, dCont, dRetN, sdR, sdBR, sdX, dIsN,
  rdLen, rdInt, rdMM, rdTup, rdLstOf, rdSum, rdIx, rdI, rdI0, rdEq, rdIn, asD, itemsOf_lst, itemsOf_tup, fix, fixL, startD, notOwn, freeOk_fr, frS_dat, frS_non, frS_own, okW, wipeG, dgName, dgTup, dgsCons, dgsNil, gAdd, DL.gSub, gMul, gMod, gDiv, gPow, gLt, gLe, gGt, gGe, atI_c0, atI_c1, atI_c2, atI_c3, atI_c4, ixN_21, ixN_20, soft_dat, soft_non, soft_own,
  List.cons_append, List.nil_append, List.map_cons, List.map_nil, List.length_cons, List.length_nil, List.length_map, List.getElem?_cons_zero, List.getElem?_cons_succ, List.set_cons_zero, List.set_cons_succ, List.replicate_succ, List.replicate_zero, Nat.reduceSub, Nat.reduceAdd, Nat.zero_add, List.all_cons, List.all_nil, Option.some.injEq, Prod.mk.injEq, Option.bind_some, reduceCtorEq,
  Wv.dat.injEq, Wv.slot.injEq, D.obj.injEq, D.int.injEq, D.bl.injEq, D.lst.injEq, D.tup.injEq, List.cons.injEq, Sl.dat.injEq, Sl.own.injEq, exists_eq_left, exists_eq_left', exists_and_left, exists_and_right, exists_eq_right, exists_eq, exists_false, exists_const, true_and, and_true, false_and, and_false, ite_true, ite_false, if_true, if_false, eq_self, ↓reduceIte, Bool.and_true, Bool.true_and, and_self, or_false, false_or, Bool.false_eq_true, and_assoc, exists_prop, exists_eq_right_right, exists_eq_right', forall_eq, forall_eq', Int.reducePow, Int.reduceToNat, decide_eq_true_eq])
local macro_rules | `(tactic| walk_at "rs") => `(tactic| simp only [exists_eq', lk_keep, lk_patterns, lk_most, lk_week, lk_budget, dMake, dSlL, rdRepT, rdIsB, dAsgT, dCallY, dAllG, dAnyG, dSumG, capD, genG, dElt, dZipK, dEnK, dRep, dCat2, dAugIx, rdEqB, dIsT, tyN, rdSortR, dFld, dChain, dSlT, dSlL, dPn, dPs, rdCatT, dLc2, fvD, Option.map_some, dFSeq, dSetF, dFNil, DL.pairD, List.replicate_succ, Bool.not_true, Bool.not_false, dIfS, dB, dOp, dVar, dC, dCB, dCO, dACons, dANil, dRet, dAsg, dAsgO, dAsgOF, dExpr, dSetIx, dApp, dOf, dTup, dLst, dCat, dUn, dFor, dRng1, dRng2, dItL, dItT, dZip, dLc, dNext, dAnd, dOr, dNot, dAndV, dOrV, dIfE, dYes, dAug, dCall, dCallB, dCallX, dRaise, dEz, dBreak, dCont, dRetN, sdR, sdBR, sdX, dIsN,
  rdLen, rdInt, rdMM, rdTup, rdLstOf, rdSum, rdIx, rdI, rdI0, rdEq, rdIn, asD, itemsOf_lst, itemsOf_tup, fix, fixL, startD, notOwn, freeOk_fr, frS_dat, frS_non, frS_own, okW, wipeG, dgName, dgTup, dgsCons, dgsNil, gAdd, DL.gSub, gMul, gMod, gDiv, gPow, gLt, gLe, gGt, gGe, atI_c0, atI_c1, atI_c2, atI_c3, atI_c4, ixN_21, ixN_20, soft_dat, soft_non, soft_own,
  List.cons_append, List.nil_append, List.map_cons, List.map_nil, List.length_cons, List.length_nil, List.length_map, List.getElem?_cons_zero, List.getElem?_cons_succ, List.set_cons_zero, List.set_cons_succ, List.replicate_succ, List.replicate_zero, Nat.reduceSub, Nat.reduceAdd, Nat.zero_add, List.all_cons, List.all_nil, Option.some.injEq, Prod.mk.injEq, Option.bind_some, reduceCtorEq,
  Wv.dat.injEq, Wv.slot.injEq, D.obj.injEq, D.int.injEq, D.bl.injEq, D.lst.injEq, D.tup.injEq, List.cons.injEq, Sl.dat.injEq, Sl.own.injEq, exists_eq_left, exists_eq_left', exists_and_left, exists_and_right, exists_eq_right, exists_eq, exists_false, exists_const, true_and, and_true, false_and, and_false, ite_true, ite_false, if_true, if_false, eq_self, ↓reduceIte, Bool.and_true, Bool.true_and, and_self, or_false, false_or, Bool.false_eq_true, and_assoc, exists_prop, exists_eq_right_right, exists_eq_right', forall_eq, forall_eq', Int.reducePow, Int.reduceToNat, decide_eq_true_eq])

section
variable {P : Program} {w : World} {K : PySem.W.Frag} {mg : Str → Option Value} {base : Heap} {ts : List Addr}
abbrev FewS (st : St) : Prop := ∀ r ∈ st, r.length ≤ 3 ∧ ∀ n ∈ r, 0 ≤ n ∧ n ≤ 2
abbrev lttI (l : List St) : D := .lst (l.map fun s => ttI s)
structure Iss (st : St) (od : List Int) : Prop where
  few : FewS st
  can : Can st od
  l3 : st.length ≤ 3
abbrev sdIs : Sd := sdF (fun a : St × List Int => [ttI a.1, tI a.2]) (fun a => Iss a.1 a.2) fun a => lttI (issGo a.1 a.2 [[]])
theorem ok_issues {f C : Addr} {fd : FuncData} (T : Tx mg) (F : Fun K "issues" "issues" s_issues f fd) (D_check_enough : DnX P w K mg base "check_enough" 2 ["stock", "order"] (spD K ts (sdCE C))) (D_all_taken : Dn P w K mg base "all_taken" 1 ["row", "count"] (spD K ts sdAT)) : FnOk P w K mg base CX0 3 f fd ["stock", "order"] (spD K ts sdIs) := by
  refine' okDef F sc_issues (by decide) ?hl ?hb ?hr
  case hb =>
    intro cdv A outer s H E hr
    exact (pds_cons (pd_expr (pd_callY (fun _ => D_check_enough) sdCE_mono (fun _ => hr.mono (by decide)) (pda_cons (pd_var 0) (pda_cons (pd_var 1) pda_nil))))
    (pds_cons (pd_asgO 2 (fun _ => sc_issues.nd) (pdo_lst (pda_cons (pd_tup pda_nil) pda_nil)))
    (pds_cons (pd_for (fun _ => PassesOwn.never) (fun _ => rfl) (pdi_zipK (fun _ => rfl) (fun _ => T.zip) (pda_cons (pd_var 0) (pda_cons (pd_var 1) pda_nil))) (pdg_tup (m := 2) (fun _ => rfl) (pdgs_cons (pdg_name 3 (fun _ => sc_issues.nd)) (pdgs_cons (pdg_name 4 (fun _ => sc_issues.nd)) pdgs_nil))) (pds_cons (pd_asg 5 (fun _ => sc_issues.nd) (pd_callF (fun _ => D_all_taken) (fun _ => hr.mono (by decide)) (pda_cons (pd_var 3) (pda_cons (pd_var 4) pda_nil))))
    (pds_one (pd_setLc2F 2 [("rows", 6), ("left", 7)] [7] (fun _ => rfl) (fun _ => sc_issues.nd) (pdi_list (pd_var 2)) (fun _ => sw_true rfl rfl rfl (by decide +kernel)) (fun _ => blkOk_by (own := [("rows", 6), ("left", 7)]) (N := N_issues) (sc := defScope s_issues) (by decide +kernel)) (pdg_name 6 (fun _ => sc_issues.nd)) pdts_nil (pdi_list (pd_var 5)) (pdg_name 7 (fun _ => sc_issues.nd)) pdts_nil (pd_catT (pd_var 6) (pd_tup (pda_cons (pd_var 7) pda_nil)))))))
    (pds_one (pd_ret (pd_var 2))))))
  case hl =>
    rintro ds Q E ⟨a, rfl, _⟩
    rfl
  case hr =>
    rintro ds Q E ⟨⟨st, od⟩, rfl, h, q⟩
    dsimp only at h q
    walk_at "rd"
    refine ⟨st, od, rfl, ⟨by have := h.l3; omega, fun r hr => by have := (h.few r hr).1; omega, can_len h.can⟩, ?_⟩
    rw [can_lack 0 h.can]
    refine ⟨by decide, by decide, ?_⟩
    refine dLoop_by (fun xs Γ => ∃ (st' : St) (od' : List Int) (acc : List St) (c3 c4 c5 c6 c7 : Sl), xs = zipD (st'.map tI) (od'.map D.int) ∧ issGo st' od' acc = issGo st od [[]] ∧ FewS st' ∧ Can st' od' ∧ 27 ^ st'.length * acc.length ≤ 19683 ∧ (∀ u ∈ acc, u.length + st'.length ≤ 3) ∧ Γ = [.dat (ttI st), .dat (tI od), .own false (acc.map fun s => ttI s), c3, c4, c5, c6, c7] ∧ soft c3 = true ∧ soft c4 = true ∧ soft c5 = true ∧ soft c6 = true ∧ soft c7 = true) ?_ ?_ _ _ ⟨st, od, [[]], _, _, _, _, _, rfl, rfl, h.few, h.can, ?_, by have := h.l3; simpa using this, rfl, rfl, rfl, rfl, rfl, rfl⟩
    · rintro Γ ⟨st', od', acc, c3, c4, c5, c6, c7, e, hw, _, hc, _, _, rfl, h3, h4, h5, h6, h7⟩
      have ep : st' = [] := by
        cases st' with
        | nil => rfl
        | cons _ _ =>
          cases od' with
          | nil => exact hc.elim
          | cons _ _ => cases e
      subst ep
      walk_at "rd"
      have hw' : acc = issGo st od [[]] := by
        cases od' with
        | nil => exact hw
        | cons _ _ => exact hc.elim
      rw [hw']
      exact q
    · rintro x xs Γ ⟨st', od', acc, c3, c4, c5, c6, c7, e, hw, hfw, hc, hf, hu, rfl, h3, h4, h5, h6, h7⟩
      cases st' with
      | nil => cases od' with
        | nil => cases e
        | cons _ _ => exact hc.elim
      | cons r st' => cases od' with
        | nil => exact hc.elim
        | cons c od' =>
          obtain ⟨k0, k1, k2⟩ := hc
          injection e with e1 e2
          subst e1 e2
          have hr := hfw r List.mem_cons_self
          have hrr : FewS st' := fun r hr => hfw r (List.mem_cons_of_mem _ hr)
          have few : (waysM r c).length ≤ 27 := by
            rw [ways_takes k0 k1, List.length_reverse, List.length_map]
            exact takesM_few hr.1 fun n hn => (hr.2 n hn).2
          have l1 : 27 * acc.length ≤ 19683 := by
            have : 1 ≤ 27 ^ st'.length := Nat.pow_pos (by decide)
            have := Nat.mul_le_mul_right (27 * acc.length) this
            rw [List.length_cons, Nat.pow_succ, Nat.mul_assoc] at hf
            omega
          have flen : ∀ a : List St, (a.flatMap (issF r c)).length ≤ 27 * a.length := by
            intro a
            induction a with
            | nil => simp
            | cons u a ih =>
              have : ((u :: a).flatMap (issF r c)).length = (waysM r c).length + (a.flatMap (issF r c)).length := by simp [issF]
              rw [this, List.length_cons]
              omega
          refine ⟨[.dat (ttI st), .dat (tI od), .own false (acc.map fun s => ttI s), .dat (tI r), .dat (.int c), c5, c6, c7], ?_, fun L hL => ?_⟩
          · have e3 : notOwn [.dat (ttI st), .dat (tI od), .own false (acc.map fun s => ttI s), c3, c4, c5, c6, c7] 3 = true := h3
            have e4 : notOwn [.dat (ttI st), .dat (tI od), .own false (acc.map fun s => ttI s), .dat (tI r), c4, c5, c6, c7] 4 = true := h4
            show Option.bind (dgName 3 (tI r) _) _ = _
            unfold dgName
            rw [if_pos e3]
            show Option.bind (dgName 4 (.int c) [.dat (ttI st), .dat (tI od), .own false (acc.map fun s => ttI s), .dat (tI r), c4, c5, c6, c7]) _ = _
            unfold dgName
            rw [if_pos e4]
            rfl
          walk_at "rd"
          refine sdF_go ((r, c) : List Int × Int) ⟨hr.1, hr.2, k0, k1⟩ ?_
          walk_at "rd"
          refine ⟨h5, by simp [h6, h7], ?_⟩
          refine dLc2R_by (fun xs got Γ => ∃ a b : List St, acc = a ++ b ∧ xs = b.map (fun s => ttI s) ∧ got = (a.flatMap (issF r c)).map (fun s => ttI s) ∧ Γ = [.dat (ttI st), .dat (tI od), .dat (lttI acc), .dat (tI r), .dat (.int c), .dat (ltI (waysM r c)), .non, .non]) ?_ ?_ _ _ _ ⟨[], acc, rfl, rfl, rfl, rfl⟩
          · rintro got Γ ⟨a, b, e, e1, rfl, rfl⟩
            have eb : b = [] := by
              cases b with
              | nil => rfl
              | cons _ _ => cases e1
            rw [eb, List.append_nil] at e
            walk_at "rd"
            refine hL _ ⟨st', od', _, .dat (tI r), .dat (.int c), .dat (ltI (waysM r c)), .non, .non, rfl, ?_, hrr, k2, ?_, ?_, rfl, rfl, rfl, rfl, rfl, rfl⟩
            · rw [← e]
              exact hw
            · rw [← e]
              have l3 := Nat.mul_le_mul_left (27 ^ st'.length) (flen acc)
              rw [List.length_cons, Nat.pow_succ, Nat.mul_assoc] at hf
              omega
            · rw [← e]
              intro u hm
              obtain ⟨v, hv, h2⟩ := List.mem_flatMap.mp hm
              obtain ⟨_, _, rfl⟩ := List.mem_map.mp h2
              have hv' := hu v hv
              rw [List.length_cons] at hv'
              rw [List.length_append, List.length_singleton]
              omega
          · rintro d r' got Γ ⟨a, b, e, e1, rfl, rfl⟩
            cases b with
            | nil => cases e1
            | cons u b =>
              rw [List.map_cons, List.cons.injEq] at e1
              obtain ⟨rfl, rfl⟩ := e1
              have hwu := hu u (by rw [e]; simp)
              rw [List.length_cons] at hwu
              refine ⟨_, rfl, fun L' hL' => ?_⟩
              walk_at "rd"
              have l5 := flen a
              have l6 : a.length ≤ acc.length := by rw [e]; simp
              refine ⟨by omega, ?_⟩
              refine lc_map tI (fun left => ttI (u ++ [left])) _ ?_ ?_
              · intro j hj got
                refine ⟨_, rfl, fun L2 hL2 => ?_⟩
                walk_at "rd"
                refine ⟨by decide, by show u.length + 1 ≤ _; omega, ?_⟩
                rw [show D.tup (List.map tI u ++ [tI j]) = ttI (u ++ [j]) by rw [show ttI (u ++ [j]) = D.tup (List.map tI (u ++ [j])) from rfl, List.map_append]; rfl]
                exact hL2
              · refine ⟨rfl, hL' _ _ ⟨a ++ [u], b, by rw [e, List.append_assoc]; rfl, rfl, ?_, rfl⟩⟩
                rw [List.flatMap_append, List.map_append]
                congr 1
                show _ = (issF r c u ++ []).map _
                rw [List.append_nil]
                unfold issF
                rw [List.map_map]
                rfl
    · have h4 : 27 ^ st.length ≤ 27 ^ 3 := Nat.pow_le_pow_right (by decide) h.l3
      simpa using h4
end
end K06

set_option Elab.async false
set_option linter.all false
set_option maxRecDepth 100000
set_option maxHeartbeats 4000000
namespace K06
open PySem PySem.Spec PyProof.Rows L2 DL QG GG
local macro_rules | `(tactic| walk_at "rd") => `(tactic| simp only [exists_eq', lk_keep, lk_patterns, lk_most, lk_week, lk_budget, dMake, dSlL, rdRepT, rdIsB, dAsgT, dCallY, dAllG, dAnyG, dSumG, capD, genG, dElt, dZipK, dEnK, dRep, dCat2, dAugIx, rdEqB, dIsT, tyN, rdSortR, dFld, dChain, dSlT, dSlL, dPn, dPs, rdCatT, dLc2, fvD, Option.map_some, dFSeq, dSetF, dFNil, DL.pairD, List.replicate_succ, Bool.not_true, Bool.not_false, dSeq, dIfS, dB, dOp, dVar, dC, dCB, dCO, dACons, dANil, dRet, dAsg, dAsgO, dAsgOF, dExpr, dSetIx, dApp, dOf, dTup, dLst, dCat, dUn, dFor, dRng1, dRng2, dItL, dItT, dZip, dLc, dNext, dAnd, dOr, dNot, dAndV, dOrV, dIfE, dYes, dAug, dCall, dCallB, dCallX, dRaise, dEz, dBreak, dCont, dRetN, sdR, sdBR, sdX, dIsN,
  rdLen, rdInt, rdMM, rdTup, rdLstOf, rdSum, rdIx, rdI, rdI0, rdEq, rdIn, asD, itemsOf_lst, itemsOf_tup, fix, fixL, startD, notOwn, freeOk_fr, frS_dat, frS_non, frS_own, okW, wipeG, dgName, dgTup, dgsCons, dgsNil, gAdd, DL.gSub, gMul, gMod, gDiv, gPow, gLt, gLe, gGt, gGe, atI_c0, atI_c1, atI_c2, atI_c3, atI_c4, ixN_21, ixN_20, soft_dat, soft_non, soft_own,
  List.cons_append, List.nil_append, List.map_cons, List.map_nil, List.length_cons, List.length_nil, List.length_map, List.getElem?_cons_zero, List.getElem?_cons_succ, List.set_cons_zero, List.set_cons_succ, List.replicate_succ, List.replicate_zero, Nat.reduceSub, Nat.reduceAdd, Nat.zero_add, List.all_cons, List.all_nil, Option.some.injEq, Prod.mk.injEq, Option.bind_some, reduceCtorEq,
  Wv.dat.injEq, Wv.slot.injEq, D.obj.injEq, D.int.injEq, D.bl.injEq, D.lst.injEq, D.tup.injEq, List.cons.injEq, Sl.dat.injEq, Sl.own.injEq, exists_eq_left, exists_eq_left', exists_and_left, exists_and_right, exists_eq_right, exists_eq, exists_false, exists_const, true_and, and_true, false_and, and_false, ite_true, ite_false, if_true, if_false, eq_self, ↓reduceIte, Bool.and_true, Bool.true_and, and_self, or_false, false_or, Bool.false_eq_true, and_assoc, exists_prop, exists_eq_right_right, exists_eq_right', forall_eq, forall_eq', Int.reducePow, Int.reduceToNat, decide_eq_true_eq])
local macro_rules | `(tactic| walk_at "rs") => `(tactic| simp only [exists_eq', lk_keep, lk_patterns, lk_most, lk_week, lk_budget, dMake, dSlL, rdRepT, rdIsB, dAsgT, dCallY, dAllG, dAnyG, dSumG, capD, genG, dElt, dZipK, dEnK, dRep, dCat2, dAugIx, rdEqB, dIsT, tyN, rdSortR, dFld, dChain, dSlT, dSlL, dPn, dPs, rdCatT, dLc2, fvD, Option.map_some, dFSeq, dSetF, dFNil, DL.pairD, List.replicate_succ, Bool.not_true, Bool.not_false, dIfS, dB, dOp, dVar, dC, dCB, dCO, dACons, dANil, dRet, dAsg, dAsgO, dAsgOF, dExpr, dSetIx, dApp, dOf, dTup, dLst, dCat, dUn, dFor, dRng1, dRng2, dItL, dItT, dZip, dLc, dNext, dAnd, dOr, dNot, dAndV, dOrV, dIfE, dYes, dAug, dCall, dCallB, dCallX, dRaise, dEz, dBreak, dCont, dRetN, sdR, sdBR, sdX, dIsN,
  rdLen, rdInt, rdMM, rdTup, rdLstOf, rdSum, rdIx, rdI, rdI0, rdEq, rdIn, asD, itemsOf_lst, itemsOf_tup, fix, fixL, startD, notOwn, freeOk_fr, frS_dat, frS_non, frS_own, okW, wipeG, dgName, dgTup, dgsCons, dgsNil, gAdd, DL.gSub, gMul, gMod, gDiv, gPow, gLt, gLe, gGt, gGe, atI_c0, atI_c1, atI_c2, atI_c3, atI_c4, ixN_21, ixN_20, soft_dat, soft_non, soft_own,
  List.cons_append, List.nil_append, List.map_cons, List.map_nil, List.length_cons, List.length_nil, List.length_map, List.getElem?_cons_zero, List.getElem?_cons_succ, List.set_cons_zero, List.set_cons_succ, List.replicate_succ, List.replicate_zero, Nat.reduceSub, Nat.reduceAdd, Nat.zero_add, List.all_cons, List.all_nil, Option.some.injEq, Prod.mk.injEq, Option.bind_some, reduceCtorEq,
  Wv.dat.injEq, Wv.slot.injEq, D.obj.injEq, D.int.injEq, D.bl.injEq, D.lst.injEq, D.tup.injEq, List.cons.injEq, Sl.dat.injEq, Sl.own.injEq, exists_eq_left, exists_eq_left', exists_and_left, exists_and_right, exists_eq_right, exists_eq, exists_false, exists_const, true_and, and_true, false_and, and_false, ite_true, ite_false, if_true, if_false, eq_self, ↓reduceIte, Bool.and_true, Bool.true_and, and_self, or_false, false_or, Bool.false_eq_true, and_assoc, exists_prop, exists_eq_right_right, exists_eq_right', forall_eq, forall_eq', Int.reducePow, Int.reduceToNat, decide_eq_true_eq])

section
variable {P : Program} {w : World} {K : PySem.W.Frag} {mg : Str → Option Value} {base : Heap} {ts : List Addr}
abbrev s_law : Stmt := top 31
abbrev N_law : List Str := ["script", "box", "parts", "stock", "order", "due", "good", "later", "first", "taken", "told", "best", "other", "row", "k"]
theorem sc_law : FnScope N_law ["script"] (defScope s_law) := ⟨rfl, rfl, rfl, by decide +kernel, rfl, by decide +kernel, by decide +kernel⟩

theorem seq_inv {S T : DS} {xd : Xd} {D : DEnds} {Γ : Gm} (I : Gm → Prop) (h : ∀ N : Gm → Prop, (∀ Γ', I Γ' → N Γ') → S xd { nx := N, ct := D.ct, bk := D.bk, rt := D.rt } Γ) (h2 : ∀ Γ', I Γ' → T xd D Γ') : dSeq S T xd D Γ := by
  rw [seq_go]
  exact h _ h2
theorem ok_law {f CS : Addr} {fd : FuncData} (T : Tx mg) (F : Fun K "law" "law" s_law f fd)
    (D__law_digits : Dn P w K mg base "_law_digits" 2 ["script", "first", "last"] (SpDig K ts)) (D__law_draw : Dn P w K mg base "_law_draw" 1 ["box", "many"] (SpDraw K ts)) (D__law_parts : Dn P w K mg base "_law_parts" 4 ["box", "goods", "longest"] (SpPt K ts)) (D__law_stock : Dn P w K mg base "_law_stock" 2 ["box", "parts", "most"] (SpSt K ts))
    (D__law_takes : Dn P w K mg base "_law_takes" 1 ["row", "many"] (spD K ts sdTk)) (D__law_better : Dn P w K mg base "_law_better" 1 ["one", "other"] (spD K ts sdLB)) (D_is_better : Dn P w K mg base "is_better" 4 ["one", "other"] (spD K ts sdBet))
    (D_issues : Dn P w K mg base "issues" 3 ["stock", "order"] (spD K ts sdIs)) (D_issue : DnX P w K mg base "issue" 3 ["stock", "order"] (spD K ts (sdIU CS))) : FnOk P w K mg base CX0 6 f fd ["script"] (spD K ts HY.sdLaw) := by
  refine' okDef F sc_law (by decide) ?hl ?hb ?hr
  case hb =>
    intro cdv A outer s H E hr
    exact (pds_cons (pd_asgO 1 (fun _ => sc_law.nd) (pdo_lst (pda_cons (pd_callN (fun _ => D__law_digits) (fun _ => hr.mono (by decide)) (pda_cons (pd_var 0) (pda_cons pd_int (pda_cons pd_int pda_nil)))) (pda_cons pd_int pda_nil))))
    (pds_cons (pd_asg 2 (fun _ => sc_law.nd) (pd_callBN 1 (fun _ => D__law_parts) (fun _ => hr.mono (by decide)) (pda_cons (pd_var 1) (pda_cons (pd_add pd_int (pd_callBN 1 (fun _ => D__law_draw) (fun _ => hr.mono (by decide)) (pda_cons (pd_var 1) (pda_cons pd_int pda_nil)))) (pda_cons pd_int pda_nil)))))
    (pds_cons (pd_asg 3 (fun _ => sc_law.nd) (pd_callBN 1 (fun _ => D__law_stock) (fun _ => hr.mono (by decide)) (pda_cons (pd_var 1) (pda_cons (pd_var 2) (pda_cons pd_int pda_nil)))))
    (pds_cons (pd_asg 4 (fun _ => sc_law.nd) (pd_tupOf (fun _ => rfl) (fun _ => T.tuple) (pda_cons (pd_of (pdo_lc [("row", 13)] (fun _ => rfl) (fun _ => sc_law.nd) (pdi_tup (pd_var 3)) (fun _ => blkOk_by (own := [("row", 13)]) (N := N_law) (sc := defScope s_law) (by decide +kernel)) (pdg_name 13 (fun _ => sc_law.nd)) pdts_nil (pd_callBN 1 (fun _ => D__law_draw) (fun _ => hr.mono (by decide)) (pda_cons (pd_var 1) (pda_cons (pd_add (pd_sum (fun _ => rfl) (fun _ => rfl) (fun _ => T.sum) (pda_cons (pd_var 13) pda_nil)) pd_int) pda_nil))))) pda_nil)))
    (pds_cons (pd_asg 5 (fun _ => sc_law.nd) (pd_of (pdo_lst (pda_cons (pd_tup pda_nil) pda_nil))))
    (pds_cons (pd_for (fun _ => PassesOwn.never) (fun _ => rfl) (pdi_range1 (fun _ => rfl) (fun _ => T.range) (pda_cons (pd_len (fun _ => rfl) (fun _ => T.len) (pda_cons (pd_var 3) pda_nil)) pda_nil)) (pdg_name 6 (fun _ => sc_law.nd)) (pds_cons (pd_asgOF 7 (fun _ => sc_law.nd) (pdo_lst pda_nil))
    (pds_cons (pd_for (fun _ => PassesOwn.never) (fun _ => rfl) (pdi_list (pd_var 5)) (pdg_name 8 (fun _ => sc_law.nd)) (pds_one (pd_for (fun _ => PassesOwn.never) (fun _ => rfl) (pdi_list (pd_callF (fun _ => D__law_takes) (fun _ => hr.mono (by decide)) (pda_cons (pd_ix (pd_var 3) (pd_var 6)) (pda_cons (pd_ix (pd_var 4) (pd_var 6)) pda_nil)))) (pdg_name 9 (fun _ => sc_law.nd)) (pds_one (pd_app 7 (pd_catT (pd_var 8) (pd_tup (pda_cons (pd_tupOf (fun _ => rfl) (fun _ => T.tuple) (pda_cons (pd_of (pdo_lc [("k", 14)] (fun _ => rfl) (fun _ => sc_law.nd) (pdi_range1 (fun _ => rfl) (fun _ => T.range) (pda_cons (pd_len (fun _ => rfl) (fun _ => T.len) (pda_cons (pd_var 9) pda_nil)) pda_nil)) (fun _ => blkOk_by (own := [("k", 14)]) (N := N_law) (sc := defScope s_law) (by decide +kernel)) (pdg_name 14 (fun _ => sc_law.nd)) pdts_nil (pd_sub (pd_ix (pd_ix (pd_var 3) (pd_var 6)) (pd_var 14)) (pd_ix (pd_var 9) (pd_var 14))))) pda_nil)) pda_nil))))))))
    (pds_one (pd_asg 5 (fun _ => sc_law.nd) (pd_var 7))))))
    (pds_cons (pd_asg 10 (fun _ => sc_law.nd) (pd_callF (fun _ => D_issues) (fun _ => hr.mono (by decide)) (pda_cons (pd_var 3) (pda_cons (pd_var 4) pda_nil))))
    (pds_cons (pd_if (pdw_pt (pdw_or (pdt_not (pdt_val (pd_isT (pos' := ⟨0, 0, 0, 0⟩) "list" (fun _ => rfl) (fun _ => T.isinstance) (fun _ => rfl) (fun _ => T.list) (by decide +kernel) (pd_var 10)))) (pdw_or1 (pdt_ne (fun _ => hu64 hr) (pd_var 10) (pd_of (pdo_sortN (fun _ => hu64 hr) (fun _ => rfl) (fun _ => T.sorted) (pda_cons (pd_var 5) pda_nil))))))) (pds_one (pd_ret pd_bl)) pds_nil)
    (pds_cons (pd_asg 11 (fun _ => sc_law.nd) (pd_callY (fun _ => D_issue) sdIU_mono (fun _ => hr.mono (by decide)) (pda_cons (pd_var 3) (pda_cons (pd_var 4) pda_nil))))
    (pds_cons (pd_if (pdt_notIn (fun _ => hu65 hr) (pd_var 11) (pd_var 10)) (pds_one (pd_ret pd_bl)) pds_nil)
    (pds_cons (pd_for (fun _ => PassesOwn.never) (fun _ => rfl) (pdi_list (pd_var 10)) (pdg_name 12 (fun _ => sc_law.nd)) (pds_one (pd_if (pdw_pt (pdw_or (pdt_notB (pd_callF (fun _ => D_is_better) (fun _ => hr.mono (by decide)) (pda_cons (pd_var 11) (pda_cons (pd_var 12) pda_nil))) pd_bl) (pdw_or1 (pdt_neB (fun _ => hu64 hr) (pd_callF (fun _ => D_is_better) (fun _ => hr.mono (by decide)) (pda_cons (pd_var 12) (pda_cons (pd_var 11) pda_nil))) (pd_callF (fun _ => D__law_better) (fun _ => hr.mono (by decide)) (pda_cons (pd_var 12) (pda_cons (pd_var 11) pda_nil))))))) (pds_one (pd_ret pd_bl)) pds_nil)))
    (pds_one (pd_ret pd_bl)))))))))))))
  case hl =>
    rintro ds Q E ⟨⟨ns, rfl⟩, _⟩
    rfl
  case hr =>
    rintro ds Q E ⟨⟨ns, rfl⟩, q⟩
    rw [seq_go]
    walk_at "rs"
    refine ⟨⟨ns, rfl⟩, ?_⟩
    rintro r ⟨gs, rfl⟩
    refine ⟨by decide, ?_⟩
    rw [seq_go]
    walk_at "rs"
    have hb : Box [lI gs, .int 0] := ⟨gs, 0, rfl⟩
    refine ⟨⟨hb, 3, by decide, rfl⟩, ?_⟩
    rintro r1 l1 ⟨hb1, hr1⟩
    obtain ⟨g0, rfl, g00, g03⟩ := hr1 3 rfl
    obtain ⟨n, rfl⟩ : ∃ n : Nat, g0 = n := ⟨g0.toNat, by omega⟩
    have en : (1 + (n : Int)) = ((n + 1 : Nat) : Int) := by omega
    refine ⟨_, rfl, ⟨hb1, n + 1, 3, by omega, by decide, by decide, by rw [← en]; rfl⟩, ?_⟩
    rintro r2 l2 ⟨hb2, hr2⟩
    obtain ⟨keep, pats, most, wk, bud, rfl, po⟩ := hr2 (n + 1) 3 (by rw [← en]; rfl)
    have hkl := po.kl
    rw [seq_go]
    walk_at "rs"
    refine ⟨⟨hb2, keep, _, 2, by omega, fun z hz => by have := po.kb z hz; omega, rfl⟩, ?_⟩
    rintro r3 l3 ⟨hb3, hr3⟩
    obtain ⟨st, rfl, so⟩ := hr3 keep _ 2 rfl
    have hsl : st.length = keep.length := by rw [← so.1, List.length_map]
    have hnn : NN st := fun r hr n hn => (so.2 r hr n hn).1
    have hfew : FewS st := fun r hr => by
      have h1 : (r.length : Int) ∈ keep := by rw [← so.1]; exact List.mem_map_of_mem hr
      have := po.kb _ h1
      exact ⟨by omega, so.2 r hr⟩
    have hst3 : st.length ≤ 3 := by omega
    refine seq_inv (fun Γ' => ∃ (l7 : List D) (od : List Int), Box l7 ∧ Can st od ∧ Γ' = [.dat (lI ns), .own false l7, .dat (encParts keep pats most wk bud), .dat (ttI st), .dat (tI od), .non, .non, .non, .non, .non, .non, .non, .non, .non, .non]) (fun N hN => ?_) ?_
    · walk_at "rs"
      refine ⟨by omega, ?_⟩
      refine dLcR_by (fun xs acc Γ => ∃ (l7 : List D) (pre post : St) (row : List Int), st = pre ++ post ∧ xs = post.map tI ∧ acc = row.map D.int ∧ Can pre row ∧ Box l7 ∧ Γ = [.dat (lI ns), .own false l7, .dat (encParts keep pats most wk bud), .dat (ttI st), .non, .non, .non, .non, .non, .non, .non, .non, .non, .non, .non]) ?_ ?_ _ _ _ ⟨l3, [], st, [], rfl, rfl, rfl, trivial, hb3, rfl⟩
      · rintro acc Γ ⟨l7, pre, post, row, e1, e2, rfl, e3, hb7, rfl⟩
        have ep : post = [] := by
          cases post with
          | nil => rfl
          | cons _ _ => cases e2
        rw [ep, List.append_nil] at e1
        subst e1
        exact ⟨rfl, hN _ ⟨l7, row, hb7, e3, rfl⟩⟩
      · rintro z zs acc Γ ⟨l7, pre, post, row, e1, e2, rfl, e3, hb7, rfl⟩
        cases post with
        | nil => cases e2
        | cons c post =>
          rw [List.map_cons] at e2
          injection e2 with e21 e22
          subst e21 e22
          have hc : 0 ≤ c.sum := sum_nn (hnn c (by rw [e1]; simp))
          have hc6 : c.sum ≤ 6 := (row6 (hfew c (by rw [e1]; simp)).1 (hfew c (by rw [e1]; simp)).2).2
          refine ⟨_, rfl, fun L' hL' => ?_⟩
          walk_at "rd"
          refine ⟨c, rfl, ⟨hb7, c.sum + 1, by omega, rfl⟩, ?_⟩
          rintro r7 l8 ⟨hb8, hr7⟩
          obtain ⟨v, rfl, v0, v1⟩ := hr7 _ rfl
          exact hL' _ _ ⟨l8, pre ++ [c], post, row ++ [v], by rw [e1]; simp, rfl, map_snoc row _, can_snoc e3 v0 (by omega), hb8, rfl⟩
    · rintro Γ' ⟨l7, od, hb7, hcan, rfl⟩
      have hol : od.length = st.length := (can_len hcan).symm
      rw [seq_go]
      walk_at "rs"
      refine ⟨by decide, by decide, ?_⟩
      refine seq_inv (fun Γ' => ∃ c6 c7 c8 c9 : Sl, Γ' = [.dat (lI ns), .own false l7, .dat (encParts keep pats most wk bud), .dat (ttI st), .dat (tI od), .dat (lttI (dueGo st od [[]])), c6, c7, c8, c9, .non, .non, .non, .non, .non]) (fun N hN => ?_) ?_
      · walk_at "rs"
        refine ⟨by omega, by omega, ?_⟩
        rw [rangeD_map0, Int.toNat_natCast]
        refine for_map _ (fun pre Γ => ∃ (acc : List St) (c6 c7 c8 c9 : Sl), dueGo (st.drop pre.length) (od.drop pre.length) acc = dueGo st od [[]] ∧ 27 ^ (st.length - pre.length) * acc.length ≤ 19683 ∧ (∀ u ∈ acc, u.length + (st.length - pre.length) ≤ 3) ∧ Γ = [.dat (lI ns), .own false l7, .dat (encParts keep pats most wk bud), .dat (ttI st), .dat (tI od), .dat (lttI acc), c6, c7, c8, c9, .non, .non, .non, .non, .non] ∧ soft c6 = true ∧ frS c7 = true ∧ soft c8 = true ∧ soft c9 = true) _ ⟨[[]], _, _, _, _, rfl, ?_, by simpa using hst3, rfl, rfl, rfl, rfl, rfl⟩ ?_ ?_
        · have h4 : 27 ^ st.length ≤ 27 ^ 3 := Nat.pow_le_pow_right (by decide) hst3
          simpa using h4
        · rintro pre x post Γ e ⟨acc, c6, c7, c8, c9, hd, hf, hu, rfl, h6, h7, h8, h9⟩
          obtain ⟨rfl, hlt⟩ := range_split e
          have hlt2 : pre.length < od.length := by omega
          have hcr := can_at hcan pre.length _ _ (List.getElem?_eq_getElem hlt) (List.getElem?_eq_getElem hlt2)
          have hfr := hfew _ (List.getElem_mem hlt)
          refine ⟨_, if_pos h6, fun L hL => ?_⟩
          rw [seq_go]
          walk_at "rs"
          refine ⟨by decide, h7, ?_⟩
          rw [seq_go]
          walk_at "rs"
          have hdr : st.drop pre.length = st[pre.length] :: st.drop (pre.length + 1) := List.drop_eq_getElem_cons hlt
          have hdo : od.drop pre.length = od[pre.length] :: od.drop (pre.length + 1) := List.drop_eq_getElem_cons hlt2
          rw [hdr, hdo] at hd
          have ar := atI_map tI st hlt
          have ao := atI_int od hlt2
          generalize st[pre.length] = r at hcr hfr hd ar
          generalize od[pre.length] = c at hcr hd ao
          obtain ⟨hc0, hc1⟩ := hcr
          have few : (takesM r c).length ≤ 27 := takesM_few hfr.1 fun n hn => (hfr.2 n hn).2
          have hpw : 1 ≤ 27 ^ (st.length - pre.length - 1) := Nat.pow_pos (by decide)
          have ep : 27 ^ (st.length - pre.length) = 27 ^ (st.length - pre.length - 1) * 27 := by
            rw [← Nat.pow_succ]
            congr 1
            omega
          rw [ep, Nat.mul_assoc] at hf
          have l1 : 27 * acc.length ≤ 19683 := by
            have := Nat.mul_le_mul_right (27 * acc.length) hpw
            omega
          have flen : ∀ a : List St, (a.flatMap (dueF r c)).length ≤ 27 * a.length := by
            intro a
            induction a with
            | nil => simp
            | cons u a ih =>
              have : ((u :: a).flatMap (dueF r c)).length = (takesM r c).length + (a.flatMap (dueF r c)).length := by simp [dueF]
              rw [this, List.length_cons]
              omega
          refine for_map (fun s => ttI s) (fun a Γ => ∃ c8 c9 : Sl, Γ = [.dat (lI ns), .own false l7, .dat (encParts keep pats most wk bud), .dat (ttI st), .dat (tI od), .dat (lttI acc), .dat (.int pre.length), .own false ((a.flatMap (dueF r c)).map fun s => ttI s), c8, c9, .non, .non, .non, .non, .non] ∧ soft c8 = true ∧ soft c9 = true) _ ⟨_, _, rfl, h8, h9⟩ ?_ ?_
          · rintro a u b Γ e ⟨c8, c9, rfl, h8, h9⟩
            have hul := hu u (by rw [e]; simp)
            have l5 := flen a
            have l6 : a.length + 1 ≤ acc.length := by rw [e]; simp
            refine ⟨_, if_pos h8, fun L' hL' => ?_⟩
            walk_at "rd"
            refine ⟨_, ar, _, ao, ?_⟩
            refine sdF_go ((r, c) : List Int × Int) ⟨hfr.1, hfr.2, hc0, hc1⟩ ?_
            walk_at "rd"
            refine for_map tI (fun a2 Γ => ∃ c9 : Sl, Γ = [.dat (lI ns), .own false l7, .dat (encParts keep pats most wk bud), .dat (ttI st), .dat (tI od), .dat (lttI acc), .dat (.int pre.length), .own false ((a.flatMap (dueF r c) ++ a2.map fun t => u ++ [subL r t]).map fun s => ttI s), .dat (ttI u), c9, .non, .non, .non, .non, .non] ∧ soft c9 = true) _ ⟨_, by rw [List.map_nil, List.append_nil], h9⟩ ?_ ?_
            · rintro a2 t b2 Γ e2 ⟨c9, rfl, h9⟩
              have ht : t ∈ takesM r c := by rw [e2]; simp
              have htl := ((takesM_mem hc0).mp ht).1.len
              have l8 := congrArg List.length e2
              rw [List.length_append, List.length_cons] at l8
              refine ⟨_, if_pos h9, fun L2 hL2 => ?_⟩
              walk_at "rd"
              refine ⟨by omega, by omega, by rw [rangeD_len]; omega, ?_⟩
              rw [rangeD_map0, Int.toNat_natCast]
              refine lc_map _ (fun k : Nat => D.int (r.getD k 0 - t.getD k 0)) _ ?_ ?_
              · intro k hk got
                rw [List.mem_range] at hk
                refine ⟨_, rfl, fun L3 hL3 => ?_⟩
                walk_at "rd"
                have hk2 : k < r.length := by omega
                have g1 : r.getD k 0 = r[k] := by simp [List.getD_eq_getElem?_getD, List.getElem?_eq_getElem hk2]
                have g2 : t.getD k 0 = t[k] := by simp [List.getD_eq_getElem?_getD, List.getElem?_eq_getElem hk]
                rw [g1, g2] at hL3
                exact ⟨_, ar, _, rfl, _, atI_int r hk2, _, atI_int t hk, _, rfl, _, rfl, hL3⟩
              · walk_at "rd"
                refine ⟨by decide, by omega, ?_, ?_⟩
                · rw [List.length_append, List.length_map]
                  omega
                · refine Eq.mp (congrArg L2 ?_) (hL2 _ ⟨.dat (tI t), rfl, rfl⟩)
                  rw [List.map_append, List.map_append, List.map_append, List.map_append]
                  have es : D.tup (List.map (fun k => D.int (r.getD k 0 - t.getD k 0)) (List.range t.length)) = tI (subL r t) := by
                    show D.tup _ = D.tup _
                    rw [← subL_map htl, List.map_map]
                    rfl
                  rw [es, List.append_assoc, show D.tup (List.map tI u ++ [tI (subL r t)]) = ttI (u ++ [subL r t]) by rw [show ttI (u ++ [subL r t]) = D.tup (List.map tI (u ++ [subL r t])) from rfl, List.map_append]; rfl]
                  rfl
            · rintro Γ ⟨c9, rfl, h9⟩
              walk_at "rd"
              refine Eq.mp (congrArg L' ?_) (hL' _ ⟨.dat (ttI u), c9, rfl, rfl, h9⟩)
              rw [List.flatMap_append]
              show _ = _
              congr 9
              simp [dueF]
          · rintro Γ ⟨c8, c9, rfl, h8, h9⟩
            walk_at "rd"
            refine hL _ ⟨_, _, _, c8, c9, ?_, ?_, ?_, rfl, rfl, rfl, h8, h9⟩
            · rw [List.length_append, List.length_singleton]
              exact hd
            · rw [List.length_append, List.length_singleton, Nat.sub_add_eq]
              exact Nat.le_trans (Nat.mul_le_mul_left _ (flen acc)) hf
            · intro u hm
              obtain ⟨v, hv, h2⟩ := List.mem_flatMap.mp hm
              obtain ⟨_, _, rfl⟩ := List.mem_map.mp h2
              have hv' := hu v hv
              rw [List.length_append, List.length_singleton, List.length_append, List.length_singleton]
              omega
        · rintro Γ ⟨acc, c6, c7, c8, c9, hd, hf, hu, rfl, h6, h7, h8, h9⟩
          rw [List.length_range] at hd
          have ea : acc = dueGo st od [[]] := by
            rw [List.drop_length, ← hol, List.drop_length] at hd
            exact hd
          rw [ea]
          walk_at "rd"
          exact hN _ ⟨_, _, _, _, rfl⟩
      · rintro Γ' ⟨c6, c7, c8, c9, rfl⟩
        have hiss : Iss st od := ⟨hfew, hcan, hst3⟩
        rw [seq_go]
        walk_at "rs"
        refine sdF_go ((st, od) : St × List Int) hiss ?_
        rw [seq_go]
        walk_at "rs"
        have hsd : issGo st od [[]] = (dueGo st od [[]]).reverse := iss_due st od [[]] hcan
        have hmem : ∀ s, s ∈ issGo st od [[]] ↔ W3 s st od := fun s => by
          rw [issGo_mem s st od [[]] hol.symm]
          constructor
          · rintro ⟨u, hu, t, rfl, h⟩
            rw [List.mem_singleton] at hu
            subst hu
            exact h
          · intro h
            exact ⟨[], List.mem_singleton.mpr rfl, s, rfl, h⟩
        have hdl : (dueGo st od [[]]).length ≤ 19683 := by
          have h1 := due_few st od [[]] fun r hr => ⟨(hfew r hr).1, fun n hn => ((hfew r hr).2 n hn).2⟩
          have h4 : 27 ^ st.length ≤ 27 ^ 3 := Nat.pow_le_pow_right (by decide) hst3
          rw [List.length_singleton] at h1
          omega
        refine ⟨_, (dueGo st od [[]]).map (fun s => ttI s), rfl, rfl, by rw [List.length_map]; omega, plainL_map (fun s => ttI s) plain_ttI _, ?_, ?_, ?_, ?_⟩
        · intro a ha b hb
          obtain ⟨s, _, rfl⟩ := List.mem_map.mp ha
          obtain ⟨t, _, rfl⟩ := List.mem_map.mp hb
          exact alike_ttI s t
        · intro d hd
          obtain ⟨s, hs, rfl⟩ := List.mem_map.mp hd
          have hw := (hmem s).mp (by rw [hsd]; exact List.mem_reverse.mpr hs)
          have hl := (hw.len hcan).1
          cases s with
          | nil => simp at hl; omega
          | cons x s => exact ⟨tI x, s.map tI, rfl⟩
        · intro d hd
          obtain ⟨s, hs, rfl⟩ := List.mem_map.mp hd
          have := dep_ttI s
          show dep (.tup (s.map tI)) ≤ _
          omega
        rw [show ((dueGo st od [[]]).map fun s => ttI s).mergeSort leD = (issGo st od [[]]).map fun s => ttI s from sort_ttI (by rw [hsd]; exact (List.reverse_perm _).symm) (issGo_asc st od [[]] (List.pairwise_singleton _ _))]
        refine ⟨okD_rows _, okD_rows _, fun b hb => ?_⟩
        rw [hb.mpr rfl, show (!true) = false from rfl, if_neg Bool.false_ne_true]
        rw [seq_go]
        walk_at "rs"
        have hstod : StOd st od := ⟨by omega, fun r hr => by have := (hfew r hr).1; omega, hol.symm⟩
        have hbw := sold_w3 hnn hcan
        refine ⟨st, od, rfl, hstod, ?_⟩
        rw [can_lack 0 hcan]
        dsimp only
        rw [seq_go]
        walk_at "rs"
        refine ⟨okD_ttI _, okD_rows _, fun b hb => ?_⟩
        rw [hb.mpr (List.mem_map.mpr ⟨_, (hmem _).mpr hbw, rfl⟩), show (!true) = false from rfl, if_neg Bool.false_ne_true]
        have hbl := hbw.len hcan
        rw [seq_go]
        walk_at "rs"
        refine for_map (fun s => ttI s) (fun _ Γ => ∃ c12 : Sl, Γ = [.dat (lI ns), .own false l7, .dat (encParts keep pats most wk bud), .dat (ttI st), .dat (tI od), .dat (lttI (dueGo st od [[]])), c6, c7, c8, c9, .dat (lttI (issGo st od [[]])), .dat (ttI (soldAll st od)), c12, .non, .non] ∧ soft c12 = true) _ ⟨_, rfl, rfl⟩ ?_ ?_
        · rintro pre s post Γ e ⟨c12, rfl, h12⟩
          have hs : s ∈ issGo st od [[]] := by rw [e]; simp
          have hw := (hmem s).mp hs
          have hwl := hw.len hcan
          refine ⟨_, if_pos h12, fun L hL => ?_⟩
          walk_at "rd"
          refine sdF_go ((soldAll st od, s) : St × St) trivial ?_
          refine ⟨_, rfl, ?_⟩
          dsimp only
          rw [sold_best hnn hcan hw, show (true != true) = false from rfl, if_neg Bool.false_ne_true]
          have hsame : Same s (soldAll st od) := ⟨by rw [hwl.1, hbl.1], fun i a b h1 h2 => by
            have hi : i < st.length := by
              have := (List.getElem?_eq_some_iff.mp h1).1
              omega
            rw [hwl.2 i a _ h1 (List.getElem?_eq_getElem hi), hbl.2 i b _ h2 (List.getElem?_eq_getElem hi)]⟩
          refine sdF_go ((s, soldAll st od) : St × St) trivial ?_
          refine sdF_go ((s, soldAll st od) : St × St) ⟨hsame, by dsimp only; omega, fun r hr => ?_⟩ ?_
          · obtain ⟨i, hi⟩ := List.getElem?_of_mem hr
            have hlt : i < st.length := by
              have := (List.getElem?_eq_some_iff.mp hi).1
              dsimp only at this
              omega
            have h1 := hwl.2 i r _ hi (List.getElem?_eq_getElem hlt)
            have h2 := (hfew _ (List.getElem_mem hlt)).1
            omega
          · refine ⟨_, rfl, _, rfl, ?_⟩
            rw [show (betM (s, soldAll st od).1 (s, soldAll st od).2 != betM (s, soldAll st od).1 (s, soldAll st od).2) = false by simp, if_neg Bool.false_ne_true]
            exact hL _ ⟨_, rfl, rfl⟩
        · rintro Γ ⟨c12, rfl, h12⟩
          walk_at "rd"
          exact q _ rfl
end
end K06

set_option Elab.async false
set_option linter.all false
set_option maxRecDepth 100000
set_option maxHeartbeats 4000000
namespace K06
open PySem PySem.Spec PyProof.Rows L2 DL QG GG
/-! ### the head -/
def edS : HZ.Ed := ⟨"Short", "Short.__init__", defArgs shortInit, defBody shortInit, defScope shortInit⟩
def fnL : List He.DefD := [HY.dd "check_enough" s_check_enough, HY.dd "oldest_taken" s_oldest_taken, HY.dd "issue" s_issue, HY.dd "all_taken" s_all_taken, HY.dd "issues" s_issues, HY.dd "is_better_row" s_is_better_row, HY.dd "is_better" s_is_better, HY.dd "_law_cell" s_law_cell, HY.dd "_law_digits" s_law_digits, HY.dd "_law_draw" s_law_draw, HY.dd "_law_counts" s_law_counts, HY.dd "_law_week" s_law_week, HY.dd "_law_parts" s_law_parts, HY.dd "_law_stock" s_law_stock, HY.dd "_law_takes" s_law_takes, HY.dd "_law_better" s_law_better, HY.dd "law" s_law]
def faL : List He.Fa := [.glo "check_enough", .glo "oldest_taken", .glo "issue", .glo "all_taken", .glo "issues", .glo "is_better_row", .glo "is_better", .glo "_law_cell", .glo "_law_digits", .glo "_law_draw", .glo "_law_counts", .glo "_law_week", .glo "_law_parts", .glo "_law_stock", .glo "_law_takes", .glo "_law_better", .glo "law", .free "len", .free "int", .free "max", .free "min", .free "tuple", .free "list", .free "sum", .free "range", .free "zip", .free "enumerate", .free "all", .free "any", .free "sorted", .free "isinstance", .free "bool", .free "super", .noat "Short" "good"]
def tfL : List He.Defn := [("is_better", none)]
abbrev R : PySem.W.OpenRow := PySem.W.OpenLaw.row PySem.Challenge.rw_larderdays_k06_oldest_first_is_best
def esL : List HZ.Ed := [edS]
abbrev hk : PySem.W.Hook := HZ.hookZ PySem.Challenge.pw_larderdays_k06_oldest_first_is_best 7 faL fnL esL tfL
def ob (s : PySem.W.SharedT) : HZ.AlZ := HZ.obsZ PySem.Challenge.pw_larderdays_k06_oldest_first_is_best 7 faL fnL esL tfL (HandSHeadRun.getT s)
theorem ob_eq (s : PySem.W.SharedT) : ob s = hk.obs s.abs := HZ.obsZ_eq (HandSHeadRun.getT_eq s)
def loose : List Str := [("LarderdaysError" : Str), ("Short" : Str), ("check_enough" : Str), ("issue" : Str), ("oldest_taken" : Str), ("issues" : Str), ("all_taken" : Str), ("is_better" : Str), ("is_better_row" : Str), ("_law_cell" : Str), ("_law_digits" : Str), ("_law_draw" : Str), ("_law_counts" : Str), ("_law_week" : Str), ("_law_parts" : Str), ("_law_small" : Str), ("_law_rows" : Str), ("_law_cost" : Str), ("_law_choices" : Str), ("_law_gives" : Str), ("_law_stock" : Str), ("_law_none" : Str), ("_law_cut" : Str), ("_law_sold" : Str), ("_law_night" : Str), ("_law_next" : Str), ("_law_better" : Str), ("_law_takes" : Str)]
theorem run (w : World) : HandSHeadRun.RunEq R (PySem.W.view R.prog [31]) hk ob 4000 loose w := by
  intro os
  kernel_rfl
section
variable {w : World} {K : PySem.W.Frag} {h : Heap} {mg : Str → Option Value}
theorem facts {f : Addr} (X : K.In h) (G : h.Ns mainGlobals mg) (hfa : mg ("law" : Str) = some (.ref f)) (c : HZ.SaysZ PySem.Challenge.pw_larderdays_k06_oldest_first_is_best faL fnL esL tfL h K) :
    ∃ fd : FuncData, (∀ (s : Shared) (v : Value), BindsTo s fd ⟨[v], []⟩ [("script", v)]) ∧ ∀ base : Heap, (∀ p ∈ tfL.map (He.cT K), GxR.TabB base mg p.1 p.2) → FnOk PySem.Challenge.pw_larderdays_k06_oldest_first_is_best w K mg base CX0 6 f fd ["script"] (spD K ((tfL.map (He.cT K)).map (·.2)) HY.sdLaw) := by
  have cd := c.d
  obtain ⟨fd, F⟩ := cd.def_ 16 (d := HY.dd "law" s_law) rfl
  have e := hfa.symm.trans (He.glo_ok X G (cd.fact 16 (f := .glo "law") rfl))
  cases e
  have b := FunD.bindsA (ps := ["script"]) F fun _ _ _ _ _ _ us hl => match us, hl with | [_], _ => rfl
  refine ⟨fd, fun s v => b s [v] rfl, fun base TB => ?_⟩
  have T : Tx mg := ⟨He.free_ok X G (cd.fact 17 (f := .free "len") rfl), He.free_ok X G (cd.fact 18 (f := .free "int") rfl), He.free_ok X G (cd.fact 19 (f := .free "max") rfl), He.free_ok X G (cd.fact 20 (f := .free "min") rfl), He.free_ok X G (cd.fact 21 (f := .free "tuple") rfl), He.free_ok X G (cd.fact 22 (f := .free "list") rfl), He.free_ok X G (cd.fact 23 (f := .free "sum") rfl), He.free_ok X G (cd.fact 24 (f := .free "range") rfl), He.free_ok X G (cd.fact 25 (f := .free "zip") rfl), He.free_ok X G (cd.fact 26 (f := .free "enumerate") rfl), He.free_ok X G (cd.fact 27 (f := .free "all") rfl), He.free_ok X G (cd.fact 28 (f := .free "any") rfl), He.free_ok X G (cd.fact 29 (f := .free "sorted") rfl), He.free_ok X G (cd.fact 30 (f := .free "isinstance") rfl), He.free_ok X G (cd.fact 31 (f := .free "bool") rfl)⟩
  have TB0 := TB (He.cT K ("is_better", none)) (List.mem_map.mpr ⟨_, List.mem_of_getElem? (i := 0) rfl, rfl⟩)
  have ht0 : (He.cT K ("is_better", none)).2 ∈ (tfL.map (He.cT K)).map (·.2) := List.mem_map.mpr ⟨_, List.mem_map.mpr ⟨_, List.mem_of_getElem? (i := 0) rfl, rfl⟩, rfl⟩
  have hsup : mg "super" = none := He.free_ok X G (cd.fact 32 (f := .free "super") rfl)
  obtain ⟨y1, y2⟩ := c.exc 0 (d := edS) rfl
  have ES := HZ.exc_ok (b := "good") (e := msgS) X G y1 (cd.fact 33 (f := .noat "Short" "good") rfl) y2 hsup (by decide +kernel) rfl rfl rfl rfl
  obtain ⟨fI1, cc1, cda1, XT⟩ := ES.ex
  have d0 : Df K mg "check_enough" s_check_enough ["stock", "order"] := HY.df_of X G (cd.def_ 0 (d := HY.dd "check_enough" s_check_enough) rfl) (cd.fact 0 rfl) fun _ _ _ _ _ _ us hl => match us, hl with | [_, _], _ => rfl
  have D_check_enough := d0.dnX (P := PySem.Challenge.pw_larderdays_k06_oldest_first_is_best) (w := w) (base := base) fun f fd F => ok_check_enough (ts := (tfL.map (He.cT K)).map (·.2)) (k := 0) T XT F
  obtain ⟨f_check_enough, fd_check_enough, G_check_enough, g_check_enough, k_check_enough, b_check_enough⟩ := D_check_enough.ex
  have d1 : Df K mg "oldest_taken" s_oldest_taken ["row", "count"] := HY.df_of X G (cd.def_ 1 (d := HY.dd "oldest_taken" s_oldest_taken) rfl) (cd.fact 1 rfl) fun _ _ _ _ _ _ us hl => match us, hl with | [_, _], _ => rfl
  have D_oldest_taken := d1.dn (P := PySem.Challenge.pw_larderdays_k06_oldest_first_is_best) (w := w) (base := base) fun f fd F => ok_oldest_taken (ts := (tfL.map (He.cT K)).map (·.2)) (k := 0) T F
  have d2 : Df K mg "issue" s_issue ["stock", "order"] := HY.df_of X G (cd.def_ 2 (d := HY.dd "issue" s_issue) rfl) (cd.fact 2 rfl) fun _ _ _ _ _ _ us hl => match us, hl with | [_, _], _ => rfl
  have D_issue := d2.dnX (P := PySem.Challenge.pw_larderdays_k06_oldest_first_is_best) (w := w) (base := base) fun f fd F => ok_issue (ts := (tfL.map (He.cT K)).map (·.2)) T F D_oldest_taken D_check_enough
  obtain ⟨f_issue, fd_issue, G_issue, g_issue, k_issue, b_issue⟩ := D_issue.ex
  have d3 : Df K mg "all_taken" s_all_taken ["row", "count"] := HY.df_of X G (cd.def_ 3 (d := HY.dd "all_taken" s_all_taken) rfl) (cd.fact 3 rfl) fun _ _ _ _ _ _ us hl => match us, hl with | [_, _], _ => rfl
  have D_all_taken := d3.dn (P := PySem.Challenge.pw_larderdays_k06_oldest_first_is_best) (w := w) (base := base) fun f fd F => ok_all_taken (ts := (tfL.map (He.cT K)).map (·.2)) (k := 0) T F
  have d4 : Df K mg "issues" s_issues ["stock", "order"] := HY.df_of X G (cd.def_ 4 (d := HY.dd "issues" s_issues) rfl) (cd.fact 4 rfl) fun _ _ _ _ _ _ us hl => match us, hl with | [_, _], _ => rfl
  have D_issues := d4.dn (P := PySem.Challenge.pw_larderdays_k06_oldest_first_is_best) (w := w) (base := base) fun f fd F => ok_issues (ts := (tfL.map (He.cT K)).map (·.2)) T F D_check_enough D_all_taken
  have d5 : Df K mg "is_better_row" s_is_better_row ["row", "other"] := HY.df_of X G (cd.def_ 5 (d := HY.dd "is_better_row" s_is_better_row) rfl) (cd.fact 5 rfl) fun _ _ _ _ _ _ us hl => match us, hl with | [_, _], _ => rfl
  have D_is_better_row := d5.dn (P := PySem.Challenge.pw_larderdays_k06_oldest_first_is_best) (w := w) (base := base) fun f fd F => ok_is_better_row (ts := (tfL.map (He.cT K)).map (·.2)) (k := 0) T F
  have d6 : HY.DfC K mg (He.cT K ("is_better", none)) "is_better" s_is_better ["one", "other"] := HY.dfc_of X G (cd.def_ 6 (d := HY.dd "is_better" s_is_better) rfl) (cd.fact 6 rfl) fun _ _ _ _ _ _ us hl => match us, hl with | [_, _], _ => rfl
  have D_is_better := d6.dn (P := PySem.Challenge.pw_larderdays_k06_oldest_first_is_best) (w := w) (base := base) fun f fd F hc => ok_is_better (ts := (tfL.map (He.cT K)).map (·.2)) T ht0 TB0 F hc D_is_better_row
  have d7 : Df K mg "_law_cell" s_law_cell ["script", "k"] := HY.df_of X G (cd.def_ 7 (d := HY.dd "_law_cell" s_law_cell) rfl) (cd.fact 7 rfl) fun _ _ _ _ _ _ us hl => match us, hl with | [_, _], _ => rfl
  have D__law_cell := d7.dn (P := PySem.Challenge.pw_larderdays_k06_oldest_first_is_best) (w := w) (base := base) fun f fd F => ok_law_cell (ts := (tfL.map (He.cT K)).map (·.2)) (k := 0) T F
  have d8 : Df K mg "_law_digits" s_law_digits ["script", "first", "last"] := HY.df_of X G (cd.def_ 8 (d := HY.dd "_law_digits" s_law_digits) rfl) (cd.fact 8 rfl) fun _ _ _ _ _ _ us hl => match us, hl with | [_, _, _], _ => rfl
  have D__law_digits := d8.dn (P := PySem.Challenge.pw_larderdays_k06_oldest_first_is_best) (w := w) (base := base) fun f fd F => ok_law_digits (ts := (tfL.map (He.cT K)).map (·.2)) T F D__law_cell
  have d9 : Df K mg "_law_draw" s_law_draw ["box", "many"] := HY.df_of X G (cd.def_ 9 (d := HY.dd "_law_draw" s_law_draw) rfl) (cd.fact 9 rfl) fun _ _ _ _ _ _ us hl => match us, hl with | [_, _], _ => rfl
  have D__law_draw := d9.dn (P := PySem.Challenge.pw_larderdays_k06_oldest_first_is_best) (w := w) (base := base) fun f fd F => ok_law_draw (ts := (tfL.map (He.cT K)).map (·.2)) (k := 0) T F
  have d10 : Df K mg "_law_counts" s_law_counts ["box", "goods", "most"] := HY.df_of X G (cd.def_ 10 (d := HY.dd "_law_counts" s_law_counts) rfl) (cd.fact 10 rfl) fun _ _ _ _ _ _ us hl => match us, hl with | [_, _, _], _ => rfl
  have D__law_counts := d10.dn (P := PySem.Challenge.pw_larderdays_k06_oldest_first_is_best) (w := w) (base := base) fun f fd F => ok_law_counts (ts := (tfL.map (He.cT K)).map (·.2)) T F D__law_draw
  have d11 : Df K mg "_law_week" s_law_week ["box", "goods", "most"] := HY.df_of X G (cd.def_ 11 (d := HY.dd "_law_week" s_law_week) rfl) (cd.fact 11 rfl) fun _ _ _ _ _ _ us hl => match us, hl with | [_, _, _], _ => rfl
  have D__law_week := d11.dn (P := PySem.Challenge.pw_larderdays_k06_oldest_first_is_best) (w := w) (base := base) fun f fd F => ok_law_week (ts := (tfL.map (He.cT K)).map (·.2)) T F D__law_draw D__law_counts
  have d12 : Df K mg "_law_parts" s_law_parts ["box", "goods", "longest"] := HY.df_of X G (cd.def_ 12 (d := HY.dd "_law_parts" s_law_parts) rfl) (cd.fact 12 rfl) fun _ _ _ _ _ _ us hl => match us, hl with | [_, _, _], _ => rfl
  have D__law_parts := d12.dn (P := PySem.Challenge.pw_larderdays_k06_oldest_first_is_best) (w := w) (base := base) fun f fd F => ok_law_parts (ts := (tfL.map (He.cT K)).map (·.2)) T F D__law_draw D__law_counts D__law_week
  have d13 : Df K mg "_law_stock" s_law_stock ["box", "parts", "most"] := HY.df_of X G (cd.def_ 13 (d := HY.dd "_law_stock" s_law_stock) rfl) (cd.fact 13 rfl) fun _ _ _ _ _ _ us hl => match us, hl with | [_, _, _], _ => rfl
  have D__law_stock := d13.dn (P := PySem.Challenge.pw_larderdays_k06_oldest_first_is_best) (w := w) (base := base) fun f fd F => ok_law_stock (ts := (tfL.map (He.cT K)).map (·.2)) T F D__law_draw
  have d14 : Df K mg "_law_takes" s_law_takes ["row", "many"] := HY.df_of X G (cd.def_ 14 (d := HY.dd "_law_takes" s_law_takes) rfl) (cd.fact 14 rfl) fun _ _ _ _ _ _ us hl => match us, hl with | [_, _], _ => rfl
  have D__law_takes := d14.dn (P := PySem.Challenge.pw_larderdays_k06_oldest_first_is_best) (w := w) (base := base) fun f fd F => ok_law_takes (ts := (tfL.map (He.cT K)).map (·.2)) (k := 0) T F
  have d15 : Df K mg "_law_better" s_law_better ["one", "other"] := HY.df_of X G (cd.def_ 15 (d := HY.dd "_law_better" s_law_better) rfl) (cd.fact 15 rfl) fun _ _ _ _ _ _ us hl => match us, hl with | [_, _], _ => rfl
  have D__law_better := d15.dn (P := PySem.Challenge.pw_larderdays_k06_oldest_first_is_best) (w := w) (base := base) fun f fd F => ok_law_better (ts := (tfL.map (He.cT K)).map (·.2)) (k := 0) T F
  exact ok_law T (HY.fun_of F) D__law_digits D__law_draw D__law_parts D__law_stock D__law_takes D__law_better D_is_better D_issues D_issue
end
end K06
open PySem PySem.W PySem.Calls PyProof.Rows
theorem PySem.Challenge.cw_larderdays_k06_oldest_first_is_best_holds : PySem.Challenge.rw_larderdays_k06_oldest_first_is_best.Holds := by
  w_on; o_law
  refine HandSHeadRun.head_any (r := OpenLaw.row PySem.Challenge.rw_larderdays_k06_oldest_first_is_best) (q := view (OpenLaw.row PySem.Challenge.rw_larderdays_k06_oldest_first_is_best).prog [31]) (H := K06.hk) (ob := K06.ob) (M := 4000) (loose := K06.loose) (d := HandSHeadRun.topDef (OpenLaw.row PySem.Challenge.rw_larderdays_k06_oldest_first_is_best).prog 31) (kwd := []) K06.ob_eq
    (by kernel_rfl) (fun s => by kernel_rfl) K06.run (by kernel_rfl) (by kernel_rfl) (by kernel_rfl) (by rfl) (by first | assumption | decide +kernel) (by decide +kernel) ⟨rfl, rfl, rfl, rfl, rfl, by decide +kernel⟩ ?hw ?hc
  case hw => w_witness2
  case hc =>
    refine LamX.walk_ofTsE (l := PySem.Challenge.rw_larderdays_k06_oldest_first_is_best) (n := 63) (k := 6) (x := "script") (CX := fun _ => L2.CX0) rfl (by decide) (by kernel_rfl) ⟨rfl, by decide, by decide⟩ ?F (fun _ _ _ _ _ z => z)
    intro w mg fa h Y G hmg0
    obtain ⟨K, KX, c⟩ := Y
    have hmg : mg ("law" : PySem.Str) = some (.ref fa) := by
      have e : (HandSHeadRun.topDef (OpenLaw.row PySem.Challenge.rw_larderdays_k06_oldest_first_is_best).prog 31).name = ("law" : PySem.Str) := by kernel_rfl
      rw [← e]
      exact hmg0
    obtain ⟨fd, hb, hF⟩ := K06.facts (w := w) KX G hmg c
    refine ⟨K, KX, fd, K06.tfL.map (He.cT K), DL.spD K ((K06.tfL.map (He.cT K)).map (fun x : Addr × Addr => x.2)) HY.sdLaw, fun p hp => ?_, fun p hp => ?_, HZ.codeHd_of KX c, hb, fun H a ns _ _ hT hS => HY.law_sp hT hS fun Q E q => HY.sdLaw_ok Q E q, fun base _ _ TB => hF base fun p hp => HY.tabB_of (TB p hp)⟩
    · obtain ⟨q, hq, rfl⟩ := List.mem_map.mp hp
      exact c.empty q hq
    · obtain ⟨q, hq, rfl⟩ := List.mem_map.mp hp
      exact c.out q hq
