import PyProof.Rows.All
import HandS.ForMost
import HandS.Exc
import HandS.TryOnly
import HandS.ExcOwn
import HandS.WordsExc
import HandS.IsInst
import HandS.ExcIs
import HandS.Deep
import PyProof.TypeEq
import PyProof.TypeOfCall
import PyProof.InstEq
import KE.KTypeOf
import HandS.HotCalls
import KE.SortData
import KE.DataMinMax
import PySem.Challenge.RW_fullring_k03_rings_read_round
set_option Elab.async false
set_option linter.all false
set_option maxRecDepth 100000
set_option maxHeartbeats 4000000
namespace L2.Xq
open PySem PySem.Spec PyProof.Rows

abbrev D := PyData
inductive Ex where
  | ring | size | word | book | bring | noword | noring | nojoin
  deriving DecidableEq
inductive Md where
  | tmp | bo | fz | fr
  deriving DecidableEq
inductive Res (α : Type) where
  | ok (a : α) | raise (c : Ex) | stuck
inductive Cell where
  | un | bo (d : D) | fz (d : D) | ow (ds : List D) | scr (K : PySem.W.Frag) (a : Addr) (ns : List Int) | adr (a : Addr) | at_ (p : Addr) (d : D)
abbrev Ev := List Cell

-- some data is held at a value, over addresses of S
mutual
inductive Rep (H : Hp) (S : Addr → Prop) : V → D → Prop
  | non : Rep H S .non .none
  | bl (b : Bool) : Rep H S (.bl b) (.bool b)
  | int (i : Int) : Rep H S (.int i) (.int i)
  | str (x : Str) : Rep H S (.str x) (.str x)
  | lst {a : Addr} {xs : List V} {ds : List D} : S a → H a = some (.lst xs) → RepAll H S xs ds → Rep H S (.ref a) (.list ds)
  | tup {a : Addr} {xs : List V} {ds : List D} : S a → H a = some (.tup xs) → RepAll H S xs ds → Rep H S (.ref a) (.tuple ds)
  | dct {a : Addr} : S a → H a = some (.dK []) → Rep H S (.ref a) (.dict [])
inductive RepAll (H : Hp) (S : Addr → Prop) : List V → List D → Prop
  | nil : RepAll H S [] []
  | cons {v : V} {vs : List V} {d : D} {ds : List D} : Rep H S v d → RepAll H S vs ds → RepAll H S (v :: vs) (d :: ds)
end

section
variable {H H' : Hp} {S S' : Addr → Prop}
mutual
theorem Rep.mono (h : ∀ a, S a → S' a) (hk : ∀ a o, S a → H a = some o → H' a = some o) : ∀ {d : D} {v : V}, Rep H S v d → Rep H' S' v d
  | _, _, .non => .non
  | _, _, .bl b => .bl b
  | _, _, .int i => .int i
  | _, _, .str x => .str x
  | _, _, .lst s e r => .lst (h _ s) (hk _ _ s e) (RepAll.mono h hk r)
  | _, _, .tup s e r => .tup (h _ s) (hk _ _ s e) (RepAll.mono h hk r)
  | _, _, .dct s e => .dct (h _ s) (hk _ _ s e)
theorem RepAll.mono (h : ∀ a, S a → S' a) (hk : ∀ a o, S a → H a = some o → H' a = some o) : ∀ {ds : List D} {vs : List V}, RepAll H S vs ds → RepAll H' S' vs ds
  | _, _, .nil => .nil
  | _, _, .cons r rs => .cons (Rep.mono h hk r) (RepAll.mono h hk rs)
end
theorem RepAll.length : ∀ {ds : List D} {vs : List V}, RepAll H S vs ds → vs.length = ds.length
  | _, _, .nil => rfl
  | _, _, .cons _ r => by simp [RepAll.length r]
theorem RepAll.append : ∀ {ds es : List D} {vs us : List V}, RepAll H S vs ds → RepAll H S us es → RepAll H S (vs ++ us) (ds ++ es)
  | _, _, _, _, .nil, r => r
  | _, _, _, _, .cons a b, r => .cons a (RepAll.append b r)
theorem RepAll.get : ∀ {ds : List D} {vs : List V} {i : Nat} {d : D}, RepAll H S vs ds → ds[i]? = some d → ∃ v, vs[i]? = some v ∧ Rep H S v d
  | _, _, _, _, .nil, e => by simp at e
  | _, _, 0, _, .cons a b, e => by simp at e; subst e; exact ⟨_, rfl, a⟩
  | _, _, i + 1, _, .cons a b, e => by
    obtain ⟨v, e1, r⟩ := RepAll.get (i := i) b (by simpa using e)
    exact ⟨v, by simpa using e1, r⟩
theorem RepAll.getV : ∀ {ds : List D} {vs : List V} {i : Nat} {v : V}, RepAll H S vs ds → vs[i]? = some v → ∃ d, ds[i]? = some d ∧ Rep H S v d
  | _, _, _, _, .nil, e => by simp at e
  | _, _, 0, _, .cons a b, e => by simp at e; subst e; exact ⟨_, rfl, a⟩
  | _, _, i + 1, _, .cons a b, e => by
    obtain ⟨v, e1, r⟩ := RepAll.getV (i := i) b (by simpa using e)
    exact ⟨v, by simpa using e1, r⟩
theorem RepAll.take : ∀ {ds : List D} {vs : List V} (n : Nat), RepAll H S vs ds → RepAll H S (vs.take n) (ds.take n)
  | _, _, 0, _ => .nil
  | _, _, n + 1, .nil => .nil
  | _, _, n + 1, .cons a b => .cons a (RepAll.take n b)
theorem RepAll.drop : ∀ {ds : List D} {vs : List V} (n : Nat), RepAll H S vs ds → RepAll H S (vs.drop n) (ds.drop n)
  | _, _, 0, r => r
  | _, _, n + 1, .nil => .nil
  | _, _, n + 1, .cons a b => RepAll.drop n b
theorem RepAll.reverse : ∀ {ds : List D} {vs : List V}, RepAll H S vs ds → RepAll H S vs.reverse ds.reverse
  | _, _, .nil => .nil
  | _, _, .cons a b => by
    rw [List.reverse_cons, List.reverse_cons]
    exact (RepAll.reverse b).append (.cons a .nil)
theorem RepAll.set : ∀ {ds : List D} {vs : List V} {v : V} {d : D} (i : Nat), RepAll H S vs ds → Rep H S v d → RepAll H S (vs.set i v) (ds.set i d)
  | _, _, _, _, _, .nil, _ => .nil
  | _, _, _, _, 0, .cons a b, r => .cons r b
  | _, _, _, _, i + 1, .cons a b, r => .cons a (RepAll.set i b r)
theorem RepAll.dropLast : ∀ {ds : List D} {vs : List V}, RepAll H S vs ds → RepAll H S vs.dropLast ds.dropLast := fun {ds vs} r => by
  rw [List.dropLast_eq_take, List.dropLast_eq_take, r.length]
  exact r.take _
theorem RepAll.rep : ∀ {ds : List D} {vs : List V} (k : Nat), RepAll H S vs ds → RepAll H S (List.flatten (List.replicate k vs)) (List.flatten (List.replicate k ds))
  | _, _, 0, _ => .nil
  | _, _, k + 1, r => by
    rw [List.replicate_succ, List.replicate_succ, List.flatten_cons, List.flatten_cons]
    exact r.append (RepAll.rep k r)
theorem RepAll.ints : ∀ (ns : List Int), RepAll H S (ns.map V.int) (ns.map PyData.int)
  | [] => .nil
  | n :: r => .cons (.int n) (RepAll.ints r)
theorem RepAll.int_inv : ∀ {ns : List Int} {vs : List V}, RepAll H S vs (ns.map PyData.int) → vs = ns.map V.int
  | [], _, .nil => rfl
  | n :: r, _, .cons (.int _) b => by rw [RepAll.int_inv b]; rfl
theorem RepAll.bool_inv : ∀ {ns : List Bool} {vs : List V}, RepAll H S vs (ns.map PyData.bool) → vs = ns.map V.bl
  | [], _, .nil => rfl
  | n :: r, _, .cons (.bl _) b => by rw [RepAll.bool_inv b]; rfl
end

/-- the whole heap -/
abbrev All : Addr → Prop := fun _ => True
theorem Rep.all {H : Hp} {S : Addr → Prop} {v : V} {d : D} (r : Rep H S v d) : Rep H All v d := r.mono (fun _ _ => trivial) fun _ _ _ e => e
theorem RepAll.all {H : Hp} {S : Addr → Prop} {v : List V} {d : List D} (r : RepAll H S v d) : RepAll H All v d := r.mono (fun _ _ => trivial) fun _ _ _ e => e

-- one datum at a value
mutual
theorem Rep.fn {H : Hp} {S S' : Addr → Prop} : ∀ {d d' : D} {v : V}, Rep H S v d → Rep H S' v d' → d = d'
  | _, _, _, .non, .non => rfl
  | _, _, _, .bl _, .bl _ => rfl
  | _, _, _, .int _, .int _ => rfl
  | _, _, _, .str _, .str _ => rfl
  | _, _, _, .lst _ e r, .lst _ e' r' => by
    rw [e] at e'; cases e'
    rw [RepAll.fn r r']
  | _, _, _, .lst _ e r, .tup _ e' r' => by rw [e] at e'; cases e'
  | _, _, _, .lst _ e r, .dct _ e' => by rw [e] at e'; cases e'
  | _, _, _, .tup _ e r, .lst _ e' r' => by rw [e] at e'; cases e'
  | _, _, _, .tup _ e r, .tup _ e' r' => by
    rw [e] at e'; cases e'
    rw [RepAll.fn r r']
  | _, _, _, .tup _ e r, .dct _ e' => by rw [e] at e'; cases e'
  | _, _, _, .dct _ e, .lst _ e' r' => by rw [e] at e'; cases e'
  | _, _, _, .dct _ e, .tup _ e' r' => by rw [e] at e'; cases e'
  | _, _, _, .dct _ _, .dct _ _ => rfl
theorem RepAll.fn {H : Hp} {S S' : Addr → Prop} : ∀ {d d' : List D} {v : List V}, RepAll H S v d → RepAll H S' v d' → d = d'
  | _, _, _, .nil, .nil => rfl
  | _, _, _, .cons a b, .cons a' b' => by rw [Rep.fn a a', RepAll.fn b b']
end
-- a smaller datum does not lean on p
mutual
theorem Rep.but {H : Hp} {S : Addr → Prop} {p : Addr} {xs : List V} {ds : List D} (hp : H p = some (.lst xs)) (hr : RepAll H All xs ds) : ∀ {d : D} {v : V}, Rep H S v d → sizeOf d ≤ sizeOf ds → Rep H (fun a => S a ∧ a ≠ p) v d
  | _, _, .non, _ => .non
  | _, _, .bl b, _ => .bl b
  | _, _, .int i, _ => .int i
  | _, _, .str x, _ => .str x
  | _, _, @Rep.lst _ _ a ys es s e r, h => by
    have h' : 1 + sizeOf es ≤ sizeOf ds := by simpa using h
    refine .lst ⟨s, fun q => ?_⟩ e (RepAll.but hp hr r (by omega))
    subst q
    rw [hp] at e; cases e
    rw [RepAll.fn hr r] at h'; omega
  | _, _, @Rep.tup _ _ a ys es s e r, h => by
    have h' : 1 + sizeOf es ≤ sizeOf ds := by simpa using h
    refine .tup ⟨s, fun q => ?_⟩ e (RepAll.but hp hr r (by omega))
    subst q
    rw [hp] at e; cases e
  | _, _, .dct s e, _ => .dct ⟨s, fun q => by subst q; rw [hp] at e; cases e⟩ e
theorem RepAll.but {H : Hp} {S : Addr → Prop} {p : Addr} {xs : List V} {ds : List D} (hp : H p = some (.lst xs)) (hr : RepAll H All xs ds) : ∀ {d : List D} {v : List V}, RepAll H S v d → sizeOf d ≤ sizeOf ds → RepAll H (fun a => S a ∧ a ≠ p) v d
  | _, _, .nil, _ => .nil
  | _, _, @RepAll.cons _ _ _ _ d ds' a b, h => by
    have h' : 1 + sizeOf d + sizeOf ds' ≤ sizeOf ds := by simpa using h
    exact .cons (Rep.but hp hr a (by omega)) (RepAll.but hp hr b (by omega))
end

-- no dict within
mutual
def noDict : D → Bool
  | .list xs => noDicts xs
  | .tuple xs => noDicts xs
  | .dict _ => false
  | _ => true
def noDicts : List D → Bool
  | [] => true
  | d :: r => noDict d && noDicts r
end
mutual
theorem Rep.dp {K : PySem.W.Frag} {H : Hp} {S : Addr → Prop} : ∀ {d : D} {v : V}, Rep H S v d → noDict d = true → Dp K H v d
  | _, _, .non, _ => .non
  | _, _, .bl b, _ => .bl b
  | _, _, .int i, _ => .int i
  | _, _, .str x, _ => .str x
  | _, _, .lst s e r, h => .lst (.inl (.inl e)) (RepAll.dp r (by simpa [noDict] using h))
  | _, _, .tup s e r, h => .tup (.inl (.inl e)) (RepAll.dp r (by simpa [noDict] using h))
  | _, _, .dct s e, h => by simp [noDict] at h
theorem RepAll.dp {K : PySem.W.Frag} {H : Hp} {S : Addr → Prop} : ∀ {d : List D} {v : List V}, RepAll H S v d → noDicts d = true → DpAll K H v d
  | _, _, .nil, _ => .nil
  | _, _, .cons a b, h => by
    simp only [noDicts, Bool.and_eq_true] at h
    exact .cons (Rep.dp a h.1) (RepAll.dp b h.2)
end
/-- no object within -/
def scalar : D → Bool
  | .list _ => false
  | .tuple _ => false
  | .dict _ => false
  | _ => true
theorem Rep.scalar {H H' : Hp} {S S' : Addr → Prop} : ∀ {d : D} {v : V}, Rep H S v d → scalar d = true → Rep H' S' v d
  | _, _, .non, _ => .non
  | _, _, .bl b, _ => .bl b
  | _, _, .int i, _ => .int i
  | _, _, .str x, _ => .str x
  | _, _, .lst s e r, h => by cases h
  | _, _, .tup s e r, h => by cases h
  | _, _, .dct s e, h => by cases h
theorem RepAll.scalars {H H' : Hp} {S S' : Addr → Prop} : ∀ {d : List D} {v : List V}, RepAll H S v d → d.all scalar = true → RepAll H' S' v d
  | _, _, .nil, _ => .nil
  | _, _, .cons a b, h => by
    simp only [List.all_cons, Bool.and_eq_true] at h
    exact .cons (a.scalar h.1) (b.scalars h.2)

/-! ### the state -/
/-- what the entry's heap holds, or what was frozen since -/
abbrev Bo (H0 : Hp) (F : Addr → Prop) : Addr → Prop := fun a => (∃ o, H0 a = some o) ∨ F a
def CellOk (H0 : Hp) (F : Addr → Prop) (H : Hp) : Cell → Option V → Prop
  | .un, _ => True
  | .bo d, v => ∃ x, v = some x ∧ Rep H (Bo H0 F) x d
  | .fz d, v => ∃ x, v = some x ∧ Rep H F x d
  | .adr a, v => v = some (.ref a)
  | .at_ p d, v => v = some (.ref p) ∧ Rep H (Bo H0 F) (.ref p) d
  | .scr K a ns, v => v = some (.ref a) ∧ SqL K H0 a (ns.map V.int)
  | .ow ds, v => ∃ p xs, v = some (.ref p) ∧ H p = some (.lst xs) ∧ ¬ F p ∧ H0 p = none ∧ RepAll H F xs ds
structure Wf (H0 : Hp) (F : Addr → Prop) (σ : St) (ρ : Ev) (H : Hp) : Prop where
  len : σ.length = ρ.length
  cell : ∀ (i : Nat) (c : Cell) (v : Option V), ρ[i]? = some c → σ[i]? = some v → CellOk H0 F H c v
  apart : ∀ (i j : Nat) (ds es : List D) (p : Addr), i ≠ j → ρ[i]? = some (.ow ds) → ρ[j]? = some (.ow es) → σ[i]? = some (some (.ref p)) → σ[j]? = some (some (.ref p)) → False
  ext : ∀ a o, H0 a = some o → H a = some o
  new : ∀ a, F a → H0 a = none
  dom : ∀ a, F a → ∃ o, H a = some o
/-- the heap has grown; what is frozen has grown by new objects -/
structure Grow (H : Hp) (F : Addr → Prop) (H' : Hp) (F' : Addr → Prop) : Prop where
  ext : ∀ a o, H a = some o → H' a = some o
  sub : ∀ a, F a → F' a
  new : ∀ a, F' a → F a ∨ (H a = none ∧ ∃ o, H' a = some o)
theorem Grow.refl {H : Hp} {F : Addr → Prop} : Grow H F H F := ⟨fun _ _ e => e, fun _ e => e, fun _ e => .inl e⟩
theorem Grow.trans {H H1 H2 : Hp} {F F1 F2 : Addr → Prop} (a : Grow H F H1 F1) (b : Grow H1 F1 H2 F2) : Grow H F H2 F2 :=
  ⟨fun x o e => b.ext _ _ (a.ext _ _ e), fun x e => b.sub _ (a.sub _ e), fun x e => by
    rcases b.new x e with q | ⟨q, y⟩
    · rcases a.new x q with q | ⟨q, o, y⟩
      · exact .inl q
      · exact .inr ⟨q, o, b.ext _ _ y⟩
    · refine .inr ⟨?_, y⟩
      cases z : H x with
      | none => rfl
      | some o => rw [a.ext _ _ z] at q; cases q⟩
theorem Grow.none {H H1 : Hp} {F F1 : Addr → Prop} (a : Grow H F H1 F1) {x : Addr} (h : H1 x = none) : H x = none := by
  cases z : H x with
  | none => rfl
  | some o => rw [a.ext _ _ z] at h; cases h
theorem Wf.grow {H0 H H' : Hp} {F F' : Addr → Prop} {σ : St} {ρ : Ev} (w : Wf H0 F σ ρ H) (g : Grow H F H' F') : Wf H0 F' σ ρ H' := by
  refine ⟨w.len, fun i c v h1 h2 => ?_, w.apart, fun a o e => g.ext _ _ (w.ext _ _ e), fun a h => ?_, fun a h => ?_⟩
  · have q := w.cell i c v h1 h2
    cases c with
    | un => trivial
    | scr K a ns => exact q
    | adr a => exact q
    | at_ p d => exact ⟨q.1, q.2.mono (fun a h => h.imp id (g.sub a)) fun a o _ e => g.ext _ _ e⟩
    | bo d =>
      obtain ⟨x, e, r⟩ := q
      exact ⟨x, e, r.mono (fun a h => h.imp id (g.sub a)) fun a o _ e => g.ext _ _ e⟩
    | fz d =>
      obtain ⟨x, e, r⟩ := q
      exact ⟨x, e, r.mono g.sub fun a o _ e => g.ext _ _ e⟩
    | ow ds =>
      obtain ⟨p, xs, e, hp, nf, n0, r⟩ := q
      refine ⟨p, xs, e, g.ext _ _ hp, fun z => ?_, n0, r.mono g.sub fun a o _ e => g.ext _ _ e⟩
      rcases g.new p z with q | ⟨q, _⟩
      · exact nf q
      · rw [hp] at q; cases q
  · rcases g.new a h with q | ⟨q, _⟩
    · exact w.new a q
    · cases z : H0 a with
      | none => rfl
      | some o => rw [w.ext _ _ z] at q; cases q
  · rcases g.new a h with q | ⟨_, y⟩
    · obtain ⟨o, e⟩ := w.dom a q
      exact ⟨o, g.ext _ _ e⟩
    · exact y
/-- what a value is, by the mode -/
def RepM (H0 : Hp) : Md → Hp → Hp → (Addr → Prop) → V → D → Prop
  | .tmp, _, H', F', v, d => ∃ p xs ds, d = .list ds ∧ v = .ref p ∧ H' p = some (.lst xs) ∧ RepAll H' F' xs ds
  | .bo, _, H', F', v, d => Rep H' (Bo H0 F') v d
  | .fz, _, H', F', v, d => Rep H' F' v d
  | .fr, H, H', F', v, d => ∃ p xs ds, d = .list ds ∧ v = .ref p ∧ H' p = some (.lst xs) ∧ RepAll H' F' xs ds ∧ H p = none ∧ ¬ F' p
theorem RepM.all {H0 H H' : Hp} {F' : Addr → Prop} {v : V} {d : D} : ∀ {md : Md}, RepM H0 md H H' F' v d → Rep H' All v d
  | .tmp, ⟨p, xs, ds, e1, e2, e3, r⟩ => by subst e1; subst e2; exact .lst trivial e3 r.all
  | .bo, r => Rep.all r
  | .fz, r => Rep.all r
  | .fr, ⟨p, xs, ds, e1, e2, e3, r, _⟩ => by subst e1; subst e2; exact .lst trivial e3 r.all
/-- a value that was told stays while the heap grows -/
theorem RepM.grow {H0 H H1 H2 : Hp} {F1 F2 : Addr → Prop} {v : V} {d : D} (g : Grow H1 F1 H2 F2) : ∀ {md : Md}, RepM H0 md H H1 F1 v d → RepM H0 md H H2 F2 v d
  | .tmp, ⟨p, xs, ds, e1, e2, e3, r⟩ => ⟨p, xs, ds, e1, e2, g.ext _ _ e3, r.mono g.sub fun _ _ _ e => g.ext _ _ e⟩
  | .bo, r => Rep.mono (fun a h => h.imp id (g.sub a)) (fun _ _ _ e => g.ext _ _ e) r
  | .fz, r => Rep.mono g.sub (fun _ _ _ e => g.ext _ _ e) r
  | .fr, ⟨p, xs, ds, e1, e2, e3, r, n, nf⟩ => ⟨p, xs, ds, e1, e2, g.ext _ _ e3, r.mono g.sub fun _ _ _ e => g.ext _ _ e, n, fun z => by
      rcases g.new p z with q | ⟨q, _⟩
      · exact nf q
      · rw [e3] at q; cases q⟩
theorem RepM.early {H0 H H1 H2 : Hp} {F F1 F2 : Addr → Prop} {v : V} {d : D} (g : Grow H F H1 F1) : ∀ {md : Md}, RepM H0 md H1 H2 F2 v d → RepM H0 md H H2 F2 v d
  | .tmp, r => r
  | .bo, r => r
  | .fz, r => r
  | .fr, ⟨p, xs, ds, e1, e2, e3, r, n, nf⟩ => ⟨p, xs, ds, e1, e2, e3, r, g.none n, nf⟩

/-! ### expressions -/
section
variable (κ : Ex → Addr)
def outE (W : WX) (H0 : Hp) (σ : St) (H : Hp) (F : Addr → Prop) (Q : VK) : Res (Md × D) → Prop
  | .ok (md, d) => ∀ v H' F', Grow H F H' F' → RepM H0 md H H' F' v d → Q v H'
  | .raise c => ∀ H' F', Grow H F H' F' → W (.ref (κ c)) none σ H'
  | .stuck => False
def tE (W : WX) (m : Ev → Res (Md × D)) : TE := fun σ H Q => ∃ H0 F ρ, Wf H0 F σ ρ H ∧ outE κ W H0 σ H F Q (m ρ)
/-- e gives what m says -/
abbrev SE (X : Cx) (W : WX) (e : Expr) (m : Ev → Res (Md × D)) : Prop := PE X e (tE κ W m)
theorem _root_.L2.PE.imp {X : Cx} {e : Expr} {t t' : TE} (h : PE X e t) (hi : ∀ σ H Q, t' σ H Q → t σ H Q) : PE X e t' := ⟨fun pins s σ H Q I q => h.run pins s σ H Q I (hi σ H Q q)⟩
theorem _root_.L2.PT.imp {X : Cx} {e : Expr} {t t' : TT} (h : PT X e t) (hi : ∀ σ H Q, t' σ H Q → t σ H Q) : PT X e t' := ⟨fun pins s σ H Q I q => h.run pins s σ H Q I (hi σ H Q q)⟩
theorem _root_.L2.PA.imp {X : Cx} {e : List Expr} {t t' : TA} (h : PA X e t) (hi : ∀ σ H Q, t' σ H Q → t σ H Q) : PA X e t' := ⟨fun pos pins s σ H Q I q => h.run pos pins s σ H Q I (hi σ H Q q)⟩
theorem _root_.L2.PS.imp {X : Cx} {e : Stmt} {t t' : TS} (h : PS X e t) (hi : ∀ D σ H, t' D σ H → t D σ H) : PS X e t' := ⟨fun pins s σ H D I q => h.run pins s σ H D I (hi D σ H q)⟩
theorem _root_.L2.PSs.imp {X : Cx} {e : List Stmt} {t t' : TS} (h : PSs X e t) (hi : ∀ D σ H, t' D σ H → t D σ H) : PSs X e t' := ⟨fun pins s σ H D I q => h.run pins s σ H D I (hi D σ H q)⟩

variable {κ} {X : Cx} {W : WX}
/-- the sequel of a part: what was told so far is grown -/
theorem outE.mono {H0 : Hp} {σ : St} {H : Hp} {F : Addr → Prop} {Q Q' : VK} {r : Res (Md × D)} (h : outE κ W H0 σ H F Q r) (hq : ∀ v H', Q v H' → Q' v H') : outE κ W H0 σ H F Q' r := by
  cases r with
  | ok a => exact fun v H' F' g r => hq _ _ (h v H' F' g r)
  | raise c => exact h
  | stuck => exact h
/-- back to the start -/
theorem outE.back {H0 : Hp} {σ : St} {H H1 : Hp} {F F1 : Addr → Prop} {Q : VK} {r : Res (Md × D)} (g : Grow H F H1 F1) (h : outE κ W H0 σ H F Q r) : outE κ W H0 σ H1 F1 Q r := by
  cases r with
  | ok a =>
    obtain ⟨md, d⟩ := a
    exact fun v H' F' g' r => h v H' F' (g.trans g') (r.early g)
  | raise c => exact fun H' F' g' => h H' F' (g.trans g')
  | stuck => exact h
end
end L2.Xq
set_option Elab.async false
set_option linter.all false
set_option maxRecDepth 100000
set_option maxHeartbeats 4000000
namespace L2.Xq
open PySem PySem.Spec PyProof.Rows

/-! ### results -/
def Res.bind {α β : Type} (r : Res α) (f : α → Res β) : Res β := match r with
  | .ok a => f a
  | .raise c => .raise c
  | .stuck => .stuck
def Res.of {α : Type} : Option α → Res α
  | some a => .ok a
  | none => .stuck
abbrev RV := Res (Md × D)
def elFz (md : Md) (ds : List D) : Bool := md != .bo || ds.all scalar
/-- a new list's mode -/
def mdL (b : Bool) : Md := if b then .fr else .bo

section
variable {H0 Hs H H' : Hp} {F F' : Addr → Prop} {v : V} {d : D} {md : Md} {ds : List D} {σ : St} {ρ : Ev}
theorem RepM.list (r : RepM H0 md Hs H F v (.list ds)) : ∃ p xs, v = .ref p ∧ H p = some (.lst xs) ∧ RepAll H (Bo H0 F) xs ds ∧ (elFz md ds = true → RepAll H F xs ds) := by
  cases md with
  | tmp =>
    obtain ⟨p, xs, es, e1, e2, e3, q⟩ := r
    cases e1
    exact ⟨p, xs, e2, e3, q.mono (fun _ h => .inr h) fun _ _ _ e => e, fun _ => q⟩
  | bo =>
    cases r with
    | lst s e q =>
      refine ⟨_, _, rfl, e, q, fun h => q.scalars ?_⟩
      simpa [elFz] using h
  | fz =>
    cases r with
    | lst s e q => exact ⟨_, _, rfl, e, q.mono (fun _ h => .inr h) fun _ _ _ e => e, fun _ => q⟩
  | fr =>
    obtain ⟨p, xs, es, e1, e2, e3, q, _⟩ := r
    cases e1
    exact ⟨p, xs, e2, e3, q.mono (fun _ h => .inr h) fun _ _ _ e => e, fun _ => q⟩
theorem RepM.int_inv {i : Int} (r : RepM H0 md Hs H F v (.int i)) : v = .int i := by
  have := r.all
  cases this with
  | int => rfl
theorem RepM.bool_inv {i : Bool} (r : RepM H0 md Hs H F v (.bool i)) : v = .bl i := by
  have := r.all
  cases this with
  | bl => rfl
theorem RepM.str_inv {i : Str} (r : RepM H0 md Hs H F v (.str i)) : v = .str i := by
  have := r.all
  cases this with
  | str => rfl
theorem RepM.ofScalar (r : Rep H All v d) (hs : scalar d = true) : RepM H0 .fz Hs H' F v d := Rep.scalar r hs
/-- a value that is frozen: it goes to what is frozen -/
theorem RepM.freeze (hw : ∀ a, F a → ∃ o, Hs a = some o) (g : Grow Hs F H F') (r : RepM H0 .fr Hs H F' v d) : ∃ F2, Grow Hs F H F2 ∧ (∀ a, F' a → F2 a) ∧ Rep H F2 v d := by
  obtain ⟨p, xs, es, e1, e2, e3, q, n, nf⟩ := r
  subst e1; subst e2
  refine ⟨fun a => F' a ∨ a = p, ⟨g.ext, fun a h => .inl (g.sub a h), fun a h => ?_⟩, fun a h => .inl h, .lst (.inr rfl) e3 (q.mono (fun _ h => .inl h) fun _ _ _ e => e)⟩
  rcases h with h | h
  · exact g.new a h
  · subst h
    exact .inr ⟨n, _, e3⟩
/-- a new list of frozen things -/
theorem newFr {xs : List V} {p : Addr} (w : Wf H0 F σ ρ H) (hp : H p = none) (r : RepAll H F xs ds) : Grow H F (upd H p (.lst xs)) F ∧ RepM H0 .fr H (upd H p (.lst xs)) F (.ref p) (.list ds) := by
  have k : ∀ a o, H a = some o → upd H p (.lst xs) a = some o := fun a o e => by rw [upd_ne (ne_of_none e hp)]; exact e
  refine ⟨⟨k, fun _ h => h, fun _ h => .inl h⟩, p, xs, ds, rfl, rfl, upd_same, r.mono (fun _ h => h) fun a o _ e => k a o e, hp, fun z => ?_⟩
  obtain ⟨o, e⟩ := w.dom p z
  rw [hp] at e; cases e
theorem newBo {xs : List V} {p : Addr} (w : Wf H0 F σ ρ H) (hp : H p = none) (r : RepAll H (Bo H0 F) xs ds) : Grow H F (upd H p (.lst xs)) (fun a => F a ∨ a = p) ∧ RepM H0 .bo H (upd H p (.lst xs)) (fun a => F a ∨ a = p) (.ref p) (.list ds) := by
  have k : ∀ a o, H a = some o → upd H p (.lst xs) a = some o := fun a o e => by rw [upd_ne (ne_of_none e hp)]; exact e
  refine ⟨⟨k, fun _ h => .inl h, fun a h => ?_⟩, .lst (.inr (.inr rfl)) upd_same (r.mono (fun _ h => h.imp id .inl) fun a o _ e => k a o e)⟩
  rcases h with h | h
  · exact .inl h
  · subst h
    exact .inr ⟨hp, _, upd_same⟩
theorem newList {xs : List V} {p : Addr} {b : Bool} (w : Wf H0 F σ ρ H) (hp : H p = none) (r : RepAll H (Bo H0 F) xs ds) (hb : b = true → RepAll H F xs ds) :
    ∃ F', Grow H F (upd H p (.lst xs)) F' ∧ RepM H0 (mdL b) H (upd H p (.lst xs)) F' (.ref p) (.list ds) := by
  cases b with
  | true => exact ⟨F, newFr w hp (hb rfl)⟩
  | false => exact ⟨_, newBo w hp r⟩
theorem newTup {xs : List V} {p : Addr} (w : Wf H0 F σ ρ H) (hp : H p = none) (r : RepAll H (Bo H0 F) xs ds) (b : Bool) (hb : b = true → RepAll H F xs ds) :
    ∃ F', Grow H F (upd H p (.tup xs)) F' ∧ RepM H0 (if b then .fz else .bo) H (upd H p (.tup xs)) F' (.ref p) (.tuple ds) := by
  have k : ∀ a o, H a = some o → upd H p (.tup xs) a = some o := fun a o e => by rw [upd_ne (ne_of_none e hp)]; exact e
  refine ⟨fun a => F a ∨ a = p, ⟨k, fun _ h => .inl h, fun a h => ?_⟩, ?_⟩
  · rcases h with h | h
    · exact .inl h
    · subst h
      exact .inr ⟨hp, _, upd_same⟩
  · cases b with
    | true => exact .tup (.inr rfl) upd_same ((hb rfl).mono (fun _ h => .inl h) fun a o _ e => k a o e)
    | false => exact .tup (.inr (.inr rfl)) upd_same (r.mono (fun _ h => h.imp id .inl) fun a o _ e => k a o e)
end

section
variable {κ : Ex → Addr} {X : Cx} {W : WX} {a b : Expr} {pos : Pos} {ma mb : Ev → RV}

/-- one part, then the rest -/
theorem outE.bind {H0 : Hp} {σ : St} {ρ : Ev} {H : Hp} {F : Addr → Prop} {Q Q' : VK} {f : Md × D → RV} (w : Wf H0 F σ ρ H) (h : outE κ W H0 σ H F Q ((ma ρ).bind f))
    (k : ∀ md d v H1 F1, Grow H F H1 F1 → RepM H0 md H H1 F1 v d → Wf H0 F1 σ ρ H1 → outE κ W H0 σ H1 F1 Q (f (md, d)) → Q' v H1) : tE κ W ma σ H Q' := by
  refine ⟨H0, F, ρ, w, ?_⟩
  cases e : ma ρ with
  | ok x =>
    obtain ⟨md, d⟩ := x
    rw [e] at h
    exact fun v H1 F1 g r => k md d v H1 F1 g r (w.grow g) (outE.back g h)
  | raise c => rw [e] at h; exact h
  | stuck => rw [e] at h; exact h

/-! #### names and constants -/
def mVar (i : Nat) : Ev → RV := fun ρ => match ρ[i]? with
  | some (.bo d) => .ok (.bo, d)
  | some (.fz d) => .ok (.fz, d)
  | some (.ow ds) => .ok (.tmp, .list ds)
  | some (.at_ _ d) => .ok (.bo, d)
  | _ => .stuck
@[simp] def mC (d : D) : Ev → RV := fun _ => .ok (.fz, d)
theorem SE.var {i : Nat} {x : Str} (hN : X.N[i]? = some x) (hv : Vis X.env.scope x) (hd : (x == ("__debug__" : Str)) = false := by decide) (hcd : (x == ("__classdict__" : Str)) = false := by decide) : SE κ X W (.Name x pos) (mVar i) := by
  refine (pe_var hN hv hd hcd).imp fun σ H Q h => ?_
  obtain ⟨H0, F, ρ, w, h⟩ := h
  unfold mVar at h
  cases e : ρ[i]? with
  | none => rw [e] at h; exact h.elim
  | some c =>
    rw [e] at h
    have hi : i < σ.length := by rw [w.len]; exact (List.getElem?_eq_some_iff.mp e).1
    have es : σ[i]? = some σ[i] := List.getElem?_eq_getElem hi
    have q := w.cell i c _ e es
    cases c with
    | un => exact h.elim
    | scr K a ns => exact h.elim
    | adr a => exact h.elim
    | at_ p d => exact ⟨_, by rw [es, q.1], h _ H F .refl q.2⟩
    | bo d =>
      obtain ⟨x, ex, r⟩ := q
      exact ⟨x, by rw [es, ex], h x H F .refl r⟩
    | fz d =>
      obtain ⟨x, ex, r⟩ := q
      exact ⟨x, by rw [es, ex], h x H F .refl r⟩
    | ow ds =>
      obtain ⟨p, xs, ex, hp, _, _, r⟩ := q
      exact ⟨.ref p, by rw [es, ex], h _ H F .refl ⟨p, xs, ds, rfl, rfl, hp, r⟩⟩
theorem SE.const {v : V} {d : D} {e : Expr} (h : PE X e (tC v)) (r : ∀ H S, Rep H S v d) : SE κ X W e (mC d) := by
  refine h.imp fun σ H Q h => ?_
  obtain ⟨H0, F, ρ, w, h⟩ := h
  exact h v H F .refl (r H F)
theorem SE.intC {i : Int} {j pos} : SE κ X W (.Constant (.int i) j pos) (mC (.int i)) := SE.const pe_int fun _ _ => .int i
theorem SE.boolC {i : Bool} {j pos} : SE κ X W (.Constant (.bool i) j pos) (mC (.bool i)) := SE.const pe_bl fun _ _ => .bl i
theorem SE.nonC {j pos} : SE κ X W (.Constant .none j pos) (mC .none) := SE.const pe_non fun _ _ => .non
theorem SE.strC {i : Str} {j pos} : SE κ X W (.Constant (.str i) j pos) (mC (.str i)) := SE.const pe_str fun _ _ => .str i
theorem SE.gint {i : Int} {x : Str} {t : Tok} (hg : Gl X x) (hm : X.mg x = some (.int i t)) (hdb : (x == ("__debug__" : Str)) = false := by decide) : SE κ X W (.Name x pos) (mC (.int i)) := SE.const (pe_glob hg hm (v := .int i) ⟨t, rfl⟩ hdb) fun _ _ => .int i

/-! #### operators on values -/
/-- what an operator's rule gives, by the data -/
def OpS (r : R2) (f : Md → D → Md → D → Option (Md × D)) : Prop :=
  ∀ (H0 Hs H : Hp) (F : Addr → Prop) (σ : St) (ρ : Ev) (x y : V) (m1 m2 : Md) (d1 d2 : D) (md : Md) (d : D) (Q : VK), f m1 d1 m2 d2 = some (md, d) → Wf H0 F σ ρ H → RepM H0 m1 Hs H F x d1 → RepM H0 m2 Hs H F y d2 →
    (∀ v H' F', Grow H F H' F' → RepM H0 md H H' F' v d → Q v H') → r x y H Q
@[simp] def mBin (f : Md → D → Md → D → Option (Md × D)) (ma mb : Ev → RV) : Ev → RV := fun ρ => (ma ρ).bind fun x => (mb ρ).bind fun y => Res.of (f x.1 x.2 y.1 y.2)
theorem op_run {r : R2} {f : Md → D → Md → D → Option (Md × D)} (hs : OpS r f) {σ : St} {H : Hp} {Q : VK} (h : tE κ W (mBin f ma mb) σ H Q) : tOp r (tE κ W ma) (tE κ W mb) σ H Q := by
  obtain ⟨H0, F, ρ, w, h⟩ := h
  refine outE.bind w h fun m1 d1 v1 H1 F1 g1 r1 w1 h1 => ?_
  refine outE.bind (f := fun y => Res.of (f m1 d1 y.1 y.2)) w1 h1 fun m2 d2 v2 H2 F2 g2 r2 w2 h2 => ?_
  cases e : f m1 d1 m2 d2 with
  | none => rw [e] at h2; exact h2.elim
  | some z =>
    obtain ⟨md, d⟩ := z
    rw [e] at h2
    exact hs H0 H H2 F2 σ ρ v1 v2 m1 m2 d1 d2 md d Q e w2 (r1.grow g2) (r2.early g1) h2
theorem SE.op {op : Operator} {r : R2} {f} (ho : OpR X (binaryOp op) r) (hs : OpS r f) (ha : SE κ X W a ma) (hb : SE κ X W b mb) : SE κ X W (.BinOp a op b pos) (mBin f ma mb) :=
  (pe_op ho ha hb).imp fun σ H Q h => op_run hs h
theorem SE.cmp {op : CmpOp} {r : R2} {f} (ho : OpR X (compareOp op) r) (hs : OpS r f) (ha : SE κ X W a ma) (hb : SE κ X W b mb) (hm : behindInMarks op b = false) : SE κ X W (.Compare a [op] [b] pos) (mBin f ma mb) :=
  (pe_cmpR ho ha hb hm).imp fun σ H Q h => op_run hs h

/-! #### tests -/
def outT (W : WX) (H0 : Hp) (σ : St) (H : Hp) (F : Addr → Prop) (Q : Bool → Hp → Prop) : Res Bool → Prop
  | .ok b => ∀ H' F', Grow H F H' F' → Q b H'
  | .raise c => ∀ H' F', Grow H F H' F' → W (.ref (κ c)) none σ H'
  | .stuck => False
def tT (W : WX) (m : Ev → Res Bool) : TT := fun σ H Q => ∃ H0 F ρ, Wf H0 F σ ρ H ∧ outT (κ := κ) W H0 σ H F Q (m ρ)
abbrev ST (κ : Ex → Addr) (X : Cx) (W : WX) (e : Expr) (m : Ev → Res Bool) : Prop := PT X e (tT (κ := κ) W m)
abbrev SW (κ : Ex → Addr) (X : Cx) (W : WX) (e : Expr) (m : Ev → Res Bool) : Prop := PW X e (tT (κ := κ) W m)
theorem outT.back {H0 : Hp} {σ : St} {H H1 : Hp} {F F1 : Addr → Prop} {Q : Bool → Hp → Prop} {r : Res Bool} (g : Grow H F H1 F1) (h : outT (κ := κ) W H0 σ H F Q r) : outT (κ := κ) W H0 σ H1 F1 Q r := by
  cases r with
  | ok a => exact fun H' F' g' => h H' F' (g.trans g')
  | raise c => exact fun H' F' g' => h H' F' (g.trans g')
  | stuck => exact h
theorem outT.bind {H0 : Hp} {σ : St} {ρ : Ev} {H : Hp} {F : Addr → Prop} {Q : Bool → Hp → Prop} {Q' : VK} {f : Md × D → Res Bool} (w : Wf H0 F σ ρ H) (h : outT (κ := κ) W H0 σ H F Q ((ma ρ).bind f))
    (k : ∀ md d v H1 F1, Grow H F H1 F1 → RepM H0 md H H1 F1 v d → Wf H0 F1 σ ρ H1 → outT (κ := κ) W H0 σ H1 F1 Q (f (md, d)) → Q' v H1) : tE κ W ma σ H Q' := by
  refine ⟨H0, F, ρ, w, ?_⟩
  cases e : ma ρ with
  | ok x =>
    obtain ⟨md, d⟩ := x
    rw [e] at h
    exact fun v H1 F1 g r => k md d v H1 F1 g r (w.grow g) (outT.back g h)
  | raise c => rw [e] at h; exact h
  | stuck => rw [e] at h; exact h
theorem outT.bindT {mt : Ev → Res Bool} {H0 : Hp} {σ : St} {ρ : Ev} {H : Hp} {F : Addr → Prop} {Q : Bool → Hp → Prop} {Q' : Bool → Hp → Prop} {f : Bool → Res Bool} (w : Wf H0 F σ ρ H) (h : outT (κ := κ) W H0 σ H F Q ((mt ρ).bind f))
    (k : ∀ b H1 F1, Grow H F H1 F1 → Wf H0 F1 σ ρ H1 → outT (κ := κ) W H0 σ H1 F1 Q (f b) → Q' b H1) : tT (κ := κ) W mt σ H Q' := by
  refine ⟨H0, F, ρ, w, ?_⟩
  cases e : mt ρ with
  | ok b =>
    rw [e] at h
    exact fun H1 F1 g => k b H1 F1 g (w.grow g) (outT.back g h)
  | raise c => rw [e] at h; exact h
  | stuck => rw [e] at h; exact h
theorem outE.bindT {mt : Ev → Res Bool} {H0 : Hp} {σ : St} {ρ : Ev} {H : Hp} {F : Addr → Prop} {Q : VK} {Q' : Bool → Hp → Prop} {f : Bool → RV} (w : Wf H0 F σ ρ H) (h : outE κ W H0 σ H F Q ((mt ρ).bind f))
    (k : ∀ b H1 F1, Grow H F H1 F1 → Wf H0 F1 σ ρ H1 → outE κ W H0 σ H1 F1 Q (f b) → Q' b H1) : tT (κ := κ) W mt σ H Q' := by
  refine ⟨H0, F, ρ, w, ?_⟩
  cases e : mt ρ with
  | ok b =>
    rw [e] at h
    exact fun H1 F1 g => k b H1 F1 g (w.grow g) (outE.back g h)
  | raise c => rw [e] at h; exact h
  | stuck => rw [e] at h; exact h
def asB : Md × D → Res Bool
  | (_, .bool b) => .ok b
  | _ => .stuck
@[simp] def mB (m : Ev → RV) : Ev → Res Bool := fun ρ => (m ρ).bind asB
theorem tE_bool {m : Ev → RV} {σ : St} {H : Hp} {Q : Bool → Hp → Prop} (h : tT (κ := κ) W (mB m) σ H Q) : tE κ W m σ H fun x H1 => ∃ c, x = .bl c ∧ Q c H1 := by
  obtain ⟨H0, F, ρ, w, h⟩ := h
  refine outT.bind w h fun md d v H1 F1 g r w1 h1 => ?_
  cases d <;> first
    | exact h1.elim
    | exact ⟨_, r.bool_inv, h1 H1 F1 .refl⟩
theorem ST.val {e : Expr} {m : Ev → RV} (h : SE κ X W e m) (he : ∀ whole, isTrue e X.env whole = (do let v ← whole; standAt e.pos; holding [v] (truthy v)) := by intro _; rfl) : ST κ X W e (mB m) :=
  (pt_val h he).imp fun σ H Q h => tE_bool h
theorem ST.cmp {op : CmpOp} {r : R2} {f} (ho : OpR X (compareOp op) r) (hs : OpS r f) (ha : SE κ X W a ma) (hb : SE κ X W b mb) (hm : behindInMarks op b = false) : ST κ X W (.Compare a [op] [b] pos) (mB (mBin f ma mb)) :=
  (pt_cmpR ho ha hb hm).imp fun σ H Q h => op_run hs (tE_bool h)
@[simp] def mNot (m : Ev → Res Bool) : Ev → Res Bool := fun ρ => (m ρ).bind fun b => .ok (!b)
@[simp] def mAnd (m n : Ev → Res Bool) : Ev → Res Bool := fun ρ => (m ρ).bind fun b => if b = true then n ρ else .ok false
@[simp] def mOr (m n : Ev → Res Bool) : Ev → Res Bool := fun ρ => (m ρ).bind fun b => if b = true then .ok true else n ρ
variable {na nb : Ev → Res Bool} {rest : List Expr}
theorem ST.not (h : ST κ X W a na) : ST κ X W (.UnaryOp .Not a pos) (mNot na) := (pt_not h).imp fun σ H Q h => by
  obtain ⟨H0, F, ρ, w, h⟩ := h
  exact outT.bindT w h fun b H1 F1 g w1 h1 => h1 H1 F1 .refl
theorem SW.pt {e : Expr} {m} (h : SW κ X W e m) : ST κ X W e m := L2.PW.pt h
theorem SW.and1 (ha : ST κ X W a na) : SW κ X W (.BoolOp .And [a] pos) na := pw_and1 ha
theorem SW.or1 (ha : ST κ X W a na) : SW κ X W (.BoolOp .Or [a] pos) na := pw_or1 ha
theorem _root_.L2.PW.imp {X : Cx} {e : Expr} {t t' : TT} (h : PW X e t) (hi : ∀ σ H Q, t' σ H Q → t σ H Q) : PW X e t' := ⟨fun wh pins s σ H Q I q => h.run wh pins s σ H Q I (hi σ H Q q)⟩
theorem SW.and (ha : ST κ X W a na) (hb : SW κ X W (.BoolOp .And (b :: rest) pos) nb) : SW κ X W (.BoolOp .And (a :: b :: rest) pos) (mAnd na nb) := (pw_and ha hb).imp fun σ H Q h => by
  obtain ⟨H0, F, ρ, w, h⟩ := h
  refine outT.bindT w h fun b H1 F1 g w1 h1 => ?_
  cases b with
  | true => exact ⟨H0, F1, ρ, w1, h1⟩
  | false => exact h1 H1 F1 .refl
theorem SW.or (ha : ST κ X W a na) (hb : SW κ X W (.BoolOp .Or (b :: rest) pos) nb) : SW κ X W (.BoolOp .Or (a :: b :: rest) pos) (mOr na nb) := (pw_or ha hb).imp fun σ H Q h => by
  obtain ⟨H0, F, ρ, w, h⟩ := h
  refine outT.bindT w h fun b H1 F1 g w1 h1 => ?_
  cases b with
  | true => exact h1 H1 F1 .refl
  | false => exact ⟨H0, F1, ρ, w1, h1⟩
/-! #### and, or, not as values -/
@[simp] def mNotV (m : Ev → RV) : Ev → RV := fun ρ => (mB m ρ).bind fun b => .ok (.fz, .bool !b)
@[simp] def mAndV (m n : Ev → RV) : Ev → RV := fun ρ => (mB m ρ).bind fun b => if b = true then n ρ else .ok (.fz, .bool false)
@[simp] def mOrV (m n : Ev → RV) : Ev → RV := fun ρ => (mB m ρ).bind fun b => if b = true then .ok (.fz, .bool true) else n ρ
theorem tE_boolE {m : Ev → RV} {σ : St} {H0 : Hp} {F} {ρ : Ev} {H : Hp} {Q : VK} {Q' : Bool → Hp → Prop} {f : Bool → RV} (w : Wf H0 F σ ρ H) (h : outE κ W H0 σ H F Q ((mB m ρ).bind f))
    (k : ∀ b H1 F1, Grow H F H1 F1 → Wf H0 F1 σ ρ H1 → outE κ W H0 σ H1 F1 Q (f b) → Q' b H1) : tE κ W m σ H fun x H1 => ∃ c, x = .bl c ∧ Q' c H1 :=
  tE_bool (outE.bindT (mt := mB m) w h k)
theorem SE.not (h : SE κ X W a ma) : SE κ X W (.UnaryOp .Not a pos) (mNotV ma) := (pe_not h).imp fun σ H Q h => by
  obtain ⟨H0, F, ρ, w, h⟩ := h
  exact tE_boolE (Q' := fun c H1 => Q (.bl (!c)) H1) w h fun b H1 F1 g w1 h1 => h1 _ H1 F1 .refl (.bl _)
theorem SE.one {op} {m} (h : SE κ X W a m) : SE κ X W (.BoolOp op [a] pos) m := pe_one h
theorem SE.and (ha : SE κ X W a ma) (hb : SE κ X W (.BoolOp .And (b :: rest) pos) mb) : SE κ X W (.BoolOp .And (a :: b :: rest) pos) (mAndV ma mb) := (pe_and ha hb).imp fun σ H Q h => by
  obtain ⟨H0, F, ρ, w, h⟩ := h
  refine tE_boolE (Q' := fun c H1 => if c = true then tE κ W mb σ H1 Q else Q (.bl false) H1) w h fun b H1 F1 g w1 h1 => ?_
  cases b with
  | true => exact ⟨H0, F1, ρ, w1, h1⟩
  | false => exact h1 _ H1 F1 .refl (.bl _)
theorem SE.or (ha : SE κ X W a ma) (hb : SE κ X W (.BoolOp .Or (b :: rest) pos) mb) : SE κ X W (.BoolOp .Or (a :: b :: rest) pos) (mOrV ma mb) := (pe_or ha hb).imp fun σ H Q h => by
  obtain ⟨H0, F, ρ, w, h⟩ := h
  refine tE_boolE (Q' := fun c H1 => if c = true then Q (.bl true) H1 else tE κ W mb σ H1 Q) w h fun b H1 F1 g w1 h1 => ?_
  cases b with
  | true => exact h1 _ H1 F1 .refl (.bl _)
  | false => exact ⟨H0, F1, ρ, w1, h1⟩
@[simp] def mIf (t : Ev → Res Bool) (m n : Ev → RV) : Ev → RV := fun ρ => (t ρ).bind fun b => if b = true then m ρ else n ρ
theorem SE.ifE {c : Expr} {tc : Ev → Res Bool} (hc : ST κ X W c tc) (ha : SE κ X W a ma) (hb : SE κ X W b mb) : SE κ X W (.IfExp c a b pos) (mIf tc ma mb) := (pe_ifExp hc ha hb).imp fun σ H Q h => by
  obtain ⟨H0, F, ρ, w, h⟩ := h
  refine outE.bindT (mt := tc) w h fun b H1 F1 g w1 h1 => ?_
  cases b with
  | true => exact ⟨H0, F1, ρ, w1, h1⟩
  | false => exact ⟨H0, F1, ρ, w1, h1⟩
/-! #### a < b < c -/
@[simp] def mChain (f g : Md → D → Md → D → Option (Md × D)) (ma mb mc : Ev → RV) : Ev → RV := fun ρ => (ma ρ).bind fun x => (mb ρ).bind fun y => match f x.1 x.2 y.1 y.2 with
  | some (_, .bool true) => (mc ρ).bind fun z => Res.of (g y.1 y.2 z.1 z.2)
  | some (_, .bool false) => .ok (.fz, .bool false)
  | _ => .stuck
theorem chain_run {mc : Ev → RV} {r r' : R2} {f g} (hf : OpS r f) (hg : OpS r' g) {σ : St} {H : Hp} {Q : VK} (h : tE κ W (mChain f g ma mb mc) σ H Q) : tChain r r' (tE κ W ma) (tE κ W mb) (tE κ W mc) σ H Q := by
  obtain ⟨H0, F, ρ, w, h⟩ := h
  refine outE.bind w h fun m1 d1 v1 H1 F1 g1 r1 w1 h1 => ?_
  refine outE.bind w1 h1 fun m2 d2 v2 H2 F2 g2 r2 w2 h2 => ?_
  simp only [] at h2
  cases e : f m1 d1 m2 d2 with
  | none => rw [e] at h2; exact h2.elim
  | some z =>
    obtain ⟨md, d⟩ := z
    rw [e] at h2
    refine hf H0 H H2 F2 σ ρ v1 v2 m1 m2 d1 d2 md d _ e w2 (r1.grow g2) (r2.early g1) fun v H' F' g3 r3 => ?_
    cases d with
    | bool k =>
      refine ⟨k, r3.bool_inv, ?_⟩
      have h3 := outE.back g3 h2
      cases k with
      | true =>
        refine outE.bind (w2.grow g3) h3 fun m4 d4 v4 H4 F4 g4 r4 w4 h4 => ?_
        cases e4 : g m2 d2 m4 d4 with
        | none => simp only [e4] at h4; exact h4.elim
        | some z4 =>
          obtain ⟨md4, dd4⟩ := z4
          simp only [e4] at h4
          exact hg H0 H1 H4 F4 σ ρ v2 v4 m2 m4 d2 d4 md4 dd4 Q e4 w4 ((r2.grow g3).grow g4) (r4.early (g2.trans g3)) h4
      | false => exact h3 _ H' F' .refl (.bl _)
    | _ => exact h2.elim
theorem SE.chain {c : Expr} {mc : Ev → RV} {op op' : CmpOp} {r r' : R2} {f g} (ho : OpR X (compareOp op) r) (hf : OpS r f) (ho' : OpR X (compareOp op') r') (hg : OpS r' g) (ha : SE κ X W a ma) (hb : SE κ X W b mb) (hc : SE κ X W c mc)
    (hm : lastMarks [op, op'] [b, c] = false := by with_unfolding_all rfl) : SE κ X W (.Compare a [op, op'] [b, c] pos) (mChain f g ma mb mc) := (pe_chain ho ho' ha hb hc hm).imp fun σ H Q h => chain_run hf hg h
theorem ST.chain {c : Expr} {mc : Ev → RV} {op op' : CmpOp} {r r' : R2} {f g} (ho : OpR X (compareOp op) r) (hf : OpS r f) (ho' : OpR X (compareOp op') r') (hg : OpS r' g) (ha : SE κ X W a ma) (hb : SE κ X W b mb) (hc : SE κ X W c mc)
    (hm : lastMarks [op, op'] [b, c] = false := by with_unfolding_all rfl) : ST κ X W (.Compare a [op, op'] [b, c] pos) (mB (mChain f g ma mb mc)) := (pt_chain ho ho' ha hb hc hm).imp fun σ H Q h => chain_run hf hg (tE_bool h)
end
end L2.Xq
set_option Elab.async false
set_option linter.all false
set_option maxRecDepth 100000
set_option maxHeartbeats 4000000
namespace L2.Xq
open PySem PySem.Spec PyProof.Rows
open Sem (wp)
theorem slot_type_ne : Slot "type" (cmpInfo .NotEq).2.1 "object.__ne__" :=
  .of (owner := "object") (n := "__ne__") (by rw [typeLookup_type, builtinLookup_eq_fast]; kernel_rfl) (by decide +kernel) (by decide +kernel) (by decide +kernel)
    (by first | exact .inl (by decide +kernel) | exact .inr (by decide +kernel)) (by rw [isSubtype_type]; kernel_rfl)
section
variable {prog : Program} {w : World} {A : Around} {E : Value → Shared → Prop} {s : Shared} {Q : Value → Shared → Prop}
theorem special_eq_ty {X Y : String} {Q : Option Value → Shared → Prop} (hX : ∀ s' : Shared, s'.TypeIs (.type X) "type") 
    (h : Q (some (if (Value.type X == Value.type Y) = true then .bool true else .notImplemented)) s) :
    wpAny (model prog w) A (callSpecialIfBound? (.type X) "__eq__" [.type Y]) Q E s := by
  refine wpAny_callSpecialIfBound?_slot (hX s) TypeEq.slot_type_eq ?_
  cases k : (Value.type X == Value.type Y) with
  | true =>
    rw [k] at h
    exact call_gives TypeEq.slot_type_eq (hX s) F.entry_object_eq (F.args_object_eq_2 _ _) (TypeEq.object_eq_same rfl k) h
  | false =>
    rw [k] at h
    exact call_gives TypeEq.slot_type_eq (hX s) F.entry_object_eq (F.args_object_eq_2 _ _) (TypeEq.object_eq_other rfl k) h
theorem objNe_ty {X Y : String} {Q : Fin → Shared → Prop} (hu : A.units < cLine) (hX : ∀ s' : Shared, s'.TypeIs (.type X) "type")
    (h : Q (.done (.ret (if (Value.type X == Value.type Y) = true then .bool false else .notImplemented))) s) :
    wpAny (model prog w) A (Builtin.«object.__ne__» ⟨[.type X, .type Y], []⟩) Q E s := by
  unfold Builtin.«object.__ne__»
  cases k : (Value.type X == Value.type Y) with
  | true =>
    rw [k] at h
    repeat (first | with_reducible refine wpAny_cRoomFor hu ?_ | (refine wpAny_bind (m := callSpecialIfBound? (.type X) (Str.ofString "__eq__") [.type Y]) (special_eq_ty hX ?_); rw [k]; simp only [if_true]) | (refine wpAny_bind (m := truthy (.bool _)) (wpAny_truthy_bool ?_)) | wp_step)
    exact h
  | false =>
    rw [k] at h
    repeat (first | with_reducible refine wpAny_cRoomFor hu ?_ | (refine wpAny_bind (m := callSpecialIfBound? (.type X) (Str.ofString "__eq__") [.type Y]) (special_eq_ty hX ?_); rw [k]; simp only [Bool.false_eq_true, if_false]) | wp_step)
    exact h
theorem ne_type {X Y : String} (hu : A.units + 1 < cLine) (hX : ∀ s' : Shared, s'.TypeIs (.type X) "type") (hY : ∀ s' : Shared, s'.TypeIs (.type Y) "type") (h : Q (.bool (!(Value.type X == Value.type Y))) s) :
    wpAny (model prog w) A (compareOp .NotEq (.type X) (.type Y)) Q E s := by
  show wpAny _ A (richCompare .NotEq _ _) Q E s
  have hc : ∀ X Y : String, (∀ s' : Shared, s'.TypeIs (.type X) "type") → ∀ (s : Shared) (Q : Value → Shared → Prop), Q (if (Value.type X == Value.type Y) = true then .bool false else .notImplemented) s →
      wpAny (model prog w) A (call (.builtin "object.__ne__") [.type X, .type Y]) Q E s := fun X Y hX s Q h =>
    wpAny_call (codeAny_call_builtin slot_type_ne.plain F.cmpEntry_ne (slot_type_ne.check _ _ _ _ _ _ _ _ (hX s) (F.cmpArgs_ne _ _) (objNe_ty (A := A.in1) (by exact hu) hX h)))
  cases k : (Value.type X == Value.type Y) with
  | true =>
    rw [k] at h
    refine wpAny_richCompare_same (T := "type") (hX s) (hY s) slot_type_ne ?_
    refine hc X Y hX s _ ?_
    rw [k]
    exact ⟨(by intro e; cases e), h⟩
  | false =>
    rw [k] at h
    have k' : (Value.type Y == Value.type X) = false := by
      rw [Bool.eq_false_iff] at k ⊢
      intro e
      exact k (by rw [beq_iff_eq] at e ⊢; exact e.symm)
    rcases hi : cmpInfo CmpOp.NotEq with ⟨sym, f, r⟩
    have h1 := slot_type_ne
    have h2 : Slot "type" (cmpInfo .NotEq).2.2 "object.__ne__" := slot_type_ne
    rw [hi] at h1 h2
    simp only [richCompare, hi, (hX s).oneThing_none]
    try with_reducible refine wpAny_holding ?_
    refine wpAny_bind (wpAny_cRoomFor_or (.inl rfl) ?_)
    refine wpAny_bind (wpAny_typeOf (hX s) (wpAny_bind (wpAny_typeOf (hY s) ?_)))
    simp only [bne_self_eq_false, Bool.false_eq_true, if_false, pure_bind, Bool.not_false, if_true]
    refine wpAny_bind (m := tryCompare (.type X) _ (.type Y)) (wpAny_tryCompare_declines (hX s) h1 (hc X Y hX s _ ?_))
    rw [k]
    refine ⟨rfl, ?_⟩
    refine wpAny_bind (m := tryCompare (.type Y) _ (.type X)) (wpAny_tryCompare_declines (hY s) h2 (hc Y X hY s _ ?_))
    rw [k']
    refine ⟨rfl, ?_⟩
    have hk : isSame (.type X) (.type Y) = pure false := by rw [isSame_plain rfl, k]
    refine wpAny_bind (wpAny_rule (wpAny_bind (wpAny_of_eq hk (wpAny_pure h))))
end
end L2.Xq
set_option Elab.async false
set_option linter.all false
set_option maxRecDepth 100000
set_option maxHeartbeats 4000000
namespace L2.Xq
open PySem PySem.Spec PyProof.Rows
abbrev F2 := Md → D → Md → D → Option (Md × D)
/-! ### the operators -/
def fAdd : F2 := fun m1 d1 m2 d2 => match d1, d2 with
  | .int i, .int j => some (.fz, .int (i + j))
  | .list xs, .list ys => if xs.length + ys.length ≤ 16777216 then some (mdL (elFz m1 xs && elFz m2 ys), .list (xs ++ ys)) else none
  | _, _ => none
def fSub : F2 := fun _ d1 _ d2 => match d1, d2 with
  | .int i, .int j => some (.fz, .int (i - j))
  | _, _ => none
def inW (i : Int) : Bool := decide (-(2 ^ 64) < i) && decide (i < 2 ^ 64)
def fMul : F2 := fun m1 d1 _ d2 => match d1, d2 with
  | .int i, .int j => if (inW i || inW j) = true then some (.fz, .int (i * j)) else none
  | .list xs, .int k => if k ≤ 16777216 ∧ -(2 ^ 63) ≤ k ∧ xs.length * k.toNat ≤ 16777216 then some (mdL (elFz m1 xs), .list (List.replicate k.toNat xs).flatten) else none
  | _, _ => none
def fFdiv : F2 := fun _ d1 _ d2 => match d1, d2 with
  | .int i, .int j => if j ≠ 0 ∧ j.natAbs < 1073741824 then some (.fz, .int (i.fdiv j)) else none
  | _, _ => none
def fMod : F2 := fun _ d1 _ d2 => match d1, d2 with
  | .int i, .int j => if j ≠ 0 then some (.fz, .int (i.fmod j)) else none
  | _, _ => none
def fPow : F2 := fun _ d1 _ d2 => match d1, d2 with
  | .int i, .int j => if 0 ≤ j ∧ j ≤ 1000000 ∧ i.natAbs < 2 ^ 64 then some (.fz, .int (i ^ j.toNat)) else none
  | _, _ => none
def fCmp (p : Int → Int → Bool) : F2 := fun _ d1 _ d2 => match d1, d2 with
  | .int i, .int j => some (.fz, .bool (p i j))
  | _, _ => none
def fEq : F2 := fun _ d1 _ d2 => if (SeqAt.shaped d1 && SeqAt.shaped d2) = true then some (.fz, .bool (PyData.eqv d1 d2)) else none
def fNe : F2 := fun _ d1 _ d2 => if (SeqAt.shaped d1 && SeqAt.shaped d2) = true then some (.fz, .bool (!PyData.eqv d1 d2)) else none
def isNone : D → Bool
  | .none => true
  | _ => false
def fIsN : F2 := fun _ d1 _ d2 => match d2 with
  | .none => some (.fz, .bool (isNone d1))
  | _ => none
def fNotN : F2 := fun _ d1 _ d2 => match d2 with
  | .none => some (.fz, .bool (!isNone d1))
  | _ => none
def fIn : F2 := fun _ d1 _ d2 => match d2 with
  | .list ds => if (SeqAt.shaped d1 && SeqAt.shaped (.list ds)) = true then some (.fz, .bool (ds.any fun z => PyData.eqv z d1)) else none
  | _ => none
def fNotIn : F2 := fun _ d1 _ d2 => match d2 with
  | .list ds => if (SeqAt.shaped d1 && SeqAt.shaped (.list ds)) = true then some (.fz, .bool (!ds.any fun z => PyData.eqv z d1)) else none
  | _ => none
def rOr (r r' : R2) : R2 := fun x y H Q => r x y H Q ∨ r' x y H Q

mutual
theorem noDict_of : ∀ d : D, d.canLay0 = true → noDict d = true
  | .none, _ => rfl
  | .bool _, _ => rfl
  | .int _, _ => rfl
  | .str _, _ => rfl
  | .list xs, h => by
    simp only [noDict]
    exact noDicts_of xs (by simpa [PyData.canLay0] using h)
  | .tuple xs, h => by
    simp only [noDict]
    exact noDicts_of xs (by simpa [PyData.canLay0] using h)
  | .dict _, h => by simp [PyData.canLay0] at h
theorem noDicts_of : ∀ d : List D, PyData.canLayAll0 d = true → noDicts d = true
  | [], _ => rfl
  | d :: r, h => by
    simp only [PyData.canLayAll0, Bool.and_eq_true] at h
    simp only [noDicts, Bool.and_eq_true]
    exact ⟨noDict_of d h.1, noDicts_of r h.2⟩
end
theorem noDict_shaped {d : D} (h : SeqAt.shaped d = true) : noDict d = true := noDict_of d (SeqAt.canLay_of_shaped h)

section
variable {X : Cx}
theorem sl16 : sizeLine = 16777216 := sizeLine_eq
theorem ops_I {C : Int → Int → Prop} {g : Int → Int → D} {gv : Int → Int → V} {f : F2} (hf : ∀ m1 d1 m2 d2 md d, f m1 d1 m2 d2 = some (md, d) → ∃ i j, d1 = .int i ∧ d2 = .int j ∧ md = .fz ∧ d = g i j ∧ C i j)
    (hg : ∀ H S i j, Rep H S (gv i j) (g i j)) : OpS (rI C gv) f := fun H0 Hs H F σ ρ x y m1 m2 d1 d2 md d Q e w r1 r2 q => by
  obtain ⟨i, j, rfl, rfl, rfl, rfl, hc⟩ := hf _ _ _ _ _ _ e
  exact ⟨i, j, r1.int_inv, r2.int_inv, hc, q _ H F .refl (hg _ _ i j)⟩
theorem ops_I0 {g : Int → Int → D} {gv : Int → Int → V} {f : F2} (hf : ∀ m1 d1 m2 d2 md d, f m1 d1 m2 d2 = some (md, d) → ∃ i j, d1 = .int i ∧ d2 = .int j ∧ md = .fz ∧ d = g i j)
    (hg : ∀ H S i j, Rep H S (gv i j) (g i j)) : OpS (rI0 gv) f := fun H0 Hs H F σ ρ x y m1 m2 d1 d2 md d Q e w r1 r2 q => by
  obtain ⟨i, j, rfl, rfl, rfl, rfl⟩ := hf _ _ _ _ _ _ e
  exact ⟨i, j, r1.int_inv, r2.int_inv, q _ H F .refl (hg _ _ i j)⟩
theorem s_add : OpS (rOr (rI0 fun i j => .int (i + j)) rCat) fAdd := fun H0 Hs H F σ ρ x y m1 m2 d1 d2 md d Q e w r1 r2 q => by
  unfold fAdd at e
  split at e
  · rename_i i j
    cases e
    exact .inl ⟨i, j, r1.int_inv, r2.int_inv, q _ H F .refl (.int _)⟩
  · rename_i xs ys
    split at e
    · rename_i hl
      cases e
      obtain ⟨p, vs, rfl, hp, a1, a2⟩ := r1.list
      obtain ⟨p', us, rfl, hp', b1, b2⟩ := r2.list
      refine .inr ⟨p, p', vs, us, rfl, rfl, hp, hp', by rw [a1.length, b1.length, sl16]; exact hl, fun z hz => ?_⟩
      obtain ⟨F', g, r⟩ := newList (b := elFz m1 xs && elFz m2 ys) w hz (a1.append b1) fun h => by
        rw [Bool.and_eq_true] at h
        exact (a2 h.1).append (b2 h.2)
      exact q _ _ F' g r
    · cases e
  · cases e
theorem o_add : OpR X (binaryOp .Add) (rOr (rI0 fun i j => .int (i + j)) rCat) := op_add.or op_cat
theorem s_sub : OpS (rI0 fun i j => .int (i - j)) fSub := ops_I0 (g := fun i j => .int (i - j)) (fun m1 d1 m2 d2 md d e => by
  unfold fSub at e
  split at e
  · cases e; exact ⟨_, _, rfl, rfl, rfl, rfl⟩
  · cases e) fun _ _ _ _ => .int _
theorem s_mul : OpS (rOr (rI CMul fun i j => .int (i * j)) rRep) fMul := fun H0 Hs H F σ ρ x y m1 m2 d1 d2 md d Q e w r1 r2 q => by
  unfold fMul at e
  split at e
  · rename_i i j
    split at e
    · rename_i hc
      cases e
      refine .inl ⟨i, j, r1.int_inv, r2.int_inv, ?_, q _ H F .refl (.int _)⟩
      simp only [inW, Bool.or_eq_true, Bool.and_eq_true, decide_eq_true_eq] at hc
      exact hc
    · cases e
  · rename_i xs k
    split at e
    · rename_i hl
      cases e
      obtain ⟨p, vs, rfl, hp, a1, a2⟩ := r1.list
      refine .inr ⟨p, k, vs, rfl, r2.int_inv, hp, hl.2.1, by omega, by rw [a1.length, sl16]; exact hl.2.2, fun z hz => ?_⟩
      obtain ⟨F', g, r⟩ := newList (b := elFz m1 xs) w hz (a1.rep k.toNat) fun h => (a2 h).rep k.toNat
      exact q _ _ F' g r
    · cases e
  · cases e
theorem o_mul : OpR X (binaryOp .Mult) (rOr (rI CMul fun i j => .int (i * j)) rRep) := op_mul.or op_rep
theorem s_fdiv : OpS (rI CDivN fun i j => .int (i.fdiv j)) fFdiv := ops_I (g := fun i j => .int (i.fdiv j)) (fun m1 d1 m2 d2 md d e => by
  unfold fFdiv at e
  split at e
  · split at e
    · rename_i h; cases e; exact ⟨_, _, rfl, rfl, rfl, rfl, h⟩
    · cases e
  · cases e) fun _ _ _ _ => .int _
theorem s_mod : OpS (rI (fun _ j => j ≠ 0) fun i j => .int (i.fmod j)) fMod := ops_I (g := fun i j => .int (i.fmod j)) (fun m1 d1 m2 d2 md d e => by
  unfold fMod at e
  split at e
  · split at e
    · rename_i h; cases e; exact ⟨_, _, rfl, rfl, rfl, rfl, h⟩
    · cases e
  · cases e) fun _ _ _ _ => .int _
theorem s_pow : OpS (rI CPow fun i j => .int (i ^ j.toNat)) fPow := ops_I (g := fun i j => .int (i ^ j.toNat)) (fun m1 d1 m2 d2 md d e => by
  unfold fPow at e
  split at e
  · split at e
    · rename_i h; cases e; exact ⟨_, _, rfl, rfl, rfl, rfl, h⟩
    · cases e
  · cases e) fun _ _ _ _ => .int _
theorem s_cmp (p : Int → Int → Bool) : OpS (rI0 fun i j => .bl (p i j)) (fCmp p) := ops_I0 (g := fun i j => .bool (p i j)) (fun m1 d1 m2 d2 md d e => by
  unfold fCmp at e
  split at e
  · cases e; exact ⟨_, _, rfl, rfl, rfl, rfl⟩
  · cases e) fun _ _ _ _ => .bl _
theorem s_eq {K : PySem.W.Frag} : OpS (rEqD K) fEq := fun H0 Hs H F σ ρ x y m1 m2 d1 d2 md d Q e w r1 r2 q => by
  unfold fEq at e
  split at e
  · rename_i h
    cases e
    rw [Bool.and_eq_true] at h
    exact ⟨d1, d2, r1.all.dp (noDict_shaped h.1), r2.all.dp (noDict_shaped h.2), h.1, h.2, q _ H F .refl (.bl _)⟩
  · cases e
theorem s_ne {K : PySem.W.Frag} : OpS (rNeD K) fNe := fun H0 Hs H F σ ρ x y m1 m2 d1 d2 md d Q e w r1 r2 q => by
  unfold fNe at e
  split at e
  · rename_i h
    cases e
    rw [Bool.and_eq_true] at h
    exact ⟨d1, d2, r1.all.dp (noDict_shaped h.1), r2.all.dp (noDict_shaped h.2), h.1, h.2, q _ H F .refl (.bl _)⟩
  · cases e
theorem isNone_rep {H : Hp} {S : Addr → Prop} {v : V} {d : D} (r : Rep H S v d) : decide (v = V.non) = isNone d := by
  cases r <;> rfl
theorem none_inv {H : Hp} {S : Addr → Prop} {v : V} (r : Rep H S v .none) : v = .non := by cases r; rfl
theorem s_isN : OpS (fun x y H Q => y = .non ∧ Q (.bl (decide (x = .non))) H) fIsN := fun H0 Hs H F σ ρ x y m1 m2 d1 d2 md d Q e w r1 r2 q => by
  unfold fIsN at e
  split at e
  · cases e
    exact ⟨none_inv r2.all, q _ H F .refl (by rw [isNone_rep r1.all]; exact .bl _)⟩
  · cases e
theorem s_notN : OpS (fun x y H Q => y = .non ∧ Q (.bl (!decide (x = .non))) H) fNotN := fun H0 Hs H F σ ρ x y m1 m2 d1 d2 md d Q e w r1 r2 q => by
  unfold fNotN at e
  split at e
  · cases e
    exact ⟨none_inv r2.all, q _ H F .refl (by rw [isNone_rep r1.all]; exact .bl _)⟩
  · cases e
theorem s_in {K : PySem.W.Frag} : OpS (rInD K) fIn := fun H0 Hs H F σ ρ x y m1 m2 d1 d2 md d Q e w r1 r2 q => by
  unfold fIn at e
  split at e
  · split at e
    · rename_i h
      cases e
      rw [Bool.and_eq_true] at h
      exact ⟨d1, _, r1.all.dp (noDict_shaped h.1), r2.all.dp (noDict_shaped h.2), h.1, h.2, q _ H F .refl (.bl _)⟩
    · cases e
  · cases e
theorem s_notIn {K : PySem.W.Frag} : OpS (rNotInD K) fNotIn := fun H0 Hs H F σ ρ x y m1 m2 d1 d2 md d Q e w r1 r2 q => by
  unfold fNotIn at e
  split at e
  · split at e
    · rename_i h
      cases e
      rw [Bool.and_eq_true] at h
      exact ⟨d1, _, r1.all.dp (noDict_shaped h.1), r2.all.dp (noDict_shaped h.2), h.1, h.2, q _ H F .refl (.bl _)⟩
    · cases e
  · cases e
/-! ### items, slices -/
def elMd (m : Md) (d : D) : Md := if m = .bo ∧ scalar d = false then .bo else .fz
def ixD (n : Nat) (i : Int) : Option Nat := if 0 ≤ i then (if i < n then some i.toNat else none) else if -(n : Int) ≤ i then some (i + n).toNat else none
def fIx : F2 := fun m1 d1 _ d2 => match d1, d2 with
  | .list xs, .int i => ((ixN xs.length i).bind fun j => xs[j]?).map fun d => (elMd m1 d, d)
  | .tuple xs, .int i => ((ixN xs.length i).bind fun j => xs[j]?).map fun d => (elMd m1 d, d)
  | _, _ => none
theorem el_rep {H0 H : Hp} {F : Addr → Prop} {Hs : Hp} {m : Md} {d : D} {v : V} (r1 : Rep H (Bo H0 F) v d) (r2 : m ≠ .bo → Rep H F v d) : RepM H0 (elMd m d) Hs H F v d := by
  unfold elMd
  split
  · exact r1
  · rename_i h
    by_cases hm : m = .bo
    · have hs : scalar d = true := by
        cases e : scalar d with
        | true => rfl
        | false => exact absurd ⟨hm, e⟩ h
      exact r1.scalar hs
    · exact r2 hm
theorem elFz_ne {m : Md} {ds : List D} (h : m ≠ .bo) : elFz m ds = true := by
  unfold elFz
  simp [h]
theorem s_ix {K : PySem.W.Frag} : OpS (rOr (rIxL K) (rIxT K)) fIx := fun H0 Hs H F σ ρ x y m1 m2 d1 d2 md d Q e w r1 r2 q => by
  unfold fIx at e
  split at e
  · rename_i xs i
    obtain ⟨d', e1, e2⟩ := Option.map_eq_some_iff.mp e
    cases e2
    obtain ⟨p, vs, rfl, hp, a1, a2⟩ := r1.list
    obtain ⟨j, ej, eg⟩ := Option.bind_eq_some_iff.mp e1
    obtain ⟨v, ev, rv⟩ := a1.get eg
    refine .inl ⟨p, vs, i, v, rfl, r2.int_inv, .inl (.inl hp), ?_, q _ H F .refl (el_rep rv fun hm => ?_)⟩
    · unfold atI
      rw [a1.length, ej]
      exact ev
    · obtain ⟨v', ev', rv'⟩ := (a2 (elFz_ne hm)).get eg
      rw [ev] at ev'; cases ev'
      exact rv'
  · rename_i xs i
    obtain ⟨d', e1, e2⟩ := Option.map_eq_some_iff.mp e
    cases e2
    obtain ⟨j, ej, eg⟩ := Option.bind_eq_some_iff.mp e1
    have key : ∃ p vs, x = .ref p ∧ H p = some (.tup vs) ∧ RepAll H (Bo H0 F) vs xs ∧ (m1 ≠ .bo → RepAll H F vs xs) := by
      cases m1 with
      | tmp => obtain ⟨_, _, _, e, _⟩ := r1; cases e
      | fr => obtain ⟨_, _, _, e, _⟩ := r1; cases e
      | bo =>
        cases r1 with
        | tup s e r => exact ⟨_, _, rfl, e, r, fun h => absurd rfl h⟩
      | fz =>
        cases r1 with
        | tup s e r => exact ⟨_, _, rfl, e, r.mono (fun _ h => .inr h) fun _ _ _ e => e, fun _ => r⟩
    obtain ⟨p, vs, rfl, hp, a1, a2⟩ := key
    obtain ⟨v, ev, rv⟩ := a1.get eg
    refine .inr ⟨p, vs, i, v, rfl, r2.int_inv, .inl (.inl hp), ?_, q _ H F .refl (el_rep rv fun hm => ?_)⟩
    · unfold atI
      rw [a1.length, ej]
      exact ev
    · obtain ⟨v', ev', rv'⟩ := (a2 hm).get eg
      rw [ev] at ev'; cases ev'
      exact rv'
  · cases e
theorem o_ix : IxR X (rOr (rIxL X.K) (rIxT X.K)) := ix_list.or ix_tup
end
section
variable {κ : Ex → Addr} {X : Cx} {W : WX} {a b : Expr} {pos : Pos} {ma mb : Ev → RV}
theorem SE.ix (ha : SE κ X W a ma) (hb : SE κ X W b mb) (hs : PlainIx b) : SE κ X W (.Subscript a b pos) (mBin fIx ma mb) :=
  (pe_ix o_ix ha hb hs).imp fun σ H Q h => op_run s_ix h
/-- parts of a slice -/
abbrev RO := Res (Option Int)
def outO (W : WX) (H0 : Hp) (σ : St) (H : Hp) (F : Addr → Prop) (Q : Option Int → Hp → Prop) : RO → Prop
  | .ok b => ∀ H' F', Grow H F H' F' → Q b H'
  | .raise c => ∀ H' F', Grow H F H' F' → W (.ref (κ c)) none σ H'
  | .stuck => False
def tO' (W : WX) (m : Ev → RO) : TO := fun σ H Q => ∃ H0 F ρ, Wf H0 F σ ρ H ∧ outO (κ := κ) W H0 σ H F Q (m ρ)
abbrev SO (κ : Ex → Addr) (X : Cx) (W : WX) (e : Option Expr) (m : Ev → RO) : Prop := PO X e (tO' (κ := κ) W m)
theorem _root_.L2.PO.imp {X : Cx} {e : Option Expr} {t t' : TO} (h : PO X e t) (hi : ∀ σ H Q, t' σ H Q → t σ H Q) : PO X e t' := ⟨fun pins s σ H Q I q => h.run pins s σ H Q I (hi σ H Q q)⟩
def mPart (m : Ev → RV) : Ev → RO := fun ρ => (m ρ).bind fun x => match x.2 with
  | .int i => .ok (some i)
  | _ => .stuck
theorem outO.back {H0 : Hp} {σ : St} {H H1 : Hp} {F F1 : Addr → Prop} {Q : Option Int → Hp → Prop} {r : RO} (g : Grow H F H1 F1) (h : outO (κ := κ) W H0 σ H F Q r) : outO (κ := κ) W H0 σ H1 F1 Q r := by
  cases r with
  | ok a => exact fun H' F' g' => h H' F' (g.trans g')
  | raise c => exact fun H' F' g' => h H' F' (g.trans g')
  | stuck => exact h
theorem SO.no : SO κ X W none (fun _ => .ok none) := po_none.imp fun σ H Q h => by
  obtain ⟨H0, F, ρ, w, h⟩ := h
  exact h H F .refl
theorem SO.yes (ha : SE κ X W a ma) : SO κ X W (some a) (mPart ma) := (po_some ha).imp fun σ H Q h => by
  obtain ⟨H0, F, ρ, w, h⟩ := h
  refine ⟨H0, F, ρ, w, ?_⟩
  unfold mPart at h
  cases e : ma ρ with
  | ok x =>
    obtain ⟨md, d⟩ := x
    rw [e] at h
    intro v H1 F1 g r
    cases d <;> first
      | exact h.elim
      | exact ⟨_, r.int_inv, h H1 F1 g⟩
  | raise c => rw [e] at h; exact h
  | stuck => rw [e] at h; exact h
def cutD (xs : List D) (lo hi : Option Int) : List D := (xs.drop (HT.sIx xs.length 0 lo)).take (HT.sIx xs.length xs.length hi - HT.sIx xs.length 0 lo)
def mSl (ma : Ev → RV) (ml mh : Ev → RO) : Ev → RV := fun ρ => (ma ρ).bind fun x => (ml ρ).bind fun l => (mh ρ).bind fun h => match x.2 with
  | .list xs => .ok (mdL (elFz x.1 (cutD xs l h)), .list (cutD xs l h))
  | _ => .stuck
theorem outE.bindO {mo : Ev → RO} {H0 : Hp} {σ : St} {ρ : Ev} {H : Hp} {F : Addr → Prop} {Q : VK} {Q' : Option Int → Hp → Prop} {f : Option Int → RV} (w : Wf H0 F σ ρ H) (h : outE κ W H0 σ H F Q ((mo ρ).bind f))
    (k : ∀ b H1 F1, Grow H F H1 F1 → Wf H0 F1 σ ρ H1 → outE κ W H0 σ H1 F1 Q (f b) → Q' b H1) : tO' (κ := κ) W mo σ H Q' := by
  refine ⟨H0, F, ρ, w, ?_⟩
  cases e : mo ρ with
  | ok b =>
    rw [e] at h
    exact fun H1 F1 g => k b H1 F1 g (w.grow g) (outE.back g h)
  | raise c => rw [e] at h; exact h
  | stuck => rw [e] at h; exact h
theorem cutV_map {xs : List V} {lo hi : Option Int} {H : Hp} {S : Addr → Prop} {ds : List D} (r : RepAll H S xs ds) : RepAll H S (cutV xs lo hi) (cutD ds lo hi) := by
  unfold cutV cutD
  rw [r.length]
  exact (r.drop _).take _
theorem SE.slice {lo hi : Option Expr} {p2 : Pos} {ml mh : Ev → RO} (ha : SE κ X W a ma) (hl : SO κ X W lo ml) (hh : SO κ X W hi mh) : SE κ X W (.Subscript a (.Slice lo hi none p2) pos) (mSl ma ml mh) :=
  (pe_slice sl_list ha hl hh).imp fun σ H Q h => by
    obtain ⟨H0, F, ρ, w, h⟩ := h
    refine outE.bind w h fun md d v H1 F1 g1 r1 w1 h1 => ?_
    refine outE.bindO w1 h1 fun l H2 F2 g2 w2 h2 => ?_
    refine outE.bindO w2 h2 fun u H3 F3 g3 w3 h3 => ?_
    cases d with
    | list ds =>
      obtain ⟨p, vs, rfl, hp, a1, a2⟩ := ((r1.grow g2).grow g3).list
      refine ⟨p, vs, rfl, .inl (.inl hp), fun z hz => ?_⟩
      obtain ⟨F', g, r⟩ := newList (b := elFz md (cutD ds l u)) w3 hz (cutV_map (lo := l) (hi := u) a1) fun h => by
        unfold elFz at h
        by_cases hm : md = .bo
        · subst hm
          exact (cutV_map a1).scalars (by simpa using h)
        · exact cutV_map (a2 (elFz_ne hm))
      exact h3 _ _ F' g r
    | _ => exact h3.elim
end
end L2.Xq
set_option Elab.async false
set_option linter.all false
set_option maxRecDepth 100000
set_option maxHeartbeats 4000000
namespace L2.Xq
open PySem PySem.Spec PyProof.Rows
/-! ### lists of arguments -/
def RepMs (H0 Hs H : Hp) (F : Addr → Prop) : List V → List (Md × D) → Prop
  | [], [] => True
  | v :: vs, x :: xs => RepM H0 x.1 Hs H F v x.2 ∧ RepMs H0 Hs H F vs xs
  | _, _ => False
theorem RepMs.all {H0 Hs H : Hp} {F : Addr → Prop} : ∀ {vs : List V} {xs : List (Md × D)}, RepMs H0 Hs H F vs xs → RepAll H All vs (xs.map (·.2))
  | [], [], _ => .nil
  | v :: vs, x :: xs, h => .cons h.1.all (RepMs.all h.2)
  | [], _ :: _, h => h.elim
  | _ :: _, [], h => h.elim
theorem RepMs.grow {H0 Hs H1 H2 : Hp} {F1 F2 : Addr → Prop} (g : Grow H1 F1 H2 F2) : ∀ {vs : List V} {xs : List (Md × D)}, RepMs H0 Hs H1 F1 vs xs → RepMs H0 Hs H2 F2 vs xs
  | [], [], _ => trivial
  | v :: vs, x :: xs, h => ⟨h.1.grow g, RepMs.grow g h.2⟩
  | [], _ :: _, h => h.elim
  | _ :: _, [], h => h.elim
theorem RepMs.early {H0 H H1 H2 : Hp} {F F1 F2 : Addr → Prop} (g : Grow H F H1 F1) : ∀ {vs : List V} {xs : List (Md × D)}, RepMs H0 H1 H2 F2 vs xs → RepMs H0 H H2 F2 vs xs
  | [], [], _ => trivial
  | v :: vs, x :: xs, h => ⟨h.1.early g, RepMs.early g h.2⟩
  | [], _ :: _, h => h.elim
  | _ :: _, [], h => h.elim
abbrev RVs := Res (List (Md × D))
section
variable {κ : Ex → Addr} {X : Cx} {W : WX} {a b e : Expr} {es : List Expr} {pos : Pos} {ma mb : Ev → RV} {ms : Ev → RVs}
def outA (W : WX) (H0 : Hp) (σ : St) (H : Hp) (F : Addr → Prop) (Q : List V → Hp → Prop) : RVs → Prop
  | .ok xs => ∀ vs H' F', Grow H F H' F' → RepMs H0 H H' F' vs xs → Q vs H'
  | .raise c => ∀ H' F', Grow H F H' F' → W (.ref (κ c)) none σ H'
  | .stuck => False
def tA (W : WX) (m : Ev → RVs) : TA := fun σ H Q => ∃ H0 F ρ, Wf H0 F σ ρ H ∧ outA (κ := κ) W H0 σ H F Q (m ρ)
abbrev SA (κ : Ex → Addr) (X : Cx) (W : WX) (es : List Expr) (m : Ev → RVs) : Prop := PA X es (tA (κ := κ) W m)
theorem outA.back {H0 : Hp} {σ : St} {H H1 : Hp} {F F1 : Addr → Prop} {Q : List V → Hp → Prop} {r : RVs} (g : Grow H F H1 F1) (h : outA (κ := κ) W H0 σ H F Q r) : outA (κ := κ) W H0 σ H1 F1 Q r := by
  cases r with
  | ok a => exact fun vs H' F' g' r => h vs H' F' (g.trans g') (r.early g)
  | raise c => exact fun H' F' g' => h H' F' (g.trans g')
  | stuck => exact h
theorem outA.bind {H0 : Hp} {σ : St} {ρ : Ev} {H : Hp} {F : Addr → Prop} {Q : List V → Hp → Prop} {Q' : VK} {f : Md × D → RVs} (w : Wf H0 F σ ρ H) (h : outA (κ := κ) W H0 σ H F Q ((ma ρ).bind f))
    (k : ∀ md d v H1 F1, Grow H F H1 F1 → RepM H0 md H H1 F1 v d → Wf H0 F1 σ ρ H1 → outA (κ := κ) W H0 σ H F Q (f (md, d)) → Q' v H1) : tE κ W ma σ H Q' := by
  refine ⟨H0, F, ρ, w, ?_⟩
  cases e : ma ρ with
  | ok x =>
    obtain ⟨md, d⟩ := x
    rw [e] at h
    exact fun v H1 F1 g r => k md d v H1 F1 g r (w.grow g) h
  | raise c => rw [e] at h; exact h
  | stuck => rw [e] at h; exact h
theorem outA.bindA {mt : Ev → RVs} {H0 : Hp} {σ : St} {ρ : Ev} {H H1 : Hp} {F F1 : Addr → Prop} {Q Q' : List V → Hp → Prop} {f : List (Md × D) → RVs} (w : Wf H0 F1 σ ρ H1) (g0 : Grow H F H1 F1) (h : outA (κ := κ) W H0 σ H F Q ((mt ρ).bind f))
    (k : ∀ xs vs H2 F2, Grow H1 F1 H2 F2 → RepMs H0 H1 H2 F2 vs xs → outA (κ := κ) W H0 σ H F Q (f xs) → Q' vs H2) : tA (κ := κ) W mt σ H1 Q' := by
  refine ⟨H0, F1, ρ, w, ?_⟩
  cases e : mt ρ with
  | ok xs =>
    rw [e] at h
    exact fun vs H2 F2 g r => k xs vs H2 F2 g r h
  | raise c => rw [e] at h; exact fun H' F' g => h H' F' (g0.trans g)
  | stuck => rw [e] at h; exact h
theorem outE.bindA {mt : Ev → RVs} {H0 : Hp} {σ : St} {ρ : Ev} {H : Hp} {F : Addr → Prop} {Q : VK} {Q' : List V → Hp → Prop} {f : List (Md × D) → RV} (w : Wf H0 F σ ρ H) (h : outE κ W H0 σ H F Q ((mt ρ).bind f))
    (k : ∀ xs vs H1 F1, Grow H F H1 F1 → RepMs H0 H H1 F1 vs xs → Wf H0 F1 σ ρ H1 → outE κ W H0 σ H1 F1 Q (f xs) → Q' vs H1) : tA (κ := κ) W mt σ H Q' := by
  refine ⟨H0, F, ρ, w, ?_⟩
  cases e : mt ρ with
  | ok xs =>
    rw [e] at h
    exact fun vs H1 F1 g r => k xs vs H1 F1 g r (w.grow g) (outE.back g h)
  | raise c => rw [e] at h; exact h
  | stuck => rw [e] at h; exact h
@[simp] def mNil : Ev → RVs := fun _ => .ok []
@[simp] def mCons (ma : Ev → RV) (ms : Ev → RVs) : Ev → RVs := fun ρ => (ma ρ).bind fun x => (ms ρ).bind fun xs => .ok (x :: xs)
theorem SA.nil : SA κ X W [] mNil := pa_nil.imp fun σ H Q h => by
  obtain ⟨H0, F, ρ, w, h⟩ := h
  exact h [] H F .refl trivial
theorem SA.cons (ha : SE κ X W e ma) (hr : SA κ X W es ms) (hs : starEach (e :: es) X.env = (false, eval e X.env) :: starEach es X.env := by rfl) : SA κ X W (e :: es) (mCons ma ms) := (pa_cons ha hr hs).imp fun σ H Q h => by
  obtain ⟨H0, F, ρ, w, h⟩ := h
  refine outA.bind w h fun md d v H1 F1 g1 r1 w1 h1 => ?_
  refine outA.bindA w1 g1 h1 fun xs vs H2 F2 g2 r2 h2 => ?_
  exact h2 (v :: vs) H2 F2 (g1.trans g2) ⟨r1.grow g2, r2.early g1⟩
/-! ### own functions -/
def mdOf : D → Md
  | .list _ => .fr
  | _ => .fz
/-- what a def does: its data's value, all new; or an error -/
def spM (κ : Ex → Addr) (n : Nat) (f : List D → Res D) : Sp := fun vs H Q E => ∃ ds, ds.length = n ∧ RepAll H All vs ds ∧ match f ds with
  | .ok d => ∀ v H' (S : Addr → Prop), (∀ a o, H a = some o → H' a = some o) → (∀ a, S a → H a = none ∧ ∃ o, H' a = some o) → Rep H' S v d → Q v H'
  | .raise c => ∀ H', (∀ a o, H a = some o → H' a = some o) → E (.ref (κ c)) none H'
  | .stuck => False
@[simp] def mCall (n : Nat) (f : List D → Res D) (ms : Ev → RVs) : Ev → RV := fun ρ => (ms ρ).bind fun xs => if xs.length = n then (f (xs.map (·.2))).bind fun d => .ok (mdOf d, d) else .stuck
/-- new data, in the sequel -/
theorem fresh_rep {H0 H H' : Hp} {F S : Addr → Prop} {σ : St} {ρ : Ev} {v : V} {d : D} (w : Wf H0 F σ ρ H) (hx : ∀ a o, H a = some o → H' a = some o) (hs : ∀ a, S a → H a = none ∧ ∃ o, H' a = some o) (r : Rep H' S v d) :
    ∃ F', Grow H F H' F' ∧ RepM H0 (mdOf d) H H' F' v d := by
  have plain : Rep H' (fun a => F a ∨ S a) v d → ∃ F', Grow H F H' F' ∧ Rep H' F' v d := fun r => ⟨_, ⟨hx, fun a h => .inl h, fun a h => h.imp id (hs a)⟩, r⟩
  cases r with
  | @lst a xs ds s e q =>
    refine ⟨fun b => F b ∨ (S b ∧ b ≠ a), ⟨hx, fun _ h => .inl h, fun b h => h.imp id fun h => hs b h.1⟩, a, xs, ds, rfl, rfl, e, (RepAll.but e q.all q (Nat.le_refl _)).mono (fun _ h => .inr h) fun _ _ _ e => e, (hs a s).1, fun z => ?_⟩
    rcases z with z | z
    · obtain ⟨o, eo⟩ := w.dom a z
      rw [(hs a s).1] at eo; cases eo
    · exact z.2 rfl
  | tup s e q => exact plain (.tup (.inr s) e (q.mono (fun _ h => .inr h) fun _ _ _ e => e))
  | dct s e => exact plain (.dct (.inr s) e)
  | non => exact plain .non
  | bl b => exact plain (.bl b)
  | int i => exact plain (.int i)
  | str x => exact plain (.str x)
theorem SE.call {k n : Nat} {f : Addr} {fd : FuncData} {ps : List Str} {g : List D → Res D} {x : Str} {p : Pos} (F : FnOk X.prog X.w X.K X.mg X.base (L2.CX X.prog X.w) k f fd ps (spM κ n g)) (hr : Room k X.A) (tk : Takes X W) (hg : Gl X x) (hm : X.mg x = some (.ref f))
    (hk : PySem.W.keepIn X.K (.ref f) = true) (hb : Binds X.K fd ps []) (ha : SA κ X W (e :: es) ms) (hdb : (x == ("__debug__" : Str)) = false := by decide)
    (he : starEach (e :: es) X.env = (false, eval e X.env) :: starEach es X.env := by rfl) (hpl : (backTo pos (starEach es X.env)).any (·.1) = false := by rfl) :
    SE κ X W (.Call (.Name x p) (e :: es) [] pos) (mCall n g ms) := (pe_callS F hr hg hm hk hb (fun σ => passAt tk σ) ha hdb he hpl).imp fun σ H Q h => by
  obtain ⟨H0, F, ρ, w, h⟩ := h
  refine outE.bindA w h fun xs vs H1 F1 g1 r1 w1 h1 => ?_
  by_cases hl : xs.length = n
  case neg => rw [if_neg hl] at h1; exact h1.elim
  rw [if_pos hl] at h1
  have hn : ∀ r, g (xs.map (·.2)) = r → outE κ W H0 σ H1 F1 Q (r.bind fun d => .ok (mdOf d, d)) := fun r e => by rw [← e]; exact h1
  refine ⟨xs.map (·.2), by rw [List.length_map]; exact hl, r1.all, ?_⟩
  · cases e : g (xs.map (·.2)) with
    | ok d =>
      intro v H' S hx hs r
      obtain ⟨F', g', q⟩ := fresh_rep w1 hx hs r
      exact hn _ e v H' F' g' q
    | raise c =>
      intro H' hx
      exact hn _ e H' F1 ⟨hx, fun _ h => h, fun _ h => .inl h⟩
    | stuck => exact hn _ e
/-! ### built-ins -/
def CallS (r : List V → Hp → VK → Prop) (f : List (Md × D) → Option (Md × D)) : Prop :=
  ∀ (H0 Hs H : Hp) (F : Addr → Prop) (σ : St) (ρ : Ev) (vs : List V) (xs : List (Md × D)) (md : Md) (d : D) (Q : VK), f xs = some (md, d) → Wf H0 F σ ρ H → RepMs H0 Hs H F vs xs → (∀ v H' F', Grow H F H' F' → RepM H0 md H H' F' v d → Q v H') → r vs H Q
@[simp] def mBi (f : List (Md × D) → Option (Md × D)) (ms : Ev → RVs) : Ev → RV := fun ρ => (ms ρ).bind fun xs => Res.of (f xs)
theorem callS_run {r : List V → Hp → VK → Prop} {f} (hs : CallS r f) {σ : St} {H : Hp} {Q : VK} (h : tE κ W (mBi f ms) σ H Q) : tCB r (tA (κ := κ) W ms) σ H Q := by
  obtain ⟨H0, F, ρ, w, h⟩ := h
  refine outE.bindA w h fun xs vs H1 F1 g1 r1 w1 h1 => ?_
  cases e : f xs with
  | none => rw [e] at h1; exact h1.elim
  | some z =>
    obtain ⟨md, d⟩ := z
    rw [e] at h1
    exact hs H0 H H1 F1 σ ρ vs xs md d Q e w1 r1 h1
theorem SE.callB {id : String} {x : Str} {p : Pos} {r : List V → Hp → VK → Prop} {f} (hc : CallR X (.builtin id) r) (hs : CallS r f) (hg : Gl X x) (hm : X.mg x = none) (hv : bootBuiltins x = some (.builtin id)) (ha : SA κ X W (e :: es) ms) (hn : x ≠ "__name__" := by decide) (hdb : (x == ("__debug__" : Str)) = false := by decide)
    (he : starEach (e :: es) X.env = (false, eval e X.env) :: starEach es X.env := by rfl) (hpl : (backTo pos (starEach es X.env)).any (·.1) = false := by rfl) : SE κ X W (.Call (.Name x p) (e :: es) [] pos) (mBi f ms) :=
  (pe_callB hc hg hm hv ha hn hdb he hpl).imp fun σ H Q h => callS_run hs h
theorem SE.callT {T : String} {x : Str} {p : Pos} {r : List V → Hp → VK → Prop} {f} (hc : CallR X (.type T) r) (hs : CallS r f) (hg : Gl X x) (hm : X.mg x = none) (hv : bootBuiltins x = some (.type T)) (ha : SA κ X W (e :: es) ms) (hn : x ≠ "__name__" := by decide) (hdb : (x == ("__debug__" : Str)) = false := by decide)
    (he : starEach (e :: es) X.env = (false, eval e X.env) :: starEach es X.env := by rfl) (hpl : (backTo pos (starEach es X.env)).any (·.1) = false := by rfl) : SE κ X W (.Call (.Name x p) (e :: es) [] pos) (mBi f ms) :=
  (pe_callTy hc hg hm hv ha hn hdb he hpl).imp fun σ H Q h => callS_run hs h
end
/-- a list's or a tuple's object -/
theorem RepM.tup {H0 Hs H : Hp} {F : Addr → Prop} {v : V} {md : Md} {ds : List D} (r : RepM H0 md Hs H F v (.tuple ds)) : ∃ p xs, v = .ref p ∧ H p = some (.tup xs) ∧ RepAll H (Bo H0 F) xs ds ∧ (elFz md ds = true → RepAll H F xs ds) := by
  cases md with
  | tmp => obtain ⟨_, _, _, e, _⟩ := r; cases e
  | fr => obtain ⟨_, _, _, e, _⟩ := r; cases e
  | bo =>
    cases r with
    | tup s e q => exact ⟨_, _, rfl, e, q, fun h => q.scalars (by simpa [elFz] using h)⟩
  | fz =>
    cases r with
    | tup s e q => exact ⟨_, _, rfl, e, q.mono (fun _ h => .inr h) fun _ _ _ e => e, fun _ => q⟩
def fLen : List (Md × D) → Option (Md × D)
  | [(_, .list ds)] => some (.fz, .int ds.length)
  | [(_, .tuple ds)] => some (.fz, .int ds.length)
  | _ => none
theorem s_len {K : PySem.W.Frag} : CallS (fun xs H Q => ∃ p ys, xs = [.ref p] ∧ (SqL K H p ys ∨ SqT K H p ys) ∧ Q (.int ys.length) H) fLen := fun H0 Hs H F σ ρ vs xs md d Q e w r q => by
  unfold fLen at e
  split at e
  · cases e
    match vs, r with
    | [v], r =>
      obtain ⟨p, ys, rfl, hp, a1, _⟩ := r.1.list
      exact ⟨p, ys, rfl, .inl (.inl (.inl hp)), q _ H F .refl (by rw [a1.length]; exact .int _)⟩
    | _ :: _ :: _, r => exact r.2.elim
  · cases e
    match vs, r with
    | [v], r =>
      obtain ⟨p, ys, rfl, hp, a1, _⟩ := r.1.tup
      exact ⟨p, ys, rfl, .inr (.inl (.inl hp)), q _ H F .refl (by rw [a1.length]; exact .int _)⟩
    | _ :: _ :: _, r => exact r.2.elim
  · cases e
def fInt : List (Md × D) → Option (Md × D)
  | [(_, .int i)] => some (.fz, .int i)
  | [(_, .bool b)] => some (.fz, .int (if b then 1 else 0))
  | _ => none
theorem s_int : CallS (fun xs H Q => (∃ i, xs = [.int i] ∧ Q (.int i) H) ∨ ∃ k, xs = [.bl k] ∧ Q (.int (if k then 1 else 0)) H) fInt := fun H0 Hs H F σ ρ vs xs md d Q e w r q => by
  unfold fInt at e
  split at e
  · cases e
    match vs, r with
    | [v], r => exact .inl ⟨_, by rw [r.1.int_inv], q _ H F .refl (.int _)⟩
    | _ :: _ :: _, r => exact r.2.elim
  · cases e
    match vs, r with
    | [v], r => exact .inr ⟨_, by rw [r.1.bool_inv], q _ H F .refl (.int _)⟩
    | _ :: _ :: _, r => exact r.2.elim
  · cases e
def fList : List (Md × D) → Option (Md × D)
  | [(m, .list ds)] => some (mdL (elFz m ds), .list ds)
  | [(m, .tuple ds)] => some (mdL (elFz m ds), .list ds)
  | _ => none
theorem s_list {K : PySem.W.Frag} : CallS (fun xs H Q => ∃ p ys, xs = [.ref p] ∧ (SqL K H p ys ∨ SqT K H p ys) ∧ ∀ l, H l = none → Q (.ref l) (upd H l (.lst ys))) fList := fun H0 Hs H F σ ρ vs xs md d Q e w r q => by
  unfold fList at e
  split at e
  · rename_i m ds
    cases e
    match vs, r with
    | [v], r =>
      obtain ⟨p, ys, rfl, hp, a1, a2⟩ := r.1.list
      refine ⟨p, ys, rfl, .inl (.inl (.inl hp)), fun l hl => ?_⟩
      obtain ⟨F', g, r'⟩ := newList (b := elFz m ds) w hl a1 a2
      exact q _ _ F' g r'
    | _ :: _ :: _, r => exact r.2.elim
  · rename_i m ds
    cases e
    match vs, r with
    | [v], r =>
      obtain ⟨p, ys, rfl, hp, a1, a2⟩ := r.1.tup
      refine ⟨p, ys, rfl, .inr (.inl (.inl hp)), fun l hl => ?_⟩
      obtain ⟨F', g, r'⟩ := newList (b := elFz m ds) w hl a1 a2
      exact q _ _ F' g r'
    | _ :: _ :: _, r => exact r.2.elim
  · cases e
def fTuple : List (Md × D) → Option (Md × D)
  | [(m, .list ds)] => some (if elFz m ds then .fz else .bo, .tuple ds)
  | [(m, .tuple ds)] => some (m, .tuple ds)
  | _ => none
theorem s_tuple {K : PySem.W.Frag} : CallS (fun xs H Q => ∃ p ys, xs = [.ref p] ∧ ((SqL K H p ys ∧ ∀ l, H l = none → Q (.ref l) (upd H l (.tup ys))) ∨ (SqT K H p ys ∧ Q (.ref p) H))) fTuple := fun H0 Hs H F σ ρ vs xs md d Q e w r q => by
  unfold fTuple at e
  split at e
  · rename_i m ds
    cases e
    match vs, r with
    | [v], r =>
      obtain ⟨p, ys, rfl, hp, a1, a2⟩ := r.1.list
      refine ⟨p, ys, rfl, .inl ⟨.inl (.inl hp), fun l hl => ?_⟩⟩
      obtain ⟨F', g, r'⟩ := newTup w hl a1 (elFz m ds) a2
      exact q _ _ F' g r'
    | _ :: _ :: _, r => exact r.2.elim
  · rename_i m ds
    cases e
    match vs, r with
    | [v], r =>
      obtain ⟨p, ys, rfl, hp, a1, a2⟩ := r.1.tup
      refine ⟨p, ys, rfl, .inr ⟨.inl (.inl hp), q _ H F .refl ?_⟩⟩
      cases md with
      | fr => obtain ⟨_, _, _, e, _⟩ := r.1; cases e
      | tmp => obtain ⟨_, _, _, e, _⟩ := r.1; cases e
      | bo => exact r.1
      | fz => exact r.1
    | _ :: _ :: _, r => exact r.2.elim
  · cases e
def bools : List D → Option (List Bool)
  | [] => some []
  | .bool b :: r => (bools r).map (b :: ·)
  | _ => none
theorem bools_inv : ∀ {ds : List D} {bs : List Bool}, bools ds = some bs → ds = bs.map PyData.bool
  | [], _, h => by cases h; rfl
  | .bool b :: r, _, h => by
    obtain ⟨bs, e, rfl⟩ := Option.map_eq_some_iff.mp (show (bools r).map (b :: ·) = some _ from h)
    rw [bools_inv e]; rfl
  | .none :: _, _, h => by cases h
  | .int _ :: _, _, h => by cases h
  | .str _ :: _, _, h => by cases h
  | .list _ :: _, _, h => by cases h
  | .tuple _ :: _, _, h => by cases h
  | .dict _ :: _, _, h => by cases h
def fAny : List (Md × D) → Option (Md × D)
  | [(_, .list ds)] => (bools ds).map fun bs => (.fz, .bool (bs.any id))
  | _ => none
def fAll : List (Md × D) → Option (Md × D)
  | [(_, .list ds)] => (bools ds).map fun bs => (.fz, .bool (bs.all id))
  | _ => none
theorem s_any {K : PySem.W.Frag} : CallS (rAny K) fAny := fun H0 Hs H F σ ρ vs xs md d Q e w r q => by
  unfold fAny at e
  split at e
  · obtain ⟨bs, eb, e⟩ := Option.map_eq_some_iff.mp e
    cases e
    match vs, r with
    | [v], r =>
      obtain ⟨p, ys, rfl, hp, a1, _⟩ := r.1.list
      rw [bools_inv eb] at a1
      have := a1.bool_inv
      subst this
      exact ⟨p, bs, rfl, .inl (.inl hp), q _ H F .refl (.bl _)⟩
    | _ :: _ :: _, r => exact r.2.elim
  · cases e
theorem s_all {K : PySem.W.Frag} : CallS (rAll K) fAll := fun H0 Hs H F σ ρ vs xs md d Q e w r q => by
  unfold fAll at e
  split at e
  · obtain ⟨bs, eb, e⟩ := Option.map_eq_some_iff.mp e
    cases e
    match vs, r with
    | [v], r =>
      obtain ⟨p, ys, rfl, hp, a1, _⟩ := r.1.list
      rw [bools_inv eb] at a1
      have := a1.bool_inv
      subst this
      exact ⟨p, bs, rfl, .inl (.inl hp), q _ H F .refl (.bl _)⟩
    | _ :: _ :: _, r => exact r.2.elim
  · cases e
/-! ### types -/
def tyName : D → String
  | .none => "NoneType"
  | .bool _ => "bool"
  | .int _ => "int"
  | .str _ => "str"
  | .list _ => "list"
  | .tuple _ => "tuple"
  | .dict _ => "dict"
theorem rep_ty {K : PySem.W.Frag} {H : Hp} {S : Addr → Prop} {v : V} {d : D} (r : Rep H S v d) : TyOf K H v (.type (tyName d)) := by
  cases r with
  | non => exact .non
  | bl b => exact .bl b
  | int i => exact .int i
  | str x => exact .str x
  | lst _ e _ => exact .lst e
  | tup _ e _ => exact .tup e
  | dct _ e => exact .dK e
/-- isinstance(a, T) -/
@[simp] def mIsi (T : String) (ma : Ev → RV) : Ev → RV := fun ρ => (ma ρ).bind fun x => Res.of ((kitB (tyName x.2) T).map fun b => (.fz, .bool b))
section
variable {κ : Ex → Addr} {X : Cx} {W : WX} {a b e : Expr} {es : List Expr} {pos : Pos} {ma mb : Ev → RV} {ms : Ev → RVs}
theorem SE.isi {T : String} {x : Str} {p q pos : Pos} (hg : Gl X "isinstance") (hm : X.mg "isinstance" = none) (hv : bootBuiltins "isinstance" = some (.builtin "isinstance")) (ha : SE κ X W a ma) (hgT : Gl X x) (hmT : X.mg x = none) (hvT : bootBuiltins x = some (.type T))
    (hn : x ≠ "__name__" := by decide) (hd : (x == ("__debug__" : Str)) = false := by decide) (hs : starEach [a, .Name x q] X.env = (false, eval a X.env) :: starEach [.Name x q] X.env := by rfl) (hs2 : starEach [.Name x q] X.env = (false, eval (.Name x q) X.env) :: starEach [] X.env := by rfl)
    (hpl : (backTo pos (starEach [.Name x q] X.env)).any (·.1) = false := by rfl) :
    SE κ X W (.Call (.Name "isinstance" p) [a, .Name x q] [] pos) (mIsi T ma) := (pe_callB call_isi hg hm hv (pa_cons ha (pa_cons (pe_bltn hgT hmT hvT (v := .ty T) rfl hn hd) pa_nil hs2) hs) (he := hs) (hpl := hpl)).imp fun σ H Q h => by
  obtain ⟨H0, F, ρ, w, h⟩ := h
  refine outE.bind w h fun md d v H1 F1 g1 r1 w1 h1 => ?_
  cases ek : kitB (tyName d) T with
  | none => simp only [ek] at h1; exact h1.elim
  | some k =>
    simp only [ek] at h1
    exact ⟨v, .ty T, _, _, k, rfl, .ty T, .base (rep_ty r1.all), kit_ty ek, h1 _ H1 F1 .refl (.bl _)⟩
theorem call_typeD : CallR X (.type "type") (fun xs H Q => ∃ x d, xs = [x] ∧ Rep H All x d ∧ Q (.ty (tyName d)) H) := by
  intro pins s σ H xs us Q I r h
  obtain ⟨x, d, rfl, rd, q⟩ := h
  cases r with
  | cons r1 r2 =>
    cases r2
    have fin : EP X pins σ Q (.type (tyName d)) s := ⟨.ty _, H, I, rfl, q⟩
    cases rd with
    | non => cases r1; exact call_type_of (Tx := "NoneType") rfl (by decide +kernel) fin
    | bl b => cases r1; exact call_type_of (Tx := "bool") rfl (by decide +kernel) fin
    | int i => obtain ⟨t, rfl⟩ := r1; exact call_type_of (Tx := "int") rfl (by decide +kernel) fin
    | str i => obtain ⟨t, rfl⟩ := r1; exact call_type_of (Tx := "str") rfl (by decide +kernel) fin
    | @lst p xs ds _ e _ =>
      cases r1
      obtain ⟨_, _, n, _, h1⟩ := (show ObjOk X.prog X.w H s.heap p (.lst xs) from I.hok p _ e)
      exact PySem.W.kto_cont (T := "list") ⟨_, h1, rfl⟩ (by decide +kernel) fin
    | @tup p xs ds _ e _ =>
      cases r1
      obtain ⟨_, _, _, pp⟩ := (show ObjOk X.prog X.w H s.heap p (.tup xs) from I.hok p _ e)
      obtain ⟨o, h1, h2, _⟩ := pp
      exact PySem.W.kto_cont (T := "tuple") ⟨o, h1, h2⟩ (by decide +kernel) fin
    | @dct p _ e =>
      cases r1
      obtain ⟨_, _, vs, _, pp⟩ := (show ObjOk X.prog X.w H s.heap p (.dK []) from I.hok p _ e)
      obtain ⟨o, es, ep, h1, h2, _⟩ := pp
      exact PySem.W.kto_cont (T := "dict") ⟨o, h1, h2.1⟩ (by decide +kernel) fin
def isMeta (T : String) : Bool := T == "int" || T == "str" || T == "bool" || T == "NoneType" || T == "list" || T == "tuple" || T == "dict"
theorem meta_of {T : String} (h : isMeta T = true) : ∀ s' : Shared, s'.TypeIs (.type T) "type" := by
  simp only [isMeta, Bool.or_eq_true, beq_iff_eq] at h
  rcases h with (((((rfl | rfl) | rfl) | rfl) | rfl) | rfl) | rfl
  · exact TypeEq.meta_int
  · exact TypeEq.meta_str
  · exact TypeEq.meta_bool
  · exact TypeEq.meta_NoneType
  · exact TypeEq.meta_list
  · exact TypeEq.meta_tuple
  · exact TypeEq.meta_dict
theorem isMeta_ty (d : D) : isMeta (tyName d) = true := by cases d <;> simp [tyName, isMeta]
theorem vty {x y : String} : (Value.type x == Value.type y) = decide (x = y) := by
  by_cases h : x = y
  · subst h; simp
  · rw [decide_eq_false h]
    exact beq_eq_false_iff_ne.mpr fun e => h (Value.type.inj e)
theorem op_tyEq : OpR X (compareOp .Eq) (fun x y H Q => ∃ a b, x = .ty a ∧ y = .ty b ∧ isMeta a = true ∧ isMeta b = true ∧ Q (.bl (decide (a = b))) H) := by
  intro pins s σ H x y v u Q I rx ry h
  obtain ⟨a, b, rfl, rfl, ha, hb, q⟩ := h
  cases rx
  cases ry
  by_cases e : a = b
  · subst e
    rw [decide_eq_true rfl] at q
    exact TypeEq.eq_type_same (meta_of ha) ⟨.bl true, H, I, rfl, q⟩
  · rw [decide_eq_false e] at q
    exact TypeEq.eq_type_other (meta_of ha) (meta_of hb) (by rw [vty]; exact decide_eq_false e) ⟨.bl false, H, I, rfl, q⟩
theorem op_tyNe (hu : X.A.units + 1 < cLine) : OpR X (compareOp .NotEq) (fun x y H Q => ∃ a b, x = .ty a ∧ y = .ty b ∧ isMeta a = true ∧ isMeta b = true ∧ Q (.bl (!decide (a = b))) H) := by
  intro pins s σ H x y v u Q I rx ry h
  obtain ⟨a, b, rfl, rfl, ha, hb, q⟩ := h
  cases rx
  cases ry
  exact ne_type hu (meta_of ha) (meta_of hb) ⟨.bl _, H, I, by rw [vty]; rfl, q⟩
/-- type(a) == T, type(a) != T -/
@[simp] def mTy (neg : Bool) (T : String) (ma : Ev → RV) : Ev → RV := fun ρ => (ma ρ).bind fun x => .ok (.fz, .bool (if neg then !decide (tyName x.2 = T) else decide (tyName x.2 = T)))
theorem ty_run {T : String} {neg : Bool} {c : String → String → Bool} (hT : isMeta T = true) (hc : ∀ a, c a T = (if neg then !decide (a = T) else decide (a = T))) {σ : St} {H : Hp} {Q : VK} (h : tE κ W (mTy neg T ma) σ H Q) :
    tOp (fun x y H Q => ∃ a b, x = .ty a ∧ y = .ty b ∧ isMeta a = true ∧ isMeta b = true ∧ Q (.bl (c a b)) H) (tCB (fun xs H Q => ∃ x d, xs = [x] ∧ Rep H All x d ∧ Q (.ty (tyName d)) H) (tCons (tE κ W ma) tNil)) (tC (.ty T)) σ H Q := by
  obtain ⟨H0, F, ρ, w, h⟩ := h
  refine outE.bind w h fun md d v H1 F1 g1 r1 w1 h1 => ?_
  refine ⟨v, d, rfl, r1.all, _, _, rfl, rfl, isMeta_ty d, hT, ?_⟩
  rw [hc]
  exact h1 _ H1 F1 .refl (.bl _)
variable {T : String} {x : Str} {p q pos2 : Pos}
theorem SE.tyEq (hg : Gl X "type") (hm : X.mg "type" = none) (hv : bootBuiltins "type" = some (.type "type")) (ha : SE κ X W a ma) (hgT : Gl X x) (hmT : X.mg x = none) (hvT : bootBuiltins x = some (.type T)) (hT : isMeta T = true)
    (hn : x ≠ "__name__" := by decide) (hd : (x == ("__debug__" : Str)) = false := by decide) (hs : starEach [a] X.env = (false, eval a X.env) :: starEach [] X.env := by rfl) (hpl : (backTo pos2 (starEach [] X.env)).any (·.1) = false := by rfl) :
    SE κ X W (.Compare (.Call (.Name "type" p) [a] [] pos2) [.Eq] [.Name x q] pos) (mTy false T ma) :=
  (pe_cmpR op_tyEq (pe_callTy call_typeD hg hm hv (pa_cons ha pa_nil hs) (he := hs) (hpl := hpl)) (pe_bltn hgT hmT hvT (v := .ty T) rfl hn hd) (nomark _)).imp fun σ H Q h => ty_run (neg := false) (c := fun a b => decide (a = b)) hT (fun _ => rfl) h
theorem SE.tyNe (hu : X.A.units + 1 < cLine) (hg : Gl X "type") (hm : X.mg "type" = none) (hv : bootBuiltins "type" = some (.type "type")) (ha : SE κ X W a ma) (hgT : Gl X x) (hmT : X.mg x = none) (hvT : bootBuiltins x = some (.type T)) (hT : isMeta T = true)
    (hn : x ≠ "__name__" := by decide) (hd : (x == ("__debug__" : Str)) = false := by decide) (hs : starEach [a] X.env = (false, eval a X.env) :: starEach [] X.env := by rfl) (hpl : (backTo pos2 (starEach [] X.env)).any (·.1) = false := by rfl) :
    SE κ X W (.Compare (.Call (.Name "type" p) [a] [] pos2) [.NotEq] [.Name x q] pos) (mTy true T ma) :=
  (pe_cmpR (op_tyNe hu) (pe_callTy call_typeD hg hm hv (pa_cons ha pa_nil hs) (he := hs) (hpl := hpl)) (pe_bltn hgT hmT hvT (v := .ty T) rfl hn hd) (nomark _)).imp fun σ H Q h => ty_run (neg := true) (c := fun a b => !decide (a = b)) hT (fun _ => rfl) h
theorem ST.tyEq (hg : Gl X "type") (hm : X.mg "type" = none) (hv : bootBuiltins "type" = some (.type "type")) (ha : SE κ X W a ma) (hgT : Gl X x) (hmT : X.mg x = none) (hvT : bootBuiltins x = some (.type T)) (hT : isMeta T = true)
    (hn : x ≠ "__name__" := by decide) (hd : (x == ("__debug__" : Str)) = false := by decide) (hs : starEach [a] X.env = (false, eval a X.env) :: starEach [] X.env := by rfl) (hpl : (backTo pos2 (starEach [] X.env)).any (·.1) = false := by rfl) :
    ST κ X W (.Compare (.Call (.Name "type" p) [a] [] pos2) [.Eq] [.Name x q] pos) (mB (mTy false T ma)) :=
  (pt_cmpR op_tyEq (pe_callTy call_typeD hg hm hv (pa_cons ha pa_nil hs) (he := hs) (hpl := hpl)) (pe_bltn hgT hmT hvT (v := .ty T) rfl hn hd) (nomark _)).imp fun σ H Q h => ty_run (neg := false) (c := fun a b => decide (a = b)) hT (fun _ => rfl) (tE_bool h)
theorem ST.tyNe (hu : X.A.units + 1 < cLine) (hg : Gl X "type") (hm : X.mg "type" = none) (hv : bootBuiltins "type" = some (.type "type")) (ha : SE κ X W a ma) (hgT : Gl X x) (hmT : X.mg x = none) (hvT : bootBuiltins x = some (.type T)) (hT : isMeta T = true)
    (hn : x ≠ "__name__" := by decide) (hd : (x == ("__debug__" : Str)) = false := by decide) (hs : starEach [a] X.env = (false, eval a X.env) :: starEach [] X.env := by rfl) (hpl : (backTo pos2 (starEach [] X.env)).any (·.1) = false := by rfl) :
    ST κ X W (.Compare (.Call (.Name "type" p) [a] [] pos2) [.NotEq] [.Name x q] pos) (mB (mTy true T ma)) :=
  (pt_cmpR (op_tyNe hu) (pe_callTy call_typeD hg hm hv (pa_cons ha pa_nil hs) (he := hs) (hpl := hpl)) (pe_bltn hgT hmT hvT (v := .ty T) rfl hn hd) (nomark _)).imp fun σ H Q h => ty_run (neg := true) (c := fun a b => !decide (a = b)) hT (fun _ => rfl) (tE_bool h)
end
end L2.Xq
set_option Elab.async false
set_option linter.all false
set_option maxRecDepth 100000
set_option maxHeartbeats 4000000
namespace L2.Xq
open PySem PySem.Spec PyProof.Rows
/-! ### the state, changed at a slot -/
theorem CellOk.of {H0 : Hp} {F : Addr → Prop} {H : Hp} {c : Cell} {v v' : Option V} (h : CellOk H0 F H c v) (e : v = v') : CellOk H0 F H c v' := e ▸ h
theorem Wf.put {H0 H : Hp} {F : Addr → Prop} {σ : St} {ρ : Ev} {i : Nat} {c : Cell} {v : Option V} (w : Wf H0 F σ ρ H) (hc : CellOk H0 F H c v) (hn : ∀ ds, c ≠ .ow ds) : Wf H0 F (σ.set i v) (ρ.set i c) H := by
  refine ⟨by rw [List.length_set, List.length_set, w.len], fun j c' v' h1 h2 => ?_, fun j k ds es p hjk h1 h2 h3 h4 => ?_, w.ext, w.new, w.dom⟩
  · by_cases hj : i = j
    · subst hj
      by_cases hl : i < ρ.length
      · rw [List.getElem?_set_self hl] at h1
        rw [List.getElem?_set_self (by rw [w.len]; exact hl)] at h2
        cases h1; cases h2
        exact hc
      · rw [List.getElem?_eq_none (by simpa using hl)] at h1; cases h1
    · rw [List.getElem?_set_ne hj] at h1 h2
      exact w.cell j c' v' h1 h2
  · have ne : ∀ m es, (ρ.set i c)[m]? = some (.ow es) → i ≠ m := fun m es h e => by
      subst e
      by_cases hl : i < ρ.length
      · rw [List.getElem?_set_self hl] at h; cases h; exact hn _ rfl
      · rw [List.getElem?_eq_none (by simpa using hl)] at h; cases h
    have n1 := ne j ds h1
    have n2 := ne k es h2
    rw [List.getElem?_set_ne n1] at h1 h3
    rw [List.getElem?_set_ne n2] at h2 h4
    exact w.apart j k ds es p hjk h1 h2 h3 h4
/-- a new own list -/
theorem Wf.putOw {H0 H : Hp} {F : Addr → Prop} {σ : St} {ρ : Ev} {i : Nat} {p : Addr} {xs : List V} {ds : List D} (w : Wf H0 F σ ρ H) (hp : H p = some (.lst xs)) (nf : ¬ F p) (n0 : H0 p = none) (r : RepAll H F xs ds)
    (ap : ∀ j es, ρ[j]? = some (.ow es) → σ[j]? = some (some (.ref p)) → j = i) : Wf H0 F (σ.set i (some (.ref p))) (ρ.set i (.ow ds)) H := by
  refine ⟨by rw [List.length_set, List.length_set, w.len], fun j c' v' h1 h2 => ?_, fun j k ds' es p' hjk h1 h2 h3 h4 => ?_, w.ext, w.new, w.dom⟩
  · by_cases hj : i = j
    · subst hj
      by_cases hl : i < ρ.length
      · rw [List.getElem?_set_self hl] at h1
        rw [List.getElem?_set_self (by rw [w.len]; exact hl)] at h2
        cases h1; cases h2
        exact ⟨p, xs, rfl, hp, nf, n0, r⟩
      · rw [List.getElem?_eq_none (by simpa using hl)] at h1; cases h1
    · rw [List.getElem?_set_ne hj] at h1 h2
      exact w.cell j c' v' h1 h2
  · have inb : ∀ m es, (ρ.set i (.ow ds))[m]? = some (.ow es) → m < ρ.length := fun m es h => by
      have := (List.getElem?_eq_some_iff.mp h).1
      simpa using this
    have hjl := inb j _ h1
    have hkl := inb k _ h2
    by_cases hj : i = j
    · subst hj
      rw [List.getElem?_set_self (by rw [w.len]; exact hjl)] at h3
      cases h3
      rw [List.getElem?_set_ne hjk] at h2 h4
      exact hjk (ap k es h2 h4).symm
    · by_cases hk : i = k
      · subst hk
        rw [List.getElem?_set_self (by rw [w.len]; exact hkl)] at h4
        cases h4
        rw [List.getElem?_set_ne hj] at h1 h3
        exact hj (ap j ds' h1 h3).symm
      · rw [List.getElem?_set_ne hj] at h1 h3
        rw [List.getElem?_set_ne hk] at h2 h4
        exact w.apart j k ds' es p' hjk h1 h2 h3 h4
def cellOf : Md × D → Cell
  | (.bo, d) => .bo d
  | (_, d) => .fz d
theorem cellOf_ow (x : Md × D) (ds : List D) : cellOf x ≠ .ow ds := by
  obtain ⟨m, d⟩ := x
  cases m <;> (intro h; cases h)

/-! ### what is walked -/
/-- the items xs of data items, whatever becomes of what is not in S -/
def IterOk (H0 : Hp) (J : It) (S : Addr → Prop) (H : Hp) (F : Addr → Prop) (items : List (Md × D)) : Prop :=
  ∃ xs : List V, xs.length = items.length ∧ (∀ (i : Nat) (x : Md × D) (v : V), items[i]? = some x → xs[i]? = some v → CellOk H0 F H (cellOf x) (some v)) ∧
    ∀ (i : Nat) (H2 : Hp), (∀ a o, S a → H a = some o → H2 a = some o) → (i < items.length → J.go i H2 ∧ ∀ x H3, J.yld i H2 x H3 → H3 = H2 ∧ xs[i]? = some x) ∧ (items.length ≤ i → J.stop i H2)
/-- the walk's items; loose: they stand in an own list, that a statement could change -/
abbrev RI := Res (Bool × List (Md × D))
section
variable {κ : Ex → Addr} {X : Cx} {W : WX} {a b e tg iter : Expr} {es : List Expr} {pos : Pos} {ma mb : Ev → RV} {ms : Ev → RVs}
def outI (W : WX) (H0 : Hp) (σ : St) (H : Hp) (F : Addr → Prop) (R : It → Hp → Prop) : RI → Prop
  | .ok (loose, items) => ∀ J H' F' (S : Addr → Prop), Grow H F H' F' → (loose = false → ∀ a, S a → Bo H0 F' a) → IterOk H0 J S H' F' items → R J H'
  | .raise c => ∀ H' F', Grow H F H' F' → W (.ref (κ c)) none σ H'
  | .stuck => False
def tI (W : WX) (m : Ev → RI) : TI := fun σ H R => ∃ H0 F ρ, Wf H0 F σ ρ H ∧ outI (κ := κ) W H0 σ H F R (m ρ)
abbrev SI (κ : Ex → Addr) (X : Cx) (W : WX) (tg e : Expr) (m : Ev → RI) : Prop := PI X tg e (tI (κ := κ) W m)
theorem _root_.L2.PI.imp {X : Cx} {tg e : Expr} {t t' : TI} (h : PI X tg e t) (hi : ∀ σ H R, t' σ H R → t σ H R) : PI X tg e t' := ⟨fun pins s σ H R I q => h.run pins s σ H R I (hi σ H R q)⟩
theorem outI.bind {H0 : Hp} {σ : St} {ρ : Ev} {H : Hp} {F : Addr → Prop} {R : It → Hp → Prop} {Q' : VK} {f : Md × D → RI} (w : Wf H0 F σ ρ H) (h : outI (κ := κ) W H0 σ H F R ((ma ρ).bind f))
    (k : ∀ md d v H1 F1, Grow H F H1 F1 → RepM H0 md H H1 F1 v d → Wf H0 F1 σ ρ H1 → outI (κ := κ) W H0 σ H F R (f (md, d)) → Q' v H1) : tE κ W ma σ H Q' := by
  refine ⟨H0, F, ρ, w, ?_⟩
  cases e : ma ρ with
  | ok x =>
    obtain ⟨md, d⟩ := x
    rw [e] at h
    exact fun v H1 F1 g r => k md d v H1 F1 g r (w.grow g) h
  | raise c => rw [e] at h; exact h
  | stuck => rw [e] at h; exact h
theorem outI.bindA {mt : Ev → RVs} {H0 : Hp} {σ : St} {ρ : Ev} {H : Hp} {F : Addr → Prop} {R : It → Hp → Prop} {Q' : List V → Hp → Prop} {f : List (Md × D) → RI} (w : Wf H0 F σ ρ H) (h : outI (κ := κ) W H0 σ H F R ((mt ρ).bind f))
    (k : ∀ xs vs H2 F2, Grow H F H2 F2 → RepMs H0 H H2 F2 vs xs → outI (κ := κ) W H0 σ H F R (f xs) → Q' vs H2) : tA (κ := κ) W mt σ H Q' := by
  refine ⟨H0, F, ρ, w, ?_⟩
  cases e : mt ρ with
  | ok xs =>
    rw [e] at h
    exact fun vs H2 F2 g r => k xs vs H2 F2 g r h
  | raise c => rw [e] at h; exact h
  | stuck => rw [e] at h; exact h
/-- over a list -/
def iL (ma : Ev → RV) : Ev → RI := fun ρ => (ma ρ).bind fun x => match x with
  | (.tmp, .list ds) => .ok (true, ds.map fun d => (.fz, d))
  | (.bo, .list ds) => .ok (false, ds.map fun d => (.bo, d))
  | (_, .list ds) => .ok (false, ds.map fun d => (.fz, d))
  | _ => .stuck
theorem SqL.inj {K : PySem.W.Frag} {H : Hp} {p : Addr} {xs ys : List V} (hp : H p = some (.lst xs)) (nk : K.lookup p = none) (h : SqL K H p ys) : ys = xs := by
  rcases h with (h | ⟨o, h⟩) | ⟨o, its, n, e, _⟩
  · rw [hp] at h; cases h; rfl
  · rw [hp] at h; cases h
  · rw [nk] at e; cases e
theorem iter_list {K : PySem.W.Frag} {H0 H : Hp} {F : Addr → Prop} {p : Addr} {vs : List V} {ds : List D} {c : Md} (hp : H p = some (.lst vs)) (hl : vs.length = ds.length)
    (hr : ∀ (i : Nat) (d : D) (v : V), ds[i]? = some d → vs[i]? = some v → CellOk H0 F H (cellOf (c, d)) (some v)) : IterOk H0 (Itl K p) (fun a => a = p) H F (ds.map fun d => (c, d)) := by
  refine ⟨vs, by rw [hl, List.length_map], fun i x v h1 h2 => ?_, fun i H2 hk => ?_⟩
  · rw [List.getElem?_map] at h1
    cases e : ds[i]? with
    | none => rw [e] at h1; cases h1
    | some d => rw [e] at h1; cases h1; exact hr i d v e h2
  · have h2 : SqL K H2 p vs := .inl (.inl (hk p _ rfl hp))
    refine ⟨fun hi => ?_, fun hi => ⟨vs, h2, by rw [List.length_map] at hi; omega⟩⟩
    rw [List.length_map] at hi
    have hv : i < vs.length := by omega
    refine ⟨⟨vs, vs[i], h2, List.getElem?_eq_getElem hv⟩, fun x H3 y => ?_⟩
    obtain ⟨e, y⟩ := y
    exact ⟨e, y vs h2⟩
theorem SI.list (ha : SE κ X W e ma) : SI κ X W tg e (iL ma) := (pi_list ha).imp fun σ H R h => by
  obtain ⟨H0, F, ρ, w, h⟩ := h
  refine outI.bind w h fun md d v H1 F1 g1 r1 w1 h1 => ?_
  cases d with
  | list ds =>
    cases md with
    | tmp =>
      obtain ⟨p, vs, es, e1, e2, e3, r⟩ := r1
      cases e1
      subst e2
      refine ⟨p, rfl, ⟨vs, .inl (.inl e3)⟩, h1 _ H1 F1 _ g1 (fun h => nomatch h) (iter_list e3 r.length fun i d v h1 h2 => ?_)⟩
      obtain ⟨v', e, rv⟩ := r.get h1
      rw [h2] at e; cases e
      exact ⟨v, rfl, rv⟩
    | bo =>
      cases r1 with
      | @lst p vs _ s e r =>
        refine ⟨p, rfl, ⟨vs, .inl (.inl e)⟩, h1 _ H1 F1 _ g1 (fun _ a ha => ?_) (iter_list e r.length fun i d v h1 h2 => ?_)⟩
        · subst ha
          exact s
        · obtain ⟨v', e, rv⟩ := r.get h1
          rw [h2] at e; cases e
          exact ⟨v, rfl, rv⟩
    | fz =>
      cases r1 with
      | @lst p vs _ s e r =>
        refine ⟨p, rfl, ⟨vs, .inl (.inl e)⟩, h1 _ H1 F1 _ g1 (fun _ a ha => ?_) (iter_list e r.length fun i d v h1 h2 => ?_)⟩
        · subst ha
          exact .inr s
        · obtain ⟨v', e, rv⟩ := r.get h1
          rw [h2] at e; cases e
          exact ⟨v, rfl, rv⟩
    | fr =>
      obtain ⟨F2, g2, sub, r2⟩ := RepM.freeze w.dom g1 r1
      cases r2 with
      | @lst p vs _ s e r =>
        refine ⟨p, rfl, ⟨vs, .inl (.inl e)⟩, h1 _ H1 F2 _ g2 (fun _ a ha => ?_) (iter_list e r.length fun i d v h1 h2 => ?_)⟩
        · subst ha
          exact .inr s
        · obtain ⟨v', e, rv⟩ := r.get h1
          rw [h2] at e; cases e
          exact ⟨v, rfl, rv⟩
  | _ => cases md <;> exact h1.elim
def smallR (i : Int) : Bool := decide (-(2 ^ 62) ≤ i) && decide (i < 2 ^ 62)
def rangeD (lo : Int) (n : Nat) : List (Md × D) := (List.range n).map fun (k : Nat) => (.fz, .int (lo + (k : Int)))
def iR1 (ma : Ev → RV) : Ev → RI := fun ρ => (ma ρ).bind fun x => match x with
  | (_, .int j) => if smallR j = true then .ok (false, rangeD 0 j.toNat) else .stuck
  | _ => .stuck
def iR2 (ma mb : Ev → RV) : Ev → RI := fun ρ => (ma ρ).bind fun x => (mb ρ).bind fun y => match x, y with
  | (_, .int i), (_, .int j) => if (smallR i && smallR j) = true then .ok (false, rangeD i (j - i).toNat) else .stuck
  | _, _ => .stuck
theorem iter_range {H0 H : Hp} {F : Addr → Prop} {lo : Int} {n : Nat} : IterOk H0 (Itr lo n) (fun _ => False) H F (rangeD lo n) := by
  refine ⟨(List.range n).map fun (k : Nat) => .int (lo + (k : Int)), by simp [rangeD], fun i x v h1 h2 => ?_, fun i H2 _ => ⟨fun hi => ?_, fun hi => ?_⟩⟩
  · by_cases hi : i < n
    · rw [List.getElem?_map, List.getElem?_range hi] at h2
      unfold rangeD at h1
      rw [List.getElem?_map, List.getElem?_range hi] at h1
      cases h1; cases h2
      exact ⟨_, rfl, .int _⟩
    · rw [List.getElem?_eq_none (by simp; omega)] at h2; cases h2
  · have hi' : i < n := by simpa [rangeD] using hi
    refine ⟨hi', fun x H3 y => ?_⟩
    obtain ⟨e1, e2⟩ := y
    refine ⟨e1, ?_⟩
    rw [List.getElem?_map, List.getElem?_range hi', e2]
    rfl
  · exact (by simpa [rangeD] using hi : n ≤ i)
theorem smallR_iff {i : Int} (h : smallR i = true) : -(2 ^ 62) ≤ i ∧ i < 2 ^ 62 := by
  simpa [smallR] using h
theorem SI.range1 {x : Expr} {p : Pos} (hg : Gl X "range") (hm : X.mg "range" = none) (ha : SE κ X W x ma) (hs : starEach [x] X.env = [(false, eval x X.env)] := by rfl) : SI κ X W tg (.Call (.Name "range" p) [x] [] pos) (iR1 ma) :=
  (pi_range1 hg hm (pa_cons ha pa_nil hs) hs).imp fun σ H R h => by
    obtain ⟨H0, F, ρ, w, h⟩ := h
    refine outI.bind w h fun md d v H1 F1 g1 r1 w1 h1 => ?_
    cases d with
    | int j =>
      simp only [] at h1
      split at h1
      · rename_i hj
        have := smallR_iff hj
        exact ⟨j, by rw [r1.int_inv], this.1, this.2, h1 _ H1 F1 _ g1 (fun _ a h => h.elim) iter_range⟩
      · exact h1.elim
    | _ => exact h1.elim
theorem SI.range2 {x y : Expr} {p : Pos} (hg : Gl X "range") (hm : X.mg "range" = none) (ha : SE κ X W x ma) (hb : SE κ X W y mb) (hs : starEach [x, y] X.env = [(false, eval x X.env), (false, eval y X.env)] := by rfl) (hs2 : starEach [y] X.env = [(false, eval y X.env)] := by rfl) : SI κ X W tg (.Call (.Name "range" p) [x, y] [] pos) (iR2 ma mb) :=
  (pi_range2 hg hm (pa_cons ha (pa_cons hb pa_nil hs2) (by rw [hs, hs2])) hs hs2).imp fun σ H R h => by
    obtain ⟨H0, F, ρ, w, h⟩ := h
    refine outI.bind w h fun m1 d1 v1 H1 F1 g1 r1 w1 h1 => ?_
    refine ⟨H0, F1, ρ, w1, ?_⟩
    cases e2 : mb ρ with
    | stuck => rw [e2] at h1; exact h1
    | raise c => rw [e2] at h1; exact fun H' F' g' => h1 H' F' (g1.trans g')
    | ok z =>
      obtain ⟨m2, d2⟩ := z
      rw [e2] at h1
      intro v2 H2 F2 g2 r2
      cases d1 <;> first
        | exact h1.elim
        | skip
      cases d2 <;> first
        | exact h1.elim
        | skip
      rename_i i j
      have h1 : outI (κ := κ) W H0 σ H F R (if (smallR i && smallR j) = true then .ok (false, rangeD i (j - i).toNat) else .stuck) := h1
      split at h1
      · rename_i hj
        rw [Bool.and_eq_true] at hj
        have q1 := smallR_iff hj.1
        have q2 := smallR_iff hj.2
        exact ⟨i, j, by rw [r1.int_inv, r2.int_inv], ⟨q1.1, q1.2, q2.1, q2.2⟩, h1 _ H2 F2 _ (g1.trans g2) (fun _ a h => h.elim) iter_range⟩
      · exact h1.elim
/-- over a tuple -/
def iT (ma : Ev → RV) : Ev → RI := fun ρ => (ma ρ).bind fun x => match x with
  | (.bo, .tuple ds) => .ok (false, ds.map fun d => (.bo, d))
  | (.fz, .tuple ds) => .ok (false, ds.map fun d => (.fz, d))
  | _ => .stuck
theorem iter_tup {K : PySem.W.Frag} {H0 H : Hp} {F : Addr → Prop} {p : Addr} {vs : List V} {ds : List D} {c : Md} (hp : H p = some (.tup vs)) (hl : vs.length = ds.length)
    (hr : ∀ (i : Nat) (d : D) (v : V), ds[i]? = some d → vs[i]? = some v → CellOk H0 F H (cellOf (c, d)) (some v)) : IterOk H0 (Itt K p) (fun a => a = p) H F (ds.map fun d => (c, d)) := by
  refine ⟨vs, by rw [hl, List.length_map], fun i x v h1 h2 => ?_, fun i H2 hk => ?_⟩
  · rw [List.getElem?_map] at h1
    cases e : ds[i]? with
    | none => rw [e] at h1; cases h1
    | some d => rw [e] at h1; cases h1; exact hr i d v e h2
  · have h2 : SqT K H2 p vs := .inl (.inl (hk p _ rfl hp))
    refine ⟨fun hi => ?_, fun hi => ⟨vs, h2, by rw [List.length_map] at hi; omega⟩⟩
    rw [List.length_map] at hi
    have hv : i < vs.length := by omega
    refine ⟨⟨vs, vs[i], h2, List.getElem?_eq_getElem hv⟩, fun x H3 y => ?_⟩
    obtain ⟨e, y⟩ := y
    exact ⟨e, y vs h2⟩
theorem SI.tup (ha : SE κ X W e ma) : SI κ X W tg e (iT ma) := (pi_tup ha).imp fun σ H R h => by
  obtain ⟨H0, F, ρ, w, h⟩ := h
  refine outI.bind w h fun md d v H1 F1 g1 r1 w1 h1 => ?_
  cases d with
  | tuple ds =>
    cases md with
    | tmp => exact h1.elim
    | fr => exact h1.elim
    | bo =>
      cases r1 with
      | @tup p vs _ s e r =>
        refine ⟨p, rfl, ⟨vs, .inl (.inl e)⟩, h1 _ H1 F1 _ g1 (fun _ a ha => ?_) (iter_tup e r.length fun i d v h1 h2 => ?_)⟩
        · subst ha
          exact s
        · obtain ⟨v', e, rv⟩ := r.get h1
          rw [h2] at e; cases e
          exact ⟨v, rfl, rv⟩
    | fz =>
      cases r1 with
      | @tup p vs _ s e r =>
        refine ⟨p, rfl, ⟨vs, .inl (.inl e)⟩, h1 _ H1 F1 _ g1 (fun _ a ha => ?_) (iter_tup e r.length fun i d v h1 h2 => ?_)⟩
        · subst ha
          exact .inr s
        · obtain ⟨v', e, rv⟩ := r.get h1
          rw [h2] at e; cases e
          exact ⟨v, rfl, rv⟩
  | _ => cases md <;> exact h1.elim

/-! ### displays -/
/-- the items, frozen as they come -/
abbrev RD := Res (Bool × List D)
def outD (W : WX) (H0 : Hp) (σ : St) (H : Hp) (F : Addr → Prop) (Q : List V → Hp → Prop) : RD → Prop
  | .ok (b, ds) => ∀ vs H' F', Grow H F H' F' → RepAll H' (Bo H0 F') vs ds → (b = true → RepAll H' F' vs ds) → Q vs H'
  | .raise c => ∀ H' F', Grow H F H' F' → W (.ref (κ c)) none σ H'
  | .stuck => False
def tD (W : WX) (m : Ev → RD) : TA := fun σ H Q => ∃ H0 F ρ, Wf H0 F σ ρ H ∧ outD (κ := κ) W H0 σ H F Q (m ρ)
abbrev SD (κ : Ex → Addr) (X : Cx) (W : WX) (es : List Expr) (m : Ev → RD) : Prop := PA X es (tD (κ := κ) W m)
@[simp] def dNil : Ev → RD := fun _ => .ok (true, [])
def dOne : Md × D → RD
  | (.tmp, _) => .stuck
  | (.bo, d) => .ok (scalar d, [d])
  | (_, d) => .ok (true, [d])
@[simp] def dCons (ma : Ev → RV) (ms : Ev → RD) : Ev → RD := fun ρ => (ma ρ).bind fun x => (dOne x).bind fun y => (ms ρ).bind fun z => .ok (y.1 && z.1, y.2 ++ z.2)
theorem SD.nil : SD κ X W [] dNil := pa_nil.imp fun σ H Q h => by
  obtain ⟨H0, F, ρ, w, h⟩ := h
  exact h [] H F .refl .nil fun _ => .nil
/-- one thing, frozen -/
theorem freeze1 {H0 H H1 : Hp} {F F1 : Addr → Prop} {v : V} {md : Md} {d : D} {b : Bool} {ds : List D} (hw : ∀ a, F a → ∃ o, H a = some o) (g : Grow H F H1 F1) (r : RepM H0 md H H1 F1 v d) (e : dOne (md, d) = .ok (b, ds)) :
    ∃ F2, Grow H F H1 F2 ∧ (∀ a, F1 a → F2 a) ∧ ds = [d] ∧ Rep H1 (Bo H0 F2) v d ∧ (b = true → Rep H1 F2 v d) := by
  cases md with
  | tmp => cases e
  | bo =>
    cases e
    exact ⟨F1, g, fun _ h => h, rfl, r, fun h => Rep.scalar r h⟩
  | fz =>
    cases e
    exact ⟨F1, g, fun _ h => h, rfl, Rep.mono (fun _ h => .inr h) (fun _ _ _ e => e) r, fun _ => r⟩
  | fr =>
    cases e
    obtain ⟨F2, g2, s, q⟩ := RepM.freeze hw g r
    exact ⟨F2, g2, s, rfl, q.mono (fun _ h => .inr h) fun _ _ _ e => e, fun _ => q⟩
theorem SD.cons (ha : SE κ X W e ma) {md' : Ev → RD} (hr : SD κ X W es md') (hs : starEach (e :: es) X.env = (false, eval e X.env) :: starEach es X.env := by rfl) : SD κ X W (e :: es) (dCons ma md') := (pa_cons ha hr hs).imp fun σ H Q h => by
  obtain ⟨H0, F, ρ, w, h⟩ := h
  refine ⟨H0, F, ρ, w, ?_⟩
  unfold dCons at h
  cases ea : ma ρ with
  | stuck => rw [ea] at h; exact h
  | raise c => rw [ea] at h; exact h
  | ok x =>
    rw [ea] at h
    obtain ⟨md, d⟩ := x
    intro v H1 F1 g1 r1
    cases eo : dOne (md, d) with
    | stuck => simp only [Res.bind, eo] at h; exact h.elim
    | raise c => cases md <;> cases eo
    | ok y =>
      simp only [Res.bind, eo] at h
      obtain ⟨b, ds⟩ := y
      obtain ⟨F2, g2, s2, rfl, q1, q2⟩ := freeze1 w.dom g1 r1 eo
      refine ⟨H0, F2, ρ, w.grow g2, ?_⟩
      cases em : md' ρ with
      | stuck => rw [em] at h; exact h
      | raise c => rw [em] at h; exact fun H' F' g' => h H' F' (g2.trans g')
      | ok z =>
        rw [em] at h
        obtain ⟨b', es'⟩ := z
        intro vs H3 F3 g3 r3 r3'
        refine h (v :: vs) H3 F3 (g2.trans g3) (.cons (q1.mono (fun a h => h.imp id (g3.sub a)) fun _ _ _ e => g3.ext _ _ e) r3) fun hb => ?_
        rw [Bool.and_eq_true] at hb
        exact .cons ((q2 hb.1).mono g3.sub fun _ _ _ e => g3.ext _ _ e) (r3' hb.2)
def mLst (m : Ev → RD) : Ev → RV := fun ρ => (m ρ).bind fun x => if x.2.length ≤ 16777216 then .ok (mdL x.1, .list x.2) else .stuck
def mTup (m : Ev → RD) : Ev → RV := fun ρ => (m ρ).bind fun x => if x.2.length ≤ 16777216 then .ok (if x.1 then .fz else .bo, .tuple x.2) else .stuck
theorem outE.bindD {mt : Ev → RD} {H0 : Hp} {σ : St} {ρ : Ev} {H : Hp} {F : Addr → Prop} {Q : VK} {Q' : List V → Hp → Prop} {f : Bool × List D → RV} (w : Wf H0 F σ ρ H) (h : outE κ W H0 σ H F Q ((mt ρ).bind f))
    (k : ∀ b ds vs H1 F1, Grow H F H1 F1 → RepAll H1 (Bo H0 F1) vs ds → (b = true → RepAll H1 F1 vs ds) → Wf H0 F1 σ ρ H1 → outE κ W H0 σ H1 F1 Q (f (b, ds)) → Q' vs H1) : tD (κ := κ) W mt σ H Q' := by
  refine ⟨H0, F, ρ, w, ?_⟩
  cases e : mt ρ with
  | ok xs =>
    rw [e] at h
    exact fun vs H1 F1 g r r' => k _ _ vs H1 F1 g r r' (w.grow g) (outE.back g h)
  | raise c => rw [e] at h; exact h
  | stuck => rw [e] at h; exact h
theorem SE.lst {md' : Ev → RD} (h : SD κ X W es md') : SE κ X W (.List es pos) (mLst md') := (pe_lst h).imp fun σ H Q h => by
  obtain ⟨H0, F, ρ, w, h⟩ := h
  refine outE.bindD w h fun b ds vs H1 F1 g1 r1 r2 w1 h1 => ?_
  simp only [] at h1
  split at h1
  · rename_i hl
    refine ⟨by rw [r1.length, sl16]; exact hl, fun p hp => ?_⟩
    obtain ⟨F', g, r⟩ := newList (b := b) w1 hp r1 r2
    exact h1 _ _ F' g r
  · exact h1.elim
theorem SE.tup {md' : Ev → RD} {x1} (h : SD κ X W es md') : SE κ X W (.Tuple es x1 pos) (mTup md') := (pe_tup h).imp fun σ H Q h => by
  obtain ⟨H0, F, ρ, w, h⟩ := h
  refine outE.bindD w h fun b ds vs H1 F1 g1 r1 r2 w1 h1 => ?_
  simp only [] at h1
  split at h1
  · rename_i hl
    refine ⟨by rw [r1.length, sl16]; exact hl, fun p hp => ?_⟩
    obtain ⟨F', g, r⟩ := newTup w1 hp r1 b r2
    exact h1 _ _ F' g r
  · exact h1.elim
/-- {} -/
theorem SE.dict : SE κ X W (.Dict [] [] pos) (mC (.dict [])) := pe_dnewK.imp fun σ H Q h => by
  obtain ⟨H0, F, ρ, w, h⟩ := h
  intro p hp
  have k : ∀ a o, H a = some o → upd H p (.dK []) a = some o := fun a o e => by rw [upd_ne (ne_of_none e hp)]; exact e
  refine h _ _ (fun a => F a ∨ a = p) ⟨k, fun _ h => .inl h, fun a h => ?_⟩ (.dct (.inr rfl) upd_same)
  rcases h with h | h
  · exact .inl h
  · subst h
    exact .inr ⟨hp, _, upd_same⟩

/-! ### comprehensions -/
def compGo (body : Md × D → Res (Option (Md × D))) : List (Md × D) → Bool → List D → RD
  | [], b, acc => .ok (b, acc)
  | x :: r, b, acc => match body x with
    | .ok none => compGo body r b acc
    | .ok (some y) => match dOne y with
      | .ok (b', _) => compGo body r (b && b') (acc ++ [y.2])
      | _ => .stuck
    | _ => .stuck
def compBody (j : Nat) (mt : Ev → Res Bool) (me : Ev → RV) (ρ : Ev) : Md × D → Res (Option (Md × D)) := fun x =>
  (mt (ρ.set j (cellOf x))).bind fun c => if c = true then (me (ρ.set j (cellOf x))).bind fun y => .ok (some y) else .ok none
def mComp (mi : Ev → RI) (j : Nat) (mt : Ev → Res Bool) (me : Ev → RV) : Ev → RV := fun ρ => (mi ρ).bind fun x => if x.2.length ≤ 16777216 then (compGo (compBody j mt me ρ) x.2 true []).bind fun y => .ok (mdL y.1, .list y.2) else .stuck
/-- no exception -/
abbrev W0 : WX := fun _ _ _ _ => False
@[simp] def tYesM : Ev → Res Bool := fun _ => .ok true
theorem _root_.L2.PTs.imp {X : Cx} {e : List Expr} {t t' : TT} (h : PTs X e t) (hi : ∀ σ H Q, t' σ H Q → t σ H Q) : PTs X e t' := ⟨fun pins s σ H Q I q => h.run pins s σ H Q I (hi σ H Q q)⟩
abbrev STs (κ : Ex → Addr) (X : Cx) (W : WX) (e : List Expr) (m : Ev → Res Bool) : Prop := PTs X e (tT (κ := κ) W m)
theorem STs.nil : STs κ X W [] tYesM := pts_nil.imp fun σ H Q h => by
  obtain ⟨H0, F, ρ, w, h⟩ := h
  exact h H F .refl
theorem STs.one {c : Expr} {m : Ev → Res Bool} (h : ST κ X W c m) : STs κ X W [c] m := pts_one h
theorem comp_run {mi : Ev → RI} {j : Nat} {mt : Ev → Res Bool} {me : Ev → RV} {σ : St} {H : Hp} {Q : VK} (h : tE κ W (mComp mi j mt me) σ H Q) : tLc (tI (κ := κ) W mi) (gName j) (tT (κ := κ) W0 mt) (tE κ W0 me) [j] σ H Q := by
  obtain ⟨H0, F0, ρ, w, h⟩ := h
  refine ⟨H0, F0, ρ, w, ?_⟩
  unfold mComp at h
  cases ei : mi ρ with
  | stuck => rw [ei] at h; exact h
  | raise c => rw [ei] at h; exact h
  | ok z =>
  rw [ei] at h
  obtain ⟨loose, items⟩ := z
  intro J H1 F1 S g1 _ it D hD
  obtain ⟨xs, hlen, hcell, hiter⟩ := it
  have w1 := w.grow g1
  simp only [Res.bind] at h
  split at h
  case isFalse => exact h.elim
  rename_i hsz
  have hH0 : H0 D = none := by
    cases e : H0 D with
    | none => rfl
    | some o => rw [w1.ext _ _ e] at hD; cases hD
  have nF1 : ¬ F1 D := fun z => by
    obtain ⟨o, e⟩ := w1.dom D z
    rw [hD] at e; cases e
  let Pv : Nat → Hp → Prop := fun i H' => ∃ F b acc ds, Grow H1 F1 H' F ∧ ¬ F D ∧ H' D = some (.lst acc) ∧ RepAll H' (Bo H0 F) acc ds ∧ (b = true → RepAll H' F acc ds) ∧ acc.length ≤ i ∧
    outE κ W H0 σ H F0 Q ((compGo (compBody j mt me ρ) (items.drop i) b ds).bind fun y => .ok (mdL y.1, .list y.2))
  refine ⟨fun i m H' => m = items.length - i ∧ i ≤ items.length ∧ Pv i H', ⟨items.length, by simp, Nat.zero_le _, F1, true, [], [], ?_, nF1, upd_same, .nil, fun _ => .nil, Nat.le_refl _, ?_⟩, ?_⟩
  · exact ⟨fun a o e => by rw [upd_ne (ne_of_none e hD)]; exact e, fun _ h => h, fun _ h => .inl h⟩
  · rw [List.drop_zero]
    exact h
  rintro i m H' ⟨rfl, hi, F, b, acc, ds, g, nF, hacc, r1, r2, hal, ho⟩
  have it2 := hiter i H' fun a o _ e => g.ext a o e
  by_cases hlt : i < items.length
  case neg =>
    have e : i = items.length := by omega
    subst e
    refine .inl ⟨it2.2 (Nat.le_refl _), ?_⟩
    rw [List.drop_length] at ho
    have gg : Grow H F0 H' F := g1.trans g
    cases b with
    | true => exact ho _ _ _ gg ⟨D, acc, ds, rfl, rfl, hacc, r2 rfl, g1.none hD, nF⟩
    | false =>
      refine ho _ _ (fun a => F a ∨ a = D) ⟨gg.ext, fun a h => .inl (gg.sub a h), fun a h => ?_⟩ (.lst (.inr (.inr rfl)) hacc (r1.mono (fun a h => h.imp id .inl) fun _ _ _ e => e))
      rcases h with h | h
      · exact gg.new a h
      · subst h
        exact .inr ⟨g1.none hD, _, hacc⟩
  have hx := List.getElem?_eq_getElem hlt
  refine .inr ⟨(it2.1 hlt).1, Pv (i + 1), fun H'' p' => ⟨items.length - (i + 1), by omega, rfl, hlt, p'⟩, fun x H2 y => ?_⟩
  obtain ⟨e2, ex⟩ := (it2.1 hlt).2 x H2 y
  subst e2
  have hc1 : CellOk H0 F1 H1 (cellOf items[i]) (some x) := hcell i _ x hx ex
  have w2 : Wf H0 F σ ρ H2 := w1.grow g
  have hc2 : CellOk H0 F H2 (cellOf items[i]) (some x) := by
    revert hc1
    generalize items[i] = z
    obtain ⟨md, d⟩ := z
    intro hc1
    cases md <;> (obtain ⟨x', e, r⟩ := hc1; exact ⟨x', e, r.mono (fun a h => by first | exact h.imp id (g.sub a) | exact g.sub a h) fun a o _ e => g.ext _ _ e⟩)
  have eσ : (wipe σ [j]).set j (some x) = σ.set j (some x) := by
    show (σ.set j none).set j (some x) = _
    rw [List.set_set]
  have w3 : Wf H0 F ((wipe σ [j]).set j (some x)) (ρ.set j (cellOf items[i])) H2 := by
    rw [eσ]
    exact w2.put hc2 (cellOf_ow _)
  have ed : items.drop i = items[i] :: items.drop (i + 1) := List.drop_eq_getElem_cons hlt
  rw [ed] at ho
  unfold compGo at ho
  show (_ ∧ _)
  refine ⟨by rw [eσ]; show (σ.set j (some x)).set j none = σ.set j none; rw [List.set_set], H0, F, _, w3, ?_⟩
  cases et : mt (ρ.set j (cellOf items[i])) with
  | stuck => simp only [compBody, et, Res.bind] at ho; exact ho.elim
  | raise c => simp only [compBody, et, Res.bind] at ho; exact ho.elim
  | ok c =>
  simp only [compBody, et, Res.bind] at ho
  intro H3 F3 g3
  have w4 := w3.grow g3
  have nF3 : ¬ F3 D := fun z => by
    rcases g3.new D z with q | ⟨q, _⟩
    · exact nF q
    · rw [hacc] at q; cases q
  cases c with
  | false =>
    simp only [Bool.false_eq_true, if_false] at ho ⊢
    exact ⟨F3, b, acc, ds, g.trans g3, nF3, g3.ext _ _ hacc, r1.mono (fun a h => h.imp id (g3.sub a)) fun a o _ e => g3.ext _ _ e, fun hb => (r2 hb).mono g3.sub fun a o _ e => g3.ext _ _ e, by omega, ho⟩
  | true =>
    simp only [if_true] at ho ⊢
    refine ⟨H0, F3, _, w4, ?_⟩
    cases ee : me (ρ.set j (cellOf items[i])) with
    | stuck => simp only [ee] at ho; exact ho.elim
    | raise c => simp only [ee] at ho; exact ho.elim
    | ok y' =>
    obtain ⟨md, d⟩ := y'
    simp only [ee] at ho
    intro v H4 F4 g4 r4
    cases eo : dOne (md, d) with
    | stuck => simp only [eo] at ho; exact ho.elim
    | raise c => cases md <;> cases eo
    | ok q =>
    obtain ⟨b', ds'⟩ := q
    simp only [eo] at ho
    obtain ⟨F5, g5, s5, _, q1, q2⟩ := freeze1 w4.dom g4 r4 eo
    have h3 : H3 D = some (.lst acc) := g3.ext _ _ hacc
    have h4 : H4 D = some (.lst acc) := g4.ext _ _ h3
    have nF5 : ¬ F5 D := fun z => by
      rcases g5.new D z with q | ⟨q, _⟩
      · exact nF3 q
      · rw [h3] at q; cases q
    have gg : Grow H1 F1 H4 F5 := (g.trans g3).trans g5
    have nb : ∀ a, Bo H0 F5 a → a ≠ D := fun a h z => by
      subst z
      rcases h with ⟨o, h⟩ | h
      · rw [hH0] at h; cases h
      · exact nF5 h
    refine ⟨acc, h4, by rw [sl16]; omega, F5, b && b', acc ++ [v], ds ++ [d], ⟨fun a o e => ?_, gg.sub, fun a h => ?_⟩, nF5, upd_same, ?_, fun hb => ?_, ?_, ho⟩
    · rw [upd_ne (ne_of_none e hD)]
      exact gg.ext _ _ e
    · rcases gg.new a h with q | ⟨q, o, z⟩
      · exact .inl q
      · exact .inr ⟨q, o, by rw [upd_ne (nb a (.inr h))]; exact z⟩
    · refine RepAll.append (r1.mono (fun a h => h.imp id fun h => g5.sub a (g3.sub a h)) fun a o s e => ?_) (.cons (q1.mono (fun _ h => h) fun a o s e => ?_) .nil)
      · rw [upd_ne (nb a (s.imp id fun h => g5.sub a (g3.sub a h)))]
        exact g4.ext _ _ (g3.ext _ _ e)
      · rw [upd_ne (nb a s)]; exact e
    · rw [Bool.and_eq_true] at hb
      refine RepAll.append ((r2 hb.1).mono (fun a h => g5.sub a (g3.sub a h)) fun a o s e => ?_) (.cons ((q2 hb.2).mono (fun _ h => h) fun a o s e => ?_) .nil)
      · rw [upd_ne (nb a (.inr (g5.sub a (g3.sub a s))))]
        exact g4.ext _ _ (g3.ext _ _ e)
      · rw [upd_ne (nb a (.inr s))]; exact e
    · rw [List.length_append]
      simp only [List.length_cons, List.length_nil]
      omega
variable {elt : Expr} {ifs : List Expr} {scope : Scope} {j : Nat} {x : Str}
theorem SE.comp {mi : Ev → RI} {mt : Ev → Res Bool} {me : Ev → RV} {xp : Pos} (hc : X.calm = true) (hN : X.N.Nodup) (hi : SI κ X W (.Name x xp) iter mi) (ok : BlkOk X.N X.env.scope scope [(x, j)])
    (hg : ∀ (s : Shared) (H : Hp) (C : Addr) (cl : List (Str × Addr)) (fp : List Addr), PG (X.blk s H scope (compEnvC scope cl C X.env) fp) (.Name x xp) (gName j))
    (ht : ∀ (s : Shared) (H : Hp) (C : Addr) (cl : List (Str × Addr)) (fp : List Addr), STs κ (X.blk s H scope (compEnvC scope cl C X.env) fp) W0 ifs mt)
    (he : ∀ (s : Shared) (H : Hp) (C : Addr) (cl : List (Str × Addr)) (fp : List Addr), SE κ (X.blk s H scope (compEnvC scope cl C X.env) fp) W0 elt me) (hs : ∀ x, foldedSetIterable iter X.env x = pure x := by intro _; rfl) :
    SE κ X W (.ListComp elt [⟨.Name x xp, iter, ifs, 0⟩] scope pos) (mComp mi j mt me) := (pe_lc (own := [(x, j)]) hc hN hi ok hg ht he hs).imp fun σ H Q h => comp_run h
theorem takes_blk {X : Cx} {s : Shared} {H : Hp} {cenv : Env} {fp : List Addr} : Takes (X.blk s H scope cenv fp) W0 := fun u s' ⟨_, _, _, _, _, _, _, _, _, _, _, _, _, _, _, _, z⟩ => z.elim
end
end L2.Xq
set_option Elab.async false
set_option linter.all false
set_option maxRecDepth 100000
set_option maxHeartbeats 4000000
namespace L2.Xq
open PySem PySem.Spec PyProof.Rows
/-! ### statements -/
inductive SR where
  | next (ρ : Ev) | ret (d : D) | retb (d : D) | brk (ρ : Ev) | cont (ρ : Ev) | raise (c : Ex) | stuck
/-- what is frozen stays -/
def Stp (F : Addr → Prop) (H : Hp) (F' : Addr → Prop) (H' : Hp) : Prop := ∀ a, F a → F' a ∧ H' a = H a
theorem Stp.refl {F : Addr → Prop} {H : Hp} : Stp F H F H := fun _ h => ⟨h, rfl⟩
theorem Stp.trans {F F1 F2 : Addr → Prop} {H H1 H2 : Hp} (a : Stp F H F1 H1) (b : Stp F1 H1 F2 H2) : Stp F H F2 H2 := fun x h => ⟨(b x (a x h).1).1, (b x (a x h).1).2.trans (a x h).2⟩
theorem Grow.stp {H0 H H' : Hp} {F F' : Addr → Prop} {σ : St} {ρ : Ev} (w : Wf H0 F σ ρ H) (g : Grow H F H' F') : Stp F H F' H' := fun a h => by
  obtain ⟨o, e⟩ := w.dom a h
  exact ⟨g.sub a h, by rw [g.ext _ _ e, e]⟩
section
variable {κ : Ex → Addr}
def outS (κ : Ex → Addr) (W : WX) (H0 : Hp) (H : Hp) (F : Addr → Prop) (D' : Ends) : SR → Prop
  | .next ρ' => ∀ σ' H' F', Stp F H F' H' → Wf H0 F' σ' ρ' H' → D'.nx σ' H'
  | .brk ρ' => ∀ σ' H' F', Stp F H F' H' → Wf H0 F' σ' ρ' H' → D'.bk σ' H'
  | .cont ρ' => ∀ σ' H' F', Stp F H F' H' → Wf H0 F' σ' ρ' H' → D'.ct σ' H'
  | .ret d => ∀ v H' (S : Addr → Prop), (∀ a o, H0 a = some o → H' a = some o) → (∀ a, S a → H0 a = none ∧ ∃ o, H' a = some o) → Rep H' S v d → D'.rt v H'
  | .retb d => ∀ v H', (∀ a o, H0 a = some o → H' a = some o) → Rep H' All v d → D'.rt v H'
  | .raise c => ∀ σ' H', (∀ a o, H0 a = some o → H' a = some o) → W (.ref (κ c)) none σ' H'
  | .stuck => False
def tS (κ : Ex → Addr) (W : WX) (m : Ev → SR) : TS := fun D' σ H => ∃ H0 F ρ, Wf H0 F σ ρ H ∧ outS κ W H0 H F D' (m ρ)
abbrev SS (κ : Ex → Addr) (X : Cx) (W : WX) (st : Stmt) (m : Ev → SR) : Prop := PS X st (tS κ W m)
abbrev SSs (κ : Ex → Addr) (X : Cx) (W : WX) (st : List Stmt) (m : Ev → SR) : Prop := PSs X st (tS κ W m)
theorem outS.back {W : WX} {H0 : Hp} {H H1 : Hp} {F F1 : Addr → Prop} {D' : Ends} {r : SR} (s : Stp F H F1 H1) (h : outS κ W H0 H F D' r) : outS κ W H0 H1 F1 D' r := by
  cases r with
  | next ρ' => exact fun σ' H' F' s' => h σ' H' F' (s.trans s')
  | brk ρ' => exact fun σ' H' F' s' => h σ' H' F' (s.trans s')
  | cont ρ' => exact fun σ' H' F' s' => h σ' H' F' (s.trans s')
  | ret d => exact h
  | retb d => exact h
  | raise c => exact h
  | stuck => exact h
end
def Res.sr {α : Type} (r : Res α) (f : α → SR) : SR := match r with
  | .ok a => f a
  | .raise c => .raise c
  | .stuck => .stuck
def SR.seq (r : SR) (f : Ev → SR) : SR := match r with
  | .next ρ => f ρ
  | r => r
section
variable {κ : Ex → Addr} {X : Cx} {W : WX} {a b e tg iter : Expr} {es : List Expr} {pos : Pos} {ma mb : Ev → RV} {st : Stmt} {sts : List Stmt} {m n : Ev → SR}
theorem outS.bind {H0 : Hp} {σ : St} {ρ : Ev} {H : Hp} {F : Addr → Prop} {D' : Ends} {Q' : VK} {f : Md × D → SR} (w : Wf H0 F σ ρ H) (h : outS κ W H0 H F D' ((ma ρ).sr f))
    (k : ∀ md d v H1 F1, Grow H F H1 F1 → RepM H0 md H H1 F1 v d → Wf H0 F1 σ ρ H1 → outS κ W H0 H F D' (f (md, d)) → Q' v H1) : tE κ W ma σ H Q' := by
  refine ⟨H0, F, ρ, w, ?_⟩
  cases e : ma ρ with
  | ok x =>
    obtain ⟨md, d⟩ := x
    rw [e] at h
    exact fun v H1 F1 g r => k md d v H1 F1 g r (w.grow g) h
  | raise c => rw [e] at h; exact fun H' F' g => h σ H' fun a o e => g.ext _ _ (w.ext _ _ e)
  | stuck => rw [e] at h; exact h
theorem outS.bindT {mt : Ev → Res Bool} {H0 : Hp} {σ : St} {ρ : Ev} {H : Hp} {F : Addr → Prop} {D' : Ends} {Q' : Bool → Hp → Prop} {f : Bool → SR} (w : Wf H0 F σ ρ H) (h : outS κ W H0 H F D' ((mt ρ).sr f))
    (k : ∀ b H1 F1, Grow H F H1 F1 → Wf H0 F1 σ ρ H1 → outS κ W H0 H1 F1 D' (f b) → Q' b H1) : tT (κ := κ) W mt σ H Q' := by
  refine ⟨H0, F, ρ, w, ?_⟩
  cases e : mt ρ with
  | ok b =>
    rw [e] at h
    exact fun H1 F1 g => k b H1 F1 g (w.grow g) (outS.back (g.stp w) h)
  | raise c => rw [e] at h; exact fun H' F' g => h σ H' fun a o e => g.ext _ _ (w.ext _ _ e)
  | stuck => rw [e] at h; exact h
/-! #### blocks -/
@[simp] def sNext : Ev → SR := fun ρ => .next ρ
@[simp] def sSeq (m n : Ev → SR) : Ev → SR := fun ρ => (m ρ).seq n
theorem SSs.nil : SSs κ X W [] sNext := pss_nil.imp fun D' σ H h => by
  obtain ⟨H0, F, ρ, w, h⟩ := h
  exact h σ H F .refl w
theorem seq_run {D' : Ends} {σ : St} {H : Hp} (h : tS κ W (sSeq m n) D' σ H) : tSeq (tS κ W m) (tS κ W n) D' σ H := by
  obtain ⟨H0, F, ρ, w, h⟩ := h
  refine ⟨H0, F, ρ, w, ?_⟩
  unfold sSeq at h
  cases e : m ρ with
  | next ρ' =>
    rw [e] at h
    intro σ' H' F' s w'
    exact ⟨H0, F', ρ', w', outS.back s h⟩
  | _ => rw [e] at h; exact h
theorem SSs.cons (h1 : SS κ X W st m) (h2 : SSs κ X W sts n) : SSs κ X W (st :: sts) (sSeq m n) := (pss_cons h1 h2).imp fun D' σ H h => seq_run h
theorem SSs.one (h1 : SS κ X W st m) : SSs κ X W [st] m := pss_one h1
theorem SS.pass : SS κ X W (.Pass pos) sNext := ps_pass.imp fun D' σ H h => by
  obtain ⟨H0, F, ρ, w, h⟩ := h
  exact h σ H F .refl w
theorem SS.brk : SS κ X W (.Break pos) (fun ρ => .brk ρ) := ps_break.imp fun D' σ H h => by
  obtain ⟨H0, F, ρ, w, h⟩ := h
  exact h σ H F .refl w
theorem SS.cont : SS κ X W (.Continue pos) (fun ρ => .cont ρ) := ps_continue.imp fun D' σ H h => by
  obtain ⟨H0, F, ρ, w, h⟩ := h
  exact h σ H F .refl w
/-! #### an own list that goes out of hand is frozen -/
def frzC (i : Nat) (ρ : Ev) : Ev := match ρ[i]? with
  | some (.ow ds) => ρ.set i (.fz (.list ds))
  | _ => ρ
theorem Wf.frz {H0 H : Hp} {F : Addr → Prop} {σ : St} {ρ : Ev} (w : Wf H0 F σ ρ H) (i : Nat) : ∃ F', Stp F H F' H ∧ Wf H0 F' σ (frzC i ρ) H := by
  unfold frzC
  split
  · rename_i ds e
    have hi : i < ρ.length := (List.getElem?_eq_some_iff.mp e).1
    have hs : i < σ.length := by rw [w.len]; exact hi
    have es := List.getElem?_eq_getElem hs
    obtain ⟨p, xs, ev, hp, nf, n0, r⟩ := w.cell i _ _ e es
    have w2 : Wf H0 (fun a => F a ∨ a = p) σ (ρ.set i .un) H := by
      refine ⟨by rw [List.length_set, w.len], fun j c v h1 h2 => ?_, fun j k ds' es' p' hjk h1 h2 h3 h4 => ?_, w.ext, fun a h => ?_, fun a h => ?_⟩
      · by_cases hj : i = j
        · subst hj
          rw [List.getElem?_set_self hi] at h1
          cases h1
          trivial
        · rw [List.getElem?_set_ne hj] at h1
          have q := w.cell j c v h1 h2
          cases c with
          | un => trivial
          | scr K a ns => exact q
          | adr a => exact q
          | at_ p d => exact ⟨q.1, q.2.mono (fun _ h => h.imp id Or.inl) fun _ _ _ e => e⟩
          | bo d =>
            obtain ⟨x, e, r⟩ := q
            exact ⟨x, e, r.mono (fun _ h => h.imp id Or.inl) fun _ _ _ e => e⟩
          | fz d =>
            obtain ⟨x, e, r⟩ := q
            exact ⟨x, e, r.mono (fun _ h => .inl h) fun _ _ _ e => e⟩
          | ow es' =>
            obtain ⟨p', xs', e', hp', nf', n0', r'⟩ := q
            refine ⟨p', xs', e', hp', fun z => ?_, n0', r'.mono (fun _ h => .inl h) fun _ _ _ e => e⟩
            rcases z with z | z
            · exact nf' z
            · subst z
              exact w.apart i j ds es' p' hj e h1 (by rw [es, ev]) (by rw [h2, e'])
      · have ne : ∀ m es, (ρ.set i .un)[m]? = some (.ow es) → i ≠ m := fun m es h e => by
          subst e
          rw [List.getElem?_set_self hi] at h; cases h
        have n1 := ne j _ h1
        have n2 := ne k _ h2
        rw [List.getElem?_set_ne n1] at h1
        rw [List.getElem?_set_ne n2] at h2
        exact w.apart j k ds' es' p' hjk h1 h2 h3 h4
      · rcases h with h | h
        · exact w.new a h
        · subst h; exact n0
      · rcases h with h | h
        · exact w.dom a h
        · subst h; exact ⟨_, hp⟩
    refine ⟨fun a => F a ∨ a = p, fun a h => ⟨Or.inl h, rfl⟩, ?_⟩
    have w3 := w2.put (i := i) (c := .fz (.list ds)) (v := σ[i]) ⟨_, ev, .lst (.inr rfl) hp (r.mono (fun _ h => .inl h) fun _ _ _ e => e)⟩ (fun _ h => nomatch h)
    rw [List.set_set] at w3
    have e2 : σ.set i σ[i] = σ := List.set_getElem_self hs
    rw [e2] at w3
    exact w3
  · exact ⟨F, .refl, w⟩
@[simp] def sFrz (i : Nat) (m : Ev → SR) : Ev → SR := fun ρ => m (frzC i ρ)
theorem SS.frz (i : Nat) (h : SS κ X W st m) : SS κ X W st (sFrz i m) := h.imp fun D' σ H h => by
  obtain ⟨H0, F, ρ, w, h⟩ := h
  obtain ⟨F', s, w'⟩ := w.frz i
  exact ⟨H0, F', _, w', outS.back s h⟩
/-! #### x = e -/
def asgV (i : Nat) (ρ : Ev) : Md × D → SR
  | (.fr, .list ds) => .next (ρ.set i (.ow ds))
  | (.fz, d) => .next (ρ.set i (.fz d))
  | (.bo, d) => .next (ρ.set i (if scalar d then .fz d else .bo d))
  | _ => .stuck
theorem asg_run {H0 H H1 : Hp} {F F1 : Addr → Prop} {σ : St} {ρ : Ev} {md : Md} {d : D} {v : V} {i : Nat} {D' : Ends} (w : Wf H0 F σ ρ H) (g : Grow H F H1 F1) (r : RepM H0 md H H1 F1 v d) (h : outS κ W H0 H F D' (asgV i ρ (md, d))) : D'.nx (σ.set i (some v)) H1 := by
  have w1 := w.grow g
  have s := g.stp w
  cases md with
  | tmp => exact h.elim
  | bo =>
    refine h _ _ F1 s (w1.put ?_ (by intro ds; split <;> (intro z; cases z)))
    split
    · rename_i hs
      exact ⟨v, rfl, Rep.scalar r hs⟩
    · exact ⟨v, rfl, r⟩
  | fz => exact h _ _ F1 s (w1.put ⟨v, rfl, r⟩ (fun _ z => nomatch z))
  | fr =>
    obtain ⟨p, xs, ds, rfl, rfl, hp, q, n, nf⟩ := r
    refine h _ _ F1 s (w1.putOw hp nf ?_ q fun j es ej sj => ?_)
    · cases e : H0 p with
      | none => rfl
      | some o => rw [w.ext _ _ e] at n; cases n
    · obtain ⟨p', xs', e', hp', _⟩ := w.cell j _ _ ej sj
      cases e'
      rw [n] at hp'; cases hp'
@[simp] def sAsg (i : Nat) (m : Ev → RV) : Ev → SR := fun ρ => (m ρ).sr (asgV i ρ)
theorem asgS_run {i : Nat} {D' : Ends} {σ : St} {H : Hp} (h : tS κ W (sAsg i ma) D' σ H) : tAsg (tE κ W ma) (gName i) D' σ H := by
  obtain ⟨H0, F, ρ, w, h⟩ := h
  exact outS.bind w h fun md d v H1 F1 g1 r1 w1 h1 => asg_run w g1 r1 h1
theorem SS.asg {x : Str} {i : Nat} {xp : Pos} (hN : X.N.Nodup) (hi : X.N[i]? = some x) (hl : Loc X.env.scope x) (h : SE κ X W e ma)
    (hs : swapsWith e (some (.Name x xp)) pos.line X.env = pure false := by rfl) (hf : X.fn x = true ∨ X.env.scope.names.lookup x = some .local := by first | exact .inl rfl | exact .inr rfl) : SS κ X W (.Assign [.Name x xp] e pos) (sAsg i ma) :=
  (ps_set hN hi hl h hs hf).imp fun D' σ H h => asgS_run h
/-- x = [..] on one line -/
theorem SS.asgLc {x y : Str} {i j : Nat} {xp py spos : Pos} {elt : Expr} {ifs : List Expr} {scope : Scope} {mi : Ev → RI} {mt : Ev → Res Bool} {me : Ev → RV} (hc : X.calm = true) (hN : X.N.Nodup) (hy : X.N[i]? = some y) (hyl : X.env.scope.names.lookup y = some .local)
    (hsw : swapsWith (.ListComp elt [⟨.Name x xp, iter, ifs, 0⟩] scope pos) (some (.Name y py)) spos.line X.env = pure true) (hi : SI κ X W (.Name x xp) iter mi) (ok : BlkOk X.N X.env.scope scope [(x, j)])
    (hg : ∀ (s : Shared) (H : Hp) (C : Addr) (cl : List (Str × Addr)) (fp : List Addr), PG (X.blk s H scope (compEnvC scope cl C X.env) fp) (.Name x xp) (gName j))
    (ht : ∀ (s : Shared) (H : Hp) (C : Addr) (cl : List (Str × Addr)) (fp : List Addr), STs κ (X.blk s H scope (compEnvC scope cl C X.env) fp) W0 ifs mt)
    (he : ∀ (s : Shared) (H : Hp) (C : Addr) (cl : List (Str × Addr)) (fp : List Addr), SE κ (X.blk s H scope (compEnvC scope cl C X.env) fp) W0 elt me) (hs : ∀ x, foldedSetIterable iter X.env x = pure x := by intro _; rfl) :
    SS κ X W (.Assign [.Name y py] (.ListComp elt [⟨.Name x xp, iter, ifs, 0⟩] scope pos) spos) (sAsg i (mComp mi j mt me)) :=
  (ps_setLc (own := [(x, j)]) hc hN hy hyl hsw hi ok hg ht he hs).imp fun D' σ H h => by
    have q := asgS_run h
    unfold tAsg at q ⊢
    exact comp_run q
/-! #### an expression alone -/
@[simp] def sExp (m : Ev → RV) : Ev → SR := fun ρ => (m ρ).sr fun _ => .next ρ
theorem SS.exp (h : SE κ X W e ma) (hs : swapsWith e none pos.line X.env = pure false := by rfl) : SS κ X W (.Expr e pos) (sExp ma) := (ps_expr h hs).imp fun D' σ H h => by
  obtain ⟨H0, F, ρ, w, h⟩ := h
  exact outS.bind w h fun md d v H1 F1 g1 r1 w1 h1 => h1 σ H1 F1 (g1.stp w) w1
/-! #### return -/
def retV : Md × D → SR
  | (.tmp, _) => .stuck
  | (.bo, d) => if scalar d = true then .ret d else .retb d
  | (_, d) => .ret d
@[simp] def sRet (m : Ev → RV) : Ev → SR := fun ρ => (m ρ).sr retV
theorem SS.ret (h : SE κ X W e ma) : SS κ X W (.Return (some e) pos) (sRet ma) := (ps_ret h).imp fun D' σ H h => by
  obtain ⟨H0, F, ρ, w, h⟩ := h
  refine outS.bind w h fun md d v H1 F1 g1 r1 w1 h1 => ?_
  have fin : ∀ F2, Grow H F H1 F2 → Rep H1 F2 v d → outS κ W H0 H F D' (.ret d) → D'.rt v H1 := fun F2 g2 r h => by
    have w2 := w.grow g2
    exact h v H1 F2 w2.ext (fun a ha => ⟨w2.new a ha, w2.dom a ha⟩) r
  cases md with
  | tmp => exact h1.elim
  | bo =>
    simp only [retV] at h1
    split at h1
    · rename_i hs
      exact fin F1 g1 (Rep.scalar r1 hs) h1
    · exact h1 v H1 (w.grow g1).ext r1.all
  | fz => exact fin F1 g1 r1 h1
  | fr =>
    obtain ⟨F2, g2, _, r2⟩ := RepM.freeze w.dom g1 r1
    exact fin F2 g2 r2 h1
theorem SS.retN : SS κ X W (.Return none pos) (fun _ => .ret .none) := ps_retN.imp fun D' σ H h => by
  obtain ⟨H0, F, ρ, w, h⟩ := h
  exact h .non H (fun _ => False) w.ext (fun _ h => h.elim) .non
/-! #### if -/
@[simp] def sIf (t : Ev → Res Bool) (m n : Ev → SR) : Ev → SR := fun ρ => (t ρ).sr fun b => if b = true then m ρ else n ρ
theorem SS.ifS {c : Expr} {a b : List Stmt} {tc : Ev → Res Bool} (hc : ST κ X W c tc) (ha : SSs κ X W a m) (hb : SSs κ X W b n) : SS κ X W (.If c a b pos) (sIf tc m n) := (ps_if hc ha hb).imp fun D' σ H h => by
  obtain ⟨H0, F, ρ, w, h⟩ := h
  refine outS.bindT (mt := tc) w h fun b H1 F1 g1 w1 h1 => ?_
  cases b with
  | true => exact ⟨H0, F1, ρ, w1, h1⟩
  | false => exact ⟨H0, F1, ρ, w1, h1⟩
/-! #### raise -/
theorem SS.raise {c : Ex} {x mm : Str} {j : Nat} {p p2 pos2 : Pos} {bmB : List Value} {B newId initId : String} (hc : X.calm = true) (tk : Takes X W) (Fx : ExcBaseFacts B newId initId bmB) (q : PySem.W.excIn X.K (κ c) bmB newId = true) (gC : X.mg x = some (.ref (κ c))) (kC : PySem.W.keepIn X.K (.ref (κ c)) = true) (r : Raises X (.ref (κ c))) (hg : Gl X x)
    (hdb : (x == ("__debug__" : Str)) = false := by decide) : SS κ X W (.Raise (some (.Call (.Name x p) [.Constant (.str mm) j p2] [] pos2)) none pos) (fun _ => .raise c) :=
  (ps_raise hc tk (pmk_own Fx q gC kC r hg hdb)).imp fun D' σ H h => by
    obtain ⟨H0, F, ρ, w, h⟩ := h
    exact h σ H w.ext
end
end L2.Xq
set_option Elab.async false
set_option linter.all false
set_option maxRecDepth 100000
set_option maxHeartbeats 4000000
namespace L2.Xq
open PySem PySem.Spec PyProof.Rows
/-! ### loops -/
def forGo (j : Nat) (body : Ev → SR) : List (Md × D) → Ev → SR
  | [], ρ => .next ρ
  | x :: r, ρ => match body (ρ.set j (cellOf x)) with
    | .next ρ' => forGo j body r ρ'
    | .cont ρ' => forGo j body r ρ'
    | .brk ρ' => .next ρ'
    | res => res
@[simp] def sFor (mi : Ev → RI) (j : Nat) (body : Ev → SR) : Ev → SR := fun ρ => (mi ρ).sr fun x => if x.1 = true then .stuck else forGo j body x.2 ρ
def whileGo (t : Ev → Res Bool) (body : Ev → SR) : Nat → Ev → SR
  | 0, _ => .stuck
  | k + 1, ρ => (t ρ).sr fun b => if b = true then (match body ρ with
    | .next ρ' => whileGo t body k ρ'
    | .cont ρ' => whileGo t body k ρ'
    | .brk ρ' => .next ρ'
    | res => res) else .next ρ
def sWhile (k : Nat) (t : Ev → Res Bool) (body : Ev → SR) : Ev → SR := whileGo t body k
section
variable {κ : Ex → Addr} {X : Cx} {W : WX} {a b e tg iter : Expr} {es : List Expr} {pos : Pos} {ma mb : Ev → RV} {st : Stmt} {sts : List Stmt} {m n : Ev → SR}
theorem cell_stp {H0 H1 H2 : Hp} {F1 F2 : Addr → Prop} {x : Md × D} {v : V} (s : Stp F1 H1 F2 H2) (e1 : ∀ a o, H0 a = some o → H1 a = some o) (e2 : ∀ a o, H0 a = some o → H2 a = some o) (h : CellOk H0 F1 H1 (cellOf x) (some v)) : CellOk H0 F2 H2 (cellOf x) (some v) := by
  obtain ⟨md, d⟩ := x
  have k : ∀ a o, Bo H0 F1 a → H1 a = some o → H2 a = some o := fun a o hb he => by
    rcases hb with ⟨o', hb⟩ | hb
    · rw [e1 _ _ hb] at he; cases he; exact e2 _ _ hb
    · rw [(s a hb).2]; exact he
  cases md with
  | bo =>
    obtain ⟨x', e, r⟩ := h
    exact ⟨x', e, r.mono (fun a h => h.imp id fun h => (s a h).1) k⟩
  | tmp =>
    obtain ⟨x', e, r⟩ := h
    exact ⟨x', e, r.mono (fun a h => (s a h).1) fun a o h => k a o (.inr h)⟩
  | fz =>
    obtain ⟨x', e, r⟩ := h
    exact ⟨x', e, r.mono (fun a h => (s a h).1) fun a o h => k a o (.inr h)⟩
  | fr =>
    obtain ⟨x', e, r⟩ := h
    exact ⟨x', e, r.mono (fun a h => (s a h).1) fun a o h => k a o (.inr h)⟩
theorem for_run {mi : Ev → RI} {j : Nat} {D' : Ends} {σ : St} {H : Hp} (h : tS κ W (sFor mi j m) D' σ H) : tFor (tI (κ := κ) W mi) (gName j) (tS κ W m) D' σ H := by
  obtain ⟨H0, F0, ρ0, w, h⟩ := h
  refine ⟨H0, F0, ρ0, w, ?_⟩
  unfold sFor at h
  cases ei : mi ρ0 with
  | stuck => rw [ei] at h; exact h
  | raise c => rw [ei] at h; exact fun H' F' g => h σ H' fun a o e => g.ext _ _ (w.ext _ _ e)
  | ok z =>
  rw [ei] at h
  obtain ⟨loose, items⟩ := z
  intro J H1 F1 S g1 hS it
  obtain ⟨xs, hlen, hcell, hiter⟩ := it
  simp only [Res.sr] at h
  split at h
  case isTrue => exact h.elim
  rename_i hlo
  have hS' := hS (by simpa using hlo)
  have w1 := w.grow g1
  let Pv : Nat → St → Hp → Prop := fun i σ' H' => ∃ F ρ, Stp F1 H1 F H' ∧ Wf H0 F σ' ρ H' ∧ outS κ W H0 H' F D' (forGo j m (items.drop i) ρ)
  refine ⟨fun i k σ' H' => k = items.length - i ∧ i ≤ items.length ∧ Pv i σ' H', ⟨items.length, by simp, Nat.zero_le _, F1, ρ0, .refl, w1, ?_⟩, ?_⟩
  · rw [List.drop_zero]
    exact outS.back (g1.stp w) h
  rintro i k σ' H' ⟨rfl, hi, F, ρ, s, wf, ho⟩
  have it2 := hiter i H' fun a o hs he => by
    rcases hS' a hs with ⟨o', q⟩ | q
    · rw [w1.ext _ _ q] at he; cases he
      exact wf.ext _ _ q
    · rw [(s a q).2]; exact he
  by_cases hlt : i < items.length
  case neg =>
    have e : i = items.length := by omega
    subst e
    refine .inl ⟨it2.2 (Nat.le_refl _), ?_⟩
    rw [List.drop_length] at ho
    exact ho σ' H' F .refl wf
  have hx := List.getElem?_eq_getElem hlt
  refine .inr ⟨(it2.1 hlt).1, Pv (i + 1), fun σ2 H2 p' => ⟨items.length - (i + 1), by omega, rfl, hlt, p'⟩, fun x H2 y => ?_⟩
  obtain ⟨e2, ex⟩ := (it2.1 hlt).2 x H2 y
  subst e2
  have hc := cell_stp s w1.ext wf.ext (hcell i _ x hx ex)
  have w2 := wf.put (i := j) hc (cellOf_ow _)
  have ed : items.drop i = items[i] :: items.drop (i + 1) := List.drop_eq_getElem_cons hlt
  rw [ed] at ho
  unfold forGo at ho
  refine ⟨H0, F, _, w2, ?_⟩
  cases em : m (ρ.set j (cellOf items[i])) with
  | next ρ' => rw [em] at ho; exact fun σ3 H3 F3 s3 w3 => ⟨F3, ρ', s.trans s3, w3, outS.back s3 ho⟩
  | cont ρ' => rw [em] at ho; exact fun σ3 H3 F3 s3 w3 => ⟨F3, ρ', s.trans s3, w3, outS.back s3 ho⟩
  | brk ρ' => rw [em] at ho; exact ho
  | ret d => rw [em] at ho; exact ho
  | retb d => rw [em] at ho; exact ho
  | raise c => rw [em] at ho; exact ho
  | stuck => rw [em] at ho; exact ho
theorem SS.forS {x : Str} {xp : Pos} {j : Nat} {body : List Stmt} {mi : Ev → RI} (hp : PassesOwn (model X.prog X.w) X.A X.env X.xe) (hc : X.calm = true) (hi : SI κ X W (.Name x xp) iter mi) (hg : PG X (.Name x xp) (gName j)) (hb : SSs κ X W body m)
    (hs : ∀ x, foldedSetIterable iter X.env x = pure x := by intro _; rfl) : SS κ X W (.For (.Name x xp) iter body [] pos) (sFor mi j m) := (ps_for hp hc hi hg hb hs).imp fun D' σ H h => for_run h
theorem while_run {k : Nat} {t : Ev → Res Bool} {D' : Ends} {σ : St} {H : Hp} (h : tS κ W (sWhile k t m) D' σ H) : tWhile (tT (κ := κ) W t) (tS κ W m) D' σ H := by
  obtain ⟨H0, F0, ρ0, w, h⟩ := h
  let Pv : Nat → St → Hp → Prop := fun k σ' H' => ∃ F ρ, Wf H0 F σ' ρ H' ∧ outS κ W H0 H' F D' (whileGo t m k ρ)
  refine ⟨Pv, ⟨k, F0, ρ0, w, h⟩, ?_⟩
  rintro k σ' H' ⟨F, ρ, wf, ho⟩
  cases k with
  | zero => exact ho.elim
  | succ k =>
  unfold whileGo at ho
  refine outS.bindT (mt := t) wf ho fun b H1 F1 g1 w1 h1 => ?_
  cases b with
  | false => simp only [Bool.false_eq_true, if_false] at h1 ⊢; exact h1 σ' H1 F1 .refl w1
  | true =>
    simp only [if_true] at h1 ⊢
    refine ⟨Pv k, fun σ2 H2 p => ⟨k, Nat.lt_succ_self _, p⟩, H0, F1, ρ, w1, ?_⟩
    cases em : m ρ with
    | next ρ' => rw [em] at h1; exact fun σ3 H3 F3 s3 w3 => ⟨F3, ρ', w3, outS.back s3 h1⟩
    | cont ρ' => rw [em] at h1; exact fun σ3 H3 F3 s3 w3 => ⟨F3, ρ', w3, outS.back s3 h1⟩
    | brk ρ' => rw [em] at h1; exact h1
    | ret d => rw [em] at h1; exact h1
    | retb d => rw [em] at h1; exact h1
    | raise c => rw [em] at h1; exact h1
    | stuck => rw [em] at h1; exact h1
theorem SS.whileS {c : Expr} {body : List Stmt} {t : Ev → Res Bool} (k : Nat) (hp : PassesOwn (model X.prog X.w) X.A X.env X.xe) (hc : ST κ X W c t) (hb : SSs κ X W body m) : SS κ X W (.While c body [] pos) (sWhile k t m) := (ps_while hp hc hb).imp fun D' σ H h => while_run h
/-! ### an own list is changed -/
theorem Wf.write {H0 H : Hp} {F : Addr → Prop} {σ : St} {ρ : Ev} {i : Nat} {p : Addr} {xs xs' : List V} {ds ds' : List D} (w : Wf H0 F σ ρ H) (hi : ρ[i]? = some (.ow ds)) (hs : σ[i]? = some (some (.ref p))) (hp : H p = some (.lst xs)) (r : RepAll H F xs' ds') :
    Stp F H F (upd H p (.lst xs')) ∧ Wf H0 F σ (ρ.set i (.ow ds')) (upd H p (.lst xs')) := by
  obtain ⟨p0, xs0, ev, hp0, nf, n0, r0⟩ := w.cell i _ _ hi hs
  cases ev
  have nb : ∀ a, Bo H0 F a → a ≠ p := fun a h z => by
    subst z
    rcases h with ⟨o, h⟩ | h
    · rw [n0] at h; cases h
    · exact nf h
  have kb : ∀ a o, Bo H0 F a → H a = some o → upd H p (.lst xs') a = some o := fun a o h e => by rw [upd_ne (nb a h)]; exact e
  have hl : i < ρ.length := (List.getElem?_eq_some_iff.mp hi).1
  refine ⟨fun a h => ⟨h, by rw [upd_ne (nb a (.inr h))]⟩, by rw [List.length_set]; exact w.len, fun j c v h1 h2 => ?_, fun j k ds1 es p' hjk h1 h2 h3 h4 => ?_, fun a o e => kb a o (.inl ⟨o, e⟩) (w.ext _ _ e), w.new, fun a h => ?_⟩
  · by_cases hj : i = j
    · subst hj
      rw [List.getElem?_set_self hl] at h1
      rw [hs] at h2
      cases h1; cases h2
      exact ⟨p, xs', rfl, upd_same, nf, n0, r.mono (fun _ h => h) fun a o h => kb a o (.inr h)⟩
    · rw [List.getElem?_set_ne hj] at h1
      have q := w.cell j c v h1 h2
      cases c with
      | un => trivial
      | scr K a ns => exact q
      | adr a => exact q
      | at_ p d => exact ⟨q.1, q.2.mono (fun _ h => h) kb⟩
      | bo d =>
        obtain ⟨x, e, r⟩ := q
        exact ⟨x, e, r.mono (fun _ h => h) kb⟩
      | fz d =>
        obtain ⟨x, e, r⟩ := q
        exact ⟨x, e, r.mono (fun _ h => h) fun a o h => kb a o (.inr h)⟩
      | ow es =>
        obtain ⟨p', ys, e, hp', nf', n0', r'⟩ := q
        subst e
        have ne : p' ≠ p := fun z => by
          subst z
          exact w.apart i j ds es p' hj hi h1 hs h2
        exact ⟨p', ys, rfl, by rw [upd_ne ne]; exact hp', nf', n0', r'.mono (fun _ h => h) fun a o h => kb a o (.inr h)⟩
  · have old : ∀ m es, (ρ.set i (Cell.ow ds'))[m]? = some (Cell.ow es) → ∃ es', ρ[m]? = some (Cell.ow es') := fun m es h => by
      by_cases hm : i = m
      · subst hm; exact ⟨ds, hi⟩
      · rw [List.getElem?_set_ne hm] at h; exact ⟨es, h⟩
    obtain ⟨_, q1⟩ := old j _ h1
    obtain ⟨_, q2⟩ := old k _ h2
    exact w.apart j k _ _ p' hjk q1 q2 h3 h4
  · obtain ⟨o, e⟩ := w.dom a h
    exact ⟨o, kb a o (.inr h) e⟩
/-- the own list at a slot -/
theorem own_at {H0 H : Hp} {F : Addr → Prop} {σ : St} {ρ : Ev} {i : Nat} {ds : List D} (w : Wf H0 F σ ρ H) (hi : ρ[i]? = some (.ow ds)) : ∃ p xs, σ[i]? = some (some (.ref p)) ∧ H p = some (.lst xs) ∧ RepAll H F xs ds := by
  have hl : i < σ.length := by rw [w.len]; exact (List.getElem?_eq_some_iff.mp hi).1
  have es := List.getElem?_eq_getElem hl
  obtain ⟨p, xs, ev, hp, _, _, r⟩ := w.cell i _ _ hi es
  exact ⟨p, xs, by rw [es, ev], hp, r⟩
def owD (i : Nat) (ρ : Ev) (f : List D → SR) : SR := match ρ[i]? with
  | some (.ow ds) => f ds
  | _ => .stuck
theorem owD_inv {i : Nat} {ρ : Ev} {f : List D → SR} {P : SR → Prop} (h : P (owD i ρ f)) (hs : ¬ P .stuck) : ∃ ds, ρ[i]? = some (.ow ds) ∧ P (f ds) := by
  unfold owD at h
  split at h
  · exact ⟨_, by assumption, h⟩
  · exact absurd h hs
/-- x.append(e) -/
def sApp (i : Nat) (m : Ev → RV) : Ev → SR := fun ρ => owD i ρ fun ds => (m ρ).sr fun x => match dOne x with
  | .ok (true, _) => if ds.length < 16777216 then .next (ρ.set i (.ow (ds ++ [x.2]))) else .stuck
  | _ => .stuck
theorem SS.append {x : Str} {i : Nat} {xp apos cpos : Pos} (hN : X.N[i]? = some x) (hv : Vis X.env.scope x) (he : SE κ X W e ma) (hd : (x == ("__debug__" : Str)) = false := by decide) (hcd : (x == ("__classdict__" : Str)) = false := by decide)
    (hse : starEach [e] X.env = (false, eval e X.env) :: starEach [] X.env := by rfl) (hpl : (((backTo cpos (starEach [e] X.env)).all fun x => !x.fst) && (backToKw cpos (keywordEach [] X.env)).all fun x => x.fst.isSome) = true := by rfl) (hab : attributeBase (.Name x xp) "append" X.env (eval (.Name x xp) X.env) = eval (.Name x xp) X.env := by rfl)
    (hln : (apos.endLine == cpos.line) = true := by rfl) (hs : swapsWith (.Call (.Attribute (.Name x xp) "append" apos) [e] [] cpos) none pos.line X.env = pure false := by rfl) :
    SS κ X W (.Expr (.Call (.Attribute (.Name x xp) "append" apos) [e] [] cpos) pos) (sApp i ma) :=
  (ps_expr (pe_bm PySem.F.plainAttrs_list PySem.F.slot_list_append PySem.F.type_list_append mt_append (pe_var hN hv hd hcd) (pa_cons he pa_nil hse) (hs := hse) (hline := hln) (hfew := by rw [hpl]; rfl)) hs).imp fun D' σ H h => by
    obtain ⟨H0, F, ρ, w, h⟩ := h
    obtain ⟨ds, hi, h⟩ := owD_inv (P := outS κ W H0 H F D') h (fun z => z)
    obtain ⟨p, xs, es, hp, r⟩ := own_at w hi
    refine ⟨.ref p, es, .inl ⟨rfl, _, .inl (.inl hp)⟩, ?_⟩
    refine outS.bind (ma := ma) w h fun md d v H1 F1 g1 r1 w1 h1 => ?_
    cases eo : dOne (md, d) with
    | stuck => simp only [eo] at h1; exact h1.elim
    | raise c => cases md <;> cases eo
    | ok q =>
    obtain ⟨b', ds'⟩ := q
    simp only [eo] at h1
    cases b' with
    | false => exact h1.elim
    | true =>
    simp only [] at h1
    split at h1
    case isFalse => exact h1.elim
    rename_i hl
    obtain ⟨F2, g2, s2, _, _, q2⟩ := freeze1 w.dom g1 r1 eo
    have w2 := w.grow g2
    obtain ⟨p', xs', es', hp', r'⟩ := own_at w2 hi
    rw [es] at es'; cases es'
    have q := w2.write hi es hp' (r'.append (.cons (q2 rfl) .nil))
    refine ⟨p, xs', v, rfl, rfl, hp', by rw [r'.length, sl16]; exact hl, ?_⟩
    exact h1 σ _ F2 ((g2.stp w).trans q.1) q.2
/-- x.reverse() -/
@[simp] def sRev (i : Nat) : Ev → SR := fun ρ => owD i ρ fun ds => .next (ρ.set i (.ow ds.reverse))
theorem SS.reverse {x : Str} {i : Nat} {xp apos cpos : Pos} (hN : X.N[i]? = some x) (hv : Vis X.env.scope x) (hd : (x == ("__debug__" : Str)) = false := by decide) (hcd : (x == ("__classdict__" : Str)) = false := by decide)
    (hs : swapsWith (.Call (.Attribute (.Name x xp) "reverse" apos) [] [] cpos) none pos.line X.env = pure false := by rfl) (hab : attributeBase (.Name x xp) "reverse" X.env (eval (.Name x xp) X.env) = eval (.Name x xp) X.env := by rfl) (hln : (apos.endLine == cpos.line) = true := by rfl) :
    SS κ X W (.Expr (.Call (.Attribute (.Name x xp) "reverse" apos) [] [] cpos) pos) (sRev i) :=
  (ps_expr (pe_bm0 PySem.F.plainAttrs_list PySem.F.slot_list_reverse PySem.F.type_list_reverse mt_reverse (pe_var hN hv hd hcd) (hline := hln)) hs).imp fun D' σ H h => by
    obtain ⟨H0, F, ρ, w, h⟩ := h
    obtain ⟨ds, hi, h⟩ := owD_inv (P := outS κ W H0 H F D') h (fun z => z)
    obtain ⟨p, xs, es, hp, r⟩ := own_at w hi
    have q := w.write hi es hp r.reverse
    exact ⟨.ref p, es, .inl ⟨rfl, _, .inl (.inl hp)⟩, p, xs, rfl, rfl, hp, h σ _ F q.1 q.2⟩
@[simp] def sClear (i : Nat) : Ev → SR := fun ρ => owD i ρ fun _ => .next (ρ.set i (.ow []))
theorem SS.clear {x : Str} {i : Nat} {xp apos cpos : Pos} (hN : X.N[i]? = some x) (hv : Vis X.env.scope x) (hd : (x == ("__debug__" : Str)) = false := by decide) (hcd : (x == ("__classdict__" : Str)) = false := by decide)
    (hs : swapsWith (.Call (.Attribute (.Name x xp) "clear" apos) [] [] cpos) none pos.line X.env = pure false := by rfl) (hab : attributeBase (.Name x xp) "clear" X.env (eval (.Name x xp) X.env) = eval (.Name x xp) X.env := by rfl) (hln : (apos.endLine == cpos.line) = true := by rfl) :
    SS κ X W (.Expr (.Call (.Attribute (.Name x xp) "clear" apos) [] [] cpos) pos) (sClear i) :=
  (ps_expr (pe_bm0 PySem.F.plainAttrs_list PySem.F.slot_list_clear PySem.F.type_list_clear mt_clear (pe_var hN hv hd hcd) (hline := hln)) hs).imp fun D' σ H h => by
    obtain ⟨H0, F, ρ, w, h⟩ := h
    obtain ⟨ds, hi, h⟩ := owD_inv (P := outS κ W H0 H F D') h (fun z => z)
    obtain ⟨p, xs, es, hp, r⟩ := own_at w hi
    have q := w.write hi es hp .nil
    exact ⟨.ref p, es, .inl ⟨rfl, _, .inl (.inl hp)⟩, p, xs, rfl, rfl, hp, h σ _ F q.1 q.2⟩
end
/-! ### a def -/
mutual
theorem Rep.dom {H : Hp} {S : Addr → Prop} : ∀ {d : D} {v : V}, Rep H S v d → Rep H (fun a => ∃ o, H a = some o) v d
  | _, _, .non => .non
  | _, _, .bl b => .bl b
  | _, _, .int i => .int i
  | _, _, .str x => .str x
  | _, _, .lst s e r => .lst ⟨_, e⟩ e (RepAll.dom r)
  | _, _, .tup s e r => .tup ⟨_, e⟩ e (RepAll.dom r)
  | _, _, .dct s e => .dct ⟨_, e⟩ e
theorem RepAll.dom {H : Hp} {S : Addr → Prop} : ∀ {ds : List D} {vs : List V}, RepAll H S vs ds → RepAll H (fun a => ∃ o, H a = some o) vs ds
  | _, _, .nil => .nil
  | _, _, .cons r rs => .cons (Rep.dom r) (RepAll.dom rs)
end
/-- a parameter's cell -/
def parC (d : D) : Cell := if scalar d then .fz d else .bo d
theorem parC_ok {H : Hp} {d : D} {v : V} (r : Rep H All v d) : CellOk H (fun _ => False) H (parC d) (some v) := by
  unfold parC
  split
  · rename_i hs
    exact ⟨v, rfl, r.scalar hs⟩
  · exact ⟨v, rfl, r.dom.mono (fun _ h => .inl h) fun _ _ _ e => e⟩
theorem parC_ow (d : D) (ds : List D) : parC d ≠ .ow ds := by
  unfold parC
  split <;> (intro h; cases h)
/-- a def's body as a function of data: k locals beside the parameters -/
def endM (r : SR) : Res D := match r with
  | .ret d => .ok d
  | .next _ => .ok .none
  | .raise c => .raise c
  | _ => .stuck
@[simp] def ev0 (k : Nat) (ds : List D) : Ev := ds.map parC ++ List.replicate k .un
@[simp] def runM (k : Nat) (m : Ev → SR) : List D → Res D := fun ds => endM (m (ev0 k ds))
/-- .. of a def whose first parameter is the law's script -/
@[simp] def runS (k : Nat) (K : PySem.W.Frag) (a : Addr) (ns : List Int) (m : Ev → SR) : List D → Res D := fun ds => endM (m (.scr K a ns :: ev0 k ds))
theorem start_gen {H : Hp} {σ : St} {ρ : Ev} (hl : σ.length = ρ.length) (hc : ∀ (i : Nat) (c : Cell) (v : Option V), ρ[i]? = some c → σ[i]? = some v → CellOk H (fun _ => False) H c v) (hn : ∀ (i : Nat) (ds : List D), ρ[i]? ≠ some (Cell.ow ds)) : Wf H (fun _ => False) σ ρ H :=
  ⟨hl, hc, fun i j ds es p _ h1 _ _ _ => (hn i ds h1).elim, fun _ _ e => e, fun _ h => h.elim, fun _ h => h.elim⟩
theorem ev_cells {H : Hp} {k : Nat} : ∀ {vs : List V} {ds : List D}, RepAll H All vs ds → ∀ (i : Nat) (c : Cell) (v : Option V), (ev0 k ds)[i]? = some c → (vs.map some ++ List.replicate k none)[i]? = some v → CellOk H (fun _ => False) H c v := fun {vs ds} r i c v h1 h2 => by
  have hl := r.length
  unfold ev0 at h1
  by_cases hi : i < ds.length
  · rw [List.getElem?_append_left (by simpa using hi), List.getElem?_map] at h1
    rw [List.getElem?_append_left (by simpa [hl] using hi), List.getElem?_map] at h2
    cases ed : ds[i]? with
    | none => rw [ed] at h1; cases h1
    | some d =>
      rw [ed] at h1
      obtain ⟨x, ex, rx⟩ := r.get ed
      rw [ex] at h2
      cases h2; cases h1
      exact parC_ok rx
  · rw [List.getElem?_append_right (by simpa using hi), List.getElem?_replicate] at h1
    split at h1 <;> cases h1
    trivial
theorem ev_ow {k : Nat} {ds : List D} (i : Nat) (es : List D) : (ev0 k ds)[i]? ≠ some (Cell.ow es) := fun h => by
  unfold ev0 at h
  by_cases hi : i < ds.length
  · rw [List.getElem?_append_left (by simpa using hi), List.getElem?_map] at h
    cases ed : ds[i]? with
    | none => rw [ed] at h; cases h
    | some d =>
      rw [ed] at h
      exact parC_ow d es (Option.some.inj h)
  · rw [List.getElem?_append_right (by simpa using hi), List.getElem?_replicate] at h
    split at h <;> cases h
/-- a def whose first argument is the script -/
def spS (κ : Ex → Addr) (K : PySem.W.Frag) (n : Nat) (f : Addr → List Int → List D → Res D) : Sp := fun vs H Q E => ∃ a ns us ds, vs = .ref a :: us ∧ SqL K H a (ns.map V.int) ∧ ds.length = n ∧ RepAll H All us ds ∧ match f a ns ds with
  | .ok d => ∀ v H' (S : Addr → Prop), (∀ a o, H a = some o → H' a = some o) → (∀ a, S a → H a = none ∧ ∃ o, H' a = some o) → Rep H' S v d → Q v H'
  | .raise c => ∀ H', (∀ a o, H a = some o → H' a = some o) → E (.ref (κ c)) none H'
  | .stuck => False
section
variable {κ : Ex → Addr} {P : Program} {w : World} {K : PySem.W.Frag} {mg : Str → Option Value} {base : Heap}
/-- what a body's end says -/
theorem end_run {H : Hp} {Q : VK} {E : XK} {m : SR} (h : match endM m with
  | .ok d => ∀ v H' (S : Addr → Prop), (∀ a o, H a = some o → H' a = some o) → (∀ a, S a → H a = none ∧ ∃ o, H' a = some o) → Rep H' S v d → Q v H'
  | .raise c => ∀ H', (∀ a o, H a = some o → H' a = some o) → E (.ref (κ c)) none H'
  | .stuck => False) : outS κ (fun cls d _ H => E cls d H) H H (fun _ => False) { nx := fun _ H' => Q .non H', rt := Q } m := by
  cases m with
  | next ρ => exact fun σ' H' F' _ w => h .non H' (fun _ => False) w.ext (fun _ h => h.elim) .non
  | ret d => exact h
  | retb d => exact h.elim
  | raise c => exact fun σ' H' x => h H' x
  | brk ρ => exact h.elim
  | cont ρ => exact h.elim
  | stuck => exact h.elim
theorem fn_M {x qual : Str} {st : Stmt} {f : Addr} {fd : FuncData} {N ps : List Str} {k : Nat} {m : Ev → SR} (F : Fun K x qual st f fd) (S : FnScope N ps (defScope st))
    (hb : ∀ (cdv : Value) (A : Around) (outer : List Env) (s : Shared) (H : Hp) (E : XK), Room k (A.deeper (envOfC qual (defScope st) s.heap.objs.size f cdv)) → SSs κ (cxOf (L2.CX P w) P w K mg base N qual (defScope st) f cdv A outer s H E) (fun cls d _ H => E cls d H) (defBody st) m) :
    FnOk P w K mg base (L2.CX P w) (k + 1) f fd ps (spM κ ps.length (runM (N.length - ps.length) m)) := by
  refine F.okX S (fun vs H Q E h => ?_) (fun cdv A outer s H vs Q E hr h => ⟨_, hb cdv A outer s H E hr, ?_⟩)
  · obtain ⟨ds, hl, r, _⟩ := h
    rw [r.length, hl]
  · obtain ⟨ds, hl, r, h⟩ := h
    have e : start N vs = vs.map some ++ List.replicate (N.length - ps.length) none := by
      unfold start
      rw [r.length, hl]
    rw [e]
    exact ⟨H, _, ev0 (N.length - ps.length) ds, start_gen (by simp [ev0, r.length]) (ev_cells r) ev_ow, end_run h⟩
theorem fn_S {x qual : Str} {st : Stmt} {f : Addr} {fd : FuncData} {N : List Str} {p : Str} {ps : List Str} {k : Nat} {m : Addr → List Int → Ev → SR} (F : Fun K x qual st f fd) (S : FnScope N (p :: ps) (defScope st))
    (hb : ∀ (a : Addr) (ns : List Int) (cdv : Value) (A : Around) (outer : List Env) (s : Shared) (H : Hp) (E : XK), Room k (A.deeper (envOfC qual (defScope st) s.heap.objs.size f cdv)) → SSs κ (cxOf (L2.CX P w) P w K mg base N qual (defScope st) f cdv A outer s H E) (fun cls d _ H => E cls d H) (defBody st) (m a ns)) :
    FnOk P w K mg base (L2.CX P w) (k + 1) f fd (p :: ps) (spS κ K ps.length fun a ns => runS (N.length - ps.length - 1) K a ns (m a ns)) := by
  refine F.okX S (fun vs H Q E h => ?_) (fun cdv A outer s H vs Q E hr h => ?_)
  · obtain ⟨a, ns, us, ds, rfl, _, hl, r, _⟩ := h
    simp [r.length, hl]
  · obtain ⟨a, ns, us, ds, rfl, hS, hl, r, h⟩ := h
    refine ⟨_, hb a ns cdv A outer s H E hr, ?_⟩
    have e : start N (.ref a :: us) = some (.ref a) :: (us.map some ++ List.replicate (N.length - ps.length - 1) none) := by
      unfold start
      simp only [List.map_cons, List.length_cons, List.cons_append]
      rw [r.length, hl, Nat.sub_sub]
    rw [e]
    refine ⟨H, _, .scr K a ns :: ev0 (N.length - ps.length - 1) ds, start_gen (by simp [ev0, r.length]) (fun i c v h1 h2 => ?_) (fun i es h => ?_), end_run h⟩
    · cases i with
      | zero => cases h1; cases h2; exact ⟨rfl, hS⟩
      | succ i => exact ev_cells r i c v h1 h2
    · cases i with
      | zero => cases h
      | succ i => exact ev_ow i es h
end
end L2.Xq
set_option Elab.async false
set_option linter.all false
set_option maxRecDepth 100000
set_option maxHeartbeats 4000000
namespace L2.Xq
open PySem PySem.Spec PyProof.Rows
section
variable {A : Around} {k : Nat}
theorem hu64_of (hr : Room k A) : A.units + 64 < cLine := by have := hr.un; omega
theorem hu65_of (hr : Room k A) : A.units + 65 < cLine := by have := hr.un; omega
theorem hu1_of (hr : Room k A) : A.units + 1 < cLine := by have := hr.un; omega
end
/-! ### truth -/
def truD : D → Option Bool
  | .none => some false
  | .bool b => some b
  | .int i => some (i != 0)
  | .str s => if s.length ≤ 16777216 then some ((s.length : Int) != 0) else none
  | .list ds => some (!ds.isEmpty)
  | .tuple ds => some (!ds.isEmpty)
  | .dict _ => some false
theorem RepAll.isEmpty {H : Hp} {S : Addr → Prop} : ∀ {ds : List D} {vs : List V}, RepAll H S vs ds → vs.isEmpty = ds.isEmpty
  | _, _, .nil => rfl
  | _, _, .cons _ _ => rfl
theorem tru_rep {K : PySem.W.Frag} {H : Hp} {S : Addr → Prop} {d : D} {v : V} {b : Bool} (r : Rep H S v d) (e : truD d = some b) : TruV K v H b := by
  cases r with
  | non => cases e; rfl
  | bl b => cases e; rfl
  | int i => cases e; rfl
  | str s =>
    simp only [truD] at e
    split at e
    · rename_i h; cases e; exact ⟨by rw [sl16]; exact h, rfl⟩
    · cases e
  | lst s e' q => cases e; exact .inl ⟨_, .inl (.inl e'), by rw [q.isEmpty]⟩
  | tup s e' q => cases e; exact .inr (.inl ⟨_, .inl (.inl e'), by rw [q.isEmpty]⟩)
  | dct s e' => cases e; exact .inr (.inr ⟨[], e', rfl⟩)
section
variable {κ : Ex → Addr} {X : Cx} {W : WX} {a b e tg iter : Expr} {es : List Expr} {pos : Pos} {ma mb : Ev → RV} {ms : Ev → RVs} {st : Stmt} {sts : List Stmt} {m n : Ev → SR}
@[simp] def mTru (m : Ev → RV) : Ev → Res Bool := fun ρ => (m ρ).bind fun x => Res.of (truD x.2)
theorem ST.truth (h : SE κ X W e ma) (he : ∀ whole, isTrue e X.env whole = (do let v ← whole; standAt e.pos; holding [v] (truthy v)) := by intro _; rfl) : ST κ X W e (mTru ma) :=
  (pt_truth h he).imp fun σ H Q h => by
    obtain ⟨H0, F, ρ, w, h⟩ := h
    refine outT.bind w h fun md d v H1 F1 g r w1 h1 => ?_
    cases et : truD d with
    | none => simp only [et] at h1; exact h1.elim
    | some b =>
      simp only [et] at h1
      exact ⟨b, tru_rep r.all et, h1 H1 F1 .refl⟩
def mNeg (m : Ev → RV) : Ev → RV := fun ρ => (m ρ).bind fun x => match x.2 with
  | .int i => .ok (.fz, .int (-i))
  | _ => .stuck
theorem SE.neg (h : SE κ X W a ma) : SE κ X W (.UnaryOp .USub a pos) (mNeg ma) := (pe_un un_neg h).imp fun σ H Q h => by
  obtain ⟨H0, F, ρ, w, h⟩ := h
  refine outE.bind w h fun md d v H1 F1 g r w1 h1 => ?_
  cases d <;> first
    | exact h1.elim
    | exact ⟨_, r.int_inv, h1 _ H1 F1 .refl (.int _)⟩
/-! ### the script -/
open Classical in
noncomputable def ifScr (K : PySem.W.Frag) (p : Addr) (ns : List Int) (i : Nat) (ρ : Ev) {α : Type} (r : Res α) : Res α := if ρ[i]? = some (.scr K p ns) then r else .stuck
theorem scr_at {H0 H : Hp} {F : Addr → Prop} {σ : St} {ρ : Ev} {i : Nat} {K : PySem.W.Frag} {p : Addr} {ns : List Int} (w : Wf H0 F σ ρ H) (hi : ρ[i]? = some (.scr K p ns)) : σ[i]? = some (some (.ref p)) ∧ SqL K H p (ns.map V.int) := by
  have hl : i < σ.length := by rw [w.len]; exact (List.getElem?_eq_some_iff.mp hi).1
  have es := List.getElem?_eq_getElem hl
  obtain ⟨ev, q⟩ := w.cell i _ _ hi es
  refine ⟨by rw [es, ev], ?_⟩
  rcases q with (q | ⟨o, q⟩) | q
  · exact .inl (.inl (w.ext _ _ q))
  · exact .inl (.inr ⟨o, w.ext _ _ q⟩)
  · exact .inr q
noncomputable def mLenS (K : PySem.W.Frag) (p : Addr) (ns : List Int) (i : Nat) : Ev → RV := fun ρ => ifScr K p ns i ρ (.ok (.fz, .int ns.length))
theorem SE.lenS {p : Addr} {ns : List Int} {i : Nat} {x : Str} {xp q : Pos} (hg : Gl X "len") (hm : X.mg "len" = none) (hN : X.N[i]? = some x) (hv : Vis X.env.scope x) (hd : (x == ("__debug__" : Str)) = false := by decide) (hcd : (x == ("__classdict__" : Str)) = false := by decide)
    (hs : starEach [.Name x xp] X.env = (false, eval (.Name x xp) X.env) :: starEach [] X.env := by rfl) (hpl : (backTo pos (starEach [] X.env)).any (·.1) = false := by rfl) : SE κ X W (.Call (.Name "len" q) [.Name x xp] [] pos) (mLenS X.K p ns i) :=
  (pe_callB call_len_seq hg hm PySem.boot_len (pa_cons (pe_var hN hv hd hcd) pa_nil hs) (he := hs) (hpl := hpl)).imp fun σ H Q h => by
    obtain ⟨H0, F, ρ, w, h⟩ := h
    unfold mLenS ifScr at h
    split at h
    · rename_i hi
      obtain ⟨e, s⟩ := scr_at w hi
      exact ⟨_, e, p, _, rfl, .inl s, h _ H F .refl (by rw [List.length_map]; exact .int _)⟩
    · exact h.elim
noncomputable def mIxS (K : PySem.W.Frag) (p : Addr) (ns : List Int) (i : Nat) (m : Ev → RV) : Ev → RV := fun ρ => ifScr K p ns i ρ ((m ρ).bind fun x => match x.2 with
  | .int k => if 0 ≤ k ∧ k < (ns.length : Int) then .ok (.fz, .int (ns.getD k.toNat 0)) else .stuck
  | _ => .stuck)
theorem SE.ixS {p : Addr} {ns : List Int} {i : Nat} {x : Str} {xp : Pos} (hN : X.N[i]? = some x) (hv : Vis X.env.scope x) (hb : SE κ X W b mb) (hs : PlainIx b) (hd : (x == ("__debug__" : Str)) = false := by decide) (hcd : (x == ("__classdict__" : Str)) = false := by decide) :
    SE κ X W (.Subscript (.Name x xp) b pos) (mIxS X.K p ns i mb) := (pe_ix ix_list (pe_var hN hv hd hcd) hb hs).imp fun σ H Q h => by
  obtain ⟨H0, F, ρ, w, h⟩ := h
  unfold mIxS ifScr at h
  split at h
  · rename_i hi
    obtain ⟨e, s⟩ := scr_at w hi
    refine ⟨_, e, ?_⟩
    refine outE.bind w h fun md d v H1 F1 g r w1 h1 => ?_
    obtain ⟨_, s1⟩ := scr_at w1 hi
    cases d with
    | int k =>
      simp only [] at h1
      split at h1
      · rename_i hk
        have hlt : k.toNat < ns.length := by omega
        refine ⟨p, _, k, .int (ns.getD k.toNat 0), rfl, r.int_inv, s1, ?_, h1 _ H1 F1 .refl (.int _)⟩
        unfold atI ixN
        rw [List.length_map, if_pos hk.1, if_pos (by omega)]
        simp [hlt]
      · exact h1.elim
    | _ => exact h1.elim
  · exact h.elim
noncomputable def mCallS (K : PySem.W.Frag) (p : Addr) (ns : List Int) (i : Nat) (n : Nat) (f : Addr → List Int → List D → Res D) (ms : Ev → RVs) : Ev → RV := fun ρ => ifScr K p ns i ρ (mCall n (f p ns) ms ρ)
theorem SE.callS {k n : Nat} {f : Addr} {fd : FuncData} {ps : List Str} {g : Addr → List Int → List D → Res D} {x y : Str} {p q : Pos} {sa : Addr} {ns : List Int} {i : Nat} (F : FnOk X.prog X.w X.K X.mg X.base (L2.CX X.prog X.w) k f fd ps (spS κ X.K n g)) (hr : Room k X.A) (tk : Takes X W) (hg : Gl X x) (hm : X.mg x = some (.ref f))
    (hk : PySem.W.keepIn X.K (.ref f) = true) (hb : Binds X.K fd ps []) (hN : X.N[i]? = some y) (hv : Vis X.env.scope y) (ha : SA κ X W es ms) (hdb : (x == ("__debug__" : Str)) = false := by decide) (hd : (y == ("__debug__" : Str)) = false := by decide) (hcd : (y == ("__classdict__" : Str)) = false := by decide)
    (he : starEach (.Name y q :: es) X.env = (false, eval (.Name y q) X.env) :: starEach es X.env := by rfl) (hpl : (backTo pos (starEach es X.env)).any (·.1) = false := by rfl) :
    SE κ X W (.Call (.Name x p) (.Name y q :: es) [] pos) (mCallS X.K sa ns i n g ms) := (pe_callS F hr hg hm hk hb (fun σ => passAt tk σ) (pa_cons (pe_var hN hv hd hcd) ha he) hdb he hpl).imp fun σ H Q h => by
  obtain ⟨H0, F, ρ, w, h⟩ := h
  unfold mCallS ifScr at h
  split at h
  case isFalse => exact h.elim
  rename_i hi
  obtain ⟨e, _⟩ := scr_at w hi
  refine ⟨_, e, ?_⟩
  refine outE.bindA w h fun xs vs H1 F1 g1 r1 w1 h1 => ?_
  obtain ⟨_, s1⟩ := scr_at w1 hi
  by_cases hl : xs.length = n
  case neg => rw [if_neg hl] at h1; exact h1.elim
  rw [if_pos hl] at h1
  have hn : ∀ r, g sa ns (xs.map (·.2)) = r → outE κ W H0 σ H1 F1 Q (r.bind fun d => .ok (mdOf d, d)) := fun r e => by rw [← e]; exact h1
  refine ⟨sa, ns, vs, xs.map (·.2), rfl, s1, by rw [List.length_map]; exact hl, r1.all, ?_⟩
  cases e : g sa ns (xs.map (·.2)) with
  | ok d =>
    intro v H' S hx hs r
    obtain ⟨F', g', q⟩ := fresh_rep w1 hx hs r
    exact hn _ e v H' F' g' q
  | raise c =>
    intro H' hx
    exact hn _ e H' F1 ⟨hx, fun _ h => h, fun _ h => .inl h⟩
  | stuck => exact hn _ e
/-! ### a, b = e -/
def gsOf : List Nat → TGs
  | [] => gNil
  | j :: js => gCons (gName j) (gsOf js)
abbrev SG (X : Cx) (ts : List Expr) (js : List Nat) : Prop := PGs X ts (gsOf js)
theorem SG.nil : SG X [] [] := pgs_nil
theorem SG.cons {x : Str} {xp : Pos} {j : Nat} {ts : List Expr} {js : List Nat} (h1 : PG X (.Name x xp) (gName j)) (h2 : SG X ts js) : SG X (.Name x xp :: ts) (j :: js) := pgs_cons h1 h2
def setAll (c : Md) : List Nat → List D → Ev → Option Ev
  | [], [], ρ => some ρ
  | j :: js, d :: ds, ρ => setAll c js ds (ρ.set j (if c = .bo ∧ scalar d = false then .bo d else .fz d))
  | _, _, _ => none
def sAsgT (js : List Nat) (m : Ev → RV) : Ev → SR := fun ρ => (m ρ).sr fun x => match x with
  | (.bo, .tuple ds) => (match setAll .bo js ds ρ with | some ρ' => .next ρ' | none => .stuck)
  | (.fz, .tuple ds) => (match setAll .fz js ds ρ with | some ρ' => .next ρ' | none => .stuck)
  | _ => .stuck
theorem setAll_run {c : Md} (hc : c = .bo ∨ c = .fz) {H0 H : Hp} {F : Addr → Prop} {Q : St → Hp → Prop} {ρ' : Ev} (hq : ∀ σ', Wf H0 F σ' ρ' H → Q σ' H) : ∀ {js : List Nat} {ds : List D} {vs : List V} {σ : St} {ρ : Ev}, Wf H0 F σ ρ H → RepAll H (Bo H0 F) vs ds → (c ≠ .bo → RepAll H F vs ds) → setAll c js ds ρ = some ρ' →
    gsOf js vs σ H Q
  | [], [], _, σ, ρ, w, .nil, _, e => by cases e; exact ⟨rfl, hq σ w⟩
  | j :: js, d :: ds, v :: vs, σ, ρ, w, .cons r rs, r2, e => by
    refine ⟨v, vs, rfl, setAll_run hc hq (w.put ?_ ?_) rs (fun h => ?_) e⟩
    · split
      · exact ⟨v, rfl, r⟩
      · rename_i h
        by_cases hb : c = .bo
        · have hs : scalar d = true := by
            cases z : scalar d with
            | true => rfl
            | false => exact absurd ⟨hb, z⟩ h
          exact ⟨v, rfl, r.scalar hs⟩
        · cases r2 hb with
          | cons q _ => exact ⟨v, rfl, q⟩
    · intro ds'; split <;> (intro z; cases z)
    · cases r2 h with
      | cons _ q => exact q
  | [], _ :: _, _, _, _, _, _, _, e => by cases e
  | _ :: _, [], _, _, _, _, _, _, e => by cases e
theorem setAll_len {c : Md} : ∀ (js : List Nat) (ds : List D) (ρ ρ' : Ev), setAll c js ds ρ = some ρ' → ds.length = js.length
  | [], [], _, _, _ => rfl
  | _ :: js, _ :: ds, _, _, e => by simp [setAll_len js ds _ _ e]
  | [], _ :: _, _, _, e => by cases e
  | _ :: _, [], _, _, e => by cases e
theorem SS.asgT {ts : List Expr} {js : List Nat} {k : Nat} {tpos : Pos} (hc : X.calm = true) (h : SE κ X W e ma) (hg : SG X ts js) (hs : swapsWithSole [.Tuple ts k tpos] e pos.line X.env = pure false := by rfl) (hw : swappedStores [.Tuple ts k tpos] e X.env = pure none := by rfl)
    (h1 : (assignEach [.Tuple ts k tpos] X.env).map (·.2) = [assign (.Tuple ts k tpos) X.env] := by rfl)
    (hn : (assignEach ts X.env).length = js.length := by rfl) (hst : (assignEach ts X.env).findIdx? (·.1) = none := by rfl) : SS κ X W (.Assign [.Tuple ts k tpos] e pos) (sAsgT js ma) :=
  (ps_asg h (pg_tup hc hg hn hst) hs hw h1).imp fun D' σ H h => by
    obtain ⟨H0, F, ρ, w, h⟩ := h
    refine outS.bind w h fun md d v H1 F1 g1 r1 w1 h1 => ?_
    have key : ∀ c, (c = .bo ∨ c = .fz) → ∀ ds, RepM H0 c H H1 F1 v (.tuple ds) → outS κ W H0 H F D' (match setAll c js ds ρ with | some ρ' => .next ρ' | none => .stuck) → gTup X.K js.length (gsOf js) v σ H1 D'.nx := fun c hc ds r h => by
      obtain ⟨p, vs, rfl, hp, a1, a2⟩ := r.tup
      cases e : setAll c js ds ρ with
      | none => rw [e] at h; exact h.elim
      | some ρ' =>
        rw [e] at h
        exact ⟨p, vs, rfl, .inl (.inl hp), by rw [a1.length, setAll_len _ _ _ _ e], setAll_run hc (fun σ' w' => h σ' H1 F1 (g1.stp w) w') w1 a1 (fun hb => a2 (elFz_ne hb)) e⟩
    cases d with
    | tuple ds =>
      cases md with
      | bo => exact key .bo (.inl rfl) ds r1 h1
      | fz => exact key .fz (.inr rfl) ds r1 h1
      | tmp => exact h1.elim
      | fr => exact h1.elim
    | _ => cases md <;> exact h1.elim
/-! ### x[i] = e -/
def sSetIx (i : Nat) (me mi : Ev → RV) : Ev → SR := fun ρ => owD i ρ fun ds => (me ρ).sr fun x => match dOne x with
  | .ok (true, _) => (mi ρ).sr fun y => (match y.2 with
    | .int k => (match ixN ds.length k with | some j => .next (ρ.set i (.ow (ds.set j x.2))) | none => .stuck)
    | _ => .stuck)
  | _ => .stuck
end
end L2.Xq
set_option Elab.async false
set_option linter.all false
set_option maxRecDepth 100000
set_option maxHeartbeats 4000000
namespace L2.Xq
open PySem PySem.Spec PyProof.Rows
/-! ### an error, caught, handed to a def that asks its classes -/
section
variable {κ : Ex → Addr} {X : Cx} {W : WX} {pos : Pos}
/-- the exception that is handled stands among the pins -/
def mIsE (a : Addr) (i : Nat) (b : Bool) : Ev → RV := fun ρ => match ρ[i]? with
  | some (.adr c) => if c = a then .ok (.fz, .bool b) else .stuck
  | _ => .stuck
theorem call_isP {a C : Addr} {oe : Obj} (hp : (a, oe) ∈ X.pn) (G : ExcC X.K C) (hz : Zc (.ref C) none oe) (hf : ∃ vs, oe.data = .fields vs) : CallR X (.builtin "isinstance") (rIsE X.K C a) := by
  intro pins s σ H xs us Q I r h
  obtain ⟨c, cv, b, rfl, hcv, e, q⟩ := h
  match r with
  | .cons rx (.cons rt .nil) =>
    cases rx
    have ec := hcv _ rt
    subst ec
    obtain ⟨hget, _⟩ := I.pin (a, oe) (List.mem_append_left _ hp)
    obtain ⟨vs, hv⟩ := hf
    have J : PySem.W.InstAt s.heap a oe C none := by
      obtain ⟨oc, od, oda, osl⟩ := oe
      obtain ⟨h1, h2⟩ := hz
      simp only at h1 h2 hv
      subst h1 h2 hv
      exact ⟨hget, rfl, rfl, trivial⟩
    exact PySem.W.kia_one (PySem.W.handS_kitx_exc G.hg G.hk G.hs G.hd G.ha G.hn G.ht G.hm) I.kIn J e (fun z => nomatch z) fun tk => ⟨.bl b, H, I.kept (t' := tk) fun _ _ z => z, rfl, q⟩
theorem SE.isE {a C : Addr} {oe : Obj} {i : Nat} {x : Str} {p xp : Pos} {ce : Expr} {cv : V} {cu : Value} {b : Bool} (hp : (a, oe) ∈ X.pn) (G : ExcC X.K C) (hz : Zc (.ref C) none oe) (hf : ∃ vs, oe.data = .fields vs) (hg : Gl X "isinstance") (hm : X.mg "isinstance" = none)
    (hN : X.N[i]? = some x) (hv : Vis X.env.scope x) (hc : PE X ce (tC cv)) (hcu : ∀ u, RelV cv u → u = cu) (hk : PySem.W.kitOne X.K (.ref C) cu = some b)
    (hd : (x == ("__debug__" : Str)) = false := by decide) (hcd : (x == ("__classdict__" : Str)) = false := by decide)
    (hs : starEach [.Name x xp, ce] X.env = (false, eval (.Name x xp) X.env) :: starEach [ce] X.env := by rfl) (hs2 : starEach [ce] X.env = (false, eval ce X.env) :: starEach [] X.env := by rfl)
    (hpl : (backTo pos (starEach [ce] X.env)).any (·.1) = false := by rfl) : SE κ X W (.Call (.Name "isinstance" p) [.Name x xp, ce] [] pos) (mIsE a i b) :=
  (pe_callB (call_isP hp G hz hf) hg hm (by decide +kernel) (pa_cons (pe_var hN hv hd hcd) (pa_cons hc pa_nil hs2) hs) (he := hs) (hpl := hpl)).imp fun σ H Q h => by
    obtain ⟨H0, F, ρ, w, h⟩ := h
    unfold mIsE at h
    split at h
    · rename_i c hi
      split at h
      · rename_i e
        subst e
        have hl : i < σ.length := by rw [w.len]; exact (List.getElem?_eq_some_iff.mp hi).1
        have es := List.getElem?_eq_getElem hl
        have ev : σ[i] = some (.ref c) := w.cell i _ _ hi es
        exact ⟨_, by rw [es, ev], cv, cu, b, rfl, hcu, hk, h _ H F .refl (.bl _)⟩
      · exact h.elim
    · exact h.elim
/-- the call f(e) in a suite, e the error at a -/
theorem pe_cls {a C : Addr} {oe : Obj} {pn : List (Addr × Obj)} {f : Addr} {fd : FuncData} {qual nm : Str} {stm : Stmt} {N : List Str} {p : Str} {k i : Nat} {x y : Str} {xp yp : Pos} {d : D} {m : Ev → SR} (F : Fun X.K nm qual stm f fd) (S : FnScope N [p] (defScope stm)) (hN1 : N.length = k + 1)
    (hb : ∀ (cdv : Value) (A : Around) (outer : List Env) (s : Shared) (H : Hp) (E : XK), A.units + 200 < cLine → SSs κ (L2H.cxH (L2.CX X.prog X.w) X.prog X.w X.K X.mg X.base N qual (defScope stm) f cdv A outer s H E (a, oe)) (fun cls d _ H => E cls d H) (defBody stm) m)
    (hm : m (.adr a :: List.replicate k .un) = .ret d) (hz : Zc (.ref C) none oe) (hf : ∃ vs, oe.data = .fields vs)
    (hdp : X.A.depth < recursionLimit) (hun : X.A.units + 200 < cLine) (hg : Gl X x) (hmg : X.mg x = some (.ref f)) (hbi : Binds X.K fd [p] []) (hNi : X.N[i]? = some y) (hv : Vis X.env.scope y)
    (hdb : (x == ("__debug__" : Str)) = false := by decide) (hd : (y == ("__debug__" : Str)) = false := by decide) (hcd : (y == ("__classdict__" : Str)) = false := by decide) :
    PE (X.suite a ((a, oe) :: pn)) (.Call (.Name x xp) [.Name y yp] [] pos) (fun σ H Q => (i < σ.length → σ[i]? = some (some (.ref a))) ∧ ∀ v H' (Sn : Addr → Prop), (∀ b o, H b = some o → H' b = some o) → (∀ b, Sn b → H b = none ∧ ∃ o, H' b = some o) → Rep H' Sn v d → Q v H') := by
  refine ⟨fun pins s σ H Q I h => ?_⟩
  have hi : i < σ.length := by
    have e1 : σ.length = X.N.length := I.len
    rw [e1]
    exact (List.getElem?_eq_some_iff.mp hNi).1
  obtain ⟨h1, hQ⟩ := h
  have es := h1 hi
  refine wpAny_Call_Name_kw (ld_glob I hg hmg ?_ hdb)
  have hpa : PA (X.suite a ((a, oe) :: pn)) [.Name y yp] (tCons (tVar i) tNil) := pa_cons (pe_var hNi hv hd hcd) pa_nil
  refine PySem.W.callWith_K (h₀ := X.base) I.ok.mod.kin F.kp (thn (hpa.run pos pins s σ H (fun vs H1 => vs = [V.ref a] ∧ H1 = H) I ⟨_, es, rfl, rfl⟩) fun us s1 hh => ?_)
  obtain ⟨vs, H1, I1, r, ev, eH⟩ := hh
  subst ev
  subst eH
  refine ⟨I1.kIn, ?_⟩
  match us, r with
  | [u], .cons ru .nil =>
  cases ru
  obtain ⟨oc, od, kV, doc, pm, an, cdv, ct, osl, rfl, lk, hcdv⟩ := F.ex
  refine wpAny_call (codeAny_mono (R := CR (L2.CX X.prog X.w) X.stack X.prog X.w H1 s1 Q fun _ _ _ => False) ?_ fun r' s' hq => ?_)
  rotate_left
  · cases r' with
    | error e =>
      obtain ⟨_, _, _, _, _, _, _, _, _, _, _, _, _, _, _, _, z⟩ := XE.of_call (W := W0) I1 (fun _ _ _ z => z) hq
      exact z.elim
    | ok fl =>
      cases fl with
      | ret u' => exact I1.after hq
      | next => exact hq.elim
      | brk => exact hq.elim
      | cont => exact hq.elim
  have e0 := I1.env0
  have P1 := I1.pin (a, oe) (List.mem_append_left _ List.mem_cons_self)
  have hpin : L2H.PinOk X.stack H1 s1 (a, oe) := ⟨P1.1, P1.2.1, fun hmem => (List.mem_cons.mp (I1.stkSub a hmem)).elim P1.2.2.1 P1.2.2.2.1, P1.2.2.2.2⟩
  have lim : s1.heap.NoLimit := I1.nolimit
  have bb := hbi s1 [.ref a] I1.kIn rfl
  rw [List.append_nil] at bb
  have hkind : ∀ z ∈ [p].zip [Value.ref a], (defScope stm).names.lookup z.1 = some .local ∨ ((defScope stm).names.lookup z.1 = some .cell ∧ ((cellsFrom (s1.heap.objs.size + 1) (defScope stm).names []).lookup z.1).isSome = true) := fun ⟨n, v⟩ hz => by
    rcases S.par n (List.of_mem_zip hz).1 with q | q
    · exact .inl q
    · exact .inr ⟨q, PySem.W.cellsFrom_some _ _ _ (.inl q)⟩
  have hdep : (X.A.mark (some (.ref a))).depth < recursionLimit := by show X.A.depth < _; omega
  refine codeAny_call_function hdep (I1.kIn _ _ lk) rfl S.co S.gen rfl (PySem.W.codeRec_of I1.kIn hcdv) (bb _ _ _ _ ?_)
  refine wpAny_newFunctionEnv_cells S.kind hkind fun env' he s2 x2 => ?_
  subst he
  refine ⟨lim.keeps x2.toInCall.keep, codeAny_func ?_⟩
  have I2 := L2H.inv_startH (E := fun _ _ _ => False) (CX := L2.CX X.prog X.w) S hpin e0 (vs := [.ref a]) rfl (.cons rfl .nil) x2
  have hbody := hb cdv (X.A.mark (some (.ref a))) X.stack s1 H1 (fun _ _ _ => False) (by show X.A.units + 200 < _; omega)
  have hst : L2.start N [.ref a] = some (.ref a) :: List.replicate k none := by
    unfold L2.start
    rw [hN1]
    rfl
  have reading : tS κ (fun cls d _ H => False) m { nx := fun _ H' => Q .non H', rt := Q } (L2.start N [.ref a]) H1 := by
    rw [hst]
    refine ⟨H1, _, .adr a :: List.replicate k .un, start_gen (by simp) (fun j c v q1 q2 => ?_) (fun j ds q1 => ?_), ?_⟩
    · cases j with
      | zero => cases q1; cases q2; rfl
      | succ j =>
        rw [List.getElem?_cons_succ, List.getElem?_replicate] at q1
        split at q1 <;> cases q1
        trivial
    · cases j with
      | zero => cases q1
      | succ j =>
        rw [List.getElem?_cons_succ, List.getElem?_replicate] at q1
        split at q1 <;> cases q1
    · rw [hm]
      exact fun v H' Sn hx hs r => hQ v H' Sn hx hs r
  refine wpAny_mono (hbody.run [] s2 _ H1 _ I2 reading) (fun fl s' hs => ?_) fun e s' hs => hs
  have fin : ∀ {σ' : St} {H' : Hp} {v : V} {u : Value}, Inv (L2H.cxH (L2.CX X.prog X.w) X.prog X.w X.K X.mg X.base N qual (defScope stm) f cdv (X.A.mark (some (.ref a))) X.stack s1 H1 (fun _ _ _ => False) (a, oe)) [] σ' H' s' → RelV v u → Q v H' → CE X.stack X.prog X.w H1 s1 Q u s' :=
    fun {σ' H' v u} J rv q => ⟨v, H', J.os, J.bare, J.base, J.hok, rv, q⟩
  cases fl with
  | ret u =>
    obtain ⟨v, σ', H', J, rv, q⟩ := hs
    exact fin J rv q
  | next =>
    obtain ⟨σ', H', J, q⟩ := hs
    exact fin (v := .non) (u := .none) J rfl q
  | brk =>
    obtain ⟨_, _, _, q⟩ := hs
    exact q.elim
  | cont =>
    obtain ⟨_, _, _, q⟩ := hs
    exact q.elim
/-! ### try: .. except X as e: return classes(e) -/
def tCls (κ : Ex → Addr) (i : Nat) (cd : Ex → Option D) : Addr → Value → Option Addr → TS := fun a cls d D' σ H => (i < σ.length → σ[i]? = some (some (.ref a))) ∧ ∃ c dd, cls = .ref (κ c) ∧ d = none ∧ cd c = some dd ∧
  ∀ v H' (Sn : Addr → Prop), (∀ b o, H b = some o → H' b = some o) → (∀ b, Sn b → H b = none ∧ ∃ o, H' b = some o) → Rep H' Sn v dd → D'.rt v H'
def sTry (cd : Ex → Option D) (m : Ev → SR) : Ev → SR := fun ρ => match m ρ with
  | .raise c => (match cd c with | some d => .ret d | none => .stuck)
  | r => r
theorem SS.tryC {x n : Str} {i : Nat} {body : List Stmt} {b₀ : Stmt} {np pos' : Pos} {cK : Value} {cd : Ex → Option D} {m : Ev → SR} (hs : X.stack = X.env :: X.outer) (hf : X.env.frame = some X.env.locals) (hN : X.N.Nodup) (hi : X.N[i]? = some n) (hln : X.env.kindOf n = some .local) (hc : Names X x cK) (tk : Takes X W)
    (hx : ∀ c d, cd c = some d → PySem.W.exmOne X.K (.ref (κ c)) cK = some true)
    (hb : ∀ (W : WX) (pn : List (Addr × Obj)) (xe : Value → Shared → Prop), Takes (X.tr pn xe) W → PassesOwn (model X.prog X.w) X.A X.env xe → SSs κ (X.tr pn xe) W body m)
    (hsu : ∀ (a : Addr) (oe : Obj) (cls : Value) (d : Option Addr) (pn : List (Addr × Obj)), Zc cls d oe → (∃ vs, oe.data = .fields vs) → PSs (X.suite a ((a, oe) :: pn)) [b₀] (tCls κ i cd a cls d)) :
    SS κ X W (.Try body [.ExceptHandler (some (.Name x np)) (some n) [b₀] pos'] [] [] pos) (sTry cd m) :=
  (ps_try_as hs hf hN hi hln hc tk (tb := fun W => tS κ W m) hb hsu).imp fun D' σ H h => by
    obtain ⟨H0, F, ρ, w, h⟩ := h
    refine ⟨H0, F, ρ, w, ?_⟩
    unfold sTry at h
    cases e : m ρ with
    | raise c =>
      rw [e] at h
      cases ec : cd c with
      | none => simp only [ec] at h; exact h.elim
      | some dd =>
        simp only [ec] at h
        intro σ' H' hx'
        refine ⟨true, hx c dd ec, fun _ a na => ⟨fun hl => ?_, c, dd, rfl, rfl, ec, fun v H'' Sn h1 h2 r => ?_⟩, fun z => nomatch z⟩
        · rw [List.length_set] at hl
          exact List.getElem?_set_self hl
        · refine h v H'' Sn (fun b o q => h1 _ _ (hx' _ _ q)) (fun b hb => ⟨?_, (h2 b hb).2⟩) r
          cases z : H0 b with
          | none => rfl
          | some o =>
            have q := (h2 b hb).1
            rw [hx' _ _ z] at q; cases q
    | _ => rw [e] at h; exact h
theorem suite_of {a : Addr} {oe : Obj} {pn : List (Addr × Obj)} {cls : Value} {d : Option Addr} {i : Nat} {cd : Ex → Option D} {e : Expr} {p2 : Pos} (hz : Zc cls d oe)
    (pe : ∀ c dd, cd c = some dd → Zc (.ref (κ c)) none oe → PE (X.suite a ((a, oe) :: pn)) e (fun σ H Q => (i < σ.length → σ[i]? = some (some (.ref a))) ∧ ∀ v H' (Sn : Addr → Prop), (∀ b o, H b = some o → H' b = some o) → (∀ b, Sn b → H b = none ∧ ∃ o, H' b = some o) → Rep H' Sn v dd → Q v H')) :
    PSs (X.suite a ((a, oe) :: pn)) [.Return (some e) p2] (tCls κ i cd a cls d) := by
  refine ⟨fun pins s σ H D' I h => ?_⟩
  obtain ⟨h1, c, dd, rfl, rfl, ec, hQ⟩ := h
  exact (pss_one (ps_ret (pe c dd ec hz))).run pins s σ H D' I ⟨h1, hQ⟩
/-- c's classes, of those that are asked -/
def isSub (c k : Ex) : Bool := decide (c = k) || decide (k = .ring)
end
/-! ### what the top has written -/
structure Df (K : PySem.W.Frag) (mg : Str → Option Value) (nm : Str) (st : Stmt) (ps : List Str) where
  f : Addr
  fd : FuncData
  F : Fun K nm nm st f fd
  g : mg nm = some (.ref f)
  b : Binds K fd ps []
structure Ci (K : PySem.W.Frag) (mg : Str → Option Value) (nm : Str) (i : Int) where
  t : Tok
  c : mg nm = some (.int i t)
structure Xc (K : PySem.W.Frag) (mg : Str → Option Value) (nm : Str) (C : Addr) : Prop where
  g : mg nm = some (.ref C)
  x : PySem.W.excIn K C [.type "ValueError", .type "Exception", .type "BaseException", .type "object"] "ValueError.__new__" = true
  k : PySem.W.keepIn K (.ref C) = true
  s : PySem.W.subIn K (.ref C) (.type "BaseException") = some true
  y : PySem.W.typeIn K (.ref C) = some (.type "type")
structure Rc (K : PySem.W.Frag) (κ : Ex → Addr) (c : Ex) : Prop where
  ec : ExcC K (κ c)
  size : PySem.W.kitOne K (.ref (κ c)) (.ref (κ .size)) = some (isSub c .size)
  word : PySem.W.kitOne K (.ref (κ c)) (.ref (κ .word)) = some (isSub c .word)
  book : PySem.W.kitOne K (.ref (κ c)) (.ref (κ .book)) = some (isSub c .book)
  bring : PySem.W.kitOne K (.ref (κ c)) (.ref (κ .bring)) = some (isSub c .bring)
  noword : PySem.W.kitOne K (.ref (κ c)) (.ref (κ .noword)) = some (isSub c .noword)
  noring : PySem.W.kitOne K (.ref (κ c)) (.ref (κ .noring)) = some (isSub c .noring)
  nojoin : PySem.W.kitOne K (.ref (κ c)) (.ref (κ .nojoin)) = some (isSub c .nojoin)
  value : PySem.W.kitOne K (.ref (κ c)) (.type "ValueError") = some true
  exm : PySem.W.exmOne K (.ref (κ c)) (.ref (κ .ring)) = some true
end L2.Xq
namespace L2.Xq
open PySem PySem.Spec PyProof.Rows
/-! ### texts -/
def fStr : List (Md × D) → Option (Md × D)
  | [(_, .int i)] => if i.natAbs.log2 < 1920 then some (.fz, .str (toString i)) else none
  | _ => none
theorem s_str : CallS (fun xs H Q => ∃ i, xs = [.int i] ∧ i.natAbs.log2 < 1920 ∧ Q (.str (toString i)) H) fStr := fun H0 Hs H F σ ρ vs xs md d Q e w r q => by
  unfold fStr at e
  split at e
  · split at e
    · rename_i hl
      cases e
      match vs, r with
      | [v], r => exact ⟨_, by rw [r.1.int_inv], hl, q _ H F .refl (.str _)⟩
      | _ :: _ :: _, r => exact r.2.elim
    · cases e
  · cases e
def textsD : List D → Option (List Str)
  | [] => some []
  | .str b :: r => (textsD r).map (b :: ·)
  | _ => none
theorem textsD_inv {H : Hp} {S : Addr → Prop} : ∀ {ds : List D} {bs : List Str} {vs : List V}, textsD ds = some bs → RepAll H S vs ds → vs = bs.map V.str
  | [], _, _, h, .nil => by cases h; rfl
  | .str b :: r, _, _, h, .cons (.str _) q => by
    obtain ⟨bs, e, rfl⟩ := Option.map_eq_some_iff.mp (show (textsD r).map (b :: ·) = some _ from h)
    rw [textsD_inv e q]; rfl
  | .none :: _, _, _, h, _ => by cases h
  | .int _ :: _, _, _, h, _ => by cases h
  | .bool _ :: _, _, _, h, _ => by cases h
  | .list _ :: _, _, _, h, _ => by cases h
  | .tuple _ :: _, _, _, h, _ => by cases h
  | .dict _ :: _, _, _, h, _ => by cases h
def fJoin : F2 := fun _ d1 _ d2 => match d1, d2 with
  | .str a, .list ds => (textsD ds).bind fun ys => if (ys.map (·.length)).sum + ys.length * a.length ≤ 16777216 then some (.fz, .str (Txt.join a ys)) else none
  | _, _ => none
def mJoin (ma mb : Ev → RV) : Ev → RV := fun ρ => (ma ρ).bind fun x => match x.2 with
  | .str s => (mb ρ).bind fun y => Res.of (fJoin .fz (.str s) y.1 y.2)
  | _ => .stuck
section
variable {κ : Ex → Addr} {X : Cx} {W : WX} {a e : Expr} {ma mb : Ev → RV}
theorem SE.join {apos cpos : Pos} (ha : SE κ X W a ma) (hb : SE κ X W e mb) (hbase : attributeBase a "join" X.env (eval a X.env) = eval a X.env := by rfl)
    (hse : starEach [e] X.env = (false, eval e X.env) :: starEach [] X.env := by rfl) (hpl : (((backTo cpos (starEach [e] X.env)).all fun x => !x.fst) && (backToKw cpos (keywordEach [] X.env)).all fun x => x.fst.isSome) = true := by rfl) (hln : (apos.endLine == cpos.line) = true := by rfl) :
    SE κ X W (.Call (.Attribute a "join" apos) [e] [] cpos) (mJoin ma mb) :=
  (pe_bm PySem.F.plainAttrs_str PySem.F.slot_str_join PySem.F.type_str_join mt_join ha (pa_cons hb pa_nil hse) (hbase := hbase) (hs := hse) (hline := hln) (hfew := by rw [hpl]; rfl)).imp fun σ H Q h => by
    obtain ⟨H0, F, ρ, w, h⟩ := h
    refine outE.bind w h fun m1 d1 v1 H1 F1 g1 r1 w1 h1 => ?_
    cases d1 with
    | str s =>
      refine ⟨by rw [r1.str_inv]; rfl, ?_⟩
      refine outE.bind (f := fun y => Res.of (fJoin .fz (.str s) y.1 y.2)) w1 h1 fun m2 d2 v2 H2 F2 g2 r2 w2 h2 => ?_
      cases d2 with
      | list ds =>
        simp only [fJoin] at h2
        cases es : textsD ds with
        | none => rw [es] at h2; exact h2.elim
        | some ys =>
          rw [es] at h2
          simp only [Option.bind_some] at h2
          split at h2
          · rename_i hz
            obtain ⟨p, vs, rfl, hp, a1, _⟩ := r2.list
            have := textsD_inv es a1
            subst this
            exact ⟨s, p, ys, r1.str_inv, rfl, .inl (.inl (.inl hp)), hz, h2 _ H2 F2 .refl (.str _)⟩
          · exact h2.elim
      | _ => exact h2.elim
    | _ => exact h1.elim
end
end L2.Xq
set_option Elab.async false
set_option linter.all false
set_option maxRecDepth 100000
set_option maxHeartbeats 4000000
namespace L2.Xq
open PySem PySem.Spec PyProof.Rows
/-! ### a new start: what stands is the entry's heap -/
def rebC : Cell → Cell
  | .ow ds => .bo (.list ds)
  | .bo d => if scalar d then .fz d else .bo d
  | .fz d => if scalar d then .fz d else .bo d
  | c => c
theorem Wf.rebase {H0 H : Hp} {F : Addr → Prop} {σ : St} {ρ : Ev} (w : Wf H0 F σ ρ H) : Wf H (fun _ => False) σ (ρ.map rebC) H := by
  refine start_gen (by rw [List.length_map]; exact w.len) (fun i c v h1 h2 => ?_) fun i ds h => ?_
  · rw [List.getElem?_map] at h1
    cases e : ρ[i]? with
    | none => rw [e] at h1; cases h1
    | some c0 =>
      rw [e] at h1
      cases h1
      have q := w.cell i c0 v e h2
      have plain : ∀ {d : D} {x : V} {S : Addr → Prop}, Rep H S x d → v = some x → CellOk H (fun _ => False) H (if scalar d then .fz d else .bo d) v := fun {d x S} r ev => by
        split
        · rename_i hs
          exact ⟨x, ev, r.scalar hs⟩
        · exact ⟨x, ev, r.dom.mono (fun _ h => .inl h) fun _ _ _ e => e⟩
      cases c0 with
      | un => trivial
      | bo d => obtain ⟨x, ev, r⟩ := q; exact plain r ev
      | fz d => obtain ⟨x, ev, r⟩ := q; exact plain r ev
      | ow ds =>
        obtain ⟨p, xs, ev, hp, _, _, r⟩ := q
        exact ⟨_, ev, (Rep.lst (S := All) trivial hp r.all).dom.mono (fun _ h => .inl h) fun _ _ _ e => e⟩
      | scr K a ns =>
        obtain ⟨ev, s⟩ := q
        refine ⟨ev, ?_⟩
        rcases s with (s | ⟨o, s⟩) | s
        · exact .inl (.inl (w.ext _ _ s))
        · exact .inl (.inr ⟨o, w.ext _ _ s⟩)
        · exact .inr s
      | adr a => exact q
      | at_ p d => exact ⟨q.1, q.2.dom.mono (fun _ h => .inl h) fun _ _ _ e => e⟩
  · rw [List.getElem?_map] at h
    cases e : ρ[i]? with
    | none => rw [e] at h; cases h
    | some c0 =>
      rw [e] at h
      have h := Option.some.inj h
      cases c0 <;> simp only [rebC] at h <;> first | cases h | (split at h <;> cases h)
/-- one place's address is kept -/
theorem Wf.pin {H0 H : Hp} {F : Addr → Prop} {σ : St} {ρ : Ev} {i : Nat} {p : Addr} {d : D} (w : Wf H0 F σ ρ H) (hi : ρ[i]? = some (.bo d)) (hs : σ[i]? = some (some (.ref p))) : Wf H0 F σ (ρ.set i (.at_ p d)) H := by
  have hl : i < σ.length := (List.getElem?_eq_some_iff.mp hs).1
  obtain ⟨x, ex, r⟩ := w.cell i _ _ hi hs
  cases ex
  have w2 := w.put (i := i) (c := .at_ p d) (v := some (.ref p)) ⟨rfl, r⟩ (fun _ z => nomatch z)
  have e2 : σ.set i (some (.ref p)) = σ := by
    have : σ[i] = some (.ref p) := (List.getElem?_eq_some_iff.mp hs).2
    rw [← this]
    exact List.set_getElem_self hl
  rw [e2] at w2
  exact w2
/-- a row of statements, then u -/
def tSeqs (κ : Ex → Addr) (W : WX) : List (Ev → SR) → TS → TS
  | [], u => u
  | m :: ms, u => tSeq (tS κ W m) (tSeqs κ W ms u)
def seqs : List (Ev → SR) → Ev → SR
  | [], ρ => .next ρ
  | m :: ms, ρ => (m ρ).seq (seqs ms)
theorem outS.mono {κ : Ex → Addr} {W : WX} {H0 H : Hp} {F : Addr → Prop} {D1 D2 : Ends} {r : SR} (h : outS κ W H0 H F D1 r) (hn : ∀ σ H, D1.nx σ H → D2.nx σ H) (hr : D1.rt = D2.rt) (hb : D1.bk = D2.bk) (hc : D1.ct = D2.ct) : outS κ W H0 H F D2 r := by
  cases r with
  | next ρ => exact fun σ' H' F' s w => hn _ _ (h σ' H' F' s w)
  | brk ρ => exact fun σ' H' F' s w => by rw [← hb]; exact h σ' H' F' s w
  | cont ρ => exact fun σ' H' F' s w => by rw [← hc]; exact h σ' H' F' s w
  | ret d => exact fun v H' S a b r => by rw [← hr]; exact h v H' S a b r
  | retb d => exact fun v H' a r => by rw [← hr]; exact h v H' a r
  | raise c => exact h
  | stuck => exact h
theorem seqs_run {κ : Ex → Addr} {W : WX} {u : TS} {D' : Ends} : ∀ {ms : List (Ev → SR)} {σ : St} {H : Hp}, tS κ W (seqs ms) { D' with nx := u D' } σ H → tSeqs κ W ms u D' σ H
  | [], σ, H, h => by
    obtain ⟨H0, F, ρ, w, h⟩ := h
    exact h σ H F .refl w
  | m :: ms, σ, H, h => by
    have h := seq_run (m := m) (n := seqs ms) h
    obtain ⟨H0, F, ρ, w, h⟩ := h
    exact ⟨H0, F, ρ, w, outS.mono h (fun σ' H' q => seqs_run q) rfl rfl rfl⟩
/-- rows of ints -/
def rowsD (rows : List (List Int)) : List D := rows.map fun r => .list (r.map .int)
theorem rows_inv {H : Hp} {S : Addr → Prop} : ∀ {rows : List (List Int)} {xs : List V}, RepAll H S xs (rowsD rows) → ∃ as : List Addr, xs = as.map V.ref ∧ as.length = rows.length ∧ ∀ (i : Nat) (a : Addr) (r : List Int), as[i]? = some a → rows[i]? = some r → H a = some (.lst (r.map V.int)) ∧ S a
  | [], _, .nil => ⟨[], rfl, rfl, fun i a r h _ => by simp at h⟩
  | r :: rows, _, .cons (@Rep.lst _ _ a _ _ s e q) rs => by
    obtain ⟨as, e1, e2, e3⟩ := rows_inv rs
    subst e1
    have := q.int_inv
    subst this
    refine ⟨a :: as, rfl, by simp [e2], fun i b r' h1 h2 => ?_⟩
    cases i with
    | zero => simp at h1 h2; subst h1; subst h2; exact ⟨e, s⟩
    | succ i => exact e3 i b r' (by simpa using h1) (by simpa using h2)
theorem rows_mk {H : Hp} {S : Addr → Prop} : ∀ {as : List Addr} {rows : List (List Int)}, as.length = rows.length → (∀ (i : Nat) (a : Addr) (r : List Int), as[i]? = some a → rows[i]? = some r → H a = some (.lst (r.map V.int)) ∧ S a) → RepAll H S (as.map V.ref) (rowsD rows)
  | [], [], _, _ => .nil
  | a :: as, r :: rows, h, k => .cons (.lst (k 0 a r rfl rfl).2 (k 0 a r rfl rfl).1 (RepAll.ints r)) (rows_mk (by simpa using h) fun i a r h1 h2 => k (i + 1) a r (by simpa using h1) (by simpa using h2))
section
variable {κ : Ex → Addr} {X : Cx} {W : WX} {pos : Pos}
/-- x[0].append(n); x.append([]) -/
def tA0 (i : Nat) (n : Int) : TS := tDrop (tBM X.K "list" rAppend (tOp (rIxL X.K) (tVar i) (tC (.int 0))) (tCons (tC (.int n)) tNil))
def tA1 (i : Nat) : TS := tDrop (tBM X.K "list" rAppend (tVar i) (tCons (tLst tNil) tNil))
theorem mut2 {H : Hp} {σ : St} {i : Nat} {n : Int} {p : Addr} {as : List Addr} {rows : List (List Int)} {q : Addr} {u : TS} {D' : Ends} (hi : σ[i]? = some (some (.ref p))) (hp : H p = some (.lst ((q :: as).map V.ref))) (hl : (q :: as).length = rows.length)
    (hr : ∀ (i : Nat) (a : Addr) (r : List Int), (q :: as)[i]? = some a → rows[i]? = some r → H a = some (.lst (r.map V.int)) ∧ a ≠ p) (hz : rows.length < 16777216) (hz2 : ∀ r ∈ rows, r.length < 16777216)
    (k : ∀ (H' : Hp) (rows' : List (List Int)), (∀ a o, a ≠ p → a ≠ q → H a = some o → H' a = some o) → rows'.length = rows.length + 1 → (∀ r, rows[0]? = some r → rows'[0]? = some (r ++ [n])) → Rep H' All (.ref p) (.list (rowsD rows')) → u D' σ H') :
    tSeq (tA0 (X := X) i n) (tSeq (tA1 (X := X) i) u) D' σ H := by
  obtain ⟨r0, rest, rfl⟩ : ∃ r0 rest, rows = r0 :: rest := by
    cases rows with
    | nil => simp at hl
    | cons a b => exact ⟨a, b, rfl⟩
  obtain ⟨hq, hqp⟩ := hr 0 q r0 rfl rfl
  have hat : atI ((q :: as).map V.ref) 0 = some (.ref q) := by
    unfold atI ixN
    simp
  refine ⟨.ref p, hi, p, _, 0, .ref q, rfl, rfl, .inl (.inl hp), hat, .inl ⟨rfl, _, .inl (.inl hq)⟩, q, _, .int n, rfl, rfl, hq, ?_, ?_⟩
  · rw [List.length_map, sl16]; exact hz2 r0 List.mem_cons_self
  have hp2 : upd H q (.lst (r0.map V.int ++ [.int n])) p = some (.lst ((q :: as).map V.ref)) := by rw [upd_ne (Ne.symm hqp)]; exact hp
  refine ⟨.ref p, hi, .inl ⟨rfl, _, .inl (.inl hp2)⟩, by show 0 ≤ sizeLine; exact Nat.zero_le _, fun r hrn => ?_⟩
  have hrp : r ≠ p := (ne_of_none hp2 hrn).symm
  have hq2 : upd H q (.lst (r0.map V.int ++ [.int n])) q = some (.lst (r0.map V.int ++ [.int n])) := upd_same
  have hrq : r ≠ q := (ne_of_none hq2 hrn).symm
  refine ⟨p, _, .ref r, rfl, rfl, by rw [upd_ne (Ne.symm hrp)]; exact hp2, by rw [List.length_map, hl, sl16]; exact hz, ?_⟩
  let rr : Nat → Addr → List Int → List Int := fun j a r => if a = q then r0 ++ [n] else r
  let rows' : List (List Int) := ((q :: as).zip (r0 :: rest)).map (fun x => if x.1 = q then r0 ++ [n] else x.2) ++ [[]]
  have hrows : rows'.length = (r0 :: rest).length + 1 := by
    show (((q :: as).zip (r0 :: rest)).map _ ++ [[]]).length = _
    rw [List.length_append, List.length_map, List.length_zip, hl, Nat.min_self]
    rfl
  refine k _ rows' (fun a o h1 h2 e => ?_) hrows (fun r e => ?_) ?_
  · rw [upd_ne h1, upd_ne, upd_ne h2]
    · exact e
    · intro z
      subst z
      rw [upd_ne h2, e] at hrn
      cases hrn
  · simp at e
    subst e
    show (((q :: as).zip (r0 :: rest)).map _ ++ [[]])[0]? = _
    simp
  · have e1 : (q :: as).map V.ref ++ [V.ref r] = (q :: as ++ [r]).map V.ref := by simp
    rw [e1]
    refine .lst trivial upd_same (rows_mk (by rw [hrows, List.length_append, hl]; rfl) fun j a rj h1 h2 => ⟨?_, trivial⟩)
    by_cases hj : j < (q :: as).length
    · rw [List.getElem?_append_left hj] at h1
      have hj2 : j < (r0 :: rest).length := by rw [← hl]; exact hj
      have hz3 : ((q :: as).zip (r0 :: rest))[j]? = some (a, (r0 :: rest)[j]) := by
        rw [List.getElem?_zip_eq_some]
        exact ⟨h1, List.getElem?_eq_getElem hj2⟩
      have h2' : rows'[j]? = some (if a = q then r0 ++ [n] else (r0 :: rest)[j]) := by
        show (((q :: as).zip (r0 :: rest)).map _ ++ [[]])[j]? = _
        rw [List.getElem?_append_left (by rw [List.length_map, List.length_zip, hl, Nat.min_self]; exact hj2), List.getElem?_map, hz3]
        rfl
      rw [h2'] at h2
      have h2 := Option.some.inj h2
      obtain ⟨ha, hap⟩ := hr j a _ h1 (List.getElem?_eq_getElem hj2)
      rw [upd_ne hap]
      by_cases haq : a = q
      · subst haq
        rw [if_pos rfl] at h2
        rw [upd_ne (Ne.symm hrq), upd_same, ← h2, List.map_append]
        rfl
      · rw [if_neg haq] at h2
        rw [upd_ne (fun z => by subst z; rw [upd_ne haq, ha] at hrn; cases hrn), upd_ne haq, ha, h2]
    · have hj1 : j = (q :: as).length := by
        have := (List.getElem?_eq_some_iff.mp h1).1
        rw [List.length_append] at this
        simp only [List.length_cons, List.length_nil] at this hj ⊢
        omega
      subst hj1
      rw [List.getElem?_append_right (Nat.le_refl _), Nat.sub_self] at h1
      simp at h1
      subst h1
      have h2' : rows'[(q :: as).length]? = some [] := by
        show (((q :: as).zip (r0 :: rest)).map _ ++ [[]])[_]? = _
        rw [List.getElem?_append_right (by rw [List.length_map, List.length_zip, hl, Nat.min_self]; exact Nat.le_refl _)]
        rw [List.length_map, List.length_zip, hl, Nat.min_self, Nat.sub_self]
        rfl
      rw [h2'] at h2
      have h2 := Option.some.inj h2
      subst h2
      rw [upd_ne hrp, upd_same]
      rfl
end
end L2.Xq
set_option Elab.async false
set_option linter.all false
set_option maxRecDepth 100000
set_option maxHeartbeats 4000000
namespace L2.Xq
open PySem PySem.Spec PyProof.Rows
/-! ### how the mirrors are reckoned -/
section
variable {α β : Type} {f : α → Res β} {g : α → SR} {h : Ev → SR} {ρ : Ev} {d : D} {ds es : List D} {i j : Int} {m m' : Md} {b : Bool} {c : Cell} {e : Ex} {k : Nat} {s : Str}
@[simp] theorem z_b1 {a : α} : (Res.ok a).bind f = f a := rfl
@[simp] theorem z_b2 : (Res.raise e : Res α).bind f = .raise e := rfl
@[simp] theorem z_b3 : (Res.stuck : Res α).bind f = .stuck := rfl
@[simp] theorem z_b4 {p : Prop} [Decidable p] {x y : Res α} : (if p then x else y).bind f = if p then x.bind f else y.bind f := by split <;> rfl
@[simp] theorem z_s1 {a : α} : (Res.ok a).sr g = g a := rfl
@[simp] theorem z_s2 : (Res.raise e : Res α).sr g = .raise e := rfl
@[simp] theorem z_s3 : (Res.stuck : Res α).sr g = .stuck := rfl
@[simp] theorem z_s4 {p : Prop} [Decidable p] {x y : Res α} : (if p then x else y).sr g = if p then x.sr g else y.sr g := by split <;> rfl
@[simp] theorem z_q1 : (SR.next ρ).seq h = h ρ := rfl
@[simp] theorem z_q2 : (SR.ret d).seq h = .ret d := rfl
@[simp] theorem z_q3 : (SR.raise e).seq h = .raise e := rfl
@[simp] theorem z_q4 : SR.stuck.seq h = .stuck := rfl
@[simp] theorem z_q5 : (SR.brk ρ).seq h = .brk ρ := rfl
@[simp] theorem z_q6 : (SR.cont ρ).seq h = .cont ρ := rfl
@[simp] theorem z_q7 {p : Prop} [Decidable p] {x y : SR} : (if p then x else y).seq h = if p then x.seq h else y.seq h := by split <;> rfl
@[simp] theorem z_e1 : endM (.ret d) = .ok d := rfl
@[simp] theorem z_e2 : endM (.next ρ) = .ok .none := rfl
@[simp] theorem z_e3 : endM (.raise e) = .raise e := rfl
@[simp] theorem z_e4 : endM .stuck = .stuck := rfl
@[simp] theorem z_e5 {p : Prop} [Decidable p] {x y : SR} : endM (if p then x else y) = if p then endM x else endM y := by split <;> rfl
@[simp] theorem z_o1 {a : α} : Res.of (some a) = .ok a := rfl
@[simp] theorem z_o2 : Res.of (none : Option α) = .stuck := rfl
@[simp] theorem z_o3 {p : Prop} [Decidable p] {x y : Option α} : Res.of (if p then x else y) = if p then Res.of x else Res.of y := by split <;> rfl
@[simp] theorem z_c1 : scalar (.int i) = true := rfl
@[simp] theorem z_c2 : scalar (.bool b) = true := rfl
@[simp] theorem z_c3 : scalar (.str s) = true := rfl
@[simp] theorem z_c4 : scalar .none = true := rfl
@[simp] theorem z_c5 : scalar (.list ds) = false := rfl
@[simp] theorem z_c6 : scalar (.tuple ds) = false := rfl
@[simp] theorem z_c7 {kv} : scalar (.dict kv) = false := rfl
@[simp] theorem z_p1 : parC (.int i) = .fz (.int i) := rfl
@[simp] theorem z_p2 : parC (.bool b) = .fz (.bool b) := rfl
@[simp] theorem z_p3 : parC (.str s) = .fz (.str s) := rfl
@[simp] theorem z_p4 : parC .none = .fz .none := rfl
@[simp] theorem z_p5 : parC (.list ds) = .bo (.list ds) := rfl
@[simp] theorem z_p6 : parC (.tuple ds) = .bo (.tuple ds) := rfl
@[simp] theorem z_p7 {kv} : parC (.dict kv) = .bo (.dict kv) := rfl
theorem mVar_fz {n : Nat} (h : ρ[n]? = some (.fz d)) : mVar n ρ = .ok (.fz, d) := by unfold mVar; rw [h]
theorem mVar_bo {n : Nat} (h : ρ[n]? = some (.bo d)) : mVar n ρ = .ok (.bo, d) := by unfold mVar; rw [h]
theorem mVar_ow {n : Nat} (h : ρ[n]? = some (.ow ds)) : mVar n ρ = .ok (.tmp, .list ds) := by unfold mVar; rw [h]
def rdC : Option Cell → RV
  | some (.bo d) => .ok (.bo, d)
  | some (.fz d) => .ok (.fz, d)
  | some (.ow ds) => .ok (.tmp, .list ds)
  | some (.at_ _ d) => .ok (.bo, d)
  | _ => .stuck
@[simp] theorem z_v0 {n : Nat} : mVar n ρ = rdC ρ[n]? := by
  unfold mVar rdC
  rfl
@[simp] theorem z_v1 : rdC (some (.fz d)) = .ok (.fz, d) := rfl
@[simp] theorem z_v2 : rdC (some (.bo d)) = .ok (.bo, d) := rfl
@[simp] theorem z_v5 {p : Addr} : rdC (some (.at_ p d)) = .ok (.bo, d) := rfl
@[simp] theorem z_v3 : rdC (some (.ow ds)) = .ok (.tmp, .list ds) := rfl
/-- a parameter of any kind is read -/
def parM (d : D) : Md := if scalar d then .fz else .bo
@[simp] theorem z_v4 : rdC (some (parC d)) = .ok (parM d, d) := by
  unfold parC parM
  split <;> rfl
@[simp] theorem z_m1 : parM (.int i) = .fz := rfl
@[simp] theorem z_m2 : parM (.list ds) = .bo := rfl
@[simp] theorem z_cl1 : cellOf (.bo, d) = .bo d := rfl
@[simp] theorem z_cl2 : cellOf (.fz, d) = .fz d := rfl
@[simp] theorem z_cl3 : cellOf (.fr, d) = .fz d := rfl
@[simp] theorem z_cl4 : cellOf (.tmp, d) = .fz d := rfl
@[simp] theorem z_a1 {n : Nat} : asgV n ρ (.fr, .list ds) = .next (ρ.set n (.ow ds)) := rfl
@[simp] theorem z_a2 {n : Nat} : asgV n ρ (.fz, d) = .next (ρ.set n (.fz d)) := rfl
@[simp] theorem z_a3 {n : Nat} : asgV n ρ (.bo, .list ds) = .next (ρ.set n (.bo (.list ds))) := rfl
@[simp] theorem z_a4 {n : Nat} : asgV n ρ (.bo, .int i) = .next (ρ.set n (.fz (.int i))) := rfl
@[simp] theorem z_a5 {n : Nat} : asgV n ρ (.bo, .tuple ds) = .next (ρ.set n (.bo (.tuple ds))) := rfl
@[simp] theorem z_r1 : retV (.fz, d) = .ret d := rfl
@[simp] theorem z_r2 : retV (.fr, d) = .ret d := rfl
@[simp] theorem z_r3 : retV (.bo, .int i) = .ret (.int i) := rfl
@[simp] theorem z_d1 : dOne (.fz, d) = .ok (true, [d]) := rfl
@[simp] theorem z_d2 : dOne (.fr, d) = .ok (true, [d]) := rfl
@[simp] theorem z_d3 : dOne (.bo, d) = .ok (scalar d, [d]) := rfl
@[simp] theorem z_d4 : dOne (parM d, d) = .ok (true, [d]) ∨ dOne (parM d, d) = .ok (false, [d]) := by
  unfold parM
  split
  · exact .inl rfl
  · rename_i h; right; show Res.ok (scalar d, [d]) = _; simp at h; rw [h]
@[simp] theorem z_bb : asB (m, .bool b) = .ok b := rfl
@[simp] theorem z_f1 : fAdd m (.int i) m' (.int j) = some (.fz, .int (i + j)) := rfl
@[simp] theorem z_f2 : fAdd m (.list ds) m' (.list es) = if ds.length + es.length ≤ 16777216 then some (mdL (elFz m ds && elFz m' es), .list (ds ++ es)) else none := rfl
@[simp] theorem z_f3 : fSub m (.int i) m' (.int j) = some (.fz, .int (i - j)) := rfl
@[simp] theorem z_f4 : fMul m (.int i) m' (.int j) = if (inW i || inW j) = true then some (.fz, .int (i * j)) else none := rfl
@[simp] theorem z_f5 : fMul m (.list ds) m' (.int i) = if i ≤ 16777216 ∧ -(2 ^ 63) ≤ i ∧ ds.length * i.toNat ≤ 16777216 then some (mdL (elFz m ds), .list (List.replicate i.toNat ds).flatten) else none := rfl
@[simp] theorem z_f6 : fFdiv m (.int i) m' (.int j) = if j ≠ 0 ∧ j.natAbs < 1073741824 then some (.fz, .int (i.fdiv j)) else none := rfl
@[simp] theorem z_f7 : fMod m (.int i) m' (.int j) = if j ≠ 0 then some (.fz, .int (i.fmod j)) else none := rfl
@[simp] theorem z_f8 : fPow m (.int i) m' (.int j) = if 0 ≤ j ∧ j ≤ 1000000 ∧ i.natAbs < 2 ^ 64 then some (.fz, .int (i ^ j.toNat)) else none := rfl
@[simp] theorem z_f9 {p : Int → Int → Bool} : fCmp p m (.int i) m' (.int j) = some (.fz, .bool (p i j)) := rfl
@[simp] theorem z_g1 : fIsN m d m' .none = some (.fz, .bool (isNone d)) := rfl
@[simp] theorem z_g2 : fNotN m d m' .none = some (.fz, .bool (!isNone d)) := rfl
@[simp] theorem z_el1 : elFz .fz ds = true := rfl
@[simp] theorem z_el2 : elFz .fr ds = true := rfl
@[simp] theorem z_el3 : elFz .tmp ds = true := rfl
@[simp] theorem z_el4 : elFz .bo ds = ds.all scalar := rfl
@[simp] theorem z_ml1 : mdL true = .fr := rfl
@[simp] theorem z_ml2 : mdL false = .bo := rfl
@[simp] theorem z_l1 : fLen [(m, .list ds)] = some (.fz, .int ds.length) := rfl
@[simp] theorem z_l2 : fLen [(m, .tuple ds)] = some (.fz, .int ds.length) := rfl
@[simp] theorem z_i1 : fInt [(m, .int i)] = some (.fz, .int i) := rfl
@[simp] theorem z_i2 : fInt [(m, .bool b)] = some (.fz, .int (if b then 1 else 0)) := rfl
@[simp] theorem z_li1 : fList [(m, .list ds)] = some (mdL (elFz m ds), .list ds) := rfl
@[simp] theorem z_li2 : fList [(m, .tuple ds)] = some (mdL (elFz m ds), .list ds) := rfl
@[simp] theorem z_tu1 : fTuple [(m, .list ds)] = some (if elFz m ds then .fz else .bo, .tuple ds) := rfl
@[simp] theorem z_t1 : truD .none = some false := rfl
@[simp] theorem z_t2 : truD (.bool b) = some b := rfl
@[simp] theorem z_t3 : truD (.int i) = some (i != 0) := rfl
@[simp] theorem z_t4 : truD (.list ds) = some (!ds.isEmpty) := rfl
@[simp] theorem z_mo1 : mdOf (.list ds) = .fr := rfl
@[simp] theorem z_mo2 : mdOf (.int i) = .fz := rfl
@[simp] theorem z_mo3 : mdOf (.bool b) = .fz := rfl
@[simp] theorem z_mo4 : mdOf .none = .fz := rfl
@[simp] theorem z_mo5 : mdOf (.tuple ds) = .fz := rfl
@[simp] theorem z_mo6 : mdOf (.str s) = .fz := rfl
@[simp] theorem z_ty1 : tyName (.list ds) = "list" := rfl
@[simp] theorem z_ty2 : tyName (.int i) = "int" := rfl
@[simp] theorem z_ty3 : tyName (.bool b) = "bool" := rfl
@[simp] theorem z_ty4 : tyName .none = "NoneType" := rfl
@[simp] theorem z_ty5 : tyName (.tuple ds) = "tuple" := rfl
@[simp] theorem z_ty6 : tyName (.str s) = "str" := rfl
@[simp] theorem z_ty7 {kv} : tyName (.dict kv) = "dict" := rfl
@[simp] theorem z_ow {n : Nat} {f : List D → SR} (h : ρ[n]? = some (.ow ds)) : owD n ρ f = f ds := by unfold owD; rw [h]
theorem z_fr {n : Nat} (h : ρ[n]? = some (.ow ds)) : frzC n ρ = ρ.set n (.fz (.list ds)) := by unfold frzC; rw [h]
theorem z_fr2 {n : Nat} (h : ∀ ds, ρ[n]? ≠ some (.ow ds)) : frzC n ρ = ρ := by
  unfold frzC
  split
  · rename_i ds e; exact absurd e (h ds)
  · rfl
def frzK (ρ : Ev) (n : Nat) : Option Cell → Ev
  | some (.ow ds) => ρ.set n (.fz (.list ds))
  | _ => ρ
@[simp] theorem z_fz0 {n : Nat} : frzC n ρ = frzK ρ n ρ[n]? := by
  unfold frzC frzK
  rfl
@[simp] theorem z_fz1 {n : Nat} : frzK ρ n (some (.ow ds)) = ρ.set n (.fz (.list ds)) := rfl
@[simp] theorem z_fz2 {n : Nat} : frzK ρ n (some (.fz d)) = ρ := rfl
@[simp] theorem z_fz3 {n : Nat} : frzK ρ n (some (.bo d)) = ρ := rfl
@[simp] theorem z_fz6 {n : Nat} {p : Addr} : frzK ρ n (some (.at_ p d)) = ρ := rfl
@[simp] theorem z_fz4 {n : Nat} : frzK ρ n (some .un) = ρ := rfl
@[simp] theorem z_fz5 {n : Nat} : frzK ρ n (some (cellOf (m, d))) = ρ := by cases m <;> rfl
@[simp] theorem z_ir1 {ma : Ev → RV} : iR1 ma ρ = (ma ρ).bind fun x => match x with
  | (_, .int j) => if smallR j = true then .ok (false, rangeD 0 j.toNat) else .stuck
  | _ => .stuck := rfl
@[simp] theorem z_ls {x : Ev → RD} : mLst x ρ = (x ρ).bind fun x => if x.2.length ≤ 16777216 then .ok (mdL x.1, .list x.2) else .stuck := rfl
theorem z_il1 {ma : Ev → RV} (h : ma ρ = .ok (.bo, .list ds)) : iL ma ρ = .ok (false, ds.map fun d => (.bo, d)) := by unfold iL; rw [h]; rfl
theorem z_il2 {ma : Ev → RV} (h : ma ρ = .ok (.fz, .list ds)) : iL ma ρ = .ok (false, ds.map fun d => (.fz, d)) := by unfold iL; rw [h]; rfl
theorem z_il3 {ma : Ev → RV} (h : ma ρ = .ok (.fr, .list ds)) : iL ma ρ = .ok (false, ds.map fun d => (.fz, d)) := by unfold iL; rw [h]; rfl
theorem z_il4 {ma : Ev → RV} (h : ma ρ = .ok (.tmp, .list ds)) : iL ma ρ = .ok (true, ds.map fun d => (.fz, d)) := by unfold iL; rw [h]; rfl
def negV (x : Md × D) : RV := match x.2 with
  | .int i => .ok (.fz, .int (-i))
  | _ => .stuck
@[simp] theorem z_ng0 {ma : Ev → RV} : mNeg ma ρ = (ma ρ).bind negV := rfl
@[simp] theorem z_ng1 : negV (m, .int i) = .ok (.fz, .int (-i)) := rfl
def iLV (x : Md × D) : RI := match x with
  | (.tmp, .list ds) => .ok (true, ds.map fun d => (.fz, d))
  | (.bo, .list ds) => .ok (false, ds.map fun d => (.bo, d))
  | (_, .list ds) => .ok (false, ds.map fun d => (.fz, d))
  | _ => .stuck
@[simp] theorem z_iv0 {ma : Ev → RV} : iL ma ρ = (ma ρ).bind iLV := rfl
@[simp] theorem z_iv1 : iLV (.tmp, .list ds) = .ok (true, ds.map fun d => (.fz, d)) := rfl
@[simp] theorem z_iv2 : iLV (.bo, .list ds) = .ok (false, ds.map fun d => (.bo, d)) := rfl
@[simp] theorem z_iv3 : iLV (.fz, .list ds) = .ok (false, ds.map fun d => (.fz, d)) := rfl
@[simp] theorem z_iv4 : iLV (.fr, .list ds) = .ok (false, ds.map fun d => (.fz, d)) := rfl
def partV (x : Md × D) : RO := match x.2 with
  | .int i => .ok (some i)
  | _ => .stuck
@[simp] theorem z_pv0 {ma : Ev → RV} : mPart ma ρ = (ma ρ).bind partV := rfl
@[simp] theorem z_pv1 : partV (m, .int i) = .ok (some i) := rfl
def slV (l h : Option Int) (x : Md × D) : RV := match x.2 with
  | .list xs => .ok (mdL (elFz x.1 (cutD xs l h)), .list (cutD xs l h))
  | _ => .stuck
@[simp] theorem z_sv0 {ma : Ev → RV} {ml mh : Ev → RO} : mSl ma ml mh ρ = (ma ρ).bind fun x => (ml ρ).bind fun l => (mh ρ).bind fun h => slV l h x := rfl
@[simp] theorem z_sv1 {l h : Option Int} : slV l h (m, .list ds) = .ok (mdL (elFz m (cutD ds l h)), .list (cutD ds l h)) := rfl
@[simp] theorem z_mt {x : Ev → RD} : mTup x ρ = (x ρ).bind fun x => if x.2.length ≤ 16777216 then .ok (if x.1 then .fz else .bo, .tuple x.2) else .stuck := rfl
theorem inW_small {s : Int} (h : -1000000 ≤ s) (h2 : s ≤ 1000000) : inW s = true := by unfold inW; simp; omega
theorem smallR_small {s : Int} (h : -1000000000 ≤ s) (h2 : s ≤ 1000000000) : smallR s = true := by simp [smallR]; omega
theorem rangeD_len (lo : Int) (n : Nat) : (rangeD lo n).length = n := by simp [rangeD]
end
end L2.Xq
set_option Elab.async false
set_option linter.all false
set_option maxRecDepth 100000
set_option maxHeartbeats 4000000
namespace L2.Xq
open PySem PySem.Spec PyProof.Rows
/-! ### the head's facts -/
def spLaw (K : PySem.W.Frag) : Sp := fun vs H Q _ => ∃ (a : Addr) (ns : List Int), vs = [.ref a] ∧ SqL K H a (ns.map V.int) ∧ ∀ H', Q (.bl true) H'
section
variable {K : PySem.W.Frag} {h : Heap} {mg : Str → Option Value}
def df_mk {nm : Str} {st : Stmt} {ps : List Str} {f : Addr} {oc : Value} {od an : Option Addr} {osl : Array (Option Value)} {kV doc pm cdv ct : Value} (X : K.In h) (G : h.Ns mainGlobals mg)
    (a : PySem.W.nsIn K mainGlobals nm = some (some (.ref f))) (l : K.lookup f = some ⟨oc, od, .func (PySem.W.fnOf nm nm (defArgs st) (defBody st) (defScope st) .none kV doc pm an cdv ct), osl⟩) (c : PySem.W.codeIn K cdv nm = true) (k : PySem.W.keepIn K (.ref f) = true)
    (b : ∀ (kV doc pm : Value) (an : Option Addr) (cdv ct : Value) (us : List Value), us.length = ps.length → bindArgs (PySem.W.fnOf nm nm (defArgs st) (defBody st) (defScope st) .none kV doc pm an cdv ct) ⟨us, []⟩ = pure (ps.zip us)) : Df K mg nm st ps :=
  ⟨f, _, fun_mk l c k, PySem.W.mg_of X G a, (fun_mk l c k).binds b⟩
/-- what is asked of one class of the module -/
structure Kc (K : PySem.W.Frag) (nm : Str) (C : Addr) : Prop where
  a : PySem.W.nsIn K mainGlobals nm = some (some (.ref C))
  x : PySem.W.excIn K C [.type "ValueError", .type "Exception", .type "BaseException", .type "object"] "ValueError.__new__" = true
  k : PySem.W.keepIn K (.ref C) = true
  s : PySem.W.subIn K (.ref C) (.type "BaseException") = some true
  y : PySem.W.typeIn K (.ref C) = some (.type "type")
  c : PySem.W.isClsIn K C = true
structure Ks (K : PySem.W.Frag) (C : Addr) : Prop where
  hg : PySem.W.findIn K (.ref C) "__getattribute__" = some (some (.builtin "BaseException.__getattribute__"))
  hk : PySem.W.findIn K (.ref C) "__getattr__" = some none
  hd : PySem.W.hasDictIn K C = true
  ha : PySem.W.findIn K (.ref C) "__class__" = some (some (.builtin "object.__class__"))
  hn : PySem.W.specialIn K (.builtin "object.__class__") "__get__" = some (some (.builtin "getset_descriptor.__get__"))
  ht : PySem.W.takesIn K (.builtin "object.__class__") = some true
  hm : PySem.W.mroIn K C (.type "object") = some true
  hv : PySem.W.subIn K (.ref C) (.type "ValueError") = some true
theorem Kc.xc {nm : Str} {C : Addr} (q : Kc K nm C) (X : K.In h) (G : h.Ns mainGlobals mg) : Xc K mg nm C := ⟨PySem.W.mg_of X G q.a, q.x, q.k, q.s, q.y⟩
def kap (r s d b i n m j : Addr) : Ex → Addr
  | .ring => r | .size => s | .word => d | .book => b | .bring => i | .noword => n | .noring => m | .nojoin => j
theorem cls_sub {nm : Str} {t : Value} {C : Addr} (q : Kc K nm C) {b : Bool} (s : PySem.W.subIn K t (.ref C) = some b) : PySem.W.kitCls K t (.ref C) = some b := by
  have e : ((PySem.W.clsIn K C).isSome && PySem.W.typeIn K (.ref C) == some (.type "type")) = true := by
    have h : (PySem.W.clsIn K C).isSome = true := q.c
    rw [h, q.y]
    rfl
  unfold PySem.W.kitCls
  simp only []
  rw [if_pos e]
  exact s
theorem kit_mk {nm : Str} {a C : Addr} (q : Kc K nm C) {b : Bool} (s : PySem.W.subIn K (.ref a) (.ref C) = some b) (z : b = false → PySem.W.subIn K (.ref a) (.ref a) = some true) : PySem.W.kitOne K (.ref a) (.ref C) = some b := by
  unfold PySem.W.kitOne
  by_cases h : ((Value.ref a == Value.ref C) = true)
  · rw [if_pos h]
    have e := beq_iff_eq.mp h
    cases e
    cases b with
    | true => rfl
    | false => rw [z rfl] at s; cases s
  · rw [if_neg h]
    exact cls_sub q s
theorem exm_mk {nm : Str} {a C : Addr} (q : Kc K nm C) {b : Bool} (s : PySem.W.subIn K (.ref a) (.ref C) = some b) : PySem.W.exmOne K (.ref a) (.ref C) = some b := by
  have e : (PySem.W.subIn K (.ref C) (.type "BaseException") == some true) = true := by rw [q.s]; rfl
  unfold PySem.W.exmOne
  rw [if_pos e]
  exact cls_sub q s
theorem kit_val {a : Addr} (s : PySem.W.subIn K (.ref a) (.type "ValueError") = some true) : PySem.W.kitOne K (.ref a) (.type "ValueError") = some true := by
  unfold PySem.W.kitOne
  rw [if_neg (show ¬ ((Value.ref a == Value.type "ValueError") = true) from fun h => by have e := beq_iff_eq.mp h; cases e)]
  unfold PySem.W.kitCls
  simp only []
  rw [if_pos (by decide +kernel)]
  exact s
theorem rc_mk {κ : Ex → Addr} {c : Ex} {nm : Str} (q : Kc K nm (κ c)) (p : Ks K (κ c)) (e : ∀ k, k ≠ .ring → PySem.W.kitOne K (.ref (κ c)) (.ref (κ k)) = some (isSub c k)) (x : PySem.W.exmOne K (.ref (κ c)) (.ref (κ .ring)) = some true) : Rc K κ c :=
  ⟨⟨p.hg, p.hk, q.s, p.hd, p.ha, p.hn, p.ht, p.hm⟩, e .size (by decide), e .word (by decide), e .book (by decide), e .bring (by decide), e .noword (by decide), e .noring (by decide), e .nojoin (by decide), kit_val p.hv, x⟩
end
end L2.Xq
set_option Elab.async false
set_option linter.all false
set_option maxRecDepth 100000
set_option maxHeartbeats 4000000
namespace L2.Xq
open PySem PySem.Spec PyProof.Rows
/-! ### values that are only read -/
section
variable {κ : Ex → Addr} {X : Cx} {W : WX} {e : Expr} {es : List Expr} {pos : Pos} {ma : Ev → RV} {mx : Ev → Res D} {mxs : Ev → Res (List D)}
def outX (κ : Ex → Addr) (W : WX) (H0 : Hp) (σ : St) (H : Hp) (F : Addr → Prop) (Q : VK) : Res D → Prop
  | .ok d => ∀ v H' F', Grow H F H' F' → Rep H' All v d → Q v H'
  | .raise c => ∀ H' F', Grow H F H' F' → W (.ref (κ c)) none σ H'
  | .stuck => False
def tX (κ : Ex → Addr) (W : WX) (m : Ev → Res D) : TE := fun σ H Q => ∃ H0 F ρ, Wf H0 F σ ρ H ∧ outX κ W H0 σ H F Q (m ρ)
abbrev SX (κ : Ex → Addr) (X : Cx) (W : WX) (e : Expr) (m : Ev → Res D) : Prop := PE X e (tX κ W m)
def outXs (κ : Ex → Addr) (W : WX) (H0 : Hp) (σ : St) (H : Hp) (F : Addr → Prop) (Q : List V → Hp → Prop) : Res (List D) → Prop
  | .ok ds => ∀ vs H' F', Grow H F H' F' → RepAll H' All vs ds → Q vs H'
  | .raise c => ∀ H' F', Grow H F H' F' → W (.ref (κ c)) none σ H'
  | .stuck => False
def tXs (κ : Ex → Addr) (W : WX) (m : Ev → Res (List D)) : TA := fun σ H Q => ∃ H0 F ρ, Wf H0 F σ ρ H ∧ outXs κ W H0 σ H F Q (m ρ)
abbrev SXs (κ : Ex → Addr) (X : Cx) (W : WX) (es : List Expr) (m : Ev → Res (List D)) : Prop := PA X es (tXs κ W m)
@[simp] def xOf (m : Ev → RV) : Ev → Res D := fun ρ => (m ρ).bind fun x => .ok x.2
theorem SX.of (h : SE κ X W e ma) : SX κ X W e (xOf ma) := h.imp fun σ H Q h => by
  obtain ⟨H0, F, ρ, w, h⟩ := h
  refine ⟨H0, F, ρ, w, ?_⟩
  unfold xOf at h
  cases em : ma ρ with
  | ok x =>
    obtain ⟨md, d⟩ := x
    rw [em] at h
    exact fun v H' F' g r => h v H' F' g r.all
  | raise c => rw [em] at h; exact h
  | stuck => rw [em] at h; exact h
@[simp] def xNil : Ev → Res (List D) := fun _ => .ok []
@[simp] def xCons (m : Ev → Res D) (ms : Ev → Res (List D)) : Ev → Res (List D) := fun ρ => (m ρ).bind fun d => (ms ρ).bind fun ds => .ok (d :: ds)
theorem SXs.nil : SXs κ X W [] xNil := pa_nil.imp fun σ H Q h => by
  obtain ⟨H0, F, ρ, w, h⟩ := h
  exact h [] H F .refl .nil
theorem SXs.cons (ha : SX κ X W e mx) (hr : SXs κ X W es mxs) (hs : starEach (e :: es) X.env = (false, eval e X.env) :: starEach es X.env := by rfl) : SXs κ X W (e :: es) (xCons mx mxs) := (pa_cons ha hr hs).imp fun σ H Q h => by
  obtain ⟨H0, F, ρ, w, h⟩ := h
  refine ⟨H0, F, ρ, w, ?_⟩
  unfold xCons at h
  cases ea : mx ρ with
  | stuck => rw [ea] at h; exact h
  | raise c => rw [ea] at h; exact h
  | ok d =>
    rw [ea] at h
    intro v H1 F1 g1 r1
    refine ⟨H0, F1, ρ, w.grow g1, ?_⟩
    simp only [Res.bind] at h
    cases em : mxs ρ with
    | stuck => rw [em] at h; exact h
    | raise c => rw [em] at h; exact fun H' F' g' => h H' F' (g1.trans g')
    | ok ds =>
      rw [em] at h
      exact fun vs H' F' g' rs => h (v :: vs) H' F' (g1.trans g') (.cons (r1.mono (fun _ h => h) fun _ _ _ e => g'.ext _ _ e) rs)
/-- of a def that may tell what was handed in -/
def spB (κ : Ex → Addr) (n : Nat) (f : List D → Res D) : Sp := fun vs H Q E => ∃ ds, ds.length = n ∧ RepAll H All vs ds ∧ match f ds with
  | .ok d => ∀ v H', (∀ a o, H a = some o → H' a = some o) → Rep H' All v d → Q v H'
  | .raise c => ∀ H', (∀ a o, H a = some o → H' a = some o) → E (.ref (κ c)) none H'
  | .stuck => False
@[simp] def xCall (n : Nat) (f : List D → Res D) (ms : Ev → Res (List D)) : Ev → Res D := fun ρ => (ms ρ).bind fun xs => if xs.length = n then f xs else .stuck
@[simp] def mCallX (n : Nat) (f : List D → Res D) (ms : Ev → Res (List D)) : Ev → RV := fun ρ => (ms ρ).bind fun xs => if xs.length = n then (f xs).bind fun d => .ok (mdOf d, d) else .stuck
theorem SX.callB {k n : Nat} {f : Addr} {fd : FuncData} {ps : List Str} {g : List D → Res D} {x : Str} {p : Pos} (F : FnOk X.prog X.w X.K X.mg X.base (L2.CX X.prog X.w) k f fd ps (spB κ n g)) (hr : Room k X.A) (tk : Takes X W) (hg : Gl X x) (hm : X.mg x = some (.ref f))
    (hk : PySem.W.keepIn X.K (.ref f) = true) (hb : Binds X.K fd ps []) (ha : SXs κ X W (e :: es) mxs) (hdb : (x == ("__debug__" : Str)) = false := by decide)
    (he : starEach (e :: es) X.env = (false, eval e X.env) :: starEach es X.env := by rfl) (hpl : (backTo pos (starEach es X.env)).any (·.1) = false := by rfl) :
    SX κ X W (.Call (.Name x p) (e :: es) [] pos) (xCall n g mxs) := (pe_callS F hr hg hm hk hb (fun σ => passAt tk σ) ha hdb he hpl).imp fun σ H Q h => by
  obtain ⟨H0, F, ρ, w, h⟩ := h
  refine ⟨H0, F, ρ, w, ?_⟩
  unfold xCall at h
  cases em : mxs ρ with
  | stuck => rw [em] at h; exact h
  | raise c => rw [em] at h; exact h
  | ok xs =>
    rw [em] at h
    simp only [Res.bind] at h
    intro vs H1 F1 g1 r1
    by_cases hl : xs.length = n
    case neg => rw [if_neg hl] at h; exact h.elim
    rw [if_pos hl] at h
    refine ⟨xs, hl, r1, ?_⟩
    cases eg : g xs with
    | ok d =>
      rw [eg] at h
      exact fun v H' hx r => h v H' F1 (g1.trans ⟨hx, fun _ h => h, fun _ h => .inl h⟩) r
    | raise c =>
      rw [eg] at h
      exact fun H' hx => h H' F1 (g1.trans ⟨hx, fun _ h => h, fun _ h => .inl h⟩)
    | stuck => rw [eg] at h; exact h
theorem SE.callX {k n : Nat} {f : Addr} {fd : FuncData} {ps : List Str} {g : List D → Res D} {x : Str} {p : Pos} (F : FnOk X.prog X.w X.K X.mg X.base (L2.CX X.prog X.w) k f fd ps (spM κ n g)) (hr : Room k X.A) (tk : Takes X W) (hg : Gl X x) (hm : X.mg x = some (.ref f))
    (hk : PySem.W.keepIn X.K (.ref f) = true) (hb : Binds X.K fd ps []) (ha : SXs κ X W (e :: es) mxs) (hdb : (x == ("__debug__" : Str)) = false := by decide)
    (he : starEach (e :: es) X.env = (false, eval e X.env) :: starEach es X.env := by rfl) (hpl : (backTo pos (starEach es X.env)).any (·.1) = false := by rfl) :
    SE κ X W (.Call (.Name x p) (e :: es) [] pos) (mCallX n g mxs) := (pe_callS F hr hg hm hk hb (fun σ => passAt tk σ) ha hdb he hpl).imp fun σ H Q h => by
  obtain ⟨H0, F, ρ, w, h⟩ := h
  refine ⟨H0, F, ρ, w, ?_⟩
  unfold mCallX at h
  cases em : mxs ρ with
  | stuck => rw [em] at h; exact h
  | raise c => rw [em] at h; exact h
  | ok xs =>
    rw [em] at h
    simp only [Res.bind] at h
    intro vs H1 F1 g1 r1
    by_cases hl : xs.length = n
    case neg => rw [if_neg hl] at h; exact h.elim
    rw [if_pos hl] at h
    refine ⟨xs, hl, r1, ?_⟩
    cases eg : g xs with
    | ok d =>
      rw [eg] at h
      intro v H' S hx hs r
      obtain ⟨F', g', q⟩ := fresh_rep (w.grow g1) hx hs r
      exact h v H' F' (g1.trans g') (q.early g1)
    | raise c =>
      rw [eg] at h
      exact fun H' hx => h H' F1 (g1.trans ⟨hx, fun _ h => h, fun _ h => .inl h⟩)
    | stuck => rw [eg] at h; exact h
end
def endB (r : SR) : Res D := match r with
  | .ret d => .ok d
  | .retb d => .ok d
  | .next _ => .ok .none
  | .raise c => .raise c
  | _ => .stuck
@[simp] def runB (k : Nat) (m : Ev → SR) : List D → Res D := fun ds => endB (m (ev0 k ds))
section
variable {κ : Ex → Addr} {P : Program} {w : World} {K : PySem.W.Frag} {mg : Str → Option Value} {base : Heap}
theorem end_runB {H : Hp} {Q : VK} {E : XK} {m : SR} (h : match endB m with
  | .ok d => ∀ v H', (∀ a o, H a = some o → H' a = some o) → Rep H' All v d → Q v H'
  | .raise c => ∀ H', (∀ a o, H a = some o → H' a = some o) → E (.ref (κ c)) none H'
  | .stuck => False) : outS κ (fun cls d _ H => E cls d H) H H (fun _ => False) { nx := fun _ H' => Q .non H', rt := Q } m := by
  cases m with
  | next ρ => exact fun σ' H' F' _ w => h .non H' w.ext .non
  | ret d => exact fun v H' S hx _ r => h v H' hx r.all
  | retb d => exact fun v H' hx r => h v H' hx r
  | raise c => exact fun σ' H' x => h H' x
  | brk ρ => exact h.elim
  | cont ρ => exact h.elim
  | stuck => exact h.elim
theorem fn_B {x qual : Str} {st : Stmt} {f : Addr} {fd : FuncData} {N ps : List Str} {k : Nat} {m : Ev → SR} (F : Fun K x qual st f fd) (S : FnScope N ps (defScope st))
    (hb : ∀ (cdv : Value) (A : Around) (outer : List Env) (s : Shared) (H : Hp) (E : XK), Room k (A.deeper (envOfC qual (defScope st) s.heap.objs.size f cdv)) → SSs κ (cxOf (L2.CX P w) P w K mg base N qual (defScope st) f cdv A outer s H E) (fun cls d _ H => E cls d H) (defBody st) m) :
    FnOk P w K mg base (L2.CX P w) (k + 1) f fd ps (spB κ ps.length (runB (N.length - ps.length) m)) := by
  refine F.okX S (fun vs H Q E h => ?_) (fun cdv A outer s H vs Q E hr h => ⟨_, hb cdv A outer s H E hr, ?_⟩)
  · obtain ⟨ds, hl, r, _⟩ := h
    rw [r.length, hl]
  · obtain ⟨ds, hl, r, h⟩ := h
    have e : start N vs = vs.map some ++ List.replicate (N.length - ps.length) none := by
      unfold start
      rw [r.length, hl]
    rw [e]
    exact ⟨H, _, ev0 (N.length - ps.length) ds, start_gen (by simp [ev0, r.length]) (ev_cells r) ev_ow, end_runB h⟩
end
@[simp] theorem z_eb1 {d : D} : endB (.ret d) = .ok d := rfl
@[simp] theorem z_eb2 {ρ : Ev} : endB (.next ρ) = .ok .none := rfl
@[simp] theorem z_eb3 {d : D} : endB (.retb d) = .ok d := rfl
@[simp] theorem z_eb4 {c : Ex} : endB (.raise c) = .raise c := rfl
@[simp] theorem z_eb5 : endB .stuck = .stuck := rfl
@[simp] theorem z_qb {d : D} {h : Ev → SR} : (SR.retb d).seq h = .retb d := rfl
@[simp] theorem z_rb {ds : List D} : retV (.bo, .list ds) = .retb (.list ds) := rfl
@[simp] theorem z_rb2 {ds : List D} : retV (.bo, .tuple ds) = .retb (.tuple ds) := rfl
end L2.Xq
set_option Elab.async false
set_option linter.all false
set_option maxRecDepth 100000
set_option maxHeartbeats 4000000
namespace L2.Xq
open PySem PySem.Spec PyProof.Rows
/-! ### changes of a told list's elements -/
section
variable {X : Cx}
/-- for x in l: x.clear() -/
def tClearFor (i j : Nat) : TS := tFor (iList X.K (tVar i)) (gName j) (tDrop (tBM0 X.K "list" rClear (tVar j)))
theorem clear_for {σ : St} {H : Hp} {i j : Nat} {p : Addr} {as : List Addr} {u : TS} {D' : Ends} (hi : σ[i]? = some (some (.ref p))) (hj : j < σ.length) (hp : H p = some (.lst (as.map V.ref))) (ha : ∀ b ∈ as, b ≠ p ∧ ∃ xs, H b = some (.lst xs))
    (k : ∀ σ' H', (∀ n, n ≠ j → σ'[n]? = σ[n]?) → σ'.length = σ.length → (∀ b, b ∉ as → H' b = H b) → (∀ b ∈ as, H' b = some (.lst [])) → u D' σ' H') : tSeq (tClearFor (X := X) i j) u D' σ H := by
  refine ⟨.ref p, hi, p, rfl, ⟨_, .inl (.inl hp)⟩, ?_⟩
  let Pv : Nat → St → Hp → Prop := fun n σ' H' => (∀ m, m ≠ j → σ'[m]? = σ[m]?) ∧ σ'.length = σ.length ∧ (∀ b, b ∉ as.take n → H' b = H b) ∧ ∀ b ∈ as.take n, H' b = some (.lst [])
  refine ⟨fun n m σ' H' => m = as.length - n ∧ n ≤ as.length ∧ Pv n σ' H', ⟨as.length, by simp, Nat.zero_le _, fun _ _ => rfl, rfl, fun _ _ => rfl, fun b hb => by simp at hb⟩, ?_⟩
  rintro n m σ' H' ⟨rfl, hn, h1, h2, h3, h4⟩
  have hp' : H' p = some (.lst (as.map V.ref)) := by
    rw [h3 p fun z => (ha p (List.mem_of_mem_take z)).1 rfl]
    exact hp
  by_cases hlt : n < as.length
  case neg =>
    have e : n = as.length := by omega
    subst e
    rw [List.take_length] at h3 h4
    exact .inl ⟨⟨_, .inl (.inl hp'), by simp⟩, k σ' H' h1 h2 h3 h4⟩
  refine .inr ⟨⟨_, .ref as[n], .inl (.inl hp'), by simp [hlt]⟩, fun σ2 H2 => Pv (n + 1) σ2 H2, fun σ2 H2 q => ⟨as.length - (n + 1), by omega, rfl, hlt, q⟩, fun x H2 y => ?_⟩
  obtain ⟨e2, ex⟩ := y
  subst e2
  have ex := ex _ (.inl (.inl hp'))
  rw [List.getElem?_map, List.getElem?_eq_getElem hlt] at ex
  cases ex
  have hmem : as[n] ∈ as := List.getElem_mem hlt
  have hb : ∃ xs, H2 as[n] = some (.lst xs) := by
    by_cases hz : as[n] ∈ as.take n
    · exact ⟨_, h4 _ hz⟩
    · rw [h3 _ hz]; exact (ha _ hmem).2
  obtain ⟨xs, hb⟩ := hb
  refine ⟨.ref as[n], by rw [List.getElem?_set_self (by omega)], .inl ⟨rfl, _, .inl (.inl hb)⟩, as[n], xs, rfl, rfl, hb, ?_⟩
  have et : as.take (n + 1) = as.take n ++ [as[n]] := by rw [List.take_succ, List.getElem?_eq_getElem hlt]; rfl
  refine ⟨fun m hm => ?_, ?_, fun b hb => ?_, fun b hb => ?_⟩
  · rw [List.getElem?_set_ne (Ne.symm hm)]; exact h1 m hm
  · rw [List.length_set]; exact h2
  · rw [et, List.mem_append, List.mem_singleton] at hb
    rw [upd_ne fun z => hb (.inr z)]
    exact h3 b fun z => hb (.inl z)
  · rw [et, List.mem_append, List.mem_singleton] at hb
    by_cases z : b = as[n]
    · rw [z, upd_same]
    · rw [upd_ne z]
      exact h4 b (hb.resolve_right z)
/-- l.clear() -/
def tClear1 (i : Nat) : TS := tDrop (tBM0 X.K "list" rClear (tVar i))
theorem clear1 {σ : St} {H : Hp} {i : Nat} {p : Addr} {xs : List V} {u : TS} {D' : Ends} (hi : σ[i]? = some (some (.ref p))) (hp : H p = some (.lst xs)) (k : u D' σ (upd H p (.lst []))) : tSeq (tClear1 (X := X) i) u D' σ H :=
  ⟨.ref p, hi, .inl ⟨rfl, _, .inl (.inl hp)⟩, p, xs, rfl, rfl, hp, k⟩
end
/-! ### what becomes of values whose lists were changed -/
def Spoil (H H' : Hp) : Prop := ∀ a o, H a = some o → H' a = some o ∨ ∃ xs ys, o = .lst xs ∧ H' a = some (.lst ys) ∧ ∀ y ∈ ys, y ∈ xs ∨ ∃ i, y = .int i
mutual
theorem Rep.spoil {H H' : Hp} (s : Spoil H H') : ∀ {d : D} {v : V}, Rep H All v d → ∃ d', Rep H' All v d'
  | _, _, .non => ⟨_, .non⟩
  | _, _, .bl b => ⟨_, .bl b⟩
  | _, _, .int i => ⟨_, .int i⟩
  | _, _, .str x => ⟨_, .str x⟩
  | _, _, @Rep.lst _ _ a xs ds _ e q => by
    obtain ⟨ds', hq⟩ := RepAll.spoil s q
    rcases s a _ e with h | ⟨xs', ys, e1, e2, h⟩
    · obtain ⟨es, r⟩ := hq xs fun y hy => .inl hy
      exact ⟨_, .lst trivial h r⟩
    · cases e1
      obtain ⟨es, r⟩ := hq ys h
      exact ⟨_, .lst trivial e2 r⟩
  | _, _, @Rep.tup _ _ a xs ds _ e q => by
    obtain ⟨ds', hq⟩ := RepAll.spoil s q
    rcases s a _ e with h | ⟨xs', ys, e1, e2, h⟩
    · obtain ⟨es, r⟩ := hq xs fun y hy => .inl hy
      exact ⟨_, .tup trivial h r⟩
    · cases e1
  | _, _, @Rep.dct _ _ a _ e => by
    rcases s a _ e with h | ⟨xs', ys, e1, e2, h⟩
    · exact ⟨_, .dct trivial h⟩
    · cases e1
theorem RepAll.spoil {H H' : Hp} (s : Spoil H H') : ∀ {ds : List D} {vs : List V}, RepAll H All vs ds → ∃ ds' : List D, ∀ ys : List V, (∀ y ∈ ys, y ∈ vs ∨ ∃ i, y = .int i) → ∃ es, RepAll H' All ys es
  | _, _, .nil => ⟨[], fun ys h => by
    induction ys with
    | nil => exact ⟨[], .nil⟩
    | cons y r ih =>
      obtain ⟨es, q⟩ := ih fun z hz => h z (List.mem_cons_of_mem _ hz)
      rcases h y List.mem_cons_self with z | ⟨i, rfl⟩
      · cases z
      · exact ⟨_, .cons (.int i) q⟩⟩
  | _, _, .cons (v := v) (vs := vs) r rs => by
    obtain ⟨d', r'⟩ := Rep.spoil s r
    obtain ⟨ds', h'⟩ := RepAll.spoil s rs
    refine ⟨[], fun ys h => ?_⟩
    induction ys with
    | nil => exact ⟨[], .nil⟩
    | cons y r ih =>
      obtain ⟨es, q⟩ := ih fun z hz => h z (List.mem_cons_of_mem _ hz)
      rcases h y List.mem_cons_self with z | ⟨i, rfl⟩
      · rcases List.mem_cons.mp z with rfl | z
        · exact ⟨_, .cons r' q⟩
        · obtain ⟨es1, q1⟩ := h' [y] fun w hw => by
            rw [List.mem_singleton] at hw
            subst hw
            exact .inl z
          cases q1 with
          | cons a b => exact ⟨_, .cons a q⟩
      · exact ⟨_, .cons (.int i) q⟩
end
end L2.Xq
set_option Elab.async false
set_option linter.all false
set_option maxRecDepth 100000
set_option maxHeartbeats 4000000
namespace L2.Xq
open PySem PySem.Spec PyProof.Rows
open PySem.W (EachIs dataLe minD alike)
/-! ### sorted, min of alike data -/
def alikeB (ds : List D) : Bool := ds.all fun d => ds.all fun d' => alike d d'
def plainB : D → Bool
  | .none => false
  | .tuple _ => false
  | _ => true
def tup1B : D → Bool
  | .tuple (_ :: _) => true
  | _ => false
def sortOk (ds : List D) : Bool := alikeB ds && (ds.all tup1B || ds.all plainB) && PyData.canLayAll0 ds && decide (PyData.depthAll ds ≤ 16) && decide (ds.length ≤ 16777216)
theorem alikeB_iff {ds : List D} (h : alikeB ds = true) : ∀ d ∈ ds, ∀ d' ∈ ds, alike d d' = true := by
  simpa [alikeB] using h
theorem depthAll_mem : ∀ {ds : List D} {d : D}, d ∈ ds → d.depth ≤ PyData.depthAll ds
  | e :: ds, d, h => by
    rw [PyData.depthAll]
    rcases List.mem_cons.mp h with h | h
    · subst h; exact Nat.le_max_left _ _
    · exact Nat.le_trans (depthAll_mem h) (Nat.le_max_right _ _)
theorem lay_mem : ∀ {ds : List D} {d : D}, PyData.canLayAll0 ds = true → d ∈ ds → d.canLay0 = true
  | e :: ds, d, h, hm => by
    simp only [PyData.canLayAll0, Bool.and_eq_true] at h
    rcases List.mem_cons.mp hm with q | q
    · subst q; exact h.1
    · exact lay_mem h.2 q
theorem vals_each : ∀ {out : List Value} {zs : List (V × D)}, EachIs (fun v (z : V × D) => RelV z.1 v) out zs → Vals (zs.map (·.1)) out
  | _, _, .nil => .nil
  | _, _, .cons h t => .cons h (vals_each t)
theorem each_vals : ∀ {xs : List V} {its : List Value} {ds : List D}, Vals xs its → ds.length = xs.length → EachIs (fun v (z : V × D) => RelV z.1 v) its (xs.zip ds)
  | _, _, [], .nil, _ => .nil
  | _, _, _ :: _, .nil, h => by simp at h
  | _, _, [], .cons _ _, h => by simp at h
  | _, _, d :: ds, .cons r t, h => .cons r (each_vals t (by simpa using h))
theorem each_reads {h : Heap} : ∀ {xs : List V} {its : List Value} {ds : List D} {as : List Addr}, xs.length = ds.length → ReadsAll h its ds as → EachIs (fun v (z : V × D) => ∃ as, Reads h v z.2 as) its (xs.zip ds)
  | [], _, _, _, hl, .nil => .nil
  | _ :: _, _, _, _, hl, .nil => by simp at hl
  | [], _, _, _, hl, .cons _ _ => by simp at hl
  | x :: xs, _, _, _, hl, .cons r t => .cons ⟨_, r⟩ (each_reads (by simpa using hl) t)
def rSortD (K : PySem.W.Frag) : List V → Hp → VK → Prop := fun vs H Q => ∃ (a : Addr) (xs : List V) (ds : List D), vs = [.ref a] ∧ SqL K H a xs ∧ DpAll K H xs ds ∧ sortOk ds = true ∧ ∀ (zs : List (V × D)) (p : Addr), zs = (xs.zip ds).mergeSort (dataLe false (·.2)) → H p = none → Q (.ref p) (upd H p (.lst (zs.map (·.1))))
theorem dpAll_len {K : PySem.W.Frag} {H : Hp} : ∀ {xs : List V} {ds : List D}, DpAll K H xs ds → xs.length = ds.length
  | _, _, .nil => rfl
  | _, _, .cons _ t => by simp [dpAll_len t]
section
variable {X : Cx}
theorem cr_sortD (hu : X.A.units + 64 < cLine) : CallR X (.builtin "sorted") (rSortD X.K) := by
  intro pins s σ H vs us Q I r h
  obtain ⟨a, xs, ds, rfl, hs, hd, ok, q⟩ := h
  obtain ⟨its, rv, hl, hz⟩ := I.list hs
  rw [Vals.ref1 r]
  obtain ⟨as, ra⟩ := Dp.readsAll I ds _ its hd rv
  unfold sortOk at ok
  simp only [Bool.and_eq_true, decide_eq_true_eq] at ok
  obtain ⟨⟨⟨⟨o1, o2⟩, o3⟩, o4⟩, o5⟩ := ok
  have hxl := dpAll_len hd
  have em : (xs.zip ds).map (fun z : V × D => z.2) = ds := List.map_snd_zip (by omega)
  refine PySem.W.sorted_data (bs := xs.zip ds) (enc := fun z : V × D => z.2) hl.isList (each_vals rv hxl.symm) (each_reads hxl ra) ?_ ?_ ?_ (fun b hb => ?_) fun out hlen ho => ?_
  · rw [em]; exact alikeB_iff o1
  · rw [em]
    rw [Bool.or_eq_true] at o2
    rcases o2 with o2 | o2
    · refine .inl fun d hd => ?_
      have := List.all_eq_true.mp o2 d hd
      cases d with
      | tuple l => cases l with
        | nil => cases this
        | cons x r => exact ⟨x, r, rfl⟩
      | _ => cases this
    · refine .inr fun d hd => ?_
      have := List.all_eq_true.mp o2 d hd
      cases d <;> first | cases this; done | exact ⟨(fun z => nomatch z), fun _ z => nomatch z⟩
  · rw [List.length_zip, hxl, Nat.min_self, sl16]; exact o5
  · have hm : b.2 ∈ ds := by rw [← em]; exact List.mem_map.mpr ⟨b, hb, rfl⟩
    have := depthAll_mem hm
    show X.A.units + 2 + b.2.depth < cLine
    omega
  · obtain ⟨ep, he'⟩ := PyProof.Rows.sortedAll_at s.heap its out.toArray
    have hv := vals_each ho
    have hlen2 : (((xs.zip ds).mergeSort (dataLe false fun z : V × D => z.2)).map (·.1)).length ≤ sizeLine := by
      rw [List.length_map, List.length_mergeSort, List.length_zip, hxl, Nat.min_self, sl16]; exact o5
    exact ⟨.ref _, upd H (s.heap.objs.size + 1) (.lst _), I.laid (t' := s.toks) (fun _ _ => PyProof.Rows.sortedAll_old) (Nat.le_succ _) ⟨hlen2, out, ep, hv, he'⟩, rfl, q _ _ rfl (I.hok.fresh (Nat.le_succ _))⟩
def minOk (ds : List D) : Bool := alikeB ds && ds.all (fun d => !isNone d) && PyData.canLayAll0 ds && decide (PyData.depthAll ds ≤ 16)
def rMinD (K : PySem.W.Frag) : List V → Hp → VK → Prop := fun vs H Q => ∃ (a : Addr) (xs : List V) (d : D) (ds : List D), vs = [.ref a] ∧ SqL K H a xs ∧ DpAll K H xs (d :: ds) ∧ minOk (d :: ds) = true ∧ ∀ (i : Nat) (v : V), xs[i]? = some v → (d :: ds)[i]? = some (minD d ds) → Q v H
theorem argMin_at (d : D) (ds : List D) : ∃ i : Nat, (d :: ds)[i]? = some (minD d ds) := by
  have : ∀ (ds pre : List D) (a : D) (l : List D), a ∈ l → (∀ x ∈ ds, x ∈ l) → minD a ds ∈ l := by
    intro ds
    induction ds with
    | nil => intro _ a l h _; exact h
    | cons x ds ih =>
      intro pre a l h1 h2
      show ds.foldl _ (if PySem.W.dataLt x a then x else a) ∈ l
      refine ih pre _ l ?_ fun y hy => h2 y (List.mem_cons_of_mem _ hy)
      split
      · exact h2 x List.mem_cons_self
      · exact h1
  obtain ⟨i, hi, e⟩ := List.getElem_of_mem (this ds [] d (d :: ds) List.mem_cons_self fun x hx => List.mem_cons_of_mem _ hx)
  exact ⟨i, by rw [List.getElem?_eq_getElem hi, e]⟩
theorem cr_minD (hc : X.calm = true) (hu : X.A.units + 64 < cLine) : CallR X (.builtin "min") (rMinD X.K) := by
  intro pins s σ H vs us Q I r h
  obtain ⟨a, xs, d, ds, rfl, hs, hd, ok, q⟩ := h
  obtain ⟨its, rv, hl, hz⟩ := I.list hs
  rw [Vals.ref1 r]
  obtain ⟨as, ra⟩ := Dp.readsAll I (d :: ds) _ its hd rv
  unfold minOk at ok
  simp only [Bool.and_eq_true, decide_eq_true_eq] at ok
  obtain ⟨⟨⟨o1, o2⟩, o3⟩, o4⟩ := ok
  have hal : PySem.W.AlikeAll (d :: ds) := ⟨alikeB_iff o1, fun x hx z => by
    have := List.all_eq_true.mp o2 x hx
    subst z; cases this⟩
  refine PySem.W.min_list_data (A := X.A) (vs := its.toArray) (I.ok.hd hc) hl.isList ra hal (by omega) fun i v h' tk bs hv rd hk => ?_
  have hv' : its[i]? = some v := by simpa using hv
  obtain ⟨hi, ei⟩ := List.getElem?_eq_some_iff.mp hv'
  have hx : i < xs.length := by rw [rv.length]; exact hi
  obtain ⟨u, eu, ru⟩ := rv.get (List.getElem?_eq_getElem hx)
  rw [hv'] at eu; cases eu
  refine ⟨xs[i], H, I.kept hk, ru, q i _ (List.getElem?_eq_getElem hx) ?_⟩
  have hn := SeqAt.ReadsAll.length (d :: ds) its as ra
  have hid : i < (d :: ds).length := by rw [← hn]; exact hi
  -- what the item reads as
  obtain ⟨bs', r', _⟩ := PySem.W.readsAll_at ra i v hv'
  have e1 : (d :: ds).getD i .none = (d :: ds)[i] := by rw [List.getD_eq_getElem?_getD, List.getElem?_eq_getElem hid]; rfl
  rw [e1] at r'
  have r2 := PyProof.Rows.Reads.keeps hk r'
  have lay : ∀ x ∈ d :: ds, x.canLay0 = true := fun x hx => lay_mem o3 hx
  obtain ⟨j, ej⟩ := argMin_at d ds
  have hm : minD d ds ∈ d :: ds := by
    obtain ⟨hj, e⟩ := List.getElem?_eq_some_iff.mp ej
    rw [← e]; exact List.getElem_mem hj
  have c1 := SeqAt.readOf_eq (lay _ (List.getElem_mem hid)) r2
  have c2 := SeqAt.readOf_eq (lay _ hm) rd
  rw [List.getElem?_eq_getElem hid, ← c1, c2]
end
/-! ### as built-ins of the layer -/
def fSorted : List (Md × D) → Option (Md × D)
  | [(m, .list ds)] => if sortOk ds = true then some (mdL (elFz m ds), .list (ds.mergeSort (dataLe false id))) else none
  | _ => none
def fMin : List (Md × D) → Option (Md × D)
  | [(m, .list (d :: ds))] => if minOk (d :: ds) = true then some (elMd m (minD d ds), minD d ds) else none
  | _ => none
theorem rep_zip {H : Hp} {S : Addr → Prop} : ∀ {xs : List V} {ds : List D}, RepAll H S xs ds → ∀ z ∈ xs.zip ds, Rep H S z.1 z.2
  | _, _, .nil, _, h => by cases h
  | _, _, .cons a b, z, h => by
    rw [List.zip_cons_cons] at h
    rcases List.mem_cons.mp h with h | h
    · subst h; exact a
    · exact rep_zip b z h
theorem zip_rep {H : Hp} {S : Addr → Prop} : ∀ {zs : List (V × D)}, (∀ z ∈ zs, Rep H S z.1 z.2) → RepAll H S (zs.map (·.1)) (zs.map (·.2))
  | [], _ => .nil
  | z :: zs, h => .cons (h z List.mem_cons_self) (zip_rep fun y hy => h y (List.mem_cons_of_mem _ hy))
theorem sort_rep {H : Hp} {S : Addr → Prop} {xs : List V} {ds : List D} (r : RepAll H S xs ds) : RepAll H S (((xs.zip ds).mergeSort (dataLe false (·.2))).map (·.1)) (ds.mergeSort (dataLe false id)) := by
  have e : ((xs.zip ds).mergeSort (dataLe false (·.2))).map (·.2) = ds.mergeSort (dataLe false id) := by
    have h := List.map_mergeSort (r := dataLe false fun z : V × D => z.2) (s := dataLe false (id : D → D)) (f := fun z : V × D => z.2) (l := xs.zip ds) (fun a _ b _ => rfl)
    rw [h, List.map_snd_zip (by rw [r.length]; exact Nat.le_refl _)]
  rw [← e]
  exact zip_rep fun z hz => rep_zip r z (List.mem_mergeSort.mp hz)
theorem s_sorted {K : PySem.W.Frag} : CallS (rSortD K) fSorted := fun H0 Hs H F σ ρ vs xs md d Q e w r q => by
  unfold fSorted at e
  split at e
  · rename_i m ds
    split at e
    · rename_i ok
      cases e
      match vs, r with
      | [v], r =>
        obtain ⟨p, ys, rfl, hp, a1, a2⟩ := r.1.list
        have hlay : PyData.canLayAll0 ds = true := by
          unfold sortOk at ok
          simp only [Bool.and_eq_true, decide_eq_true_eq] at ok
          exact ok.1.1.2
        refine ⟨p, ys, ds, rfl, .inl (.inl hp), a1.dp (noDicts_of ds hlay), ok, fun zs l ez hl => ?_⟩
        subst ez
        obtain ⟨F', g, r'⟩ := newList (b := elFz m ds) w hl (sort_rep a1) fun h => sort_rep (a2 h)
        exact q _ _ F' g r'
      | _ :: _ :: _, r => exact r.2.elim
    · cases e
  · cases e
theorem s_min {K : PySem.W.Frag} : CallS (rMinD K) fMin := fun H0 Hs H F σ ρ vs xs md d Q e w r q => by
  unfold fMin at e
  split at e
  · rename_i m d ds
    split at e
    · rename_i ok
      cases e
      match vs, r with
      | [v], r =>
        obtain ⟨p, ys, rfl, hp, a1, a2⟩ := r.1.list
        have hlay : PyData.canLayAll0 (d :: ds) = true := by
          unfold minOk at ok
          simp only [Bool.and_eq_true, decide_eq_true_eq] at ok
          exact ok.1.2
        refine ⟨p, ys, d, ds, rfl, .inl (.inl hp), a1.dp (noDicts_of (d :: ds) hlay), ok, fun i v hv hd => ?_⟩
        obtain ⟨v', ev, rv⟩ := a1.get hd
        rw [hv] at ev; cases ev
        refine q _ H F .refl (el_rep rv fun hm => ?_)
        obtain ⟨v', ev', rv'⟩ := (a2 (elFz_ne hm)).get hd
        rw [hv] at ev'; cases ev'
        exact rv'
      | _ :: _ :: _, r => exact r.2.elim
    · cases e
  · cases e
/-! ### xs.index(y) -/
def fIndex : F2 := fun _ d1 _ d2 => match d1 with
  | .list ds => if (SeqAt.shaped d2 && SeqAt.shaped (.list ds)) = true then (ds.findIdx? fun z => PyData.eqv z d2).map fun j => (.fz, .int (j : Nat)) else none
  | _ => none
@[simp] def mIndex (ma mb : Ev → RV) : Ev → RV := fun ρ => (ma ρ).bind fun x => match x.2 with
  | .list ds => (mb ρ).bind fun y => Res.of (fIndex .fz (.list ds) y.1 y.2)
  | _ => .stuck
section
variable {κ : Ex → Addr} {X : Cx} {W : WX} {a b e tg : Expr} {es : List Expr} {pos : Pos} {ma mb : Ev → RV}
theorem SE.index {apos cpos : Pos} (hu : X.A.units + 65 < cLine) (ha : SE κ X W a ma) (hb : SE κ X W e mb) (hbase : attributeBase a "index" X.env (eval a X.env) = eval a X.env := by rfl)
    (hse : starEach [e] X.env = (false, eval e X.env) :: starEach [] X.env := by rfl) (hpl : (((backTo cpos (starEach [e] X.env)).all fun x => !x.fst) && (backToKw cpos (keywordEach [] X.env)).all fun x => x.fst.isSome) = true := by rfl) (hln : (apos.endLine == cpos.line) = true := by rfl) :
    SE κ X W (.Call (.Attribute a "index" apos) [e] [] cpos) (mIndex ma mb) :=
  (pe_bm PySem.F.plainAttrs_list PySem.F.slot_list_index PySem.F.type_list_index (mt_indexD hu) ha (pa_cons hb pa_nil hse) (hbase := hbase) (hs := hse) (hline := hln) (hfew := by rw [hpl]; rfl)).imp fun σ H Q h => by
    obtain ⟨H0, F, ρ, w, h⟩ := h
    refine outE.bind w h fun m1 d1 v1 H1 F1 g1 r1 w1 h1 => ?_
    cases d1 with
    | list ds =>
      obtain ⟨p, ys, rfl, hp, a1, a2⟩ := r1.list
      refine ⟨.inl ⟨rfl, _, .inl (.inl hp)⟩, ?_⟩
      refine outE.bind (f := fun y => Res.of (fIndex .fz (.list ds) y.1 y.2)) w1 h1 fun m2 d2 v2 H2 F2 g2 r2 w2 h2 => ?_
      simp only [fIndex] at h2
      split at h2
      · rename_i hsh
        rw [Bool.and_eq_true] at hsh
        cases ei : ds.findIdx? fun z => PyData.eqv z d2 with
        | none => rw [ei] at h2; exact h2.elim
        | some j =>
          rw [ei] at h2
          obtain ⟨hj, hz, hno⟩ := List.findIdx?_eq_some_iff_getElem.mp ei
          have a1' : RepAll H2 All ys ds := a1.all.mono (fun _ h => h) fun a o _ e => g2.ext _ _ e
          refine ⟨p, v2, d2, ds, j, ds[j], rfl, rfl, .lst (.inl (.inl (g2.ext _ _ hp))) (a1'.dp (noDicts_of ds (SeqAt.canLay_of_shaped hsh.2))), r2.all.dp (noDict_shaped hsh.1), hsh.2, hsh.1, List.getElem?_eq_getElem hj, hz, fun m z' hm ez => ?_, h2 _ H2 F2 .refl (.int _)⟩
          obtain ⟨hm', e2⟩ := List.getElem?_eq_some_iff.mp ez
          subst e2
          have := hno m hm
          simpa using this
      · exact h2.elim
    | _ => exact h1.elim
/-! ### x[i] = e -/
theorem SS.setIx {x : Str} {i : Nat} {xp sp : Pos} (hN : X.N[i]? = some x) (hv : Vis X.env.scope x) (he : SE κ X W e ma) (hb : SE κ X W b mb) (hd : (x == ("__debug__" : Str)) = false := by decide) (hcd : (x == ("__classdict__" : Str)) = false := by decide)
    (has : ∀ v, assign (.Subscript (.Name x xp) b sp) X.env v = (do
      let ov ← holding [v] (eval (.Name x xp) X.env)
      let iv ← holding [v, ov] (eval b X.env)
      standAt sp
      holding [v, ov, iv] (setItem ov iv v)
      release [v, ov, iv] []) := by intro _; rfl)
    (hs : swapsWithSole [.Subscript (.Name x xp) b sp] e pos.line X.env = pure false := by rfl) (hw : swappedStores [.Subscript (.Name x xp) b sp] e X.env = pure none := by rfl)
    (h1 : (assignEach [.Subscript (.Name x xp) b sp] X.env).map (·.2) = [assign (.Subscript (.Name x xp) b sp) X.env] := by rfl) : SS κ X W (.Assign [.Subscript (.Name x xp) b sp] e pos) (sSetIx i ma mb) :=
  (ps_asg he (pg_sub (pe_var hN hv hd hcd) hb set_list has) hs hw h1).imp fun D' σ H h => by
    obtain ⟨H0, F, ρ, w, h⟩ := h
    obtain ⟨ds, hi, h⟩ := owD_inv (P := outS κ W H0 H F D') h (fun z => z)
    refine outS.bind (ma := ma) w h fun md d v H1 F1 g1 r1 w1 h1 => ?_
    cases eo : dOne (md, d) with
    | stuck => simp only [eo] at h1; exact h1.elim
    | raise c => cases md <;> cases eo
    | ok q =>
    obtain ⟨b', ds'⟩ := q
    simp only [eo] at h1
    cases b' with
    | false => exact h1.elim
    | true =>
    simp only [] at h1
    obtain ⟨F2, g2, s2, _, _, q2⟩ := freeze1 w.dom g1 r1 eo
    have w2 := w.grow g2
    obtain ⟨p, xs, es, hp, r⟩ := own_at w2 hi
    refine ⟨.ref p, es, ?_⟩
    refine outS.bind (ma := mb) w2 (outS.back (g2.stp w) h1) fun m3 d3 v3 H3 F3 g3 r3 w3 h3 => ?_
    cases d3 with
    | int k =>
      simp only [] at h3
      cases ej : ixN ds.length k with
      | none => simp only [ej] at h3; exact h3.elim
      | some j =>
        simp only [ej] at h3
        obtain ⟨p', xs', es', hp', r'⟩ := own_at w3 hi
        rw [es] at es'; cases es'
        have qv : Rep H3 F3 v d := (q2 rfl).mono g3.sub fun a o _ e => g3.ext _ _ e
        have q := w3.write hi es hp' (r'.set j qv)
        refine ⟨p, xs', k, j, rfl, r3.int_inv, hp', by rw [r'.length]; exact ej, ?_⟩
        exact h3 σ _ F3 ((g3.stp w2).trans q.1) q.2
    | _ => exact h3.elim
/-! ### range(a, b, -1) -/
def iR3 (ma mb mc : Ev → RV) : Ev → RI := fun ρ => (ma ρ).bind fun x => (mb ρ).bind fun y => (mc ρ).bind fun z => match x.2, y.2, z.2 with
  | .int i, .int j, .int c => if (smallR i && smallR j && decide (c = -1)) = true then .ok (false, (List.range (i - j).toNat).map fun (k : Nat) => (.fz, .int (i - (k : Int)))) else .stuck
  | _, _, _ => .stuck
theorem iter_down {H0 H : Hp} {F : Addr → Prop} {lo : Int} {n : Nat} : IterOk H0 (Itc lo (-1) n) (fun _ => False) H F ((List.range n).map fun (k : Nat) => (.fz, .int (lo - (k : Int)))) := by
  refine ⟨(List.range n).map fun (k : Nat) => .int (lo - (k : Int)), by simp, fun i x v h1 h2 => ?_, fun i H2 _ => ⟨fun hi => ?_, fun hi => ?_⟩⟩
  · by_cases hi : i < n
    · rw [List.getElem?_map, List.getElem?_range hi] at h2 h1
      cases h1; cases h2
      exact ⟨_, rfl, .int _⟩
    · rw [List.getElem?_eq_none (by simp; omega)] at h2; cases h2
  · have hi' : i < n := by simpa using hi
    refine ⟨hi', fun x H3 y => ?_⟩
    obtain ⟨e1, e2⟩ := y
    refine ⟨e1, ?_⟩
    rw [List.getElem?_map, List.getElem?_range hi', e2]
    show some (V.int (lo - (i : Int))) = some (V.int (lo + (i : Int) * (-1)))
    rw [show lo - (i : Int) = lo + (i : Int) * (-1) by omega]
  · exact (by simpa using hi : n ≤ i)
theorem SI.range3 {x y z : Expr} {mc : Ev → RV} {p : Pos} (hg : Gl X "range") (hm : X.mg "range" = none) (ha : SE κ X W x ma) (hb : SE κ X W y mb) (hc : SE κ X W z mc) (hs : starEach [x, y, z] X.env = (false, eval x X.env) :: starEach [y, z] X.env := by rfl) (hs2 : starEach [y, z] X.env = (false, eval y X.env) :: starEach [z] X.env := by rfl) (hs3 : starEach [z] X.env = (false, eval z X.env) :: starEach [] X.env := by rfl) (hpl : (backTo pos (starEach [y, z] X.env)).any (·.1) = false := by rfl) :
    SI κ X W tg (.Call (.Name "range" p) [x, y, z] [] pos) (iR3 ma mb mc) :=
  (pi_range3 hg hm (pa_cons ha (pa_cons hb (pa_cons hc pa_nil hs3) hs2) hs) hs hpl).imp fun σ H R h => by
    obtain ⟨H0, F, ρ, w, h⟩ := h
    refine outI.bind w h fun m1 d1 v1 H1 F1 g1 r1 w1 h1 => ?_
    refine ⟨H0, F1, ρ, w1, ?_⟩
    cases e2 : mb ρ with
    | stuck => rw [e2] at h1; exact h1
    | raise c => rw [e2] at h1; exact fun H' F' g' => h1 H' F' (g1.trans g')
    | ok y2 =>
    obtain ⟨m2, d2⟩ := y2
    rw [e2] at h1
    intro v2 H2 F2 g2 r2
    refine ⟨H0, F2, ρ, w1.grow g2, ?_⟩
    cases e3 : mc ρ with
    | stuck => simp only [Res.bind, e3] at h1; exact h1
    | raise c => simp only [Res.bind, e3] at h1; exact fun H' F' g' => h1 H' F' ((g1.trans g2).trans g')
    | ok y3 =>
    obtain ⟨m3, d3⟩ := y3
    simp only [Res.bind, e3] at h1
    intro v3 H3 F3 g3 r3
    cases d1 <;> first
      | exact h1.elim
      | skip
    cases d2 <;> first
      | exact h1.elim
      | skip
    cases d3 <;> first
      | exact h1.elim
      | skip
    simp only [] at h1
    split at h1
    · rename_i i j c hj
      simp only [Bool.and_eq_true, decide_eq_true_eq] at hj
      obtain ⟨⟨hi, hj⟩, hcc⟩ := hj
      subst hcc
      have q1 := smallR_iff hi
      have q2 := smallR_iff hj
      exact ⟨i, j, -1, (i - j).toNat, by rw [r1.int_inv, r2.int_inv, r3.int_inv], RgC.neg q1.1 q1.2 q2.1 q2.2, h1 _ H3 F3 _ ((g1.trans g2).trans g3) (fun _ a h => h.elim) iter_down⟩
    · exact h1.elim
/-! ### isinstance(x, (S, T)) -/
@[simp] def mIsi2 (S T : String) (ma : Ev → RV) : Ev → RV := fun ρ => (ma ρ).bind fun x => Res.of (match kitB (tyName x.2) S, kitB (tyName x.2) T with
  | some b, some c => some (.fz, .bool (b || c))
  | _, _ => none)
theorem SE.isi2 {S T : String} {x y : Str} {p q1 q2 tp : Pos} {x1} (hg : Gl X "isinstance") (hm : X.mg "isinstance" = none) (hv : bootBuiltins "isinstance" = some (.builtin "isinstance")) (ha : SE κ X W a ma) (hgS : Gl X x) (hmS : X.mg x = none) (hvS : bootBuiltins x = some (.type S)) (hgT : Gl X y) (hmT : X.mg y = none) (hvT : bootBuiltins y = some (.type T))
    (hn : x ≠ "__name__" := by decide) (hd : (x == ("__debug__" : Str)) = false := by decide) (hn2 : y ≠ "__name__" := by decide) (hd2 : (y == ("__debug__" : Str)) = false := by decide)
    (hs : starEach [a, .Tuple [.Name x q1, .Name y q2] x1 tp] X.env = (false, eval a X.env) :: starEach [.Tuple [.Name x q1, .Name y q2] x1 tp] X.env := by rfl) (hs2 : starEach [.Tuple [.Name x q1, .Name y q2] x1 tp] X.env = (false, eval (.Tuple [.Name x q1, .Name y q2] x1 tp) X.env) :: starEach [] X.env := by rfl)
    (hs3 : starEach [.Name x q1, .Name y q2] X.env = (false, eval (.Name x q1) X.env) :: starEach [.Name y q2] X.env := by rfl) (hs4 : starEach [.Name y q2] X.env = (false, eval (.Name y q2) X.env) :: starEach [] X.env := by rfl)
    (hpl : (backTo pos (starEach [.Tuple [.Name x q1, .Name y q2] x1 tp] X.env)).any (·.1) = false := by rfl) :
    SE κ X W (.Call (.Name "isinstance" p) [a, .Tuple [.Name x q1, .Name y q2] x1 tp] [] pos) (mIsi2 S T ma) :=
  (pe_callB call_isiT hg hm hv (pa_cons ha (pa_cons (pe_tup (pa_cons (pe_bltn hgS hmS hvS (v := .ty S) rfl hn hd) (pa_cons (pe_bltn hgT hmT hvT (v := .ty T) rfl hn2 hd2) pa_nil hs4) hs3)) pa_nil hs2) hs) (he := hs) (hpl := hpl)).imp fun σ H Q h => by
  obtain ⟨H0, F, ρ, w, h⟩ := h
  refine outE.bind w h fun md d v H1 F1 g1 r1 w1 h1 => ?_
  cases ek : kitB (tyName d) S with
  | none => simp only [ek] at h1; exact h1.elim
  | some k =>
  cases ek2 : kitB (tyName d) T with
  | none => simp only [ek, ek2] at h1; exact h1.elim
  | some k2 =>
  simp only [ek, ek2] at h1
  refine ⟨by show 2 ≤ sizeLine; rw [sl16]; omega, fun tp htp => ?_⟩
  have kk : ∀ a o, H1 a = some o → upd H1 tp (.tup [.ty S, .ty T]) a = some o := fun a o e => by rw [upd_ne (ne_of_none e htp)]; exact e
  have ra : Rep (upd H1 tp (.tup [.ty S, .ty T])) All v d := r1.all.mono (fun _ h => h) fun a o _ e => kk a o e
  refine ⟨v, tp, [.ty S, .ty T], _, [.type S, .type T], k || k2, rfl, upd_same, .cons (.ty S) (.cons (.ty T) .nil), .base (rep_ty ra), ?_, h1 _ _ F1 ⟨kk, fun _ h => h, fun _ h => .inl h⟩ (.bl _)⟩
  show PySem.W.kitAny X.K _ [.type S, .type T] = some (k || k2)
  unfold PySem.W.kitAny
  rw [kit_ty ek]
  cases k with
  | true => rfl
  | false =>
    show PySem.W.kitAny X.K _ [.type T] = some k2
    unfold PySem.W.kitAny
    rw [kit_ty ek2]
    cases k2 <;> rfl
/-- nothing is told of it -/
theorem SS.stk {st : Stmt} : SS κ X W st (fun _ => .stuck) := ⟨fun pins s σ H D I h => by
  obtain ⟨H0, F, ρ, w, h⟩ := h
  exact h.elim⟩
end
end L2.Xq
set_option Elab.async false
set_option linter.all false
set_option maxRecDepth 100000
set_option maxHeartbeats 4000000
namespace L2.Xq
open PySem PySem.Spec PyProof.Rows
section
variable {κ : Ex → Addr} {X : Cx} {W : WX} {a b e tg iter : Expr} {es : List Expr} {pos : Pos} {ma mb : Ev → RV}
/-! ### a list or a tuple is walked -/
def iLT (ma : Ev → RV) : Ev → RI := fun ρ => match ma ρ with
  | .ok (_, .tuple _) => iT ma ρ
  | _ => iL ma ρ
theorem SI.seq (hl : SE κ X W e ma) : SI κ X W tg e (iLT ma) := ⟨fun pins s σ H R I h => by
  obtain ⟨H0, F, ρ, w, h⟩ := h
  unfold iLT at h
  split at h
  · exact (SI.tup (tg := tg) hl).run pins s σ H R I ⟨H0, F, ρ, w, h⟩
  · exact (SI.list (tg := tg) hl).run pins s σ H R I ⟨H0, F, ρ, w, h⟩⟩
/-! ### raw statements of a law -/
/-- x = [e for y in it], what it makes told apart -/
def tLcS (κ : Ex → Addr) (W : WX) (i : Nat) (mi : Ev → RI) (j : Nat) (mt : Ev → Res Bool) (me : Ev → RV) : TS := tAsg (tLc (tI (κ := κ) W mi) (gName j) (tT (κ := κ) W0 mt) (tE κ W0 me) [j]) (gName i)
theorem RS.asgLc {x y : Str} {i j : Nat} {xp py spos : Pos} {elt : Expr} {ifs : List Expr} {scope : Scope} {mi : Ev → RI} {mt : Ev → Res Bool} {me : Ev → RV} (hc : X.calm = true) (hN : X.N.Nodup) (hy : X.N[i]? = some y) (hyl : X.env.scope.names.lookup y = some .local)
    (hsw : swapsWith (.ListComp elt [⟨.Name x xp, iter, ifs, 0⟩] scope pos) (some (.Name y py)) spos.line X.env = pure true) (hi : SI κ X W (.Name x xp) iter mi) (ok : BlkOk X.N X.env.scope scope [(x, j)])
    (hg : ∀ (s : Shared) (H : Hp) (C : Addr) (cl : List (Str × Addr)) (fp : List Addr), PG (X.blk s H scope (compEnvC scope cl C X.env) fp) (.Name x xp) (gName j))
    (ht : ∀ (s : Shared) (H : Hp) (C : Addr) (cl : List (Str × Addr)) (fp : List Addr), STs κ (X.blk s H scope (compEnvC scope cl C X.env) fp) W0 ifs mt)
    (he : ∀ (s : Shared) (H : Hp) (C : Addr) (cl : List (Str × Addr)) (fp : List Addr), SE κ (X.blk s H scope (compEnvC scope cl C X.env) fp) W0 elt me) (hs : ∀ x, foldedSetIterable iter X.env x = pure x := by intro _; rfl) :
    PS X (.Assign [.Name y py] (.ListComp elt [⟨.Name x xp, iter, ifs, 0⟩] scope pos) spos) (tLcS κ W i mi j mt me) :=
  ps_setLc (own := [(x, j)]) hc hN hy hyl hsw hi ok hg ht he hs
/-- a, b = f(..), f a def that tells what was handed in -/
def tUnp (K : PySem.W.Frag) (κ : Ex → Addr) (W : WX) (js : List Nat) (m : Ev → Res D) : TS := tAsg (tX κ W m) (gTup K js.length (gsOf js))
theorem RS.unp {ts : List Expr} {js : List Nat} {k : Nat} {tpos : Pos} {mx : Ev → Res D} (hc : X.calm = true) (h : SX κ X W e mx) (hg : SG X ts js) (hs : swapsWithSole [.Tuple ts k tpos] e pos.line X.env = pure false := by rfl) (hw : swappedStores [.Tuple ts k tpos] e X.env = pure none := by rfl)
    (h1 : (assignEach [.Tuple ts k tpos] X.env).map (·.2) = [assign (.Tuple ts k tpos) X.env] := by rfl)
    (hn : (assignEach ts X.env).length = js.length := by rfl) (hst : (assignEach ts X.env).findIdx? (·.1) = none := by rfl) : PS X (.Assign [.Tuple ts k tpos] e pos) (tUnp X.K κ W js mx) :=
  ps_asg h (pg_tup hc hg hn hst) hs hw h1
/-- for x in l: if isinstance(x, list): x.append(0) -/
def tAppFor (κ : Ex → Addr) (W : WX) (i j : Nat) : TS := tFor (iList X.K (tVar i)) (gName j) (tIfS (tT (κ := κ) W (mTru (mIsi "list" (mVar j)))) (tDrop (tBM X.K "list" rAppend (tVar j) (tCons (tC (.int 0)) tNil))) tNext)
/-- for x in l: x.append(0) -/
def tAppFor0 (i j : Nat) : TS := tFor (iList X.K (tVar i)) (gName j) (tDrop (tBM X.K "list" rAppend (tVar j) (tCons (tC (.int 0)) tNil)))
/-- l[0][0].append(n) -/
def tA00 (i : Nat) (n : Int) : TS := tDrop (tBM X.K "list" rAppend (tOp (rIxL X.K) (tOp (rIxL X.K) (tVar i) (tC (.int 0))) (tC (.int 0))) (tCons (tC (.int n)) tNil))
/-- l[k].clear() -/
def tClrIx (i : Nat) (k : Int) : TS := tDrop (tBM0 X.K "list" rClear (tOp (rIxL X.K) (tVar i) (tC (.int k))))
end
/-! ### a def with the script that may tell what was handed in -/
def spSB (κ : Ex → Addr) (K : PySem.W.Frag) (n : Nat) (f : Addr → List Int → List D → Res D) : Sp := fun vs H Q E => ∃ a ns us ds, vs = .ref a :: us ∧ SqL K H a (ns.map V.int) ∧ ds.length = n ∧ RepAll H All us ds ∧ match f a ns ds with
  | .ok d => ∀ v H', (∀ a o, H a = some o → H' a = some o) → Rep H' All v d → Q v H'
  | .raise c => ∀ H', (∀ a o, H a = some o → H' a = some o) → E (.ref (κ c)) none H'
  | .stuck => False
@[simp] def runSB (k : Nat) (K : PySem.W.Frag) (a : Addr) (ns : List Int) (m : Ev → SR) : List D → Res D := fun ds => endB (m (.scr K a ns :: ev0 k ds))
section
variable {κ : Ex → Addr} {P : Program} {w : World} {K : PySem.W.Frag} {mg : Str → Option Value} {base : Heap}
theorem fn_SB {x qual : Str} {st : Stmt} {f : Addr} {fd : FuncData} {N : List Str} {p : Str} {ps : List Str} {k : Nat} {m : Addr → List Int → Ev → SR} (F : Fun K x qual st f fd) (S : FnScope N (p :: ps) (defScope st))
    (hb : ∀ (a : Addr) (ns : List Int) (cdv : Value) (A : Around) (outer : List Env) (s : Shared) (H : Hp) (E : XK), Room k (A.deeper (envOfC qual (defScope st) s.heap.objs.size f cdv)) → SSs κ (cxOf (L2.CX P w) P w K mg base N qual (defScope st) f cdv A outer s H E) (fun cls d _ H => E cls d H) (defBody st) (m a ns)) :
    FnOk P w K mg base (L2.CX P w) (k + 1) f fd (p :: ps) (spSB κ K ps.length fun a ns => runSB (N.length - ps.length - 1) K a ns (m a ns)) := by
  refine F.okX S (fun vs H Q E h => ?_) (fun cdv A outer s H vs Q E hr h => ?_)
  · obtain ⟨a, ns, us, ds, rfl, _, hl, r, _⟩ := h
    simp [r.length, hl]
  · obtain ⟨a, ns, us, ds, rfl, hS, hl, r, h⟩ := h
    refine ⟨_, hb a ns cdv A outer s H E hr, ?_⟩
    have e : start N (.ref a :: us) = some (.ref a) :: (us.map some ++ List.replicate (N.length - ps.length - 1) none) := by
      unfold start
      simp only [List.map_cons, List.length_cons, List.cons_append]
      rw [r.length, hl, Nat.sub_sub]
    rw [e]
    refine ⟨H, _, .scr K a ns :: ev0 (N.length - ps.length - 1) ds, start_gen (by simp [ev0, r.length]) (fun i c v h1 h2 => ?_) (fun i es h => ?_), end_runB h⟩
    · cases i with
      | zero => cases h1; cases h2; exact ⟨rfl, hS⟩
      | succ i => exact ev_cells r i c v h1 h2
    · cases i with
      | zero => cases h
      | succ i => exact ev_ow i es h
end
section
variable {κ : Ex → Addr} {X : Cx} {W : WX} {e : Expr} {es : List Expr} {pos : Pos} {mxs : Ev → Res (List D)}
noncomputable def xCallS (K : PySem.W.Frag) (p : Addr) (ns : List Int) (i : Nat) (n : Nat) (f : Addr → List Int → List D → Res D) (ms : Ev → Res (List D)) : Ev → Res D := fun ρ => ifScr K p ns i ρ (xCall n (f p ns) ms ρ)
theorem SX.callSB {k n : Nat} {f : Addr} {fd : FuncData} {ps : List Str} {g : Addr → List Int → List D → Res D} {x y : Str} {p q : Pos} {sa : Addr} {ns : List Int} {i : Nat} (F : FnOk X.prog X.w X.K X.mg X.base (L2.CX X.prog X.w) k f fd ps (spSB κ X.K n g)) (hr : Room k X.A) (tk : Takes X W) (hg : Gl X x) (hm : X.mg x = some (.ref f))
    (hk : PySem.W.keepIn X.K (.ref f) = true) (hb : Binds X.K fd ps []) (hN : X.N[i]? = some y) (hv : Vis X.env.scope y) (ha : SXs κ X W es mxs) (hdb : (x == ("__debug__" : Str)) = false := by decide) (hd : (y == ("__debug__" : Str)) = false := by decide) (hcd : (y == ("__classdict__" : Str)) = false := by decide)
    (he : starEach (.Name y q :: es) X.env = (false, eval (.Name y q) X.env) :: starEach es X.env := by rfl) (hpl : (backTo pos (starEach es X.env)).any (·.1) = false := by rfl) :
    SX κ X W (.Call (.Name x p) (.Name y q :: es) [] pos) (xCallS X.K sa ns i n g mxs) := (pe_callS F hr hg hm hk hb (fun σ => passAt tk σ) (pa_cons (pe_var hN hv hd hcd) ha he) hdb he hpl).imp fun σ H Q h => by
  obtain ⟨H0, F, ρ, w, h⟩ := h
  unfold xCallS ifScr at h
  split at h
  case isFalse => exact h.elim
  rename_i hi
  obtain ⟨e, _⟩ := scr_at w hi
  refine ⟨_, e, H0, F, ρ, w, ?_⟩
  unfold xCall at h
  cases em : mxs ρ with
  | stuck => rw [em] at h; exact h
  | raise c => rw [em] at h; exact h
  | ok xs =>
    rw [em] at h
    simp only [Res.bind] at h
    intro vs H1 F1 g1 r1
    obtain ⟨_, s1⟩ := scr_at (w.grow g1) hi
    by_cases hl : xs.length = n
    case neg => rw [if_neg hl] at h; exact h.elim
    rw [if_pos hl] at h
    refine ⟨sa, ns, vs, xs, rfl, s1, hl, r1, ?_⟩
    cases eg : g sa ns xs with
    | ok d =>
      rw [eg] at h
      exact fun v H' hx r => h v H' F1 (g1.trans ⟨hx, fun _ h => h, fun _ h => .inl h⟩) r
    | raise c =>
      rw [eg] at h
      exact fun H' hx => h H' F1 (g1.trans ⟨hx, fun _ h => h, fun _ h => .inl h⟩)
    | stuck => rw [eg] at h; exact h
end
/-! ### what a comprehension makes, told apart -/
/-- own lists at addresses of N, each its own; else frozen -/
inductive Sep (H : Hp) (F N : Addr → Prop) : List V → List (Md × D) → Prop
  | nil : Sep H F N [] []
  | fz {v : V} {d : D} {vs : List V} {xs : List (Md × D)} : Rep H F v d → Sep H F N vs xs → Sep H F N (v :: vs) ((.fz, d) :: xs)
  | fr {p : Addr} {us : List V} {es : List D} {vs : List V} {xs : List (Md × D)} : H p = some (.lst us) → RepAll H F us es → ¬ F p → N p → V.ref p ∉ vs → Sep H F N vs xs → Sep H F N (.ref p :: vs) ((.fr, .list es) :: xs)
theorem Sep.length {H : Hp} {F N : Addr → Prop} : ∀ {vs : List V} {xs : List (Md × D)}, Sep H F N vs xs → vs.length = xs.length
  | _, _, .nil => rfl
  | _, _, .fz _ r => by simp [Sep.length r]
  | _, _, .fr _ _ _ _ _ r => by simp [Sep.length r]
theorem Sep.grow {H H' : Hp} {F F' N : Addr → Prop} (g : Grow H F H' F') : ∀ {vs : List V} {xs : List (Md × D)}, Sep H F N vs xs → Sep H' F' N vs xs
  | _, _, .nil => .nil
  | _, _, .fz r t => .fz (r.mono g.sub fun a o _ e => g.ext _ _ e) (Sep.grow g t)
  | _, _, .fr hp r nf hn hm t => .fr (g.ext _ _ hp) (r.mono g.sub fun a o _ e => g.ext _ _ e) (fun z => by
      rcases g.new _ z with q | ⟨q, _⟩
      · exact nf q
      · rw [hp] at q; cases q) hn hm (Sep.grow g t)
/-- a write to a list that is none of these -/
theorem Sep.upd {H : Hp} {F N : Addr → Prop} {B : Addr} {o : HO} (nF : ¬ F B) (nN : ¬ N B) : ∀ {vs : List V} {xs : List (Md × D)}, Sep H F N vs xs → Sep (L2.upd H B o) F N vs xs
  | _, _, .nil => .nil
  | _, _, .fz r t => .fz (r.mono (fun _ h => h) fun a o s e => by rw [upd_ne fun z => by subst z; exact nF s]; exact e) (Sep.upd nF nN t)
  | _, _, .fr hp r nf hn hm t => .fr (by rw [upd_ne fun z => by subst z; exact nN hn]; exact hp) (r.mono (fun _ h => h) fun a o s e => by rw [upd_ne fun z => by subst z; exact nF s]; exact e) nf hn hm (Sep.upd nF nN t)
/-- each item stands in the heap or is none -/
theorem Sep.snoc {H : Hp} {F N : Addr → Prop} {v : V} {x : Md × D} : ∀ {vs : List V} {xs : List (Md × D)}, Sep H F N vs xs → Sep H F N [v] [x] → (∀ p, v = .ref p → ∀ us, H p = some (.lst us) → ¬ F p → V.ref p ∉ vs) → Sep H F N (vs ++ [v]) (xs ++ [x])
  | _, _, .nil, s, _ => s
  | _, _, .fz r t, s, h => .fz r (t.snoc s fun p e us hp nf hm => h p e us hp nf (List.mem_cons_of_mem _ hm))
  | _, _, .fr (p := p) (us := us) hp r nf hn hm t, s, h => by
    refine .fr hp r nf hn (fun z => ?_) (t.snoc s fun p e us hp nf hm => h p e us hp nf (List.mem_cons_of_mem _ hm))
    rcases List.mem_append.mp z with z | z
    · exact hm z
    · rw [List.mem_singleton] at z
      exact h p z.symm us hp nf List.mem_cons_self
theorem Sep.dom {H : Hp} {F N : Addr → Prop} (hF : ∀ a, F a → ∃ o, H a = some o) : ∀ {vs : List V} {xs : List (Md × D)}, Sep H F N vs xs → ∀ p, V.ref p ∈ vs → ∃ o, H p = some o
  | _, _, .nil, p, h => by cases h
  | _, _, .fz r t, p, h => by
    rcases List.mem_cons.mp h with h | h
    · subst h
      cases r with
      | lst s e q => exact ⟨_, e⟩
      | tup s e q => exact ⟨_, e⟩
      | dct s e => exact ⟨_, e⟩
    · exact t.dom hF p h
  | _, _, .fr hp r nf hn hm t, p, h => by
    rcases List.mem_cons.mp h with h | h
    · cases h; exact ⟨_, hp⟩
    · exact t.dom hF p h
/-- the body's values -/
def sepItems (body : Md × D → Res (Option (Md × D))) (items xs : List (Md × D)) : Prop := xs.length = items.length ∧ ∀ (i : Nat) (x y : Md × D), items[i]? = some x → xs[i]? = some y → body x = .ok (some y) ∧ (y.1 = .fz ∨ y.1 = .fr)
section
variable {κ : Ex → Addr} {W : WX} {mi : Ev → RI} {j : Nat} {mt : Ev → Res Bool} {me : Ev → RV}
theorem comp_sep {σ : St} {H0 H : Hp} {F0 : Addr → Prop} {ρ : Ev} {Q : VK} {b : Bool} {items xs : List (Md × D)} (w : Wf H0 F0 σ ρ H) (ei : mi ρ = .ok (b, items)) (hsz : items.length ≤ 16777216) (hb : sepItems (compBody j mt me ρ) items xs)
    (k : ∀ (D : Addr) (vs : List V) (H' : Hp) (F : Addr → Prop), Grow H F0 H' F → ¬ F D → H D = none → H' D = some (.lst vs) → Sep H' F (fun p => H p = none ∧ p ≠ D) vs xs → Q (.ref D) H') :
    tLc (tI (κ := κ) W mi) (gName j) (tT (κ := κ) W0 mt) (tE κ W0 me) [j] σ H Q := by
  refine ⟨H0, F0, ρ, w, ?_⟩
  rw [ei]
  intro J H1 F1 S g1 _ it D hD
  obtain ⟨vs, hlen, hcell, hiter⟩ := it
  have w1 := w.grow g1
  have hH0 : H0 D = none := by
    cases e : H0 D with
    | none => rfl
    | some o => rw [w1.ext _ _ e] at hD; cases hD
  have nF1 : ¬ F1 D := fun z => by
    obtain ⟨o, e⟩ := w1.dom D z
    rw [hD] at e; cases e
  let N : Addr → Prop := fun p => H p = none ∧ p ≠ D
  let Pv : Nat → Hp → Prop := fun i H' => ∃ F acc, Grow H1 F1 H' F ∧ ¬ F D ∧ H' D = some (.lst acc) ∧ Sep H' F N acc (xs.take i)
  refine ⟨fun i m H' => m = items.length - i ∧ i ≤ items.length ∧ Pv i H', ⟨items.length, by simp, Nat.zero_le _, F1, [], ?_, nF1, upd_same, .nil⟩, ?_⟩
  · exact ⟨fun a o e => by rw [upd_ne (ne_of_none e hD)]; exact e, fun _ h => h, fun _ h => .inl h⟩
  rintro i m H' ⟨rfl, hi, F, acc, g, nF, hacc, sp⟩
  have it2 := hiter i H' fun a o _ e => g.ext a o e
  by_cases hlt : i < items.length
  case neg =>
    have e : i = items.length := by omega
    subst e
    refine .inl ⟨it2.2 (Nat.le_refl _), ?_⟩
    rw [← hb.1, List.take_length] at sp
    exact k D acc H' F (g1.trans g) nF (g1.none hD) hacc sp
  have hx := List.getElem?_eq_getElem hlt
  have hlt2 : i < xs.length := by rw [hb.1]; exact hlt
  have hy := List.getElem?_eq_getElem hlt2
  obtain ⟨eb, em⟩ := hb.2 i _ _ hx hy
  refine .inr ⟨(it2.1 hlt).1, Pv (i + 1), fun H'' p' => ⟨items.length - (i + 1), by omega, rfl, hlt, p'⟩, fun x H2 y => ?_⟩
  obtain ⟨e2, ex⟩ := (it2.1 hlt).2 x H2 y
  subst e2
  have hc1 : CellOk H0 F1 H1 (cellOf items[i]) (some x) := hcell i _ x hx ex
  have w2 : Wf H0 F σ ρ H2 := w1.grow g
  have hc2 : CellOk H0 F H2 (cellOf items[i]) (some x) := by
    revert hc1
    generalize items[i] = z
    obtain ⟨md, d⟩ := z
    intro hc1
    cases md <;> (obtain ⟨x', e, r⟩ := hc1; exact ⟨x', e, r.mono (fun a h => by first | exact h.imp id (g.sub a) | exact g.sub a h) fun a o _ e => g.ext _ _ e⟩)
  have eσ : (wipe σ [j]).set j (some x) = σ.set j (some x) := by
    show (σ.set j none).set j (some x) = _
    rw [List.set_set]
  have w3 : Wf H0 F ((wipe σ [j]).set j (some x)) (ρ.set j (cellOf items[i])) H2 := by
    rw [eσ]
    exact w2.put hc2 (cellOf_ow _)
  show (_ ∧ _)
  refine ⟨by rw [eσ]; show (σ.set j (some x)).set j none = σ.set j none; rw [List.set_set], H0, F, _, w3, ?_⟩
  cases et : mt (ρ.set j (cellOf items[i])) with
  | stuck => simp only [compBody, et, Res.bind] at eb; cases eb
  | raise c => simp only [compBody, et, Res.bind] at eb; cases eb
  | ok c =>
  simp only [compBody, et, Res.bind] at eb
  cases c with
  | false => simp at eb
  | true =>
  simp only [if_true] at eb
  intro H3 F3 g3
  have w4 := w3.grow g3
  have nF3 : ¬ F3 D := fun z => by
    rcases g3.new D z with q | ⟨q, _⟩
    · exact nF q
    · rw [hacc] at q; cases q
  simp only [if_true]
  refine ⟨H0, F3, _, w4, ?_⟩
  cases ee : me (ρ.set j (cellOf items[i])) with
  | stuck => simp only [ee] at eb; cases eb
  | raise c => simp only [ee] at eb; cases eb
  | ok y' =>
  obtain ⟨md, d⟩ := y'
  simp only [ee] at eb
  have eb : (md, d) = xs[i] := by injection eb with eb; injection eb
  intro v H4 F4 g4 r4
  have h3 : H3 D = some (.lst acc) := g3.ext _ _ hacc
  have h4 : H4 D = some (.lst acc) := g4.ext _ _ h3
  have nF4 : ¬ F4 D := fun z => by
    rcases g4.new D z with q | ⟨q, _⟩
    · exact nF3 q
    · rw [h3] at q; cases q
  have gg : Grow H1 F1 H4 F4 := (g.trans g3).trans g4
  have sp4 : Sep H4 F4 N acc (xs.take i) := sp.grow (g3.trans g4)
  have hal : acc.length ≤ i := by
    rw [sp.length, List.length_take]; omega
  refine ⟨acc, h4, by rw [sl16]; omega, F4, acc ++ [v], ⟨fun a o e => ?_, gg.sub, fun a h => ?_⟩, nF4, upd_same, ?_⟩
  · rw [upd_ne (ne_of_none e hD)]
    exact gg.ext _ _ e
  · rcases gg.new a h with q | ⟨q, o, z⟩
    · exact .inl q
    · exact .inr ⟨q, o, by rw [upd_ne fun z => by subst z; exact nF4 h]; exact z⟩
  · have et : xs.take (i + 1) = xs.take i ++ [xs[i]] := by rw [List.take_succ, hy]; rfl
    rw [et, ← eb]
    refine Sep.upd nF4 (fun (z : N D) => z.2 rfl) (sp4.snoc ?_ ?_)
    · rcases em with em | em
      · rw [← eb] at em
        cases em
        exact .fz r4 .nil
      · rw [← eb] at em
        cases em
        obtain ⟨p, us, es, rfl, rfl, hp, q, n, nf⟩ := r4
        exact .fr hp q nf ⟨g1.none (g.none (g3.none n)), fun z => by subst z; rw [h3] at n; cases n⟩ (by simp) .nil
    · intro p ev us hp nf hm
      subst ev
      obtain ⟨o, e⟩ := sp.dom w2.dom p hm
      rcases em with em | em
      · rw [← eb] at em
        cases em
        cases r4 with
        | lst s _ _ => exact nf s
        | tup s _ _ => exact nf s
        | dct s _ => exact nf s
      · rw [← eb] at em
        cases em
        obtain ⟨p', _, _, _, e', _, _, n, _⟩ := r4
        cases e'
        rw [g3.ext _ _ e] at n; cases n
end
end L2.Xq
set_option Elab.async false
set_option linter.all false
set_option maxRecDepth 100000
set_option maxHeartbeats 4000000
namespace L2.Xq
open PySem PySem.Spec PyProof.Rows
/-! ### what the raw statements do -/
/-- nothing but these lists has changed -/
def isListD : D → Bool
  | .list _ => true
  | _ => false
theorem sep_cases {H : Hp} {F N : Addr → Prop} : ∀ {vs : List V} {xs : List (Md × D)} {i : Nat} {v : V} {x : Md × D}, Sep H F N vs xs → vs[i]? = some v → xs[i]? = some x →
    (x.1 = .fz ∧ Rep H F v x.2) ∨ ∃ p us es, v = .ref p ∧ x = (.fr, .list es) ∧ H p = some (.lst us) ∧ RepAll H F us es ∧ ¬ F p ∧ N p
  | _, _, i, v, x, .nil, h, _ => by simp at h
  | _, _, 0, v, x, .fz r t, h1, h2 => by simp at h1 h2; subst h1; subst h2; exact .inl ⟨rfl, r⟩
  | _, _, 0, v, x, .fr hp r nf hn hm t, h1, h2 => by simp at h1 h2; subst h1; subst h2; exact .inr ⟨_, _, _, rfl, rfl, hp, r, nf, hn⟩
  | _, _, i + 1, v, x, .fz r t, h1, h2 => sep_cases t (by simpa using h1) (by simpa using h2)
  | _, _, i + 1, v, x, .fr hp r nf hn hm t, h1, h2 => sep_cases t (by simpa using h1) (by simpa using h2)
theorem sep_apart {H : Hp} {F N : Addr → Prop} : ∀ {vs : List V} {xs : List (Md × D)} {i j : Nat} {p : Addr}, Sep H F N vs xs → ¬ F p → i < j → vs[i]? = some (V.ref p) → vs[j]? = some (V.ref p) → False
  | [], _, i, j, p, _, _, h, h1, h2 => by simp at h1
  | v :: vs, _, i, 0, p, _, _, h, _, _ => by omega
  | v :: vs, _, 0, j + 1, p, .fz r t, nf, h, h1, h2 => by
    simp at h1
    subst h1
    cases r with
    | lst s _ _ => exact nf s
    | tup s _ _ => exact nf s
    | dct s _ => exact nf s
  | _ :: vs, _, 0, j + 1, p, .fr hp r nf' hn hm t, nf, h, h1, h2 => by
    simp at h1
    subst h1
    exact hm (List.mem_of_getElem? (by simpa using h2))
  | v :: vs, _, i + 1, j + 1, p, .fz r t, nf, h, h1, h2 => sep_apart (vs := vs) (i := i) (j := j) t nf (by omega) (by simpa using h1) (by simpa using h2)
  | _ :: vs, _, i + 1, j + 1, p, .fr hp r nf' hn hm t, nf, h, h1, h2 => sep_apart (vs := vs) (i := i) (j := j) t nf (by omega) (by simpa using h1) (by simpa using h2)
theorem rep_ref {H : Hp} {S : Addr → Prop} {p : Addr} {d : D} (r : Rep H S (.ref p) d) : S p := by
  cases r <;> assumption
section
variable {κ : Ex → Addr} {X : Cx} {W : WX}
theorem isi_list (d : D) (ρ : Ev) (j : Nat) (h : rdC ρ[j]? = .ok (.bo, d)) : mTru (mIsi "list" (mVar j)) ρ = .ok (isListD d) := by
  unfold mTru mIsi
  rw [show mVar j ρ = rdC ρ[j]? by unfold mVar rdC; rfl, h]
  cases d <;> rfl
theorem app_for {σ : St} {H : Hp} {i j : Nat} {D0 : Addr} {F N : Addr → Prop} {vs : List V} {xs : List (Md × D)} {u : TS} {D' : Ends} (hi : σ[i]? = some (some (.ref D0))) (hij : i ≠ j) (hj : j < σ.length) (hD : H D0 = some (.lst vs)) (nD : ¬ F D0) (nN : ¬ N D0) (sp : Sep H F N vs xs)
    (hfz : ∀ x ∈ xs, x.1 = .fz → isListD x.2 = false) (hsz : ∀ x ∈ xs, ∀ es, x.2 = .list es → es.length < 16777216)
    (k : ∀ σ' H', (∀ n, n ≠ j → σ'[n]? = σ[n]?) → σ'.length = σ.length → (∀ (b : Addr) (o : HO), H b = some o → (∀ n : Nat, vs[n]? = some (V.ref b) → F b) → H' b = some o) →
      (∀ (n : Nat) (p : Addr) (us : List V), vs[n]? = some (V.ref p) → ¬ F p → H p = some (.lst us) → H' p = some (.lst (us ++ [.int 0]))) → u D' σ' H') :
    tSeq (tAppFor (X := X) κ W i j) u D' σ H := by
  refine ⟨.ref D0, hi, D0, rfl, ⟨_, .inl (.inl hD)⟩, ?_⟩
  have hlen := sp.length
  let Pv : Nat → St → Hp → Prop := fun n σ' H' => (∀ m, m ≠ j → σ'[m]? = σ[m]?) ∧ σ'.length = σ.length ∧ (∀ b o, H b = some o → (∀ m, m < n → vs[m]? = some (V.ref b) → F b) → H' b = some o) ∧
    ∀ (m : Nat) (p : Addr) (us : List V), m < n → vs[m]? = some (V.ref p) → ¬ F p → H p = some (.lst us) → H' p = some (.lst (us ++ [.int 0]))
  refine ⟨fun n m σ' H' => m = vs.length - n ∧ n ≤ vs.length ∧ Pv n σ' H', ⟨vs.length, by simp, Nat.zero_le _, fun _ _ => rfl, rfl, fun _ _ e _ => e, fun m p us h => by omega⟩, ?_⟩
  rintro n m σ' H' ⟨rfl, hn, h1, h2, h3, h4⟩
  have noD : ∀ m : Nat, vs[m]? = some (V.ref D0) → False := fun m hm => by
    obtain ⟨hml, _⟩ := List.getElem?_eq_some_iff.mp hm
    rcases sep_cases sp hm (List.getElem?_eq_getElem (show m < xs.length by omega)) with ⟨_, r⟩ | ⟨p, us, es, e, _, _, _, _, hN⟩
    · exact nD (rep_ref r)
    · cases e; exact nN hN
  have hD' : H' D0 = some (.lst vs) := h3 D0 _ hD fun m _ hm => (noD m hm).elim
  by_cases hlt : n < vs.length
  case neg =>
    have e : n = vs.length := by omega
    subst e
    refine .inl ⟨⟨_, .inl (.inl hD'), Nat.le_refl _⟩, k σ' H' h1 h2 (fun b o e hb => h3 b o e fun m _ hm => hb m hm) fun m p us hm => h4 m p us (List.getElem?_eq_some_iff.mp hm).1 hm⟩
  refine .inr ⟨⟨_, vs[n], .inl (.inl hD'), List.getElem?_eq_getElem hlt⟩, fun σ2 H2 => Pv (n + 1) σ2 H2, fun σ2 H2 q => ⟨vs.length - (n + 1), by omega, rfl, hlt, q⟩, fun x H2 y => ?_⟩
  obtain ⟨e2, ex⟩ := y
  subst e2
  have ex := ex _ (.inl (.inl hD'))
  rw [List.getElem?_eq_getElem hlt] at ex
  cases ex
  have hv := List.getElem?_eq_getElem hlt
  have hlt2 : n < xs.length := by omega
  have hx := List.getElem?_eq_getElem hlt2
  -- what stands of F has not changed
  have keepF : ∀ b o, F b → H b = some o → H2 b = some o := fun b o hb e => h3 b o e fun _ _ _ => hb
  have s1 : ∀ m, m ≠ j → (σ'.set j (some vs[n]))[m]? = σ[m]? := fun m hm => by rw [List.getElem?_set_ne (Ne.symm hm)]; exact h1 m hm
  have s2 : (σ'.set j (some vs[n])).length = σ.length := by rw [List.length_set]; exact h2
  have ej : (σ'.set j (some vs[n]))[j]? = some (some vs[n]) := List.getElem?_set_self (by omega)
  -- the test
  have test : ∀ d, Rep H2 All vs[n] d → ∀ {Q : Bool → Hp → Prop}, (∀ H3, (∀ b o, H2 b = some o → H3 b = some o) → Q (isListD d) H3) → tT (κ := κ) W (mTru (mIsi "list" (mVar j))) (σ'.set j (some vs[n])) H2 Q := fun d r Q q => by
    refine ⟨H2, fun _ => False, (List.replicate σ'.length Cell.un).set j (.bo d), start_gen (by simp) (fun m c v g1 g2 => ?_) (fun m es g1 => ?_), ?_⟩
    · by_cases hm : m = j
      · subst hm
        rw [List.getElem?_set_self (by simp; omega)] at g1
        cases g1
        rw [ej] at g2
        cases g2
        exact ⟨_, rfl, r.dom.mono (fun _ h => .inl h) fun _ _ _ e => e⟩
      · rw [List.getElem?_set_ne (Ne.symm hm), List.getElem?_replicate] at g1
        split at g1 <;> cases g1
        trivial
    · by_cases hm : m = j
      · subst hm
        rw [List.getElem?_set_self (by simp; omega)] at g1
        cases g1
      · rw [List.getElem?_set_ne (Ne.symm hm), List.getElem?_replicate] at g1
        split at g1 <;> cases g1
    · rw [isi_list d _ j (by rw [List.getElem?_set_self (by simp; omega)]; rfl)]
      exact fun H3 F3 g => q H3 g.ext
  rcases sep_cases sp hv hx with ⟨em, r⟩ | ⟨p, us, es, e, em, hp, r, nf, hN⟩
  · have hl := hfz _ (List.getElem_mem hlt2) em
    refine test xs[n].2 (r.mono (fun _ _ => trivial) fun b o s e => keepF b o s e) fun H3 k3 => ?_
    rw [hl]
    simp only [Bool.false_eq_true, if_false]
    refine ⟨s1, s2, fun b o e hb => k3 b o (h3 b o e fun m hm => hb m (by omega)), fun m p us hm hvm nf hp => k3 _ _ (h4 m p us ?_ hvm nf hp)⟩
    rcases Nat.lt_or_ge m n with h | h
    · exact h
    · have : m = n := by omega
      subst this
      rw [hv] at hvm
      have hvm := Option.some.inj hvm
      rw [hvm] at r
      exact (nf (rep_ref r)).elim
  · have hpn : ∀ m, m < n → vs[m]? = some (V.ref p) → False := fun m hm hvm => sep_apart sp nf hm hvm (by rw [hv, e])
    have hp2 : H2 p = some (.lst us) := h3 p _ hp fun m hm hvm => (hpn m hm hvm).elim
    have hel : es.length < 16777216 := hsz _ (List.getElem_mem hlt2) es (by rw [em])
    refine test (.list es) (by rw [e]; exact .lst trivial hp2 (r.mono (fun _ _ => trivial) fun b o s e => keepF b o s e)) fun H3 k3 => ?_
    show (if isListD (.list es) = true then _ else _)
    rw [if_pos (show isListD (.list es) = true from rfl)]
    refine ⟨.ref p, by rw [ej, e], .inl ⟨rfl, _, .inl (.inl (k3 _ _ hp2))⟩, p, us, .int 0, rfl, rfl, k3 _ _ hp2, by rw [r.length, sl16]; exact hel, ?_⟩
    refine ⟨s1, s2, fun b o eb hb => ?_, fun m p' us' hm hvm nf' hp' => ?_⟩
    · rw [upd_ne fun z => by subst z; exact nf (hb n (by omega) (by rw [hv, e]))]
      exact k3 b o (h3 b o eb fun m hm => hb m (by omega))
    · by_cases hmn : m = n
      · subst hmn
        rw [hv, e] at hvm
        cases hvm
        rw [hp] at hp'
        cases hp'
        exact upd_same
      · rw [upd_ne fun z => by subst z; exact hpn m (by omega) hvm]
        exact k3 _ _ (h4 m p' us' (by omega) hvm nf' hp')
/-- l[0][0].append(n) -/
theorem a00 {σ : St} {H : Hp} {i : Nat} {n : Int} {p q r : Addr} {vs us ws : List V} {u : TS} {D' : Ends} (hi : σ[i]? = some (some (.ref p))) (hp : H p = some (.lst (.ref q :: vs))) (hq : H q = some (.lst (.ref r :: us))) (hr : H r = some (.lst ws)) (hz : ws.length < 16777216)
    (k : u D' σ (upd H r (.lst (ws ++ [.int n])))) : tSeq (tA00 (X := X) i n) u D' σ H :=
  ⟨.ref p, hi, p, _, 0, .ref q, rfl, rfl, .inl (.inl hp), by simp [atI, ixN], q, _, 0, .ref r, rfl, rfl, .inl (.inl hq), by simp [atI, ixN], .inl ⟨rfl, _, .inl (.inl hr)⟩, r, ws, .int n, rfl, rfl, hr, by rw [sl16]; exact hz, k⟩
/-- l[k].clear() -/
theorem clrIx {σ : St} {H : Hp} {i : Nat} {n : Int} {p q : Addr} {vs us : List V} {u : TS} {D' : Ends} (hi : σ[i]? = some (some (.ref p))) (hp : H p = some (.lst vs)) (ha : atI vs n = some (.ref q)) (hq : H q = some (.lst us))
    (k : u D' σ (upd H q (.lst []))) : tSeq (tClrIx (X := X) i n) u D' σ H :=
  ⟨.ref p, hi, p, vs, n, .ref q, rfl, rfl, .inl (.inl hp), ha, .inl ⟨rfl, _, .inl (.inl hq)⟩, q, us, rfl, rfl, hq, k⟩
/-- a, b = f(..) -/
theorem unp_run {K : PySem.W.Frag} {κ : Ex → Addr} {W : WX} {js : List Nat} {m : Ev → Res D} {H0 H : Hp} {F : Addr → Prop} {σ : St} {ρ ρ' : Ev} {ds : List D} {u : TS} {D' : Ends} (w : Wf H0 F σ ρ H) (e : m ρ = .ok (.tuple ds)) (es : setAll .bo js ds (ρ.map rebC) = some ρ')
    (k : ∀ σ' H', Wf H' (fun _ => False) σ' ρ' H' → (∀ a o, H a = some o → H' a = some o) → u D' σ' H') : tSeq (tUnp K κ W js m) u D' σ H := by
  refine ⟨H0, F, ρ, w, ?_⟩
  rw [e]
  intro v H' F' g r
  have w2 := (w.grow g).rebase
  cases r with
  | tup s hp q =>
    refine ⟨_, _, rfl, .inl (.inl hp), by rw [q.length, setAll_len _ _ _ _ es], ?_⟩
    have q2 := q.dom
    exact setAll_run (c := .bo) (.inl rfl) (fun σ' w' => k σ' H' w' g.ext) w2 (q2.mono (fun _ h => .inl h) fun _ _ _ e => e) (fun h => absurd rfl h) es
end
end L2.Xq
set_option Elab.async false
set_option linter.all false
set_option maxRecDepth 100000
set_option maxHeartbeats 4000000
namespace L2.Xq
open PySem PySem.Spec PyProof.Rows
def wholeB (d : D) (lo hi : Int) : Bool := match d with
  | .int i => decide (lo ≤ i) && decide (i ≤ hi)
  | _ => false
theorem wholeB_int {d : D} {lo hi : Int} (h : wholeB d lo hi = true) : ∃ i, d = .int i ∧ lo ≤ i ∧ i ≤ hi := by
  cases d <;> simp [wholeB] at h
  exact ⟨_, rfl, h⟩
def rowB (d : D) (most signs : Int) : Bool := match d with
  | .list ds => decide (1 ≤ ds.length) && decide ((ds.length : Int) ≤ most) && ds.all fun x => wholeB x 0 (signs - 1)
  | _ => false
theorem comp_map {body : Md × D → Res (Option (Md × D))} {f : D → D} : ∀ (items : List (Md × D)) (acc : List D), (∀ x ∈ items, ∃ y, body x = .ok (some y) ∧ y.2 = f x.2 ∧ dOne y = .ok (true, [y.2])) → compGo body items true acc = .ok (true, acc ++ items.map fun x => f x.2)
  | [], acc, _ => by simp [compGo]
  | x :: r, acc, h => by
    obtain ⟨y, e, ey, ed⟩ := h x List.mem_cons_self
    have ih := comp_map r (acc ++ [f x.2]) fun y hy => h y (List.mem_cons_of_mem _ hy)
    unfold compGo
    rw [e]
    simp only [ed, ey]
    simpa using ih
theorem bools_map {α : Type} (l : List α) (g : α → Bool) : bools (l.map fun x => .bool (g x)) = some (l.map g) := by
  induction l with
  | nil => rfl
  | cons a r ih => simp [bools, ih]
theorem beq_dec (i j : Int) : (i == j) = decide (i = j) := by by_cases h : i = j <;> simp [h]
theorem fNe_int (m m' : Md) (i j : Int) : fNe m (.int i) m' (.int j) = some (.fz, .bool (!decide (i = j))) := by
  simp [fNe, SeqAt.shaped, PyData.canLay0, PyData.depth, PyData.eqv, beq_dec]
theorem fEq_int (m m' : Md) (i j : Int) : fEq m (.int i) m' (.int j) = some (.fz, .bool (decide (i = j))) := by
  simp [fEq, SeqAt.shaped, PyData.canLay0, PyData.depth, PyData.eqv, beq_dec]
def intsD (ns : List Int) : D := .list (ns.map .int)
theorem rowB_int {d : D} {m s : Int} (h : rowB d m s = true) : ∃ ns : List Int, d = intsD ns ∧ 1 ≤ ns.length ∧ (ns.length : Int) ≤ m ∧ ∀ n ∈ ns, 0 ≤ n ∧ n < s := by
  cases d <;> first | (simp [rowB] at h; done) | skip
  rename_i ds
  simp only [rowB, Bool.and_eq_true, decide_eq_true_eq, List.all_eq_true] at h
  obtain ⟨⟨h1, h2⟩, h3⟩ := h
  have key : ∀ ds : List D, (∀ x ∈ ds, wholeB x 0 (s - 1) = true) → ∃ ns : List Int, ds = ns.map .int ∧ ∀ n ∈ ns, 0 ≤ n ∧ n < s := by
    intro ds
    induction ds with
    | nil => exact fun _ => ⟨[], rfl, fun _ h => nomatch h⟩
    | cons a r ih =>
      intro h
      obtain ⟨i, rfl, hi⟩ := wholeB_int (h a List.mem_cons_self)
      obtain ⟨ns, rfl, hn⟩ := ih fun x hx => h x (List.mem_cons_of_mem _ hx)
      refine ⟨i :: ns, rfl, fun n hn' => ?_⟩
      rcases List.mem_cons.mp hn' with rfl | h'
      · omega
      · exact hn n h'
  obtain ⟨ns, rfl, hn⟩ := key ds h3
  exact ⟨ns, rfl, by simpa using h1, by simpa using h2, hn⟩
theorem lay_ints : ∀ ns : List Int, PyData.canLayAll0 (ns.map .int) = true
  | [] => rfl
  | n :: r => by simp [PyData.canLayAll0, PyData.canLay0, lay_ints r]
theorem depth_ints : ∀ ns : List Int, PyData.depthAll (ns.map .int) = 0
  | [] => rfl
  | n :: r => by simp [PyData.depthAll, PyData.depth, depth_ints r]
theorem shaped_ints (ns : List Int) : SeqAt.shaped (intsD ns) = true := by
  simp [SeqAt.shaped, intsD, PyData.canLay0, PyData.depth, lay_ints, depth_ints]
theorem eqv_ints' : ∀ ns ms : List Int, PyData.eqvAll (ns.map .int) (ms.map .int) = decide (ns = ms)
  | [], [] => rfl
  | [], _ :: _ => by simp [PyData.eqvAll]
  | _ :: _, [] => by simp [PyData.eqvAll]
  | n :: r, m :: s => by
    simp [PyData.eqvAll, PyData.eqv, eqv_ints' r s, beq_dec]
theorem eqv_ints (ns ms : List Int) : PyData.eqv (intsD ns) (intsD ms) = decide (ns = ms) := by
  simp [PyData.eqv, intsD, eqv_ints']
theorem lay_rows : ∀ rs : List (List Int), PyData.canLayAll0 (rs.map intsD) = true
  | [] => rfl
  | n :: r => by simp [PyData.canLayAll0, PyData.canLay0, lay_rows r, intsD, lay_ints]
theorem depth_rows : ∀ rs : List (List Int), PyData.depthAll (rs.map intsD) ≤ 1
  | [] => by simp [PyData.depthAll]
  | n :: r => by
    have := depth_rows r
    simp [PyData.depthAll, PyData.depth, intsD, depth_ints] at this ⊢
    omega
theorem shaped_rows (rs : List (List Int)) : SeqAt.shaped (.list (rs.map intsD)) = true := by
  have := depth_rows rs
  simp [SeqAt.shaped, PyData.canLay0, PyData.depth, lay_rows]
  omega
theorem eqv_rows' : ∀ ns ms : List (List Int), PyData.eqvAll (ns.map intsD) (ms.map intsD) = decide (ns = ms)
  | [], [] => rfl
  | [], _ :: _ => by simp [PyData.eqvAll]
  | _ :: _, [] => by simp [PyData.eqvAll]
  | n :: r, m :: s => by
    simp only [List.map_cons, PyData.eqvAll, eqv_ints, eqv_rows' r s]
    simp
theorem eqv_rows (ns ms : List (List Int)) : PyData.eqv (.list (ns.map intsD)) (.list (ms.map intsD)) = decide (ns = ms) := by
  simp [PyData.eqv, eqv_rows']
theorem fEq_ints (m m' : Md) (a b : List Int) : fEq m (intsD a) m' (intsD b) = some (.fz, .bool (decide (a = b))) := by
  simp [fEq, shaped_ints, eqv_ints]
theorem fNe_ints (m m' : Md) (a b : List Int) : fNe m (intsD a) m' (intsD b) = some (.fz, .bool (!decide (a = b))) := by
  simp [fNe, shaped_ints, eqv_ints]
theorem fEq_rows (m m' : Md) (a b : List (List Int)) : fEq m (.list (a.map intsD)) m' (.list (b.map intsD)) = some (.fz, .bool (decide (a = b))) := by
  simp [fEq, shaped_rows, eqv_rows]
theorem fNe_rows (m m' : Md) (a b : List (List Int)) : fNe m (.list (a.map intsD)) m' (.list (b.map intsD)) = some (.fz, .bool (!decide (a = b))) := by
  simp [fNe, shaped_rows, eqv_rows]
theorem fEq_nil (m m' : Md) : fEq m (.list []) m' (.list []) = some (.fz, .bool true) := fEq_rows m m' [] []
theorem fNe_nil (m m' : Md) : fNe m (.list []) m' (.list []) = some (.fz, .bool false) := fNe_rows m m' [] []
theorem fNe_tup1 (m m' : Md) (i j : Int) : fNe m (.tuple [.int i]) m' (.tuple [.int j]) = some (.fz, .bool (!decide (i = j))) := by
  simp [fNe, SeqAt.shaped, PyData.canLay0, PyData.canLayAll0, PyData.depth, PyData.depthAll, PyData.eqv, PyData.eqvAll, beq_dec]
/-! ### the law's own defs -/
theorem comp_none {body : Md × D → Res (Option (Md × D))} : ∀ (items : List (Md × D)) (b : Bool) (acc : List D), (∀ x ∈ items, body x = .ok none) → compGo body items b acc = .ok (b, acc)
  | [], b, acc, _ => rfl
  | x :: r, b, acc, h => by
    unfold compGo
    rw [h x List.mem_cons_self]
    exact comp_none r b acc fun y hy => h y (List.mem_cons_of_mem _ hy)
theorem ret_md (d : D) : retV (mdOf d, d) = .ret d := by cases d <;> rfl
theorem sr_bind {r : Res D} : (r.bind fun d => Res.ok (mdOf d, d)).sr retV = r.sr fun d => retV (mdOf d, d) := by cases r <;> rfl
theorem sIx_lo {n : Nat} {i : Int} (h : 0 ≤ i) (h2 : i ≤ n) (d : Nat) : HT.sIx n d (some i) = i.toNat := by
  show (if i < 0 then (i + (n : Int)).toNat else min i.toNat n) = _
  rw [if_neg (by omega)]
  omega
theorem sc_mem {ws : List Int} {x : D} (h : x ∈ ws.map PyData.int) : scalar x = true := by
  obtain ⟨n, _, rfl⟩ := List.mem_map.mp h
  rfl
theorem all_sc (ns : List Int) : (ns.map PyData.int).all scalar = true := by
  simp [List.all_eq_true]
theorem cutD_lo {ds : List D} {i : Int} (h : 0 ≤ i) (h2 : i ≤ ds.length) : cutD ds (some i) none = ds.drop i.toNat := by
  unfold cutD
  rw [sIx_lo h h2]
  show (ds.drop i.toNat).take (ds.length - i.toNat) = _
  rw [List.take_of_length_le (by rw [List.length_drop]; exact Nat.le_refl _)]
theorem cutD_hi {ds : List D} {i : Int} (h : 0 ≤ i) (h2 : i ≤ ds.length) : cutD ds none (some i) = ds.take i.toNat := by
  unfold cutD
  rw [sIx_lo h h2]
  show (ds.drop 0).take (i.toNat - 0) = _
  rw [List.drop_zero, Nat.sub_zero]
theorem fIx_some {m m' : Md} {ds : List D} {i : Int} {d : D} (h : 0 ≤ i) (h2 : i < ds.length) (hd : ds[i.toNat]? = some d) : fIx m (.list ds) m' (.int i) = some (elMd m d, d) := by
  unfold fIx ixN
  obtain ⟨hlt, e⟩ := List.getElem?_eq_some_iff.mp hd
  simp [h, h2, e]
theorem mod6 (x : Int) : x.fmod 6 = 0 ∨ x.fmod 6 = 1 ∨ x.fmod 6 = 2 ∨ x.fmod 6 = 3 ∨ x.fmod 6 = 4 ∨ x.fmod 6 = 5 := by
  rw [Int.fmod_eq_emod_of_nonneg _ (by omega)]
  omega
theorem cutD_mid {ds : List D} {i j : Int} (h : 0 ≤ i) (h2 : i ≤ j) (h3 : j ≤ ds.length) : cutD ds (some i) (some j) = (ds.drop i.toNat).take (j - i).toNat := by
  unfold cutD
  rw [sIx_lo h (by omega), sIx_lo (by omega) h3]
  congr 1
  omega
theorem small_lt {i : Int} (h : -1000000 ≤ i) (h2 : i < 1000000) : smallR i = true := by
  unfold smallR
  simp
  omega
theorem cut_ints (w : List Int) {i j : Int} (h : 0 ≤ i) (h2 : i ≤ j) (h3 : j ≤ w.length) : cutD (w.map PyData.int) (some i) (some j) = ((w.drop i.toNat).take (j - i).toNat).map PyData.int := by
  rw [cutD_mid h h2 (by simpa using h3), List.map_take, List.map_drop]
def numsD : D → List Int
  | .list es => es.map fun d => match d with | .int n => n | _ => 0
  | _ => []
theorem comp_filter {body : Md × D → Res (Option (Md × D))} {g : D → Bool} : ∀ (items : List (Md × D)) (acc : List D), (∀ x ∈ items, body x = .ok (if g x.2 = true then some (.fz, x.2) else none)) → compGo body items true acc = .ok (true, acc ++ (items.map (·.2)).filter g)
  | [], acc, _ => by simp [compGo]
  | x :: r, acc, h => by
    unfold compGo
    rw [h x List.mem_cons_self]
    by_cases hg : g x.2 = true
    · have ih := comp_filter r (acc ++ [x.2]) fun y hy => h y (List.mem_cons_of_mem _ hy)
      simp [hg]
      simpa using ih
    · have ih := comp_filter r acc fun y hy => h y (List.mem_cons_of_mem _ hy)
      simp [hg]
      simpa using ih
theorem for_any {j : Nat} {body : Ev → SR} {d : D} {g : Md × D → Bool} {ρ : Ev} : ∀ (items : List (Md × D)) (c : Cell), (∀ x ∈ items, body (ρ.set j (cellOf x)) = if g x = true then .ret d else .next (ρ.set j (cellOf x))) →
    (items.any g = true ∧ forGo j body items (ρ.set j c) = .ret d) ∨ (items.any g = false ∧ ∃ c', forGo j body items (ρ.set j c) = .next (ρ.set j c'))
  | [], c, _ => .inr ⟨rfl, c, rfl⟩
  | x :: r, c, h => by
    have hx := h x List.mem_cons_self
    unfold forGo
    rw [List.set_set, hx]
    by_cases hg : g x = true
    · rw [if_pos hg]
      exact .inl ⟨by simp [hg], rfl⟩
    · rw [if_neg hg]
      rcases for_any r (cellOf x) fun y hy => h y (List.mem_cons_of_mem _ hy) with ⟨h1, h2⟩ | ⟨h1, h2⟩
      · exact .inl ⟨by simp [h1], h2⟩
      · exact .inr ⟨by simp [h1, hg], h2⟩
theorem mComp_ok {mi : Ev → RI} {j : Nat} {mt : Ev → Res Bool} {me : Ev → RV} {ρ : Ev} {b bd : Bool} {items : List (Md × D)} {ds : List D} (hi : mi ρ = .ok (b, items)) (hl : items.length ≤ 16777216) (hc : compGo (compBody j mt me ρ) items true [] = .ok (bd, ds)) : mComp mi j mt me ρ = .ok (mdL bd, .list ds) := by
  unfold mComp
  rw [hi]
  show (if items.length ≤ 16777216 then _ else _) = _
  rw [if_pos hl, hc]
  rfl
theorem iR1_int {ma : Ev → RV} {ρ : Ev} {m : Md} {i : Int} (h : ma ρ = .ok (m, .int i)) (hs : smallR i = true) : iR1 ma ρ = .ok (false, rangeD 0 i.toNat) := by
  unfold iR1
  rw [h]
  simp only [Res.bind, hs, if_true]
theorem iR1_ok {ma : Ev → RV} {ρ : Ev} {m : Md} {n : Nat} (h : ma ρ = .ok (m, .int n)) (hn : n < 1000) : iR1 ma ρ = .ok (false, rangeD 0 n) := iR1_int h (small_lt (by omega) (by omega))
theorem endB_list (b : Bool) (ds : List D) : endB (retV (mdL b, .list ds)) = .ok (.list ds) := by cases b <;> rfl
theorem comp_some {body : Md × D → Res (Option (Md × D))} {P : D → Prop} : ∀ (items : List (Md × D)) (acc : List D), (∀ x ∈ items, ∃ d, body x = .ok (some (.fr, d)) ∧ P d) → ∃ ds : List D, ds.length = items.length ∧ (∀ d ∈ ds, P d) ∧ compGo body items true acc = .ok (true, acc ++ ds)
  | [], acc, _ => ⟨[], rfl, by simp, by simp [compGo]⟩
  | x :: r, acc, h => by
    obtain ⟨d, e, hp⟩ := h x List.mem_cons_self
    obtain ⟨ds, h1, h2, h3⟩ := comp_some r (acc ++ [d]) fun y hy => h y (List.mem_cons_of_mem _ hy)
    refine ⟨d :: ds, by simp [h1], fun z hz => ?_, ?_⟩
    · rcases List.mem_cons.mp hz with rfl | hz
      · exact hp
      · exact h2 z hz
    · unfold compGo
      rw [e]
      simp
      simpa using h3
theorem fEq_tup1 (m m' : Md) (i : Int) : fEq m (.tuple [.int i]) m' (.tuple [.int i]) = some (.fz, .bool true) := by
  simp [fEq, SeqAt.shaped, PyData.canLay0, PyData.canLayAll0, PyData.depth, PyData.depthAll, PyData.eqv, PyData.eqvAll]
theorem call_any {f : List D → Res D} {x y : D} {b : Bool} {ρ : Ev} {m n : Nat} (e : f [x, y] = .ok (.bool b)) (h14 : ρ[m]? = some (.fz x)) (h10 : ρ[n]? = some (.fz y)) : mTru (mCall 2 f (mCons (mVar m) (mCons (mVar n) mNil))) ρ = .ok b := by
  simp [h14, h10, e]
theorem call3 {f : List D → Res D} {x y z : D} {ds : List D} {ρ : Ev} {i j l : Nat} {m1 m2 m3 : Md} (e : f [x, y, z] = .ok (.list ds)) (h1 : mVar i ρ = .ok (m1, x)) (h2 : mVar j ρ = .ok (m2, y)) (h3 : mVar l ρ = .ok (m3, z)) : mCall 3 f (mCons (mVar i) (mCons (mVar j) (mCons (mVar l) mNil))) ρ = .ok (.fr, .list ds) := by
  rw [z_v0] at h1 h2 h3
  simp [h1, h2, h3, e]
theorem call2 {f : List D → Res D} {x y : D} {b : Bool} {ρ : Ev} {i j : Nat} {m1 m2 : Md} (e : f [x, y] = .ok (.bool b)) (h1 : mVar i ρ = .ok (m1, x)) (h2 : mVar j ρ = .ok (m2, y)) : mCall 2 f (mCons (mVar i) (mCons (mVar j) mNil)) ρ = .ok (.fz, .bool b) := by
  rw [z_v0] at h1 h2
  simp [h1, h2, e]
theorem call3g {f : List D → Res D} {x y z : D} {ds : List D} {ρ : Ev} {ma mb mc : Ev → RV} {m1 m2 m3 : Md} (e : f [x, y, z] = .ok (.list ds)) (h1 : ma ρ = .ok (m1, x)) (h2 : mb ρ = .ok (m2, y)) (h3 : mc ρ = .ok (m3, z)) : mCall 3 f (mCons ma (mCons mb (mCons mc mNil))) ρ = .ok (.fr, .list ds) := by
  simp [h1, h2, h3, e]

@[simp] theorem numsD_ints (p : List Int) : numsD (intsD p) = p := by simp [numsD, intsD, Function.comp_def]
theorem getD_int (r : List Int) {i : Nat} (h : i < r.length) : (r.map PyData.int)[i]? = some (.int (r.getD i 0)) := by
  rw [List.getElem?_map, List.getElem?_eq_getElem h, List.getD_eq_getElem?_getD, List.getElem?_eq_getElem h]; rfl
theorem fIx_ints {m m' : Md} (r : List Int) {i : Int} (h : 0 ≤ i) (h2 : i < r.length) : fIx m (intsD r) m' (.int i) = some (.fz, .int (r.getD i.toNat 0)) := by
  have := fIx_some (m := m) (m' := m') (ds := r.map PyData.int) (i := i) (d := .int (r.getD i.toNat 0)) h (by simpa using h2) (getD_int r (by omega))
  rw [show intsD r = .list (r.map PyData.int) from rfl, this]
  simp [elMd]
theorem mComp_map {mi : Ev → RI} {j : Nat} {mt : Ev → Res Bool} {me : Ev → RV} {ρ : Ev} {b : Bool} {items : List (Md × D)} (f : D → D) (hi : mi ρ = .ok (b, items)) (hl : items.length ≤ 16777216)
    (h : ∀ x ∈ items, ∃ y, compBody j mt me ρ x = .ok (some y) ∧ y.2 = f x.2 ∧ dOne y = .ok (true, [y.2])) : mComp mi j mt me ρ = .ok (.fr, .list (items.map fun x => f x.2)) := by
  rw [mComp_ok hi hl (comp_map items [] h)]; simp
theorem range_mem {n : Nat} {x : Md × D} (h : x ∈ rangeD 0 n) : ∃ k : Nat, k < n ∧ x = (.fz, .int k) := by
  obtain ⟨k, hk, rfl⟩ := List.mem_map.mp h
  exact ⟨k, List.mem_range.mp hk, by simp⟩
theorem range_map {α : Type} (n : Nat) (f : D → α) : (rangeD 0 n).map (fun x => f x.2) = (List.range n).map fun k : Nat => f (.int k) := by
  simp [rangeD, Function.comp_def]
theorem map_ints (l : List Nat) (f : Nat → Int) : (l.map fun k => PyData.int (f k)) = (l.map f).map PyData.int := by simp [Function.comp_def]
theorem map_rows {α : Type} (l : List α) (f : α → List Int) : (l.map fun k => intsD (f k)) = (l.map f).map intsD := by simp [Function.comp_def]
theorem fmod_nat (a b : Nat) : ((a : Int)).fmod (b : Int) = ((a % b : Nat) : Int) := by
  rw [Int.fmod_eq_emod_of_nonneg _ (by omega)]; exact (Int.natCast_emod a b).symm
theorem fdiv_nat (a b : Nat) : ((a : Int)).fdiv (b : Int) = ((a / b : Nat) : Int) := by
  rw [Int.fdiv_eq_ediv_of_nonneg _ (by omega)]; exact (Int.natCast_ediv a b).symm
/-- [e for x in range(n)] -/
theorem mComp_range {ma : Ev → RV} {j : Nat} {me : Ev → RV} {ρ : Ev} {md : Md} {n : Nat} (g : Nat → D) (hi : ma ρ = .ok (md, .int n)) (hn : n < 1000000)
    (h : ∀ k, k < n → ∃ m, me (ρ.set j (.fz (.int k))) = .ok (m, g k) ∧ (m = .fz ∨ m = .fr)) : mComp (iR1 ma) j tYesM me ρ = .ok (.fr, .list ((List.range n).map g)) := by
  have key := mComp_map (mi := iR1 ma) (j := j) (mt := tYesM) (me := me) (ρ := ρ) (b := false) (items := rangeD 0 n) (fun d => match d with | .int k => g k.toNat | _ => .none) (iR1_int hi (small_lt (by omega) (by omega))) (by rw [rangeD_len]; omega) (fun x hx => by
    obtain ⟨k, hk, rfl⟩ := range_mem hx
    obtain ⟨m, e, hm⟩ := h k hk
    refine ⟨(m, g k), ?_, by simp, by rcases hm with rfl | rfl <;> rfl⟩
    simp only [compBody, tYesM, z_b1, if_true, z_cl2, e])
  rw [key]
  simp [rangeD, Function.comp_def]
/-- [e for x in range(n) if c] -/
theorem comp_sel {body : Md × D → Res (Option (Md × D))} {g : D → Bool} {f : D → D} : ∀ (items : List (Md × D)) (acc : List D), (∀ x ∈ items, ∃ m, (m = .fz ∨ m = .fr) ∧ body x = .ok (if g x.2 = true then some (m, f x.2) else none)) → compGo body items true acc = .ok (true, acc ++ ((items.map (·.2)).filter g).map f)
  | [], acc, _ => by simp [compGo]
  | x :: r, acc, h => by
    obtain ⟨m, hm, e⟩ := h x List.mem_cons_self
    unfold compGo
    rw [e]
    have ih := fun acc => comp_sel (f := f) (g := g) r acc fun y hy => h y (List.mem_cons_of_mem _ hy)
    cases hg : g x.2 with
    | true =>
      have ed : dOne (m, f x.2) = .ok (true, [f x.2]) := by rcases hm with rfl | rfl <;> rfl
      simp only [if_true, ed, Bool.and_self, ih]
      simp [hg]
    | false =>
      simp only [Bool.false_eq_true, if_false, ih]
      simp [hg]
theorem mComp_rangeF {ma : Ev → RV} {j : Nat} {mt : Ev → Res Bool} {me : Ev → RV} {ρ : Ev} {md : Md} {n : Nat} (c : Nat → Bool) (g : Nat → D) (hi : ma ρ = .ok (md, .int n)) (hn : n < 1000000)
    (ht : ∀ k, k < n → mt (ρ.set j (.fz (.int k))) = .ok (c k)) (h : ∀ k, k < n → c k = true → ∃ m, me (ρ.set j (.fz (.int k))) = .ok (m, g k) ∧ (m = .fz ∨ m = .fr)) : mComp (iR1 ma) j mt me ρ = .ok (.fr, .list (((List.range n).filter c).map g)) := by
  have key := comp_sel (body := compBody j mt me ρ) (g := fun d => match d with | .int k => c k.toNat | _ => false) (f := fun d => match d with | .int k => g k.toNat | _ => .none) (rangeD 0 n) [] (fun x hx => by
    obtain ⟨k, hk, rfl⟩ := range_mem hx
    have e1 := ht k hk
    by_cases hc : c k = true
    · obtain ⟨m, e, hm⟩ := h k hk hc
      refine ⟨m, hm, ?_⟩
      simp only [compBody, z_cl2, e1, z_b1, hc, if_true, e]
      simp [hc]
    · refine ⟨.fz, .inl rfl, ?_⟩
      simp only [compBody, z_cl2, e1, z_b1, if_neg hc]
      simp [hc])
  rw [mComp_ok (iR1_int hi (small_lt (by omega) (by omega))) (by rw [rangeD_len]; simpa using (by omega : n ≤ 16777216)) key]
  simp only [mdL, List.nil_append, if_true]
  have : (rangeD 0 n).map (·.2) = (List.range n).map fun k : Nat => PyData.int (k : Int) := by simp [rangeD, Function.comp_def]
  rw [this, List.filter_map, List.map_map]
  rfl
theorem end_call {r : Res D} : endM ((r.bind fun d => Res.ok (mdOf d, d)).sr retV) = r := by
  cases r with
  | ok d => simp [ret_md]
  | raise c => rfl
  | stuck => rfl
theorem fNotIn_rows (m m' : Md) (w : List Int) (rs : List (List Int)) : fNotIn m (intsD w) m' (.list (rs.map intsD)) = some (.fz, .bool (!rs.any fun z => decide (z = w))) := by
  simp only [fNotIn]
  rw [if_pos (by rw [shaped_ints, shaped_rows]; rfl)]
  rw [List.any_map]
  congr 3
  congr 1
  congr 1
  funext z
  exact eqv_ints z w
theorem fIndex_rows (m m' : Md) (w : List Int) (rs : List (List Int)) : fIndex m (.list (rs.map intsD)) m' (intsD w) = (rs.findIdx? fun z => decide (z = w)).map fun j => (.fz, .int (j : Nat)) := by
  simp only [fIndex]
  rw [if_pos (by rw [shaped_ints, shaped_rows]; rfl)]
  rw [List.findIdx?_map]
  congr 1
  congr 1
  funext z
  exact eqv_ints z w
/-! ### the least row -/
def leR (a b : List Int) : Bool := decide (a ≤ b)
theorem leR_total (a b : List Int) : (leR a b || leR b a) = true := by
  simp only [leR, Bool.or_eq_true, decide_eq_true_eq]; exact List.le_total a b
theorem leR_trans {a b c : List Int} (h : leR a b = true) (k : leR b c = true) : leR a c = true := by
  simp only [leR, decide_eq_true_eq] at *; exact List.le_trans h k
theorem leR_anti {a b : List Int} (h : leR a b = true) (k : leR b a = true) : a = b := by
  simp only [leR, decide_eq_true_eq] at *; exact List.le_antisymm h k
theorem dataLe_ints : PySem.W.dataLe false intsD = leR := PySem.W.dataLe_rows (fun b : List Int => b)
theorem dataLt_ints (a b : List Int) : PySem.W.dataLt (intsD b) (intsD a) = !leR a b := by
  have h := congrFun (congrFun dataLe_ints a) b
  have h2 : PySem.W.dataLe false intsD a b = !PySem.W.dataLt (intsD b) (intsD a) := rfl
  rw [← h, h2, Bool.not_not]
def sortR (rs : List (List Int)) : List (List Int) := rs.mergeSort leR
theorem sort_rows (rs : List (List Int)) : (rs.map intsD).mergeSort (PySem.W.dataLe false id) = (sortR rs).map intsD := by
  unfold sortR
  rw [List.map_mergeSort (r := leR) (s := PySem.W.dataLe false (id : D → D)) (f := intsD) (fun a _ b _ => by rw [← dataLe_ints]; rfl)]
theorem sortR_pair (rs : List (List Int)) : (sortR rs).Pairwise fun a b => leR a b = true := List.pairwise_mergeSort (le := leR) (fun a b c => leR_trans) leR_total rs
theorem sortR_perm (rs : List (List Int)) : (sortR rs).Perm rs := List.mergeSort_perm rs leR
def minR (a : List Int) (rs : List (List Int)) : List Int := rs.foldl (fun a y => if leR a y then a else y) a
theorem minD_rows (a : List Int) (rs : List (List Int)) : PySem.W.minD (intsD a) (rs.map intsD) = intsD (minR a rs) := by
  unfold PySem.W.minD minR
  induction rs generalizing a with
  | nil => rfl
  | cons y rs ih =>
    rw [List.map_cons, List.foldl_cons, List.foldl_cons, dataLt_ints]
    cases h : leR a y with
    | true => simp only [Bool.not_true, Bool.false_eq_true, if_false, if_true]; exact ih a
    | false => simp only [Bool.not_false, if_true, Bool.false_eq_true, if_false]; exact ih y
theorem minR_le (a : List Int) (rs : List (List Int)) : minR a rs ∈ a :: rs ∧ ∀ x ∈ a :: rs, leR (minR a rs) x = true := by
  induction rs generalizing a with
  | nil =>
    refine ⟨List.mem_cons_self, fun x hx => ?_⟩
    rw [List.mem_singleton] at hx
    subst hx
    have := leR_total x x
    simpa [minR] using this
  | cons y rs ih =>
    have e : minR a (y :: rs) = minR (if leR a y then a else y) rs := rfl
    rw [e]
    cases h : leR a y with
    | true =>
      simp only [if_true]
      obtain ⟨h1, h2⟩ := ih a
      refine ⟨?_, fun x hx => ?_⟩
      · rcases List.mem_cons.mp h1 with q | q
        · rw [q]; exact List.mem_cons_self
        · exact List.mem_cons_of_mem _ (List.mem_cons_of_mem _ q)
      · rcases List.mem_cons.mp hx with q | q
        · exact h2 x (by rw [q]; exact List.mem_cons_self)
        · rcases List.mem_cons.mp q with q | q
          · subst q; exact leR_trans (h2 a List.mem_cons_self) h
          · exact h2 x (List.mem_cons_of_mem _ q)
    | false =>
      simp only [Bool.false_eq_true, if_false]
      obtain ⟨h1, h2⟩ := ih y
      have hy : leR y a = true := by have := leR_total a y; rw [h] at this; simpa using this
      refine ⟨List.mem_cons_of_mem _ h1, fun x hx => ?_⟩
      rcases List.mem_cons.mp hx with q | q
      · subst q; exact leR_trans (h2 y List.mem_cons_self) hy
      · exact h2 x q
theorem sortR_head (a : List Int) (rs : List (List Int)) : (sortR (a :: rs))[0]? = some (minR a rs) := by
  cases e : sortR (a :: rs) with
  | nil =>
    have := (sortR_perm (a :: rs)).length_eq
    rw [e] at this
    simp at this
  | cons h t =>
    have hp := sortR_pair (a :: rs)
    rw [e] at hp
    have hm : ∀ x, x ∈ h :: t ↔ x ∈ a :: rs := fun x => by rw [← e]; exact (sortR_perm (a :: rs)).mem_iff
    obtain ⟨h1, h2⟩ := minR_le a rs
    have q1 := h2 h ((hm h).mp List.mem_cons_self)
    have q2 : leR h (minR a rs) = true := by
      rcases List.mem_cons.mp ((hm _).mpr h1) with q | q
      · rw [q]; have := leR_total h h; simpa using this
      · exact (List.pairwise_cons.mp hp).1 _ q
    rw [leR_anti q1 q2]; rfl
theorem alike_rows (rs : List (List Int)) : alikeB (rs.map intsD) = true := by
  unfold alikeB
  rw [List.all_eq_true]
  intro d hd
  rw [List.all_eq_true]
  intro d' hd'
  obtain ⟨a, _, rfl⟩ := List.mem_map.mp hd
  obtain ⟨b, _, rfl⟩ := List.mem_map.mp hd'
  show PySem.W.alike (.list (a.map .int)) (.list (b.map .int)) = true
  rw [PySem.W.alike]
  exact PySem.W.alike_ints a b
theorem sortOk_rows (rs : List (List Int)) (h : rs.length ≤ 16777216) : sortOk (rs.map intsD) = true := by
  unfold sortOk
  simp only [Bool.and_eq_true, Bool.or_eq_true, decide_eq_true_eq, alike_rows, lay_rows, List.length_map]
  have := depth_rows rs
  refine ⟨⟨⟨⟨trivial, .inr ?_⟩, trivial⟩, by omega⟩, h⟩
  rw [List.all_eq_true]
  intro d hd
  obtain ⟨a, _, rfl⟩ := List.mem_map.mp hd
  rfl
theorem minOk_rows (rs : List (List Int)) : minOk (rs.map intsD) = true := by
  unfold minOk
  simp only [Bool.and_eq_true, decide_eq_true_eq, alike_rows, lay_rows]
  have := depth_rows rs
  refine ⟨⟨⟨trivial, ?_⟩, trivial⟩, by omega⟩
  rw [List.all_eq_true]
  intro d hd
  obtain ⟨a, _, rfl⟩ := List.mem_map.mp hd
  rfl
theorem fMin_rows (m : Md) (a : List Int) (rs : List (List Int)) : ∃ md, fMin [(m, .list ((a :: rs).map intsD))] = some (md, intsD (minR a rs)) ∧ (m ≠ .bo → md = .fz) := by
  have h := minOk_rows (a :: rs)
  refine ⟨elMd m (intsD (minR a rs)), ?_, fun hm => by simp [elMd, hm]⟩
  rw [List.map_cons] at h ⊢
  simp only [fMin, h, if_true, minD_rows]
theorem fSorted_rows (m : Md) (rs : List (List Int)) (h : rs.length ≤ 16777216) : fSorted [(m, .list (rs.map intsD))] = some (mdL (elFz m (rs.map intsD)), .list ((sortR rs).map intsD)) := by
  simp only [fSorted, sortOk_rows rs h, if_true, sort_rows]
/-! ### calls, step by step -/
section
variable {f : List D → Res D} {ma mb mc md' : Ev → RV} {ρ : Ev} {m1 m2 m3 m4 : Md} {x y z u : D}
theorem callE1 (h1 : ma ρ = .ok (m1, x)) : mCall 1 f (mCons ma mNil) ρ = (f [x]).bind fun d => .ok (mdOf d, d) := by
  simp only [mCall, mCons, mNil, h1, z_b1, List.length_cons, List.length_nil, List.map_cons, List.map_nil]; rfl
theorem callE2 (h1 : ma ρ = .ok (m1, x)) (h2 : mb ρ = .ok (m2, y)) : mCall 2 f (mCons ma (mCons mb mNil)) ρ = (f [x, y]).bind fun d => .ok (mdOf d, d) := by
  simp only [mCall, mCons, mNil, h1, h2, z_b1, List.length_cons, List.length_nil, List.map_cons, List.map_nil]; rfl
theorem callE3 (h1 : ma ρ = .ok (m1, x)) (h2 : mb ρ = .ok (m2, y)) (h3 : mc ρ = .ok (m3, z)) : mCall 3 f (mCons ma (mCons mb (mCons mc mNil))) ρ = (f [x, y, z]).bind fun d => .ok (mdOf d, d) := by
  simp only [mCall, mCons, mNil, h1, h2, h3, z_b1, List.length_cons, List.length_nil, List.map_cons, List.map_nil]; rfl
theorem callE4 (h1 : ma ρ = .ok (m1, x)) (h2 : mb ρ = .ok (m2, y)) (h3 : mc ρ = .ok (m3, z)) (h4 : md' ρ = .ok (m4, u)) : mCall 4 f (mCons ma (mCons mb (mCons mc (mCons md' mNil)))) ρ = (f [x, y, z, u]).bind fun d => .ok (mdOf d, d) := by
  simp only [mCall, mCons, mNil, h1, h2, h3, h4, z_b1, List.length_cons, List.length_nil, List.map_cons, List.map_nil]; rfl
theorem callE5 {me : Ev → RV} {m5 : Md} {v : D} (h1 : ma ρ = .ok (m1, x)) (h2 : mb ρ = .ok (m2, y)) (h3 : mc ρ = .ok (m3, z)) (h4 : md' ρ = .ok (m4, u)) (h5 : me ρ = .ok (m5, v)) : mCall 5 f (mCons ma (mCons mb (mCons mc (mCons md' (mCons me mNil))))) ρ = (f [x, y, z, u, v]).bind fun d => .ok (mdOf d, d) := by
  simp only [mCall, mCons, mNil, h1, h2, h3, h4, h5, z_b1, List.length_cons, List.length_nil, List.map_cons, List.map_nil]; rfl
theorem biE1 {g : List (Md × D) → Option (Md × D)} (h1 : ma ρ = .ok (m1, x)) : mBi g (mCons ma mNil) ρ = Res.of (g [(m1, x)]) := by
  simp only [mBi, mCons, mNil, h1, z_b1]
theorem binE {g : F2} (h1 : ma ρ = .ok (m1, x)) (h2 : mb ρ = .ok (m2, y)) : mBin g ma mb ρ = Res.of (g m1 x m2 y) := by
  simp only [mBin, h1, h2, z_b1]
theorem seqExp_ok {m : Ev → RV} {n : Ev → SR} {v : Md × D} (h : m ρ = .ok v) : sSeq (sExp m) n ρ = n ρ := by
  simp only [sSeq, sExp, h, z_s1, z_q1]
theorem seqExp_no {m : Ev → RV} {n : Ev → SR} {c : Ex} (h : m ρ = .raise c) : sSeq (sExp m) n ρ = .raise c := by
  simp only [sSeq, sExp, h, z_s2, z_q3]
theorem seqAsg {m : Ev → RV} {n : Ev → SR} {i : Nat} {v : Md × D} {ρ' : Ev} (h : m ρ = .ok v) (h2 : asgV i ρ v = .next ρ') : sSeq (sAsg i m) n ρ = n ρ' := by
  simp only [sSeq, sAsg, h, z_s1, h2, z_q1]
theorem seqIf_next {t : Ev → Res Bool} {p n : Ev → SR} (h : t ρ = .ok false) : sSeq (sIf t p sNext) n ρ = n ρ := by
  simp only [sSeq, sIf, h, z_s1, Bool.false_eq_true, if_false, sNext, z_q1]
theorem seqIf_then {t : Ev → Res Bool} {p q n : Ev → SR} (h : t ρ = .ok true) : sSeq (sIf t p q) n ρ = (p ρ).seq n := by
  simp only [sSeq, sIf, h, z_s1, if_true]
theorem seqIf_else {t : Ev → Res Bool} {p q n : Ev → SR} (h : t ρ = .ok false) : sSeq (sIf t p q) n ρ = (q ρ).seq n := by
  simp only [sSeq, sIf, h, z_s1, Bool.false_eq_true, if_false]
theorem endRet {m : Ev → RV} (r : Res D) (h : m ρ = r.bind fun d => .ok (mdOf d, d)) : endM (sRet m ρ) = r := by
  simp only [sRet, h]; exact end_call
theorem endRet1 {m : Ev → RV} {md : Md} {d : D} (h : m ρ = .ok (md, d)) (hm : md = .fz ∨ md = .fr) : endM (sRet m ρ) = .ok d := by
  simp only [sRet, h, z_s1]
  rcases hm with rfl | rfl <;> rfl
end
theorem forGo_ret {j : Nat} {body : Ev → SR} {x : Md × D} {r : List (Md × D)} {ρ : Ev} {d : D} (h : body (ρ.set j (cellOf x)) = .ret d) : forGo j body (x :: r) ρ = .ret d := by
  unfold forGo; rw [h]
theorem forGo_next {j : Nat} {body : Ev → SR} {x : Md × D} {r : List (Md × D)} {ρ ρ' : Ev} (h : body (ρ.set j (cellOf x)) = .next ρ') : forGo j body (x :: r) ρ = forGo j body r ρ' := by
  conv => lhs; unfold forGo
  rw [h]
theorem ok_dec {p q : Prop} [Decidable p] [Decidable q] (h : p ↔ q) : (Res.ok (decide p) : Res Bool) = .ok (decide q) := congrArg Res.ok (decide_eq_decide.mpr h)
theorem fLen_ints (m : Md) (ns : List Int) : fLen [(m, intsD ns)] = some (.fz, .int ns.length) := by simp [intsD]
theorem dConsE {ma : Ev → RV} {ms : Ev → RD} {ρ : Ev} {m : Md} {d : D} {ds : List D} (h1 : ma ρ = .ok (m, d)) (hm : m = .fz ∨ m = .fr) (h2 : ms ρ = .ok (true, ds)) : dCons ma ms ρ = .ok (true, d :: ds) := by
  unfold dCons
  rw [h1]
  rcases hm with rfl | rfl
  · simp only [z_b1, z_d1, h2]; rfl
  · simp only [z_b1, z_d2, h2]; rfl
theorem lstE {ms : Ev → RD} {ρ : Ev} {ds : List D} (h : ms ρ = .ok (true, ds)) (hl : ds.length ≤ 16777216) : mLst ms ρ = .ok (.fr, .list ds) := by
  rw [z_ls, h, z_b1]
  simp only [if_pos hl]; rfl
theorem seqE {m n : Ev → SR} {ρ ρ' : Ev} (h : m ρ = .next ρ') : sSeq m n ρ = n ρ' := by unfold sSeq; rw [h]; rfl
/-! ### reckoning with numbers -/
section
variable {ma mb : Ev → RV} {ρ : Ev} {m m' : Md} {x y k : Int}
theorem eMod (h : ma ρ = .ok (m, .int x)) (hk : k ≠ 0) : mBin fMod ma (mC (.int k)) ρ = .ok (.fz, .int (x.fmod k)) := by
  rw [binE h (m2 := .fz) (y := .int k) rfl, z_f7, if_pos hk]; rfl
theorem eMod2 (h : ma ρ = .ok (m, .int x)) (h2 : mb ρ = .ok (m', .int k)) (hk : k ≠ 0) : mBin fMod ma mb ρ = .ok (.fz, .int (x.fmod k)) := by
  rw [binE h h2, z_f7, if_pos hk]; rfl
theorem eDiv (h : ma ρ = .ok (m, .int x)) (hk : k ≠ 0 ∧ k.natAbs < 1073741824) : mBin fFdiv ma (mC (.int k)) ρ = .ok (.fz, .int (x.fdiv k)) := by
  rw [binE h (m2 := .fz) (y := .int k) rfl, z_f6, if_pos hk]; rfl
theorem eDiv2 (h : ma ρ = .ok (m, .int x)) (h2 : mb ρ = .ok (m', .int k)) (hk : k ≠ 0 ∧ k.natAbs < 1073741824) : mBin fFdiv ma mb ρ = .ok (.fz, .int (x.fdiv k)) := by
  rw [binE h h2, z_f6, if_pos hk]; rfl
theorem eAdd (h : ma ρ = .ok (m, .int x)) (h2 : mb ρ = .ok (m', .int y)) : mBin fAdd ma mb ρ = .ok (.fz, .int (x + y)) := by
  rw [binE h h2]; rfl
theorem eSub (h : ma ρ = .ok (m, .int x)) (h2 : mb ρ = .ok (m', .int y)) : mBin fSub ma mb ρ = .ok (.fz, .int (x - y)) := by
  rw [binE h h2]; rfl
theorem eMulR (h : ma ρ = .ok (m, .int x)) (hk : inW k = true) : mBin fMul ma (mC (.int k)) ρ = .ok (.fz, .int (x * k)) := by
  rw [binE h (m2 := .fz) (y := .int k) rfl, z_f4, hk, Bool.or_true, if_pos rfl]; rfl
theorem eMulL (h : ma ρ = .ok (m, .int x)) (hk : inW k = true) : mBin fMul (mC (.int k)) ma ρ = .ok (.fz, .int (k * x)) := by
  rw [binE (ma := mC (.int k)) (m1 := .fz) (x := .int k) rfl h, z_f4, hk, Bool.true_or, if_pos rfl]; rfl
theorem eEqC (h : ma ρ = .ok (m, .int x)) : mB (mBin fEq ma (mC (.int k))) ρ = .ok (decide (x = k)) := by
  unfold mB
  rw [binE h (m2 := .fz) (y := .int k) rfl, fEq_int]; rfl
theorem fmod_lt (x : Int) (h : 0 < k) : 0 ≤ x.fmod k ∧ x.fmod k < k := by
  rw [Int.fmod_eq_emod_of_nonneg _ (by omega)]
  exact ⟨Int.emod_nonneg _ (by omega), Int.emod_lt_of_pos _ h⟩
end
theorem cutD_take (ds : List D) (n : Nat) : cutD ds none (some (n : Int)) = ds.take n := by
  unfold cutD
  have : HT.sIx ds.length ds.length (some (n : Int)) = min n ds.length := by
    show (if (n : Int) < 0 then ((n : Int) + (ds.length : Int)).toNat else min (n : Int).toNat ds.length) = _
    rw [if_neg (by omega), Int.toNat_natCast]
  rw [this]
  show (ds.drop 0).take (min n ds.length - 0) = _
  rw [List.drop_zero, Nat.sub_zero]
  by_cases h : n ≤ ds.length
  · rw [Nat.min_eq_left h]
  · rw [Nat.min_eq_right (by omega), List.take_of_length_le (by omega), List.take_of_length_le (by omega)]
/-- x[:n] of a row of ints -/
theorem sl_take {ma : Ev → RV} {mh : Ev → RV} {ρ : Ev} {m mm : Md} {w : List Int} {n : Nat} (h : ma ρ = .ok (m, intsD w)) (hh : mh ρ = .ok (mm, .int (n : Int))) : mSl ma (fun _ => .ok none) (mPart mh) ρ = .ok (.fr, intsD (w.take n)) := by
  have hp : mPart mh ρ = .ok (some (n : Int)) := by rw [z_pv0, hh]; rfl
  rw [z_sv0, h, z_b1, z_b1, hp, z_b1]
  show slV none (some (n : Int)) (m, .list (w.map .int)) = _
  rw [z_sv1, cutD_take]
  have e : (w.map PyData.int).take n = (w.take n).map PyData.int := by rw [List.map_take]
  rw [e]
  have : elFz m ((w.take n).map PyData.int) = true := by cases m <;> first | rfl | exact all_sc _
  rw [this]; rfl
/-- x[n:] -/
theorem sl_drop {ma : Ev → RV} {mh : Ev → RV} {ρ : Ev} {m mm : Md} {w : List Int} {n : Nat} (h : ma ρ = .ok (m, intsD w)) (hh : mh ρ = .ok (mm, .int (n : Int))) (hn : n ≤ w.length) : mSl ma (mPart mh) (fun _ => .ok none) ρ = .ok (.fr, intsD (w.drop n)) := by
  have hp : mPart mh ρ = .ok (some (n : Int)) := by rw [z_pv0, hh]; rfl
  rw [z_sv0, h, z_b1, hp, z_b1, z_b1]
  show slV (some (n : Int)) none (m, .list (w.map .int)) = _
  rw [z_sv1, cutD_lo (by omega) (by rw [List.length_map]; omega), Int.toNat_natCast]
  have e : (w.map PyData.int).drop n = (w.drop n).map PyData.int := by rw [List.map_drop]
  rw [e]
  have : elFz m ((w.drop n).map PyData.int) = true := by cases m <;> first | rfl | exact all_sc _
  rw [this]; rfl
theorem asgE {m : Ev → RV} {i : Nat} {v : Md × D} {ρ ρ' : Ev} (h : m ρ = .ok v) (h2 : asgV i ρ v = .next ρ') : sAsg i m ρ = .next ρ' := by
  unfold sAsg; rw [h]; exact h2
theorem ifE {t : Ev → Res Bool} {m n : Ev → SR} {ρ : Ev} {b : Bool} (h : t ρ = .ok b) : sIf t m n ρ = if b = true then m ρ else n ρ := by
  unfold sIf; rw [h]; rfl
theorem forE {mi : Ev → RI} {j : Nat} {body : Ev → SR} {ρ : Ev} {items : List (Md × D)} (h : mi ρ = .ok (false, items)) : sFor mi j body ρ = forGo j body items ρ := by
  unfold sFor; rw [h]; rfl
theorem fMul_rep (m m' : Md) (w : List Int) (n : Nat) (h : n ≤ 16777216) (h2 : w.length * n ≤ 16777216) : fMul m (intsD w) m' (.int (n : Int)) = some (.fr, intsD (List.replicate n w).flatten) := by
  show fMul m (.list (w.map .int)) m' (.int (n : Int)) = _
  rw [z_f5, if_pos ⟨by omega, Int.le_trans (by decide) (Int.natCast_nonneg _), by rw [List.length_map, Int.toNat_natCast]; exact h2⟩, Int.toNat_natCast]
  have : elFz m (w.map PyData.int) = true := by cases m <;> first | rfl | exact all_sc _
  rw [this]
  unfold intsD
  rw [List.map_flatten, List.map_replicate]
  rfl
/-- one of a display's things, by a number from 0 to 5 -/
theorem pick6 {ms : Ev → RD} {e : Ev → RV} {ρ : Ev} {ds : List D} {m : Md} {x : Int} (h : ms ρ = .ok (true, ds)) (he : e ρ = .ok (m, .int x)) (hl : ds.length = 6) : ∃ (i : Nat) (d : D), i < 6 ∧ ds[i]? = some d ∧ mBin fIx (mLst ms) (mBin fMod e (mC (.int 6))) ρ = .ok (.fz, d) := by
  have h1 := lstE h (by omega)
  have h2 := eMod he (k := 6) (by decide)
  obtain ⟨g1, g2⟩ := fmod_lt x (k := 6) (by omega)
  obtain ⟨i, hi⟩ : ∃ i : Nat, x.fmod 6 = (i : Int) := ⟨(x.fmod 6).toNat, by omega⟩
  rw [hi] at h2
  have hi6 : i < 6 := by omega
  have hd := List.getElem?_eq_getElem (show i < ds.length by omega)
  refine ⟨i, ds[i], hi6, hd, ?_⟩
  rw [binE h1 h2, fIx_some (d := ds[i]) (by omega) (by omega) (by rw [Int.toNat_natCast]; exact hd)]
  simp [elMd]
theorem tupE {ms : Ev → RD} {ρ : Ev} {ds : List D} {b : Bool} (h : ms ρ = .ok (b, ds)) (hl : ds.length ≤ 16777216) : mTup ms ρ = .ok (if b then .fz else .bo, .tuple ds) := by
  rw [z_mt, h, z_b1]
  simp only [if_pos hl]
theorem powE (n k : Int) (ρ : Ev) (h : 0 ≤ k ∧ k ≤ 1000000 ∧ n.natAbs < 2 ^ 64) : mBin fPow (mC (.int n)) (mC (.int k)) ρ = .ok (.fz, .int (n ^ k.toNat)) := by
  rw [binE (m1 := .fz) (x := .int n) rfl (m2 := .fz) (y := .int k) rfl, z_f8, if_pos h]; rfl
theorem truE {e : Ev → RV} {ρ : Ev} {m : Md} {b : Bool} (h : e ρ = .ok (m, .bool b)) : mTru e ρ = .ok b := by
  unfold mTru; rw [h]; rfl
theorem dConsG {ma : Ev → RV} {ms : Ev → RD} {ρ : Ev} {x : Md × D} {b c : Bool} {d : D} {ds : List D} (h1 : ma ρ = .ok x) (h : dOne x = .ok (b, [d])) (h2 : ms ρ = .ok (c, ds)) : dCons ma ms ρ = .ok (b && c, d :: ds) := by
  unfold dCons
  rw [h1, z_b1, h, z_b1, h2, z_b1]
  rfl
theorem endB_tup (b : Bool) (ds : List D) : endB (retV (if b = true then .fz else .bo, .tuple ds)) = .ok (.tuple ds) := by cases b <;> rfl
end L2.Xq
set_option Elab.async false
set_option linter.all false
set_option maxRecDepth 100000
set_option maxHeartbeats 4000000
namespace L2.Xq.Law
open PySem PySem.Spec PyProof.Rows
def top (i : Nat) : Stmt := PySem.Challenge.pw_fullring_k03_rings_read_round.main.body.getD i (.Pass ⟨0, 0, 0, 0⟩)
abbrev st_is_whole : Stmt := top 13
abbrev st_is_row : Stmt := top 14
abbrev st_check_piece : Stmt := top 15
abbrev st_check_ring_size : Stmt := top 17
abbrev st_check_ring_over : Stmt := top 18
abbrev st_check_ring : Stmt := top 19
abbrev st_check_place : Stmt := top 20
abbrev st_read_round : Stmt := top 21
abbrev st_read_all : Stmt := top 22
abbrev st_word_at : Stmt := top 23
abbrev st_words_on : Stmt := top 24
abbrev st_place_of : Stmt := top 25
abbrev st_turned : Stmt := top 26
abbrev st_least_turn : Stmt := top 27
abbrev st_turn_ring : Stmt := top 28
abbrev st__law_cell_at : Stmt := top 30
abbrev st__law_classes : Stmt := top 31
abbrev st__law_ring : Stmt := top 32
abbrev st__law_from : Stmt := top 33
abbrev st__law_asked : Stmt := top 34
abbrev st__law_shortest : Stmt := top 35
abbrev st__law_due : Stmt := top 36
abbrev st__law_kinds : Stmt := top 37
abbrev st__law_refused : Stmt := top 38
abbrev st_law : Stmt := top 39
theorem sc_is_whole : FnScope ["thing", "low", "high"] ["thing", "low", "high"] (defScope st_is_whole) := ⟨rfl, rfl, rfl, by decide +kernel, rfl, by decide +kernel, by decide +kernel⟩
theorem sc_is_row : FnScope ["thing", "most", "signs", "sign"] ["thing", "most", "signs"] (defScope st_is_row) := ⟨rfl, rfl, rfl, by decide +kernel, rfl, by decide +kernel, by decide +kernel⟩
theorem sc_check_piece : FnScope ["signs", "piece"] ["signs", "piece"] (defScope st_check_piece) := ⟨rfl, rfl, rfl, by decide +kernel, rfl, by decide +kernel, by decide +kernel⟩
theorem sc_check_ring_size : FnScope ["size"] ["size"] (defScope st_check_ring_size) := ⟨rfl, rfl, rfl, by decide +kernel, rfl, by decide +kernel, by decide +kernel⟩
theorem sc_check_ring_over : FnScope ["signs", "ring"] ["signs", "ring"] (defScope st_check_ring_over) := ⟨rfl, rfl, rfl, by decide +kernel, rfl, by decide +kernel, by decide +kernel⟩
theorem sc_check_ring : FnScope ["ring"] ["ring"] (defScope st_check_ring) := ⟨rfl, rfl, rfl, by decide +kernel, rfl, by decide +kernel, by decide +kernel⟩
theorem sc_check_place : FnScope ["ring", "place"] ["ring", "place"] (defScope st_check_place) := ⟨rfl, rfl, rfl, by decide +kernel, rfl, by decide +kernel, by decide +kernel⟩
theorem sc_read_round : FnScope ["ring", "many", "place", "step"] ["ring", "many", "place"] (defScope st_read_round) := ⟨rfl, rfl, rfl, by decide +kernel, rfl, by decide +kernel, by decide +kernel⟩
theorem sc_read_all : FnScope ["ring", "many", "place"] ["ring", "many"] (defScope st_read_all) := ⟨rfl, rfl, rfl, by decide +kernel, rfl, by decide +kernel, by decide +kernel⟩
theorem sc_word_at : FnScope ["ring", "size", "place"] ["ring", "size", "place"] (defScope st_word_at) := ⟨rfl, rfl, rfl, by decide +kernel, rfl, by decide +kernel, by decide +kernel⟩
theorem sc_words_on : FnScope ["ring", "size"] ["ring", "size"] (defScope st_words_on) := ⟨rfl, rfl, rfl, by decide +kernel, rfl, by decide +kernel, by decide +kernel⟩
theorem sc_place_of : FnScope ["ring", "word", "standing"] ["ring", "word"] (defScope st_place_of) := ⟨rfl, rfl, rfl, by decide +kernel, rfl, by decide +kernel, by decide +kernel⟩
theorem sc_turned : FnScope ["ring", "place"] ["ring", "place"] (defScope st_turned) := ⟨rfl, rfl, rfl, by decide +kernel, rfl, by decide +kernel, by decide +kernel⟩
theorem sc_least_turn : FnScope ["ring"] ["ring"] (defScope st_least_turn) := ⟨rfl, rfl, rfl, by decide +kernel, rfl, by decide +kernel, by decide +kernel⟩
theorem sc_turn_ring : FnScope ["word", "lengths", "many"] ["word"] (defScope st_turn_ring) := ⟨rfl, rfl, rfl, by decide +kernel, rfl, by decide +kernel, by decide +kernel⟩
theorem sc__law_cell_at : FnScope ["_law_script", "_law_k"] ["_law_script", "_law_k"] (defScope st__law_cell_at) := ⟨rfl, rfl, rfl, by decide +kernel, rfl, by decide +kernel, by decide +kernel⟩
theorem sc__law_classes : FnScope ["_law_e", "_law_found"] ["_law_e"] (defScope st__law_classes) := ⟨rfl, rfl, rfl, by decide +kernel, rfl, by decide +kernel, by decide +kernel⟩
theorem sc__law_ring : FnScope ["_law_script", "_law_cell", "_law_many", "_law_signs", "_law_found", "_law_k", "_law_more"] ["_law_script"] (defScope st__law_ring) := ⟨rfl, rfl, rfl, by decide +kernel, rfl, by decide +kernel, by decide +kernel⟩
theorem sc__law_from : FnScope ["_law_ring_here", "_law_place", "_law_size", "_law_found"] ["_law_ring_here", "_law_place", "_law_size"] (defScope st__law_from) := ⟨rfl, rfl, rfl, by decide +kernel, rfl, by decide +kernel, by decide +kernel⟩
theorem sc__law_asked : FnScope ["_law_way", "_law_ring_here", "_law_size", "_law_place", "_law_word", "_law_e"] ["_law_way", "_law_ring_here", "_law_size", "_law_place", "_law_word"] (defScope st__law_asked) := ⟨rfl, rfl, rfl, by decide +kernel, rfl, by decide +kernel, by decide +kernel⟩
theorem sc__law_shortest : FnScope ["_law_word", "_law_size", "_law_unlike", "_law_k"] ["_law_word"] (defScope st__law_shortest) := ⟨rfl, rfl, rfl, by decide +kernel, rfl, by decide +kernel, by decide +kernel⟩
theorem sc__law_due : FnScope ["_law_ring_here", "_law_size", "_law_place", "_law_word", "_law_words", "_law_turns", "_law_where", "_law_at", "_law_least"] ["_law_ring_here", "_law_size", "_law_place", "_law_word"] (defScope st__law_due) := ⟨rfl, rfl, rfl, by decide +kernel, rfl, by decide +kernel, by decide +kernel⟩
theorem sc__law_kinds : FnScope ["_law_found", "_law_one"] ["_law_found"] (defScope st__law_kinds) := ⟨rfl, rfl, rfl, by decide +kernel, rfl, by decide +kernel, by decide +kernel⟩
theorem sc__law_refused : FnScope ["_law_script", "_law_ring_here", "_law_size", "_law_place", "_law_word", "_law_cell", "_law_flags", "_law_bad", "_law_due_here", "_law_odd", "_law_at", "_law_way", "_law_k"] ["_law_script", "_law_ring_here", "_law_size", "_law_place", "_law_word"] (defScope st__law_refused) := ⟨rfl, rfl, rfl, by decide +kernel, rfl, by decide +kernel, by decide +kernel⟩
theorem sc_law : FnScope ["_law_script", "_law_ring_here", "_law_size", "_law_place", "_law_word", "_law_one", "_law_two", "_law_three", "_law_four", "_law_due_here", "_law_handed", "_law_told", "_law_again", "_law_way"] ["_law_script"] (defScope st_law) := ⟨rfl, rfl, rfl, by decide +kernel, rfl, by decide +kernel, by decide +kernel⟩
def cdL : Ex → Option D
  | .word => some (.tuple [.int 1])
  | .size => some (.tuple [.int 0])
  | .bring => some (.tuple [.int 3])
  | .noword => some (.tuple [.int 4])
  | _ => none
noncomputable def m_is_whole : Ev → SR :=
  (sRet (mAndV (mTy false "int" (mVar 0)) (mChain (fCmp fun i j => decide (i ≤ j)) (fCmp fun i j => decide (i ≤ j)) (mVar 1) (mVar 0) (mVar 2))))
noncomputable def d_is_whole : List D → Res D := runM 0 m_is_whole
noncomputable def m_is_row : Ev → SR :=
  (sSeq (sIf (mOr (mB (mTy true "list" (mVar 0))) (mNot (mB (mChain (fCmp fun i j => decide (i ≤ j)) (fCmp fun i j => decide (i ≤ j)) (mC (.int 1)) (mBi fLen (mCons (mVar 0) mNil)) (mVar 1))))) (sRet (mC (.bool false))) sNext)
  (sRet (mBi fAll (mCons (mComp (iL (mVar 0)) 3 tYesM (mCall 3 d_is_whole (mCons (mVar 3) (mCons (mC (.int 0)) (mCons (mBin fSub (mVar 2) (mC (.int 1))) mNil))))) mNil))))
noncomputable def d_is_row : List D → Res D := runM 1 m_is_row
noncomputable def m_check_piece : Ev → SR :=
  (sIf (mNot (mTru (mCall 3 d_is_row (mCons (mVar 1) (mCons (mC (.int 8)) (mCons (mVar 0) mNil)))))) (fun _ => .raise .word) sNext)
noncomputable def d_check_piece : List D → Res D := runM 0 m_check_piece
noncomputable def m_check_ring_size : Ev → SR :=
  (sIf (mNot (mTru (mCall 3 d_is_whole (mCons (mVar 0) (mCons (mC (.int 1)) (mCons (mC (.int 8)) mNil)))))) (fun _ => .raise .size) sNext)
noncomputable def d_check_ring_size : List D → Res D := runM 0 m_check_ring_size
noncomputable def m_check_ring_over : Ev → SR :=
  (sIf (mNot (mTru (mCall 3 d_is_row (mCons (mVar 1) (mCons (mC (.int 256)) (mCons (mVar 0) mNil)))))) (fun _ => .raise .bring) sNext)
noncomputable def d_check_ring_over : List D → Res D := runM 0 m_check_ring_over
noncomputable def m_check_ring : Ev → SR :=
  (sExp (mCall 2 d_check_ring_over (mCons (mC (.int 9)) (mCons (mVar 0) mNil))))
noncomputable def d_check_ring : List D → Res D := runM 0 m_check_ring
noncomputable def m_check_place : Ev → SR :=
  (sIf (mNot (mTru (mCall 3 d_is_whole (mCons (mVar 1) (mCons (mC (.int 0)) (mCons (mBin fSub (mBi fLen (mCons (mVar 0) mNil)) (mC (.int 1))) mNil)))))) (fun _ => .raise .noword) sNext)
noncomputable def d_check_place : List D → Res D := runM 0 m_check_place
noncomputable def m_read_round : Ev → SR :=
  (sRet (mComp (iR1 (mVar 1)) 3 tYesM (mBin fIx (mVar 0) (mBin fMod (mBin fAdd (mVar 2) (mVar 3)) (mBi fLen (mCons (mVar 0) mNil))))))
noncomputable def d_read_round : List D → Res D := runM 1 m_read_round
noncomputable def m_read_all : Ev → SR :=
  (sRet (mComp (iR1 (mBi fLen (mCons (mVar 0) mNil))) 2 tYesM (mCall 3 d_read_round (mCons (mVar 0) (mCons (mVar 1) (mCons (mVar 2) mNil))))))
noncomputable def d_read_all : List D → Res D := runM 1 m_read_all
noncomputable def m_word_at : Ev → SR :=
  (sSeq (sExp (mCall 1 d_check_ring_size (mCons (mVar 1) mNil)))
  (sSeq (sExp (mCall 1 d_check_ring (mCons (mVar 0) mNil)))
  (sSeq (sExp (mCall 2 d_check_place (mCons (mVar 0) (mCons (mVar 2) mNil))))
  (sRet (mCall 3 d_read_round (mCons (mVar 0) (mCons (mVar 1) (mCons (mVar 2) mNil))))))))
noncomputable def d_word_at : List D → Res D := runM 0 m_word_at
noncomputable def m_words_on : Ev → SR :=
  (sSeq (sExp (mCall 1 d_check_ring_size (mCons (mVar 1) mNil)))
  (sSeq (sExp (mCall 1 d_check_ring (mCons (mVar 0) mNil)))
  (sRet (mCall 2 d_read_all (mCons (mVar 0) (mCons (mVar 1) mNil))))))
noncomputable def d_words_on : List D → Res D := runM 0 m_words_on
noncomputable def m_place_of : Ev → SR :=
  (sSeq (sExp (mCall 2 d_check_piece (mCons (mC (.int 9)) (mCons (mVar 1) mNil))))
  (sSeq (sExp (mCall 1 d_check_ring (mCons (mVar 0) mNil)))
  (sSeq (sAsg 2 (mCall 2 d_read_all (mCons (mVar 0) (mCons (mBi fLen (mCons (mVar 1) mNil)) mNil))))
  (sSeq (sIf (mB (mBin fNotIn (mVar 1) (mVar 2))) (fun _ => .raise .noword) sNext)
  (sRet (mIndex (mVar 2) (mVar 1)))))))
noncomputable def d_place_of : List D → Res D := runM 1 m_place_of
noncomputable def m_turned : Ev → SR :=
  (sSeq (sExp (mCall 1 d_check_ring (mCons (mVar 0) mNil)))
  (sSeq (sExp (mCall 2 d_check_place (mCons (mVar 0) (mCons (mVar 1) mNil))))
  (sRet (mCall 3 d_read_round (mCons (mVar 0) (mCons (mBi fLen (mCons (mVar 0) mNil)) (mCons (mVar 1) mNil)))))))
noncomputable def d_turned : List D → Res D := runM 0 m_turned
noncomputable def m_least_turn : Ev → SR :=
  (sSeq (sExp (mCall 1 d_check_ring (mCons (mVar 0) mNil)))
  (sRet (mBi fMin (mCons (mCall 2 d_read_all (mCons (mVar 0) (mCons (mBi fLen (mCons (mVar 0) mNil)) mNil))) mNil))))
noncomputable def d_least_turn : List D → Res D := runM 0 m_least_turn
noncomputable def m_turn_ring : Ev → SR :=
  (sSeq (sExp (mCall 2 d_check_piece (mCons (mC (.int 9)) (mCons (mVar 0) mNil))))
  (sSeq (sAsg 1 (mComp (iR2 (mC (.int 1)) (mBin fAdd (mBi fLen (mCons (mVar 0) mNil)) (mC (.int 1)))) 2 (mB (mBin fEq (mBin fMul (mSl (mVar 0) (fun _ => .ok none) (mPart (mVar 2))) (mBin fFdiv (mBi fLen (mCons (mVar 0) mNil)) (mVar 2))) (mVar 0))) (mVar 2)))
  (sRet (mSl (mVar 0) (fun _ => .ok none) (mPart (mBin fIx (mVar 1) (mC (.int 0))))))))
noncomputable def d_turn_ring : List D → Res D := runM 2 m_turn_ring
noncomputable def m__law_cell_at (K : PySem.W.Frag) (a : Addr) (ns : List Int) : Ev → SR :=
  (sSeq (sIf (mB (mBin (fCmp fun i j => decide (i < j)) (mVar 1) (mLenS K a ns 0))) (sRet (mIxS K a ns 0 (mVar 1))) sNext)
  (sRet (mC (.int 0))))
noncomputable def d__law_cell_at (K : PySem.W.Frag) (a : Addr) (ns : List Int) : List D → Res D := runS 0 K a ns (m__law_cell_at K a ns)
noncomputable def m__law_classes (c : Ex) (p : Addr) : Ev → SR :=
  (sSeq (sAsg 1 (mBin fAdd (mBin fAdd (mBin fMul (mLst (dCons (mC (.int 0)) dNil)) (mBi fInt (mCons (mIsE p 0 (isSub c .size)) mNil))) (mBin fMul (mLst (dCons (mC (.int 1)) dNil)) (mBi fInt (mCons (mIsE p 0 (isSub c .word)) mNil)))) (mBin fMul (mLst (dCons (mC (.int 2)) dNil)) (mBi fInt (mCons (mIsE p 0 (isSub c .book)) mNil)))))
  (sSeq (sAsg 1 (mBin fAdd (mBin fAdd (mVar 1) (mBin fMul (mLst (dCons (mC (.int 3)) dNil)) (mBi fInt (mCons (mIsE p 0 (isSub c .bring)) mNil)))) (mBin fMul (mLst (dCons (mC (.int 4)) dNil)) (mBi fInt (mCons (mIsE p 0 (isSub c .noword)) mNil)))))
  (sSeq (sAsg 1 (mBin fAdd (mBin fAdd (mVar 1) (mBin fMul (mLst (dCons (mC (.int 5)) dNil)) (mBi fInt (mCons (mIsE p 0 (isSub c .noring)) mNil)))) (mBin fMul (mLst (dCons (mC (.int 6)) dNil)) (mBi fInt (mCons (mIsE p 0 (isSub c .nojoin)) mNil)))))
  (sRet (mBi fTuple (mCons (mBin fMul (mVar 1) (mBi fInt (mCons (mIsE p 0 true) mNil))) mNil))))))
noncomputable def m__law_ring (K : PySem.W.Frag) (a : Addr) (ns : List Int) : Ev → SR :=
  (sSeq (sAsg 1 (mCallS K a ns 0 1 (d__law_cell_at K) (mCons (mC (.int 0)) mNil)))
  (sSeq (sAsg 2 (mBin fAdd (mC (.int 1)) (mBin fMod (mVar 1) (mC (.int 12)))))
  (sSeq (sIf (mB (mBin fEq (mBin fMod (mBin fFdiv (mVar 1) (mC (.int 12))) (mC (.int 9))) (mC (.int 1)))) (sAsg 2 (mBin fAdd (mC (.int 1)) (mBin fMod (mBin fFdiv (mVar 1) (mC (.int 108))) (mC (.int 60))))) sNext)
  (sSeq (sAsg 3 (mBin fAdd (mC (.int 1)) (mBin fMod (mCallS K a ns 0 1 (d__law_cell_at K) (mCons (mC (.int 1)) mNil)) (mC (.int 9)))))
  (sSeq (sAsg 4 (mLst dNil))
  (sSeq (sFor (iR1 (mVar 2)) 5 (sSeq (sAsg 6 (mBin fMod (mBin fMul (mBin fAdd (mCallS K a ns 0 1 (d__law_cell_at K) (mCons (mBin fAdd (mC (.int 6)) (mBin fMod (mVar 5) (mC (.int 20)))) mNil)) (mBin fMul (mC (.int 7919)) (mBin fFdiv (mVar 5) (mC (.int 20))))) (mC (.int 48271))) (mC (.int 2147483647))))
  (sApp 4 (mBin fMod (mBin fFdiv (mVar 6) (mC (.int 9))) (mVar 3)))))
  (sSeq (sIf (mB (mBin fEq (mBin fMod (mBin fFdiv (mCallS K a ns 0 1 (d__law_cell_at K) (mCons (mC (.int 1)) mNil)) (mC (.int 9))) (mC (.int 4))) (mC (.int 1)))) (sAsg 4 (mSl (mBin fMul (mSl (mVar 4) (fun _ => .ok none) (mPart (mC (.int 6)))) (mBin fAdd (mC (.int 2)) (mBin fMod (mBin fFdiv (mCallS K a ns 0 1 (d__law_cell_at K) (mCons (mC (.int 1)) mNil)) (mC (.int 36))) (mC (.int 2))))) (fun _ => .ok none) (mPart (mC (.int 256))))) sNext)
  (sFrz 4 (sRet (mVar 4))))))))))
noncomputable def d__law_ring (K : PySem.W.Frag) (a : Addr) (ns : List Int) : List D → Res D := runS 6 K a ns (m__law_ring K a ns)
noncomputable def m__law_from : Ev → SR :=
  (sSeq (sAsg 3 (mLst dNil))
  (sSeq (sWhile 100000 (mB (mBin (fCmp fun i j => decide (i < j)) (mBi fLen (mCons (mVar 3) mNil)) (mVar 2))) (sSeq (sApp 3 (mBin fIx (mVar 0) (mVar 1)))
  (sSeq (sAsg 1 (mBin fAdd (mVar 1) (mC (.int 1))))
  (sIf (mB (mBin fEq (mVar 1) (mBi fLen (mCons (mVar 0) mNil)))) (sAsg 1 (mC (.int 0))) sNext))))
  (sFrz 3 (sRet (mVar 3)))))
noncomputable def d__law_from : List D → Res D := runM 1 m__law_from
noncomputable def m__law_asked : Ev → SR :=
  (sTry cdL (sSeq (sIf (mB (mBin fEq (mVar 0) (mC (.int 0)))) (sRet (mCall 2 d_words_on (mCons (mVar 1) (mCons (mVar 2) mNil)))) sNext)
  (sSeq (sIf (mB (mBin fEq (mVar 0) (mC (.int 1)))) (sRet (mCall 3 d_word_at (mCons (mVar 1) (mCons (mVar 2) (mCons (mVar 3) mNil))))) sNext)
  (sSeq (sIf (mB (mBin fEq (mVar 0) (mC (.int 2)))) (sRet (mLst (dCons (mCall 2 d_place_of (mCons (mVar 1) (mCons (mVar 4) mNil))) dNil))) sNext)
  (sSeq (sIf (mB (mBin fEq (mVar 0) (mC (.int 3)))) (sRet (mCall 2 d_turned (mCons (mVar 1) (mCons (mVar 3) mNil)))) sNext)
  (sSeq (sIf (mB (mBin fEq (mVar 0) (mC (.int 4)))) (sRet (mCall 1 d_least_turn (mCons (mVar 1) mNil))) sNext)
  (sRet (mCall 1 d_turn_ring (mCons (mVar 4) mNil)))))))))
noncomputable def d__law_asked : List D → Res D := runM 1 m__law_asked
noncomputable def m__law_shortest : Ev → SR :=
  (sSeq (sFor (iR2 (mC (.int 1)) (mBin fAdd (mBi fLen (mCons (mVar 0) mNil)) (mC (.int 1)))) 1 (sSeq (sAsg 2 (mComp (iR1 (mBi fLen (mCons (mVar 0) mNil))) 3 (mB (mBin fNe (mBin fIx (mVar 0) (mVar 3)) (mBin fIx (mVar 0) (mBin fMod (mVar 3) (mVar 1))))) (mVar 3)))
  (sIf (mAnd (mB (mBin fEq (mBin fMod (mBi fLen (mCons (mVar 0) mNil)) (mVar 1)) (mC (.int 0)))) (mB (mBin fEq (mVar 2) (mLst dNil)))) (sRet (mSl (mVar 0) (fun _ => .ok none) (mPart (mVar 1)))) sNext)))
  (sRet (mVar 0)))
noncomputable def d__law_shortest : List D → Res D := runM 3 m__law_shortest
noncomputable def m__law_due : Ev → SR :=
  (sSeq (sAsg 4 (mComp (iR1 (mBi fLen (mCons (mVar 0) mNil))) 7 tYesM (mCall 3 d__law_from (mCons (mVar 0) (mCons (mVar 7) (mCons (mVar 1) mNil))))))
  (sSeq (sAsg 5 (mComp (iR1 (mBi fLen (mCons (mVar 0) mNil))) 7 tYesM (mCall 3 d__law_from (mCons (mVar 0) (mCons (mVar 7) (mCons (mBi fLen (mCons (mVar 0) mNil)) mNil))))))
  (sSeq (sAsg 6 (mTup (dCons (mC (.int 4)) dNil)))
  (sSeq (sFor (iR3 (mBin fSub (mBi fLen (mCons (mVar 0) mNil)) (mC (.int 1))) (mNeg (mC (.int 1))) (mNeg (mC (.int 1)))) 7 (sIf (mB (mBin fEq (mCall 3 d__law_from (mCons (mVar 0) (mCons (mVar 7) (mCons (mBi fLen (mCons (mVar 3) mNil)) mNil)))) (mVar 3))) (sFrz 7 (sAsg 6 (mLst (dCons (mVar 7) dNil)))) sNext))
  (sSeq (sAsg 8 (mBin fIx (mBi fSorted (mCons (mVar 5) mNil)) (mC (.int 0))))
  (sFrz 8 (sFrz 6 (sFrz 4 (sRet (mLst (dCons (mVar 4) (dCons (mBin fIx (mVar 4) (mVar 2)) (dCons (mVar 6) (dCons (mBin fIx (mVar 5) (mVar 2)) (dCons (mVar 8) (dCons (mCall 1 d__law_shortest (mCons (mVar 3) mNil)) dNil))))))))))))))))
noncomputable def d__law_due : List D → Res D := runM 5 m__law_due
noncomputable def m__law_kinds : Ev → SR :=
  (sRet (mAndV (mIsi2 "list" "tuple" (mVar 0)) (mBin fEq (mComp (iLT (mVar 0)) 1 (mTru (mIsi "bool" (mVar 1))) (mVar 1)) (mLst dNil))))
noncomputable def d__law_kinds : List D → Res D := runM 1 m__law_kinds
noncomputable def m__law_refused (K : PySem.W.Frag) (a : Addr) (ns : List Int) : Ev → SR :=
  (sSeq (sAsg 5 (mBin fFdiv (mCallS K a ns 0 1 (d__law_cell_at K) (mCons (mC (.int 4)) mNil)) (mC (.int 15))))
  (sSeq (sAsg 6 (mBin fAdd (mC (.int 1)) (mBin fMod (mCallS K a ns 0 1 (d__law_cell_at K) (mCons (mC (.int 4)) mNil)) (mC (.int 15)))))
  (sSeq (sAsg 7 (mComp (iR1 (mC (.int 4))) 12 tYesM (mBin fEq (mBin fMod (mBin fFdiv (mVar 6) (mBin fIx (mLst (dCons (mC (.int 1)) (dCons (mC (.int 2)) (dCons (mC (.int 4)) (dCons (mC (.int 8)) dNil))))) (mVar 12))) (mC (.int 2))) (mC (.int 1)))))
  (sSeq (sAsg 8 (mCall 4 d__law_due (mCons (mVar 1) (mCons (mVar 2) (mCons (mVar 3) (mCons (mVar 4) mNil))))))
  (sSeq (sAsg 9 (mBin fIx (mLst (dCons (mNeg (mC (.int 1))) (dCons (mC (.int 9)) (dCons (mC (.bool true)) (dCons (mC (.str "0")) (dCons (mC .none) (dCons (mBin fPow (mC (.int 10)) (mC (.int 20))) dNil))))))) (mBin fMod (mVar 5) (mC (.int 6)))))
  (sSeq (sIf (mTru (mBin fIx (mVar 7) (mC (.int 3)))) (sAsg 3 (mBin fIx (mLst (dCons (mNeg (mC (.int 1))) (dCons (mBi fLen (mCons (mVar 1) mNil)) (dCons (mC (.bool true)) (dCons (mC (.str "0")) (dCons (mC .none) (dCons (mBin fAdd (mBi fLen (mCons (mVar 1) mNil)) (mBin fPow (mC (.int 10)) (mC (.int 20)))) dNil))))))) (mBin fMod (mVar 5) (mC (.int 6))))) sNext)
  (sSeq (sIf (mTru (mBin fIx (mVar 7) (mC (.int 0)))) (sAsg 2 (mBin fIx (mLst (dCons (mC (.int 0)) (dCons (mC (.int 9)) (dCons (mC (.bool true)) (dCons (mC (.str "1")) (dCons (mC .none) (dCons (mNeg (mC (.int 1))) dNil))))))) (mBin fMod (mVar 5) (mC (.int 6))))) sNext)
  (sSeq (sIf (mTru (mBin fIx (mVar 7) (mC (.int 1)))) (sSeq (sAsg 10 (mBin fMod (mBin fFdiv (mVar 5) (mC (.int 216))) (mBin fAdd (mBi fLen (mCons (mVar 4) mNil)) (mC (.int 1)))))
  (sFrz 9 (sAsg 4 (mBin fIx (mLst (dCons (mBin fAdd (mBin fAdd (mSl (mVar 4) (fun _ => .ok none) (mPart (mVar 10))) (mLst (dCons (mVar 9) dNil))) (mSl (mVar 4) (mPart (mVar 10)) (fun _ => .ok none))) (dCons (mBi fTuple (mCons (mVar 4) mNil)) (dCons (mLst dNil) (dCons (mBin fMul (mLst (dCons (mC (.int 0)) dNil)) (mC (.int 9))) (dCons (mC .none) (dCons (mC (.str "0")) dNil))))))) (mBin fMod (mBin fFdiv (mVar 5) (mC (.int 6))) (mC (.int 6))))))) sNext)
  (sSeq (sIf (mTru (mBin fIx (mVar 7) (mC (.int 2)))) (sSeq (sAsg 10 (mBin fMod (mBin fFdiv (mVar 5) (mC (.int 216))) (mBin fAdd (mBi fLen (mCons (mVar 1) mNil)) (mC (.int 1)))))
  (sFrz 9 (sAsg 1 (mBin fIx (mLst (dCons (mBin fAdd (mBin fAdd (mSl (mVar 1) (fun _ => .ok none) (mPart (mVar 10))) (mLst (dCons (mVar 9) dNil))) (mSl (mVar 1) (mPart (mVar 10)) (fun _ => .ok none))) (dCons (mBi fTuple (mCons (mVar 1) mNil)) (dCons (mLst dNil) (dCons (mBin fMul (mLst (dCons (mC (.int 0)) dNil)) (mC (.int 257))) (dCons (mC .none) (dCons (mC (.str "0")) dNil))))))) (mBin fMod (mBin fFdiv (mVar 5) (mC (.int 36))) (mC (.int 6))))))) sNext)
  (sSeq (sFor (iR1 (mC (.int 6))) 11 (sFor (iT (mBin fIx (mLst (dCons (mTup (dCons (mC (.int 2)) (dCons (mC (.int 0)) dNil))) (dCons (mTup (dCons (mC (.int 3)) (dCons (mC (.int 2)) (dCons (mC (.int 0)) dNil)))) (dCons (mTup (dCons (mC (.int 2)) (dCons (mC (.int 1)) dNil))) (dCons (mTup (dCons (mC (.int 3)) (dCons (mC (.int 2)) dNil))) (dCons (mTup (dCons (mC (.int 2)) dNil)) (dCons (mTup (dCons (mC (.int 1)) dNil)) dNil))))))) (mVar 11))) 12 (sIf (mTru (mBin fIx (mVar 7) (mVar 12))) (sSetIx 8 (mTup (dCons (mBin fIx (mLst (dCons (mC (.int 0)) (dCons (mC (.int 1)) (dCons (mC (.int 3)) (dCons (mC (.int 4)) dNil))))) (mVar 12)) dNil)) (mVar 11)) sNext)))
  (sFrz 8 (sRet (mTup (dCons (mVar 1) (dCons (mVar 2) (dCons (mVar 3) (dCons (mVar 4) (dCons (mVar 8) dNil))))))))))))))))))
noncomputable def d__law_refused (K : PySem.W.Frag) (a : Addr) (ns : List Int) : List D → Res D := runSB 8 K a ns (m__law_refused K a ns)
structure Txt (K : PySem.W.Frag) (mg : Str → Option Value) where
  κ : Ex → Addr
  D_is_whole : Df K mg "is_whole" st_is_whole ["thing", "low", "high"]
  D_is_row : Df K mg "is_row" st_is_row ["thing", "most", "signs"]
  D_check_piece : Df K mg "check_piece" st_check_piece ["signs", "piece"]
  D_check_ring_size : Df K mg "check_ring_size" st_check_ring_size ["size"]
  D_check_ring_over : Df K mg "check_ring_over" st_check_ring_over ["signs", "ring"]
  D_check_ring : Df K mg "check_ring" st_check_ring ["ring"]
  D_check_place : Df K mg "check_place" st_check_place ["ring", "place"]
  D_read_round : Df K mg "read_round" st_read_round ["ring", "many", "place"]
  D_read_all : Df K mg "read_all" st_read_all ["ring", "many"]
  D_word_at : Df K mg "word_at" st_word_at ["ring", "size", "place"]
  D_words_on : Df K mg "words_on" st_words_on ["ring", "size"]
  D_place_of : Df K mg "place_of" st_place_of ["ring", "word"]
  D_turned : Df K mg "turned" st_turned ["ring", "place"]
  D_least_turn : Df K mg "least_turn" st_least_turn ["ring"]
  D_turn_ring : Df K mg "turn_ring" st_turn_ring ["word"]
  D__law_cell_at : Df K mg "_law_cell_at" st__law_cell_at ["_law_script", "_law_k"]
  D__law_classes : Df K mg "_law_classes" st__law_classes ["_law_e"]
  D__law_ring : Df K mg "_law_ring" st__law_ring ["_law_script"]
  D__law_from : Df K mg "_law_from" st__law_from ["_law_ring_here", "_law_place", "_law_size"]
  D__law_asked : Df K mg "_law_asked" st__law_asked ["_law_way", "_law_ring_here", "_law_size", "_law_place", "_law_word"]
  D__law_shortest : Df K mg "_law_shortest" st__law_shortest ["_law_word"]
  D__law_due : Df K mg "_law_due" st__law_due ["_law_ring_here", "_law_size", "_law_place", "_law_word"]
  D__law_kinds : Df K mg "_law_kinds" st__law_kinds ["_law_found"]
  D__law_refused : Df K mg "_law_refused" st__law_refused ["_law_script", "_law_ring_here", "_law_size", "_law_place", "_law_word"]
  D_law : Df K mg "law" st_law ["_law_script"]
  c_MOST_SIGNS : Ci K mg "MOST_SIGNS" 9
  c_MOST_SIZE : Ci K mg "MOST_SIZE" 8
  c_MOST_WORDS : Ci K mg "MOST_WORDS" 256
  m_ValueError : mg "ValueError" = none
  m_all : mg "all" = none
  m_bool : mg "bool" = none
  m_int : mg "int" = none
  m_isinstance : mg "isinstance" = none
  m_len : mg "len" = none
  m_list : mg "list" = none
  m_min : mg "min" = none
  m_range : mg "range" = none
  m_sorted : mg "sorted" = none
  m_tuple : mg "tuple" = none
  m_type : mg "type" = none
  X_RingError : Xc K mg "RingError" (κ .ring)
  X_BadSize : Xc K mg "BadSize" (κ .size)
  X_BadWord : Xc K mg "BadWord" (κ .word)
  X_BadBook : Xc K mg "BadBook" (κ .book)
  X_BadRing : Xc K mg "BadRing" (κ .bring)
  X_NoWord : Xc K mg "NoWord" (κ .noword)
  X_NoRing : Xc K mg "NoRing" (κ .noring)
  X_NoJoin : Xc K mg "NoJoin" (κ .nojoin)
  R_word : Rc K κ .word
  R_size : Rc K κ .size
  R_bring : Rc K κ .bring
  R_noword : Rc K κ .noword
section
variable {P : Program} {w : World} {K : PySem.W.Frag} {mg : Str → Option Value} {base : Heap}
theorem Txt.exm_all (T : Txt K mg) : ∀ c d, cdL c = some d → PySem.W.exmOne K (.ref (T.κ c)) (.ref (T.κ .ring)) = some true := fun c d h => by
  cases c <;> first
    | cases h; done
    | exact T.R_word.exm
    | exact T.R_size.exm
    | exact T.R_bring.exm
    | exact T.R_noword.exm
theorem okC_word (T : Txt K mg) {cdv : Value} {A : Around} {outer : List Env} {s : Shared} {H : Hp} {E : XK} {p : Addr} {oe : Obj} (hz : Zc (.ref (T.κ .word)) none oe) (hf : ∃ vs, oe.data = .fields vs) :
    SSs T.κ (L2H.cxH (L2.CX P w) P w K mg base ["_law_e", "_law_found"] "_law_classes" (defScope st__law_classes) T.D__law_classes.f cdv A outer s H E (p, oe)) (fun cls d _ H => E cls d H) (defBody st__law_classes) (m__law_classes .word p) :=
  (SSs.cons (SS.asg (i := 1) sc__law_classes.nd rfl (Or.inl rfl) (SE.op o_add s_add (SE.op o_add s_add (SE.op o_mul s_mul (SE.lst (SD.cons SE.intC SD.nil)) (SE.callT call_int1 s_int (by rfl) T.m_int (by decide +kernel) (SA.cons (SE.isE (b := (isSub .word .size)) List.mem_cons_self T.R_word.ec hz hf rfl T.m_isinstance rfl (.inl (by rfl)) (pe_glob rfl T.X_BadSize.g (v := .ref (T.κ .size)) rfl) (fun _ h => h) T.R_word.size) SA.nil))) (SE.op o_mul s_mul (SE.lst (SD.cons SE.intC SD.nil)) (SE.callT call_int1 s_int (by rfl) T.m_int (by decide +kernel) (SA.cons (SE.isE (b := (isSub .word .word)) List.mem_cons_self T.R_word.ec hz hf rfl T.m_isinstance rfl (.inl (by rfl)) (pe_glob rfl T.X_BadWord.g (v := .ref (T.κ .word)) rfl) (fun _ h => h) T.R_word.word) SA.nil)))) (SE.op o_mul s_mul (SE.lst (SD.cons SE.intC SD.nil)) (SE.callT call_int1 s_int (by rfl) T.m_int (by decide +kernel) (SA.cons (SE.isE (b := (isSub .word .book)) List.mem_cons_self T.R_word.ec hz hf rfl T.m_isinstance rfl (.inl (by rfl)) (pe_glob rfl T.X_BadBook.g (v := .ref (T.κ .book)) rfl) (fun _ h => h) T.R_word.book) SA.nil)))))
      (SSs.cons (SS.asg (i := 1) sc__law_classes.nd rfl (Or.inl rfl) (SE.op o_add s_add (SE.op o_add s_add (SE.var (i := 1) (by rfl) (.inl (by rfl))) (SE.op o_mul s_mul (SE.lst (SD.cons SE.intC SD.nil)) (SE.callT call_int1 s_int (by rfl) T.m_int (by decide +kernel) (SA.cons (SE.isE (b := (isSub .word .bring)) List.mem_cons_self T.R_word.ec hz hf rfl T.m_isinstance rfl (.inl (by rfl)) (pe_glob rfl T.X_BadRing.g (v := .ref (T.κ .bring)) rfl) (fun _ h => h) T.R_word.bring) SA.nil)))) (SE.op o_mul s_mul (SE.lst (SD.cons SE.intC SD.nil)) (SE.callT call_int1 s_int (by rfl) T.m_int (by decide +kernel) (SA.cons (SE.isE (b := (isSub .word .noword)) List.mem_cons_self T.R_word.ec hz hf rfl T.m_isinstance rfl (.inl (by rfl)) (pe_glob rfl T.X_NoWord.g (v := .ref (T.κ .noword)) rfl) (fun _ h => h) T.R_word.noword) SA.nil)))))
      (SSs.cons (SS.asg (i := 1) sc__law_classes.nd rfl (Or.inl rfl) (SE.op o_add s_add (SE.op o_add s_add (SE.var (i := 1) (by rfl) (.inl (by rfl))) (SE.op o_mul s_mul (SE.lst (SD.cons SE.intC SD.nil)) (SE.callT call_int1 s_int (by rfl) T.m_int (by decide +kernel) (SA.cons (SE.isE (b := (isSub .word .noring)) List.mem_cons_self T.R_word.ec hz hf rfl T.m_isinstance rfl (.inl (by rfl)) (pe_glob rfl T.X_NoRing.g (v := .ref (T.κ .noring)) rfl) (fun _ h => h) T.R_word.noring) SA.nil)))) (SE.op o_mul s_mul (SE.lst (SD.cons SE.intC SD.nil)) (SE.callT call_int1 s_int (by rfl) T.m_int (by decide +kernel) (SA.cons (SE.isE (b := (isSub .word .nojoin)) List.mem_cons_self T.R_word.ec hz hf rfl T.m_isinstance rfl (.inl (by rfl)) (pe_glob rfl T.X_NoJoin.g (v := .ref (T.κ .nojoin)) rfl) (fun _ h => h) T.R_word.nojoin) SA.nil)))))
      (SSs.one (SS.ret (SE.callT call_tuple_of s_tuple (by rfl) T.m_tuple (by decide +kernel) (SA.cons (SE.op o_mul s_mul (SE.var (i := 1) (by rfl) (.inl (by rfl))) (SE.callT call_int1 s_int (by rfl) T.m_int (by decide +kernel) (SA.cons (SE.isE (b := true) List.mem_cons_self T.R_word.ec hz hf rfl T.m_isinstance rfl (.inl (by rfl)) (pe_bltn rfl T.m_ValueError (by decide +kernel) (v := .ty "ValueError") rfl) (fun _ h => h) T.R_word.value) SA.nil))) SA.nil)))))))
theorem mC_word (p : Addr) : m__law_classes .word p (.adr p :: List.replicate 1 .un) = .ret (.tuple [.int 1]) := by
  simp (config := {decide := true}) [m__law_classes, mIsE, isSub]
theorem okC_size (T : Txt K mg) {cdv : Value} {A : Around} {outer : List Env} {s : Shared} {H : Hp} {E : XK} {p : Addr} {oe : Obj} (hz : Zc (.ref (T.κ .size)) none oe) (hf : ∃ vs, oe.data = .fields vs) :
    SSs T.κ (L2H.cxH (L2.CX P w) P w K mg base ["_law_e", "_law_found"] "_law_classes" (defScope st__law_classes) T.D__law_classes.f cdv A outer s H E (p, oe)) (fun cls d _ H => E cls d H) (defBody st__law_classes) (m__law_classes .size p) :=
  (SSs.cons (SS.asg (i := 1) sc__law_classes.nd rfl (Or.inl rfl) (SE.op o_add s_add (SE.op o_add s_add (SE.op o_mul s_mul (SE.lst (SD.cons SE.intC SD.nil)) (SE.callT call_int1 s_int (by rfl) T.m_int (by decide +kernel) (SA.cons (SE.isE (b := (isSub .size .size)) List.mem_cons_self T.R_size.ec hz hf rfl T.m_isinstance rfl (.inl (by rfl)) (pe_glob rfl T.X_BadSize.g (v := .ref (T.κ .size)) rfl) (fun _ h => h) T.R_size.size) SA.nil))) (SE.op o_mul s_mul (SE.lst (SD.cons SE.intC SD.nil)) (SE.callT call_int1 s_int (by rfl) T.m_int (by decide +kernel) (SA.cons (SE.isE (b := (isSub .size .word)) List.mem_cons_self T.R_size.ec hz hf rfl T.m_isinstance rfl (.inl (by rfl)) (pe_glob rfl T.X_BadWord.g (v := .ref (T.κ .word)) rfl) (fun _ h => h) T.R_size.word) SA.nil)))) (SE.op o_mul s_mul (SE.lst (SD.cons SE.intC SD.nil)) (SE.callT call_int1 s_int (by rfl) T.m_int (by decide +kernel) (SA.cons (SE.isE (b := (isSub .size .book)) List.mem_cons_self T.R_size.ec hz hf rfl T.m_isinstance rfl (.inl (by rfl)) (pe_glob rfl T.X_BadBook.g (v := .ref (T.κ .book)) rfl) (fun _ h => h) T.R_size.book) SA.nil)))))
      (SSs.cons (SS.asg (i := 1) sc__law_classes.nd rfl (Or.inl rfl) (SE.op o_add s_add (SE.op o_add s_add (SE.var (i := 1) (by rfl) (.inl (by rfl))) (SE.op o_mul s_mul (SE.lst (SD.cons SE.intC SD.nil)) (SE.callT call_int1 s_int (by rfl) T.m_int (by decide +kernel) (SA.cons (SE.isE (b := (isSub .size .bring)) List.mem_cons_self T.R_size.ec hz hf rfl T.m_isinstance rfl (.inl (by rfl)) (pe_glob rfl T.X_BadRing.g (v := .ref (T.κ .bring)) rfl) (fun _ h => h) T.R_size.bring) SA.nil)))) (SE.op o_mul s_mul (SE.lst (SD.cons SE.intC SD.nil)) (SE.callT call_int1 s_int (by rfl) T.m_int (by decide +kernel) (SA.cons (SE.isE (b := (isSub .size .noword)) List.mem_cons_self T.R_size.ec hz hf rfl T.m_isinstance rfl (.inl (by rfl)) (pe_glob rfl T.X_NoWord.g (v := .ref (T.κ .noword)) rfl) (fun _ h => h) T.R_size.noword) SA.nil)))))
      (SSs.cons (SS.asg (i := 1) sc__law_classes.nd rfl (Or.inl rfl) (SE.op o_add s_add (SE.op o_add s_add (SE.var (i := 1) (by rfl) (.inl (by rfl))) (SE.op o_mul s_mul (SE.lst (SD.cons SE.intC SD.nil)) (SE.callT call_int1 s_int (by rfl) T.m_int (by decide +kernel) (SA.cons (SE.isE (b := (isSub .size .noring)) List.mem_cons_self T.R_size.ec hz hf rfl T.m_isinstance rfl (.inl (by rfl)) (pe_glob rfl T.X_NoRing.g (v := .ref (T.κ .noring)) rfl) (fun _ h => h) T.R_size.noring) SA.nil)))) (SE.op o_mul s_mul (SE.lst (SD.cons SE.intC SD.nil)) (SE.callT call_int1 s_int (by rfl) T.m_int (by decide +kernel) (SA.cons (SE.isE (b := (isSub .size .nojoin)) List.mem_cons_self T.R_size.ec hz hf rfl T.m_isinstance rfl (.inl (by rfl)) (pe_glob rfl T.X_NoJoin.g (v := .ref (T.κ .nojoin)) rfl) (fun _ h => h) T.R_size.nojoin) SA.nil)))))
      (SSs.one (SS.ret (SE.callT call_tuple_of s_tuple (by rfl) T.m_tuple (by decide +kernel) (SA.cons (SE.op o_mul s_mul (SE.var (i := 1) (by rfl) (.inl (by rfl))) (SE.callT call_int1 s_int (by rfl) T.m_int (by decide +kernel) (SA.cons (SE.isE (b := true) List.mem_cons_self T.R_size.ec hz hf rfl T.m_isinstance rfl (.inl (by rfl)) (pe_bltn rfl T.m_ValueError (by decide +kernel) (v := .ty "ValueError") rfl) (fun _ h => h) T.R_size.value) SA.nil))) SA.nil)))))))
theorem mC_size (p : Addr) : m__law_classes .size p (.adr p :: List.replicate 1 .un) = .ret (.tuple [.int 0]) := by
  simp (config := {decide := true}) [m__law_classes, mIsE, isSub]
theorem okC_bring (T : Txt K mg) {cdv : Value} {A : Around} {outer : List Env} {s : Shared} {H : Hp} {E : XK} {p : Addr} {oe : Obj} (hz : Zc (.ref (T.κ .bring)) none oe) (hf : ∃ vs, oe.data = .fields vs) :
    SSs T.κ (L2H.cxH (L2.CX P w) P w K mg base ["_law_e", "_law_found"] "_law_classes" (defScope st__law_classes) T.D__law_classes.f cdv A outer s H E (p, oe)) (fun cls d _ H => E cls d H) (defBody st__law_classes) (m__law_classes .bring p) :=
  (SSs.cons (SS.asg (i := 1) sc__law_classes.nd rfl (Or.inl rfl) (SE.op o_add s_add (SE.op o_add s_add (SE.op o_mul s_mul (SE.lst (SD.cons SE.intC SD.nil)) (SE.callT call_int1 s_int (by rfl) T.m_int (by decide +kernel) (SA.cons (SE.isE (b := (isSub .bring .size)) List.mem_cons_self T.R_bring.ec hz hf rfl T.m_isinstance rfl (.inl (by rfl)) (pe_glob rfl T.X_BadSize.g (v := .ref (T.κ .size)) rfl) (fun _ h => h) T.R_bring.size) SA.nil))) (SE.op o_mul s_mul (SE.lst (SD.cons SE.intC SD.nil)) (SE.callT call_int1 s_int (by rfl) T.m_int (by decide +kernel) (SA.cons (SE.isE (b := (isSub .bring .word)) List.mem_cons_self T.R_bring.ec hz hf rfl T.m_isinstance rfl (.inl (by rfl)) (pe_glob rfl T.X_BadWord.g (v := .ref (T.κ .word)) rfl) (fun _ h => h) T.R_bring.word) SA.nil)))) (SE.op o_mul s_mul (SE.lst (SD.cons SE.intC SD.nil)) (SE.callT call_int1 s_int (by rfl) T.m_int (by decide +kernel) (SA.cons (SE.isE (b := (isSub .bring .book)) List.mem_cons_self T.R_bring.ec hz hf rfl T.m_isinstance rfl (.inl (by rfl)) (pe_glob rfl T.X_BadBook.g (v := .ref (T.κ .book)) rfl) (fun _ h => h) T.R_bring.book) SA.nil)))))
      (SSs.cons (SS.asg (i := 1) sc__law_classes.nd rfl (Or.inl rfl) (SE.op o_add s_add (SE.op o_add s_add (SE.var (i := 1) (by rfl) (.inl (by rfl))) (SE.op o_mul s_mul (SE.lst (SD.cons SE.intC SD.nil)) (SE.callT call_int1 s_int (by rfl) T.m_int (by decide +kernel) (SA.cons (SE.isE (b := (isSub .bring .bring)) List.mem_cons_self T.R_bring.ec hz hf rfl T.m_isinstance rfl (.inl (by rfl)) (pe_glob rfl T.X_BadRing.g (v := .ref (T.κ .bring)) rfl) (fun _ h => h) T.R_bring.bring) SA.nil)))) (SE.op o_mul s_mul (SE.lst (SD.cons SE.intC SD.nil)) (SE.callT call_int1 s_int (by rfl) T.m_int (by decide +kernel) (SA.cons (SE.isE (b := (isSub .bring .noword)) List.mem_cons_self T.R_bring.ec hz hf rfl T.m_isinstance rfl (.inl (by rfl)) (pe_glob rfl T.X_NoWord.g (v := .ref (T.κ .noword)) rfl) (fun _ h => h) T.R_bring.noword) SA.nil)))))
      (SSs.cons (SS.asg (i := 1) sc__law_classes.nd rfl (Or.inl rfl) (SE.op o_add s_add (SE.op o_add s_add (SE.var (i := 1) (by rfl) (.inl (by rfl))) (SE.op o_mul s_mul (SE.lst (SD.cons SE.intC SD.nil)) (SE.callT call_int1 s_int (by rfl) T.m_int (by decide +kernel) (SA.cons (SE.isE (b := (isSub .bring .noring)) List.mem_cons_self T.R_bring.ec hz hf rfl T.m_isinstance rfl (.inl (by rfl)) (pe_glob rfl T.X_NoRing.g (v := .ref (T.κ .noring)) rfl) (fun _ h => h) T.R_bring.noring) SA.nil)))) (SE.op o_mul s_mul (SE.lst (SD.cons SE.intC SD.nil)) (SE.callT call_int1 s_int (by rfl) T.m_int (by decide +kernel) (SA.cons (SE.isE (b := (isSub .bring .nojoin)) List.mem_cons_self T.R_bring.ec hz hf rfl T.m_isinstance rfl (.inl (by rfl)) (pe_glob rfl T.X_NoJoin.g (v := .ref (T.κ .nojoin)) rfl) (fun _ h => h) T.R_bring.nojoin) SA.nil)))))
      (SSs.one (SS.ret (SE.callT call_tuple_of s_tuple (by rfl) T.m_tuple (by decide +kernel) (SA.cons (SE.op o_mul s_mul (SE.var (i := 1) (by rfl) (.inl (by rfl))) (SE.callT call_int1 s_int (by rfl) T.m_int (by decide +kernel) (SA.cons (SE.isE (b := true) List.mem_cons_self T.R_bring.ec hz hf rfl T.m_isinstance rfl (.inl (by rfl)) (pe_bltn rfl T.m_ValueError (by decide +kernel) (v := .ty "ValueError") rfl) (fun _ h => h) T.R_bring.value) SA.nil))) SA.nil)))))))
theorem mC_bring (p : Addr) : m__law_classes .bring p (.adr p :: List.replicate 1 .un) = .ret (.tuple [.int 3]) := by
  simp (config := {decide := true}) [m__law_classes, mIsE, isSub]
theorem okC_noword (T : Txt K mg) {cdv : Value} {A : Around} {outer : List Env} {s : Shared} {H : Hp} {E : XK} {p : Addr} {oe : Obj} (hz : Zc (.ref (T.κ .noword)) none oe) (hf : ∃ vs, oe.data = .fields vs) :
    SSs T.κ (L2H.cxH (L2.CX P w) P w K mg base ["_law_e", "_law_found"] "_law_classes" (defScope st__law_classes) T.D__law_classes.f cdv A outer s H E (p, oe)) (fun cls d _ H => E cls d H) (defBody st__law_classes) (m__law_classes .noword p) :=
  (SSs.cons (SS.asg (i := 1) sc__law_classes.nd rfl (Or.inl rfl) (SE.op o_add s_add (SE.op o_add s_add (SE.op o_mul s_mul (SE.lst (SD.cons SE.intC SD.nil)) (SE.callT call_int1 s_int (by rfl) T.m_int (by decide +kernel) (SA.cons (SE.isE (b := (isSub .noword .size)) List.mem_cons_self T.R_noword.ec hz hf rfl T.m_isinstance rfl (.inl (by rfl)) (pe_glob rfl T.X_BadSize.g (v := .ref (T.κ .size)) rfl) (fun _ h => h) T.R_noword.size) SA.nil))) (SE.op o_mul s_mul (SE.lst (SD.cons SE.intC SD.nil)) (SE.callT call_int1 s_int (by rfl) T.m_int (by decide +kernel) (SA.cons (SE.isE (b := (isSub .noword .word)) List.mem_cons_self T.R_noword.ec hz hf rfl T.m_isinstance rfl (.inl (by rfl)) (pe_glob rfl T.X_BadWord.g (v := .ref (T.κ .word)) rfl) (fun _ h => h) T.R_noword.word) SA.nil)))) (SE.op o_mul s_mul (SE.lst (SD.cons SE.intC SD.nil)) (SE.callT call_int1 s_int (by rfl) T.m_int (by decide +kernel) (SA.cons (SE.isE (b := (isSub .noword .book)) List.mem_cons_self T.R_noword.ec hz hf rfl T.m_isinstance rfl (.inl (by rfl)) (pe_glob rfl T.X_BadBook.g (v := .ref (T.κ .book)) rfl) (fun _ h => h) T.R_noword.book) SA.nil)))))
      (SSs.cons (SS.asg (i := 1) sc__law_classes.nd rfl (Or.inl rfl) (SE.op o_add s_add (SE.op o_add s_add (SE.var (i := 1) (by rfl) (.inl (by rfl))) (SE.op o_mul s_mul (SE.lst (SD.cons SE.intC SD.nil)) (SE.callT call_int1 s_int (by rfl) T.m_int (by decide +kernel) (SA.cons (SE.isE (b := (isSub .noword .bring)) List.mem_cons_self T.R_noword.ec hz hf rfl T.m_isinstance rfl (.inl (by rfl)) (pe_glob rfl T.X_BadRing.g (v := .ref (T.κ .bring)) rfl) (fun _ h => h) T.R_noword.bring) SA.nil)))) (SE.op o_mul s_mul (SE.lst (SD.cons SE.intC SD.nil)) (SE.callT call_int1 s_int (by rfl) T.m_int (by decide +kernel) (SA.cons (SE.isE (b := (isSub .noword .noword)) List.mem_cons_self T.R_noword.ec hz hf rfl T.m_isinstance rfl (.inl (by rfl)) (pe_glob rfl T.X_NoWord.g (v := .ref (T.κ .noword)) rfl) (fun _ h => h) T.R_noword.noword) SA.nil)))))
      (SSs.cons (SS.asg (i := 1) sc__law_classes.nd rfl (Or.inl rfl) (SE.op o_add s_add (SE.op o_add s_add (SE.var (i := 1) (by rfl) (.inl (by rfl))) (SE.op o_mul s_mul (SE.lst (SD.cons SE.intC SD.nil)) (SE.callT call_int1 s_int (by rfl) T.m_int (by decide +kernel) (SA.cons (SE.isE (b := (isSub .noword .noring)) List.mem_cons_self T.R_noword.ec hz hf rfl T.m_isinstance rfl (.inl (by rfl)) (pe_glob rfl T.X_NoRing.g (v := .ref (T.κ .noring)) rfl) (fun _ h => h) T.R_noword.noring) SA.nil)))) (SE.op o_mul s_mul (SE.lst (SD.cons SE.intC SD.nil)) (SE.callT call_int1 s_int (by rfl) T.m_int (by decide +kernel) (SA.cons (SE.isE (b := (isSub .noword .nojoin)) List.mem_cons_self T.R_noword.ec hz hf rfl T.m_isinstance rfl (.inl (by rfl)) (pe_glob rfl T.X_NoJoin.g (v := .ref (T.κ .nojoin)) rfl) (fun _ h => h) T.R_noword.nojoin) SA.nil)))))
      (SSs.one (SS.ret (SE.callT call_tuple_of s_tuple (by rfl) T.m_tuple (by decide +kernel) (SA.cons (SE.op o_mul s_mul (SE.var (i := 1) (by rfl) (.inl (by rfl))) (SE.callT call_int1 s_int (by rfl) T.m_int (by decide +kernel) (SA.cons (SE.isE (b := true) List.mem_cons_self T.R_noword.ec hz hf rfl T.m_isinstance rfl (.inl (by rfl)) (pe_bltn rfl T.m_ValueError (by decide +kernel) (v := .ty "ValueError") rfl) (fun _ h => h) T.R_noword.value) SA.nil))) SA.nil)))))))
theorem mC_noword (p : Addr) : m__law_classes .noword p (.adr p :: List.replicate 1 .un) = .ret (.tuple [.int 4]) := by
  simp (config := {decide := true}) [m__law_classes, mIsE, isSub]
theorem cls_pe (T : Txt K mg) {N : List Str} {qual : Str} {sc : Scope} {f : Addr} {cdv : Value} {A : Around} {outer : List Env} {s : Shared} {H : Hp} {E : XK} {a : Addr} {oe : Obj} {pn : List (Addr × Obj)} {c : Ex} {dd : D} {i : Nat} {y : Str} {xp yp pos : Pos} {k : Nat} (hz : Zc (.ref (T.κ c)) none oe) (hf : ∃ vs, oe.data = .fields vs) (ec : cdL c = some dd)
    (hr : Room k (A.deeper (envOfC qual sc s.heap.objs.size f cdv))) (hg : Gl (cxOf (L2.CX P w) P w K mg base N qual sc f cdv A outer s H E) "_law_classes") (hN : N[i]? = some y) (hv : Vis sc y) (hd : (y == ("__debug__" : Str)) = false) (hcd : (y == ("__classdict__" : Str)) = false) :
    PE ((cxOf (L2.CX P w) P w K mg base N qual sc f cdv A outer s H E).suite a ((a, oe) :: pn)) (.Call (.Name "_law_classes" xp) [.Name y yp] [] pos) (fun σ H Q => (i < σ.length → σ[i]? = some (some (.ref a))) ∧ ∀ v H' (Sn : Addr → Prop), (∀ b o, H b = some o → H' b = some o) → (∀ b, Sn b → H b = none ∧ ∃ o, H' b = some o) → Rep H' Sn v dd → Q v H') := by
  cases c <;> first
    | (cases ec; done)
    | (cases ec; exact pe_cls (i := i) (κ := T.κ) (k := 1) T.D__law_classes.F sc__law_classes rfl (fun cdv A outer s H E hu => okC_word T hz hf) (mC_word a) hz hf (by have := hr.dp; show (A.deeper (envOfC qual sc s.heap.objs.size f cdv)).depth < _; omega) (by have := hr.un; show (A.deeper (envOfC qual sc s.heap.objs.size f cdv)).units + 200 < _; omega) hg T.D__law_classes.g T.D__law_classes.b hN hv (by decide) hd hcd)
    | (cases ec; exact pe_cls (i := i) (κ := T.κ) (k := 1) T.D__law_classes.F sc__law_classes rfl (fun cdv A outer s H E hu => okC_size T hz hf) (mC_size a) hz hf (by have := hr.dp; show (A.deeper (envOfC qual sc s.heap.objs.size f cdv)).depth < _; omega) (by have := hr.un; show (A.deeper (envOfC qual sc s.heap.objs.size f cdv)).units + 200 < _; omega) hg T.D__law_classes.g T.D__law_classes.b hN hv (by decide) hd hcd)
    | (cases ec; exact pe_cls (i := i) (κ := T.κ) (k := 1) T.D__law_classes.F sc__law_classes rfl (fun cdv A outer s H E hu => okC_bring T hz hf) (mC_bring a) hz hf (by have := hr.dp; show (A.deeper (envOfC qual sc s.heap.objs.size f cdv)).depth < _; omega) (by have := hr.un; show (A.deeper (envOfC qual sc s.heap.objs.size f cdv)).units + 200 < _; omega) hg T.D__law_classes.g T.D__law_classes.b hN hv (by decide) hd hcd)
    | (cases ec; exact pe_cls (i := i) (κ := T.κ) (k := 1) T.D__law_classes.F sc__law_classes rfl (fun cdv A outer s H E hu => okC_noword T hz hf) (mC_noword a) hz hf (by have := hr.dp; show (A.deeper (envOfC qual sc s.heap.objs.size f cdv)).depth < _; omega) (by have := hr.un; show (A.deeper (envOfC qual sc s.heap.objs.size f cdv)).units + 200 < _; omega) hg T.D__law_classes.g T.D__law_classes.b hN hv (by decide) hd hcd)
theorem ok_is_whole (T : Txt K mg) : FnOk P w K mg base (L2.CX P w) 1 T.D_is_whole.f T.D_is_whole.fd ["thing", "low", "high"] (spM T.κ 3 d_is_whole) := by
  have h := fn_M (κ := T.κ) (P := P) (w := w) (mg := mg) (base := base) (k := 0) (m := m_is_whole) T.D_is_whole.F sc_is_whole (fun cdv A outer s H E hr => by
    have hu64 := hu64_of hr; have hu65 := hu65_of hr; have hu1 := hu1_of hr
    exact (SSs.one (SS.ret (SE.and (SE.tyEq rfl T.m_type (by decide +kernel) (SE.var (i := 0) (by rfl) (.inl (by rfl))) rfl T.m_int (by decide +kernel) rfl) (SE.one (SE.chain op_le (s_cmp fun i j => decide (i ≤ j)) op_le (s_cmp fun i j => decide (i ≤ j)) (SE.var (i := 1) (by rfl) (.inl (by rfl))) (SE.var (i := 0) (by rfl) (.inl (by rfl))) (SE.var (i := 2) (by rfl) (.inl (by rfl)))))))))
  exact h
theorem ok_is_row (T : Txt K mg) : FnOk P w K mg base (L2.CX P w) 2 T.D_is_row.f T.D_is_row.fd ["thing", "most", "signs"] (spM T.κ 3 d_is_row) := by
  have h := fn_M (κ := T.κ) (P := P) (w := w) (mg := mg) (base := base) (k := 1) (m := m_is_row) T.D_is_row.F sc_is_row (fun cdv A outer s H E hr => by
    have hu64 := hu64_of hr; have hu65 := hu65_of hr; have hu1 := hu1_of hr
    exact (SSs.cons (SS.ifS (SW.pt (SW.or (ST.tyNe hu1 rfl T.m_type (by decide +kernel) (SE.var (i := 0) (by rfl) (.inl (by rfl))) rfl T.m_list (by decide +kernel) rfl) (SW.or1 (ST.not (ST.chain op_le (s_cmp fun i j => decide (i ≤ j)) op_le (s_cmp fun i j => decide (i ≤ j)) SE.intC (SE.callB call_len_seq s_len (by rfl) T.m_len PySem.boot_len (SA.cons (SE.var (i := 0) (by rfl) (.inl (by rfl))) SA.nil)) (SE.var (i := 1) (by rfl) (.inl (by rfl)))))))) (SSs.one (SS.ret SE.boolC)) SSs.nil)
      (SSs.one (SS.ret (SE.callB (cr_all rfl) s_all (by rfl) T.m_all (by decide +kernel) (SA.cons (SE.comp (j := 3) rfl sc_is_row.nd (SI.list (SE.var (i := 0) (by rfl) (.inl (by rfl)))) (by show BlkOk ["thing", "most", "signs", "sign"] (defScope st_is_row) _ _; exact blkOk_by (by decide +kernel)) (fun _ _ _ _ _ => (pg_name (i := 3) sc_is_row.nd rfl (Or.inl rfl))) (fun _ _ _ _ _ => STs.nil) (fun _ _ _ _ _ => (SE.call (ok_is_whole T) (hr.mono (by decide)) takes_blk (by rfl) T.D_is_whole.g T.D_is_whole.F.kp T.D_is_whole.b (SA.cons (SE.var (i := 3) (by rfl) (.inl (by rfl))) (SA.cons SE.intC (SA.cons (SE.op op_sub s_sub (SE.var (i := 2) (by rfl) (.inr (.inl (by rfl)))) SE.intC) SA.nil)))))) SA.nil))))))
  exact h
theorem ok_check_piece (T : Txt K mg) : FnOk P w K mg base (L2.CX P w) 3 T.D_check_piece.f T.D_check_piece.fd ["signs", "piece"] (spM T.κ 2 d_check_piece) := by
  have h := fn_M (κ := T.κ) (P := P) (w := w) (mg := mg) (base := base) (k := 2) (m := m_check_piece) T.D_check_piece.F sc_check_piece (fun cdv A outer s H E hr => by
    have hu64 := hu64_of hr; have hu65 := hu65_of hr; have hu1 := hu1_of hr
    exact (SSs.one (SS.ifS (ST.not (ST.truth (SE.call (ok_is_row T) (hr.mono (by decide)) (takes_of rfl rfl rfl rfl) (by rfl) T.D_is_row.g T.D_is_row.F.kp T.D_is_row.b (SA.cons (SE.var (i := 1) (by rfl) (.inl (by rfl))) (SA.cons (SE.gint (by rfl) T.c_MOST_SIZE.c) (SA.cons (SE.var (i := 0) (by rfl) (.inl (by rfl))) SA.nil)))))) (SSs.one (SS.raise (c := .word) rfl (takes_of rfl rfl rfl rfl) PySem.F.excBase_ValueError T.X_BadWord.x T.X_BadWord.g T.X_BadWord.k (raises_own T.X_BadWord.s T.X_BadWord.y) rfl)) SSs.nil)))
  exact h
theorem ok_check_ring_size (T : Txt K mg) : FnOk P w K mg base (L2.CX P w) 2 T.D_check_ring_size.f T.D_check_ring_size.fd ["size"] (spM T.κ 1 d_check_ring_size) := by
  have h := fn_M (κ := T.κ) (P := P) (w := w) (mg := mg) (base := base) (k := 1) (m := m_check_ring_size) T.D_check_ring_size.F sc_check_ring_size (fun cdv A outer s H E hr => by
    have hu64 := hu64_of hr; have hu65 := hu65_of hr; have hu1 := hu1_of hr
    exact (SSs.one (SS.ifS (ST.not (ST.truth (SE.call (ok_is_whole T) (hr.mono (by decide)) (takes_of rfl rfl rfl rfl) (by rfl) T.D_is_whole.g T.D_is_whole.F.kp T.D_is_whole.b (SA.cons (SE.var (i := 0) (by rfl) (.inl (by rfl))) (SA.cons SE.intC (SA.cons (SE.gint (by rfl) T.c_MOST_SIZE.c) SA.nil)))))) (SSs.one (SS.raise (c := .size) rfl (takes_of rfl rfl rfl rfl) PySem.F.excBase_ValueError T.X_BadSize.x T.X_BadSize.g T.X_BadSize.k (raises_own T.X_BadSize.s T.X_BadSize.y) rfl)) SSs.nil)))
  exact h
theorem ok_check_ring_over (T : Txt K mg) : FnOk P w K mg base (L2.CX P w) 3 T.D_check_ring_over.f T.D_check_ring_over.fd ["signs", "ring"] (spM T.κ 2 d_check_ring_over) := by
  have h := fn_M (κ := T.κ) (P := P) (w := w) (mg := mg) (base := base) (k := 2) (m := m_check_ring_over) T.D_check_ring_over.F sc_check_ring_over (fun cdv A outer s H E hr => by
    have hu64 := hu64_of hr; have hu65 := hu65_of hr; have hu1 := hu1_of hr
    exact (SSs.one (SS.ifS (ST.not (ST.truth (SE.call (ok_is_row T) (hr.mono (by decide)) (takes_of rfl rfl rfl rfl) (by rfl) T.D_is_row.g T.D_is_row.F.kp T.D_is_row.b (SA.cons (SE.var (i := 1) (by rfl) (.inl (by rfl))) (SA.cons (SE.gint (by rfl) T.c_MOST_WORDS.c) (SA.cons (SE.var (i := 0) (by rfl) (.inl (by rfl))) SA.nil)))))) (SSs.one (SS.raise (c := .bring) rfl (takes_of rfl rfl rfl rfl) PySem.F.excBase_ValueError T.X_BadRing.x T.X_BadRing.g T.X_BadRing.k (raises_own T.X_BadRing.s T.X_BadRing.y) rfl)) SSs.nil)))
  exact h
theorem ok_check_ring (T : Txt K mg) : FnOk P w K mg base (L2.CX P w) 4 T.D_check_ring.f T.D_check_ring.fd ["ring"] (spM T.κ 1 d_check_ring) := by
  have h := fn_M (κ := T.κ) (P := P) (w := w) (mg := mg) (base := base) (k := 3) (m := m_check_ring) T.D_check_ring.F sc_check_ring (fun cdv A outer s H E hr => by
    have hu64 := hu64_of hr; have hu65 := hu65_of hr; have hu1 := hu1_of hr
    exact (SSs.one (SS.exp (SE.call (ok_check_ring_over T) (hr.mono (by decide)) (takes_of rfl rfl rfl rfl) (by rfl) T.D_check_ring_over.g T.D_check_ring_over.F.kp T.D_check_ring_over.b (SA.cons (SE.gint (by rfl) T.c_MOST_SIGNS.c) (SA.cons (SE.var (i := 0) (by rfl) (.inl (by rfl))) SA.nil))))))
  exact h
theorem ok_check_place (T : Txt K mg) : FnOk P w K mg base (L2.CX P w) 2 T.D_check_place.f T.D_check_place.fd ["ring", "place"] (spM T.κ 2 d_check_place) := by
  have h := fn_M (κ := T.κ) (P := P) (w := w) (mg := mg) (base := base) (k := 1) (m := m_check_place) T.D_check_place.F sc_check_place (fun cdv A outer s H E hr => by
    have hu64 := hu64_of hr; have hu65 := hu65_of hr; have hu1 := hu1_of hr
    exact (SSs.one (SS.ifS (ST.not (ST.truth (SE.call (ok_is_whole T) (hr.mono (by decide)) (takes_of rfl rfl rfl rfl) (by rfl) T.D_is_whole.g T.D_is_whole.F.kp T.D_is_whole.b (SA.cons (SE.var (i := 1) (by rfl) (.inl (by rfl))) (SA.cons SE.intC (SA.cons (SE.op op_sub s_sub (SE.callB call_len_seq s_len (by rfl) T.m_len PySem.boot_len (SA.cons (SE.var (i := 0) (by rfl) (.inl (by rfl))) SA.nil)) SE.intC) SA.nil)))))) (SSs.one (SS.raise (c := .noword) rfl (takes_of rfl rfl rfl rfl) PySem.F.excBase_ValueError T.X_NoWord.x T.X_NoWord.g T.X_NoWord.k (raises_own T.X_NoWord.s T.X_NoWord.y) rfl)) SSs.nil)))
  exact h
theorem ok_read_round (T : Txt K mg) : FnOk P w K mg base (L2.CX P w) 1 T.D_read_round.f T.D_read_round.fd ["ring", "many", "place"] (spM T.κ 3 d_read_round) := by
  have h := fn_M (κ := T.κ) (P := P) (w := w) (mg := mg) (base := base) (k := 0) (m := m_read_round) T.D_read_round.F sc_read_round (fun cdv A outer s H E hr => by
    have hu64 := hu64_of hr; have hu65 := hu65_of hr; have hu1 := hu1_of hr
    exact (SSs.one (SS.ret (SE.comp (j := 3) rfl sc_read_round.nd (SI.range1 rfl T.m_range (SE.var (i := 1) (by rfl) (.inl (by rfl)))) (by show BlkOk ["ring", "many", "place", "step"] (defScope st_read_round) _ _; exact blkOk_by (by decide +kernel)) (fun _ _ _ _ _ => (pg_name (i := 3) sc_read_round.nd rfl (Or.inl rfl))) (fun _ _ _ _ _ => STs.nil) (fun _ _ _ _ _ => (SE.ix (SE.var (i := 0) (by rfl) (.inr (.inl (by rfl)))) (SE.op op_modN s_mod (SE.op o_add s_add (SE.var (i := 2) (by rfl) (.inr (.inl (by rfl)))) (SE.var (i := 3) (by rfl) (.inl (by rfl)))) (SE.callB call_len_seq s_len (by rfl) T.m_len PySem.boot_len (SA.cons (SE.var (i := 0) (by rfl) (.inr (.inl (by rfl)))) SA.nil))) (fun _ _ => rfl)))))))
  exact h
theorem ok_read_all (T : Txt K mg) : FnOk P w K mg base (L2.CX P w) 2 T.D_read_all.f T.D_read_all.fd ["ring", "many"] (spM T.κ 2 d_read_all) := by
  have h := fn_M (κ := T.κ) (P := P) (w := w) (mg := mg) (base := base) (k := 1) (m := m_read_all) T.D_read_all.F sc_read_all (fun cdv A outer s H E hr => by
    have hu64 := hu64_of hr; have hu65 := hu65_of hr; have hu1 := hu1_of hr
    exact (SSs.one (SS.ret (SE.comp (j := 2) rfl sc_read_all.nd (SI.range1 rfl T.m_range (SE.callB call_len_seq s_len (by rfl) T.m_len PySem.boot_len (SA.cons (SE.var (i := 0) (by rfl) (.inr (.inl (by rfl)))) SA.nil))) (by show BlkOk ["ring", "many", "place"] (defScope st_read_all) _ _; exact blkOk_by (by decide +kernel)) (fun _ _ _ _ _ => (pg_name (i := 2) sc_read_all.nd rfl (Or.inl rfl))) (fun _ _ _ _ _ => STs.nil) (fun _ _ _ _ _ => (SE.call (ok_read_round T) (hr.mono (by decide)) takes_blk (by rfl) T.D_read_round.g T.D_read_round.F.kp T.D_read_round.b (SA.cons (SE.var (i := 0) (by rfl) (.inr (.inl (by rfl)))) (SA.cons (SE.var (i := 1) (by rfl) (.inr (.inl (by rfl)))) (SA.cons (SE.var (i := 2) (by rfl) (.inl (by rfl))) SA.nil)))))))))
  exact h
theorem ok_word_at (T : Txt K mg) : FnOk P w K mg base (L2.CX P w) 5 T.D_word_at.f T.D_word_at.fd ["ring", "size", "place"] (spM T.κ 3 d_word_at) := by
  have h := fn_M (κ := T.κ) (P := P) (w := w) (mg := mg) (base := base) (k := 4) (m := m_word_at) T.D_word_at.F sc_word_at (fun cdv A outer s H E hr => by
    have hu64 := hu64_of hr; have hu65 := hu65_of hr; have hu1 := hu1_of hr
    exact (SSs.cons (SS.exp (SE.call (ok_check_ring_size T) (hr.mono (by decide)) (takes_of rfl rfl rfl rfl) (by rfl) T.D_check_ring_size.g T.D_check_ring_size.F.kp T.D_check_ring_size.b (SA.cons (SE.var (i := 1) (by rfl) (.inl (by rfl))) SA.nil)))
      (SSs.cons (SS.exp (SE.call (ok_check_ring T) (hr.mono (by decide)) (takes_of rfl rfl rfl rfl) (by rfl) T.D_check_ring.g T.D_check_ring.F.kp T.D_check_ring.b (SA.cons (SE.var (i := 0) (by rfl) (.inl (by rfl))) SA.nil)))
      (SSs.cons (SS.exp (SE.call (ok_check_place T) (hr.mono (by decide)) (takes_of rfl rfl rfl rfl) (by rfl) T.D_check_place.g T.D_check_place.F.kp T.D_check_place.b (SA.cons (SE.var (i := 0) (by rfl) (.inl (by rfl))) (SA.cons (SE.var (i := 2) (by rfl) (.inl (by rfl))) SA.nil))))
      (SSs.one (SS.ret (SE.call (ok_read_round T) (hr.mono (by decide)) (takes_of rfl rfl rfl rfl) (by rfl) T.D_read_round.g T.D_read_round.F.kp T.D_read_round.b (SA.cons (SE.var (i := 0) (by rfl) (.inl (by rfl))) (SA.cons (SE.var (i := 1) (by rfl) (.inl (by rfl))) (SA.cons (SE.var (i := 2) (by rfl) (.inl (by rfl))) SA.nil))))))))))
  exact h
theorem ok_words_on (T : Txt K mg) : FnOk P w K mg base (L2.CX P w) 5 T.D_words_on.f T.D_words_on.fd ["ring", "size"] (spM T.κ 2 d_words_on) := by
  have h := fn_M (κ := T.κ) (P := P) (w := w) (mg := mg) (base := base) (k := 4) (m := m_words_on) T.D_words_on.F sc_words_on (fun cdv A outer s H E hr => by
    have hu64 := hu64_of hr; have hu65 := hu65_of hr; have hu1 := hu1_of hr
    exact (SSs.cons (SS.exp (SE.call (ok_check_ring_size T) (hr.mono (by decide)) (takes_of rfl rfl rfl rfl) (by rfl) T.D_check_ring_size.g T.D_check_ring_size.F.kp T.D_check_ring_size.b (SA.cons (SE.var (i := 1) (by rfl) (.inl (by rfl))) SA.nil)))
      (SSs.cons (SS.exp (SE.call (ok_check_ring T) (hr.mono (by decide)) (takes_of rfl rfl rfl rfl) (by rfl) T.D_check_ring.g T.D_check_ring.F.kp T.D_check_ring.b (SA.cons (SE.var (i := 0) (by rfl) (.inl (by rfl))) SA.nil)))
      (SSs.one (SS.ret (SE.call (ok_read_all T) (hr.mono (by decide)) (takes_of rfl rfl rfl rfl) (by rfl) T.D_read_all.g T.D_read_all.F.kp T.D_read_all.b (SA.cons (SE.var (i := 0) (by rfl) (.inl (by rfl))) (SA.cons (SE.var (i := 1) (by rfl) (.inl (by rfl))) SA.nil))))))))
  exact h
theorem ok_place_of (T : Txt K mg) : FnOk P w K mg base (L2.CX P w) 5 T.D_place_of.f T.D_place_of.fd ["ring", "word"] (spM T.κ 2 d_place_of) := by
  have h := fn_M (κ := T.κ) (P := P) (w := w) (mg := mg) (base := base) (k := 4) (m := m_place_of) T.D_place_of.F sc_place_of (fun cdv A outer s H E hr => by
    have hu64 := hu64_of hr; have hu65 := hu65_of hr; have hu1 := hu1_of hr
    exact (SSs.cons (SS.exp (SE.call (ok_check_piece T) (hr.mono (by decide)) (takes_of rfl rfl rfl rfl) (by rfl) T.D_check_piece.g T.D_check_piece.F.kp T.D_check_piece.b (SA.cons (SE.gint (by rfl) T.c_MOST_SIGNS.c) (SA.cons (SE.var (i := 1) (by rfl) (.inl (by rfl))) SA.nil))))
      (SSs.cons (SS.exp (SE.call (ok_check_ring T) (hr.mono (by decide)) (takes_of rfl rfl rfl rfl) (by rfl) T.D_check_ring.g T.D_check_ring.F.kp T.D_check_ring.b (SA.cons (SE.var (i := 0) (by rfl) (.inl (by rfl))) SA.nil)))
      (SSs.cons (SS.asg (i := 2) sc_place_of.nd rfl (Or.inl rfl) (SE.call (ok_read_all T) (hr.mono (by decide)) (takes_of rfl rfl rfl rfl) (by rfl) T.D_read_all.g T.D_read_all.F.kp T.D_read_all.b (SA.cons (SE.var (i := 0) (by rfl) (.inl (by rfl))) (SA.cons (SE.callB call_len_seq s_len (by rfl) T.m_len PySem.boot_len (SA.cons (SE.var (i := 1) (by rfl) (.inl (by rfl))) SA.nil)) SA.nil))))
      (SSs.cons (SS.ifS (ST.cmp (op_notInD hu65) s_notIn (SE.var (i := 1) (by rfl) (.inl (by rfl))) (SE.var (i := 2) (by rfl) (.inl (by rfl))) (by rfl)) (SSs.one (SS.raise (c := .noword) rfl (takes_of rfl rfl rfl rfl) PySem.F.excBase_ValueError T.X_NoWord.x T.X_NoWord.g T.X_NoWord.k (raises_own T.X_NoWord.s T.X_NoWord.y) rfl)) SSs.nil)
      (SSs.one (SS.ret (SE.index hu65 (SE.var (i := 2) (by rfl) (.inl (by rfl))) (SE.var (i := 1) (by rfl) (.inl (by rfl)))))))))))
  exact h
theorem ok_turned (T : Txt K mg) : FnOk P w K mg base (L2.CX P w) 5 T.D_turned.f T.D_turned.fd ["ring", "place"] (spM T.κ 2 d_turned) := by
  have h := fn_M (κ := T.κ) (P := P) (w := w) (mg := mg) (base := base) (k := 4) (m := m_turned) T.D_turned.F sc_turned (fun cdv A outer s H E hr => by
    have hu64 := hu64_of hr; have hu65 := hu65_of hr; have hu1 := hu1_of hr
    exact (SSs.cons (SS.exp (SE.call (ok_check_ring T) (hr.mono (by decide)) (takes_of rfl rfl rfl rfl) (by rfl) T.D_check_ring.g T.D_check_ring.F.kp T.D_check_ring.b (SA.cons (SE.var (i := 0) (by rfl) (.inl (by rfl))) SA.nil)))
      (SSs.cons (SS.exp (SE.call (ok_check_place T) (hr.mono (by decide)) (takes_of rfl rfl rfl rfl) (by rfl) T.D_check_place.g T.D_check_place.F.kp T.D_check_place.b (SA.cons (SE.var (i := 0) (by rfl) (.inl (by rfl))) (SA.cons (SE.var (i := 1) (by rfl) (.inl (by rfl))) SA.nil))))
      (SSs.one (SS.ret (SE.call (ok_read_round T) (hr.mono (by decide)) (takes_of rfl rfl rfl rfl) (by rfl) T.D_read_round.g T.D_read_round.F.kp T.D_read_round.b (SA.cons (SE.var (i := 0) (by rfl) (.inl (by rfl))) (SA.cons (SE.callB call_len_seq s_len (by rfl) T.m_len PySem.boot_len (SA.cons (SE.var (i := 0) (by rfl) (.inl (by rfl))) SA.nil)) (SA.cons (SE.var (i := 1) (by rfl) (.inl (by rfl))) SA.nil)))))))))
  exact h
theorem ok_least_turn (T : Txt K mg) : FnOk P w K mg base (L2.CX P w) 5 T.D_least_turn.f T.D_least_turn.fd ["ring"] (spM T.κ 1 d_least_turn) := by
  have h := fn_M (κ := T.κ) (P := P) (w := w) (mg := mg) (base := base) (k := 4) (m := m_least_turn) T.D_least_turn.F sc_least_turn (fun cdv A outer s H E hr => by
    have hu64 := hu64_of hr; have hu65 := hu65_of hr; have hu1 := hu1_of hr
    exact (SSs.cons (SS.exp (SE.call (ok_check_ring T) (hr.mono (by decide)) (takes_of rfl rfl rfl rfl) (by rfl) T.D_check_ring.g T.D_check_ring.F.kp T.D_check_ring.b (SA.cons (SE.var (i := 0) (by rfl) (.inl (by rfl))) SA.nil)))
      (SSs.one (SS.ret (SE.callB (cr_minD rfl hu64) s_min (by rfl) T.m_min (by decide +kernel) (SA.cons (SE.call (ok_read_all T) (hr.mono (by decide)) (takes_of rfl rfl rfl rfl) (by rfl) T.D_read_all.g T.D_read_all.F.kp T.D_read_all.b (SA.cons (SE.var (i := 0) (by rfl) (.inl (by rfl))) (SA.cons (SE.callB call_len_seq s_len (by rfl) T.m_len PySem.boot_len (SA.cons (SE.var (i := 0) (by rfl) (.inl (by rfl))) SA.nil)) SA.nil))) SA.nil))))))
  exact h
theorem ok_turn_ring (T : Txt K mg) : FnOk P w K mg base (L2.CX P w) 4 T.D_turn_ring.f T.D_turn_ring.fd ["word"] (spM T.κ 1 d_turn_ring) := by
  have h := fn_M (κ := T.κ) (P := P) (w := w) (mg := mg) (base := base) (k := 3) (m := m_turn_ring) T.D_turn_ring.F sc_turn_ring (fun cdv A outer s H E hr => by
    have hu64 := hu64_of hr; have hu65 := hu65_of hr; have hu1 := hu1_of hr
    exact (SSs.cons (SS.exp (SE.call (ok_check_piece T) (hr.mono (by decide)) (takes_of rfl rfl rfl rfl) (by rfl) T.D_check_piece.g T.D_check_piece.F.kp T.D_check_piece.b (SA.cons (SE.gint (by rfl) T.c_MOST_SIGNS.c) (SA.cons (SE.var (i := 0) (by rfl) (.inr (.inl (by rfl)))) SA.nil))))
      (SSs.cons (SS.asgLc (i := 1) (j := 2) rfl sc_turn_ring.nd rfl rfl (sw_true rfl rfl rfl (by decide +kernel)) (SI.range2 rfl T.m_range SE.intC (SE.op o_add s_add (SE.callB call_len_seq s_len (by rfl) T.m_len PySem.boot_len (SA.cons (SE.var (i := 0) (by rfl) (.inr (.inl (by rfl)))) SA.nil)) SE.intC)) (by show BlkOk ["word", "lengths", "many"] (defScope st_turn_ring) _ _; exact blkOk_by (by decide +kernel)) (fun _ _ _ _ _ => (pg_name (i := 2) sc_turn_ring.nd rfl (Or.inl rfl))) (fun _ _ _ _ _ => (STs.one (ST.cmp (op_eqD hu64) s_eq (SE.op o_mul s_mul (SE.slice (SE.var (i := 0) (by rfl) (.inr (.inl (by rfl)))) SO.no (SO.yes (SE.var (i := 2) (by rfl) (.inl (by rfl))))) (SE.op op_fdivN s_fdiv (SE.callB call_len_seq s_len (by rfl) T.m_len PySem.boot_len (SA.cons (SE.var (i := 0) (by rfl) (.inr (.inl (by rfl)))) SA.nil)) (SE.var (i := 2) (by rfl) (.inl (by rfl))))) (SE.var (i := 0) (by rfl) (.inr (.inl (by rfl)))) (nomark _)))) (fun _ _ _ _ _ => (SE.var (i := 2) (by rfl) (.inl (by rfl)))))
      (SSs.one (SS.ret (SE.slice (SE.var (i := 0) (by rfl) (.inr (.inl (by rfl)))) SO.no (SO.yes (SE.ix (SE.var (i := 1) (by rfl) (.inl (by rfl))) SE.intC (fun _ _ => rfl)))))))))
  exact h
theorem ok__law_cell_at (T : Txt K mg) : FnOk P w K mg base (L2.CX P w) 1 T.D__law_cell_at.f T.D__law_cell_at.fd ["_law_script", "_law_k"] (spS T.κ K 1 (d__law_cell_at K)) := by
  have h := fn_S (κ := T.κ) (P := P) (w := w) (mg := mg) (base := base) (k := 0) (m := m__law_cell_at K) T.D__law_cell_at.F sc__law_cell_at (fun a ns cdv A outer s H E hr => by
    have hu64 := hu64_of hr; have hu65 := hu65_of hr; have hu1 := hu1_of hr
    exact (SSs.cons (SS.ifS (ST.cmp op_lt (s_cmp fun i j => decide (i < j)) (SE.var (i := 1) (by rfl) (.inl (by rfl))) (SE.lenS (p := a) (ns := ns) (i := 0) rfl T.m_len rfl (.inl (by rfl))) (nomark _)) (SSs.one (SS.ret (SE.ixS (p := a) (ns := ns) (i := 0) rfl (.inl (by rfl)) (SE.var (i := 1) (by rfl) (.inl (by rfl))) (fun _ _ => rfl)))) SSs.nil)
      (SSs.one (SS.ret SE.intC))))
  exact h
theorem ok__law_ring (T : Txt K mg) : FnOk P w K mg base (L2.CX P w) 2 T.D__law_ring.f T.D__law_ring.fd ["_law_script"] (spS T.κ K 0 (d__law_ring K)) := by
  have h := fn_S (κ := T.κ) (P := P) (w := w) (mg := mg) (base := base) (k := 1) (m := m__law_ring K) T.D__law_ring.F sc__law_ring (fun a ns cdv A outer s H E hr => by
    have hu64 := hu64_of hr; have hu65 := hu65_of hr; have hu1 := hu1_of hr
    exact (SSs.cons (SS.asg (i := 1) sc__law_ring.nd rfl (Or.inl rfl) (SE.callS (sa := a) (ns := ns) (i := 0) (ok__law_cell_at T) (hr.mono (by decide)) (takes_of rfl rfl rfl rfl) (by rfl) T.D__law_cell_at.g T.D__law_cell_at.F.kp T.D__law_cell_at.b (by rfl) (.inl (by rfl)) (SA.cons SE.intC SA.nil)))
      (SSs.cons (SS.asg (i := 2) sc__law_ring.nd rfl (Or.inl rfl) (SE.op o_add s_add SE.intC (SE.op op_modN s_mod (SE.var (i := 1) (by rfl) (.inl (by rfl))) SE.intC)))
      (SSs.cons (SS.ifS (ST.cmp (op_eqD hu64) s_eq (SE.op op_modN s_mod (SE.op op_fdivN s_fdiv (SE.var (i := 1) (by rfl) (.inl (by rfl))) SE.intC) SE.intC) SE.intC (nomark _)) (SSs.one (SS.asg (i := 2) sc__law_ring.nd rfl (Or.inl rfl) (SE.op o_add s_add SE.intC (SE.op op_modN s_mod (SE.op op_fdivN s_fdiv (SE.var (i := 1) (by rfl) (.inl (by rfl))) SE.intC) SE.intC)))) SSs.nil)
      (SSs.cons (SS.asg (i := 3) sc__law_ring.nd rfl (Or.inl rfl) (SE.op o_add s_add SE.intC (SE.op op_modN s_mod (SE.callS (sa := a) (ns := ns) (i := 0) (ok__law_cell_at T) (hr.mono (by decide)) (takes_of rfl rfl rfl rfl) (by rfl) T.D__law_cell_at.g T.D__law_cell_at.F.kp T.D__law_cell_at.b (by rfl) (.inl (by rfl)) (SA.cons SE.intC SA.nil)) SE.intC)))
      (SSs.cons (SS.asg (i := 4) sc__law_ring.nd rfl (Or.inl rfl) (SE.lst SD.nil))
      (SSs.cons (SS.forS (j := 5) (passes_of rfl) rfl (SI.range1 rfl T.m_range (SE.var (i := 2) (by rfl) (.inl (by rfl)))) (pg_name (i := 5) sc__law_ring.nd rfl (Or.inl rfl)) (SSs.cons (SS.asg (i := 6) sc__law_ring.nd rfl (Or.inl rfl) (SE.op op_modN s_mod (SE.op o_mul s_mul (SE.op o_add s_add (SE.callS (sa := a) (ns := ns) (i := 0) (ok__law_cell_at T) (hr.mono (by decide)) (takes_of rfl rfl rfl rfl) (by rfl) T.D__law_cell_at.g T.D__law_cell_at.F.kp T.D__law_cell_at.b (by rfl) (.inl (by rfl)) (SA.cons (SE.op o_add s_add SE.intC (SE.op op_modN s_mod (SE.var (i := 5) (by rfl) (.inl (by rfl))) SE.intC)) SA.nil)) (SE.op o_mul s_mul SE.intC (SE.op op_fdivN s_fdiv (SE.var (i := 5) (by rfl) (.inl (by rfl))) SE.intC))) SE.intC) SE.intC))
      (SSs.one (SS.append (i := 4) rfl (.inl (by rfl)) (SE.op op_modN s_mod (SE.op op_fdivN s_fdiv (SE.var (i := 6) (by rfl) (.inl (by rfl))) SE.intC) (SE.var (i := 3) (by rfl) (.inl (by rfl))))))))
      (SSs.cons (SS.ifS (ST.cmp (op_eqD hu64) s_eq (SE.op op_modN s_mod (SE.op op_fdivN s_fdiv (SE.callS (sa := a) (ns := ns) (i := 0) (ok__law_cell_at T) (hr.mono (by decide)) (takes_of rfl rfl rfl rfl) (by rfl) T.D__law_cell_at.g T.D__law_cell_at.F.kp T.D__law_cell_at.b (by rfl) (.inl (by rfl)) (SA.cons SE.intC SA.nil)) SE.intC) SE.intC) SE.intC (nomark _)) (SSs.one (SS.asg (i := 4) sc__law_ring.nd rfl (Or.inl rfl) (SE.slice (SE.op o_mul s_mul (SE.slice (SE.var (i := 4) (by rfl) (.inl (by rfl))) SO.no (SO.yes SE.intC)) (SE.op o_add s_add SE.intC (SE.op op_modN s_mod (SE.op op_fdivN s_fdiv (SE.callS (sa := a) (ns := ns) (i := 0) (ok__law_cell_at T) (hr.mono (by decide)) (takes_of rfl rfl rfl rfl) (by rfl) T.D__law_cell_at.g T.D__law_cell_at.F.kp T.D__law_cell_at.b (by rfl) (.inl (by rfl)) (SA.cons SE.intC SA.nil)) SE.intC) SE.intC))) SO.no (SO.yes SE.intC)))) SSs.nil)
      (SSs.one (SS.frz 4 (SS.ret (SE.var (i := 4) (by rfl) (.inl (by rfl))))))))))))))
  exact h
theorem ok__law_from (T : Txt K mg) : FnOk P w K mg base (L2.CX P w) 1 T.D__law_from.f T.D__law_from.fd ["_law_ring_here", "_law_place", "_law_size"] (spM T.κ 3 d__law_from) := by
  have h := fn_M (κ := T.κ) (P := P) (w := w) (mg := mg) (base := base) (k := 0) (m := m__law_from) T.D__law_from.F sc__law_from (fun cdv A outer s H E hr => by
    have hu64 := hu64_of hr; have hu65 := hu65_of hr; have hu1 := hu1_of hr
    exact (SSs.cons (SS.asg (i := 3) sc__law_from.nd rfl (Or.inl rfl) (SE.lst SD.nil))
      (SSs.cons (SS.whileS 100000 (passes_of rfl) (ST.cmp op_lt (s_cmp fun i j => decide (i < j)) (SE.callB call_len_seq s_len (by rfl) T.m_len PySem.boot_len (SA.cons (SE.var (i := 3) (by rfl) (.inl (by rfl))) SA.nil)) (SE.var (i := 2) (by rfl) (.inl (by rfl))) (nomark _)) (SSs.cons (SS.append (i := 3) rfl (.inl (by rfl)) (SE.ix (SE.var (i := 0) (by rfl) (.inl (by rfl))) (SE.var (i := 1) (by rfl) (.inl (by rfl))) (fun _ _ => rfl)))
      (SSs.cons (SS.asg (i := 1) sc__law_from.nd rfl (Or.inl rfl) (SE.op o_add s_add (SE.var (i := 1) (by rfl) (.inl (by rfl))) SE.intC))
      (SSs.one (SS.ifS (ST.cmp (op_eqD hu64) s_eq (SE.var (i := 1) (by rfl) (.inl (by rfl))) (SE.callB call_len_seq s_len (by rfl) T.m_len PySem.boot_len (SA.cons (SE.var (i := 0) (by rfl) (.inl (by rfl))) SA.nil)) (nomark _)) (SSs.one (SS.asg (i := 1) sc__law_from.nd rfl (Or.inl rfl) SE.intC)) SSs.nil)))))
      (SSs.one (SS.frz 3 (SS.ret (SE.var (i := 3) (by rfl) (.inl (by rfl)))))))))
  exact h
theorem ok__law_asked (T : Txt K mg) : FnOk P w K mg base (L2.CX P w) 6 T.D__law_asked.f T.D__law_asked.fd ["_law_way", "_law_ring_here", "_law_size", "_law_place", "_law_word"] (spM T.κ 5 d__law_asked) := by
  have h := fn_M (κ := T.κ) (P := P) (w := w) (mg := mg) (base := base) (k := 5) (m := m__law_asked) T.D__law_asked.F sc__law_asked (fun cdv A outer s H E hr => by
    have hu64 := hu64_of hr; have hu65 := hu65_of hr; have hu1 := hu1_of hr
    exact (SSs.one (SS.tryC (i := 5) (cd := cdL) rfl rfl sc__law_asked.nd rfl rfl ⟨rfl, by decide, Or.inl T.X_RingError.g⟩ (takes_of rfl rfl rfl rfl)
      (fun c d h => T.exm_all c d h)
      (fun Wt pnt xet tkt pot => (SSs.cons (SS.ifS (ST.cmp (op_eqD hu64) s_eq (SE.var (i := 0) (by rfl) (.inl (by rfl))) SE.intC (nomark _)) (SSs.one (SS.ret (SE.call (ok_words_on T) (hr.mono (by decide)) tkt (by rfl) T.D_words_on.g T.D_words_on.F.kp T.D_words_on.b (SA.cons (SE.var (i := 1) (by rfl) (.inl (by rfl))) (SA.cons (SE.var (i := 2) (by rfl) (.inl (by rfl))) SA.nil))))) SSs.nil)
      (SSs.cons (SS.ifS (ST.cmp (op_eqD hu64) s_eq (SE.var (i := 0) (by rfl) (.inl (by rfl))) SE.intC (nomark _)) (SSs.one (SS.ret (SE.call (ok_word_at T) (hr.mono (by decide)) tkt (by rfl) T.D_word_at.g T.D_word_at.F.kp T.D_word_at.b (SA.cons (SE.var (i := 1) (by rfl) (.inl (by rfl))) (SA.cons (SE.var (i := 2) (by rfl) (.inl (by rfl))) (SA.cons (SE.var (i := 3) (by rfl) (.inl (by rfl))) SA.nil)))))) SSs.nil)
      (SSs.cons (SS.ifS (ST.cmp (op_eqD hu64) s_eq (SE.var (i := 0) (by rfl) (.inl (by rfl))) SE.intC (nomark _)) (SSs.one (SS.ret (SE.lst (SD.cons (SE.call (ok_place_of T) (hr.mono (by decide)) tkt (by rfl) T.D_place_of.g T.D_place_of.F.kp T.D_place_of.b (SA.cons (SE.var (i := 1) (by rfl) (.inl (by rfl))) (SA.cons (SE.var (i := 4) (by rfl) (.inl (by rfl))) SA.nil))) SD.nil)))) SSs.nil)
      (SSs.cons (SS.ifS (ST.cmp (op_eqD hu64) s_eq (SE.var (i := 0) (by rfl) (.inl (by rfl))) SE.intC (nomark _)) (SSs.one (SS.ret (SE.call (ok_turned T) (hr.mono (by decide)) tkt (by rfl) T.D_turned.g T.D_turned.F.kp T.D_turned.b (SA.cons (SE.var (i := 1) (by rfl) (.inl (by rfl))) (SA.cons (SE.var (i := 3) (by rfl) (.inl (by rfl))) SA.nil))))) SSs.nil)
      (SSs.cons (SS.ifS (ST.cmp (op_eqD hu64) s_eq (SE.var (i := 0) (by rfl) (.inl (by rfl))) SE.intC (nomark _)) (SSs.one (SS.ret (SE.call (ok_least_turn T) (hr.mono (by decide)) tkt (by rfl) T.D_least_turn.g T.D_least_turn.F.kp T.D_least_turn.b (SA.cons (SE.var (i := 1) (by rfl) (.inl (by rfl))) SA.nil)))) SSs.nil)
      (SSs.one (SS.ret (SE.call (ok_turn_ring T) (hr.mono (by decide)) tkt (by rfl) T.D_turn_ring.g T.D_turn_ring.F.kp T.D_turn_ring.b (SA.cons (SE.var (i := 4) (by rfl) (.inl (by rfl))) SA.nil))))))))))
      (fun a oe cls d pn hz hf => suite_of hz (fun c dd ec hz => cls_pe T hz hf ec hr (by rfl) (by rfl) (Or.inl (by rfl)) (by decide) (by decide))))))
  exact h
theorem ok__law_shortest (T : Txt K mg) : FnOk P w K mg base (L2.CX P w) 1 T.D__law_shortest.f T.D__law_shortest.fd ["_law_word"] (spM T.κ 1 d__law_shortest) := by
  have h := fn_M (κ := T.κ) (P := P) (w := w) (mg := mg) (base := base) (k := 0) (m := m__law_shortest) T.D__law_shortest.F sc__law_shortest (fun cdv A outer s H E hr => by
    have hu64 := hu64_of hr; have hu65 := hu65_of hr; have hu1 := hu1_of hr
    exact (SSs.cons (SS.forS (j := 1) (passes_of rfl) rfl (SI.range2 rfl T.m_range SE.intC (SE.op o_add s_add (SE.callB call_len_seq s_len (by rfl) T.m_len PySem.boot_len (SA.cons (SE.var (i := 0) (by rfl) (.inr (.inl (by rfl)))) SA.nil)) SE.intC)) (pg_name (i := 1) sc__law_shortest.nd rfl (Or.inr rfl)) (SSs.cons (SS.asgLc (i := 2) (j := 3) rfl sc__law_shortest.nd rfl rfl (sw_true rfl rfl rfl (by decide +kernel)) (SI.range1 rfl T.m_range (SE.callB call_len_seq s_len (by rfl) T.m_len PySem.boot_len (SA.cons (SE.var (i := 0) (by rfl) (.inr (.inl (by rfl)))) SA.nil))) (by show BlkOk ["_law_word", "_law_size", "_law_unlike", "_law_k"] (defScope st__law_shortest) _ _; exact blkOk_by (by decide +kernel)) (fun _ _ _ _ _ => (pg_name (i := 3) sc__law_shortest.nd rfl (Or.inl rfl))) (fun _ _ _ _ _ => (STs.one (ST.cmp (op_neD hu64) s_ne (SE.ix (SE.var (i := 0) (by rfl) (.inr (.inl (by rfl)))) (SE.var (i := 3) (by rfl) (.inl (by rfl))) (fun _ _ => rfl)) (SE.ix (SE.var (i := 0) (by rfl) (.inr (.inl (by rfl)))) (SE.op op_modN s_mod (SE.var (i := 3) (by rfl) (.inl (by rfl))) (SE.var (i := 1) (by rfl) (.inr (.inl (by rfl))))) (fun _ _ => rfl)) (nomark _)))) (fun _ _ _ _ _ => (SE.var (i := 3) (by rfl) (.inl (by rfl)))))
      (SSs.one (SS.ifS (SW.pt (SW.and (ST.cmp (op_eqD hu64) s_eq (SE.op op_modN s_mod (SE.callB call_len_seq s_len (by rfl) T.m_len PySem.boot_len (SA.cons (SE.var (i := 0) (by rfl) (.inr (.inl (by rfl)))) SA.nil)) (SE.var (i := 1) (by rfl) (.inr (.inl (by rfl))))) SE.intC (nomark _)) (SW.and1 (ST.cmp (op_eqD hu64) s_eq (SE.var (i := 2) (by rfl) (.inl (by rfl))) (SE.lst SD.nil) (nomark _))))) (SSs.one (SS.ret (SE.slice (SE.var (i := 0) (by rfl) (.inr (.inl (by rfl)))) SO.no (SO.yes (SE.var (i := 1) (by rfl) (.inr (.inl (by rfl)))))))) SSs.nil))))
      (SSs.one (SS.ret (SE.var (i := 0) (by rfl) (.inr (.inl (by rfl))))))))
  exact h
theorem ok__law_due (T : Txt K mg) : FnOk P w K mg base (L2.CX P w) 2 T.D__law_due.f T.D__law_due.fd ["_law_ring_here", "_law_size", "_law_place", "_law_word"] (spM T.κ 4 d__law_due) := by
  have h := fn_M (κ := T.κ) (P := P) (w := w) (mg := mg) (base := base) (k := 1) (m := m__law_due) T.D__law_due.F sc__law_due (fun cdv A outer s H E hr => by
    have hu64 := hu64_of hr; have hu65 := hu65_of hr; have hu1 := hu1_of hr
    exact (SSs.cons (SS.asgLc (i := 4) (j := 7) rfl sc__law_due.nd rfl rfl (sw_true rfl rfl rfl (by decide +kernel)) (SI.range1 rfl T.m_range (SE.callB call_len_seq s_len (by rfl) T.m_len PySem.boot_len (SA.cons (SE.var (i := 0) (by rfl) (.inr (.inl (by rfl)))) SA.nil))) (by show BlkOk ["_law_ring_here", "_law_size", "_law_place", "_law_word", "_law_words", "_law_turns", "_law_where", "_law_at", "_law_least"] (defScope st__law_due) _ _; exact blkOk_by (by decide +kernel)) (fun _ _ _ _ _ => (pg_name (i := 7) sc__law_due.nd rfl (Or.inl rfl))) (fun _ _ _ _ _ => STs.nil) (fun _ _ _ _ _ => (SE.call (ok__law_from T) (hr.mono (by decide)) takes_blk (by rfl) T.D__law_from.g T.D__law_from.F.kp T.D__law_from.b (SA.cons (SE.var (i := 0) (by rfl) (.inr (.inl (by rfl)))) (SA.cons (SE.var (i := 7) (by rfl) (.inl (by rfl))) (SA.cons (SE.var (i := 1) (by rfl) (.inr (.inl (by rfl)))) SA.nil))))))
      (SSs.cons (SS.asgLc (i := 5) (j := 7) rfl sc__law_due.nd rfl rfl (sw_true rfl rfl rfl (by decide +kernel)) (SI.range1 rfl T.m_range (SE.callB call_len_seq s_len (by rfl) T.m_len PySem.boot_len (SA.cons (SE.var (i := 0) (by rfl) (.inr (.inl (by rfl)))) SA.nil))) (by show BlkOk ["_law_ring_here", "_law_size", "_law_place", "_law_word", "_law_words", "_law_turns", "_law_where", "_law_at", "_law_least"] (defScope st__law_due) _ _; exact blkOk_by (by decide +kernel)) (fun _ _ _ _ _ => (pg_name (i := 7) sc__law_due.nd rfl (Or.inl rfl))) (fun _ _ _ _ _ => STs.nil) (fun _ _ _ _ _ => (SE.call (ok__law_from T) (hr.mono (by decide)) takes_blk (by rfl) T.D__law_from.g T.D__law_from.F.kp T.D__law_from.b (SA.cons (SE.var (i := 0) (by rfl) (.inr (.inl (by rfl)))) (SA.cons (SE.var (i := 7) (by rfl) (.inl (by rfl))) (SA.cons (SE.callB call_len_seq s_len (by rfl) T.m_len PySem.boot_len (SA.cons (SE.var (i := 0) (by rfl) (.inr (.inl (by rfl)))) SA.nil)) SA.nil))))))
      (SSs.cons (SS.asg (i := 6) sc__law_due.nd rfl (Or.inl rfl) (SE.tup (SD.cons SE.intC SD.nil)))
      (SSs.cons (SS.forS (j := 7) (passes_of rfl) rfl (SI.range3 rfl T.m_range (SE.op op_sub s_sub (SE.callB call_len_seq s_len (by rfl) T.m_len PySem.boot_len (SA.cons (SE.var (i := 0) (by rfl) (.inr (.inl (by rfl)))) SA.nil)) SE.intC) (SE.neg SE.intC) (SE.neg SE.intC)) (pg_name (i := 7) sc__law_due.nd rfl (Or.inl rfl)) (SSs.one (SS.ifS (ST.cmp (op_eqD hu64) s_eq (SE.call (ok__law_from T) (hr.mono (by decide)) (takes_of rfl rfl rfl rfl) (by rfl) T.D__law_from.g T.D__law_from.F.kp T.D__law_from.b (SA.cons (SE.var (i := 0) (by rfl) (.inr (.inl (by rfl)))) (SA.cons (SE.var (i := 7) (by rfl) (.inl (by rfl))) (SA.cons (SE.callB call_len_seq s_len (by rfl) T.m_len PySem.boot_len (SA.cons (SE.var (i := 3) (by rfl) (.inl (by rfl))) SA.nil)) SA.nil)))) (SE.var (i := 3) (by rfl) (.inl (by rfl))) (nomark _)) (SSs.one (SS.frz 7 (SS.asg (i := 6) sc__law_due.nd rfl (Or.inl rfl) (SE.lst (SD.cons (SE.var (i := 7) (by rfl) (.inl (by rfl))) SD.nil))))) SSs.nil)))
      (SSs.cons (SS.asg (i := 8) sc__law_due.nd rfl (Or.inl rfl) (SE.ix (SE.callB (cr_sortD hu64) s_sorted (by rfl) T.m_sorted (by decide +kernel) (SA.cons (SE.var (i := 5) (by rfl) (.inl (by rfl))) SA.nil)) SE.intC (fun _ _ => rfl)))
      (SSs.one (SS.frz 8 (SS.frz 6 (SS.frz 4 (SS.ret (SE.lst (SD.cons (SE.var (i := 4) (by rfl) (.inl (by rfl))) (SD.cons (SE.ix (SE.var (i := 4) (by rfl) (.inl (by rfl))) (SE.var (i := 2) (by rfl) (.inl (by rfl))) (fun _ _ => rfl)) (SD.cons (SE.var (i := 6) (by rfl) (.inl (by rfl))) (SD.cons (SE.ix (SE.var (i := 5) (by rfl) (.inl (by rfl))) (SE.var (i := 2) (by rfl) (.inl (by rfl))) (fun _ _ => rfl)) (SD.cons (SE.var (i := 8) (by rfl) (.inl (by rfl))) (SD.cons (SE.call (ok__law_shortest T) (hr.mono (by decide)) (takes_of rfl rfl rfl rfl) (by rfl) T.D__law_shortest.g T.D__law_shortest.F.kp T.D__law_shortest.b (SA.cons (SE.var (i := 3) (by rfl) (.inl (by rfl))) SA.nil)) SD.nil))))))))))))))))))
  exact h
theorem ok__law_kinds (T : Txt K mg) : FnOk P w K mg base (L2.CX P w) 1 T.D__law_kinds.f T.D__law_kinds.fd ["_law_found"] (spM T.κ 1 d__law_kinds) := by
  have h := fn_M (κ := T.κ) (P := P) (w := w) (mg := mg) (base := base) (k := 0) (m := m__law_kinds) T.D__law_kinds.F sc__law_kinds (fun cdv A outer s H E hr => by
    have hu64 := hu64_of hr; have hu65 := hu65_of hr; have hu1 := hu1_of hr
    exact (SSs.one (SS.ret (SE.and (SE.isi2 (by rfl) T.m_isinstance (by decide +kernel) (SE.var (i := 0) (by rfl) (.inl (by rfl))) (by rfl) T.m_list (by decide +kernel) (by rfl) T.m_tuple (by decide +kernel)) (SE.one (SE.cmp (op_eqD hu64) s_eq (SE.comp (j := 1) rfl sc__law_kinds.nd (SI.seq (SE.var (i := 0) (by rfl) (.inl (by rfl)))) (by show BlkOk ["_law_found", "_law_one"] (defScope st__law_kinds) _ _; exact blkOk_by (by decide +kernel)) (fun _ _ _ _ _ => (pg_name (i := 1) sc__law_kinds.nd rfl (Or.inl rfl))) (fun _ _ _ _ _ => (STs.one (ST.truth (SE.isi (by rfl) T.m_isinstance (by decide +kernel) (SE.var (i := 1) (by rfl) (.inl (by rfl))) (by rfl) T.m_bool (by decide +kernel))))) (fun _ _ _ _ _ => (SE.var (i := 1) (by rfl) (.inl (by rfl))))) (SE.lst SD.nil) (nomark _)))))))
  exact h
theorem ok__law_refused (T : Txt K mg) : FnOk P w K mg base (L2.CX P w) 3 T.D__law_refused.f T.D__law_refused.fd ["_law_script", "_law_ring_here", "_law_size", "_law_place", "_law_word"] (spSB T.κ K 4 (d__law_refused K)) := by
  have h := fn_SB (κ := T.κ) (P := P) (w := w) (mg := mg) (base := base) (k := 2) (m := m__law_refused K) T.D__law_refused.F sc__law_refused (fun a ns cdv A outer s H E hr => by
    have hu64 := hu64_of hr; have hu65 := hu65_of hr; have hu1 := hu1_of hr
    exact (SSs.cons (SS.asg (i := 5) sc__law_refused.nd rfl (Or.inl rfl) (SE.op op_fdivN s_fdiv (SE.callS (sa := a) (ns := ns) (i := 0) (ok__law_cell_at T) (hr.mono (by decide)) (takes_of rfl rfl rfl rfl) (by rfl) T.D__law_cell_at.g T.D__law_cell_at.F.kp T.D__law_cell_at.b (by rfl) (.inl (by rfl)) (SA.cons SE.intC SA.nil)) SE.intC))
      (SSs.cons (SS.asg (i := 6) sc__law_refused.nd rfl (Or.inr rfl) (SE.op o_add s_add SE.intC (SE.op op_modN s_mod (SE.callS (sa := a) (ns := ns) (i := 0) (ok__law_cell_at T) (hr.mono (by decide)) (takes_of rfl rfl rfl rfl) (by rfl) T.D__law_cell_at.g T.D__law_cell_at.F.kp T.D__law_cell_at.b (by rfl) (.inl (by rfl)) (SA.cons SE.intC SA.nil)) SE.intC)))
      (SSs.cons (SS.asgLc (i := 7) (j := 12) rfl sc__law_refused.nd rfl rfl (sw_true rfl rfl rfl (by decide +kernel)) (SI.range1 rfl T.m_range SE.intC) (by show BlkOk ["_law_script", "_law_ring_here", "_law_size", "_law_place", "_law_word", "_law_cell", "_law_flags", "_law_bad", "_law_due_here", "_law_odd", "_law_at", "_law_way", "_law_k"] (defScope st__law_refused) _ _; exact blkOk_by (by decide +kernel)) (fun _ _ _ _ _ => (pg_name (i := 12) sc__law_refused.nd rfl (Or.inl rfl))) (fun _ _ _ _ _ => STs.nil) (fun _ _ _ _ _ => (SE.cmp (op_eqD hu64) s_eq (SE.op op_modN s_mod (SE.op op_fdivN s_fdiv (SE.var (i := 6) (by rfl) (.inr (.inl (by rfl)))) (SE.ix (SE.lst (SD.cons SE.intC (SD.cons SE.intC (SD.cons SE.intC (SD.cons SE.intC SD.nil))))) (SE.var (i := 12) (by rfl) (.inl (by rfl))) (fun _ _ => rfl))) SE.intC) SE.intC (nomark _))))
      (SSs.cons (SS.asg (i := 8) sc__law_refused.nd rfl (Or.inl rfl) (SE.call (ok__law_due T) (hr.mono (by decide)) (takes_of rfl rfl rfl rfl) (by rfl) T.D__law_due.g T.D__law_due.F.kp T.D__law_due.b (SA.cons (SE.var (i := 1) (by rfl) (.inl (by rfl))) (SA.cons (SE.var (i := 2) (by rfl) (.inl (by rfl))) (SA.cons (SE.var (i := 3) (by rfl) (.inl (by rfl))) (SA.cons (SE.var (i := 4) (by rfl) (.inl (by rfl))) SA.nil))))))
      (SSs.cons (SS.asg (i := 9) sc__law_refused.nd rfl (Or.inl rfl) (SE.ix (SE.lst (SD.cons (SE.neg SE.intC) (SD.cons SE.intC (SD.cons SE.boolC (SD.cons SE.strC (SD.cons SE.nonC (SD.cons (SE.op op_pow s_pow SE.intC SE.intC) SD.nil))))))) (SE.op op_modN s_mod (SE.var (i := 5) (by rfl) (.inl (by rfl))) SE.intC) (fun _ _ => rfl)))
      (SSs.cons (SS.ifS (ST.truth (SE.ix (SE.var (i := 7) (by rfl) (.inl (by rfl))) SE.intC (fun _ _ => rfl))) (SSs.one (SS.asg (i := 3) sc__law_refused.nd rfl (Or.inl rfl) (SE.ix (SE.lst (SD.cons (SE.neg SE.intC) (SD.cons (SE.callB call_len_seq s_len (by rfl) T.m_len PySem.boot_len (SA.cons (SE.var (i := 1) (by rfl) (.inl (by rfl))) SA.nil)) (SD.cons SE.boolC (SD.cons SE.strC (SD.cons SE.nonC (SD.cons (SE.op o_add s_add (SE.callB call_len_seq s_len (by rfl) T.m_len PySem.boot_len (SA.cons (SE.var (i := 1) (by rfl) (.inl (by rfl))) SA.nil)) (SE.op op_pow s_pow SE.intC SE.intC)) SD.nil))))))) (SE.op op_modN s_mod (SE.var (i := 5) (by rfl) (.inl (by rfl))) SE.intC) (fun _ _ => rfl)))) SSs.nil)
      (SSs.cons (SS.ifS (ST.truth (SE.ix (SE.var (i := 7) (by rfl) (.inl (by rfl))) SE.intC (fun _ _ => rfl))) (SSs.one (SS.asg (i := 2) sc__law_refused.nd rfl (Or.inl rfl) (SE.ix (SE.lst (SD.cons SE.intC (SD.cons SE.intC (SD.cons SE.boolC (SD.cons SE.strC (SD.cons SE.nonC (SD.cons (SE.neg SE.intC) SD.nil))))))) (SE.op op_modN s_mod (SE.var (i := 5) (by rfl) (.inl (by rfl))) SE.intC) (fun _ _ => rfl)))) SSs.nil)
      (SSs.cons (SS.ifS (ST.truth (SE.ix (SE.var (i := 7) (by rfl) (.inl (by rfl))) SE.intC (fun _ _ => rfl))) (SSs.cons (SS.asg (i := 10) sc__law_refused.nd rfl (Or.inl rfl) (SE.op op_modN s_mod (SE.op op_fdivN s_fdiv (SE.var (i := 5) (by rfl) (.inl (by rfl))) SE.intC) (SE.op o_add s_add (SE.callB call_len_seq s_len (by rfl) T.m_len PySem.boot_len (SA.cons (SE.var (i := 4) (by rfl) (.inl (by rfl))) SA.nil)) SE.intC)))
      (SSs.one (SS.frz 9 (SS.asg (i := 4) sc__law_refused.nd rfl (Or.inl rfl) (SE.ix (SE.lst (SD.cons (SE.op o_add s_add (SE.op o_add s_add (SE.slice (SE.var (i := 4) (by rfl) (.inl (by rfl))) SO.no (SO.yes (SE.var (i := 10) (by rfl) (.inl (by rfl))))) (SE.lst (SD.cons (SE.var (i := 9) (by rfl) (.inl (by rfl))) SD.nil))) (SE.slice (SE.var (i := 4) (by rfl) (.inl (by rfl))) (SO.yes (SE.var (i := 10) (by rfl) (.inl (by rfl)))) SO.no)) (SD.cons (SE.callT call_tuple_of s_tuple (by rfl) T.m_tuple (by decide +kernel) (SA.cons (SE.var (i := 4) (by rfl) (.inl (by rfl))) SA.nil)) (SD.cons (SE.lst SD.nil) (SD.cons (SE.op o_mul s_mul (SE.lst (SD.cons SE.intC SD.nil)) SE.intC) (SD.cons SE.nonC (SD.cons SE.strC SD.nil))))))) (SE.op op_modN s_mod (SE.op op_fdivN s_fdiv (SE.var (i := 5) (by rfl) (.inl (by rfl))) SE.intC) SE.intC) (fun _ _ => rfl)))))) SSs.nil)
      (SSs.cons (SS.ifS (ST.truth (SE.ix (SE.var (i := 7) (by rfl) (.inl (by rfl))) SE.intC (fun _ _ => rfl))) (SSs.cons (SS.asg (i := 10) sc__law_refused.nd rfl (Or.inl rfl) (SE.op op_modN s_mod (SE.op op_fdivN s_fdiv (SE.var (i := 5) (by rfl) (.inl (by rfl))) SE.intC) (SE.op o_add s_add (SE.callB call_len_seq s_len (by rfl) T.m_len PySem.boot_len (SA.cons (SE.var (i := 1) (by rfl) (.inl (by rfl))) SA.nil)) SE.intC)))
      (SSs.one (SS.frz 9 (SS.asg (i := 1) sc__law_refused.nd rfl (Or.inl rfl) (SE.ix (SE.lst (SD.cons (SE.op o_add s_add (SE.op o_add s_add (SE.slice (SE.var (i := 1) (by rfl) (.inl (by rfl))) SO.no (SO.yes (SE.var (i := 10) (by rfl) (.inl (by rfl))))) (SE.lst (SD.cons (SE.var (i := 9) (by rfl) (.inl (by rfl))) SD.nil))) (SE.slice (SE.var (i := 1) (by rfl) (.inl (by rfl))) (SO.yes (SE.var (i := 10) (by rfl) (.inl (by rfl)))) SO.no)) (SD.cons (SE.callT call_tuple_of s_tuple (by rfl) T.m_tuple (by decide +kernel) (SA.cons (SE.var (i := 1) (by rfl) (.inl (by rfl))) SA.nil)) (SD.cons (SE.lst SD.nil) (SD.cons (SE.op o_mul s_mul (SE.lst (SD.cons SE.intC SD.nil)) SE.intC) (SD.cons SE.nonC (SD.cons SE.strC SD.nil))))))) (SE.op op_modN s_mod (SE.op op_fdivN s_fdiv (SE.var (i := 5) (by rfl) (.inl (by rfl))) SE.intC) SE.intC) (fun _ _ => rfl)))))) SSs.nil)
      (SSs.cons (SS.forS (j := 11) (passes_of rfl) rfl (SI.range1 rfl T.m_range SE.intC) (pg_name (i := 11) sc__law_refused.nd rfl (Or.inl rfl)) (SSs.one (SS.forS (j := 12) (passes_of rfl) rfl (SI.tup (SE.ix (SE.lst (SD.cons (SE.tup (SD.cons SE.intC (SD.cons SE.intC SD.nil))) (SD.cons (SE.tup (SD.cons SE.intC (SD.cons SE.intC (SD.cons SE.intC SD.nil)))) (SD.cons (SE.tup (SD.cons SE.intC (SD.cons SE.intC SD.nil))) (SD.cons (SE.tup (SD.cons SE.intC (SD.cons SE.intC SD.nil))) (SD.cons (SE.tup (SD.cons SE.intC SD.nil)) (SD.cons (SE.tup (SD.cons SE.intC SD.nil)) SD.nil))))))) (SE.var (i := 11) (by rfl) (.inl (by rfl))) (fun _ _ => rfl))) (pg_name (i := 12) sc__law_refused.nd rfl (Or.inl rfl)) (SSs.one (SS.ifS (ST.truth (SE.ix (SE.var (i := 7) (by rfl) (.inl (by rfl))) (SE.var (i := 12) (by rfl) (.inl (by rfl))) (fun _ _ => rfl))) (SSs.one (SS.setIx (i := 8) rfl (.inl (by rfl)) (SE.tup (SD.cons (SE.ix (SE.lst (SD.cons SE.intC (SD.cons SE.intC (SD.cons SE.intC (SD.cons SE.intC SD.nil))))) (SE.var (i := 12) (by rfl) (.inl (by rfl))) (fun _ _ => rfl)) SD.nil)) (SE.var (i := 11) (by rfl) (.inl (by rfl))))) SSs.nil)))))
      (SSs.one (SS.frz 8 (SS.ret (SE.tup (SD.cons (SE.var (i := 1) (by rfl) (.inl (by rfl))) (SD.cons (SE.var (i := 2) (by rfl) (.inl (by rfl))) (SD.cons (SE.var (i := 3) (by rfl) (.inl (by rfl))) (SD.cons (SE.var (i := 4) (by rfl) (.inl (by rfl))) (SD.cons (SE.var (i := 8) (by rfl) (.inl (by rfl))) SD.nil))))))))))))))))))))
  exact h
noncomputable def ml_0 (K : PySem.W.Frag) (a : Addr) (ns : List Int) : Ev → SR :=
  (sAsg 1 (mCallS K a ns 0 0 (d__law_ring K) mNil))
noncomputable def ml_1 (K : PySem.W.Frag) (a : Addr) (ns : List Int) : Ev → SR :=
  (sIf (mAnd (mB (mBin fEq (mBin fMod (mBin fFdiv (mCallS K a ns 0 1 (d__law_cell_at K) (mCons (mC (.int 0)) mNil)) (mC (.int 12))) (mC (.int 9))) (mC (.int 2)))) (mB (mBin fNe (mCall 5 d__law_asked (mCons (mC (.int 0)) (mCons (mBin fMul (mLst (dCons (mC (.int 1)) dNil)) (mC (.int 256))) (mCons (mC (.int 1)) (mCons (mC (.int 0)) (mCons (mLst (dCons (mC (.int 1)) dNil)) mNil)))))) (mBin fMul (mLst (dCons (mLst (dCons (mC (.int 1)) dNil)) dNil)) (mC (.int 256)))))) (sRet (mC (.bool false))) sNext)
noncomputable def ml_2 (K : PySem.W.Frag) (a : Addr) (ns : List Int) : Ev → SR :=
  (sAsg 2 (mBin fAdd (mC (.int 1)) (mBin fMod (mCallS K a ns 0 1 (d__law_cell_at K) (mCons (mC (.int 2)) mNil)) (mC (.int 8)))))
noncomputable def ml_3 (K : PySem.W.Frag) (a : Addr) (ns : List Int) : Ev → SR :=
  (sAsg 3 (mBin fMod (mBin fFdiv (mCallS K a ns 0 1 (d__law_cell_at K) (mCons (mC (.int 2)) mNil)) (mC (.int 8))) (mBi fLen (mCons (mVar 1) mNil))))
noncomputable def ml_4 (K : PySem.W.Frag) (a : Addr) (ns : List Int) : Ev → SR :=
  (sAsg 4 (mCall 3 d__law_from (mCons (mVar 1) (mCons (mBin fMod (mCallS K a ns 0 1 (d__law_cell_at K) (mCons (mC (.int 3)) mNil)) (mBi fLen (mCons (mVar 1) mNil))) (mCons (mBin fAdd (mC (.int 1)) (mBin fMod (mBin fFdiv (mCallS K a ns 0 1 (d__law_cell_at K) (mCons (mC (.int 3)) mNil)) (mC (.int 256))) (mC (.int 8)))) mNil)))))
noncomputable def ml_5 (K : PySem.W.Frag) (a : Addr) (ns : List Int) : Ev → SR :=
  (sIf (mB (mBin fEq (mBin fMod (mBin fFdiv (mCallS K a ns 0 1 (d__law_cell_at K) (mCons (mC (.int 3)) mNil)) (mC (.int 2048))) (mC (.int 3))) (mC (.int 1)))) (sSetIx 4 (mBin fMod (mBin fAdd (mBin fIx (mVar 4) (mNeg (mC (.int 1)))) (mC (.int 1))) (mC (.int 9))) (mNeg (mC (.int 1)))) sNext)
noncomputable def ml_7 (K : PySem.W.Frag) (a : Addr) (ns : List Int) : Ev → SR :=
  (sAsg 9 (mCall 4 d__law_due (mCons (mVar 1) (mCons (mVar 2) (mCons (mVar 3) (mCons (mVar 4) mNil))))))
noncomputable def ml_8 (K : PySem.W.Frag) (a : Addr) (ns : List Int) : Ev → SR :=
  (sAsg 10 (mLst (dCons (mBi fList (mCons (mVar 1) mNil)) (dCons (mBi fList (mCons (mVar 4) mNil)) dNil))))
noncomputable def ml_10 (K : PySem.W.Frag) (a : Addr) (ns : List Int) : Ev → SR :=
  (sIf (mOr (mB (mBin fNe (mVar 11) (mVar 9))) (mOr (mB (mBin fNe (mComp (iL (mVar 11)) 5 (mNot (mTru (mCall 1 d__law_kinds (mCons (mVar 5) mNil)))) (mVar 5)) (mLst dNil))) (mB (mBin fNe (mVar 10) (mLst (dCons (mVar 1) (dCons (mVar 4) dNil))))))) (sRet (mC (.bool false))) sNext)
noncomputable def ml_13 (K : PySem.W.Frag) (a : Addr) (ns : List Int) : Ev → SR :=
  (sIf (mB (mBin fNe (mVar 10) (mLst (dCons (mVar 1) (dCons (mVar 4) dNil))))) (sRet (mC (.bool false))) sNext)
noncomputable def ml_16 (K : PySem.W.Frag) (a : Addr) (ns : List Int) : Ev → SR :=
  (sAsg 12 (mComp (iR1 (mC (.int 6))) 13 tYesM (mCall 5 d__law_asked (mCons (mVar 13) (mCons (mBi fList (mCons (mVar 1) mNil)) (mCons (mVar 2) (mCons (mVar 3) (mCons (mBi fList (mCons (mVar 4) mNil)) mNil))))))))
noncomputable def ml_17 (K : PySem.W.Frag) (a : Addr) (ns : List Int) : Ev → SR :=
  (sIf (mOr (mB (mBin fNe (mVar 12) (mVar 9))) (mOr (mB (mBin fNe (mBin fIx (mVar 11) (mC (.int 3))) (mBin fAdd (mBin fIx (mVar 9) (mC (.int 3))) (mLst (dCons (mC (.int 0)) dNil))))) (mB (mBin fNe (mBin fIx (mVar 11) (mC (.int 4))) (mBin fAdd (mBin fIx (mVar 9) (mC (.int 4))) (mLst (dCons (mC (.int 0)) dNil))))))) (sRet (mC (.bool false))) sNext)
noncomputable def ml_18 (K : PySem.W.Frag) (a : Addr) (ns : List Int) : Ev → SR :=
  (sRet (mBin fEq (mBin fIx (mVar 11) (mC (.int 5))) (mBin fAdd (mBin fIx (mVar 9) (mC (.int 5))) (mLst (dCons (mC (.int 0)) dNil)))))
theorem law_body (T : Txt K mg) (a : Addr) (ns : List Int) {cdv : Value} {A : Around} {outer : List Env} {s : Shared} {H : Hp} {E : XK} (hr : Room 6 (A.deeper (envOfC "law" (defScope st_law) s.heap.objs.size T.D_law.f cdv))) :
    PSs (cxOf (L2.CX P w) P w K mg base ["_law_script", "_law_ring_here", "_law_size", "_law_place", "_law_word", "_law_one", "_law_two", "_law_three", "_law_four", "_law_due_here", "_law_handed", "_law_told", "_law_again", "_law_way"] "law" (defScope st_law) T.D_law.f cdv A outer s H E) (defBody st_law) (tSeqs T.κ (fun cls d _ H => E cls d H) [ml_0 K a ns, ml_1 K a ns, ml_2 K a ns, ml_3 K a ns, ml_4 K a ns, ml_5 K a ns] (tSeq (tIfS (tT (κ := T.κ) (fun cls d _ H => E cls d H) (mB (mBin fEq (mBin fMod (mCallS K a ns 0 1 (d__law_cell_at K) (mCons (mC (.int 5)) mNil)) (mC (.int 4))) (mC (.int 1))))) (tSeq (tUnp K T.κ (fun cls d _ H => E cls d H) [5, 6, 7, 8, 9] (xCallS K a ns 0 4 (d__law_refused K) (xCons (xOf (mVar 1)) (xCons (xOf (mVar 2)) (xCons (xOf (mVar 3)) (xCons (xOf (mVar 4)) xNil)))))) (tS T.κ (fun cls d _ H => E cls d H) (sRet (mBin fEq (mComp (iR1 (mC (.int 6))) 13 tYesM (mCall 5 d__law_asked (mCons (mVar 13) (mCons (mVar 5) (mCons (mVar 6) (mCons (mVar 7) (mCons (mVar 8) mNil))))))) (mVar 9))))) tNext) (tSeqs T.κ (fun cls d _ H => E cls d H) [ml_7 K a ns, ml_8 K a ns] (tSeq (tLcS T.κ (fun cls d _ H => E cls d H) 11 (iR1 (mC (.int 6))) 13 tYesM (mCall 5 d__law_asked (mCons (mVar 13) (mCons (mBin fIx (mVar 10) (mC (.int 0))) (mCons (mVar 2) (mCons (mVar 3) (mCons (mBin fIx (mVar 10) (mC (.int 1))) mNil))))))) (tSeqs T.κ (fun cls d _ H => E cls d H) [ml_10 K a ns] (tSeq (tAppFor (X := cxOf (L2.CX P w) P w K mg base ["_law_script", "_law_ring_here", "_law_size", "_law_place", "_law_word", "_law_one", "_law_two", "_law_three", "_law_four", "_law_due_here", "_law_handed", "_law_told", "_law_again", "_law_way"] "law" (defScope st_law) T.D_law.f cdv A outer s H E) T.κ (fun cls d _ H => E cls d H) 11 5) (tSeq (tA00 (X := cxOf (L2.CX P w) P w K mg base ["_law_script", "_law_ring_here", "_law_size", "_law_place", "_law_word", "_law_one", "_law_two", "_law_three", "_law_four", "_law_due_here", "_law_handed", "_law_told", "_law_again", "_law_way"] "law" (defScope st_law) T.D_law.f cdv A outer s H E) 11 0) (tSeqs T.κ (fun cls d _ H => E cls d H) [ml_13 K a ns] (tSeq (tClrIx (X := cxOf (L2.CX P w) P w K mg base ["_law_script", "_law_ring_here", "_law_size", "_law_place", "_law_word", "_law_one", "_law_two", "_law_three", "_law_four", "_law_due_here", "_law_handed", "_law_told", "_law_again", "_law_way"] "law" (defScope st_law) T.D_law.f cdv A outer s H E) 10 0) (tSeq (tClrIx (X := cxOf (L2.CX P w) P w K mg base ["_law_script", "_law_ring_here", "_law_size", "_law_place", "_law_word", "_law_one", "_law_two", "_law_three", "_law_four", "_law_due_here", "_law_handed", "_law_told", "_law_again", "_law_way"] "law" (defScope st_law) T.D_law.f cdv A outer s H E) 10 1) (tSeqs T.κ (fun cls d _ H => E cls d H) [ml_16 K a ns, ml_17 K a ns, ml_18 K a ns] tNext))))))))))) := by
  have hu64 := hu64_of hr; have hu65 := hu65_of hr; have hu1 := hu1_of hr
  exact (pss_cons (SS.asg (i := 1) sc_law.nd rfl (Or.inr rfl) (SE.callS (sa := a) (ns := ns) (i := 0) (ok__law_ring T) (hr.mono (by decide)) (takes_of rfl rfl rfl rfl) (by rfl) T.D__law_ring.g T.D__law_ring.F.kp T.D__law_ring.b (by rfl) (.inl (by rfl)) SA.nil))
      (pss_cons (SS.ifS (SW.pt (SW.and (ST.cmp (op_eqD hu64) s_eq (SE.op op_modN s_mod (SE.op op_fdivN s_fdiv (SE.callS (sa := a) (ns := ns) (i := 0) (ok__law_cell_at T) (hr.mono (by decide)) (takes_of rfl rfl rfl rfl) (by rfl) T.D__law_cell_at.g T.D__law_cell_at.F.kp T.D__law_cell_at.b (by rfl) (.inl (by rfl)) (SA.cons SE.intC SA.nil)) SE.intC) SE.intC) SE.intC (nomark _)) (SW.and1 (ST.cmp (op_neD hu64) s_ne (SE.call (ok__law_asked T) (hr.mono (by decide)) (takes_of rfl rfl rfl rfl) (by rfl) T.D__law_asked.g T.D__law_asked.F.kp T.D__law_asked.b (SA.cons SE.intC (SA.cons (SE.op o_mul s_mul (SE.lst (SD.cons SE.intC SD.nil)) SE.intC) (SA.cons SE.intC (SA.cons SE.intC (SA.cons (SE.lst (SD.cons SE.intC SD.nil)) SA.nil)))))) (SE.op o_mul s_mul (SE.lst (SD.cons (SE.lst (SD.cons SE.intC SD.nil)) SD.nil)) SE.intC) (nomark _))))) (SSs.one (SS.ret SE.boolC)) SSs.nil)
      (pss_cons (SS.asg (i := 2) sc_law.nd rfl (Or.inr rfl) (SE.op o_add s_add SE.intC (SE.op op_modN s_mod (SE.callS (sa := a) (ns := ns) (i := 0) (ok__law_cell_at T) (hr.mono (by decide)) (takes_of rfl rfl rfl rfl) (by rfl) T.D__law_cell_at.g T.D__law_cell_at.F.kp T.D__law_cell_at.b (by rfl) (.inl (by rfl)) (SA.cons SE.intC SA.nil)) SE.intC)))
      (pss_cons (SS.asg (i := 3) sc_law.nd rfl (Or.inr rfl) (SE.op op_modN s_mod (SE.op op_fdivN s_fdiv (SE.callS (sa := a) (ns := ns) (i := 0) (ok__law_cell_at T) (hr.mono (by decide)) (takes_of rfl rfl rfl rfl) (by rfl) T.D__law_cell_at.g T.D__law_cell_at.F.kp T.D__law_cell_at.b (by rfl) (.inl (by rfl)) (SA.cons SE.intC SA.nil)) SE.intC) (SE.callB call_len_seq s_len (by rfl) T.m_len PySem.boot_len (SA.cons (SE.var (i := 1) (by rfl) (.inr (.inl (by rfl)))) SA.nil))))
      (pss_cons (SS.asg (i := 4) sc_law.nd rfl (Or.inr rfl) (SE.call (ok__law_from T) (hr.mono (by decide)) (takes_of rfl rfl rfl rfl) (by rfl) T.D__law_from.g T.D__law_from.F.kp T.D__law_from.b (SA.cons (SE.var (i := 1) (by rfl) (.inr (.inl (by rfl)))) (SA.cons (SE.op op_modN s_mod (SE.callS (sa := a) (ns := ns) (i := 0) (ok__law_cell_at T) (hr.mono (by decide)) (takes_of rfl rfl rfl rfl) (by rfl) T.D__law_cell_at.g T.D__law_cell_at.F.kp T.D__law_cell_at.b (by rfl) (.inl (by rfl)) (SA.cons SE.intC SA.nil)) (SE.callB call_len_seq s_len (by rfl) T.m_len PySem.boot_len (SA.cons (SE.var (i := 1) (by rfl) (.inr (.inl (by rfl)))) SA.nil))) (SA.cons (SE.op o_add s_add SE.intC (SE.op op_modN s_mod (SE.op op_fdivN s_fdiv (SE.callS (sa := a) (ns := ns) (i := 0) (ok__law_cell_at T) (hr.mono (by decide)) (takes_of rfl rfl rfl rfl) (by rfl) T.D__law_cell_at.g T.D__law_cell_at.F.kp T.D__law_cell_at.b (by rfl) (.inl (by rfl)) (SA.cons SE.intC SA.nil)) SE.intC) SE.intC)) SA.nil)))))
      (pss_cons (SS.ifS (ST.cmp (op_eqD hu64) s_eq (SE.op op_modN s_mod (SE.op op_fdivN s_fdiv (SE.callS (sa := a) (ns := ns) (i := 0) (ok__law_cell_at T) (hr.mono (by decide)) (takes_of rfl rfl rfl rfl) (by rfl) T.D__law_cell_at.g T.D__law_cell_at.F.kp T.D__law_cell_at.b (by rfl) (.inl (by rfl)) (SA.cons SE.intC SA.nil)) SE.intC) SE.intC) SE.intC (nomark _)) (SSs.one (SS.setIx (i := 4) rfl (.inr (.inl (by rfl))) (SE.op op_modN s_mod (SE.op o_add s_add (SE.ix (SE.var (i := 4) (by rfl) (.inr (.inl (by rfl)))) (SE.neg SE.intC) (fun _ _ => rfl)) SE.intC) SE.intC) (SE.neg SE.intC))) SSs.nil)
      (pss_cons (ps_if (ST.cmp (op_eqD hu64) s_eq (SE.op op_modN s_mod (SE.callS (sa := a) (ns := ns) (i := 0) (ok__law_cell_at T) (hr.mono (by decide)) (takes_of rfl rfl rfl rfl) (by rfl) T.D__law_cell_at.g T.D__law_cell_at.F.kp T.D__law_cell_at.b (by rfl) (.inl (by rfl)) (SA.cons SE.intC SA.nil)) SE.intC) SE.intC (nomark _)) (pss_cons (RS.unp rfl (SX.callSB (sa := a) (ns := ns) (i := 0) (ok__law_refused T) (hr.mono (by decide)) (takes_of rfl rfl rfl rfl) (by rfl) T.D__law_refused.g T.D__law_refused.F.kp T.D__law_refused.b (by rfl) (.inl (by rfl)) (SXs.cons (SX.of (SE.var (i := 1) (by rfl) (.inr (.inl (by rfl))))) (SXs.cons (SX.of (SE.var (i := 2) (by rfl) (.inr (.inl (by rfl))))) (SXs.cons (SX.of (SE.var (i := 3) (by rfl) (.inr (.inl (by rfl))))) (SXs.cons (SX.of (SE.var (i := 4) (by rfl) (.inr (.inl (by rfl))))) SXs.nil))))) (SG.cons (pg_name (i := 5) sc_law.nd rfl (Or.inr rfl)) (SG.cons (pg_name (i := 6) sc_law.nd rfl (Or.inr rfl)) (SG.cons (pg_name (i := 7) sc_law.nd rfl (Or.inr rfl)) (SG.cons (pg_name (i := 8) sc_law.nd rfl (Or.inr rfl)) (SG.cons (pg_name (i := 9) sc_law.nd rfl (Or.inl rfl)) SG.nil)))))) (pss_one (SS.ret (SE.cmp (op_eqD hu64) s_eq (SE.comp (j := 13) rfl sc_law.nd (SI.range1 rfl T.m_range SE.intC) (by show BlkOk ["_law_script", "_law_ring_here", "_law_size", "_law_place", "_law_word", "_law_one", "_law_two", "_law_three", "_law_four", "_law_due_here", "_law_handed", "_law_told", "_law_again", "_law_way"] (defScope st_law) _ _; exact blkOk_by (by decide +kernel)) (fun _ _ _ _ _ => (pg_name (i := 13) sc_law.nd rfl (Or.inl rfl))) (fun _ _ _ _ _ => STs.nil) (fun _ _ _ _ _ => (SE.call (ok__law_asked T) (hr.mono (by decide)) takes_blk (by rfl) T.D__law_asked.g T.D__law_asked.F.kp T.D__law_asked.b (SA.cons (SE.var (i := 13) (by rfl) (.inl (by rfl))) (SA.cons (SE.var (i := 5) (by rfl) (.inr (.inl (by rfl)))) (SA.cons (SE.var (i := 6) (by rfl) (.inr (.inl (by rfl)))) (SA.cons (SE.var (i := 7) (by rfl) (.inr (.inl (by rfl)))) (SA.cons (SE.var (i := 8) (by rfl) (.inr (.inl (by rfl)))) SA.nil)))))))) (SE.var (i := 9) (by rfl) (.inl (by rfl))) (nomark _))))) pss_nil)
      (pss_cons (SS.asg (i := 9) sc_law.nd rfl (Or.inl rfl) (SE.call (ok__law_due T) (hr.mono (by decide)) (takes_of rfl rfl rfl rfl) (by rfl) T.D__law_due.g T.D__law_due.F.kp T.D__law_due.b (SA.cons (SE.var (i := 1) (by rfl) (.inr (.inl (by rfl)))) (SA.cons (SE.var (i := 2) (by rfl) (.inr (.inl (by rfl)))) (SA.cons (SE.var (i := 3) (by rfl) (.inr (.inl (by rfl)))) (SA.cons (SE.var (i := 4) (by rfl) (.inr (.inl (by rfl)))) SA.nil))))))
      (pss_cons (SS.asg (i := 10) sc_law.nd rfl (Or.inr rfl) (SE.lst (SD.cons (SE.callT call_list_of s_list (by rfl) T.m_list (by decide +kernel) (SA.cons (SE.var (i := 1) (by rfl) (.inr (.inl (by rfl)))) SA.nil)) (SD.cons (SE.callT call_list_of s_list (by rfl) T.m_list (by decide +kernel) (SA.cons (SE.var (i := 4) (by rfl) (.inr (.inl (by rfl)))) SA.nil)) SD.nil))))
      (pss_cons (RS.asgLc (i := 11) (j := 13) rfl sc_law.nd rfl rfl (sw_true rfl rfl rfl (by decide +kernel)) (SI.range1 rfl T.m_range SE.intC) (by show BlkOk ["_law_script", "_law_ring_here", "_law_size", "_law_place", "_law_word", "_law_one", "_law_two", "_law_three", "_law_four", "_law_due_here", "_law_handed", "_law_told", "_law_again", "_law_way"] (defScope st_law) _ _; exact blkOk_by (by decide +kernel)) (fun _ _ _ _ _ => (pg_name (i := 13) sc_law.nd rfl (Or.inl rfl))) (fun _ _ _ _ _ => STs.nil) (fun _ _ _ _ _ => (SE.call (ok__law_asked T) (hr.mono (by decide)) takes_blk (by rfl) T.D__law_asked.g T.D__law_asked.F.kp T.D__law_asked.b (SA.cons (SE.var (i := 13) (by rfl) (.inl (by rfl))) (SA.cons (SE.ix (SE.var (i := 10) (by rfl) (.inr (.inl (by rfl)))) SE.intC (fun _ _ => rfl)) (SA.cons (SE.var (i := 2) (by rfl) (.inr (.inl (by rfl)))) (SA.cons (SE.var (i := 3) (by rfl) (.inr (.inl (by rfl)))) (SA.cons (SE.ix (SE.var (i := 10) (by rfl) (.inr (.inl (by rfl)))) SE.intC (fun _ _ => rfl)) SA.nil))))))))
      (pss_cons (SS.ifS (SW.pt (SW.or (ST.cmp (op_neD hu64) s_ne (SE.var (i := 11) (by rfl) (.inl (by rfl))) (SE.var (i := 9) (by rfl) (.inl (by rfl))) (nomark _)) (SW.or (ST.cmp (op_neD hu64) s_ne (SE.comp (j := 5) rfl sc_law.nd (SI.list (SE.var (i := 11) (by rfl) (.inl (by rfl)))) (by show BlkOk ["_law_script", "_law_ring_here", "_law_size", "_law_place", "_law_word", "_law_one", "_law_two", "_law_three", "_law_four", "_law_due_here", "_law_handed", "_law_told", "_law_again", "_law_way"] (defScope st_law) _ _; exact blkOk_by (by decide +kernel)) (fun _ _ _ _ _ => (pg_name (i := 5) sc_law.nd rfl (Or.inl rfl))) (fun _ _ _ _ _ => (STs.one (ST.not (ST.truth (SE.call (ok__law_kinds T) (hr.mono (by decide)) takes_blk (by rfl) T.D__law_kinds.g T.D__law_kinds.F.kp T.D__law_kinds.b (SA.cons (SE.var (i := 5) (by rfl) (.inl (by rfl))) SA.nil)))))) (fun _ _ _ _ _ => (SE.var (i := 5) (by rfl) (.inl (by rfl))))) (SE.lst SD.nil) (nomark _)) (SW.or1 (ST.cmp (op_neD hu64) s_ne (SE.var (i := 10) (by rfl) (.inr (.inl (by rfl)))) (SE.lst (SD.cons (SE.var (i := 1) (by rfl) (.inr (.inl (by rfl)))) (SD.cons (SE.var (i := 4) (by rfl) (.inr (.inl (by rfl)))) SD.nil))) (nomark _)))))) (SSs.one (SS.ret SE.boolC)) SSs.nil)
      (pss_cons (ps_for (passes_of rfl) rfl (pi_list (pe_var (i := 11) (by rfl) (.inl (by rfl)))) (pg_name (i := 5) sc_law.nd rfl (Or.inr rfl)) (pss_one (ps_if (ST.truth (SE.isi (by rfl) T.m_isinstance (by decide +kernel) (SE.var (i := 5) (by rfl) (.inr (.inl (by rfl)))) (by rfl) T.m_list (by decide +kernel))) (pss_one (ps_expr (pe_bm PySem.F.plainAttrs_list PySem.F.slot_list_append PySem.F.type_list_append mt_append (pe_var (i := 5) (by rfl) (.inr (.inl (by rfl)))) (pa_cons pe_int pa_nil)))) pss_nil)))
      (pss_cons (ps_expr (pe_bm PySem.F.plainAttrs_list PySem.F.slot_list_append PySem.F.type_list_append mt_append (pe_ix ix_list (pe_ix ix_list (pe_var (i := 11) (by rfl) (.inl (by rfl))) pe_int (fun _ _ => rfl)) pe_int (fun _ _ => rfl)) (pa_cons pe_int pa_nil)))
      (pss_cons (SS.ifS (ST.cmp (op_neD hu64) s_ne (SE.var (i := 10) (by rfl) (.inr (.inl (by rfl)))) (SE.lst (SD.cons (SE.var (i := 1) (by rfl) (.inr (.inl (by rfl)))) (SD.cons (SE.var (i := 4) (by rfl) (.inr (.inl (by rfl)))) SD.nil))) (nomark _)) (SSs.one (SS.ret SE.boolC)) SSs.nil)
      (pss_cons (ps_expr (pe_bm0 PySem.F.plainAttrs_list PySem.F.slot_list_clear PySem.F.type_list_clear mt_clear (pe_ix ix_list (pe_var (i := 10) (by rfl) (.inr (.inl (by rfl)))) pe_int (fun _ _ => rfl))))
      (pss_cons (ps_expr (pe_bm0 PySem.F.plainAttrs_list PySem.F.slot_list_clear PySem.F.type_list_clear mt_clear (pe_ix ix_list (pe_var (i := 10) (by rfl) (.inr (.inl (by rfl)))) pe_int (fun _ _ => rfl))))
      (pss_cons (SS.asgLc (i := 12) (j := 13) rfl sc_law.nd rfl rfl (sw_true rfl rfl rfl (by decide +kernel)) (SI.range1 rfl T.m_range SE.intC) (by show BlkOk ["_law_script", "_law_ring_here", "_law_size", "_law_place", "_law_word", "_law_one", "_law_two", "_law_three", "_law_four", "_law_due_here", "_law_handed", "_law_told", "_law_again", "_law_way"] (defScope st_law) _ _; exact blkOk_by (by decide +kernel)) (fun _ _ _ _ _ => (pg_name (i := 13) sc_law.nd rfl (Or.inl rfl))) (fun _ _ _ _ _ => STs.nil) (fun _ _ _ _ _ => (SE.call (ok__law_asked T) (hr.mono (by decide)) takes_blk (by rfl) T.D__law_asked.g T.D__law_asked.F.kp T.D__law_asked.b (SA.cons (SE.var (i := 13) (by rfl) (.inl (by rfl))) (SA.cons (SE.callT call_list_of s_list (by rfl) T.m_list (by decide +kernel) (SA.cons (SE.var (i := 1) (by rfl) (.inr (.inl (by rfl)))) SA.nil)) (SA.cons (SE.var (i := 2) (by rfl) (.inr (.inl (by rfl)))) (SA.cons (SE.var (i := 3) (by rfl) (.inr (.inl (by rfl)))) (SA.cons (SE.callT call_list_of s_list (by rfl) T.m_list (by decide +kernel) (SA.cons (SE.var (i := 4) (by rfl) (.inr (.inl (by rfl)))) SA.nil)) SA.nil))))))))
      (pss_cons (SS.ifS (SW.pt (SW.or (ST.cmp (op_neD hu64) s_ne (SE.var (i := 12) (by rfl) (.inl (by rfl))) (SE.var (i := 9) (by rfl) (.inl (by rfl))) (nomark _)) (SW.or (ST.cmp (op_neD hu64) s_ne (SE.ix (SE.var (i := 11) (by rfl) (.inl (by rfl))) SE.intC (fun _ _ => rfl)) (SE.op o_add s_add (SE.ix (SE.var (i := 9) (by rfl) (.inl (by rfl))) SE.intC (fun _ _ => rfl)) (SE.lst (SD.cons SE.intC SD.nil))) (nomark _)) (SW.or1 (ST.cmp (op_neD hu64) s_ne (SE.ix (SE.var (i := 11) (by rfl) (.inl (by rfl))) SE.intC (fun _ _ => rfl)) (SE.op o_add s_add (SE.ix (SE.var (i := 9) (by rfl) (.inl (by rfl))) SE.intC (fun _ _ => rfl)) (SE.lst (SD.cons SE.intC SD.nil))) (nomark _)))))) (SSs.one (SS.ret SE.boolC)) SSs.nil)
      (pss_cons (SS.ret (SE.cmp (op_eqD hu64) s_eq (SE.ix (SE.var (i := 11) (by rfl) (.inl (by rfl))) SE.intC (fun _ _ => rfl)) (SE.op o_add s_add (SE.ix (SE.var (i := 9) (by rfl) (.inl (by rfl))) SE.intC (fun _ _ => rfl)) (SE.lst (SD.cons SE.intC SD.nil))) (nomark _)))
      pss_nil)))))))))))))))))))
end
end L2.Xq.Law
set_option Elab.async false
set_option linter.all false
set_option maxRecDepth 100000
set_option maxHeartbeats 4000000
namespace L2.Xq.Law
open PySem PySem.Spec PyProof.Rows
theorem is_whole_eq (d : D) (lo hi : Int) : d_is_whole [d, .int lo, .int hi] = .ok (.bool (wholeB d lo hi)) := by
  cases d <;> simp [d_is_whole, m_is_whole, wholeB, List.replicate]
  rename_i i
  by_cases h : lo ≤ i <;> simp [h]
theorem is_row_eq (d : D) (most signs : Int) (hm : 0 ≤ most ∧ most ≤ 1000) : d_is_row [d, .int most, .int signs] = .ok (.bool (rowB d most signs)) := by
  cases d with
  | list ds =>
    by_cases h1 : 1 ≤ ds.length
    · by_cases h2 : (ds.length : Int) ≤ most
      · have h3 : ds.length ≤ 16777216 := by omega
        have key := comp_map (body := compBody 3 tYesM (mCall 3 d_is_whole (mCons (mVar 3) (mCons (mC (.int 0)) (mCons (mBin fSub (mVar 2) (mC (.int 1))) mNil)))) [.bo (.list ds), .fz (.int most), .fz (.int signs), .un]) (f := fun d => .bool (wholeB d 0 (signs - 1))) (ds.map fun d => (.bo, d)) [] (fun x hx => by
          obtain ⟨d, _, rfl⟩ := List.mem_map.mp hx
          refine ⟨(.fz, .bool (wholeB d 0 (signs - 1))), ?_, rfl, rfl⟩
          simp [compBody, is_whole_eq])
        have h1' : (1 : Int) ≤ ds.length := by omega
        simp [d_is_row, m_is_row, List.replicate, mComp, h1', h2, h3]
        simp at key
        rw [key]
        have hb : bools (ds.map ((fun d => .bool (wholeB d 0 (signs - 1))) : D → D)) = some (ds.map fun d => wholeB d 0 (signs - 1)) := bools_map ds _
        simp [fAll, Function.comp_def, hb, rowB, h1, h2]
      · simp [d_is_row, m_is_row, rowB, h1, h2]
        have h1' : (1 : Int) ≤ ds.length := by omega
        simp [h1', h2]
    · have h1' : ¬ (1 : Int) ≤ ds.length := by omega
      simp [d_is_row, m_is_row, rowB, h1, h1']
  | _ => simp [d_is_row, m_is_row, rowB]
theorem check_piece_eq (s : Int) (d : D) : d_check_piece [.int s, d] = if rowB d 8 s = true then .ok .none else .raise .word := by
  have e := is_row_eq d 8 s (by omega)
  cases h : rowB d 8 s <;> simp [d_check_piece, m_check_piece, e, h]

theorem check_ring_size_eq (d : D) : d_check_ring_size [d] = if wholeB d 1 8 = true then .ok .none else .raise .size := by
  have e := is_whole_eq d 1 8
  cases h : wholeB d 1 8 <;> simp [d_check_ring_size, m_check_ring_size, e, h]
theorem check_ring_over_eq (s : Int) (d : D) : d_check_ring_over [.int s, d] = if rowB d 256 s = true then .ok .none else .raise .bring := by
  have e := is_row_eq d 256 s (by omega)
  cases h : rowB d 256 s <;> simp [d_check_ring_over, m_check_ring_over, e, h]
@[irreducible] def okRing (d : D) : Bool := rowB d 256 9
@[irreducible] def okWordR (d : D) : Bool := rowB d 8 9
theorem check_ring_eq (d : D) : d_check_ring [d] = if okRing d = true then .ok .none else .raise .bring := by
  have e := check_ring_over_eq 9 d
  unfold okRing
  cases h : rowB d 256 9 <;> simp [d_check_ring, m_check_ring, e, h]
theorem check_word_eq (d : D) : d_check_piece [.int 9, d] = if okWordR d = true then .ok .none else .raise .word := by
  rw [check_piece_eq]
  unfold okWordR
  rfl
theorem okRing_int {d : D} (h : okRing d = true) : ∃ ns : List Int, d = intsD ns ∧ 1 ≤ ns.length ∧ ns.length ≤ 256 ∧ ∀ n ∈ ns, 0 ≤ n ∧ n < 9 := by
  unfold okRing at h
  obtain ⟨ns, e, l1, l2, l3⟩ := rowB_int h
  exact ⟨ns, e, l1, by omega, l3⟩
theorem okWordR_int {d : D} (h : okWordR d = true) : ∃ ns : List Int, d = intsD ns ∧ 1 ≤ ns.length ∧ ns.length ≤ 8 ∧ ∀ n ∈ ns, 0 ≤ n ∧ n < 9 := by
  unfold okWordR at h
  obtain ⟨ns, e, l1, l2, l3⟩ := rowB_int h
  exact ⟨ns, e, l1, by omega, l3⟩
theorem check_place_eq (ds : List D) (d : D) : d_check_place [.list ds, d] = if wholeB d 0 (ds.length - 1) = true then .ok .none else .raise .noword := by
  have e := is_whole_eq d 0 (ds.length - 1)
  cases h : wholeB d 0 (ds.length - 1) <;> simp [d_check_place, m_check_place, e, h]
/-- so many signs from a place on -/
def rdI (r : List Int) (m p : Nat) : List Int := (List.range m).map fun k => r.getD ((p + k) % r.length) 0
def allR (r : List Int) (m : Nat) : List (List Int) := (List.range r.length).map (rdI r m)
theorem rdI_len (r : List Int) (m p : Nat) : (rdI r m p).length = m := by simp [rdI]
theorem read_round_eq (r : List Int) (m p : Nat) (hr : 1 ≤ r.length) (hr2 : r.length < 1000) (hm : m < 1000) (hp : p < 1000) : d_read_round [intsD r, .int m, .int p] = .ok (intsD (rdI r m p)) := by
  have key := mComp_range (ma := mVar 1) (j := 3) (me := mBin fIx (mVar 0) (mBin fMod (mBin fAdd (mVar 2) (mVar 3)) (mBi fLen (mCons (mVar 0) mNil)))) (ρ := [.bo (intsD r), .fz (.int m), .fz (.int p), .un]) (md := .fz) (n := m)
    (fun k => .int (r.getD ((p + k) % r.length) 0)) rfl (by omega) (fun k hk => by
      refine ⟨.fz, ?_, .inl rfl⟩
      have e1 : ((p : Int) + k).fmod r.length = ((p + k) % r.length : Nat) := by
        rw [show (p : Int) + k = ((p + k : Nat) : Int) by omega, fmod_nat]
      have hlt : (p + k) % r.length < r.length := Nat.mod_lt _ (by omega)
      have e2 := fIx_ints (m := .bo) (m' := .fz) r (i := ((p + k) % r.length : Nat)) (by omega) (by omega)
      rw [Int.toNat_natCast] at e2
      have h0 : (r.length : Int) ≠ 0 := by omega
      simp only [mBin, mBi, mCons, mNil, z_v0, List.set_cons_succ, List.set_cons_zero, List.getElem?_cons_succ, List.getElem?_cons_zero, z_v1, z_v2, z_b1, z_f1, z_o1]
      rw [show fLen [(Md.bo, intsD r)] = some (.fz, .int r.length) by simp [intsD]]
      simp only [z_o1, z_b1, z_f7, if_pos h0, e1]
      rw [e2]; rfl)
  rw [map_ints] at key
  simp only [d_read_round, m_read_round, runM, ev0, List.map_cons, List.map_nil, sRet]
  show endM ((mComp _ _ _ _ [.bo (intsD r), .fz (.int m), .fz (.int p), .un]).sr retV) = _
  rw [key]
  rfl
theorem read_all_eq (r : List Int) (m : Nat) (hr : 1 ≤ r.length) (hr2 : r.length < 1000) (hm : m < 1000) : d_read_all [intsD r, .int m] = .ok (.list ((allR r m).map intsD)) := by
  have key := mComp_range (ma := mBi fLen (mCons (mVar 0) mNil)) (j := 2) (me := mCall 3 d_read_round (mCons (mVar 0) (mCons (mVar 1) (mCons (mVar 2) mNil)))) (ρ := [.bo (intsD r), .fz (.int m), .un]) (md := .fz) (n := r.length)
    (fun k => intsD (rdI r m k)) (by simp [intsD]) (by omega) (fun k hk => by
      have e := read_round_eq r m k hr hr2 hm (by omega)
      exact ⟨.fr, call3g (ma := mVar 0) (mb := mVar 1) (mc := mVar 2) (ρ := ([.bo (intsD r), .fz (.int m), .un] : Ev).set 2 (.fz (.int k))) e rfl rfl rfl, .inr rfl⟩)
  rw [map_rows] at key
  simp only [d_read_all, m_read_all, runM, ev0, List.map_cons, List.map_nil, sRet]
  show endM ((mComp _ _ _ _ [.bo (intsD r), .fz (.int m), .un]).sr retV) = _
  rw [key]
  rfl
end L2.Xq.Law
set_option Elab.async false
set_option linter.all false
set_option maxRecDepth 100000
set_option maxHeartbeats 4000000
namespace L2.Xq.Law
open PySem PySem.Spec PyProof.Rows
@[irreducible] def okRS (d : D) : Bool := wholeB d 1 8
theorem check_rs_eq (d : D) : d_check_ring_size [d] = if okRS d = true then .ok .none else .raise .size := by
  rw [check_ring_size_eq]
  unfold okRS
  rfl
theorem par_rd (d : D) : rdC (some (parC d)) = .ok (parM d, d) := z_v4
section
variable {c : Ex} {b : Bool} {f : List D → Res D} {ma mb : Ev → RV} {n : Ev → SR} {ρ : Ev} {m1 m2 : Md} {x y : D}
/-- a refusing call, then more -/
theorem chk1 (e : f [x] = if b = true then .ok .none else .raise c) (h1 : ma ρ = .ok (m1, x)) : sSeq (sExp (mCall 1 f (mCons ma mNil))) n ρ = if b = true then n ρ else .raise c := by
  have h := callE1 (f := f) h1
  cases b with
  | true => rw [e] at h; exact seqExp_ok h
  | false => rw [e] at h; exact seqExp_no h
theorem chk2 (e : f [x, y] = if b = true then .ok .none else .raise c) (h1 : ma ρ = .ok (m1, x)) (h2 : mb ρ = .ok (m2, y)) : sSeq (sExp (mCall 2 f (mCons ma (mCons mb mNil)))) n ρ = if b = true then n ρ else .raise c := by
  have h := callE2 (f := f) h1 h2
  cases b with
  | true => rw [e] at h; exact seqExp_ok h
  | false => rw [e] at h; exact seqExp_no h
end
theorem words_on_eq (d e : D) : d_words_on [d, e] = if okRS e = true then if okRing d = true then d_read_all [d, e] else .raise .bring else .raise .size := by
  have e3 : mCall 2 d_read_all (mCons (mVar 0) (mCons (mVar 1) mNil)) [parC d, parC e] = _ := callE2 (m1 := parM d) (m2 := parM e) z_v4 z_v4
  show endM (m_words_on [parC d, parC e]) = _
  unfold m_words_on
  rw [chk1 (m1 := parM e) (check_rs_eq e) z_v4, chk1 (m1 := parM d) (check_ring_eq d) z_v4]
  cases okRS e
  · rfl
  · cases okRing d
    · rfl
    · exact endRet _ e3
/-- whether it is a place of a ring -/
def placeB (d p : D) : Bool := match d with
  | .list ds => wholeB p 0 (ds.length - 1)
  | _ => false
theorem place_eq (d p : D) (h : okRing d = true) : d_check_place [d, p] = if placeB d p = true then .ok .none else .raise .noword := by
  obtain ⟨ns, rfl, _⟩ := okRing_int h
  exact check_place_eq _ p
theorem word_at_eq (d e p : D) : d_word_at [d, e, p] = if okRS e = true then if okRing d = true then if placeB d p = true then d_read_round [d, e, p] else .raise .noword else .raise .bring else .raise .size := by
  have e3 : mCall 3 d_read_round (mCons (mVar 0) (mCons (mVar 1) (mCons (mVar 2) mNil))) [parC d, parC e, parC p] = _ := callE3 (m1 := parM d) (m2 := parM e) (m3 := parM p) z_v4 z_v4 z_v4
  show endM (m_word_at [parC d, parC e, parC p]) = _
  unfold m_word_at
  rw [chk1 (m1 := parM e) (check_rs_eq e) z_v4, chk1 (m1 := parM d) (check_ring_eq d) z_v4]
  cases okRS e
  · rfl
  · cases h : okRing d
    · rfl
    · simp only [if_true]
      rw [chk2 (m1 := parM d) (m2 := parM p) (place_eq d p h) z_v4 z_v4]
      cases placeB d p
      · rfl
      · exact endRet _ e3
theorem len_par (ns : List Int) : mBi fLen (mCons (mVar 0) mNil) (.bo (intsD ns) :: ρ) = .ok (.fz, .int ns.length) := by
  rw [biE1 (m1 := .bo) (x := intsD ns) rfl]
  simp [intsD]
theorem turned_eq (d p : D) : d_turned [d, p] = if okRing d = true then if placeB d p = true then d_read_round [d, .int (numsD d).length, p] else .raise .noword else .raise .bring := by
  show endM (m_turned [parC d, parC p]) = _
  unfold m_turned
  rw [chk1 (m1 := parM d) (check_ring_eq d) z_v4]
  cases h : okRing d
  · rfl
  · simp only [if_true]
    rw [chk2 (m1 := parM d) (m2 := parM p) (place_eq d p h) z_v4 z_v4]
    cases placeB d p
    · rfl
    · simp only [if_true]
      obtain ⟨ns, rfl, _⟩ := okRing_int h
      rw [numsD_ints]
      exact endRet _ (callE3 (m1 := .bo) (m2 := .fz) (m3 := parM p) rfl (len_par ns) z_v4)
theorem allR_cons (r : List Int) (m : Nat) (h : 1 ≤ r.length) : allR r m = rdI r m 0 :: (allR r m).tail := by
  cases r with
  | nil => simp at h
  | cons a r =>
    unfold allR
    rw [List.length_cons, List.range_succ_eq_map]
    rfl
def leastI (r : List Int) : List Int := minR (rdI r r.length 0) (allR r r.length).tail
theorem least_turn_eq (d : D) : d_least_turn [d] = if okRing d = true then .ok (intsD (leastI (numsD d))) else .raise .bring := by
  show endM (m_least_turn [parC d]) = _
  unfold m_least_turn
  rw [chk1 (m1 := parM d) (check_ring_eq d) z_v4]
  cases h : okRing d
  · rfl
  · simp only [if_true]
    obtain ⟨ns, rfl, l1, l2, _⟩ := okRing_int h
    rw [numsD_ints]
    have e3 := read_all_eq ns ns.length l1 (by omega) (by omega)
    have hall : ((allR ns ns.length).map intsD) = (rdI ns ns.length 0 :: (allR ns ns.length).tail).map intsD := by rw [← allR_cons ns _ l1]
    obtain ⟨md, ef, hm⟩ := fMin_rows .fr (rdI ns ns.length 0) (allR ns ns.length).tail
    have hm := hm (by decide)
    subst hm
    rw [← hall] at ef
    have hc := callE2 (f := d_read_all) (ma := mVar 0) (mb := mBi fLen (mCons (mVar 0) mNil)) (ρ := [parC (intsD ns)]) (m1 := .bo) (m2 := .fz) rfl (len_par ns)
    rw [e3] at hc
    have hb := biE1 (g := fMin) hc
    show endM (sRet (mBi fMin _) [parC (intsD ns)]) = _
    refine endRet1 (md := .fz) ?_ (.inl rfl)
    rw [hb]
    show Res.of (fMin [(.fr, _)]) = _
    rw [ef]
    rfl
end L2.Xq.Law
set_option Elab.async false
set_option linter.all false
set_option maxRecDepth 100000
set_option maxHeartbeats 4000000
namespace L2.Xq.Law
open PySem PySem.Spec PyProof.Rows
def placeI (r w : List Int) : Option Nat := (allR r w.length).findIdx? fun z => decide (z = w)
theorem find_any (rs : List (List Int)) (w : List Int) : (rs.any fun z => decide (z = w)) = ((rs.findIdx? fun z => decide (z = w)).isSome) := by
  rw [List.findIdx?_isSome]
theorem place_of_eq (d e : D) : d_place_of [d, e] = if okWordR e = true then if okRing d = true then (match placeI (numsD d) (numsD e) with | some j => .ok (.int (j : Nat)) | none => .raise .noword) else .raise .bring else .raise .word := by
  show endM (m_place_of [parC d, parC e, .un]) = _
  unfold m_place_of
  rw [chk2 (m1 := .fz) (m2 := parM e) (check_word_eq e) rfl z_v4]
  cases h1 : okWordR e
  · rfl
  simp only [if_true]
  rw [chk1 (m1 := parM d) (check_ring_eq d) z_v4]
  cases h2 : okRing d
  · rfl
  simp only [if_true]
  obtain ⟨ns, rfl, l1, l2, _⟩ := okRing_int h2
  obtain ⟨ws, rfl, k1, k2, _⟩ := okWordR_int h1
  rw [numsD_ints, numsD_ints]
  have e3 := read_all_eq ns ws.length l1 (by omega) (by omega)
  have hl : mBi fLen (mCons (mVar 1) mNil) [parC (intsD ns), parC (intsD ws), .un] = .ok (.fz, .int ws.length) := by
    rw [biE1 (m1 := .bo) (x := intsD ws) rfl]
    simp [intsD]
  have hc := callE2 (f := d_read_all) (ma := mVar 0) (mb := mBi fLen (mCons (mVar 1) mNil)) (ρ := [parC (intsD ns), parC (intsD ws), .un]) (m1 := .bo) (m2 := .fz) rfl hl
  rw [e3] at hc
  rw [seqAsg (v := (.fr, .list ((allR ns ws.length).map intsD))) (ρ' := [.bo (intsD ns), .bo (intsD ws), .ow ((allR ns ws.length).map intsD)]) hc rfl]
  have hn : mB (mBin fNotIn (mVar 1) (mVar 2)) [.bo (intsD ns), .bo (intsD ws), .ow ((allR ns ws.length).map intsD)] = .ok (!((placeI ns ws).isSome)) := by
    unfold mB
    rw [binE (m1 := .bo) (x := intsD ws) (m2 := .tmp) (y := .list ((allR ns ws.length).map intsD)) rfl rfl, fNotIn_rows, find_any]
    rfl
  cases hp : placeI ns ws with
  | none =>
    rw [hp] at hn
    rw [seqIf_then hn]; rfl
  | some j =>
    rw [hp] at hn
    rw [seqIf_next hn]
    refine endRet1 (md := .fz) ?_ (.inl rfl)
    have hx := fIndex_rows .fz .bo ws (allR ns ws.length)
    unfold placeI at hp
    rw [hp] at hx
    show (Res.of (fIndex .fz (.list ((allR ns ws.length).map intsD)) .bo (intsD ws))) = _
    rw [hx]; rfl
/-! ### the turn ring -/
def repI (w : List Int) (m : Nat) : List Int := (List.replicate (w.length / m) (w.take m)).flatten
def lensI (w : List Int) : List Nat := ((List.range w.length).map (· + 1)).filter fun m => decide (repI w m = w)
theorem rep_len (w : List Int) (m : Nat) (h : m ≤ w.length) : (repI w m).length = w.length / m * m := by
  simp [repI, Nat.min_eq_left h]
theorem rep_at (l : List Int) : ∀ (n k : Nat), k < n * l.length → (List.replicate n l).flatten[k]? = l[k % l.length]?
  | 0, k, h => by simp at h
  | n + 1, k, h => by
    rw [List.replicate_succ, List.flatten_cons]
    by_cases hk : k < l.length
    · rw [List.getElem?_append_left hk, Nat.mod_eq_of_lt hk]
    · rw [List.getElem?_append_right (by omega), rep_at l n (k - l.length) (by rw [Nat.succ_mul] at h; omega)]
      rw [Nat.mod_eq_sub_mod (show l.length ≤ k by omega)]
/-- the program's and the law's way of telling that so many signs make the word -/
theorem rep_iff (w : List Int) (m : Nat) (h1 : 1 ≤ m) (h2 : m ≤ w.length) : repI w m = w ↔ w.length % m = 0 ∧ ∀ k, k < w.length → w[k]? = w[k % m]? := by
  have hl := rep_len w m h2
  have htl : (w.take m).length = m := by rw [List.length_take, Nat.min_eq_left h2]
  constructor
  · intro e
    rw [e] at hl
    have hm : w.length % m = 0 := by
      have := Nat.div_add_mod w.length m
      rw [Nat.mul_comm] at this
      omega
    refine ⟨hm, fun k hk => ?_⟩
    have h3 := rep_at (w.take m) (w.length / m) k (by rw [htl]; omega)
    rw [htl, List.getElem?_take] at h3
    rw [if_pos (Nat.mod_lt _ (by omega))] at h3
    rw [← h3]
    show w[k]? = (repI w m)[k]?
    rw [e]
  · rintro ⟨hm, hk⟩
    have hmul : w.length / m * m = w.length := Nat.div_mul_cancel (Nat.dvd_of_mod_eq_zero hm)
    apply List.ext_getElem?
    intro k
    by_cases h : k < w.length
    · have h3 := rep_at (w.take m) (w.length / m) k (by rw [htl]; omega)
      rw [htl, List.getElem?_take, if_pos (Nat.mod_lt _ (by omega))] at h3
      show (List.replicate _ _).flatten[k]? = _
      rw [h3, hk k h]
    · rw [List.getElem?_eq_none (by rw [hl]; omega), List.getElem?_eq_none (by omega)]
theorem rep_full (w : List Int) (h : 1 ≤ w.length) : repI w w.length = w := by
  rw [rep_iff w _ h (Nat.le_refl _)]
  exact ⟨Nat.mod_self _, fun k hk => by rw [Nat.mod_eq_of_lt hk]⟩
theorem lens_ne (w : List Int) (h : 1 ≤ w.length) : ∃ m r, lensI w = m :: r ∧ 1 ≤ m ∧ m ≤ w.length := by
  have hm : w.length ∈ lensI w := by
    unfold lensI
    rw [List.mem_filter]
    refine ⟨List.mem_map.mpr ⟨w.length - 1, List.mem_range.mpr (by omega), by omega⟩, by rw [rep_full w h]; simp⟩
  cases e : lensI w with
  | nil => rw [e] at hm; cases hm
  | cons m r =>
    have h2 : m ∈ lensI w := by rw [e]; exact List.mem_cons_self
    unfold lensI at h2
    obtain ⟨k, hk, rfl⟩ := List.mem_map.mp (List.mem_filter.mp h2).1
    have := List.mem_range.mp hk
    exact ⟨k + 1, r, rfl, by omega, by omega⟩
def turnI (w : List Int) : List Int := w.take ((lensI w).headD 0)
theorem cut_take (w : List Int) (m : Nat) (h : m ≤ w.length) : cutD (w.map PyData.int) none (some (m : Int)) = (w.take m).map PyData.int := by
  rw [cutD_hi (by omega) (by simpa using h), Int.toNat_natCast, List.map_take]
theorem iR2_ok {ma mb : Ev → RV} {ρ : Ev} {m1 m2 : Md} {i j : Int} (h1 : ma ρ = .ok (m1, .int i)) (h2 : mb ρ = .ok (m2, .int j)) (hi : -1000000 ≤ i ∧ i < 1000000) (hj : -1000000 ≤ j ∧ j < 1000000) : iR2 ma mb ρ = .ok (false, rangeD i (j - i).toNat) := by
  unfold iR2
  rw [h1, z_b1, h2, z_b1]
  simp only []
  rw [small_lt hi.1 hi.2, small_lt hj.1 hj.2]
  rfl
noncomputable def turnC : Ev → Res Bool := mB (mBin fEq (mBin fMul (mSl (mVar 0) (fun _ => .ok none) (mPart (mVar 2))) (mBin fFdiv (mBi fLen (mCons (mVar 0) mNil)) (mVar 2))) (mVar 0))
theorem turnC_eq (w : List Int) (m : Nat) (c : Cell) (h1 : 1 ≤ m) (h2 : m ≤ w.length) (hl : w.length ≤ 1000) : turnC [.bo (intsD w), c, .fz (.int (m : Int))] = .ok (decide (repI w m = w)) := by
  have hs : mSl (mVar 0) (fun _ => .ok none) (mPart (mVar 2)) [.bo (intsD w), c, .fz (.int (m : Int))] = .ok (.fr, intsD (w.take m)) := by
    simp only [z_sv0, z_pv0, z_v0, List.getElem?_cons_zero, List.getElem?_cons_succ, z_v1, z_v2, z_b1, z_pv1]
    show slV none (some (m : Int)) (.bo, .list (w.map .int)) = _
    rw [z_sv1, cut_take w m h2]
    have : elFz .bo ((w.take m).map PyData.int) = true := all_sc _
    rw [this]; rfl
  have hd : mBin fFdiv (mBi fLen (mCons (mVar 0) mNil)) (mVar 2) [.bo (intsD w), c, .fz (.int (m : Int))] = .ok (.fz, .int ((w.length / m : Nat) : Int)) := by
    rw [binE (len_par w) (m2 := .fz) (y := .int (m : Int)) rfl, z_f6, if_pos ⟨by omega, by omega⟩, fdiv_nat]
    rfl
  have hm : mBin fMul (mSl (mVar 0) (fun _ => .ok none) (mPart (mVar 2))) (mBin fFdiv (mBi fLen (mCons (mVar 0) mNil)) (mVar 2)) [.bo (intsD w), c, .fz (.int (m : Int))] = .ok (.fr, intsD (repI w m)) := by
    rw [binE hs hd]
    have hq : w.length / m ≤ 1000 := Nat.le_trans (Nat.div_le_self _ _) hl
    have hz : ((w.take m).map PyData.int).length * (((w.length / m : Nat) : Int)).toNat ≤ 16777216 := by
      rw [List.length_map, List.length_take, Nat.min_eq_left h2, Int.toNat_natCast]
      have := Nat.div_mul_le_self w.length m
      rw [Nat.mul_comm]; omega
    show Res.of (fMul .fr (.list ((w.take m).map PyData.int)) .fz (.int _)) = _
    rw [z_f5, if_pos ⟨by omega, Int.le_trans (by decide) (Int.natCast_nonneg _), hz⟩, Int.toNat_natCast]
    simp only [z_el2, z_ml1, z_o1]
    unfold repI intsD
    rw [List.map_flatten, List.map_replicate]
  show (mBin fEq _ _ _).bind asB = _
  rw [binE hm (m2 := .bo) (y := intsD w) rfl, fEq_ints]
  rfl
theorem turn_ring_eq (d : D) : d_turn_ring [d] = if okWordR d = true then .ok (intsD (turnI (numsD d))) else .raise .word := by
  show endM (m_turn_ring [parC d, .un, .un]) = _
  unfold m_turn_ring
  rw [chk2 (m1 := .fz) (m2 := parM d) (check_word_eq d) rfl z_v4]
  cases h1 : okWordR d
  · rfl
  simp only [if_true]
  obtain ⟨w, rfl, l1, l2, _⟩ := okWordR_int h1
  rw [numsD_ints]
  obtain ⟨m, r, em, hm1, hm2⟩ := lens_ne w l1
  have hl1 : mBin fAdd (mBi fLen (mCons (mVar 0) mNil)) (mC (.int 1)) [parC (intsD w), .un, .un] = .ok (.fz, .int (w.length + 1)) := by
    have e0 : mBi fLen (mCons (mVar 0) mNil) [parC (intsD w), .un, .un] = .ok (.fz, .int w.length) := len_par w
    rw [binE e0 (mb := mC (.int 1)) (m2 := .fz) (y := .int 1) rfl]; rfl
  have hi := iR2_ok (ma := mC (.int 1)) (i := 1) rfl hl1 (by omega) (by omega)
  rw [show ((w.length : Int) + 1 - 1).toNat = w.length by omega] at hi
  have key := comp_sel (body := compBody 2 turnC (mVar 2) [parC (intsD w), .un, .un]) (g := fun d => match d with | .int k => decide (repI w k.toNat = w) | _ => false) (f := fun d => d) (rangeD 1 w.length) [] (fun x hx => by
    obtain ⟨k, hk, rfl⟩ := List.mem_map.mp hx
    have hk := List.mem_range.mp hk
    refine ⟨.fz, .inl rfl, ?_⟩
    have e := turnC_eq w (k + 1) .un (by omega) (by omega) (by omega)
    rw [show ((k + 1 : Nat) : Int) = 1 + (k : Int) by omega] at e
    simp only [compBody, z_cl2]
    show ((turnC [.bo (intsD w), .un, .fz (.int (1 + (k : Int)))]).bind _) = _
    rw [e, z_b1, show ((1 + (k : Int)).toNat) = k + 1 by omega]
    cases decide (repI w (k + 1) = w) <;> rfl)
  have hc := mComp_ok (j := 2) hi (by rw [rangeD_len]; omega) key
  have hmap : ((rangeD 1 w.length).map (·.2)) = ((List.range w.length).map (· + 1)).map fun k : Nat => PyData.int (k : Int) := by
    simp only [rangeD, List.map_map]
    refine List.map_congr_left fun k _ => ?_
    show PyData.int (1 + (k : Int)) = PyData.int ((k + 1 : Nat) : Int)
    rw [show (1 + (k : Int)) = ((k + 1 : Nat) : Int) by omega]
  have hres : ([] ++ (((rangeD 1 w.length).map (·.2)).filter fun d => match d with | .int k => decide (repI w k.toNat = w) | _ => false).map fun d => d) = (lensI w).map fun k : Nat => PyData.int (k : Int) := by
    rw [hmap, List.filter_map, List.nil_append, List.map_id']
    rfl
  rw [hres] at hc
  unfold turnC at hc
  rw [seqAsg (v := (.fr, .list ((lensI w).map fun k : Nat => PyData.int (k : Int)))) (ρ' := [.bo (intsD w), .ow ((lensI w).map fun k : Nat => PyData.int (k : Int)), .un]) hc rfl, em]
  refine endRet1 (md := .fr) ?_ (.inr rfl)
  have hix : fIx .tmp (.list ((m :: r).map fun k : Nat => PyData.int (k : Int))) .fz (.int 0) = some (.fz, .int (m : Int)) := by
    rw [fIx_some (d := .int (m : Int)) (by omega) (by simp) rfl]; rfl
  have hp : mPart (mBin fIx (mVar 1) (mC (.int 0))) [.bo (intsD w), .ow ((m :: r).map fun k : Nat => PyData.int (k : Int)), .un] = .ok (some (m : Int)) := by
    rw [z_pv0, binE (m1 := .tmp) (x := .list ((m :: r).map fun k : Nat => PyData.int (k : Int))) rfl (m2 := .fz) (y := .int 0) rfl, hix]
    rfl
  show (((mVar 0) _).bind fun x => (Res.ok none).bind fun l => ((mPart _ _).bind fun h => slV l h x)) = _
  rw [hp]
  show slV none (some (m : Int)) (.bo, .list (w.map .int)) = _
  rw [z_sv1, cut_take w m hm2]
  have : elFz .bo ((w.take m).map PyData.int) = true := all_sc _
  rw [this]
  unfold turnI
  rw [em]
  rfl
end L2.Xq.Law
set_option Elab.async false
set_option linter.all false
set_option maxRecDepth 100000
set_option maxHeartbeats 4000000
namespace L2.Xq.Law
open PySem PySem.Spec PyProof.Rows
/-! ### the law's own going round -/
theorem rdI_snoc (r : List Int) (c p : Nat) : rdI r (c + 1) p = rdI r c p ++ [r.getD ((p + c) % r.length) 0] := by
  unfold rdI
  rw [List.range_succ, List.map_append]
  rfl
noncomputable def fromT : Ev → Res Bool := mB (mBin (fCmp fun i j => decide (i < j)) (mBi fLen (mCons (mVar 3) mNil)) (mVar 2))
noncomputable def fromB : Ev → SR := sSeq (sApp 3 (mBin fIx (mVar 0) (mVar 1))) (sSeq (sAsg 1 (mBin fAdd (mVar 1) (mC (.int 1)))) (sIf (mB (mBin fEq (mVar 1) (mBi fLen (mCons (mVar 0) mNil)))) (sAsg 1 (mC (.int 0))) sNext))
theorem fromB_eq (r : List Int) (p c : Nat) (m : Int) (hr : 1 ≤ r.length) (hc : c < 1000) :
    fromB [.bo (intsD r), .fz (.int ((p + c) % r.length : Nat)), .fz (.int m), .ow ((rdI r c p).map .int)] = .next [.bo (intsD r), .fz (.int ((p + (c + 1)) % r.length : Nat)), .fz (.int m), .ow ((rdI r (c + 1) p).map .int)] := by
  have hlt : (p + c) % r.length < r.length := Nat.mod_lt _ (by omega)
  have e2 := fIx_ints (m := .bo) (m' := .fz) r (i := ((p + c) % r.length : Nat)) (by omega) (by omega)
  rw [Int.toNat_natCast] at e2
  have e3 : mBin fIx (mVar 0) (mVar 1) [.bo (intsD r), .fz (.int ((p + c) % r.length : Nat)), .fz (.int m), .ow ((rdI r c p).map .int)] = .ok (.fz, .int (r.getD ((p + c) % r.length) 0)) := by
    rw [binE (m1 := .bo) (x := intsD r) (m2 := .fz) (y := .int ((p + c) % r.length : Nat)) rfl rfl, e2]; rfl
  have e4 : sApp 3 (mBin fIx (mVar 0) (mVar 1)) [.bo (intsD r), .fz (.int ((p + c) % r.length : Nat)), .fz (.int m), .ow ((rdI r c p).map .int)] = .next [.bo (intsD r), .fz (.int ((p + c) % r.length : Nat)), .fz (.int m), .ow ((rdI r (c + 1) p).map .int)] := by
    unfold sApp
    rw [z_ow (n := 3) rfl, e3]
    simp only [z_s1, z_d1]
    rw [if_pos (by rw [List.length_map, rdI_len]; omega), rdI_snoc, List.map_append]
    rfl
  have e5 : mB (mBin fEq (mVar 1) (mBi fLen (mCons (mVar 0) mNil))) [.bo (intsD r), .fz (.int (((p + c) % r.length : Nat) + 1)), .fz (.int m), .ow ((rdI r (c + 1) p).map .int)] = .ok (decide ((((p + c) % r.length : Nat) : Int) + 1 = r.length)) := by
    unfold mB
    rw [binE (m1 := .fz) (x := .int (((p + c) % r.length : Nat) + 1)) rfl (len_par r), fEq_int]
    rfl
  have hmod : (p + (c + 1)) % r.length = if (p + c) % r.length + 1 = r.length then 0 else (p + c) % r.length + 1 := by
    rw [← Nat.add_assoc, Nat.add_mod]
    split
    · rename_i h
      by_cases h1 : r.length = 1
      · rw [h1]; exact Nat.mod_one _
      · rw [Nat.mod_eq_of_lt (show 1 < r.length by omega), h, Nat.mod_self]
    · rename_i h
      by_cases h1 : r.length = 1
      · rw [h1] at hlt h; omega
      · rw [Nat.mod_eq_of_lt (show 1 < r.length by omega), Nat.mod_eq_of_lt (by omega)]
  have ea : sAsg 1 (mBin fAdd (mVar 1) (mC (.int 1))) [.bo (intsD r), .fz (.int ((p + c) % r.length : Nat)), .fz (.int m), .ow ((rdI r (c + 1) p).map .int)] = .next [.bo (intsD r), .fz (.int (((p + c) % r.length : Nat) + 1)), .fz (.int m), .ow ((rdI r (c + 1) p).map .int)] := by
    unfold sAsg
    rw [binE (m1 := .fz) (x := .int ((p + c) % r.length : Nat)) (m2 := .fz) (y := .int 1) rfl rfl]
    rfl
  unfold fromB
  unfold sSeq
  rw [e4, z_q1, ea, z_q1]
  unfold sIf
  rw [e5, z_s1]
  by_cases h : (p + c) % r.length + 1 = r.length
  · have : (((p + c) % r.length : Nat) : Int) + 1 = r.length := by omega
    rw [decide_eq_true this, if_pos rfl, hmod, if_pos h]
    rfl
  · have : ¬ (((p + c) % r.length : Nat) : Int) + 1 = r.length := by omega
    rw [decide_eq_false this, if_neg (by decide), hmod, if_neg h]
    rfl
theorem from_loop (r : List Int) (p m : Nat) (hr : 1 ≤ r.length) (hm : m < 1000) : ∀ (k c fuel : Nat), c + k = m → k < fuel →
    whileGo fromT fromB fuel [.bo (intsD r), .fz (.int ((p + c) % r.length : Nat)), .fz (.int (m : Int)), .ow ((rdI r c p).map .int)] = .next [.bo (intsD r), .fz (.int ((p + m) % r.length : Nat)), .fz (.int (m : Int)), .ow ((rdI r m p).map .int)]
  | k, c, 0, _, h => by omega
  | k, c, fuel + 1, hc, hk => by
    have et : fromT [.bo (intsD r), .fz (.int ((p + c) % r.length : Nat)), .fz (.int (m : Int)), .ow ((rdI r c p).map .int)] = .ok (decide (c < m)) := by
      unfold fromT mB
      have e0 : mBi fLen (mCons (mVar 3) mNil) [.bo (intsD r), .fz (.int ((p + c) % r.length : Nat)), .fz (.int (m : Int)), .ow ((rdI r c p).map .int)] = .ok (.fz, .int (c : Nat)) := by
        rw [biE1 (m1 := .tmp) (x := .list ((rdI r c p).map .int)) rfl, z_l1, List.length_map, rdI_len]; rfl
      rw [binE e0 (m2 := .fz) (y := .int (m : Int)) rfl, z_f9]
      exact ok_dec (by omega)
    unfold whileGo
    rw [et, z_s1]
    cases k with
    | zero =>
      have : c = m := by omega
      subst this
      rw [decide_eq_false (by omega), if_neg (by decide)]
    | succ k =>
      rw [decide_eq_true (by omega), if_pos rfl, fromB_eq r p c m hr (by omega)]
      exact from_loop r p m hr hm k (c + 1) fuel (by omega) (by omega)
theorem from_eq (r : List Int) (p m : Nat) (hr : 1 ≤ r.length) (hp : p < r.length) (hm : m < 1000) : d__law_from [intsD r, .int p, .int m] = .ok (intsD (rdI r m p)) := by
  show endM (m__law_from [.bo (intsD r), .fz (.int p), .fz (.int m), .un]) = _
  unfold m__law_from
  rw [seqAsg (v := (.fr, .list [])) (ρ' := [.bo (intsD r), .fz (.int p), .fz (.int m), .ow []]) rfl rfl]
  have h := from_loop r p m hr hm m 0 100000 (by omega) (by omega)
  rw [Nat.add_zero, Nat.mod_eq_of_lt hp] at h
  have h : sWhile 100000 fromT fromB [.bo (intsD r), .fz (.int p), .fz (.int m), .ow []] = _ := h
  unfold fromT fromB at h
  unfold sSeq at h ⊢
  rw [h]
  rfl
/-! ### the law's shortest -/
noncomputable def shortB : Ev → SR := (sSeq (sAsg 2 (mComp (iR1 (mBi fLen (mCons (mVar 0) mNil))) 3 (mB (mBin fNe (mBin fIx (mVar 0) (mVar 3)) (mBin fIx (mVar 0) (mBin fMod (mVar 3) (mVar 1))))) (mVar 3)))
  (sIf (mAnd (mB (mBin fEq (mBin fMod (mBi fLen (mCons (mVar 0) mNil)) (mVar 1)) (mC (.int 0)))) (mB (mBin fEq (mVar 2) (mLst dNil)))) (sRet (mSl (mVar 0) (fun _ => .ok none) (mPart (mVar 1)))) sNext))
theorem filter_nil_iff {l : List Nat} {p : Nat → Bool} : l.filter p = [] ↔ ∀ k ∈ l, p k = false := by
  rw [List.filter_eq_nil_iff]
  exact forall_congr' fun k => by simp
theorem shortB_eq (w : List Int) (m : Nat) (c : Cell) (c3 : Cell) (h1 : 1 ≤ m) (h2 : m ≤ w.length) (hl : w.length ≤ 1000) : (repI w m = w ∧ shortB [.bo (intsD w), .fz (.int (m : Int)), c, .un] = .ret (intsD (w.take m))) ∨
    (repI w m ≠ w ∧ ∃ c', shortB [.bo (intsD w), .fz (.int (m : Int)), c, .un] = .next [.bo (intsD w), .fz (.int (m : Int)), c', .un]) := by
  have hc := mComp_rangeF (ma := mBi fLen (mCons (mVar 0) mNil)) (j := 3) (mt := mB (mBin fNe (mBin fIx (mVar 0) (mVar 3)) (mBin fIx (mVar 0) (mBin fMod (mVar 3) (mVar 1))))) (me := mVar 3) (ρ := [.bo (intsD w), .fz (.int (m : Int)), c, .un]) (n := w.length) (fun k => !decide (w.getD k 0 = w.getD (k % m) 0)) (fun k : Nat => PyData.int (k : Int)) (len_par w) (by omega)
    (fun k hk => by
      have hk2 : k % m < w.length := Nat.lt_of_lt_of_le (Nat.mod_lt _ (by omega)) h2
      have e1 : mBin fIx (mVar 0) (mVar 3) (([.bo (intsD w), .fz (.int (m : Int)), c, .un] : Ev).set 3 (.fz (.int (k : Int)))) = .ok (.fz, .int (w.getD k 0)) := by
        rw [binE (m1 := .bo) (x := intsD w) (m2 := .fz) (y := .int (k : Int)) rfl rfl, fIx_ints w (by omega) (by omega), Int.toNat_natCast]; rfl
      have e2 : mBin fMod (mVar 3) (mVar 1) (([.bo (intsD w), .fz (.int (m : Int)), c, .un] : Ev).set 3 (.fz (.int (k : Int)))) = .ok (.fz, .int ((k % m : Nat) : Int)) := by
        rw [binE (m1 := .fz) (x := .int (k : Int)) (m2 := .fz) (y := .int (m : Int)) rfl rfl, z_f7, if_pos (by omega), fmod_nat]; rfl
      have e3 : mBin fIx (mVar 0) (mBin fMod (mVar 3) (mVar 1)) (([.bo (intsD w), .fz (.int (m : Int)), c, .un] : Ev).set 3 (.fz (.int (k : Int)))) = .ok (.fz, .int (w.getD (k % m) 0)) := by
        rw [binE (m1 := .bo) (x := intsD w) rfl e2, fIx_ints w (by omega) (by omega), Int.toNat_natCast]; rfl
      unfold mB
      rw [binE e1 e3, fNe_int]
      rfl)
    (fun k hk _ => ⟨.fz, rfl, .inl rfl⟩)
  have hrep := rep_iff w m h1 h2
  have hmod : mB (mBin fEq (mBin fMod (mBi fLen (mCons (mVar 0) mNil)) (mVar 1)) (mC (.int 0))) [.bo (intsD w), .fz (.int (m : Int)), .ow (((List.range w.length).filter fun k => !decide (w.getD k 0 = w.getD (k % m) 0)).map fun k : Nat => PyData.int (k : Int)), .un] = .ok (decide (w.length % m = 0)) := by
    have e2 : mBin fMod (mBi fLen (mCons (mVar 0) mNil)) (mVar 1) [.bo (intsD w), .fz (.int (m : Int)), .ow (((List.range w.length).filter fun k => !decide (w.getD k 0 = w.getD (k % m) 0)).map fun k : Nat => PyData.int (k : Int)), .un] = .ok (.fz, .int ((w.length % m : Nat) : Int)) := by
      rw [binE (len_par w) (m2 := .fz) (y := .int (m : Int)) rfl, z_f7, if_pos (by omega), fmod_nat]; rfl
    unfold mB
    rw [binE e2 (m2 := .fz) (y := .int 0) rfl, fEq_int]
    exact ok_dec (by omega)
  have hun : ((List.range w.length).filter fun k => !decide (w.getD k 0 = w.getD (k % m) 0)) = [] ↔ ∀ k, k < w.length → w[k]? = w[k % m]? := by
    rw [filter_nil_iff]
    constructor
    · intro h k hk
      have := h k (List.mem_range.mpr hk)
      have hk2 : k % m < w.length := Nat.lt_of_lt_of_le (Nat.mod_lt _ (by omega)) h2
      simp only [Bool.not_eq_false', decide_eq_true_eq, List.getD_eq_getElem?_getD] at this
      rw [List.getElem?_eq_getElem hk, List.getElem?_eq_getElem hk2] at this ⊢
      simpa using this
    · intro h k hk
      have := h k (List.mem_range.mp hk)
      simp only [Bool.not_eq_false', decide_eq_true_eq, List.getD_eq_getElem?_getD, this]
  have he : mB (mBin fEq (mVar 2) (mLst dNil)) [.bo (intsD w), .fz (.int (m : Int)), .ow (((List.range w.length).filter fun k => !decide (w.getD k 0 = w.getD (k % m) 0)).map fun k : Nat => PyData.int (k : Int)), .un] = .ok (decide (((List.range w.length).filter fun k => !decide (w.getD k 0 = w.getD (k % m) 0)) = [])) := by
    unfold mB
    rw [binE (m1 := .tmp) (x := .list (((List.range w.length).filter fun k => !decide (w.getD k 0 = w.getD (k % m) 0)).map fun k : Nat => PyData.int (k : Int))) rfl (m2 := .fr) (y := .list []) rfl]
    have e := fEq_ints .tmp .fr (((List.range w.length).filter fun k => !decide (w.getD k 0 = w.getD (k % m) 0)).map fun k : Nat => (k : Int)) []
    unfold intsD at e
    rw [List.map_map] at e
    have e : fEq .tmp (.list (((List.range w.length).filter fun k => !decide (w.getD k 0 = w.getD (k % m) 0)).map fun k : Nat => PyData.int (k : Int))) .fr (.list []) = _ := e
    rw [e]
    exact ok_dec (by simp)
  have st : shortB [.bo (intsD w), .fz (.int (m : Int)), c, .un] = (sIf (mAnd (mB (mBin fEq (mBin fMod (mBi fLen (mCons (mVar 0) mNil)) (mVar 1)) (mC (.int 0)))) (mB (mBin fEq (mVar 2) (mLst dNil)))) (sRet (mSl (mVar 0) (fun _ => .ok none) (mPart (mVar 1)))) sNext) [.bo (intsD w), .fz (.int (m : Int)), .ow (((List.range w.length).filter fun k => !decide (w.getD k 0 = w.getD (k % m) 0)).map fun k : Nat => PyData.int (k : Int)), .un] := by
    unfold shortB
    exact seqAsg hc rfl
  have hcond : mAnd (mB (mBin fEq (mBin fMod (mBi fLen (mCons (mVar 0) mNil)) (mVar 1)) (mC (.int 0)))) (mB (mBin fEq (mVar 2) (mLst dNil))) [.bo (intsD w), .fz (.int (m : Int)), .ow (((List.range w.length).filter fun k => !decide (w.getD k 0 = w.getD (k % m) 0)).map fun k : Nat => PyData.int (k : Int)), .un] = .ok (decide (repI w m = w)) := by
    unfold mAnd
    rw [hmod, z_b1, he]
    by_cases q1 : w.length % m = 0
    · rw [decide_eq_true q1, if_pos rfl]
      exact ok_dec (by rw [hrep, hun]; exact ⟨fun h => ⟨q1, h⟩, fun h => h.2⟩)
    · rw [decide_eq_false q1, if_neg (by decide)]
      exact congrArg Res.ok (decide_eq_false (by rw [hrep]; exact fun h => q1 h.1)).symm
  rw [st]
  unfold sIf
  rw [hcond, z_s1]
  by_cases h : repI w m = w
  · refine .inl ⟨h, ?_⟩
    rw [decide_eq_true h, if_pos rfl]
    have hp : mPart (mVar 1) [.bo (intsD w), .fz (.int (m : Int)), .ow (((List.range w.length).filter fun k => !decide (w.getD k 0 = w.getD (k % m) 0)).map fun k : Nat => PyData.int (k : Int)), .un] = .ok (some (m : Int)) := rfl
    show ((((mVar 0) _).bind fun x => (Res.ok none).bind fun l => ((mPart _ _).bind fun h => slV l h x)).sr retV) = _
    rw [hp]
    show (slV none (some (m : Int)) (.bo, .list (w.map .int))).sr retV = _
    rw [z_sv1, cut_take w m h2]
    have : elFz .bo ((w.take m).map PyData.int) = true := all_sc _
    rw [this]
    rfl
  · refine .inr ⟨h, .ow (((List.range w.length).filter fun k => !decide (w.getD k 0 = w.getD (k % m) 0)).map fun k : Nat => PyData.int (k : Int)), ?_⟩
    rw [decide_eq_false h, if_neg (by decide)]
    rfl
theorem short_loop (w : List Int) (hl : w.length ≤ 1000) (m : Nat) (r : List Nat) : ∀ (n : Nat) (c1 c : Cell) (j : Nat), j + n = w.length → (((List.range n).map (· + (j + 1))).filter fun m => decide (repI w m = w)) = m :: r →
    forGo 1 shortB ((List.range n).map fun (k : Nat) => (Md.fz, PyData.int ((j + 1 : Nat) + (k : Int)))) [.bo (intsD w), c1, c, .un] = .ret (intsD (w.take m))
  | 0, c1, c, j, _, h => by simp at h
  | n + 1, c1, c, j, hj, h => by
    rw [List.range_succ_eq_map, List.map_cons, List.map_map] at h ⊢
    have e0 : (((j + 1 : Nat) : Int) + ((0 : Nat) : Int)) = ((j + 1 : Nat) : Int) := by omega
    rw [e0]
    have hs : (([.bo (intsD w), c1, c, .un] : Ev).set 1 (cellOf (Md.fz, PyData.int ((j + 1 : Nat) : Int)))) = [.bo (intsD w), .fz (.int ((j + 1 : Nat) : Int)), c, .un] := rfl
    rcases shortB_eq w (j + 1) c c (by omega) (by omega) hl with ⟨e, es⟩ | ⟨e, c', es⟩
    · rw [forGo_ret (x := (Md.fz, PyData.int ((j + 1 : Nat) : Int))) (ρ := [.bo (intsD w), c1, c, .un]) (by rw [hs]; exact es)]
      rw [List.filter_cons_of_pos (by rw [Nat.zero_add]; simpa using e)] at h
      have := (List.cons.inj h).1
      rw [← this, Nat.zero_add]
    · rw [forGo_next (x := (Md.fz, PyData.int ((j + 1 : Nat) : Int))) (ρ := [.bo (intsD w), c1, c, .un]) (by rw [hs]; exact es)]
      rw [List.filter_cons_of_neg (by rw [Nat.zero_add]; simpa using e)] at h
      have e1 : ((fun k : Nat => (Md.fz, PyData.int (((j + 1 : Nat) : Int) + (k : Int)))) ∘ Nat.succ) = fun k : Nat => (Md.fz, PyData.int (((j + 1 + 1 : Nat) : Int) + (k : Int))) := by
        funext k
        show (Md.fz, PyData.int _) = (Md.fz, PyData.int _)
        rw [show (((j + 1 : Nat) : Int) + ((Nat.succ k : Nat) : Int)) = (((j + 1 + 1 : Nat) : Int) + (k : Int)) by omega]
      have e2 : ((fun x : Nat => x + (j + 1)) ∘ Nat.succ) = fun x : Nat => x + (j + 1 + 1) := by
        funext k
        show k + 1 + (j + 1) = _
        omega
      rw [e2] at h
      rw [e1]
      exact short_loop w hl m r n _ c' (j + 1) (by omega) h
theorem shortest_eq (w : List Int) (h1 : 1 ≤ w.length) (hl : w.length ≤ 1000) : d__law_shortest [intsD w] = .ok (intsD (turnI w)) := by
  show endM (m__law_shortest [.bo (intsD w), .un, .un, .un]) = _
  obtain ⟨m, r, em, hm1, hm2⟩ := lens_ne w h1
  have hl1 : mBin fAdd (mBi fLen (mCons (mVar 0) mNil)) (mC (.int 1)) [.bo (intsD w), .un, .un, .un] = .ok (.fz, .int (w.length + 1)) := by
    have e0 : mBi fLen (mCons (mVar 0) mNil) [.bo (intsD w), .un, .un, .un] = .ok (.fz, .int w.length) := len_par w
    rw [binE e0 (mb := mC (.int 1)) (m2 := .fz) (y := .int 1) rfl]; rfl
  have hi := iR2_ok (ma := mC (.int 1)) (i := 1) rfl hl1 (by omega) (by omega)
  rw [show ((w.length : Int) + 1 - 1).toNat = w.length by omega] at hi
  have hloop := short_loop w hl m r w.length .un .un 0 (by omega) (by rw [show (fun x : Nat => x + (0 + 1)) = (· + 1) from rfl]; exact em)
  have hf : sFor (iR2 (mC (.int 1)) (mBin fAdd (mBi fLen (mCons (mVar 0) mNil)) (mC (.int 1)))) 1 shortB [.bo (intsD w), .un, .un, .un] = .ret (intsD (w.take m)) := by
    unfold sFor
    rw [hi, z_s1]
    exact hloop
  unfold m__law_shortest
  unfold shortB at hf
  unfold sSeq at hf ⊢
  rw [hf]
  unfold turnI
  rw [em]
  rfl
end L2.Xq.Law
set_option Elab.async false
set_option linter.all false
set_option maxRecDepth 100000
set_option maxHeartbeats 4000000
namespace L2.Xq.Law
open PySem PySem.Spec PyProof.Rows
def whereD (r w : List Int) : D := match placeI r w with
  | some j => .list [.int (j : Nat)]
  | none => .tuple [.int 4]
def cw : Option Nat → Cell
  | some j => .ow [.int (j : Nat)]
  | none => .fz (.tuple [.int 4])
def hitB (r w : List Int) (k : Nat) : Bool := decide (rdI r w.length k = w)
theorem place_find (r w : List Int) : placeI r w = (List.range r.length).find? (hitB r w) := by
  unfold placeI allR
  rw [List.findIdx?_map]
  have key : ∀ (n : Nat) (f : Nat → Bool), (List.range n).findIdx? f = (List.range n).find? f := by
    intro n f
    induction n with
    | zero => rfl
    | succ n ih =>
      rw [List.range_succ, List.findIdx?_append, List.find?_append, ih]
      congr 1
      cases h : f n <;> simp [h, List.findIdx?_cons]
  exact key _ _
noncomputable def dueB : Ev → SR := sIf (mB (mBin fEq (mCall 3 d__law_from (mCons (mVar 0) (mCons (mVar 7) (mCons (mBi fLen (mCons (mVar 3) mNil)) mNil)))) (mVar 3))) (sFrz 7 (sAsg 6 (mLst (dCons (mVar 7) dNil)))) sNext
theorem len3 (w : List Int) (c0 c1 c2 : Cell) (t : Ev) : mBi fLen (mCons (mVar 3) mNil) (c0 :: c1 :: c2 :: .bo (intsD w) :: t) = .ok (.fz, .int w.length) := by
  rw [biE1 (m1 := .bo) (x := intsD w) rfl, fLen_ints]; rfl
theorem dueB_eq (r w : List Int) (c1 c2 c4 c5 c8 : Cell) (a : Nat) (o : Option Nat) (hr : 1 ≤ r.length) (ha : a < r.length) (hw : w.length < 1000) :
    dueB [.bo (intsD r), c1, c2, .bo (intsD w), c4, c5, cw o, .fz (.int (a : Int)), c8] = .next [.bo (intsD r), c1, c2, .bo (intsD w), c4, c5, cw (if hitB r w a = true then some a else o), .fz (.int (a : Int)), c8] := by
  have ec := callE3 (f := d__law_from) (ma := mVar 0) (mb := mVar 7) (mc := mBi fLen (mCons (mVar 3) mNil)) (ρ := [.bo (intsD r), c1, c2, .bo (intsD w), c4, c5, cw o, .fz (.int (a : Int)), c8]) (m1 := .bo) (m2 := .fz) rfl rfl (len3 w _ _ _ _)
  rw [from_eq r a w.length hr ha hw] at ec
  have et : mB (mBin fEq (mCall 3 d__law_from (mCons (mVar 0) (mCons (mVar 7) (mCons (mBi fLen (mCons (mVar 3) mNil)) mNil)))) (mVar 3)) [.bo (intsD r), c1, c2, .bo (intsD w), c4, c5, cw o, .fz (.int (a : Int)), c8] = .ok (hitB r w a) := by
    unfold mB
    rw [binE ec (m2 := .bo) (y := intsD w) rfl, fEq_ints]
    rfl
  unfold dueB sIf
  rw [et, z_s1]
  cases hitB r w a
  · rfl
  · rfl
theorem due_loop (r w : List Int) (c1 c2 c4 c5 c8 : Cell) (hr : 1 ≤ r.length) (hw : w.length < 1000) : ∀ (n : Nat) (c7 : Cell) (o : Option Nat), n ≤ r.length → ∃ c7',
    forGo 7 dueB ((List.range n).map fun k : Nat => (Md.fz, PyData.int ((n : Int) - 1 - (k : Int)))) [.bo (intsD r), c1, c2, .bo (intsD w), c4, c5, cw o, c7, c8] = .next [.bo (intsD r), c1, c2, .bo (intsD w), c4, c5, cw (((List.range n).find? (hitB r w)).or o), c7', c8]
  | 0, c7, o, _ => ⟨c7, rfl⟩
  | n + 1, c7, o, hn => by
    obtain ⟨c7', ih⟩ := due_loop r w c1 c2 c4 c5 c8 hr hw n (.fz (.int (n : Int))) (if hitB r w n = true then some n else o) (by omega)
    refine ⟨c7', ?_⟩
    have e0 : ((List.range (n + 1)).map fun k : Nat => (Md.fz, PyData.int (((n + 1 : Nat) : Int) - 1 - (k : Int)))) = (Md.fz, PyData.int (n : Int)) :: (List.range n).map fun k : Nat => (Md.fz, PyData.int ((n : Int) - 1 - (k : Int))) := by
      rw [List.range_succ_eq_map, List.map_cons, List.map_map]
      have a1 : ((n + 1 : Nat) : Int) - 1 - ((0 : Nat) : Int) = (n : Int) := by omega
      rw [a1]
      congr 1
      refine List.map_congr_left fun k _ => ?_
      show (Md.fz, PyData.int _) = (Md.fz, PyData.int _)
      have a2 : ((n + 1 : Nat) : Int) - 1 - ((Nat.succ k : Nat) : Int) = (n : Int) - 1 - (k : Int) := by omega
      rw [a2]
    have hs : (([.bo (intsD r), c1, c2, .bo (intsD w), c4, c5, cw o, c7, c8] : Ev).set 7 (cellOf (Md.fz, PyData.int (n : Int)))) = [.bo (intsD r), c1, c2, .bo (intsD w), c4, c5, cw o, .fz (.int (n : Int)), c8] := rfl
    rw [e0, forGo_next (by rw [hs]; exact dueB_eq r w c1 c2 c4 c5 c8 n o hr (by omega) hw), ih]
    congr 2
    rw [List.range_succ, List.find?_append]
    cases h : (List.range n).find? (hitB r w) with
    | some j => rfl
    | none =>
      cases h2 : hitB r w n <;> simp [h2]
/-- what is due -/
def dueD (r : List Int) (m p : Nat) (w : List Int) : List D := [.list ((allR r m).map intsD), intsD (rdI r m p), whereD r w, intsD (rdI r r.length p), intsD (leastI r), intsD (turnI w)]
theorem rows_ix (r : List Int) (m p : Nat) (hp : p < r.length) (md md' : Md) (hm : md ≠ .bo) : fIx md (.list ((allR r m).map intsD)) md' (.int (p : Int)) = some (.fz, intsD (rdI r m p)) := by
  rw [fIx_some (d := intsD (rdI r m p)) (by omega) (by simp [allR]; omega) (by rw [Int.toNat_natCast, List.getElem?_map]; unfold allR; rw [List.getElem?_map, List.getElem?_range hp]; rfl)]
  simp [elMd, hm]
theorem least_ix (r : List Int) (hr : 1 ≤ r.length) (md : Md) : fIx .fr (.list ((sortR (allR r r.length)).map intsD)) md (.int 0) = some (.fz, intsD (leastI r)) := by
  have h := sortR_head (rdI r r.length 0) (allR r r.length).tail
  rw [← allR_cons r _ hr] at h
  have hl : 0 < (sortR (allR r r.length)).length := (List.getElem?_eq_some_iff.mp h).1
  rw [fIx_some (d := intsD (leastI r)) (by omega) (by simpa using hl) (by rw [Int.toNat_zero, List.getElem?_map, h]; rfl)]
  simp [elMd]
theorem comp_from (r : List Int) (m : Nat) (hr : 1 ≤ r.length) (hr2 : r.length < 1000) (hm : m < 1000) (ρ : Ev) (mm : Ev → RV) (h0 : ρ[0]? = some (.bo (intsD r))) (h7 : ∀ c, mm (ρ.set 7 c) = .ok (.fz, .int (m : Int))) (hl : 7 < ρ.length) :
    mComp (iR1 (mBi fLen (mCons (mVar 0) mNil))) 7 tYesM (mCall 3 d__law_from (mCons (mVar 0) (mCons (mVar 7) (mCons mm mNil)))) ρ = .ok (.fr, .list ((allR r m).map intsD)) := by
  have e0 : mBi fLen (mCons (mVar 0) mNil) ρ = .ok (.fz, .int r.length) := by
    rw [biE1 (m1 := .bo) (x := intsD r) (by rw [z_v0, h0]; rfl), fLen_ints]; rfl
  have key := mComp_range (ma := mBi fLen (mCons (mVar 0) mNil)) (j := 7) (me := mCall 3 d__law_from (mCons (mVar 0) (mCons (mVar 7) (mCons mm mNil)))) (ρ := ρ) (n := r.length) (fun k => intsD (rdI r m k)) e0 (by omega) (fun k hk => by
    have ec := callE3 (f := d__law_from) (ma := mVar 0) (mb := mVar 7) (mc := mm) (ρ := ρ.set 7 (.fz (.int (k : Int)))) (m1 := .bo) (x := intsD r) (m2 := .fz) (y := .int (k : Int)) (by rw [z_v0, List.getElem?_set_ne (by decide), h0]; rfl) (by rw [z_v0, List.getElem?_set_self hl]; rfl) (h7 _)
    rw [from_eq r k m hr hk hm] at ec
    exact ⟨.fr, ec, .inr rfl⟩)
  rw [map_rows] at key
  exact key
theorem frz6 (o : Option Nat) (c0 c1 c2 c3 c4 c5 c7 c8 : Cell) : ∃ md, (mVar 6 (frzC 6 [c0, c1, c2, c3, c4, c5, cw o, c7, c8])) = .ok (md, match o with | some j => .list [.int (j : Nat)] | none => .tuple [.int 4]) ∧ md = .fz ∧ frzC 6 [c0, c1, c2, c3, c4, c5, cw o, c7, c8] = [c0, c1, c2, c3, c4, c5, .fz (match o with | some j => .list [.int (j : Nat)] | none => .tuple [.int 4]), c7, c8] := by
  cases o with
  | none => exact ⟨.fz, rfl, rfl, rfl⟩
  | some j => exact ⟨.fz, rfl, rfl, rfl⟩
theorem due_eq (r : List Int) (m p : Nat) (w : List Int) (hr : 1 ≤ r.length) (hr2 : r.length < 1000) (hm : m < 1000) (hp : p < r.length) (hw : 1 ≤ w.length) (hw2 : w.length < 1000) : d__law_due [intsD r, .int m, .int p, intsD w] = .ok (.list (dueD r m p w)) := by
  show endM (m__law_due [.bo (intsD r), .fz (.int m), .fz (.int p), .bo (intsD w), .un, .un, .un, .un, .un]) = _
  unfold m__law_due
  have h1 := comp_from r m hr hr2 hm [.bo (intsD r), .fz (.int m), .fz (.int p), .bo (intsD w), .un, .un, .un, .un, .un] (mVar 1) rfl (fun _ => rfl) (by simp)
  rw [seqAsg (v := (.fr, .list ((allR r m).map intsD))) (ρ' := [.bo (intsD r), .fz (.int m), .fz (.int p), .bo (intsD w), .ow ((allR r m).map intsD), .un, .un, .un, .un]) h1 rfl]
  have h2 := comp_from r r.length hr hr2 hr2 [.bo (intsD r), .fz (.int m), .fz (.int p), .bo (intsD w), .ow ((allR r m).map intsD), .un, .un, .un, .un] (mBi fLen (mCons (mVar 0) mNil)) rfl (fun c => len_par r) (by simp)
  rw [seqAsg (v := (.fr, .list ((allR r r.length).map intsD))) (ρ' := [.bo (intsD r), .fz (.int m), .fz (.int p), .bo (intsD w), .ow ((allR r m).map intsD), .ow ((allR r r.length).map intsD), .un, .un, .un]) h2 rfl]
  rw [seqAsg (v := (.fz, .tuple [.int 4])) (ρ' := [.bo (intsD r), .fz (.int m), .fz (.int p), .bo (intsD w), .ow ((allR r m).map intsD), .ow ((allR r r.length).map intsD), cw none, .un, .un]) rfl rfl]
  obtain ⟨c7, h3⟩ := due_loop r w (.fz (.int m)) (.fz (.int p)) (.ow ((allR r m).map intsD)) (.ow ((allR r r.length).map intsD)) .un hr hw2 r.length .un none (Nat.le_refl _)
  rw [Option.or_none, ← place_find] at h3
  have hi : iR3 (mBin fSub (mBi fLen (mCons (mVar 0) mNil)) (mC (.int 1))) (mNeg (mC (.int 1))) (mNeg (mC (.int 1))) [.bo (intsD r), .fz (.int m), .fz (.int p), .bo (intsD w), .ow ((allR r m).map intsD), .ow ((allR r r.length).map intsD), cw none, .un, .un] = .ok (false, (List.range r.length).map fun k : Nat => (Md.fz, PyData.int ((r.length : Int) - 1 - (k : Int)))) := by
    unfold iR3
    rw [binE (len_par r) (mb := mC (.int 1)) (m2 := .fz) (y := .int 1) rfl, z_f3]
    show (if (smallR ((r.length : Int) - 1) && smallR (-1) && decide ((-1 : Int) = -1)) = true then Res.ok (false, (List.range ((r.length : Int) - 1 - (-1)).toNat).map _) else _) = _
    rw [small_lt (show (-1000000 : Int) ≤ (r.length : Int) - 1 by omega) (by omega), show smallR (-1) = true from rfl, show ((r.length : Int) - 1 - (-1)).toNat = r.length by omega]
    rfl
  have hf : sFor (iR3 (mBin fSub (mBi fLen (mCons (mVar 0) mNil)) (mC (.int 1))) (mNeg (mC (.int 1))) (mNeg (mC (.int 1)))) 7 dueB [.bo (intsD r), .fz (.int m), .fz (.int p), .bo (intsD w), .ow ((allR r m).map intsD), .ow ((allR r r.length).map intsD), cw none, .un, .un] = .next [.bo (intsD r), .fz (.int m), .fz (.int p), .bo (intsD w), .ow ((allR r m).map intsD), .ow ((allR r r.length).map intsD), cw (placeI r w), c7, .un] := by
    unfold sFor
    rw [hi, z_s1]
    exact h3
  unfold dueB at hf
  rw [seqE hf]
  have hso : mBi fSorted (mCons (mVar 5) mNil) [.bo (intsD r), .fz (.int m), .fz (.int p), .bo (intsD w), .ow ((allR r m).map intsD), .ow ((allR r r.length).map intsD), cw (placeI r w), c7, .un] = .ok (.fr, .list ((sortR (allR r r.length)).map intsD)) := by
    rw [biE1 (m1 := .tmp) (x := .list ((allR r r.length).map intsD)) rfl, fSorted_rows _ _ (by simp [allR]; omega)]
    rfl
  have hl := binE (g := fIx) hso (mb := mC (.int 0)) (m2 := .fz) (y := .int 0) rfl
  rw [least_ix r hr] at hl
  rw [seqAsg (v := (.fz, intsD (leastI r))) (ρ' := [.bo (intsD r), .fz (.int m), .fz (.int p), .bo (intsD w), .ow ((allR r m).map intsD), .ow ((allR r r.length).map intsD), cw (placeI r w), c7, .fz (intsD (leastI r))]) hl rfl]
  show endM (sRet _ (frzC 4 (frzC 6 [.bo (intsD r), .fz (.int m), .fz (.int p), .bo (intsD w), .ow ((allR r m).map intsD), .ow ((allR r r.length).map intsD), cw (placeI r w), c7, .fz (intsD (leastI r))]))) = _
  obtain ⟨_, _, _, e6⟩ := frz6 (placeI r w) (.bo (intsD r)) (.fz (.int m)) (.fz (.int p)) (.bo (intsD w)) (.ow ((allR r m).map intsD)) (.ow ((allR r r.length).map intsD)) c7 (.fz (intsD (leastI r)))
  rw [e6]
  have ew : (match placeI r w with | some j => PyData.list [.int (j : Nat)] | none => PyData.tuple [.int 4]) = whereD r w := by
    unfold whereD; cases placeI r w <;> rfl
  rw [ew]
  show endM (sRet _ [.bo (intsD r), .fz (.int m), .fz (.int p), .bo (intsD w), .fz (.list ((allR r m).map intsD)), .ow ((allR r r.length).map intsD), .fz (whereD r w), c7, .fz (intsD (leastI r))]) = _
  have hsh := callE1 (f := d__law_shortest) (ma := mVar 3) (ρ := [.bo (intsD r), .fz (.int m), .fz (.int p), .bo (intsD w), .fz (.list ((allR r m).map intsD)), .ow ((allR r r.length).map intsD), .fz (whereD r w), c7, .fz (intsD (leastI r))]) (m1 := .bo) rfl
  rw [shortest_eq w hw (by omega)] at hsh
  have hw1 := binE (g := fIx) (ma := mVar 4) (mb := mVar 2) (ρ := [.bo (intsD r), .fz (.int m), .fz (.int p), .bo (intsD w), .fz (.list ((allR r m).map intsD)), .ow ((allR r r.length).map intsD), .fz (whereD r w), c7, .fz (intsD (leastI r))]) (m1 := .fz) (m2 := .fz) rfl rfl
  rw [rows_ix r m p hp _ _ (by decide)] at hw1
  have hw2 := binE (g := fIx) (ma := mVar 5) (mb := mVar 2) (ρ := [.bo (intsD r), .fz (.int m), .fz (.int p), .bo (intsD w), .fz (.list ((allR r m).map intsD)), .ow ((allR r r.length).map intsD), .fz (whereD r w), c7, .fz (intsD (leastI r))]) (m1 := .tmp) (m2 := .fz) rfl rfl
  rw [rows_ix r r.length p hp _ _ (by decide)] at hw2
  refine endRet1 (md := .fr) ?_ (.inr rfl)
  exact lstE (dConsE (m := .fz) rfl (.inl rfl) (dConsE hw1 (.inl rfl) (dConsE (m := .fz) rfl (.inl rfl) (dConsE hw2 (.inl rfl) (dConsE (m := .fz) rfl (.inl rfl) (dConsE hsh (.inr rfl) rfl)))))) (by simp [dueD])
end L2.Xq.Law
set_option Elab.async false
set_option linter.all false
set_option maxRecDepth 100000
set_option maxHeartbeats 4000000
namespace L2.Xq.Law
open PySem PySem.Spec PyProof.Rows
def caught (r : Res D) : Res D := match r with
  | .ok d => .ok d
  | .raise c => (match cdL c with | some d => .ok d | none => .stuck)
  | .stuck => .stuck
theorem sTry_ret {m : Ev → SR} {ρ : Ev} {r : Res D} (h : m ρ = r.sr fun d => retV (mdOf d, d)) : endM (sTry cdL m ρ) = caught r := by
  unfold sTry
  rw [h]
  cases r with
  | ok d => simp [ret_md, caught]
  | raise c => simp only [z_s2, caught]; cases cdL c <;> rfl
  | stuck => rfl
theorem tst (n k : Int) (t : Ev) : mB (mBin fEq (mVar 0) (mC (.int k))) (.fz (.int n) :: t) = .ok (decide (n = k)) := by
  unfold mB
  rw [binE (m1 := .fz) (x := .int n) (m2 := .fz) (y := .int k) rfl rfl, fEq_int]; rfl
theorem ret_call {m : Ev → RV} {ρ : Ev} {r : Res D} (h : m ρ = r.bind fun d => .ok (mdOf d, d)) : sRet m ρ = r.sr fun d => retV (mdOf d, d) := by
  unfold sRet; rw [h]; exact sr_bind
theorem sr_seq {r : Res D} {n : Ev → SR} : (r.sr fun d => retV (mdOf d, d)).seq n = r.sr fun d => retV (mdOf d, d) := by
  cases r with
  | ok d => simp [ret_md]
  | raise c => rfl
  | stuck => rfl
section
variable (R S P W : D)
theorem asked0 : d__law_asked [.int 0, R, S, P, W] = caught (d_words_on [R, S]) := by
  refine sTry_ret (ρ := [.fz (.int 0), parC R, parC S, parC P, parC W, .un]) ?_
  have h := ret_call (callE2 (f := d_words_on) (ma := mVar 1) (mb := mVar 2) (ρ := [.fz (.int 0), parC R, parC S, parC P, parC W, .un]) (m1 := parM R) (m2 := parM S) z_v4 z_v4)
  rw [seqIf_then (tst 0 0 _), h, sr_seq]
theorem asked1 : d__law_asked [.int 1, R, S, P, W] = caught (d_word_at [R, S, P]) := by
  refine sTry_ret (ρ := [.fz (.int 1), parC R, parC S, parC P, parC W, .un]) ?_
  have h := ret_call (callE3 (f := d_word_at) (ma := mVar 1) (mb := mVar 2) (mc := mVar 3) (ρ := [.fz (.int 1), parC R, parC S, parC P, parC W, .un]) (m1 := parM R) (m2 := parM S) (m3 := parM P) z_v4 z_v4 z_v4)
  rw [seqIf_next (tst 1 0 _), seqIf_then (tst 1 1 _), h, sr_seq]
theorem asked2 (h : (∃ j : Nat, d_place_of [R, W] = .ok (.int j)) ∨ ∃ c, d_place_of [R, W] = .raise c) : d__law_asked [.int 2, R, S, P, W] = caught ((d_place_of [R, W]).bind fun d => .ok (.list [d])) := by
  refine sTry_ret (ρ := [.fz (.int 2), parC R, parC S, parC P, parC W, .un]) ?_
  have hc := callE2 (f := d_place_of) (ma := mVar 1) (mb := mVar 4) (ρ := [.fz (.int 2), parC R, parC S, parC P, parC W, .un]) (m1 := parM R) (m2 := parM W) z_v4 z_v4
  rw [seqIf_next (tst 2 0 _), seqIf_next (tst 2 1 _), seqIf_then (tst 2 2 _)]
  unfold sRet mLst dCons
  rw [hc]
  rcases h with ⟨j, e⟩ | ⟨c, e⟩
  · rw [e]; rfl
  · rw [e]; rfl
theorem asked3 : d__law_asked [.int 3, R, S, P, W] = caught (d_turned [R, P]) := by
  refine sTry_ret (ρ := [.fz (.int 3), parC R, parC S, parC P, parC W, .un]) ?_
  have h := ret_call (callE2 (f := d_turned) (ma := mVar 1) (mb := mVar 3) (ρ := [.fz (.int 3), parC R, parC S, parC P, parC W, .un]) (m1 := parM R) (m2 := parM P) z_v4 z_v4)
  rw [seqIf_next (tst 3 0 _), seqIf_next (tst 3 1 _), seqIf_next (tst 3 2 _), seqIf_then (tst 3 3 _), h, sr_seq]
theorem asked4 : d__law_asked [.int 4, R, S, P, W] = caught (d_least_turn [R]) := by
  refine sTry_ret (ρ := [.fz (.int 4), parC R, parC S, parC P, parC W, .un]) ?_
  have h := ret_call (callE1 (f := d_least_turn) (ma := mVar 1) (ρ := [.fz (.int 4), parC R, parC S, parC P, parC W, .un]) (m1 := parM R) z_v4)
  rw [seqIf_next (tst 4 0 _), seqIf_next (tst 4 1 _), seqIf_next (tst 4 2 _), seqIf_next (tst 4 3 _), seqIf_then (tst 4 4 _), h, sr_seq]
theorem asked5 : d__law_asked [.int 5, R, S, P, W] = caught (d_turn_ring [W]) := by
  refine sTry_ret (ρ := [.fz (.int 5), parC R, parC S, parC P, parC W, .un]) ?_
  have h := ret_call (callE1 (f := d_turn_ring) (ma := mVar 4) (ρ := [.fz (.int 5), parC R, parC S, parC P, parC W, .un]) (m1 := parM W) z_v4)
  rw [seqIf_next (tst 5 0 _), seqIf_next (tst 5 1 _), seqIf_next (tst 5 2 _), seqIf_next (tst 5 3 _), seqIf_next (tst 5 4 _), h]
/-- what is told of each question -/
noncomputable def askD (k : Nat) : Res D :=
  match k with
  | 0 => if okRS S = true then if okRing R = true then d_read_all [R, S] else .ok (.tuple [.int 3]) else .ok (.tuple [.int 0])
  | 1 => if okRS S = true then if okRing R = true then if placeB R P = true then d_read_round [R, S, P] else .ok (.tuple [.int 4]) else .ok (.tuple [.int 3]) else .ok (.tuple [.int 0])
  | 2 => if okWordR W = true then if okRing R = true then .ok (whereD (numsD R) (numsD W)) else .ok (.tuple [.int 3]) else .ok (.tuple [.int 1])
  | 3 => if okRing R = true then if placeB R P = true then d_read_round [R, .int (numsD R).length, P] else .ok (.tuple [.int 4]) else .ok (.tuple [.int 3])
  | 4 => if okRing R = true then .ok (intsD (leastI (numsD R))) else .ok (.tuple [.int 3])
  | _ => if okWordR W = true then .ok (intsD (turnI (numsD W))) else .ok (.tuple [.int 1])
theorem placeB_int {r : List Int} {P : D} (h : placeB (intsD r) P = true) : ∃ p : Nat, P = .int (p : Int) ∧ p < r.length := by
  unfold placeB intsD at h
  obtain ⟨i, rfl, h1, h2⟩ := wholeB_int h
  rw [List.length_map] at h2
  exact ⟨i.toNat, by rw [Int.toNat_of_nonneg h1], by omega⟩
theorem okRS_int {S : D} (h : okRS S = true) : ∃ m : Nat, S = .int (m : Int) ∧ 1 ≤ m ∧ m ≤ 8 := by
  unfold okRS at h
  obtain ⟨i, rfl, h1, h2⟩ := wholeB_int h
  exact ⟨i.toNat, by rw [Int.toNat_of_nonneg (by omega)], by omega, by omega⟩
theorem asked_eq (k : Nat) (hk : k < 6) : d__law_asked [.int (k : Int), R, S, P, W] = askD R S P W k := by
  rcases k with _ | _ | _ | _ | _ | _ | k
  · show d__law_asked [.int 0, R, S, P, W] = _
    rw [asked0, words_on_eq]
    unfold askD
    cases h1 : okRS S
    · rfl
    · cases h2 : okRing R
      · rfl
      · obtain ⟨r, rfl, l1, l2, _⟩ := okRing_int h2
        obtain ⟨m, rfl, m1, m2⟩ := okRS_int h1
        simp only [if_true]
        rw [read_all_eq r m l1 (by omega) (by omega)]
        rfl
  · show d__law_asked [.int 1, R, S, P, W] = _
    rw [asked1, word_at_eq]
    unfold askD
    cases h1 : okRS S
    · rfl
    · cases h2 : okRing R
      · rfl
      · cases h3 : placeB R P
        · rfl
        · obtain ⟨r, rfl, l1, l2, _⟩ := okRing_int h2
          obtain ⟨m, rfl, m1, m2⟩ := okRS_int h1
          obtain ⟨p, rfl, hp⟩ := placeB_int h3
          simp only [if_true]
          rw [read_round_eq r m p l1 (by omega) (by omega) (by omega)]
          rfl
  · show d__law_asked [.int 2, R, S, P, W] = _
    have e := place_of_eq R W
    unfold askD
    cases h1 : okWordR W
    · rw [h1] at e
      rw [asked2 _ _ _ _ (.inr ⟨_, e⟩), e]; rfl
    · cases h2 : okRing R
      · rw [h1, h2] at e
        rw [asked2 _ _ _ _ (.inr ⟨_, e⟩), e]; rfl
      · rw [h1, h2] at e
        simp only [if_true] at e ⊢
        unfold whereD
        cases h3 : placeI (numsD R) (numsD W) with
        | none => rw [h3] at e; rw [asked2 _ _ _ _ (.inr ⟨_, e⟩), e]; rfl
        | some j => rw [h3] at e; rw [asked2 _ _ _ _ (.inl ⟨j, e⟩), e]; rfl
  · show d__law_asked [.int 3, R, S, P, W] = _
    rw [asked3, turned_eq]
    unfold askD
    cases h2 : okRing R
    · rfl
    · cases h3 : placeB R P
      · rfl
      · obtain ⟨r, rfl, l1, l2, _⟩ := okRing_int h2
        obtain ⟨p, rfl, hp⟩ := placeB_int h3
        simp only [if_true, numsD_ints]
        rw [read_round_eq r r.length p l1 (by omega) (by omega) (by omega)]
        rfl
  · show d__law_asked [.int 4, R, S, P, W] = _
    rw [asked4, least_turn_eq]
    unfold askD
    cases h2 : okRing R <;> rfl
  · show d__law_asked [.int 5, R, S, P, W] = _
    rw [asked5, turn_ring_eq]
    unfold askD
    cases h2 : okWordR W <;> rfl
  · omega
/-- of what is good, what is due -/
theorem ask_good (r : List Int) (m p : Nat) (w : List Int) (h1 : okRing (intsD r) = true) (h2 : okRS (.int (m : Int)) = true) (hp : p < r.length) (h4 : okWordR (intsD w) = true) (k : Nat) (hk : k < 6) : ∃ d, (dueD r m p w)[k]? = some d ∧ askD (intsD r) (.int (m : Int)) (.int (p : Int)) (intsD w) k = .ok d := by
  obtain ⟨r', e, l1, l2, _⟩ := okRing_int h1
  have hr : r' = r := by
    unfold intsD at e
    injection e with e
    exact ((List.map_inj_right (fun a b h => PyData.int.inj h)).mp e).symm
  subst hr
  obtain ⟨m', e, m1, m2⟩ := okRS_int h2
  have hm : m' = m := by injection e with e; omega
  subst hm
  have hpl : placeB (intsD r') (.int (p : Int)) = true := by
    show wholeB (.int (p : Int)) 0 (((r'.map PyData.int).length : Int) - 1) = true
    rw [List.length_map]
    simp [wholeB]
    omega
  rcases k with _ | _ | _ | _ | _ | _ | k
  · refine ⟨_, rfl, ?_⟩
    unfold askD
    rw [h2, h1]
    exact read_all_eq r' m' l1 (by omega) (by omega)
  · refine ⟨_, rfl, ?_⟩
    unfold askD
    rw [h2, h1, hpl]
    exact read_round_eq r' m' p l1 (by omega) (by omega) (by omega)
  · refine ⟨_, rfl, ?_⟩
    unfold askD
    rw [h4, h1, numsD_ints, numsD_ints]
    rfl
  · refine ⟨_, rfl, ?_⟩
    unfold askD
    rw [h1, hpl, numsD_ints]
    exact read_round_eq r' r'.length p l1 (by omega) (by omega) (by omega)
  · refine ⟨_, rfl, ?_⟩
    unfold askD
    rw [h1, numsD_ints]
    rfl
  · refine ⟨_, rfl, ?_⟩
    unfold askD
    rw [h4]
    simp only [numsD_ints]
    rfl
  · omega
end
end L2.Xq.Law
set_option Elab.async false
set_option linter.all false
set_option maxRecDepth 100000
set_option maxHeartbeats 4000000
namespace L2.Xq.Law
open PySem PySem.Spec PyProof.Rows
theorem cell_at_eq (K : PySem.W.Frag) (a : Addr) (ns : List Int) (k : Int) (hk : 0 ≤ k) : d__law_cell_at K a ns [.int k] = .ok (.int (ns.getD k.toNat 0)) := by
  by_cases h : k < (ns.length : Int)
  · simp [d__law_cell_at, m__law_cell_at, runS, mLenS, mIxS, ifScr, h, hk]
  · have h2 : ns.length ≤ k.toNat := by omega
    simp [d__law_cell_at, m__law_cell_at, runS, mLenS, mIxS, ifScr, h, h2]
section
variable (K : PySem.W.Frag) (a : Addr) (ns : List Int)
theorem callS_cellE {ρ : Ev} {mm : Ev → RV} {m : Md} {k : Int} (h0 : ρ[0]? = some (.scr K a ns)) (h : mm ρ = .ok (m, .int k)) (hk : 0 ≤ k) : mCallS K a ns 0 1 (d__law_cell_at K) (mCons mm mNil) ρ = .ok (.fz, .int (ns.getD k.toNat 0)) := by
  unfold mCallS ifScr
  rw [if_pos h0, callE1 h, cell_at_eq K a ns k hk]
  rfl
theorem callS_cell {ρ : Ev} (h0 : ρ[0]? = some (.scr K a ns)) (k : Int) (hk : 0 ≤ k) : ∃ x, mCallS K a ns 0 1 (d__law_cell_at K) (mCons (mC (.int k)) mNil) ρ = .ok (.fz, .int x) := ⟨_, callS_cellE K a ns h0 (m := .fz) rfl hk⟩
noncomputable def ringB : Ev → SR := (sSeq (sAsg 6 (mBin fMod (mBin fMul (mBin fAdd (mCallS K a ns 0 1 (d__law_cell_at K) (mCons (mBin fAdd (mC (.int 6)) (mBin fMod (mVar 5) (mC (.int 20)))) mNil)) (mBin fMul (mC (.int 7919)) (mBin fFdiv (mVar 5) (mC (.int 20))))) (mC (.int 48271))) (mC (.int 2147483647))))
  (sApp 4 (mBin fMod (mBin fFdiv (mVar 6) (mC (.int 9))) (mVar 3))))
theorem ringB_eq (c1 c2 c6 : Cell) (s : Int) (hs : 0 < s) (acc : List Int) (k : Nat) (hl : acc.length < 1000) : ∃ x y, 0 ≤ x ∧ x < s ∧ ringB K a ns [.scr K a ns, c1, c2, .fz (.int s), .ow (acc.map .int), .fz (.int (k : Int)), c6] = .next [.scr K a ns, c1, c2, .fz (.int s), .ow ((acc ++ [x]).map .int), .fz (.int (k : Int)), .fz (.int y)] := by
  have h1 := eMod (ma := mVar 5) (ρ := [.scr K a ns, c1, c2, .fz (.int s), .ow (acc.map .int), .fz (.int (k : Int)), c6]) (m := .fz) (x := (k : Int)) (k := 20) rfl (by decide)
  have h2 := eAdd (ma := mC (.int 6)) (m := .fz) (x := 6) rfl h1
  have h3 := callS_cellE K a ns (ρ := [.scr K a ns, c1, c2, .fz (.int s), .ow (acc.map .int), .fz (.int (k : Int)), c6]) rfl h2 (by have := fmod_lt (k : Int) (k := 20) (by omega); omega)
  generalize ns.getD ((6 + (k : Int).fmod 20)).toNat 0 = v at h3
  have h4 := eDiv (ma := mVar 5) (ρ := [.scr K a ns, c1, c2, .fz (.int s), .ow (acc.map .int), .fz (.int (k : Int)), c6]) (m := .fz) (x := (k : Int)) (k := 20) rfl ⟨by decide, by decide⟩
  have h5 := eMulL h4 (k := 7919) (by decide)
  have h6 := eMulR (eAdd h3 h5) (k := 48271) (by decide)
  have h7 := eMod h6 (k := 2147483647) (by decide)
  generalize ((v + 7919 * (k : Int).fdiv 20) * 48271).fmod 2147483647 = y at h7
  have e1 := asgE (i := 6) h7 (ρ' := [.scr K a ns, c1, c2, .fz (.int s), .ow (acc.map .int), .fz (.int (k : Int)), .fz (.int y)]) rfl
  have h8 := eDiv (ma := mVar 6) (ρ := [.scr K a ns, c1, c2, .fz (.int s), .ow (acc.map .int), .fz (.int (k : Int)), .fz (.int y)]) (m := .fz) (x := y) (k := 9) rfl ⟨by decide, by decide⟩
  have h9 := eMod2 h8 (mb := mVar 3) (m' := .fz) (k := s) rfl (by omega)
  obtain ⟨g1, g2⟩ := fmod_lt (y.fdiv 9) (k := s) hs
  refine ⟨(y.fdiv 9).fmod s, y, g1, g2, ?_⟩
  unfold ringB
  rw [seqE e1]
  unfold sApp
  rw [z_ow (n := 4) rfl, h9]
  simp only [z_s1, z_d1]
  rw [if_pos (by rw [List.length_map]; omega), List.map_append]
  rfl
theorem ring_loop (c1 c2 : Cell) (s : Int) (hs : 0 < s) : ∀ (l : List Nat) (acc : List Int) (c5 c6 : Cell), acc.length + l.length < 1000 → ∃ xs c5' c6', xs.length = l.length ∧ (∀ x ∈ xs, 0 ≤ x ∧ x < s) ∧
    forGo 5 (ringB K a ns) (l.map fun k : Nat => (Md.fz, PyData.int (k : Int))) [.scr K a ns, c1, c2, .fz (.int s), .ow (acc.map .int), c5, c6] = .next [.scr K a ns, c1, c2, .fz (.int s), .ow ((acc ++ xs).map .int), c5', c6']
  | [], acc, c5, c6, _ => ⟨[], c5, c6, rfl, by simp, by rw [List.append_nil]; rfl⟩
  | k :: l, acc, c5, c6, h => by
    simp only [List.length_cons] at h
    obtain ⟨x, y, g1, g2, e⟩ := ringB_eq K a ns c1 c2 c6 s hs acc k (by omega)
    obtain ⟨xs, c5', c6', l1, l2, ih⟩ := ring_loop c1 c2 s hs l (acc ++ [x]) (.fz (.int (k : Int))) (.fz (.int y)) (by simp; omega)
    refine ⟨x :: xs, c5', c6', by simp [l1], fun z hz => ?_, ?_⟩
    · rcases List.mem_cons.mp hz with rfl | hz
      · exact ⟨g1, g2⟩
      · exact l2 z hz
    · have hs : (([.scr K a ns, c1, c2, .fz (.int s), .ow (acc.map .int), c5, c6] : Ev).set 5 (cellOf (Md.fz, PyData.int (k : Int)))) = [.scr K a ns, c1, c2, .fz (.int s), .ow (acc.map .int), .fz (.int (k : Int)), c6] := rfl
      rw [List.map_cons, forGo_next (by rw [hs]; exact e), ih, List.append_assoc]
      rfl
/-- a ring -/
def isRing (r : List Int) : Prop := 1 ≤ r.length ∧ r.length ≤ 60 ∧ ∀ x ∈ r, 0 ≤ x ∧ x < 9
theorem ring_many (c0 n0 : Int) (t : Ev) (hn : 1 ≤ n0 ∧ n0 ≤ 12) : ∃ n : Nat, 1 ≤ n ∧ n ≤ 60 ∧ sIf (mB (mBin fEq (mBin fMod (mBin fFdiv (mVar 1) (mC (.int 12))) (mC (.int 9))) (mC (.int 1)))) (sAsg 2 (mBin fAdd (mC (.int 1)) (mBin fMod (mBin fFdiv (mVar 1) (mC (.int 108))) (mC (.int 60))))) sNext (.scr K a ns :: .fz (.int c0) :: .fz (.int n0) :: t) = .next (.scr K a ns :: .fz (.int c0) :: .fz (.int (n : Int)) :: t) := by
  have te := eEqC (k := 1) (eMod (eDiv (ma := mVar 1) (ρ := .scr K a ns :: .fz (.int c0) :: .fz (.int n0) :: t) (m := .fz) (x := c0) (k := 12) rfl ⟨by decide, by decide⟩) (k := 9) (by decide))
  have v := eAdd (ma := mC (.int 1)) (m := .fz) (x := 1) rfl (eMod (eDiv (ma := mVar 1) (ρ := .scr K a ns :: .fz (.int c0) :: .fz (.int n0) :: t) (m := .fz) (x := c0) (k := 108) rfl ⟨by decide, by decide⟩) (k := 60) (by decide))
  obtain ⟨k1, k2⟩ := fmod_lt (c0.fdiv 108) (k := 60) (by omega)
  generalize (c0.fdiv 108).fmod 60 = n1 at v k1 k2
  rw [ifE te]
  cases decide ((c0.fdiv 12).fmod 9 = 1)
  · refine ⟨n0.toNat, by omega, by omega, ?_⟩
    rw [Int.toNat_of_nonneg (by omega)]
    rfl
  · refine ⟨(1 + n1).toNat, by omega, by omega, ?_⟩
    rw [Int.toNat_of_nonneg (by omega)]
    exact asgE v rfl
theorem ring_more (c0 c1 : Int) (n s : Int) (r : List Int) (hr : 1 ≤ r.length ∧ r.length ≤ 60 ∧ ∀ x ∈ r, 0 ≤ x ∧ x < 9) (c5 c6 : Cell) : ∃ r', isRing r' ∧ sIf (mB (mBin fEq (mBin fMod (mBin fFdiv (mCallS K a ns 0 1 (d__law_cell_at K) (mCons (mC (.int 1)) mNil)) (mC (.int 9))) (mC (.int 4))) (mC (.int 1)))) (sAsg 4 (mSl (mBin fMul (mSl (mVar 4) (fun _ => .ok none) (mPart (mC (.int 6)))) (mBin fAdd (mC (.int 2)) (mBin fMod (mBin fFdiv (mCallS K a ns 0 1 (d__law_cell_at K) (mCons (mC (.int 1)) mNil)) (mC (.int 36))) (mC (.int 2))))) (fun _ => .ok none) (mPart (mC (.int 256))))) sNext [.scr K a ns, .fz (.int c0), .fz (.int n), .fz (.int s), .ow (r.map .int), c5, c6] = .next [.scr K a ns, .fz (.int c0), .fz (.int n), .fz (.int s), .ow (r'.map .int), c5, c6] := by
  obtain ⟨x, hx⟩ := callS_cell K a ns (ρ := [.scr K a ns, .fz (.int c0), .fz (.int n), .fz (.int s), .ow (r.map .int), c5, c6]) rfl 1 (by omega)
  have te := eEqC (k := 1) (eMod (eDiv hx (k := 9) ⟨by decide, by decide⟩) (k := 4) (by decide))
  rw [ifE te]
  cases decide ((x.fdiv 9).fmod 4 = 1)
  · exact ⟨r, hr, rfl⟩
  · have v := eAdd (ma := mC (.int 2)) (m := .fz) (x := 2) rfl (eMod (eDiv hx (k := 36) ⟨by decide, by decide⟩) (k := 2) (by decide))
    obtain ⟨k1, k2⟩ := fmod_lt (x.fdiv 36) (k := 2) (by omega)
    obtain ⟨q, hq1, hq2, hq⟩ : ∃ q : Nat, 2 ≤ q ∧ q ≤ 3 ∧ 2 + (x.fdiv 36).fmod 2 = (q : Int) := ⟨(2 + (x.fdiv 36).fmod 2).toNat, by omega, by omega, by omega⟩
    rw [hq] at v
    have h1 := sl_take (ma := mVar 4) (mh := mC (.int 6)) (ρ := [.scr K a ns, .fz (.int c0), .fz (.int n), .fz (.int s), .ow (r.map .int), c5, c6]) (m := .tmp) (mm := .fz) (w := r) (n := 6) rfl rfl
    have hl : (r.take 6).length ≤ 6 := by rw [List.length_take]; omega
    have hl2 : (r.take 6).length * q ≤ 18 := by
      have : (r.take 6).length * q ≤ 6 * 3 := Nat.mul_le_mul hl hq2
      omega
    have h2 := binE (g := fMul) h1 v
    rw [fMul_rep _ _ _ _ (by omega) (by omega)] at h2
    have h3 := sl_take (n := 256) (mh := mC (.int 256)) (mm := .fz) h2 rfl
    have hlen : (List.replicate q (r.take 6)).flatten.length = q * (r.take 6).length := by simp
    have h1l : 1 ≤ (r.take 6).length := by rw [List.length_take]; omega
    have hge : 2 * 1 ≤ q * (r.take 6).length := Nat.mul_le_mul hq1 h1l
    refine ⟨(List.replicate q (r.take 6)).flatten.take 256, ⟨?_, ?_, fun y hy => ?_⟩, ?_⟩
    · rw [List.length_take, hlen]; omega
    · rw [List.length_take, hlen, Nat.mul_comm q]; omega
    · have hy := List.mem_of_mem_take hy
      obtain ⟨l, hl, hy⟩ := List.mem_flatten.mp hy
      rw [(List.mem_replicate.mp hl).2] at hy
      exact hr.2.2 y (List.mem_of_mem_take hy)
    · exact asgE h3 rfl
theorem law_ring_eq : ∃ r, isRing r ∧ d__law_ring K a ns [] = .ok (intsD r) := by
  obtain ⟨c0, h0⟩ := callS_cell K a ns (ρ := [.scr K a ns, .un, .un, .un, .un, .un, .un]) rfl 0 (by omega)
  have e1 := eAdd (ma := mC (.int 1)) (m := .fz) (x := 1) rfl (eMod (ma := mVar 1) (ρ := [.scr K a ns, .fz (.int c0), .un, .un, .un, .un, .un]) (m := .fz) (x := c0) (k := 12) rfl (by decide))
  obtain ⟨g1, g2⟩ := fmod_lt c0 (k := 12) (by omega)
  obtain ⟨n, n1, n2, hm⟩ := ring_many K a ns c0 (1 + c0.fmod 12) [.un, .un, .un, .un] (by omega)
  obtain ⟨c1, h1⟩ := callS_cell K a ns (ρ := [.scr K a ns, .fz (.int c0), .fz (.int (n : Int)), .un, .un, .un, .un]) rfl 1 (by omega)
  have e3 := eAdd (ma := mC (.int 1)) (m := .fz) (x := 1) rfl (eMod h1 (k := 9) (by decide))
  obtain ⟨g3, g4⟩ := fmod_lt c1 (k := 9) (by omega)
  generalize hs : 1 + c1.fmod 9 = s at e3
  obtain ⟨xs, c5, c6, l1, l2, hloop⟩ := ring_loop K a ns (.fz (.int c0)) (.fz (.int (n : Int))) s (by omega) (List.range n) [] .un .un (by simp; omega)
  rw [List.length_range] at l1
  have hf := forE (mi := iR1 (mVar 2)) (j := 5) (body := ringB K a ns) (ρ := [.scr K a ns, .fz (.int c0), .fz (.int (n : Int)), .fz (.int s), .ow [], .un, .un]) (iR1_ok rfl (by omega))
  have hit : rangeD 0 n = (List.range n).map fun k : Nat => (Md.fz, PyData.int (k : Int)) := by
    unfold rangeD
    refine List.map_congr_left fun k _ => ?_
    rw [Int.zero_add]
  rw [hit] at hf
  have hf := hf.trans hloop
  obtain ⟨r, hr, hmore⟩ := ring_more K a ns c0 c1 (n : Int) s ([] ++ xs) ⟨by simp; omega, by simp; omega, fun x hx => by have := l2 x (by simpa using hx); omega⟩ c5 c6
  refine ⟨r, hr, ?_⟩
  show endM (m__law_ring K a ns [.scr K a ns, .un, .un, .un, .un, .un, .un]) = _
  unfold m__law_ring
  rw [seqAsg h0 (ρ' := [.scr K a ns, .fz (.int c0), .un, .un, .un, .un, .un]) rfl]
  rw [seqAsg e1 (ρ' := [.scr K a ns, .fz (.int c0), .fz (.int (1 + c0.fmod 12)), .un, .un, .un, .un]) rfl]
  rw [seqE hm]
  rw [seqAsg e3 (ρ' := [.scr K a ns, .fz (.int c0), .fz (.int (n : Int)), .fz (.int s), .un, .un, .un]) rfl]
  rw [seqAsg (v := (.fr, .list [])) (ρ' := [.scr K a ns, .fz (.int c0), .fz (.int (n : Int)), .fz (.int s), .ow [], .un, .un]) rfl rfl]
  unfold ringB at hf
  rw [seqE hf, seqE hmore]
  rfl
end
end L2.Xq.Law
set_option Elab.async false
set_option linter.all false
set_option maxRecDepth 100000
set_option maxHeartbeats 4000000
namespace L2.Xq.Law
open PySem PySem.Spec PyProof.Rows
/-! ### refusals laid over what is due -/
noncomputable def stepB : Ev → SR := sIf (mTru (mBin fIx (mVar 7) (mVar 12))) (sSetIx 8 (mTup (dCons (mBin fIx (mLst (dCons (mC (.int 0)) (dCons (mC (.int 1)) (dCons (mC (.int 3)) (dCons (mC (.int 4)) dNil))))) (mVar 12)) dNil)) (mVar 11)) sNext
def codes : List Int := [0, 1, 3, 4]
abbrev env13 (c0 c1 c2 c3 c4 c5 c6 : Cell) (bads ds : List D) (c9 c10 c11 c12 : Cell) : Ev := [c0, c1, c2, c3, c4, c5, c6, .ow bads, .ow ds, c9, c10, c11, c12]
section
variable (c0 c1 c2 c3 c4 c5 c6 c9 c10 : Cell) (bads : List D)
theorem step_eq (ds : List D) (way k : Nat) (b : Bool) (code : Int) (hb : bads[k]? = some (.bool b)) (hc : codes[k]? = some code) (hw : way < ds.length) :
    stepB (env13 c0 c1 c2 c3 c4 c5 c6 bads ds c9 c10 (.fz (.int (way : Int))) (.fz (.int (k : Int)))) = .next (env13 c0 c1 c2 c3 c4 c5 c6 bads (if b = true then ds.set way (.tuple [.int code]) else ds) c9 c10 (.fz (.int (way : Int))) (.fz (.int (k : Int)))) := by
  have hkl : k < bads.length := (List.getElem?_eq_some_iff.mp hb).1
  have hkc : k < codes.length := (List.getElem?_eq_some_iff.mp hc).1
  have h1 : mBin fIx (mVar 7) (mVar 12) (env13 c0 c1 c2 c3 c4 c5 c6 bads ds c9 c10 (.fz (.int (way : Int))) (.fz (.int (k : Int)))) = .ok (.fz, .bool b) := by
    rw [binE (m1 := .tmp) (x := .list bads) (m2 := .fz) (y := .int (k : Int)) rfl rfl, fIx_some (d := .bool b) (by omega) (by omega) (by rw [Int.toNat_natCast]; exact hb)]
    rfl
  have hms : dCons (mC (.int 0)) (dCons (mC (.int 1)) (dCons (mC (.int 3)) (dCons (mC (.int 4)) dNil))) (env13 c0 c1 c2 c3 c4 c5 c6 bads ds c9 c10 (.fz (.int (way : Int))) (.fz (.int (k : Int)))) = .ok (true, codes.map .int) := rfl
  have h2 : mBin fIx (mLst (dCons (mC (.int 0)) (dCons (mC (.int 1)) (dCons (mC (.int 3)) (dCons (mC (.int 4)) dNil))))) (mVar 12) (env13 c0 c1 c2 c3 c4 c5 c6 bads ds c9 c10 (.fz (.int (way : Int))) (.fz (.int (k : Int)))) = .ok (.fz, .int code) := by
    rw [binE (lstE hms (by decide)) (m2 := .fz) (y := .int (k : Int)) rfl, fIx_some (d := .int code) (by omega) (by rw [List.length_map]; omega) (by rw [Int.toNat_natCast, List.getElem?_map, hc]; rfl)]
    rfl
  have h3 := tupE (dConsE (ms := dNil) h2 (.inl rfl) rfl) (by simp)
  unfold stepB
  rw [ifE (truE h1)]
  cases b
  · rfl
  · show sSetIx 8 _ _ _ = _
    unfold sSetIx
    rw [z_ow (n := 8) rfl, h3]
    show (match ixN ds.length (way : Int) with | some j => _ | none => _) = _
    have hix : ixN ds.length (way : Int) = some way := by
      unfold ixN
      rw [if_pos (by omega), if_pos (by omega), Int.toNat_natCast]
    rw [hix]
    rfl
def badF (bads : List D) (k : Nat) : Bool := match bads[k]? with
  | some (.bool b) => b
  | _ => false
def ovK (bads : List D) (way : Nat) (ds : List D) (k : Nat) : List D := if badF bads k = true then ds.set way (.tuple [.int (codes.getD k 0)]) else ds
theorem ovK_len (way : Nat) (ds : List D) (k : Nat) : (ovK bads way ds k).length = ds.length := by
  unfold ovK; split
  · rw [List.length_set]
  · rfl
theorem step_loop (hB : ∀ k, k < 4 → ∃ b, bads[k]? = some (.bool b)) : ∀ (ks : List Nat) (ds : List D) (way : Nat) (c12 : Cell), (∀ k ∈ ks, k < 4) → way < ds.length → ∃ c12',
    forGo 12 stepB (ks.map fun k : Nat => (Md.fz, PyData.int (k : Int))) (env13 c0 c1 c2 c3 c4 c5 c6 bads ds c9 c10 (.fz (.int (way : Int))) c12) = .next (env13 c0 c1 c2 c3 c4 c5 c6 bads (ks.foldl (ovK bads way) ds) c9 c10 (.fz (.int (way : Int))) c12')
  | [], ds, way, c12, _, _ => ⟨c12, rfl⟩
  | k :: ks, ds, way, c12, h, hw => by
    obtain ⟨b, hb⟩ := hB k (h k List.mem_cons_self)
    have hk := h k List.mem_cons_self
    have hc : codes[k]? = some (codes.getD k 0) := by
      rw [List.getD_eq_getElem?_getD, List.getElem?_eq_getElem (show k < codes.length from hk)]; rfl
    have e := step_eq c0 c1 c2 c3 c4 c5 c6 c9 c10 bads ds way k b _ hb hc hw
    have hbf : badF bads k = b := by unfold badF; rw [hb]
    obtain ⟨c12', ih⟩ := step_loop hB ks (ovK bads way ds k) way (.fz (.int (k : Int))) (fun j hj => h j (List.mem_cons_of_mem _ hj)) (by rw [ovK_len]; exact hw)
    refine ⟨c12', ?_⟩
    have hs : ((env13 c0 c1 c2 c3 c4 c5 c6 bads ds c9 c10 (.fz (.int (way : Int))) c12).set 12 (cellOf (Md.fz, PyData.int (k : Int)))) = env13 c0 c1 c2 c3 c4 c5 c6 bads ds c9 c10 (.fz (.int (way : Int))) (.fz (.int (k : Int))) := rfl
    rw [List.map_cons, forGo_next (by rw [hs]; exact e), List.foldl_cons, ← ih]
    unfold ovK
    rw [hbf]
def KS : List (List Nat) := [[2, 0], [3, 2, 0], [2, 1], [3, 2], [2], [1]]
noncomputable def waysE : Ev → RV := mBin fIx (mLst (dCons (mTup (dCons (mC (.int 2)) (dCons (mC (.int 0)) dNil))) (dCons (mTup (dCons (mC (.int 3)) (dCons (mC (.int 2)) (dCons (mC (.int 0)) dNil)))) (dCons (mTup (dCons (mC (.int 2)) (dCons (mC (.int 1)) dNil))) (dCons (mTup (dCons (mC (.int 3)) (dCons (mC (.int 2)) dNil))) (dCons (mTup (dCons (mC (.int 2)) dNil)) (dCons (mTup (dCons (mC (.int 1)) dNil)) dNil))))))) (mVar 11)
theorem ways_eq (ρ : Ev) (way : Nat) (hw : way < 6) (h : ρ[11]? = some (.fz (.int (way : Int)))) : iT waysE ρ = .ok (false, (KS.getD way []).map fun k : Nat => (Md.fz, PyData.int (k : Int))) := by
  have hms : dCons (mTup (dCons (mC (.int 2)) (dCons (mC (.int 0)) dNil))) (dCons (mTup (dCons (mC (.int 3)) (dCons (mC (.int 2)) (dCons (mC (.int 0)) dNil)))) (dCons (mTup (dCons (mC (.int 2)) (dCons (mC (.int 1)) dNil))) (dCons (mTup (dCons (mC (.int 3)) (dCons (mC (.int 2)) dNil))) (dCons (mTup (dCons (mC (.int 2)) dNil)) (dCons (mTup (dCons (mC (.int 1)) dNil)) dNil))))) ρ = .ok (true, KS.map fun ks => .tuple (ks.map fun k : Nat => .int (k : Int))) := rfl
  have e : waysE ρ = .ok (.fz, .tuple ((KS.getD way []).map fun k : Nat => .int (k : Int))) := by
    unfold waysE
    have hkl : way < KS.length := hw
    rw [binE (lstE hms (by decide)) (m2 := .fz) (y := .int (way : Int)) (by rw [z_v0, h]; rfl), fIx_some (d := .tuple ((KS.getD way []).map fun k : Nat => .int (k : Int))) (by omega) (by rw [List.length_map]; omega) (by
      rw [Int.toNat_natCast, List.getElem?_map, List.getElem?_eq_getElem hkl, List.getD_eq_getElem?_getD, List.getElem?_eq_getElem hkl]; rfl)]
    rfl
  unfold iT
  rw [e, z_b1]
  simp only []
  rw [List.map_map]
  rfl
theorem ways_loop (hB : ∀ k, k < 4 → ∃ b, bads[k]? = some (.bool b)) : ∀ (l : List Nat) (ds : List D) (c11 c12 : Cell), (∀ k ∈ l, k < 6) → ds.length = 6 → ∃ c11' c12',
    forGo 11 (sFor (iT waysE) 12 stepB) (l.map fun k : Nat => (Md.fz, PyData.int (k : Int))) (env13 c0 c1 c2 c3 c4 c5 c6 bads ds c9 c10 c11 c12) = .next (env13 c0 c1 c2 c3 c4 c5 c6 bads (l.foldl (fun ds way => (KS.getD way []).foldl (ovK bads way) ds) ds) c9 c10 c11' c12')
  | [], ds, c11, c12, _, _ => ⟨c11, c12, rfl⟩
  | way :: l, ds, c11, c12, h, hl => by
    have hw := h way List.mem_cons_self
    have hks : ∀ k ∈ KS.getD way [], k < 4 := by
      rcases way with _ | _ | _ | _ | _ | _ | way
      all_goals first
        | (intro k hk; revert k; decide)
        | omega
    obtain ⟨c12', e⟩ := step_loop c0 c1 c2 c3 c4 c5 c6 c9 c10 bads hB (KS.getD way []) ds way c12 hks (by omega)
    have hf := forE (mi := iT waysE) (j := 12) (body := stepB) (ways_eq (env13 c0 c1 c2 c3 c4 c5 c6 bads ds c9 c10 (.fz (.int (way : Int))) c12) way hw rfl)
    rw [e] at hf
    have hlen : ((KS.getD way []).foldl (ovK bads way) ds).length = 6 := by
      have : ∀ (ks : List Nat) (ds : List D), (ks.foldl (ovK bads way) ds).length = ds.length := by
        intro ks
        induction ks with
        | nil => intro ds; rfl
        | cons k ks ih => intro ds; rw [List.foldl_cons, ih, ovK_len]
      rw [this]; exact hl
    obtain ⟨c11', c12'', ih⟩ := ways_loop hB l _ (.fz (.int (way : Int))) c12' (fun j hj => h j (List.mem_cons_of_mem _ hj)) hlen
    refine ⟨c11', c12'', ?_⟩
    have hs : ((env13 c0 c1 c2 c3 c4 c5 c6 bads ds c9 c10 c11 c12).set 11 (cellOf (Md.fz, PyData.int (way : Int)))) = env13 c0 c1 c2 c3 c4 c5 c6 bads ds c9 c10 (.fz (.int (way : Int))) c12 := rfl
    rw [List.map_cons, forGo_next (by rw [hs]; exact hf), List.foldl_cons, ← ih]
end
def ov (b : Bool) (c : Int) (d : D) : D := if b = true then .tuple [.int c] else d
def dueO (b0 b1 b2 b3 : Bool) (d0 d1 d2 d3 d4 d5 : D) : List D := [ov b0 0 (ov b2 3 d0), ov b0 0 (ov b2 3 (ov b3 4 d1)), ov b1 1 (ov b2 3 d2), ov b2 3 (ov b3 4 d3), ov b2 3 d4, ov b1 1 d5]
theorem due_over (b0 b1 b2 b3 : Bool) (d0 d1 d2 d3 d4 d5 : D) : (List.range 6).foldl (fun ds way => (KS.getD way []).foldl (ovK [.bool b0, .bool b1, .bool b2, .bool b3] way) ds) [d0, d1, d2, d3, d4, d5] = dueO b0 b1 b2 b3 d0 d1 d2 d3 d4 d5 := by
  cases b0 <;> cases b1 <;> cases b2 <;> cases b3 <;> rfl
end L2.Xq.Law
set_option Elab.async false
set_option linter.all false
set_option maxRecDepth 100000
set_option maxHeartbeats 4000000
namespace L2.Xq.Law
open PySem PySem.Spec PyProof.Rows
/-! ### things that are none -/
def szD : List D := [.int 0, .int 9, .bool true, .str "1", .none, .int (-1)]
theorem sz_bad : ∀ d ∈ szD, okRS d = false := by
  unfold okRS szD
  simp [wholeB]
def odD : List D := [.int (-1), .int 9, .bool true, .str "0", .none, .int (10 ^ 20)]
theorem od_bad : ∀ d ∈ odD, wholeB d 0 8 = false := by
  unfold odD
  simp [wholeB]
def plD (n : Nat) : List D := [.int (-1), .int (n : Int), .bool true, .str "0", .none, .int ((n : Int) + 10 ^ 20)]
theorem pl_bad (r : List Int) : ∀ d ∈ plD r.length, placeB (intsD r) d = false := by
  intro d hd
  show wholeB d 0 (((r.map PyData.int).length : Int) - 1) = false
  rw [List.length_map]
  unfold plD at hd
  simp only [List.mem_cons, List.not_mem_nil, or_false] at hd
  rcases hd with rfl | rfl | rfl | rfl | rfl | rfl <;> simp [wholeB] <;> omega
def mixD (w : List Int) (n : Nat) (o : D) (k : Nat) : List D := [.list ((w.take n).map .int ++ [o] ++ (w.drop n).map .int), .tuple (w.map .int), .list [], intsD (List.replicate k [0]).flatten, .none, .str "0"]
theorem row_mix {w : List Int} {n : Nat} {o : D} {m : Int} (h : wholeB o 0 8 = false) : rowB (.list ((w.take n).map .int ++ [o] ++ (w.drop n).map .int)) m 9 = false := by
  have : ((w.take n).map PyData.int ++ [o] ++ (w.drop n).map PyData.int).all (fun x => wholeB x 0 (9 - 1)) = false := by
    rw [List.all_append, List.all_append]
    simp [h]
  show (_ && _ && List.all _ _) = false
  rw [this, Bool.and_false]
theorem mix_bad (w : List Int) (n : Nat) (o : D) (h : wholeB o 0 8 = false) : ∀ d ∈ mixD w n o 9, okWordR d = false := by
  intro d hd
  unfold okWordR
  unfold mixD at hd
  simp only [List.mem_cons, List.not_mem_nil, or_false] at hd
  rcases hd with rfl | rfl | rfl | rfl | rfl | rfl
  · exact row_mix h
  · rfl
  · rfl
  · rfl
  · rfl
  · rfl
theorem mix_badR (w : List Int) (n : Nat) (o : D) (h : wholeB o 0 8 = false) : ∀ d ∈ mixD w n o 257, okRing d = false := by
  intro d hd
  unfold okRing
  unfold mixD at hd
  simp only [List.mem_cons, List.not_mem_nil, or_false] at hd
  rcases hd with rfl | rfl | rfl | rfl | rfl | rfl
  · exact row_mix h
  · rfl
  · rfl
  · have hl : (List.replicate 257 [(0 : Int)]).flatten.length = 257 := by simp
    generalize (List.replicate 257 [(0 : Int)]).flatten = l at hl
    have : decide ((((l.map PyData.int).length : Nat) : Int) ≤ 256) = false := by
      rw [List.length_map, hl]; rfl
    show (_ && decide ((((l.map PyData.int).length : Nat) : Int) ≤ 256) && _) = false
    rw [this, Bool.and_false, Bool.false_and]
  · rfl
  · rfl
def cx (b : Bool) (d : D) : Cell := if b = true then .fz d else .bo d
theorem cx_rd (b : Bool) (d : D) : rdC (some (cx b d)) = .ok (if b = true then .fz else .bo, d) := by cases b <;> rfl
section
variable (c0 c1 c2 c3 c4 c5 c6 c9 c10 c11 c12 : Cell) (b0 b1 b2 b3 : Bool) (ds : List D)
abbrev bl4 (b0 b1 b2 b3 : Bool) : List D := [.bool b0, .bool b1, .bool b2, .bool b3]
theorem bad_at (k : Nat) (b : Bool) (hb : (bl4 b0 b1 b2 b3)[k]? = some (.bool b)) : mTru (mBin fIx (mVar 7) (mC (.int (k : Int)))) (env13 c0 c1 c2 c3 c4 c5 c6 (bl4 b0 b1 b2 b3) ds c9 c10 c11 c12) = .ok b := by
  have hkl : k < (bl4 b0 b1 b2 b3).length := (List.getElem?_eq_some_iff.mp hb).1
  refine truE (m := .fz) ?_
  rw [binE (m1 := .tmp) (x := .list (bl4 b0 b1 b2 b3)) (m2 := .fz) (y := .int (k : Int)) rfl rfl, fIx_some (d := .bool b) (by omega) (by omega) (by rw [Int.toNat_natCast]; exact hb)]
  rfl
/-- the display of a row with an odd thing in it, and others -/
theorem mix_disp (i : Nat) (k : Nat) (hk : k ≤ 1000) (w : List Int) (hw : w.length ≤ 1000) (n : Nat) (hn : n ≤ w.length) (o : D) (ρ : Ev) (hi : rdC ρ[i]? = .ok (.bo, intsD w)) (h10 : ρ[10]? = some (.fz (.int (n : Int)))) (h9 : ρ[9]? = some (.fz o)) :
    dCons (mBin fAdd (mBin fAdd (mSl (mVar i) (fun _ => .ok none) (mPart (mVar 10))) (mLst (dCons (mVar 9) dNil))) (mSl (mVar i) (mPart (mVar 10)) (fun _ => .ok none))) (dCons (mBi fTuple (mCons (mVar i) mNil)) (dCons (mLst dNil) (dCons (mBin fMul (mLst (dCons (mC (.int 0)) dNil)) (mC (.int (k : Int)))) (dCons (mC .none) (dCons (mC (.str "0")) dNil))))) ρ = .ok (true, mixD w n o k) := by
  have ei : mVar i ρ = .ok (.bo, intsD w) := by rw [z_v0, hi]
  have e10 : mVar 10 ρ = .ok (.fz, .int (n : Int)) := by rw [z_v0, h10]; rfl
  have e9 : mVar 9 ρ = .ok (.fz, o) := by rw [z_v0, h9]; rfl
  have a1 := sl_take ei e10
  have a2 := lstE (dConsE (ms := dNil) e9 (.inl rfl) rfl) (by simp)
  have a3 := binE (g := fAdd) a1 a2
  rw [show fAdd .fr (intsD (w.take n)) .fr (.list [o]) = some (.fr, .list ((w.take n).map .int ++ [o])) by
    show fAdd .fr (.list ((w.take n).map .int)) .fr (.list [o]) = _
    rw [z_f2, if_pos (by simp; omega)]; rfl] at a3
  have a4 := sl_drop ei e10 hn
  have a5 := binE (g := fAdd) a3 a4
  rw [show fAdd .fr (.list ((w.take n).map .int ++ [o])) .fr (intsD (w.drop n)) = some (.fr, .list ((w.take n).map .int ++ [o] ++ (w.drop n).map .int)) by
    show fAdd .fr (.list ((w.take n).map .int ++ [o])) .fr (.list ((w.drop n).map .int)) = _
    rw [z_f2, if_pos (by simp; omega)]; rfl] at a5
  have a6 := biE1 (g := fTuple) ei
  rw [show fTuple [(Md.bo, intsD w)] = some (.fz, .tuple (w.map .int)) by
    show fTuple [(Md.bo, .list (w.map .int))] = _
    rw [z_tu1]
    have : elFz .bo (w.map PyData.int) = true := all_sc _
    rw [this]; rfl] at a6
  have a7 : mBin fMul (mLst (dCons (mC (.int 0)) dNil)) (mC (.int (k : Int))) ρ = .ok (.fr, intsD (List.replicate k [0]).flatten) := by
    have := binE (g := fMul) (lstE (ρ := ρ) (dConsE (ma := mC (.int 0)) (ms := dNil) (m := .fz) rfl (.inl rfl) rfl) (by simp)) (mb := mC (.int (k : Int))) (m2 := .fz) (y := .int (k : Int)) rfl
    rw [this]
    have e := fMul_rep .fr .fz [0] k (by omega) (by simp; omega)
    show Res.of (fMul .fr (intsD [0]) .fz (.int (k : Int))) = _
    rw [e]; rfl
  exact dConsE a5 (.inr rfl) (dConsE a6 (.inl rfl) (dConsE (m := .fr) rfl (.inr rfl) (dConsE a7 (.inr rfl) (dConsE (m := .fz) rfl (.inl rfl) (dConsE (m := .fz) rfl (.inl rfl) rfl)))))
end
end L2.Xq.Law
set_option Elab.async false
set_option linter.all false
set_option maxRecDepth 100000
set_option maxHeartbeats 4000000
namespace L2.Xq.Law
open PySem PySem.Spec PyProof.Rows
section
variable (K : PySem.W.Frag) (a : Addr) (ns : List Int)
/-- a good word -/
def isWord (w : List Int) : Prop := 1 ≤ w.length ∧ w.length ≤ 8 ∧ ∀ x ∈ w, 0 ≤ x ∧ x < 9
theorem isWord_ok {w : List Int} (h : isWord w) : okWordR (intsD w) = true := by
  unfold okWordR rowB intsD
  obtain ⟨h1, h2, h3⟩ := h
  simp only [List.length_map, Bool.and_eq_true, decide_eq_true_eq, List.all_map, List.all_eq_true]
  exact ⟨⟨h1, by omega⟩, fun x hx => by have := h3 x hx; simp [wholeB]; omega⟩
theorem isRing_ok {r : List Int} (h : isRing r) : okRing (intsD r) = true := by
  unfold okRing rowB intsD
  obtain ⟨h1, h2, h3⟩ := h
  simp only [List.length_map, Bool.and_eq_true, decide_eq_true_eq, List.all_map, List.all_eq_true]
  exact ⟨⟨h1, by omega⟩, fun x hx => by have := h3 x hx; simp [wholeB]; omega⟩
theorem size_ok {m : Nat} (h1 : 1 ≤ m) (h2 : m ≤ 8) : okRS (.int (m : Int)) = true := by
  unfold okRS
  simp [wholeB]
  omega
theorem place_ok {r : List Int} {p : Nat} (hp : p < r.length) : placeB (intsD r) (.int (p : Int)) = true := by
  show wholeB (.int (p : Int)) 0 (((r.map PyData.int).length : Int) - 1) = true
  rw [List.length_map]
  simp [wholeB]
  omega
noncomputable def badsE : Ev → RV := mComp (iR1 (mC (.int 4))) 12 tYesM (mBin fEq (mBin fMod (mBin fFdiv (mVar 6) (mBin fIx (mLst (dCons (mC (.int 1)) (dCons (mC (.int 2)) (dCons (mC (.int 4)) (dCons (mC (.int 8)) dNil))))) (mVar 12))) (mC (.int 2))) (mC (.int 1)))
def pows : List Int := [1, 2, 4, 8]
theorem bads_eq (ρ : Ev) (fl : Int) (hl : 12 < ρ.length) (h6 : ρ[6]? = some (.fz (.int fl))) : ∃ b0 b1 b2 b3, badsE ρ = .ok (.fr, .list (bl4 b0 b1 b2 b3)) := by
  have key := mComp_range (ma := mC (.int 4)) (j := 12) (me := mBin fEq (mBin fMod (mBin fFdiv (mVar 6) (mBin fIx (mLst (dCons (mC (.int 1)) (dCons (mC (.int 2)) (dCons (mC (.int 4)) (dCons (mC (.int 8)) dNil))))) (mVar 12))) (mC (.int 2))) (mC (.int 1))) (ρ := ρ) (md := .fz) (n := 4) (fun k => .bool (decide ((fl.fdiv (pows.getD k 1)).fmod 2 = 1))) rfl (by omega) (fun k hk => by
    have hpk : pows[k]? = some (pows.getD k 1) := by
      rw [List.getD_eq_getElem?_getD, List.getElem?_eq_getElem (show k < pows.length from hk)]; rfl
    have hms : dCons (mC (.int 1)) (dCons (mC (.int 2)) (dCons (mC (.int 4)) (dCons (mC (.int 8)) dNil))) (ρ.set 12 (.fz (.int (k : Int)))) = .ok (true, pows.map .int) := rfl
    have h1 := binE (g := fIx) (lstE hms (by decide)) (mb := mVar 12) (m2 := .fz) (y := .int (k : Int)) (by rw [z_v0, List.getElem?_set_self hl]; rfl)
    rw [fIx_some (d := .int (pows.getD k 1)) (by omega) (by rw [List.length_map]; exact Int.ofNat_lt.mpr hk) (by rw [Int.toNat_natCast, List.getElem?_map, hpk]; rfl)] at h1
    have hne : pows.getD k 1 ≠ 0 ∧ (pows.getD k 1).natAbs < 1073741824 := by
      rcases k with _ | _ | _ | _ | k
      all_goals first
        | exact ⟨by decide, by decide⟩
        | omega
    have h2 := eDiv2 (ma := mVar 6) (ρ := ρ.set 12 (.fz (.int (k : Int)))) (m := .fz) (x := fl) (by rw [z_v0, List.getElem?_set_ne (by decide), h6]; rfl) (show _ = Res.ok (Md.fz, PyData.int _) from h1) hne
    have h3 := eMod h2 (k := 2) (by decide)
    refine ⟨.fz, ?_, .inl rfl⟩
    rw [binE h3 (m2 := .fz) (y := .int 1) rfl, fEq_int]
    rfl)
  exact ⟨_, _, _, _, key⟩
def dueOf (b0 b1 b2 b3 : Bool) (l : List D) : List D := match l with
  | [d0, d1, d2, d3, d4, d5] => dueO b0 b1 b2 b3 d0 d1 d2 d3 d4 d5
  | l => l
theorem refused_eq (r : List Int) (m p : Nat) (w : List Int) (hr : isRing r) (m1 : 1 ≤ m) (m2 : m ≤ 8) (hp : p < r.length) (hw : isWord w) : ∃ R S P W b0 b1 b2 b3, d__law_refused K a ns [intsD r, .int (m : Int), .int (p : Int), intsD w] = .ok (.tuple [R, S, P, W, .list (dueOf b0 b1 b2 b3 (dueD r m p w))]) ∧
    (if b0 = true then okRS S = false else S = .int (m : Int)) ∧ (if b1 = true then okWordR W = false else W = intsD w) ∧ (if b2 = true then okRing R = false else R = intsD r) ∧ (if b3 = true then placeB (intsD r) P = false else P = .int (p : Int)) := by
  obtain ⟨r1, r2, r3⟩ := hr
  obtain ⟨w1, w2, w3⟩ := hw
  obtain ⟨c4, h4⟩ := callS_cell K a ns (ρ := [.scr K a ns, .bo (intsD r), .fz (.int (m : Int)), .fz (.int (p : Int)), .bo (intsD w), .un, .un, .un, .un, .un, .un, .un, .un]) rfl 4 (by omega)
  have e5 := eDiv h4 (k := 15) ⟨by decide, by decide⟩
  generalize c4.fdiv 15 = c at e5
  obtain ⟨c4', h4'⟩ := callS_cell K a ns (ρ := [.scr K a ns, .bo (intsD r), .fz (.int (m : Int)), .fz (.int (p : Int)), .bo (intsD w), .fz (.int c), .un, .un, .un, .un, .un, .un, .un]) rfl 4 (by omega)
  have e6 := eAdd (ma := mC (.int 1)) (m := .fz) (x := 1) rfl (eMod h4' (k := 15) (by decide))
  generalize 1 + c4'.fmod 15 = fl at e6
  obtain ⟨b0, b1, b2, b3, e7⟩ := bads_eq [.scr K a ns, .bo (intsD r), .fz (.int (m : Int)), .fz (.int (p : Int)), .bo (intsD w), .fz (.int c), .fz (.int fl), .un, .un, .un, .un, .un, .un] fl (by simp) rfl
  have e8 := callE4 (f := d__law_due) (ma := mVar 1) (mb := mVar 2) (mc := mVar 3) (md' := mVar 4) (ρ := [.scr K a ns, .bo (intsD r), .fz (.int (m : Int)), .fz (.int (p : Int)), .bo (intsD w), .fz (.int c), .fz (.int fl), .ow (bl4 b0 b1 b2 b3), .un, .un, .un, .un, .un]) (m1 := .bo) (m2 := .fz) (m3 := .fz) (m4 := .bo) rfl rfl rfl rfl
  rw [due_eq r m p w r1 (by omega) (by omega) hp w1 (by omega)] at e8
  generalize hdue : dueD r m p w = due at e8 ⊢
  obtain ⟨i9, o, _, ho, e9⟩ := pick6 (ms := dCons (mNeg (mC (.int 1))) (dCons (mC (.int 9)) (dCons (mC (.bool true)) (dCons (mC (.str "0")) (dCons (mC .none) (dCons (mBin fPow (mC (.int 10)) (mC (.int 20))) dNil)))))) (e := mVar 5) (ρ := [.scr K a ns, .bo (intsD r), .fz (.int (m : Int)), .fz (.int (p : Int)), .bo (intsD w), .fz (.int c), .fz (.int fl), .ow (bl4 b0 b1 b2 b3), .ow due, .un, .un, .un, .un]) (ds := odD) (m := .fz) (x := c)
    (dConsE (m := .fz) rfl (.inl rfl) (dConsE (m := .fz) rfl (.inl rfl) (dConsE (m := .fz) rfl (.inl rfl) (dConsE (m := .fz) rfl (.inl rfl) (dConsE (m := .fz) rfl (.inl rfl) (dConsE (powE 10 20 _ ⟨by decide, by decide, by decide⟩) (.inl rfl) rfl)))))) rfl rfl
  have hob := od_bad o (List.mem_of_getElem? ho)
  -- the place
  have s6 : ∃ P, (if b3 = true then placeB (intsD r) P = false else P = .int (p : Int)) ∧ sIf (mTru (mBin fIx (mVar 7) (mC (.int 3)))) (sAsg 3 (mBin fIx (mLst (dCons (mNeg (mC (.int 1))) (dCons (mBi fLen (mCons (mVar 1) mNil)) (dCons (mC (.bool true)) (dCons (mC (.str "0")) (dCons (mC .none) (dCons (mBin fAdd (mBi fLen (mCons (mVar 1) mNil)) (mBin fPow (mC (.int 10)) (mC (.int 20)))) dNil))))))) (mBin fMod (mVar 5) (mC (.int 6))))) sNext (env13 (.scr K a ns) (.bo (intsD r)) (.fz (.int (m : Int))) (.fz (.int (p : Int))) (.bo (intsD w)) (.fz (.int c)) (.fz (.int fl)) (bl4 b0 b1 b2 b3) due (.fz o) .un .un .un) = .next (env13 (.scr K a ns) (.bo (intsD r)) (.fz (.int (m : Int))) (.fz P) (.bo (intsD w)) (.fz (.int c)) (.fz (.int fl)) (bl4 b0 b1 b2 b3) due (.fz o) .un .un .un) := by
    have t := ifE (m := sAsg 3 (mBin fIx (mLst (dCons (mNeg (mC (.int 1))) (dCons (mBi fLen (mCons (mVar 1) mNil)) (dCons (mC (.bool true)) (dCons (mC (.str "0")) (dCons (mC .none) (dCons (mBin fAdd (mBi fLen (mCons (mVar 1) mNil)) (mBin fPow (mC (.int 10)) (mC (.int 20)))) dNil))))))) (mBin fMod (mVar 5) (mC (.int 6))))) (n := sNext) (bad_at (.scr K a ns) (.bo (intsD r)) (.fz (.int (m : Int))) (.fz (.int (p : Int))) (.bo (intsD w)) (.fz (.int c)) (.fz (.int fl)) (.fz o) .un .un .un b0 b1 b2 b3 due 3 b3 rfl)
    have t := t
    cases hb : b3 with
    | false => rw [hb] at t; exact ⟨_, by simp, t⟩
    | true =>
      rw [hb] at t
      have hl : mBi fLen (mCons (mVar 1) mNil) (env13 (.scr K a ns) (.bo (intsD r)) (.fz (.int (m : Int))) (.fz (.int (p : Int))) (.bo (intsD w)) (.fz (.int c)) (.fz (.int fl)) (bl4 b0 b1 b2 true) due (.fz o) .un .un .un) = .ok (.fz, .int r.length) := by
        rw [biE1 (m1 := .bo) (x := intsD r) rfl, fLen_ints]; rfl
      obtain ⟨i, P, _, hP, eP⟩ := pick6 (ms := dCons (mNeg (mC (.int 1))) (dCons (mBi fLen (mCons (mVar 1) mNil)) (dCons (mC (.bool true)) (dCons (mC (.str "0")) (dCons (mC .none) (dCons (mBin fAdd (mBi fLen (mCons (mVar 1) mNil)) (mBin fPow (mC (.int 10)) (mC (.int 20)))) dNil)))))) (e := mVar 5) (ρ := env13 (.scr K a ns) (.bo (intsD r)) (.fz (.int (m : Int))) (.fz (.int (p : Int))) (.bo (intsD w)) (.fz (.int c)) (.fz (.int fl)) (bl4 b0 b1 b2 true) due (.fz o) .un .un .un) (ds := plD r.length) (m := .fz) (x := c)
        (dConsE (m := .fz) rfl (.inl rfl) (dConsE hl (.inl rfl) (dConsE (m := .fz) rfl (.inl rfl) (dConsE (m := .fz) rfl (.inl rfl) (dConsE (m := .fz) rfl (.inl rfl) (dConsE (eAdd hl (powE 10 20 _ ⟨by decide, by decide, by decide⟩)) (.inl rfl) rfl)))))) rfl rfl
      exact ⟨P, by rw [if_pos rfl]; exact pl_bad r P (List.mem_of_getElem? hP), t.trans (asgE eP rfl)⟩
  obtain ⟨P, hP, s6⟩ := s6
  -- the size
  have s7 : ∃ S, (if b0 = true then okRS S = false else S = .int (m : Int)) ∧ sIf (mTru (mBin fIx (mVar 7) (mC (.int 0)))) (sAsg 2 (mBin fIx (mLst (dCons (mC (.int 0)) (dCons (mC (.int 9)) (dCons (mC (.bool true)) (dCons (mC (.str "1")) (dCons (mC .none) (dCons (mNeg (mC (.int 1))) dNil))))))) (mBin fMod (mVar 5) (mC (.int 6))))) sNext (env13 (.scr K a ns) (.bo (intsD r)) (.fz (.int (m : Int))) (.fz P) (.bo (intsD w)) (.fz (.int c)) (.fz (.int fl)) (bl4 b0 b1 b2 b3) due (.fz o) .un .un .un) = .next (env13 (.scr K a ns) (.bo (intsD r)) (.fz S) (.fz P) (.bo (intsD w)) (.fz (.int c)) (.fz (.int fl)) (bl4 b0 b1 b2 b3) due (.fz o) .un .un .un) := by
    have t := ifE (m := sAsg 2 (mBin fIx (mLst (dCons (mC (.int 0)) (dCons (mC (.int 9)) (dCons (mC (.bool true)) (dCons (mC (.str "1")) (dCons (mC .none) (dCons (mNeg (mC (.int 1))) dNil))))))) (mBin fMod (mVar 5) (mC (.int 6))))) (n := sNext) (bad_at (.scr K a ns) (.bo (intsD r)) (.fz (.int (m : Int))) (.fz P) (.bo (intsD w)) (.fz (.int c)) (.fz (.int fl)) (.fz o) .un .un .un b0 b1 b2 b3 due 0 b0 rfl)
    cases hb : b0 with
    | false => rw [hb] at t; exact ⟨_, by simp, t⟩
    | true =>
      rw [hb] at t
      obtain ⟨i, S, _, hS, eS⟩ := pick6 (ms := dCons (mC (.int 0)) (dCons (mC (.int 9)) (dCons (mC (.bool true)) (dCons (mC (.str "1")) (dCons (mC .none) (dCons (mNeg (mC (.int 1))) dNil)))))) (e := mVar 5) (ρ := env13 (.scr K a ns) (.bo (intsD r)) (.fz (.int (m : Int))) (.fz P) (.bo (intsD w)) (.fz (.int c)) (.fz (.int fl)) (bl4 true b1 b2 b3) due (.fz o) .un .un .un) (ds := szD) (m := .fz) (x := c) rfl rfl rfl
      exact ⟨S, by rw [if_pos rfl]; exact sz_bad S (List.mem_of_getElem? hS), t.trans (asgE eS rfl)⟩
  obtain ⟨S, hS, s7⟩ := s7
  -- the word
  have s8 : ∃ W c10, (if b1 = true then okWordR W = false else W = intsD w) ∧ sIf (mTru (mBin fIx (mVar 7) (mC (.int 1)))) (sSeq (sAsg 10 (mBin fMod (mBin fFdiv (mVar 5) (mC (.int 216))) (mBin fAdd (mBi fLen (mCons (mVar 4) mNil)) (mC (.int 1))))) (sFrz 9 (sAsg 4 (mBin fIx (mLst (dCons (mBin fAdd (mBin fAdd (mSl (mVar 4) (fun _ => .ok none) (mPart (mVar 10))) (mLst (dCons (mVar 9) dNil))) (mSl (mVar 4) (mPart (mVar 10)) (fun _ => .ok none))) (dCons (mBi fTuple (mCons (mVar 4) mNil)) (dCons (mLst dNil) (dCons (mBin fMul (mLst (dCons (mC (.int 0)) dNil)) (mC (.int 9))) (dCons (mC .none) (dCons (mC (.str "0")) dNil))))))) (mBin fMod (mBin fFdiv (mVar 5) (mC (.int 6))) (mC (.int 6))))))) sNext (env13 (.scr K a ns) (.bo (intsD r)) (.fz S) (.fz P) (.bo (intsD w)) (.fz (.int c)) (.fz (.int fl)) (bl4 b0 b1 b2 b3) due (.fz o) .un .un .un) = .next (env13 (.scr K a ns) (.bo (intsD r)) (.fz S) (.fz P) (cx b1 W) (.fz (.int c)) (.fz (.int fl)) (bl4 b0 b1 b2 b3) due (.fz o) c10 .un .un) := by
    have t := ifE (m := sSeq (sAsg 10 (mBin fMod (mBin fFdiv (mVar 5) (mC (.int 216))) (mBin fAdd (mBi fLen (mCons (mVar 4) mNil)) (mC (.int 1))))) (sFrz 9 (sAsg 4 (mBin fIx (mLst (dCons (mBin fAdd (mBin fAdd (mSl (mVar 4) (fun _ => .ok none) (mPart (mVar 10))) (mLst (dCons (mVar 9) dNil))) (mSl (mVar 4) (mPart (mVar 10)) (fun _ => .ok none))) (dCons (mBi fTuple (mCons (mVar 4) mNil)) (dCons (mLst dNil) (dCons (mBin fMul (mLst (dCons (mC (.int 0)) dNil)) (mC (.int 9))) (dCons (mC .none) (dCons (mC (.str "0")) dNil))))))) (mBin fMod (mBin fFdiv (mVar 5) (mC (.int 6))) (mC (.int 6))))))) (n := sNext) (bad_at (.scr K a ns) (.bo (intsD r)) (.fz S) (.fz P) (.bo (intsD w)) (.fz (.int c)) (.fz (.int fl)) (.fz o) .un .un .un b0 b1 b2 b3 due 1 b1 rfl)
    cases hb : b1 with
    | false => rw [hb] at t; exact ⟨intsD w, .un, by simp, t⟩
    | true =>
      rw [hb] at t
      have hl : mBi fLen (mCons (mVar 4) mNil) (env13 (.scr K a ns) (.bo (intsD r)) (.fz S) (.fz P) (.bo (intsD w)) (.fz (.int c)) (.fz (.int fl)) (bl4 b0 true b2 b3) due (.fz o) .un .un .un) = .ok (.fz, .int w.length) := by
        rw [biE1 (m1 := .bo) (x := intsD w) rfl, fLen_ints]; rfl
      have e10 := eMod2 (eDiv (ma := mVar 5) (m := .fz) (x := c) (k := 216) rfl ⟨by decide, by decide⟩) (eAdd hl (mb := mC (.int 1)) (m' := .fz) (y := 1) rfl) (by omega)
      obtain ⟨g1, g2⟩ := fmod_lt (c.fdiv 216) (k := (w.length : Int) + 1) (by omega)
      obtain ⟨n, hn⟩ : ∃ n : Nat, (c.fdiv 216).fmod ((w.length : Int) + 1) = (n : Int) := ⟨((c.fdiv 216).fmod ((w.length : Int) + 1)).toNat, by omega⟩
      rw [hn] at e10
      have hd := mix_disp 4 9 (by omega) w (by omega) n (by omega) o (env13 (.scr K a ns) (.bo (intsD r)) (.fz S) (.fz P) (.bo (intsD w)) (.fz (.int c)) (.fz (.int fl)) (bl4 b0 true b2 b3) due (.fz o) (.fz (.int (n : Int))) .un .un) rfl rfl rfl
      obtain ⟨i, W, _, hW, eW⟩ := pick6 hd (eDiv (ma := mVar 5) (m := .fz) (x := c) (k := 6) rfl ⟨by decide, by decide⟩) rfl
      refine ⟨W, .fz (.int (n : Int)), by rw [if_pos rfl]; exact mix_bad w n o hob W (List.mem_of_getElem? hW), t.trans ?_⟩
      rw [if_pos rfl, seqAsg e10 (ρ' := env13 (.scr K a ns) (.bo (intsD r)) (.fz S) (.fz P) (.bo (intsD w)) (.fz (.int c)) (.fz (.int fl)) (bl4 b0 true b2 b3) due (.fz o) (.fz (.int (n : Int))) .un .un) rfl]
      exact asgE eW rfl
  obtain ⟨W, c10, hW, s8⟩ := s8
  -- the ring
  have s9 : ∃ R c10', (if b2 = true then okRing R = false else R = intsD r) ∧ sIf (mTru (mBin fIx (mVar 7) (mC (.int 2)))) (sSeq (sAsg 10 (mBin fMod (mBin fFdiv (mVar 5) (mC (.int 216))) (mBin fAdd (mBi fLen (mCons (mVar 1) mNil)) (mC (.int 1))))) (sFrz 9 (sAsg 1 (mBin fIx (mLst (dCons (mBin fAdd (mBin fAdd (mSl (mVar 1) (fun _ => .ok none) (mPart (mVar 10))) (mLst (dCons (mVar 9) dNil))) (mSl (mVar 1) (mPart (mVar 10)) (fun _ => .ok none))) (dCons (mBi fTuple (mCons (mVar 1) mNil)) (dCons (mLst dNil) (dCons (mBin fMul (mLst (dCons (mC (.int 0)) dNil)) (mC (.int 257))) (dCons (mC .none) (dCons (mC (.str "0")) dNil))))))) (mBin fMod (mBin fFdiv (mVar 5) (mC (.int 36))) (mC (.int 6))))))) sNext (env13 (.scr K a ns) (.bo (intsD r)) (.fz S) (.fz P) (cx b1 W) (.fz (.int c)) (.fz (.int fl)) (bl4 b0 b1 b2 b3) due (.fz o) c10 .un .un) = .next (env13 (.scr K a ns) (cx b2 R) (.fz S) (.fz P) (cx b1 W) (.fz (.int c)) (.fz (.int fl)) (bl4 b0 b1 b2 b3) due (.fz o) c10' .un .un) := by
    have t := ifE (m := sSeq (sAsg 10 (mBin fMod (mBin fFdiv (mVar 5) (mC (.int 216))) (mBin fAdd (mBi fLen (mCons (mVar 1) mNil)) (mC (.int 1))))) (sFrz 9 (sAsg 1 (mBin fIx (mLst (dCons (mBin fAdd (mBin fAdd (mSl (mVar 1) (fun _ => .ok none) (mPart (mVar 10))) (mLst (dCons (mVar 9) dNil))) (mSl (mVar 1) (mPart (mVar 10)) (fun _ => .ok none))) (dCons (mBi fTuple (mCons (mVar 1) mNil)) (dCons (mLst dNil) (dCons (mBin fMul (mLst (dCons (mC (.int 0)) dNil)) (mC (.int 257))) (dCons (mC .none) (dCons (mC (.str "0")) dNil))))))) (mBin fMod (mBin fFdiv (mVar 5) (mC (.int 36))) (mC (.int 6))))))) (n := sNext) (bad_at (.scr K a ns) (.bo (intsD r)) (.fz S) (.fz P) (cx b1 W) (.fz (.int c)) (.fz (.int fl)) (.fz o) c10 .un .un b0 b1 b2 b3 due 2 b2 rfl)
    cases hb : b2 with
    | false => rw [hb] at t; exact ⟨intsD r, c10, by simp, t⟩
    | true =>
      rw [hb] at t
      have hl : mBi fLen (mCons (mVar 1) mNil) (env13 (.scr K a ns) (.bo (intsD r)) (.fz S) (.fz P) (cx b1 W) (.fz (.int c)) (.fz (.int fl)) (bl4 b0 b1 true b3) due (.fz o) c10 .un .un) = .ok (.fz, .int r.length) := by
        rw [biE1 (m1 := .bo) (x := intsD r) rfl, fLen_ints]; rfl
      have e10 := eMod2 (eDiv (ma := mVar 5) (m := .fz) (x := c) (k := 216) rfl ⟨by decide, by decide⟩) (eAdd hl (mb := mC (.int 1)) (m' := .fz) (y := 1) rfl) (by omega)
      obtain ⟨g1, g2⟩ := fmod_lt (c.fdiv 216) (k := (r.length : Int) + 1) (by omega)
      obtain ⟨n, hn⟩ : ∃ n : Nat, (c.fdiv 216).fmod ((r.length : Int) + 1) = (n : Int) := ⟨((c.fdiv 216).fmod ((r.length : Int) + 1)).toNat, by omega⟩
      rw [hn] at e10
      have hd := mix_disp 1 257 (by omega) r (by omega) n (by omega) o (env13 (.scr K a ns) (.bo (intsD r)) (.fz S) (.fz P) (cx b1 W) (.fz (.int c)) (.fz (.int fl)) (bl4 b0 b1 true b3) due (.fz o) (.fz (.int (n : Int))) .un .un) rfl rfl rfl
      obtain ⟨i, R, _, hR, eR⟩ := pick6 hd (eDiv (ma := mVar 5) (m := .fz) (x := c) (k := 36) rfl ⟨by decide, by decide⟩) rfl
      refine ⟨R, .fz (.int (n : Int)), by rw [if_pos rfl]; exact mix_badR r n o hob R (List.mem_of_getElem? hR), t.trans ?_⟩
      rw [if_pos rfl, seqAsg e10 (ρ' := env13 (.scr K a ns) (.bo (intsD r)) (.fz S) (.fz P) (cx b1 W) (.fz (.int c)) (.fz (.int fl)) (bl4 b0 b1 true b3) due (.fz o) (.fz (.int (n : Int))) .un .un) rfl]
      exact asgE eR rfl
  obtain ⟨R, c10', hR, s9⟩ := s9
  -- the loops
  have hB : ∀ k, k < 4 → ∃ b, (bl4 b0 b1 b2 b3)[k]? = some (.bool b) := by
    intro k hk
    rcases k with _ | _ | _ | _ | k
    all_goals first
      | exact ⟨_, rfl⟩
      | omega
  have hit : rangeD 0 6 = (List.range 6).map fun k : Nat => (Md.fz, PyData.int (k : Int)) := by
    unfold rangeD
    refine List.map_congr_left fun k _ => ?_
    rw [Int.zero_add]
  have hdl : due.length = 6 := by rw [← hdue]; rfl
  obtain ⟨c11, c12, hloop⟩ := ways_loop (.scr K a ns) (cx b2 R) (.fz S) (.fz P) (cx b1 W) (.fz (.int c)) (.fz (.int fl)) (.fz o) c10' (bl4 b0 b1 b2 b3) hB (List.range 6) due .un .un (fun k hk => List.mem_range.mp hk) hdl
  have hf := forE (mi := iR1 (mC (.int 6))) (j := 11) (body := sFor (iT waysE) 12 stepB) (ρ := env13 (.scr K a ns) (cx b2 R) (.fz S) (.fz P) (cx b1 W) (.fz (.int c)) (.fz (.int fl)) (bl4 b0 b1 b2 b3) due (.fz o) c10' .un .un) (iR1_ok (m := .fz) (n := 6) rfl (by omega))
  rw [hit] at hf
  have hf := hf.trans hloop
  have hov : (List.range 6).foldl (fun ds way => (KS.getD way []).foldl (ovK (bl4 b0 b1 b2 b3) way) ds) due = dueOf b0 b1 b2 b3 due := by
    match due, hdl with
    | [d0, d1, d2, d3, d4, d5], _ => exact due_over b0 b1 b2 b3 d0 d1 d2 d3 d4 d5
  rw [hov] at hf
  refine ⟨R, S, P, W, b0, b1, b2, b3, ?_, hS, hW, hR, hP⟩
  generalize dueOf b0 b1 b2 b3 due = out at hf ⊢
  show endB (m__law_refused K a ns [.scr K a ns, .bo (intsD r), .fz (.int (m : Int)), .fz (.int (p : Int)), .bo (intsD w), .un, .un, .un, .un, .un, .un, .un, .un]) = _
  unfold m__law_refused
  rw [seqAsg e5 (ρ' := [.scr K a ns, .bo (intsD r), .fz (.int (m : Int)), .fz (.int (p : Int)), .bo (intsD w), .fz (.int c), .un, .un, .un, .un, .un, .un, .un]) rfl]
  rw [seqAsg e6 (ρ' := [.scr K a ns, .bo (intsD r), .fz (.int (m : Int)), .fz (.int (p : Int)), .bo (intsD w), .fz (.int c), .fz (.int fl), .un, .un, .un, .un, .un, .un]) rfl]
  unfold badsE at e7
  rw [seqAsg e7 (ρ' := [.scr K a ns, .bo (intsD r), .fz (.int (m : Int)), .fz (.int (p : Int)), .bo (intsD w), .fz (.int c), .fz (.int fl), .ow (bl4 b0 b1 b2 b3), .un, .un, .un, .un, .un]) rfl]
  rw [seqAsg (v := (.fr, .list due)) e8 (ρ' := [.scr K a ns, .bo (intsD r), .fz (.int (m : Int)), .fz (.int (p : Int)), .bo (intsD w), .fz (.int c), .fz (.int fl), .ow (bl4 b0 b1 b2 b3), .ow due, .un, .un, .un, .un]) rfl]
  rw [seqAsg e9 (ρ' := env13 (.scr K a ns) (.bo (intsD r)) (.fz (.int (m : Int))) (.fz (.int (p : Int))) (.bo (intsD w)) (.fz (.int c)) (.fz (.int fl)) (bl4 b0 b1 b2 b3) due (.fz o) .un .un .un) rfl]
  rw [seqE s6, seqE s7, seqE s8, seqE s9]
  unfold waysE stepB at hf
  rw [seqE hf]
  have hfr : frzC 8 (env13 (.scr K a ns) (cx b2 R) (.fz S) (.fz P) (cx b1 W) (.fz (.int c)) (.fz (.int fl)) (bl4 b0 b1 b2 b3) out (.fz o) c10' c11 c12) = [.scr K a ns, cx b2 R, .fz S, .fz P, cx b1 W, .fz (.int c), .fz (.int fl), .ow (bl4 b0 b1 b2 b3), .fz (.list out), .fz o, c10', c11, c12] := rfl
  unfold sFrz
  rw [hfr]
  have dx : ∀ (b : Bool) (d : D), ∃ b', dOne (if b = true then Md.fz else .bo, d) = .ok (b', [d]) := fun b d => by cases b <;> exact ⟨_, rfl⟩
  obtain ⟨y1, d1⟩ := dx b2 R
  obtain ⟨y4, d4⟩ := dx b1 W
  have ht := tupE (dConsG (ma := mVar 1) (ρ := [.scr K a ns, cx b2 R, .fz S, .fz P, cx b1 W, .fz (.int c), .fz (.int fl), .ow (bl4 b0 b1 b2 b3), .fz (.list out), .fz o, c10', c11, c12]) (cx_rd b2 R) d1 (dConsG (ma := mVar 2) (x := (.fz, S)) rfl rfl (dConsG (ma := mVar 3) (x := (.fz, P)) rfl rfl (dConsG (ma := mVar 4) (cx_rd b1 W) d4 (dConsG (ma := mVar 8) (x := (.fz, .list out)) (ms := dNil) rfl rfl rfl))))) (by simp)
  unfold sRet
  rw [ht, z_s1]
  exact endB_tup _ _
end
end L2.Xq.Law
set_option Elab.async false
set_option linter.all false
set_option maxRecDepth 100000
set_option maxHeartbeats 4000000
namespace L2.Xq.Law
open PySem PySem.Spec PyProof.Rows
/-! ### kinds -/
def noBool (d : D) : Bool := match d with
  | .bool _ => false
  | _ => true
theorem noBool_kit {d : D} (h : noBool d = true) : kitB (tyName d) "bool" = some false := by
  cases d <;> first | rfl | cases h
theorem kinds_comp (d : D) (ds : List D) (hd : d = .list ds ∨ d = .tuple ds) (h : ∀ x ∈ ds, noBool x = true) (hl : ds.length ≤ 16777216) : mComp (iLT (mVar 0)) 1 (mTru (mIsi "bool" (mVar 1))) (mVar 1) [parC d, .un] = .ok (.fr, .list []) := by
  have hi : iLT (mVar 0) [parC d, .un] = .ok (false, ds.map fun x => (.bo, x)) := by
    rcases hd with rfl | rfl <;> rfl
  have hc := comp_none (body := compBody 1 (mTru (mIsi "bool" (mVar 1))) (mVar 1) [parC d, .un]) (ds.map fun x => (Md.bo, x)) true [] (fun x hx => by
    obtain ⟨y, hy, rfl⟩ := List.mem_map.mp hx
    have e : mIsi "bool" (mVar 1) (([parC d, .un] : Ev).set 1 (cellOf (Md.bo, y))) = .ok (.fz, .bool false) := by
      show (Res.ok (Md.bo, y)).bind _ = _
      rw [z_b1, noBool_kit (h y hy)]
      rfl
    unfold compBody
    rw [truE e]
    rfl)
  exact mComp_ok hi (by simpa using hl) hc
theorem kinds_eq (d : D) (ds : List D) (hd : d = .list ds ∨ d = .tuple ds) (h : ∀ x ∈ ds, noBool x = true) (hl : ds.length ≤ 16777216) : d__law_kinds [d] = .ok (.bool true) := by
  have hc := kinds_comp d ds hd h hl
  show endM (m__law_kinds [parC d, .un]) = _
  unfold m__law_kinds
  refine endRet1 (md := .fz) ?_ (.inl rfl)
  have e1 : mIsi2 "list" "tuple" (mVar 0) [parC d, .un] = .ok (.fz, .bool true) := by
    rcases hd with rfl | rfl <;> rfl
  have e2 := binE (g := fEq) hc (mb := mLst dNil) (m2 := .fr) (y := .list []) rfl
  rw [fEq_nil] at e2
  show ((mB (mIsi2 "list" "tuple" (mVar 0)) [parC d, .un]).bind fun b => if b = true then _ else _) = _
  unfold mB
  rw [e1]
  exact e2
/-! ### what is due compares with itself -/
theorem lays_of : ∀ {ds : List D}, (∀ d ∈ ds, d.canLay0 = true) → PyData.canLayAll0 ds = true
  | [], _ => by simp [PyData.canLayAll0]
  | d :: ds, h => by
    rw [PyData.canLayAll0, h d List.mem_cons_self, lays_of fun x hx => h x (List.mem_cons_of_mem _ hx)]; rfl
theorem depths_of {n : Nat} : ∀ {ds : List D}, (∀ d ∈ ds, d.depth ≤ n) → PyData.depthAll ds ≤ n
  | [], _ => by simp [PyData.depthAll]
  | d :: ds, h => by
    rw [PyData.depthAll]
    exact Nat.max_le.mpr ⟨h d List.mem_cons_self, depths_of fun x hx => h x (List.mem_cons_of_mem _ hx)⟩
theorem shaped_list {ds : List D} (h : ∀ d ∈ ds, d.canLay0 = true ∧ d.depth ≤ 3) : SeqAt.shaped (.list ds) = true := by
  unfold SeqAt.shaped
  have h1 := lays_of fun d hd => (h d hd).1
  have h2 := depths_of (n := 3) fun d hd => (h d hd).2
  simp [PyData.canLay0, h1, PyData.depth]
  omega
theorem fEq_self (m m' : Md) {ds : List D} (h : SeqAt.shaped (.list ds) = true) : fEq m (.list ds) m' (.list ds) = some (.fz, .bool true) := by
  unfold fEq
  rw [h, SeqAt.eqv_refl _ (SeqAt.canLay_of_shaped h)]
  rfl
theorem fNe_self (m m' : Md) {ds : List D} (h : SeqAt.shaped (.list ds) = true) : fNe m (.list ds) m' (.list ds) = some (.fz, .bool false) := by
  unfold fNe
  rw [h, SeqAt.eqv_refl _ (SeqAt.canLay_of_shaped h)]
  rfl
def small3 (d : D) : Prop := d.canLay0 = true ∧ d.depth ≤ 3
theorem small_ints (ns : List Int) : small3 (intsD ns) := by
  refine ⟨by simp [intsD, PyData.canLay0, lay_ints], by simp [intsD, PyData.depth, depth_ints]⟩
theorem small_rows (rs : List (List Int)) : small3 (.list (rs.map intsD)) := by
  have := depth_rows rs
  refine ⟨by simp [PyData.canLay0, lay_rows], by simp only [PyData.depth]; omega⟩
theorem small_code (c : Int) : small3 (.tuple [.int c]) := by
  refine ⟨by simp [PyData.canLay0, PyData.canLayAll0], by simp [PyData.depth, PyData.depthAll]⟩
theorem small_where (r w : List Int) : small3 (whereD r w) := by
  unfold whereD
  cases placeI r w with
  | none => exact small_code 4
  | some j => exact small_ints [(j : Int)]
theorem due_small (r : List Int) (m p : Nat) (w : List Int) : ∀ d ∈ dueD r m p w, small3 d := by
  intro d hd
  unfold dueD at hd
  simp only [List.mem_cons, List.not_mem_nil, or_false] at hd
  rcases hd with rfl | rfl | rfl | rfl | rfl | rfl
  · exact small_rows _
  · exact small_ints _
  · exact small_where _ _
  · exact small_ints _
  · exact small_ints _
  · exact small_ints _
theorem ov_small {b : Bool} {c : Int} {d : D} (h : small3 d) : small3 (ov b c d) := by
  cases b
  · exact h
  · exact small_code c
theorem over_small (b0 b1 b2 b3 : Bool) (r : List Int) (m p : Nat) (w : List Int) : ∀ d ∈ dueOf b0 b1 b2 b3 (dueD r m p w), small3 d := by
  intro d hd
  have h := due_small r m p w
  unfold dueD at h hd
  simp only [dueOf, dueO, List.mem_cons, List.not_mem_nil, or_false] at hd h
  rcases hd with rfl | rfl | rfl | rfl | rfl | rfl
  · exact ov_small (ov_small (h _ (.inl rfl)))
  · exact ov_small (ov_small (ov_small (h _ (.inr (.inl rfl)))))
  · exact ov_small (ov_small (h _ (.inr (.inr (.inl rfl)))))
  · exact ov_small (ov_small (h _ (.inr (.inr (.inr (.inl rfl))))))
  · exact ov_small (h _ (.inr (.inr (.inr (.inr (.inl rfl))))))
  · exact ov_small (h _ (.inr (.inr (.inr (.inr (.inr rfl))))))
theorem due_kinds (r : List Int) (m p : Nat) (w : List Int) (hr : r.length ≤ 1000) (hm : m ≤ 1000) (hw : w.length ≤ 1000) : ∀ d ∈ dueD r m p w, d__law_kinds [d] = .ok (.bool true) := by
  have hints : ∀ ns : List Int, ns.length ≤ 1000 → d__law_kinds [intsD ns] = .ok (.bool true) := fun ns h => kinds_eq _ (ns.map .int) (.inl rfl) (fun x hx => by
    obtain ⟨n, _, rfl⟩ := List.mem_map.mp hx; rfl) (by rw [List.length_map]; omega)
  intro d hd
  unfold dueD at hd
  simp only [List.mem_cons, List.not_mem_nil, or_false] at hd
  rcases hd with rfl | rfl | rfl | rfl | rfl | rfl
  · exact kinds_eq _ _ (.inl rfl) (fun x hx => by obtain ⟨n, _, rfl⟩ := List.mem_map.mp hx; rfl) (by simp [allR]; omega)
  · exact hints _ (by rw [rdI_len]; exact hm)
  · unfold whereD
    cases placeI r w with
    | none => exact kinds_eq _ _ (.inr rfl) (by simp [noBool]) (by simp)
    | some j => exact kinds_eq _ _ (.inl rfl) (by simp [noBool]) (by simp)
  · exact hints _ (by rw [rdI_len]; exact hr)
  · refine hints _ ?_
    have := (minR_le (rdI r r.length 0) (allR r r.length).tail).1
    have hall : ∀ x ∈ rdI r r.length 0 :: (allR r r.length).tail, x.length = r.length := fun x hx => by
      rcases List.mem_cons.mp hx with rfl | hx
      · exact rdI_len _ _ _
      · have hx := List.mem_of_mem_tail hx
        unfold allR at hx
        obtain ⟨k, _, rfl⟩ := List.mem_map.mp hx
        exact rdI_len _ _ _
    have := hall _ this
    unfold leastI
    omega
  · refine hints _ ?_
    unfold turnI
    rw [List.length_take]
    omega
end L2.Xq.Law
set_option Elab.async false
set_option linter.all false
set_option maxRecDepth 100000
set_option maxHeartbeats 4000000
namespace L2.Xq.Law
open PySem PySem.Spec PyProof.Rows
theorem ov_f {c : Int} {d : D} : ov false c d = d := rfl
theorem ov_t {c : Int} {d : D} : ov true c d = .tuple [.int c] := rfl
theorem bOf {b : Bool} {f : D → Bool} {x y : D} (h : if b = true then f x = false else x = y) (g : f y = true) : f x = !b := by
  cases b with
  | true => exact h
  | false => rw [show x = y from h]; exact g
theorem sOf {x y : D} {f : D → Bool} (h : if false = true then f x = false else x = y) : x = y := h
theorem ask_ref0 (r : List Int) (m p : Nat) (w : List Int) (hr : isRing r) (m1 : 1 ≤ m) (m2 : m ≤ 8) (hp : p < r.length) (hw : isWord w) (R S P W : D) (b0 b1 b2 b3 : Bool) (hS : if b0 = true then okRS S = false else S = .int (m : Int)) (hW : if b1 = true then okWordR W = false else W = intsD w)
    (hR : if b2 = true then okRing R = false else R = intsD r) (hP : if b3 = true then placeB (intsD r) P = false else P = .int (p : Int)) : ∃ d, (dueOf b0 b1 b2 b3 (dueD r m p w))[0]? = some d ∧ askD R S P W 0 = .ok d := by
  have g1 := isRing_ok hr
  have g2 := size_ok m1 m2
  have g4 := isWord_ok hw
  have gp := place_ok hp
  have eS : okRS S = !b0 := bOf hS g2
  have eW : okWordR W = !b1 := bOf hW g4
  have eR : okRing R = !b2 := bOf hR g1
  refine ⟨_, rfl, ?_⟩
  obtain ⟨d, e, q0⟩ := ask_good r m p w g1 g2 hp g4 0 (by omega)
  unfold dueD at e
  cases e
  unfold askD at q0 ⊢
  rw [g2, g1] at q0
  rw [eS, eR]
  cases b0
  · cases b2
    · have hS : S = .int (m : Int) := hS
      have hR : R = intsD r := hR
      subst hS; subst hR
      simp only [ov_f]
      exact q0
    · simp only [ov_f, ov_t]; rfl
  · simp only [ov_f, ov_t]; rfl
theorem ask_ref1 (r : List Int) (m p : Nat) (w : List Int) (hr : isRing r) (m1 : 1 ≤ m) (m2 : m ≤ 8) (hp : p < r.length) (hw : isWord w) (R S P W : D) (b0 b1 b2 b3 : Bool) (hS : if b0 = true then okRS S = false else S = .int (m : Int)) (hW : if b1 = true then okWordR W = false else W = intsD w)
    (hR : if b2 = true then okRing R = false else R = intsD r) (hP : if b3 = true then placeB (intsD r) P = false else P = .int (p : Int)) : ∃ d, (dueOf b0 b1 b2 b3 (dueD r m p w))[1]? = some d ∧ askD R S P W 1 = .ok d := by
  have g1 := isRing_ok hr
  have g2 := size_ok m1 m2
  have g4 := isWord_ok hw
  have gp := place_ok hp
  have eS : okRS S = !b0 := bOf hS g2
  have eW : okWordR W = !b1 := bOf hW g4
  have eR : okRing R = !b2 := bOf hR g1
  refine ⟨_, rfl, ?_⟩
  obtain ⟨d, e, q1⟩ := ask_good r m p w g1 g2 hp g4 1 (by omega)
  unfold dueD at e
  cases e
  unfold askD at q1 ⊢
  rw [g2, g1, gp] at q1
  rw [eS, eR]
  cases b0
  · cases b2
    · have hS : S = .int (m : Int) := hS
      have hR : R = intsD r := hR
      subst hS; subst hR
      cases b3
      · have hP : P = .int (p : Int) := hP
        subst hP
        rw [gp]
        simp only [ov_f]
        exact q1
      · have hP : placeB (intsD r) P = false := hP
        rw [hP]
        simp only [ov_f, ov_t]
        rfl
    · simp only [ov_f, ov_t]; rfl
  · simp only [ov_f, ov_t]; rfl
theorem ask_ref2 (r : List Int) (m p : Nat) (w : List Int) (hr : isRing r) (m1 : 1 ≤ m) (m2 : m ≤ 8) (hp : p < r.length) (hw : isWord w) (R S P W : D) (b0 b1 b2 b3 : Bool) (hS : if b0 = true then okRS S = false else S = .int (m : Int)) (hW : if b1 = true then okWordR W = false else W = intsD w)
    (hR : if b2 = true then okRing R = false else R = intsD r) (hP : if b3 = true then placeB (intsD r) P = false else P = .int (p : Int)) : ∃ d, (dueOf b0 b1 b2 b3 (dueD r m p w))[2]? = some d ∧ askD R S P W 2 = .ok d := by
  have g1 := isRing_ok hr
  have g2 := size_ok m1 m2
  have g4 := isWord_ok hw
  have gp := place_ok hp
  have eS : okRS S = !b0 := bOf hS g2
  have eW : okWordR W = !b1 := bOf hW g4
  have eR : okRing R = !b2 := bOf hR g1
  refine ⟨_, rfl, ?_⟩
  obtain ⟨d, e, q2⟩ := ask_good r m p w g1 g2 hp g4 2 (by omega)
  unfold dueD at e
  cases e
  unfold askD at q2 ⊢
  rw [g4, g1] at q2
  rw [eW, eR]
  cases b1
  · cases b2
    · have hW : W = intsD w := hW
      have hR : R = intsD r := hR
      subst hW; subst hR
      simp only [ov_f]
      exact q2
    · simp only [ov_f, ov_t]; rfl
  · simp only [ov_f, ov_t]; rfl
theorem ask_ref3 (r : List Int) (m p : Nat) (w : List Int) (hr : isRing r) (m1 : 1 ≤ m) (m2 : m ≤ 8) (hp : p < r.length) (hw : isWord w) (R S P W : D) (b0 b1 b2 b3 : Bool) (hS : if b0 = true then okRS S = false else S = .int (m : Int)) (hW : if b1 = true then okWordR W = false else W = intsD w)
    (hR : if b2 = true then okRing R = false else R = intsD r) (hP : if b3 = true then placeB (intsD r) P = false else P = .int (p : Int)) : ∃ d, (dueOf b0 b1 b2 b3 (dueD r m p w))[3]? = some d ∧ askD R S P W 3 = .ok d := by
  have g1 := isRing_ok hr
  have g2 := size_ok m1 m2
  have g4 := isWord_ok hw
  have gp := place_ok hp
  have eS : okRS S = !b0 := bOf hS g2
  have eW : okWordR W = !b1 := bOf hW g4
  have eR : okRing R = !b2 := bOf hR g1
  refine ⟨_, rfl, ?_⟩
  obtain ⟨d, e, q3⟩ := ask_good r m p w g1 g2 hp g4 3 (by omega)
  unfold dueD at e
  cases e
  unfold askD at q3 ⊢
  rw [g1, gp] at q3
  rw [eR]
  cases b2
  · have hR : R = intsD r := hR
    subst hR
    cases b3
    · have hP : P = .int (p : Int) := hP
      subst hP
      rw [gp]
      simp only [ov_f]
      exact q3
    · have hP : placeB (intsD r) P = false := hP
      rw [hP]
      simp only [ov_f, ov_t]
      rfl
  · simp only [ov_f, ov_t]; rfl
theorem ask_ref4 (r : List Int) (m p : Nat) (w : List Int) (hr : isRing r) (m1 : 1 ≤ m) (m2 : m ≤ 8) (hp : p < r.length) (hw : isWord w) (R S P W : D) (b0 b1 b2 b3 : Bool) (hS : if b0 = true then okRS S = false else S = .int (m : Int)) (hW : if b1 = true then okWordR W = false else W = intsD w)
    (hR : if b2 = true then okRing R = false else R = intsD r) (hP : if b3 = true then placeB (intsD r) P = false else P = .int (p : Int)) : ∃ d, (dueOf b0 b1 b2 b3 (dueD r m p w))[4]? = some d ∧ askD R S P W 4 = .ok d := by
  have g1 := isRing_ok hr
  have g2 := size_ok m1 m2
  have g4 := isWord_ok hw
  have gp := place_ok hp
  have eS : okRS S = !b0 := bOf hS g2
  have eW : okWordR W = !b1 := bOf hW g4
  have eR : okRing R = !b2 := bOf hR g1
  refine ⟨_, rfl, ?_⟩
  obtain ⟨d, e, q4⟩ := ask_good r m p w g1 g2 hp g4 4 (by omega)
  unfold dueD at e
  cases e
  unfold askD at q4 ⊢
  rw [g1] at q4
  rw [eR]
  cases b2
  · have hR : R = intsD r := hR
    subst hR
    simp only [ov_f]
    exact q4
  · simp only [ov_f, ov_t]; rfl
theorem ask_ref5 (r : List Int) (m p : Nat) (w : List Int) (hr : isRing r) (m1 : 1 ≤ m) (m2 : m ≤ 8) (hp : p < r.length) (hw : isWord w) (R S P W : D) (b0 b1 b2 b3 : Bool) (hS : if b0 = true then okRS S = false else S = .int (m : Int)) (hW : if b1 = true then okWordR W = false else W = intsD w)
    (hR : if b2 = true then okRing R = false else R = intsD r) (hP : if b3 = true then placeB (intsD r) P = false else P = .int (p : Int)) : ∃ d, (dueOf b0 b1 b2 b3 (dueD r m p w))[5]? = some d ∧ askD R S P W 5 = .ok d := by
  have g1 := isRing_ok hr
  have g2 := size_ok m1 m2
  have g4 := isWord_ok hw
  have gp := place_ok hp
  have eS : okRS S = !b0 := bOf hS g2
  have eW : okWordR W = !b1 := bOf hW g4
  have eR : okRing R = !b2 := bOf hR g1
  refine ⟨_, rfl, ?_⟩
  obtain ⟨d, e, q5⟩ := ask_good r m p w g1 g2 hp g4 5 (by omega)
  unfold dueD at e
  cases e
  unfold askD at q5 ⊢
  simp only [g4] at q5
  simp only [eW]
  cases b1
  · have hW : W = intsD w := hW
    subst hW
    simp only [ov_f]
    exact q5
  · simp only [ov_f, ov_t]; rfl
theorem ask_refused (r : List Int) (m p : Nat) (w : List Int) (hr : isRing r) (m1 : 1 ≤ m) (m2 : m ≤ 8) (hp : p < r.length) (hw : isWord w) (R S P W : D) (b0 b1 b2 b3 : Bool) (hS : if b0 = true then okRS S = false else S = .int (m : Int)) (hW : if b1 = true then okWordR W = false else W = intsD w)
    (hR : if b2 = true then okRing R = false else R = intsD r) (hP : if b3 = true then placeB (intsD r) P = false else P = .int (p : Int)) (k : Nat) (hk : k < 6) : ∃ d, (dueOf b0 b1 b2 b3 (dueD r m p w))[k]? = some d ∧ askD R S P W k = .ok d := by
  match k, hk with
  | 0, _ => exact ask_ref0 r m p w hr m1 m2 hp hw R S P W b0 b1 b2 b3 hS hW hR hP
  | 1, _ => exact ask_ref1 r m p w hr m1 m2 hp hw R S P W b0 b1 b2 b3 hS hW hR hP
  | 2, _ => exact ask_ref2 r m p w hr m1 m2 hp hw R S P W b0 b1 b2 b3 hS hW hR hP
  | 3, _ => exact ask_ref3 r m p w hr m1 m2 hp hw R S P W b0 b1 b2 b3 hS hW hR hP
  | 4, _ => exact ask_ref4 r m p w hr m1 m2 hp hw R S P W b0 b1 b2 b3 hS hW hR hP
  | 5, _ => exact ask_ref5 r m p w hr m1 m2 hp hw R S P W b0 b1 b2 b3 hS hW hR hP
end L2.Xq.Law
set_option Elab.async false
set_option linter.all false
set_option maxRecDepth 100000
set_option maxHeartbeats 4000000
namespace L2.Xq.Law
open PySem PySem.Spec PyProof.Rows
theorem okRing_mk {r : List Int} (h1 : 1 ≤ r.length) (h2 : r.length ≤ 256) (h3 : ∀ x ∈ r, 0 ≤ x ∧ x < 9) : okRing (intsD r) = true := by
  unfold okRing rowB intsD
  simp only [List.length_map, Bool.and_eq_true, decide_eq_true_eq, List.all_map, List.all_eq_true]
  exact ⟨⟨h1, by omega⟩, fun x hx => by have := h3 x hx; simp [wholeB]; omega⟩
theorem ones_all (n : Nat) (h : 1 ≤ n) : allR (List.replicate n 1) 1 = List.replicate n [1] := by
  unfold allR
  rw [List.length_replicate]
  apply List.eq_replicate_iff.mpr
  refine ⟨by simp, fun x hx => ?_⟩
  obtain ⟨k, hk, rfl⟩ := List.mem_map.mp hx
  unfold rdI
  have hlt : (k + 0) % n < n := Nat.mod_lt _ (by omega)
  simp only [List.range_succ, List.range_zero, List.nil_append, List.map_cons, List.map_nil, List.length_replicate, List.getD_eq_getElem?_getD]
  rw [List.getElem?_replicate, if_pos hlt]
  rfl
theorem ones_asked (n : Nat) (h1 : 1 ≤ n) (h2 : n ≤ 256) (P W : D) : d__law_asked [.int 0, intsD (List.replicate n 1), .int 1, P, W] = .ok (.list ((List.replicate n [1]).map intsD)) := by
  have e := asked_eq (intsD (List.replicate n 1)) (.int 1) P W 0 (by omega)
  have hr : okRing (intsD (List.replicate n 1)) = true := okRing_mk (by simpa using h1) (by simpa using h2) fun x hx => by rw [List.eq_of_mem_replicate hx]; omega
  have hs : okRS (.int 1) = true := size_ok (m := 1) (by omega) (by omega)
  rw [show (.int ((0 : Nat) : Int) : D) = .int 0 from rfl] at e
  rw [e]
  unfold askD
  rw [hs, hr]
  have e2 := read_all_eq (List.replicate n 1) 1 (by simpa using h1) (by simp; omega) (by omega)
  rw [ones_all n h1] at e2
  exact e2
theorem row_times (n : Nat) (h : n ≤ 1000) (m m' : Md) (hm : m = .fr) : fMul m (.list [intsD [1]]) m' (.int (n : Int)) = some (.fr, .list ((List.replicate n [1]).map intsD)) := by
  subst hm
  rw [z_f5, if_pos ⟨by omega, Int.le_trans (by decide) (Int.natCast_nonneg _), by simp; omega⟩, Int.toNat_natCast]
  simp
section
variable (K : PySem.W.Frag) (a : Addr) (ns : List Int)
abbrev lawE (c1 c2 c3 c4 c5 c6 c7 c8 c9 c10 c11 c12 c13 : Cell) : Ev := [.scr K a ns, c1, c2, c3, c4, c5, c6, c7, c8, c9, c10, c11, c12, c13]
theorem callS0 {f : Addr → List Int → List D → Res D} {ρ : Ev} (h0 : ρ[0]? = some (.scr K a ns)) : mCallS K a ns 0 0 f mNil ρ = (f a ns []).bind fun d => .ok (mdOf d, d) := by
  unfold mCallS ifScr
  rw [if_pos h0]
  simp only [mCall, mNil, z_b1, List.length_nil, List.map_nil]
  rfl
theorem e0_eq : ∃ r, isRing r ∧ ml_0 K a ns (lawE K a ns .un .un .un .un .un .un .un .un .un .un .un .un .un) = .next (lawE K a ns (.ow (r.map .int)) .un .un .un .un .un .un .un .un .un .un .un .un) := by
  obtain ⟨r, hr, e⟩ := law_ring_eq K a ns
  refine ⟨r, hr, ?_⟩
  have h : mCallS K a ns 0 0 (d__law_ring K) mNil (lawE K a ns .un .un .un .un .un .un .un .un .un .un .un .un .un) = .ok (.fr, intsD r) := by
    rw [callS0 K a ns (f := d__law_ring K) rfl, e]
    rfl
  exact asgE h rfl
theorem e1_eq (r : List Int) : ml_1 K a ns (lawE K a ns (.ow (r.map .int)) .un .un .un .un .un .un .un .un .un .un .un .un) = .next (lawE K a ns (.ow (r.map .int)) .un .un .un .un .un .un .un .un .un .un .un .un) := by
  obtain ⟨c, hc⟩ := callS_cell K a ns (ρ := lawE K a ns (.ow (r.map .int)) .un .un .un .un .un .un .un .un .un .un .un .un) rfl 0 (by omega)
  have t1 := eEqC (k := 2) (eMod (eDiv hc (k := 12) ⟨by decide, by decide⟩) (k := 9) (by decide))
  have g1 : mBin fMul (mLst (dCons (mC (.int 1)) dNil)) (mC (.int 256)) (lawE K a ns (.ow (r.map .int)) .un .un .un .un .un .un .un .un .un .un .un .un) = .ok (.fr, intsD (List.replicate 256 1)) := by
    have := binE (g := fMul) (lstE (ρ := lawE K a ns (.ow (r.map .int)) .un .un .un .un .un .un .un .un .un .un .un .un) (dConsE (ma := mC (.int 1)) (ms := dNil) (m := .fz) rfl (.inl rfl) rfl) (by simp)) (mb := mC (.int 256)) (m2 := .fz) (y := .int 256) rfl
    rw [this]
    have e := fMul_rep .fr .fz [1] 256 (by omega) (by simp)
    rw [List.flatten_replicate_singleton] at e
    show Res.of (fMul .fr (intsD [1]) .fz (.int ((256 : Nat) : Int))) = _
    rw [e]; rfl
  have g2 : mBin fMul (mLst (dCons (mLst (dCons (mC (.int 1)) dNil)) dNil)) (mC (.int 256)) (lawE K a ns (.ow (r.map .int)) .un .un .un .un .un .un .un .un .un .un .un .un) = .ok (.fr, .list ((List.replicate 256 [1]).map intsD)) := by
    have h1 := lstE (ρ := lawE K a ns (.ow (r.map .int)) .un .un .un .un .un .un .un .un .un .un .un .un) (dConsE (ma := mC (.int 1)) (ms := dNil) (m := .fz) rfl (.inl rfl) rfl) (by simp)
    have := binE (g := fMul) (lstE (dConsE (ms := dNil) h1 (.inr rfl) rfl) (by simp)) (mb := mC (.int 256)) (m2 := .fz) (y := .int 256) rfl
    rw [this]
    show Res.of (fMul .fr (.list [intsD [1]]) .fz (.int ((256 : Nat) : Int))) = _
    rw [row_times 256 (by omega) _ _ rfl]; rfl
  have g3 := callE5 (f := d__law_asked) (ma := mC (.int 0)) (mc := mC (.int 1)) (md' := mC (.int 0)) (me := mLst (dCons (mC (.int 1)) dNil)) (ρ := lawE K a ns (.ow (r.map .int)) .un .un .un .un .un .un .un .un .un .un .un .un) (m1 := .fz) rfl g1 (m3 := .fz) rfl (m4 := .fz) rfl (m5 := .fr) (v := .list [.int 1]) rfl
  rw [ones_asked 256 (by omega) (by omega)] at g3
  have g4 := binE (g := fNe) g3 g2
  rw [fNe_rows] at g4
  have t2 : mB (mBin fNe (mCall 5 d__law_asked (mCons (mC (.int 0)) (mCons (mBin fMul (mLst (dCons (mC (.int 1)) dNil)) (mC (.int 256))) (mCons (mC (.int 1)) (mCons (mC (.int 0)) (mCons (mLst (dCons (mC (.int 1)) dNil)) mNil)))))) (mBin fMul (mLst (dCons (mLst (dCons (mC (.int 1)) dNil)) dNil)) (mC (.int 256)))) (lawE K a ns (.ow (r.map .int)) .un .un .un .un .un .un .un .un .un .un .un .un) = .ok false := by
    unfold mB
    rw [g4, decide_eq_true rfl]; rfl
  unfold ml_1
  have t : mAnd (mB (mBin fEq (mBin fMod (mBin fFdiv (mCallS K a ns 0 1 (d__law_cell_at K) (mCons (mC (.int 0)) mNil)) (mC (.int 12))) (mC (.int 9))) (mC (.int 2)))) (mB (mBin fNe (mCall 5 d__law_asked (mCons (mC (.int 0)) (mCons (mBin fMul (mLst (dCons (mC (.int 1)) dNil)) (mC (.int 256))) (mCons (mC (.int 1)) (mCons (mC (.int 0)) (mCons (mLst (dCons (mC (.int 1)) dNil)) mNil)))))) (mBin fMul (mLst (dCons (mLst (dCons (mC (.int 1)) dNil)) dNil)) (mC (.int 256))))) (lawE K a ns (.ow (r.map .int)) .un .un .un .un .un .un .un .un .un .un .un .un) = .ok false := by
    unfold mAnd
    rw [t1, z_b1, t2]
    split <;> rfl
  rw [ifE t]
  rfl
theorem e2_eq (r : List Int) : ∃ m : Nat, 1 ≤ m ∧ m ≤ 8 ∧ ml_2 K a ns (lawE K a ns (.ow (r.map .int)) .un .un .un .un .un .un .un .un .un .un .un .un) = .next (lawE K a ns (.ow (r.map .int)) (.fz (.int (m : Int))) .un .un .un .un .un .un .un .un .un .un .un) := by
  obtain ⟨c, hc⟩ := callS_cell K a ns (ρ := lawE K a ns (.ow (r.map .int)) .un .un .un .un .un .un .un .un .un .un .un .un) rfl 2 (by omega)
  have h := eAdd (ma := mC (.int 1)) (m := .fz) (x := 1) rfl (eMod hc (k := 8) (by decide))
  obtain ⟨g1, g2⟩ := fmod_lt c (k := 8) (by omega)
  refine ⟨(1 + c.fmod 8).toNat, by omega, by omega, ?_⟩
  rw [Int.toNat_of_nonneg (by omega)]
  exact asgE h rfl
theorem len1 (r : List Int) (c2 c3 c4 c5 c6 c7 c8 c9 c10 c11 c12 c13 : Cell) : mBi fLen (mCons (mVar 1) mNil) (lawE K a ns (.ow (r.map .int)) c2 c3 c4 c5 c6 c7 c8 c9 c10 c11 c12 c13) = .ok (.fz, .int r.length) := by
  rw [biE1 (m1 := .tmp) (x := intsD r) rfl, fLen_ints]; rfl
theorem e3_eq (r : List Int) (hr : isRing r) (m : Nat) : ∃ p : Nat, p < r.length ∧ ml_3 K a ns (lawE K a ns (.ow (r.map .int)) (.fz (.int (m : Int))) .un .un .un .un .un .un .un .un .un .un .un) = .next (lawE K a ns (.ow (r.map .int)) (.fz (.int (m : Int))) (.fz (.int (p : Int))) .un .un .un .un .un .un .un .un .un .un) := by
  obtain ⟨c, hc⟩ := callS_cell K a ns (ρ := lawE K a ns (.ow (r.map .int)) (.fz (.int (m : Int))) .un .un .un .un .un .un .un .un .un .un .un) rfl 2 (by omega)
  have h := eMod2 (eDiv hc (k := 8) ⟨by decide, by decide⟩) (len1 K a ns r _ _ _ _ _ _ _ _ _ _ _ _) (by have := hr.1; omega)
  obtain ⟨g1, g2⟩ := fmod_lt (c.fdiv 8) (k := (r.length : Int)) (by have := hr.1; omega)
  refine ⟨((c.fdiv 8).fmod r.length).toNat, by omega, ?_⟩
  rw [Int.toNat_of_nonneg (by omega)]
  exact asgE h rfl
theorem rdI_mem {r : List Int} (hr : 1 ≤ r.length) {m p : Nat} {x : Int} (h : x ∈ rdI r m p) : x ∈ r := by
  unfold rdI at h
  obtain ⟨k, _, rfl⟩ := List.mem_map.mp h
  have hlt : (p + k) % r.length < r.length := Nat.mod_lt _ (by omega)
  rw [List.getD_eq_getElem?_getD, List.getElem?_eq_getElem hlt]
  exact List.getElem_mem hlt
theorem e4_eq (r : List Int) (hr : isRing r) (m p : Nat) : ∃ w, isWord w ∧ ml_4 K a ns (lawE K a ns (.ow (r.map .int)) (.fz (.int (m : Int))) (.fz (.int (p : Int))) .un .un .un .un .un .un .un .un .un .un) = .next (lawE K a ns (.ow (r.map .int)) (.fz (.int (m : Int))) (.fz (.int (p : Int))) (.ow (w.map .int)) .un .un .un .un .un .un .un .un .un) := by
  obtain ⟨r1, r2, r3⟩ := hr
  obtain ⟨c, hc⟩ := callS_cell K a ns (ρ := lawE K a ns (.ow (r.map .int)) (.fz (.int (m : Int))) (.fz (.int (p : Int))) .un .un .un .un .un .un .un .un .un .un) rfl 3 (by omega)
  have h1 := eMod2 hc (len1 K a ns r _ _ _ _ _ _ _ _ _ _ _ _) (by omega)
  obtain ⟨g1, g2⟩ := fmod_lt c (k := (r.length : Int)) (by omega)
  have h2 := eAdd (ma := mC (.int 1)) (m := .fz) (x := 1) rfl (eMod (eDiv hc (k := 256) ⟨by decide, by decide⟩) (k := 8) (by decide))
  obtain ⟨g3, g4⟩ := fmod_lt (c.fdiv 256) (k := 8) (by omega)
  obtain ⟨q, hq⟩ : ∃ q : Nat, c.fmod r.length = (q : Int) := ⟨(c.fmod r.length).toNat, by omega⟩
  obtain ⟨l, hl⟩ : ∃ l : Nat, 1 + (c.fdiv 256).fmod 8 = (l : Int) := ⟨(1 + (c.fdiv 256).fmod 8).toNat, by omega⟩
  rw [hq] at h1
  rw [hl] at h2
  have h3 := callE3 (f := d__law_from) (ma := mVar 1) (m1 := .tmp) (x := intsD r) rfl h1 h2
  rw [from_eq r q l r1 (by omega) (by omega)] at h3
  refine ⟨rdI r l q, ⟨by rw [rdI_len]; omega, by rw [rdI_len]; omega, fun x hx => r3 x (rdI_mem r1 hx)⟩, ?_⟩
  exact asgE (v := (.fr, intsD (rdI r l q))) h3 rfl
theorem e5_eq (r w : List Int) (m p : Nat) (hw : isWord w) : ∃ w', isWord w' ∧ ml_5 K a ns (lawE K a ns (.ow (r.map .int)) (.fz (.int (m : Int))) (.fz (.int (p : Int))) (.ow (w.map .int)) .un .un .un .un .un .un .un .un .un) = .next (lawE K a ns (.ow (r.map .int)) (.fz (.int (m : Int))) (.fz (.int (p : Int))) (.ow (w'.map .int)) .un .un .un .un .un .un .un .un .un) := by
  obtain ⟨w1, w2, w3⟩ := hw
  obtain ⟨c, hc⟩ := callS_cell K a ns (ρ := lawE K a ns (.ow (r.map .int)) (.fz (.int (m : Int))) (.fz (.int (p : Int))) (.ow (w.map .int)) .un .un .un .un .un .un .un .un .un) rfl 3 (by omega)
  have t := eEqC (k := 1) (eMod (eDiv hc (k := 2048) ⟨by decide, by decide⟩) (k := 3) (by decide))
  unfold ml_5
  rw [ifE t]
  cases decide ((c.fdiv 2048).fmod 3 = 1)
  · exact ⟨w, ⟨w1, w2, w3⟩, rfl⟩
  · have hix : ixN (w.map PyData.int).length (-1) = some (w.length - 1) := by
      unfold ixN
      rw [List.length_map, if_neg (by omega), if_pos (by omega)]
      congr 1
      omega
    have hfx : fIx .tmp (.list (w.map .int)) .fz (.int (-1)) = some (.fz, .int (w.getD (w.length - 1) 0)) := by
      show (((ixN (w.map PyData.int).length (-1)).bind fun j => (w.map PyData.int)[j]?).map fun d => (elMd .tmp d, d)) = _
      rw [hix, Option.bind_some, getD_int w (by omega)]
      rfl
    have h1 := binE (g := fIx) (ma := mVar 4) (mb := mNeg (mC (.int 1))) (ρ := lawE K a ns (.ow (r.map .int)) (.fz (.int (m : Int))) (.fz (.int (p : Int))) (.ow (w.map .int)) .un .un .un .un .un .un .un .un .un) (m1 := .tmp) (x := .list (w.map .int)) rfl (m2 := .fz) (y := .int (-1)) rfl
    rw [hfx] at h1
    have h2 := eMod (eAdd (m := .fz) (x := w.getD (w.length - 1) 0) h1 (mb := mC (.int 1)) (m' := .fz) (y := 1) rfl) (k := 9) (by decide)
    obtain ⟨g1, g2⟩ := fmod_lt (w.getD (w.length - 1) 0 + 1) (k := 9) (by omega)
    generalize (w.getD (w.length - 1) 0 + 1).fmod 9 = x at h2 g1 g2
    refine ⟨w.set (w.length - 1) x, ⟨by simpa using w1, by simpa using w2, fun y hy => ?_⟩, ?_⟩
    · rcases List.mem_or_eq_of_mem_set hy with hy | rfl
      · exact w3 y hy
      · exact ⟨g1, g2⟩
    · rw [if_pos rfl]
      unfold sSetIx
      rw [z_ow (n := 4) rfl, h2]
      show (match ixN (w.map PyData.int).length (-1) with | some j => _ | none => _) = _
      rw [hix]
      show SR.next _ = SR.next _
      rw [List.map_set]
      rfl
theorem partA : ∃ r m p w, isRing r ∧ 1 ≤ m ∧ m ≤ 8 ∧ p < r.length ∧ isWord w ∧ seqs [ml_0 K a ns, ml_1 K a ns, ml_2 K a ns, ml_3 K a ns, ml_4 K a ns, ml_5 K a ns] (lawE K a ns .un .un .un .un .un .un .un .un .un .un .un .un .un) = .next (lawE K a ns (.ow (r.map .int)) (.fz (.int ((m : Nat) : Int))) (.fz (.int ((p : Nat) : Int))) (.ow (w.map .int)) .un .un .un .un .un .un .un .un .un) := by
  obtain ⟨r, hr, e0⟩ := e0_eq K a ns
  have e1 := e1_eq K a ns r
  obtain ⟨m, m1, m2, e2⟩ := e2_eq K a ns r
  obtain ⟨p, hp, e3⟩ := e3_eq K a ns r hr m
  obtain ⟨w, hw, e4⟩ := e4_eq K a ns r hr m p
  obtain ⟨w', hw', e5⟩ := e5_eq K a ns r w m p hw
  refine ⟨r, m, p, w', hr, m1, m2, hp, hw', ?_⟩
  unfold seqs
  rw [e0, z_q1]; unfold seqs
  rw [e1, z_q1]; unfold seqs
  rw [e2, z_q1]; unfold seqs
  rw [e3, z_q1]; unfold seqs
  rw [e4, z_q1]; unfold seqs
  rw [e5]; rfl
end
end L2.Xq.Law
set_option Elab.async false
set_option linter.all false
set_option maxRecDepth 100000
set_option maxHeartbeats 4000000
namespace L2.Xq.Law
open PySem PySem.Spec PyProof.Rows
section
variable (K : PySem.W.Frag) (a : Addr) (ns : List Int)
theorem mdOf_cases (d : D) : mdOf d = .fz ∨ mdOf d = .fr := by cases d <;> first | exact .inl rfl | exact .inr rfl
theorem list6 (l : List D) (h : l.length = 6) : (List.range 6).map (fun k => l.getD k .none) = l := by
  match l, h with
  | [x0, x1, x2, x3, x4, x5], _ => rfl
theorem getD6 {l : List D} {k : Nat} {d : D} (h : l[k]? = some d) : l.getD k .none = d := by
  rw [List.getD_eq_getElem?_getD, h]; rfl
/-- the comprehension over the six questions -/
theorem six_eq {ρ : Ev} {mr ms mp mw : Ev → RV} {m1 m2 m3 m4 : Md} {R S P W : D} {out : List D} (hl : out.length = 6) (hk : 13 < ρ.length) (h1 : ∀ c, mr (ρ.set 13 c) = .ok (m1, R)) (h2 : ∀ c, ms (ρ.set 13 c) = .ok (m2, S)) (h3 : ∀ c, mp (ρ.set 13 c) = .ok (m3, P)) (h4 : ∀ c, mw (ρ.set 13 c) = .ok (m4, W))
    (h : ∀ k, k < 6 → ∃ d, out[k]? = some d ∧ askD R S P W k = .ok d) : mComp (iR1 (mC (.int 6))) 13 tYesM (mCall 5 d__law_asked (mCons (mVar 13) (mCons mr (mCons ms (mCons mp (mCons mw mNil)))))) ρ = .ok (.fr, .list out) := by
  have key := mComp_range (ma := mC (.int 6)) (j := 13) (me := mCall 5 d__law_asked (mCons (mVar 13) (mCons mr (mCons ms (mCons mp (mCons mw mNil)))))) (ρ := ρ) (md := .fz) (n := 6) (fun k => out.getD k .none) rfl (by omega) (fun k hk6 => by
    obtain ⟨d, hd, e⟩ := h k hk6
    have hc := callE5 (f := d__law_asked) (ma := mVar 13) (mb := mr) (mc := ms) (md' := mp) (me := mw) (ρ := ρ.set 13 (.fz (.int (k : Int)))) (m1 := .fz) (x := .int (k : Int)) (by rw [z_v0, List.getElem?_set_self hk]; rfl) (h1 _) (h2 _) (h3 _) (h4 _)
    rw [asked_eq R S P W k hk6, e] at hc
    rw [getD6 hd]
    exact ⟨mdOf d, hc, mdOf_cases d⟩)
  rw [list6 out hl] at key
  exact key
/-- the same, told apart -/
theorem six_sep {ρ : Ev} {mr ms mp mw : Ev → RV} {m1 m2 m3 m4 : Md} {R S P W : D} {out : List D} (hl : out.length = 6) (hk : 13 < ρ.length) (h1 : ∀ c, mr (ρ.set 13 c) = .ok (m1, R)) (h2 : ∀ c, ms (ρ.set 13 c) = .ok (m2, S)) (h3 : ∀ c, mp (ρ.set 13 c) = .ok (m3, P)) (h4 : ∀ c, mw (ρ.set 13 c) = .ok (m4, W))
    (h : ∀ k, k < 6 → ∃ d, out[k]? = some d ∧ askD R S P W k = .ok d) : sepItems (compBody 13 tYesM (mCall 5 d__law_asked (mCons (mVar 13) (mCons mr (mCons ms (mCons mp (mCons mw mNil)))))) ρ) (rangeD 0 6) (out.map fun d => (mdOf d, d)) := by
  refine ⟨by rw [List.length_map, hl, rangeD_len], fun k x y hx hy => ?_⟩
  have hk6 : k < 6 := by have := (List.getElem?_eq_some_iff.mp hx).1; rwa [rangeD_len] at this
  unfold rangeD at hx
  rw [List.getElem?_map, List.getElem?_range hk6] at hx
  cases hx
  obtain ⟨d, hd, e⟩ := h k hk6
  rw [List.getElem?_map, hd] at hy
  cases hy
  refine ⟨?_, mdOf_cases d⟩
  have hc := callE5 (f := d__law_asked) (ma := mVar 13) (mb := mr) (mc := ms) (md' := mp) (me := mw) (ρ := ρ.set 13 (.fz (.int (k : Int)))) (m1 := .fz) (x := .int (k : Int)) (by rw [z_v0, List.getElem?_set_self hk]; rfl) (h1 _) (h2 _) (h3 _) (h4 _)
  rw [asked_eq R S P W k hk6, e] at hc
  have hz : (0 : Int) + (k : Int) = (k : Int) := Int.zero_add _
  show ((Res.ok true).bind fun c => if c = true then (mCall 5 d__law_asked (mCons (mVar 13) (mCons mr (mCons ms (mCons mp (mCons mw mNil))))) (ρ.set 13 (.fz (.int (0 + (k : Int)))))).bind fun y => Res.ok (some y) else Res.ok none) = _
  rw [hz, z_b1, if_pos rfl, hc]
  rfl
/-! #### the refused -/
def pc (d : D) : Cell := if Md.bo = Md.bo ∧ scalar d = false then .bo d else .fz d
theorem pc_rd (d : D) : rdC (some (pc d)) = .ok (parM d, d) := by
  unfold pc parM
  cases h : scalar d <;> rfl
theorem unp_env (r w : List Int) (m p : Nat) (R S P W : D) (out : List D) : setAll .bo [5, 6, 7, 8, 9] [R, S, P, W, .list out] ((lawE K a ns (.ow (r.map .int)) (.fz (.int (m : Int))) (.fz (.int (p : Int))) (.ow (w.map .int)) .un .un .un .un .un .un .un .un .un).map rebC) = some (lawE K a ns (.bo (intsD r)) (.fz (.int (m : Int))) (.fz (.int (p : Int))) (.bo (intsD w)) (pc R) (pc S) (pc P) (pc W) (.bo (.list out)) .un .un .un .un) := rfl
noncomputable def refE : Ev → SR := sRet (mBin fEq (mComp (iR1 (mC (.int 6))) 13 tYesM (mCall 5 d__law_asked (mCons (mVar 13) (mCons (mVar 5) (mCons (mVar 6) (mCons (mVar 7) (mCons (mVar 8) mNil))))))) (mVar 9))
theorem ref_ret (c1 c2 c3 c4 c10 c11 c12 c13 : Cell) (R S P W : D) (out : List D) (hl : out.length = 6) (hs : SeqAt.shaped (.list out) = true) (h : ∀ k, k < 6 → ∃ d, out[k]? = some d ∧ askD R S P W k = .ok d) : refE (lawE K a ns c1 c2 c3 c4 (pc R) (pc S) (pc P) (pc W) (.bo (.list out)) c10 c11 c12 c13) = .ret (.bool true) := by
  have e := six_eq (ρ := lawE K a ns c1 c2 c3 c4 (pc R) (pc S) (pc P) (pc W) (.bo (.list out)) c10 c11 c12 c13) (mr := mVar 5) (ms := mVar 6) (mp := mVar 7) (mw := mVar 8) hl (by simp) (fun c => pc_rd R) (fun c => pc_rd S) (fun c => pc_rd P) (fun c => pc_rd W) h
  have e2 := binE (g := fEq) e (mb := mVar 9) (m2 := .bo) (y := .list out) rfl
  rw [fEq_self _ _ hs] at e2
  unfold refE sRet
  rw [e2]
  rfl
theorem ref_call (r w : List Int) (m p : Nat) (hr : isRing r) (m1 : 1 ≤ m) (m2 : m ≤ 8) (hp : p < r.length) (hw : isWord w) : ∃ R S P W out, out.length = 6 ∧ SeqAt.shaped (.list out) = true ∧ (∀ k, k < 6 → ∃ d, out[k]? = some d ∧ askD R S P W k = .ok d) ∧
    xCallS K a ns 0 4 (d__law_refused K) (xCons (xOf (mVar 1)) (xCons (xOf (mVar 2)) (xCons (xOf (mVar 3)) (xCons (xOf (mVar 4)) xNil)))) (lawE K a ns (.ow (r.map .int)) (.fz (.int (m : Int))) (.fz (.int (p : Int))) (.ow (w.map .int)) .un .un .un .un .un .un .un .un .un) = .ok (.tuple [R, S, P, W, .list out]) := by
  obtain ⟨R, S, P, W, b0, b1, b2, b3, e, hS, hW, hR, hP⟩ := refused_eq K a ns r m p w hr m1 m2 hp hw
  refine ⟨R, S, P, W, dueOf b0 b1 b2 b3 (dueD r m p w), rfl, shaped_list (over_small b0 b1 b2 b3 r m p w), fun k hk => ask_refused r m p w hr m1 m2 hp hw R S P W b0 b1 b2 b3 hS hW hR hP k hk, ?_⟩
  unfold xCallS ifScr
  rw [if_pos (show (lawE K a ns (.ow (r.map .int)) (.fz (.int (m : Int))) (.fz (.int (p : Int))) (.ow (w.map .int)) .un .un .un .un .un .un .un .un .un)[0]? = some (.scr K a ns) from rfl)]
  have hx : xCons (xOf (mVar 1)) (xCons (xOf (mVar 2)) (xCons (xOf (mVar 3)) (xCons (xOf (mVar 4)) xNil))) (lawE K a ns (.ow (r.map .int)) (.fz (.int (m : Int))) (.fz (.int (p : Int))) (.ow (w.map .int)) .un .un .un .un .un .un .un .un .un) = .ok [intsD r, .int (m : Int), .int (p : Int), intsD w] := rfl
  unfold xCall
  rw [hx, z_b1, if_pos (show [intsD r, PyData.int (m : Int), .int (p : Int), intsD w].length = 4 from rfl)]
  exact e
theorem test5 (ρ : Ev) (h0 : ρ[0]? = some (.scr K a ns)) : ∃ b, mB (mBin fEq (mBin fMod (mCallS K a ns 0 1 (d__law_cell_at K) (mCons (mC (.int 5)) mNil)) (mC (.int 4))) (mC (.int 1))) ρ = .ok b := by
  obtain ⟨c, hc⟩ := callS_cell K a ns h0 5 (by omega)
  exact ⟨_, eEqC (k := 1) (eMod hc (k := 4) (by decide))⟩
/-! #### the good -/
theorem e7_eq (r w : List Int) (m p : Nat) (hr : isRing r) (m2 : m ≤ 8) (hp : p < r.length) (hw : isWord w) : ml_7 K a ns (lawE K a ns (.ow (r.map .int)) (.fz (.int (m : Int))) (.fz (.int (p : Int))) (.ow (w.map .int)) .un .un .un .un .un .un .un .un .un) = .next (lawE K a ns (.ow (r.map .int)) (.fz (.int (m : Int))) (.fz (.int (p : Int))) (.ow (w.map .int)) .un .un .un .un (.ow (dueD r m p w)) .un .un .un .un) := by
  have e8 := callE4 (f := d__law_due) (ma := mVar 1) (mb := mVar 2) (mc := mVar 3) (md' := mVar 4) (ρ := lawE K a ns (.ow (r.map .int)) (.fz (.int (m : Int))) (.fz (.int (p : Int))) (.ow (w.map .int)) .un .un .un .un .un .un .un .un .un) (m1 := .tmp) (x := intsD r) (m2 := .fz) (m3 := .fz) (m4 := .tmp) (u := intsD w) rfl rfl rfl rfl
  obtain ⟨r1, r2, _⟩ := hr
  obtain ⟨w1, w2, _⟩ := hw
  rw [due_eq r m p w r1 (by omega) (by omega) hp w1 (by omega)] at e8
  exact asgE (v := (.fr, .list (dueD r m p w))) e8 rfl
theorem list_bo (w : List Int) : fList [(Md.bo, intsD w)] = some (.fr, intsD w) := by
  show fList [(Md.bo, .list (w.map .int))] = _
  rw [z_li1]
  have : elFz .bo (w.map PyData.int) = true := all_sc _
  rw [this]; rfl
theorem e8_eq (r w : List Int) (m p : Nat) (p1 p4 p9 : Addr) (due : List D) : ml_8 K a ns (lawE K a ns (.at_ p1 (intsD r)) (.fz (.int (m : Int))) (.fz (.int (p : Int))) (.at_ p4 (intsD w)) .un .un .un .un (.at_ p9 (.list due)) .un .un .un .un) = .next (lawE K a ns (.at_ p1 (intsD r)) (.fz (.int (m : Int))) (.fz (.int (p : Int))) (.at_ p4 (intsD w)) .un .un .un .un (.at_ p9 (.list due)) (.ow [intsD r, intsD w]) .un .un .un) := by
  have h1 := biE1 (g := fList) (ma := mVar 1) (ρ := lawE K a ns (.at_ p1 (intsD r)) (.fz (.int (m : Int))) (.fz (.int (p : Int))) (.at_ p4 (intsD w)) .un .un .un .un (.at_ p9 (.list due)) .un .un .un .un) (m1 := .bo) rfl
  rw [list_bo] at h1
  have h4 := biE1 (g := fList) (ma := mVar 4) (ρ := lawE K a ns (.at_ p1 (intsD r)) (.fz (.int (m : Int))) (.fz (.int (p : Int))) (.at_ p4 (intsD w)) .un .un .un .un (.at_ p9 (.list due)) .un .un .un .un) (m1 := .bo) rfl
  rw [list_bo] at h4
  exact asgE (lstE (dConsE h1 (.inr rfl) (dConsE (ms := dNil) h4 (.inr rfl) rfl)) (by simp)) rfl
theorem hd_ix (r w : List Int) (i : Nat) (x : List Int) (h : [r, w][i]? = some x) (m' : Md) : fIx .bo (.list [intsD r, intsD w]) m' (.int (i : Int)) = some (.bo, intsD x) := by
  have hi := (List.getElem?_eq_some_iff.mp h).1
  rw [fIx_some (d := intsD x) (by omega) (by show (i : Int) < ((2 : Nat) : Int); simp at hi; omega) (by rw [Int.toNat_natCast]; show ([r, w].map intsD)[i]? = _; rw [List.getElem?_map, h]; rfl)]
  rfl
theorem told_sep (r w : List Int) (m p : Nat) (hr : isRing r) (m1 : 1 ≤ m) (m2 : m ≤ 8) (hp : p < r.length) (hw : isWord w) (p1 p4 p9 p10 : Addr) : sepItems (compBody 13 tYesM (mCall 5 d__law_asked (mCons (mVar 13) (mCons (mBin fIx (mVar 10) (mC (.int 0))) (mCons (mVar 2) (mCons (mVar 3) (mCons (mBin fIx (mVar 10) (mC (.int 1))) mNil)))))) (lawE K a ns (.at_ p1 (intsD r)) (.fz (.int (m : Int))) (.fz (.int (p : Int))) (.at_ p4 (intsD w)) .un .un .un .un (.at_ p9 (.list (dueD r m p w))) (.at_ p10 (.list [intsD r, intsD w])) .un .un .un)) (rangeD 0 6) ((dueD r m p w).map fun d => (mdOf d, d)) := by
  refine six_sep (R := intsD r) (S := .int (m : Int)) (P := .int (p : Int)) (W := intsD w) rfl (by simp) (m1 := .bo) (fun c => ?_) (m2 := .fz) (fun c => rfl) (m3 := .fz) (fun c => rfl) (m4 := .bo) (fun c => ?_) fun k hk => ask_good r m p w (isRing_ok hr) (size_ok m1 m2) hp (isWord_ok hw) k hk
  · rw [binE (m1 := .bo) (x := .list [intsD r, intsD w]) rfl (m2 := .fz) (y := .int ((0 : Nat) : Int)) rfl, hd_ix r w 0 r rfl]; rfl
  · rw [binE (m1 := .bo) (x := .list [intsD r, intsD w]) rfl (m2 := .fz) (y := .int ((1 : Nat) : Int)) rfl, hd_ix r w 1 w rfl]; rfl
theorem disp2 (r w : List Int) (ρ : Ev) (md1 md4 : Md) (h1 : mVar 1 ρ = .ok (md1, intsD r)) (h4 : mVar 4 ρ = .ok (md4, intsD w)) (hm1 : md1 = .bo) (hm4 : md4 = .bo) : mLst (dCons (mVar 1) (dCons (mVar 4) dNil)) ρ = .ok (.bo, .list [intsD r, intsD w]) := by
  subst hm1; subst hm4
  rw [z_ls, dConsG h1 rfl (dConsG (ms := dNil) h4 rfl rfl), z_b1]
  rfl
theorem e13_cond (r w : List Int) (ρ : Ev) (md10 md1 md4 : Md) (h10 : mVar 10 ρ = .ok (md10, .list [intsD r, intsD w])) (h1 : mVar 1 ρ = .ok (md1, intsD r)) (h4 : mVar 4 ρ = .ok (md4, intsD w)) (hm1 : md1 = .bo) (hm4 : md4 = .bo) : mB (mBin fNe (mVar 10) (mLst (dCons (mVar 1) (dCons (mVar 4) dNil)))) ρ = .ok false := by
  unfold mB
  rw [binE h10 (disp2 r w ρ md1 md4 h1 h4 hm1 hm4)]
  have e := fNe_rows md10 .bo [r, w] [r, w]
  show (Res.of (fNe md10 (.list ([r, w].map intsD)) .bo (.list ([r, w].map intsD)))).bind asB = _
  rw [e, decide_eq_true rfl]
  rfl
theorem e13_eq (r w : List Int) (ρ : Ev) (md10 md1 md4 : Md) (h10 : mVar 10 ρ = .ok (md10, .list [intsD r, intsD w])) (h1 : mVar 1 ρ = .ok (md1, intsD r)) (h4 : mVar 4 ρ = .ok (md4, intsD w)) (hm1 : md1 = .bo) (hm4 : md4 = .bo) : ml_13 K a ns ρ = .next ρ := by
  unfold ml_13
  rw [ifE (e13_cond r w ρ md10 md1 md4 h10 h1 h4 hm1 hm4)]
  rfl
theorem e10_eq (r w : List Int) (m p : Nat) (hr : isRing r) (m2 : m ≤ 8) (hp : p < r.length) (hw : isWord w) (p1 p4 p9 p10 p11 : Addr) : ml_10 K a ns (lawE K a ns (.at_ p1 (intsD r)) (.fz (.int (m : Int))) (.fz (.int (p : Int))) (.at_ p4 (intsD w)) .un .un .un .un (.at_ p9 (.list (dueD r m p w))) (.at_ p10 (.list [intsD r, intsD w])) (.at_ p11 (.list (dueD r m p w))) .un .un) = .next (lawE K a ns (.at_ p1 (intsD r)) (.fz (.int (m : Int))) (.fz (.int (p : Int))) (.at_ p4 (intsD w)) .un .un .un .un (.at_ p9 (.list (dueD r m p w))) (.at_ p10 (.list [intsD r, intsD w])) (.at_ p11 (.list (dueD r m p w))) .un .un) := by
  obtain ⟨r1, r2, _⟩ := hr
  obtain ⟨w1, w2, _⟩ := hw
  have hs := shaped_list (due_small r m p w)
  have hk := due_kinds r m p w (by omega) (by omega) (by omega)
  have hl : (dueD r m p w).length = 6 := rfl
  generalize dueD r m p w = due at hs hk hl ⊢
  generalize hρ : lawE K a ns (.at_ p1 (intsD r)) (.fz (.int (m : Int))) (.fz (.int (p : Int))) (.at_ p4 (intsD w)) .un .un .un .un (.at_ p9 (.list due)) (.at_ p10 (.list [intsD r, intsD w])) (.at_ p11 (.list due)) .un .un = ρ
  have v11 : mVar 11 ρ = .ok (.bo, .list due) := by rw [← hρ]; rfl
  have v9 : mVar 9 ρ = .ok (.bo, .list due) := by rw [← hρ]; rfl
  have v10 : mVar 10 ρ = .ok (.bo, .list [intsD r, intsD w]) := by rw [← hρ]; rfl
  have v1 : mVar 1 ρ = .ok (.bo, intsD r) := by rw [← hρ]; rfl
  have v4 : mVar 4 ρ = .ok (.bo, intsD w) := by rw [← hρ]; rfl
  have len : 5 < ρ.length := by rw [← hρ]; simp
  have t1 : mB (mBin fNe (mVar 11) (mVar 9)) ρ = .ok false := by
    unfold mB
    rw [binE v11 v9, fNe_self _ _ hs]; rfl
  have hc := comp_none (body := compBody 5 (mNot (mTru (mCall 1 d__law_kinds (mCons (mVar 5) mNil)))) (mVar 5) ρ) (due.map fun x => (Md.bo, x)) true [] (fun x hx => by
    obtain ⟨y, hy, rfl⟩ := List.mem_map.mp hx
    have e := callE1 (f := d__law_kinds) (ma := mVar 5) (ρ := ρ.set 5 (cellOf (Md.bo, y))) (m1 := .bo) (x := y) (by rw [z_v0, List.getElem?_set_self len]; rfl)
    rw [hk y hy] at e
    unfold compBody mNot
    rw [truE (m := .fz) e]
    rfl)
  have hcomp := mComp_ok (mi := iL (mVar 11)) (j := 5) (ρ := ρ) (b := false) (by rw [z_iv0, v11]; rfl) (by rw [List.length_map, hl]; omega) hc
  have t2 : mB (mBin fNe (mComp (iL (mVar 11)) 5 (mNot (mTru (mCall 1 d__law_kinds (mCons (mVar 5) mNil)))) (mVar 5)) (mLst dNil)) ρ = .ok false := by
    unfold mB
    rw [binE hcomp (mb := mLst dNil) (m2 := .fr) (y := .list []) rfl, fNe_nil]; rfl
  have t3 := e13_cond r w ρ .bo .bo .bo v10 v1 v4 rfl rfl
  unfold ml_10
  have t : mOr (mB (mBin fNe (mVar 11) (mVar 9))) (mOr (mB (mBin fNe (mComp (iL (mVar 11)) 5 (mNot (mTru (mCall 1 d__law_kinds (mCons (mVar 5) mNil)))) (mVar 5)) (mLst dNil))) (mB (mBin fNe (mVar 10) (mLst (dCons (mVar 1) (dCons (mVar 4) dNil)))))) ρ = .ok false := by
    unfold mOr
    rw [t1, z_b1, if_neg (by decide)]
    show ((mB _ ρ).bind fun b => if b = true then _ else _) = _
    rw [t2, z_b1, if_neg (by decide)]
    exact t3
  rw [ifE t]
  rfl
theorem end_eq (r w : List Int) (m p : Nat) (hr : isRing r) (m1 : 1 ≤ m) (m2 : m ≤ 8) (hp : p < r.length) (hw : isWord w) (es : List D) (hl : es.length = 6) (h3 : es[3]? = some (intsD (rdI r r.length p ++ [0]))) (h4 : es[4]? = some (intsD (leastI r ++ [0]))) (h5 : es[5]? = some (intsD (turnI w ++ [0]))) :
    seqs [ml_16 K a ns, ml_17 K a ns, ml_18 K a ns] (lawE K a ns (.bo (intsD r)) (.fz (.int (m : Int))) (.fz (.int (p : Int))) (.bo (intsD w)) .un .un .un .un (.bo (.list (dueD r m p w))) .un (.bo (.list es)) .un .un) = .ret (.bool true) := by
  have hs := shaped_list (due_small r m p w)
  have hw' := hw
  have hr' := hr
  have d3 : (dueD r m p w)[3]? = some (intsD (rdI r r.length p)) := rfl
  have d4 : (dueD r m p w)[4]? = some (intsD (leastI r)) := rfl
  have d5 : (dueD r m p w)[5]? = some (intsD (turnI w)) := rfl
  have hdl : (dueD r m p w).length = 6 := rfl
  have good := fun k hk => ask_good r m p w (isRing_ok hr) (size_ok m1 m2) hp (isWord_ok hw) k hk
  have hn : ∀ x ∈ [rdI r r.length p, leastI r, turnI w], x.length ≤ 1000 := by
    intro x hx
    simp only [List.mem_cons, List.not_mem_nil, or_false] at hx
    rcases hx with rfl | rfl | rfl
    · rw [rdI_len]; have := hr.2.1; omega
    · have := (minR_le (rdI r r.length 0) (allR r r.length).tail).1
      have hall : ∀ x ∈ rdI r r.length 0 :: (allR r r.length).tail, x.length = r.length := fun x hx => by
        rcases List.mem_cons.mp hx with rfl | hx
        · exact rdI_len _ _ _
        · have hx := List.mem_of_mem_tail hx
          unfold allR at hx
          obtain ⟨k, _, rfl⟩ := List.mem_map.mp hx
          exact rdI_len _ _ _
      have := hall _ this
      unfold leastI
      have := hr.2.1
      omega
    · unfold turnI
      rw [List.length_take]
      have := hw.2.1
      omega
  have n3 := hn (rdI r r.length p) (by simp)
  have n4 := hn (leastI r) (by simp)
  have n5 := hn (turnI w) (by simp)
  generalize rdI r r.length p = x3 at d3 h3 n3
  generalize leastI r = x4 at d4 h4 n4
  generalize turnI w = x5 at d5 h5 n5
  generalize dueD r m p w = due at hs d3 d4 d5 hdl good ⊢
  have e16 : ml_16 K a ns (lawE K a ns (.bo (intsD r)) (.fz (.int (m : Int))) (.fz (.int (p : Int))) (.bo (intsD w)) .un .un .un .un (.bo (.list due)) .un (.bo (.list es)) .un .un) = .next (lawE K a ns (.bo (intsD r)) (.fz (.int (m : Int))) (.fz (.int (p : Int))) (.bo (intsD w)) .un .un .un .un (.bo (.list due)) .un (.bo (.list es)) (.ow due) .un) := by
    have e := six_eq (ρ := lawE K a ns (.bo (intsD r)) (.fz (.int (m : Int))) (.fz (.int (p : Int))) (.bo (intsD w)) .un .un .un .un (.bo (.list due)) .un (.bo (.list es)) .un .un) (mr := mBi fList (mCons (mVar 1) mNil)) (ms := mVar 2) (mp := mVar 3) (mw := mBi fList (mCons (mVar 4) mNil)) (out := due) (R := intsD r) (S := .int (m : Int)) (P := .int (p : Int)) (W := intsD w) hdl (by simp) (m1 := .fr) (fun c => by rw [biE1 (m1 := .bo) (x := intsD r) rfl, list_bo]; rfl) (m2 := .fz) (fun c => rfl) (m3 := .fz) (fun c => rfl) (m4 := .fr) (fun c => by rw [biE1 (m1 := .bo) (x := intsD w) rfl, list_bo]; rfl) good
    exact asgE e rfl
  generalize hρ : lawE K a ns (.bo (intsD r)) (.fz (.int (m : Int))) (.fz (.int (p : Int))) (.bo (intsD w)) .un .un .un .un (.bo (.list due)) .un (.bo (.list es)) (.ow due) .un = ρ at e16
  have v12 : mVar 12 ρ = .ok (.tmp, .list due) := by rw [← hρ]; rfl
  have v9 : mVar 9 ρ = .ok (.bo, .list due) := by rw [← hρ]; rfl
  have v11 : mVar 11 ρ = .ok (.bo, .list es) := by rw [← hρ]; rfl
  have pick : ∀ (i : Nat) (x : List Int), i < 6 → due[i]? = some (intsD x) → es[i]? = some (intsD (x ++ [0])) → x.length ≤ 1000 → mBin fIx (mVar 11) (mC (.int (i : Int))) ρ = .ok (.bo, intsD (x ++ [0])) ∧ mBin fAdd (mBin fIx (mVar 9) (mC (.int (i : Int)))) (mLst (dCons (mC (.int 0)) dNil)) ρ = .ok (.fr, intsD (x ++ [0])) := by
    intro i x hi hd he hx
    constructor
    · rw [binE v11 (mb := mC (.int (i : Int))) (m2 := .fz) (y := .int (i : Int)) rfl, fIx_some (d := intsD (x ++ [0])) (by omega) (by omega) (by rw [Int.toNat_natCast]; exact he)]
      rfl
    · have h1 := binE (g := fIx) v9 (mb := mC (.int (i : Int))) (m2 := .fz) (y := .int (i : Int)) rfl
      rw [fIx_some (d := intsD x) (by omega) (by omega) (by rw [Int.toNat_natCast]; exact hd)] at h1
      have h2 := binE (g := fAdd) h1 (lstE (ρ := ρ) (dConsE (ma := mC (.int 0)) (ms := dNil) (m := .fz) rfl (.inl rfl) rfl) (by simp))
      rw [h2]
      show Res.of (fAdd .bo (.list (x.map .int)) .fr (.list [.int 0])) = _
      rw [z_f2, if_pos (by simp; omega)]
      have : elFz .bo (x.map PyData.int) = true := all_sc _
      rw [this]
      unfold intsD
      rw [List.map_append]
      rfl
  obtain ⟨a3, b3⟩ := pick 3 x3 (by omega) d3 h3 n3
  obtain ⟨a4, b4⟩ := pick 4 x4 (by omega) d4 h4 n4
  obtain ⟨a5, b5⟩ := pick 5 x5 (by omega) d5 h5 n5
  have ne : ∀ {ma mb : Ev → RV} {y : List Int} {m1 m2 : Md}, ma ρ = .ok (m1, intsD y) → mb ρ = .ok (m2, intsD y) → mB (mBin fNe ma mb) ρ = .ok false := fun h1 h2 => by
    unfold mB
    rw [binE h1 h2, fNe_ints, decide_eq_true rfl]; rfl
  have e17 : ml_17 K a ns ρ = .next ρ := by
    unfold ml_17
    have t1 : mB (mBin fNe (mVar 12) (mVar 9)) ρ = .ok false := by
      unfold mB
      rw [binE v12 v9, fNe_self _ _ hs]; rfl
    have t3 := ne a3 b3
    have t4 := ne a4 b4
    have t : mOr (mB (mBin fNe (mVar 12) (mVar 9))) (mOr (mB (mBin fNe (mBin fIx (mVar 11) (mC (.int 3))) (mBin fAdd (mBin fIx (mVar 9) (mC (.int 3))) (mLst (dCons (mC (.int 0)) dNil))))) (mB (mBin fNe (mBin fIx (mVar 11) (mC (.int 4))) (mBin fAdd (mBin fIx (mVar 9) (mC (.int 4))) (mLst (dCons (mC (.int 0)) dNil)))))) ρ = .ok false := by
      unfold mOr
      rw [t1, z_b1, if_neg (by decide)]
      show ((mB _ ρ).bind fun b => if b = true then _ else _) = _
      rw [show mB (mBin fNe (mBin fIx (mVar 11) (mC (.int 3))) (mBin fAdd (mBin fIx (mVar 9) (mC (.int 3))) (mLst (dCons (mC (.int 0)) dNil)))) ρ = .ok false from t3, z_b1, if_neg (by decide)]
      exact t4
    rw [ifE t]
    rfl
  have e18 : ml_18 K a ns ρ = .ret (.bool true) := by
    unfold ml_18 sRet
    have h := binE (g := fEq) a5 b5
    rw [fEq_ints, decide_eq_true rfl] at h
    rw [show mBin fEq (mBin fIx (mVar 11) (mC (.int 5))) (mBin fAdd (mBin fIx (mVar 9) (mC (.int 5))) (mLst (dCons (mC (.int 0)) dNil))) ρ = .ok (.fz, .bool true) from h]
    rfl
  unfold seqs
  rw [e16, z_q1]; unfold seqs
  rw [e17, z_q1]; unfold seqs
  rw [e18]; rfl
end
end L2.Xq.Law
set_option Elab.async false
set_option linter.all false
set_option maxRecDepth 100000
set_option maxHeartbeats 4000000
namespace L2.Xq.Law
open PySem PySem.Spec PyProof.Rows
theorem sep_rep {H : Hp} {F N : Addr → Prop} : ∀ {vs : List V} {xs : List (Md × D)}, Sep H F N vs xs → RepAll H All vs (xs.map (·.2))
  | _, _, .nil => .nil
  | _, _, .fz r t => .cons r.all (sep_rep t)
  | _, _, .fr hp r nf hn hm t => .cons (.lst trivial hp r.all) (sep_rep t)
theorem dueFz (r w : List Int) (m p : Nat) : ∀ x ∈ (dueD r m p w).map (fun d => (mdOf d, d)), x.1 = .fz → isListD x.2 = false := by
  intro x hx
  obtain ⟨d, _, rfl⟩ := List.mem_map.mp hx
  intro h
  cases d <;> first | rfl | cases h
theorem dueSz (r w : List Int) (m p : Nat) (hr : r.length ≤ 1000) (hm : m ≤ 1000) (hw : w.length ≤ 1000) : ∀ x ∈ (dueD r m p w).map (fun d => (mdOf d, d)), ∀ es, x.2 = .list es → es.length < 16777216 := by
  intro x hx es he
  obtain ⟨d, hd, rfl⟩ := List.mem_map.mp hx
  have he : d = .list es := he
  subst he
  have hints : ∀ l : List Int, l.length ≤ 1000 → PyData.list es = intsD l → es.length < 16777216 := fun l hl e => by
    unfold intsD at e
    injection e with e
    rw [e, List.length_map]; omega
  unfold dueD at hd
  simp only [List.mem_cons, List.not_mem_nil, or_false] at hd
  rcases hd with e | e | e | e | e | e
  · injection e with e
    rw [e]; simp [allR]; omega
  · exact hints _ (by rw [rdI_len]; exact hm) e
  · unfold whereD at e
    cases h : placeI r w with
    | none => rw [h] at e; cases e
    | some j => rw [h] at e; injection e with e; rw [e]; simp
  · exact hints _ (by rw [rdI_len]; exact hr) e
  · refine hints _ ?_ e
    have := (minR_le (rdI r r.length 0) (allR r r.length).tail).1
    have hall : ∀ x ∈ rdI r r.length 0 :: (allR r r.length).tail, x.length = r.length := fun x hx => by
      rcases List.mem_cons.mp hx with rfl | hx
      · exact rdI_len _ _ _
      · have hx := List.mem_of_mem_tail hx
        unfold allR at hx
        obtain ⟨k, _, rfl⟩ := List.mem_map.mp hx
        exact rdI_len _ _ _
    have := hall _ this
    unfold leastI
    omega
  · refine hints _ ?_ e
    unfold turnI
    rw [List.length_take]; omega
/-- an own told row of ints, by its place -/
theorem own_row {H : Hp} {F N : Addr → Prop} {vs : List V} {xs : List (Md × D)} {i : Nat} {v : V} {l : List Int} (sp : Sep H F N vs xs) (hv : vs[i]? = some v) (hx : xs[i]? = some (.fr, intsD l)) : ∃ p, v = .ref p ∧ H p = some (.lst (l.map V.int)) ∧ ¬ F p ∧ N p := by
  rcases sep_cases sp hv hx with ⟨h, _⟩ | ⟨p, us, es, e, ex, hp, rr, nf, hN⟩
  · cases h
  · unfold intsD at ex
    injection ex with _ ex
    injection ex with ex
    subst ex
    have := rr.int_inv
    subst this
    exact ⟨p, e, hp, nf, hN⟩
theorem at_val {H0 H : Hp} {F : Addr → Prop} {σ : St} {ρ : Ev} {i : Nat} {p : Addr} {d : D} (w : Wf H0 F σ ρ H) (hi : ρ[i]? = some (.at_ p d)) : σ[i]? = some (some (.ref p)) := by
  have hl : i < σ.length := by rw [w.len]; exact (List.getElem?_eq_some_iff.mp hi).1
  have es := List.getElem?_eq_getElem hl
  obtain ⟨ev, _⟩ := w.cell i _ _ hi es
  rw [es, ev]
theorem adr_val {H0 H : Hp} {F : Addr → Prop} {σ : St} {ρ : Ev} {i : Nat} {p : Addr} (w : Wf H0 F σ ρ H) (hi : ρ[i]? = some (.adr p)) : σ[i]? = some (some (.ref p)) := by
  have hl : i < σ.length := by rw [w.len]; exact (List.getElem?_eq_some_iff.mp hi).1
  have es := List.getElem?_eq_getElem hl
  have ev := w.cell i _ _ hi es
  rw [es, show σ[i] = some (.ref p) from ev]
theorem sep_not {H : Hp} {F N : Addr → Prop} {vs : List V} {xs : List (Md × D)} (sp : Sep H F N vs xs) {b : Addr} (h1 : ¬ F b) (h2 : ¬ N b) (n : Nat) (h : vs[n]? = some (.ref b)) : False := by
  have hl := sp.length
  obtain ⟨hn, _⟩ := List.getElem?_eq_some_iff.mp h
  rcases sep_cases sp h (List.getElem?_eq_getElem (show n < xs.length by omega)) with ⟨_, rr⟩ | ⟨p, us, es, e, _, _, _, _, hN⟩
  · exact h1 (rep_ref rr)
  · cases e; exact h2 hN
theorem scr_up {K : PySem.W.Frag} {H H' : Hp} {a : Addr} {l : List V} (h : SqL K H a l) (k : ∀ b o, H b = some o → H' b = some o) : SqL K H' a l := by
  rcases h with (x | ⟨o, x⟩) | x
  · exact .inl (.inl (k _ _ x))
  · exact .inl (.inr ⟨o, k _ _ x⟩)
  · exact .inr x
theorem bo_up {H H' : Hp} {v : V} {d : D} (r : Rep H (Bo H fun _ => False) v d) (k : ∀ b o, H b = some o → H' b = some o) : Rep H' (Bo H' fun _ => False) v d :=
  r.mono (fun b h => h.imp (fun ⟨o, e⟩ => ⟨o, k _ _ e⟩) id) fun b o _ e => k b o e
theorem lcS_run {κ : Ex → Addr} {W : WX} {mi : Ev → RI} {i j : Nat} {mt : Ev → Res Bool} {me : Ev → RV} {σ : St} {H0 H : Hp} {F0 : Addr → Prop} {ρ : Ev} {u : TS} {D' : Ends} {b : Bool} {items xs : List (Md × D)} (w : Wf H0 F0 σ ρ H) (ei : mi ρ = .ok (b, items)) (hsz : items.length ≤ 16777216) (hb : sepItems (compBody j mt me ρ) items xs)
    (k : ∀ (B : Addr) (vs : List V) (H' : Hp) (F : Addr → Prop), Grow H F0 H' F → ¬ F B → H B = none → H' B = some (.lst vs) → Sep H' F (fun p => H p = none ∧ p ≠ B) vs xs → u D' (σ.set i (some (.ref B))) H') : tSeq (tLcS κ W i mi j mt me) u D' σ H :=
  comp_sep (Q := fun x H' => u D' (σ.set i (some x)) H') w ei hsz hb k
abbrev un13 (K : PySem.W.Frag) (a : Addr) (ns : List Int) : Ev := lawE K a ns .un .un .un .un .un .un .un .un .un .un .un .un .un
theorem law_read {κ : Ex → Addr} {W : WX} {X : Cx} {u : TS} {D' : Ends} (K : PySem.W.Frag) (a : Addr) (ns : List Int) {H : Hp} (hS : SqL K H a (ns.map V.int)) (hrt : ∀ H', D'.rt (.bl true) H') :
    tSeqs κ W [ml_0 K a ns, ml_1 K a ns, ml_2 K a ns, ml_3 K a ns, ml_4 K a ns, ml_5 K a ns] (tSeq (tIfS (tT (κ := κ) W (mB (mBin fEq (mBin fMod (mCallS K a ns 0 1 (d__law_cell_at K) (mCons (mC (.int 5)) mNil)) (mC (.int 4))) (mC (.int 1))))) (tSeq (tUnp K κ W [5, 6, 7, 8, 9] (xCallS K a ns 0 4 (d__law_refused K) (xCons (xOf (mVar 1)) (xCons (xOf (mVar 2)) (xCons (xOf (mVar 3)) (xCons (xOf (mVar 4)) xNil)))))) (tS κ W refE)) tNext)
      (tSeqs κ W [ml_7 K a ns, ml_8 K a ns] (tSeq (tLcS κ W 11 (iR1 (mC (.int 6))) 13 tYesM (mCall 5 d__law_asked (mCons (mVar 13) (mCons (mBin fIx (mVar 10) (mC (.int 0))) (mCons (mVar 2) (mCons (mVar 3) (mCons (mBin fIx (mVar 10) (mC (.int 1))) mNil)))))))
        (tSeqs κ W [ml_10 K a ns] (tSeq (tAppFor (X := X) κ W 11 5) (tSeq (tA00 (X := X) 11 0) (tSeqs κ W [ml_13 K a ns] (tSeq (tClrIx (X := X) 10 0) (tSeq (tClrIx (X := X) 10 1) (tSeqs κ W [ml_16 K a ns, ml_17 K a ns, ml_18 K a ns] u)))))))))) D' (some (.ref a) :: List.replicate 13 none) H := by
  refine seqs_run ⟨H, fun _ => False, un13 K a ns, start_gen rfl (fun i c v h1 h2 => ?_) (fun i es h => ?_), ?_⟩
  · rcases i with _ | _ | _ | _ | _ | _ | _ | _ | _ | _ | _ | _ | _ | _ | i <;> cases h1
    · cases h2; exact ⟨rfl, hS⟩
    all_goals trivial
  · rcases i with _ | _ | _ | _ | _ | _ | _ | _ | _ | _ | _ | _ | _ | _ | i <;> cases h
  obtain ⟨r, m, p, w, hr, m1, m2, hp, hw, eA⟩ := partA K a ns
  rw [eA]
  intro σ6 H6 F6 st6 w6
  obtain ⟨b, eb⟩ := test5 K a ns (lawE K a ns (.ow (r.map .int)) (.fz (.int (m : Int))) (.fz (.int (p : Int))) (.ow (w.map .int)) .un .un .un .un .un .un .un .un .un) rfl
  refine ⟨H, F6, _, w6, ?_⟩
  rw [eb]
  intro H6' F6' g6
  have w6 := w6.grow g6
  cases b with
  | true =>
    rw [if_pos rfl]
    obtain ⟨R, S, P, Wd, out, ol, os, oa, ec⟩ := ref_call K a ns r w m p hr m1 m2 hp hw
    refine unp_run w6 ec (unp_env K a ns r w m p R S P Wd out) fun σ' H' w' _ => ⟨_, _, _, w', ?_⟩
    rw [ref_ret K a ns _ _ _ _ _ _ _ _ R S P Wd out ol os oa]
    intro v H'' Sx _ _ rv
    cases rv
    exact hrt H''
  | false =>
  rw [if_neg (by decide)]
  show tSeqs κ W ([ml_7 K a ns] ++ [ml_8 K a ns]) _ D' σ6 H6'
  show tSeqs κ W [ml_7 K a ns] (tSeqs κ W [ml_8 K a ns] _) D' σ6 H6'
  refine seqs_run ⟨H, F6', _, w6, ?_⟩
  unfold seqs
  rw [e7_eq K a ns r w m p hr m2 hp hw, z_q1]
  intro σ7 H7 F7 st7 w7
  obtain ⟨p1, x1, es1, hp1, hr1⟩ := own_at w7 (i := 1) (by rfl)
  obtain ⟨p4, x4, es4, hp4, hr4⟩ := own_at w7 (i := 4) (by rfl)
  obtain ⟨p9, x9, es9, hp9, hr9⟩ := own_at w7 (i := 9) (by rfl)
  have w8 := w7.rebase
  have w8 := w8.pin (i := 1) (p := p1) (d := intsD r) (by rfl) es1
  have w8 := w8.pin (i := 4) (p := p4) (d := intsD w) (by rfl) es4
  have w8 := w8.pin (i := 9) (p := p9) (d := .list (dueD r m p w)) (by rfl) es9
  refine seqs_run ⟨H7, fun _ => False, lawE K a ns (.at_ p1 (intsD r)) (.fz (.int (m : Int))) (.fz (.int (p : Int))) (.at_ p4 (intsD w)) .un .un .un .un (.at_ p9 (.list (dueD r m p w))) .un .un .un .un, w8, ?_⟩
  obtain ⟨_, q1⟩ := w8.cell 1 _ _ (by rfl) es1
  obtain ⟨_, q4⟩ := w8.cell 4 _ _ (by rfl) es4
  obtain ⟨_, q9⟩ := w8.cell 9 _ _ (by rfl) es9
  unfold seqs
  rw [e8_eq K a ns r w m p p1 p4 p9 (dueD r m p w), z_q1]
  intro σ9 H9 F9 st9 w9
  have len9 : σ9.length = 14 := w9.len
  obtain ⟨p10, x10, es10, hp10, hr10⟩ := own_at w9 (i := 10) (by rfl)
  obtain ⟨p10', _, ep, _, nf10, hn10, _⟩ := w9.cell 10 _ _ (by rfl) es10
  cases ep
  obtain ⟨as, exs, hlen, hrow⟩ := rows_inv (rows := [r, w]) hr10
  subst exs
  obtain ⟨h0, h1, rfl⟩ : ∃ h0 h1, as = [h0, h1] := by
    match as, hlen with
    | [x, y], _ => exact ⟨x, y, rfl⟩
  obtain ⟨eh0, fh0⟩ := hrow 0 h0 r rfl rfl
  obtain ⟨eh1, fh1⟩ := hrow 1 h1 w rfl rfl
  have w10 := w9.rebase
  have w10 := w10.pin (i := 10) (p := p10) (d := .list [intsD r, intsD w]) (by rfl) es10
  obtain ⟨_, q10⟩ := w10.cell 10 _ _ (by rfl) es10
  refine lcS_run (w := w10) (b := false) (items := rangeD 0 6) (xs := (dueD r m p w).map fun d => (mdOf d, d)) (iR1_ok (ma := mC (.int 6)) (m := .fz) (n := 6) rfl (by omega)) (by rw [rangeD_len]; omega) (told_sep K a ns r w m p hr m1 m2 hp hw p1 p4 p9 p10) fun Dd vs Hc Fc g nD hDn hD sp => ?_
  have hdl : (dueD r m p w).length = 6 := rfl
  have vl : vs.length = 6 := by rw [sp.length, List.length_map]; rfl
  have hall : RepAll Hc All vs (dueD r m p w) := by
    have h := sep_rep sp
    rw [List.map_map, show ((fun x : Md × D => x.2) ∘ fun d => (mdOf d, d)) = id from rfl, List.map_id] at h
    exact h
  have w11 := ((w10.grow g).rebase).put (i := 11) (c := .at_ Dd (.list (dueD r m p w))) (v := some (.ref Dd)) ⟨rfl, (Rep.lst (S := All) trivial hD hall).dom.mono (fun _ h => .inl h) fun _ _ _ e => e⟩ (fun _ z => nomatch z)
  refine seqs_run ⟨Hc, fun _ => False, lawE K a ns (.at_ p1 (intsD r)) (.fz (.int (m : Int))) (.fz (.int (p : Int))) (.at_ p4 (intsD w)) .un .un .un .un (.at_ p9 (.list (dueD r m p w))) (.at_ p10 (.list [intsD r, intsD w])) (.at_ Dd (.list (dueD r m p w))) .un .un, w11, ?_⟩
  unfold seqs
  rw [e10_eq K a ns r w m p hr m2 hp hw p1 p4 p9 p10 Dd, z_q1]
  intro σ12 H12 F12 st12 w12
  have len12 : σ12.length = 14 := w12.len
  have sp12 := sp.grow (H' := H12) (F' := Fc) ⟨w12.ext, fun _ h => h, fun _ h => .inl h⟩
  have hD12 := w12.ext _ _ hD
  have i11 := at_val w12 (i := 11) (by rfl)
  obtain ⟨r1, r2, r3⟩ := id hr
  obtain ⟨wl1, wl2, wl3⟩ := id hw
  refine app_for (i := 11) (j := 5) (D0 := Dd) (F := Fc) (vs := vs) (xs := (dueD r m p w).map fun d => (mdOf d, d)) i11 (by decide) (by omega) hD12 nD (fun z => z.2 rfl) sp12 (dueFz r w m p) (dueSz r w m p (by omega) (by omega) (by omega)) fun σ13 H13 k1 k2 k3 k4 => ?_
  -- the first told list
  have newF : ∀ b, Fc b → H9 b = none := fun b hb => by
    rcases g.new b hb with z | ⟨z, _⟩
    · exact z.elim
    · exact z
  have hv0 : vs[0]? = some (vs[0]'(by omega)) := List.getElem?_eq_getElem (by omega)
  obtain ⟨q0, us0, es0, e0, ex0, hq0, rr0, nf0, N0⟩ : ∃ p us es, vs[0]'(by omega) = .ref p ∧ ((Md.fr, PyData.list ((allR r m).map intsD)) : Md × D) = (.fr, .list es) ∧ H12 p = some (.lst us) ∧ RepAll H12 Fc us es ∧ ¬ Fc p ∧ (H9 p = none ∧ p ≠ Dd) := by
    rcases sep_cases sp12 hv0 (x := (.fr, .list ((allR r m).map intsD))) rfl with ⟨h, _⟩ | h
    · cases h
    · exact h
  injection ex0 with _ ex0
  injection ex0 with ex0
  subst ex0
  obtain ⟨as, eas, alen, arow⟩ := rows_inv rr0
  subst eas
  obtain ⟨r0, as', rfl⟩ : ∃ x l, as = x :: l := by
    cases as with
    | nil => simp [allR] at alen; omega
    | cons x l => exact ⟨x, l, rfl⟩
  have har : (allR r m)[0]? = some (rdI r m 0) := by rw [allR_cons r m r1]; rfl
  obtain ⟨hr0, fr0⟩ := arow 0 r0 _ rfl har
  rw [e0] at hv0
  have hD13 := k3 Dd _ hD12 fun n hn => (sep_not sp12 nD (fun z => z.2 rfl) n hn).elim
  have hq13 := k4 0 q0 _ hv0 nf0 hq0
  have hr13 := k3 r0 _ hr0 fun _ _ => fr0
  obtain ⟨vs', rfl⟩ : ∃ l, vs = V.ref q0 :: l := by
    cases vs with
    | nil => simp at vl
    | cons x l =>
      simp at e0
      exact ⟨l, by rw [e0]⟩
  refine a00 (i := 11) (n := 0) (p := Dd) (q := q0) (r := r0) (vs := vs') (us := as'.map V.ref ++ [V.int 0]) (ws := (rdI r m 0).map V.int) (by rw [k1 11 (by decide)]; exact i11) hD13 hq13 hr13 (by rw [List.length_map, rdI_len]; omega) ?_
  have ne0 : ∀ b o, H9 b = some o → b ≠ r0 := fun b o e z => by subst z; rw [newF _ fr0] at e; cases e
  have keep9 : ∀ b o, H9 b = some o → upd H13 r0 (.lst ((rdI r m 0).map V.int ++ [.int 0])) b = some o := fun b o e => by
    rw [upd_ne (ne0 b o e)]
    exact k3 b o (w12.ext _ _ (g.ext _ _ e)) fun n hn => (sep_not sp12 (fun z => by rw [newF _ z] at e; cases e) (fun z => by rw [z.1] at e; cases e) n hn).elim
  have keep79 : ∀ b o, H7 b = some o → H9 b = some o := w9.ext
  have keepH7 : ∀ b o, H b = some o → H7 b = some o := w7.ext
  have keep7 : ∀ b o, H7 b = some o → upd H13 r0 (.lst ((rdI r m 0).map V.int ++ [.int 0])) b = some o := fun b o e => keep9 b o (keep79 b o e)
  have i1 := at_val w12 (i := 1) (by rfl)
  have i4 := at_val w12 (i := 4) (by rfl)
  have i9 := at_val w12 (i := 9) (by rfl)
  have i10 := at_val w12 (i := 10) (by rfl)
  refine seqs_run ⟨upd H13 r0 (.lst ((rdI r m 0).map V.int ++ [.int 0])), fun _ => False, lawE K a ns (.at_ p1 (intsD r)) (.fz (.int (m : Int))) (.fz (.int (p : Int))) (.at_ p4 (intsD w)) .un .un .un .un (.at_ p9 (.list (dueD r m p w))) (.at_ p10 (.list [intsD r, intsD w])) (.adr Dd) .un .un, start_gen (by rw [k2]; exact len12) (fun i c v h1 h2 => ?_) (fun i es h => ?_), ?_⟩
  · rcases i with _ | _ | _ | _ | _ | _ | _ | _ | _ | _ | _ | _ | _ | _ | i <;> cases h1
    · rw [k1 0 (by decide)] at h2
      obtain ⟨ev, _⟩ := w12.cell 0 _ _ (by rfl) h2
      exact ⟨ev, scr_up hS fun b o e => keep7 b o (keepH7 b o e)⟩
    · rw [k1 1 (by decide), i1] at h2; cases h2; exact ⟨rfl, bo_up q1 keep7⟩
    · rw [k1 2 (by decide)] at h2; obtain ⟨x, ev, rx⟩ := w12.cell 2 _ _ (by rfl) h2; exact ⟨x, ev, rx.scalar rfl⟩
    · rw [k1 3 (by decide)] at h2; obtain ⟨x, ev, rx⟩ := w12.cell 3 _ _ (by rfl) h2; exact ⟨x, ev, rx.scalar rfl⟩
    · rw [k1 4 (by decide), i4] at h2; cases h2; exact ⟨rfl, bo_up q4 keep7⟩
    · trivial
    · trivial
    · trivial
    · trivial
    · rw [k1 9 (by decide), i9] at h2; cases h2; exact ⟨rfl, bo_up q9 keep7⟩
    · rw [k1 10 (by decide), i10] at h2; cases h2; exact ⟨rfl, bo_up q10 keep9⟩
    · rw [k1 11 (by decide), i11] at h2; cases h2; exact rfl
    all_goals trivial
  · rcases i with _ | _ | _ | _ | _ | _ | _ | _ | _ | _ | _ | _ | _ | _ | i <;> cases h
  unfold seqs
  rw [e13_eq K a ns r w _ .bo .bo .bo rfl rfl rfl rfl rfl, z_q1]
  intro σ15 H15 F15 st15 w15
  have len15 : σ15.length = 14 := w15.len
  have j10 := at_val w15 (i := 10) (by rfl)
  have hp15 : H15 p10 = some (.lst [V.ref h0, V.ref h1]) := w15.ext _ _ (keep9 _ _ hp10)
  have hh0 : H15 h0 = some (.lst (r.map V.int)) := w15.ext _ _ (keep9 _ _ eh0)
  have hh1 : H15 h1 = some (.lst (w.map V.int)) := w15.ext _ _ (keep9 _ _ eh1)
  have n100 : p10 ≠ h0 := fun z => nf10 (z ▸ fh0)
  have n101 : p10 ≠ h1 := fun z => nf10 (z ▸ fh1)
  refine clrIx (i := 10) (n := 0) (p := p10) (q := h0) j10 hp15 (by simp [atI, ixN]) hh0 ?_
  obtain ⟨us1, hu1⟩ : ∃ us, upd H15 h0 (.lst []) h1 = some (.lst us) := by
    by_cases z : h1 = h0
    · subst z; exact ⟨_, upd_same⟩
    · rw [upd_ne z]; exact ⟨_, hh1⟩
  refine clrIx (i := 10) (n := 1) (p := p10) (q := h1) j10 (by rw [upd_ne n100]; exact hp15) (by simp [atI, ixN]) hu1 ?_
  -- what has become of all
  generalize hH17 : upd (upd H15 h0 (.lst [])) h1 (.lst []) = H17
  have at17 : ∀ b, b ≠ h0 → b ≠ h1 → H17 b = H15 b := fun b z0 z1 => by rw [← hH17, upd_ne z1, upd_ne z0]
  have clr17 : ∀ b, b = h0 ∨ b = h1 → H17 b = some (.lst []) := fun b hb => by
    rw [← hH17]
    by_cases z : b = h1
    · subst z; exact upd_same
    · rw [upd_ne z]
      rcases hb with hb | hb
      · subst hb; exact upd_same
      · exact (z hb).elim
  have new7 : ∀ b, b = h0 ∨ b = h1 → H7 b = none := fun b hb => by
    rcases hb with rfl | rfl
    · exact w9.new _ fh0
    · exact w9.new _ fh1
  have old9 : ∀ b, b = h0 ∨ b = h1 → ∃ l, H9 b = some (.lst l) := fun b hb => by
    rcases hb with rfl | rfl
    · exact ⟨_, eh0⟩
    · exact ⟨_, eh1⟩
  have keep17 : ∀ b o, H7 b = some o → H17 b = some o := fun b o e => by
    rw [at17 b (fun z => by rw [new7 b (.inl z)] at e; cases e) (fun z => by rw [new7 b (.inr z)] at e; cases e)]
    exact w15.ext _ _ (keep7 b o e)
  have nOld : ∀ b, H9 b = none → b ≠ h0 ∧ b ≠ h1 := fun b e => by
    constructor
    · intro z
      obtain ⟨l, el⟩ := old9 b (.inl z)
      rw [e] at el; cases el
    · intro z
      obtain ⟨l, el⟩ := old9 b (.inr z)
      rw [e] at el; cases el
  have spo : Spoil H12 H17 := fun b o e => by
    by_cases hb : b = h0 ∨ b = h1
    · obtain ⟨l, el⟩ := old9 b hb
      rw [w12.ext _ _ (g.ext _ _ el)] at e
      cases e
      exact .inr ⟨_, [], rfl, clr17 b hb, by simp⟩
    rw [at17 b (fun z => hb (.inl z)) (fun z => hb (.inr z))]
    by_cases h0' : b = r0
    · subst h0'
      rw [hr0] at e
      cases e
      refine .inr ⟨_, _, rfl, w15.ext _ _ upd_same, fun y hy => ?_⟩
      rcases List.mem_append.mp hy with hy | hy
      · exact .inl hy
      · exact .inr ⟨0, by simpa using hy⟩
    by_cases ex : ∃ n : Nat, (V.ref q0 :: vs')[n]? = some (V.ref b) ∧ ¬ Fc b
    · obtain ⟨n, hn, nfb⟩ := ex
      have hnl := (List.getElem?_eq_some_iff.mp hn).1
      rcases sep_cases sp12 hn (List.getElem?_eq_getElem (show n < ((dueD r m p w).map fun d => (mdOf d, d)).length by rw [List.length_map, hdl]; omega)) with ⟨_, rr⟩ | ⟨p', us, es, e', _, hp', _, _, _⟩
      · exact (nfb (rep_ref rr)).elim
      · cases e'
        rw [hp'] at e
        cases e
        refine .inr ⟨_, _, rfl, w15.ext _ _ (by rw [upd_ne h0']; exact k4 n b us hn nfb hp'), fun y hy => ?_⟩
        rcases List.mem_append.mp hy with hy | hy
        · exact .inl hy
        · exact .inr ⟨0, by simpa using hy⟩
    · refine .inl (w15.ext _ _ ?_)
      rw [upd_ne h0']
      exact k3 b o e fun (n : Nat) (hn : (V.ref q0 :: vs')[n]? = some (V.ref b)) => Classical.byContradiction fun z => ex ⟨n, hn, z⟩
  obtain ⟨_, hs⟩ := RepAll.spoil spo (hall.mono (S' := All) (fun _ _ => trivial) fun b o _ e => w12.ext b o e)
  obtain ⟨es, hes⟩ := hs (V.ref q0 :: vs') fun y hy => .inl hy
  have hel : es.length = 6 := by rw [← hes.length]; exact vl
  have hD17 : H17 Dd = some (.lst (V.ref q0 :: vs')) := by
    rw [at17 Dd (nOld Dd hDn).1 (nOld Dd hDn).2]
    refine w15.ext _ _ ?_
    rw [upd_ne fun z => by subst z; exact nD fr0]
    exact hD13
  have rowAt : ∀ (i : Nat) (l : List Int), i < 6 → ((dueD r m p w).map fun d => (mdOf d, d))[i]? = some (.fr, intsD l) → es[i]? = some (intsD (l ++ [0])) := fun i l hi hx => by
    have hv := List.getElem?_eq_getElem (show i < (V.ref q0 :: vs').length by omega)
    obtain ⟨pi, ev, hpi, nfi, Ni⟩ := own_row sp12 hv hx
    rw [ev] at hv
    have h13 := k4 i pi _ hv nfi hpi
    have h17 : H17 pi = some (.lst ((l ++ [0]).map V.int)) := by
      rw [at17 pi (nOld pi Ni.1).1 (nOld pi Ni.1).2]
      refine w15.ext _ _ ?_
      rw [upd_ne fun z => by subst z; exact nfi fr0, h13, List.map_append]
      rfl
    obtain ⟨d, hd, rd⟩ := hes.getV hv
    have rd2 : Rep H17 All (.ref pi) (intsD (l ++ [0])) := .lst trivial h17 (RepAll.ints _)
    rw [hd, Rep.fn rd rd2]
  have j1 := at_val w15 (i := 1) (by rfl)
  have j4 := at_val w15 (i := 4) (by rfl)
  have j9 := at_val w15 (i := 9) (by rfl)
  have j11 := adr_val w15 (i := 11) (by rfl)
  refine seqs_run ⟨H17, fun _ => False, lawE K a ns (.bo (intsD r)) (.fz (.int (m : Int))) (.fz (.int (p : Int))) (.bo (intsD w)) .un .un .un .un (.bo (.list (dueD r m p w))) .un (.bo (.list es)) .un .un, start_gen len15 (fun i c v h1 h2 => ?_) (fun i es h => ?_), ?_⟩
  · rcases i with _ | _ | _ | _ | _ | _ | _ | _ | _ | _ | _ | _ | _ | _ | i <;> cases h1
    · obtain ⟨ev, _⟩ := w15.cell 0 _ _ (by rfl) h2
      exact ⟨ev, scr_up hS fun b o e => keep17 b o (keepH7 b o e)⟩
    · rw [j1] at h2; cases h2; exact ⟨_, rfl, bo_up q1 keep17⟩
    · obtain ⟨x, ev, rx⟩ := w15.cell 2 _ _ (by rfl) h2; exact ⟨x, ev, rx.scalar rfl⟩
    · obtain ⟨x, ev, rx⟩ := w15.cell 3 _ _ (by rfl) h2; exact ⟨x, ev, rx.scalar rfl⟩
    · rw [j4] at h2; cases h2; exact ⟨_, rfl, bo_up q4 keep17⟩
    · trivial
    · trivial
    · trivial
    · trivial
    · rw [j9] at h2; cases h2; exact ⟨_, rfl, bo_up q9 keep17⟩
    · trivial
    · rw [j11] at h2; cases h2
      exact ⟨_, rfl, (Rep.lst (S := All) trivial hD17 hes).dom.mono (fun _ h => .inl h) fun _ _ _ e => e⟩
    all_goals trivial
  · rcases i with _ | _ | _ | _ | _ | _ | _ | _ | _ | _ | _ | _ | _ | _ | i <;> cases h
  rw [end_eq K a ns r w m p hr m1 m2 hp hw es hel (rowAt 3 _ (by omega) rfl) (rowAt 4 _ (by omega) rfl) (rowAt 5 _ (by omega) rfl)]
  intro v H'' Sx _ _ rv
  cases rv
  exact hrt H''
end L2.Xq.Law
set_option Elab.async false
set_option linter.all false
set_option maxRecDepth 100000
set_option maxHeartbeats 4000000
namespace L2.Xq.Law
open PySem PySem.Spec PyProof.Rows
section
variable {P : Program} {w : World} {K : PySem.W.Frag} {mg : Str → Option Value} {base : Heap}
theorem ok_law (T : Txt K mg) : FnOk P w K mg base (L2.CX P w) 7 T.D_law.f T.D_law.fd ["_law_script"] (spLaw K) := by
  refine T.D_law.F.okX (k := 6) sc_law (fun vs H Q E h => ?_) (fun cdv A outer s H vs Q E hr h => ?_)
  · obtain ⟨a, ns, rfl, _⟩ := h
    rfl
  · obtain ⟨a, ns, rfl, hS, q⟩ := h
    refine ⟨_, law_body T a ns hr, ?_⟩
    have h := law_read (κ := T.κ) (W := fun cls d _ H => E cls d H) (X := cxOf (L2.CX P w) P w K mg base ["_law_script", "_law_ring_here", "_law_size", "_law_place", "_law_word", "_law_one", "_law_two", "_law_three", "_law_four", "_law_due_here", "_law_handed", "_law_told", "_law_again", "_law_way"] "law" (defScope st_law) T.D_law.f cdv A outer s H E) (u := tNext) (D' := { nx := fun _ H' => Q .non H', rt := Q }) K a ns hS q
    unfold refE at h
    exact h
end
section
variable {w : World} {K : PySem.W.Frag} {h : Heap} {mg : Str → Option Value}
theorem end_mk {l : PySem.W.OpenLaw} {fa : Addr} (X : K.In h) (G : h.Ns mainGlobals mg) (hfa : mg "law" = some (.ref fa)) {x0 x1 x2 x3 x4 x5 x6 x7 : Addr}
    (k0 : Kc K "RingError" x0)
    (k1 : Kc K "BadSize" x1)
    (k2 : Kc K "BadWord" x2)
    (k3 : Kc K "BadBook" x3)
    (k4 : Kc K "BadRing" x4)
    (k5 : Kc K "NoWord" x5)
    (k6 : Kc K "NoRing" x6)
    (k7 : Kc K "NoJoin" x7)
    (s0 : Ks K x2) (e0 : PySem.W.subIn K (.ref x2) (.ref x0) = some true) (i0_1 : PySem.W.subIn K (.ref x2) (.ref x1) = some false) (i0_2 : PySem.W.subIn K (.ref x2) (.ref x2) = some true) (i0_3 : PySem.W.subIn K (.ref x2) (.ref x3) = some false) (i0_4 : PySem.W.subIn K (.ref x2) (.ref x4) = some false) (i0_5 : PySem.W.subIn K (.ref x2) (.ref x5) = some false) (i0_6 : PySem.W.subIn K (.ref x2) (.ref x6) = some false) (i0_7 : PySem.W.subIn K (.ref x2) (.ref x7) = some false)
    (s1 : Ks K x1) (e1 : PySem.W.subIn K (.ref x1) (.ref x0) = some true) (i1_1 : PySem.W.subIn K (.ref x1) (.ref x1) = some true) (i1_2 : PySem.W.subIn K (.ref x1) (.ref x2) = some false) (i1_3 : PySem.W.subIn K (.ref x1) (.ref x3) = some false) (i1_4 : PySem.W.subIn K (.ref x1) (.ref x4) = some false) (i1_5 : PySem.W.subIn K (.ref x1) (.ref x5) = some false) (i1_6 : PySem.W.subIn K (.ref x1) (.ref x6) = some false) (i1_7 : PySem.W.subIn K (.ref x1) (.ref x7) = some false)
    (s2 : Ks K x4) (e2 : PySem.W.subIn K (.ref x4) (.ref x0) = some true) (i2_1 : PySem.W.subIn K (.ref x4) (.ref x1) = some false) (i2_2 : PySem.W.subIn K (.ref x4) (.ref x2) = some false) (i2_3 : PySem.W.subIn K (.ref x4) (.ref x3) = some false) (i2_4 : PySem.W.subIn K (.ref x4) (.ref x4) = some true) (i2_5 : PySem.W.subIn K (.ref x4) (.ref x5) = some false) (i2_6 : PySem.W.subIn K (.ref x4) (.ref x6) = some false) (i2_7 : PySem.W.subIn K (.ref x4) (.ref x7) = some false)
    (s3 : Ks K x5) (e3 : PySem.W.subIn K (.ref x5) (.ref x0) = some true) (i3_1 : PySem.W.subIn K (.ref x5) (.ref x1) = some false) (i3_2 : PySem.W.subIn K (.ref x5) (.ref x2) = some false) (i3_3 : PySem.W.subIn K (.ref x5) (.ref x3) = some false) (i3_4 : PySem.W.subIn K (.ref x5) (.ref x4) = some false) (i3_5 : PySem.W.subIn K (.ref x5) (.ref x5) = some true) (i3_6 : PySem.W.subIn K (.ref x5) (.ref x6) = some false) (i3_7 : PySem.W.subIn K (.ref x5) (.ref x7) = some false)
    (d0 : Df K mg "is_whole" st_is_whole ["thing", "low", "high"])
    (d1 : Df K mg "is_row" st_is_row ["thing", "most", "signs"])
    (d2 : Df K mg "check_piece" st_check_piece ["signs", "piece"])
    (d3 : Df K mg "check_ring_size" st_check_ring_size ["size"])
    (d4 : Df K mg "check_ring_over" st_check_ring_over ["signs", "ring"])
    (d5 : Df K mg "check_ring" st_check_ring ["ring"])
    (d6 : Df K mg "check_place" st_check_place ["ring", "place"])
    (d7 : Df K mg "read_round" st_read_round ["ring", "many", "place"])
    (d8 : Df K mg "read_all" st_read_all ["ring", "many"])
    (d9 : Df K mg "word_at" st_word_at ["ring", "size", "place"])
    (d10 : Df K mg "words_on" st_words_on ["ring", "size"])
    (d11 : Df K mg "place_of" st_place_of ["ring", "word"])
    (d12 : Df K mg "turned" st_turned ["ring", "place"])
    (d13 : Df K mg "least_turn" st_least_turn ["ring"])
    (d14 : Df K mg "turn_ring" st_turn_ring ["word"])
    (d15 : Df K mg "_law_cell_at" st__law_cell_at ["_law_script", "_law_k"])
    (d16 : Df K mg "_law_classes" st__law_classes ["_law_e"])
    (d17 : Df K mg "_law_ring" st__law_ring ["_law_script"])
    (d18 : Df K mg "_law_from" st__law_from ["_law_ring_here", "_law_place", "_law_size"])
    (d19 : Df K mg "_law_asked" st__law_asked ["_law_way", "_law_ring_here", "_law_size", "_law_place", "_law_word"])
    (d20 : Df K mg "_law_shortest" st__law_shortest ["_law_word"])
    (d21 : Df K mg "_law_due" st__law_due ["_law_ring_here", "_law_size", "_law_place", "_law_word"])
    (d22 : Df K mg "_law_kinds" st__law_kinds ["_law_found"])
    (d23 : Df K mg "_law_refused" st__law_refused ["_law_script", "_law_ring_here", "_law_size", "_law_place", "_law_word"])
    (d24 : Df K mg "law" st_law ["_law_script"])
    {t0 : Tok} (c0 : PySem.W.nsIn K mainGlobals "MOST_SIGNS" = some (some (.int 9 t0)))
    {t1 : Tok} (c1 : PySem.W.nsIn K mainGlobals "MOST_SIZE" = some (some (.int 8 t1)))
    {t2 : Tok} (c2 : PySem.W.nsIn K mainGlobals "MOST_WORDS" = some (some (.int 256 t2)))
    (m0 : PySem.W.nsIn K mainGlobals "ValueError" = some none)
    (m1 : PySem.W.nsIn K mainGlobals "all" = some none)
    (m2 : PySem.W.nsIn K mainGlobals "bool" = some none)
    (m3 : PySem.W.nsIn K mainGlobals "int" = some none)
    (m4 : PySem.W.nsIn K mainGlobals "isinstance" = some none)
    (m5 : PySem.W.nsIn K mainGlobals "len" = some none)
    (m6 : PySem.W.nsIn K mainGlobals "list" = some none)
    (m7 : PySem.W.nsIn K mainGlobals "min" = some none)
    (m8 : PySem.W.nsIn K mainGlobals "range" = some none)
    (m9 : PySem.W.nsIn K mainGlobals "sorted" = some none)
    (m10 : PySem.W.nsIn K mainGlobals "tuple" = some none)
    (m11 : PySem.W.nsIn K mainGlobals "type" = some none) :
    ∃ fd : FuncData, (∀ (s : Shared) (u : Value), BindsTo s fd ⟨[u], []⟩ [("_law_script", u)]) ∧ ∀ base : Heap, K.In base → base.Ns mainGlobals mg → FnOk l.prog w K mg base (L2.CX l.prog w) 7 fa fd ["_law_script"] (spLaw K) := by
  let T : Txt K mg := ⟨kap x0 x1 x2 x3 x4 x5 x6 x7, d0, d1, d2, d3, d4, d5, d6, d7, d8, d9, d10, d11, d12, d13, d14, d15, d16, d17, d18, d19, d20, d21, d22, d23, d24, ⟨t0, PySem.W.mg_of X G c0⟩, ⟨t1, PySem.W.mg_of X G c1⟩, ⟨t2, PySem.W.mg_of X G c2⟩, PySem.W.mg_none_of X G m0, PySem.W.mg_none_of X G m1, PySem.W.mg_none_of X G m2, PySem.W.mg_none_of X G m3, PySem.W.mg_none_of X G m4, PySem.W.mg_none_of X G m5, PySem.W.mg_none_of X G m6, PySem.W.mg_none_of X G m7, PySem.W.mg_none_of X G m8, PySem.W.mg_none_of X G m9, PySem.W.mg_none_of X G m10, PySem.W.mg_none_of X G m11, k0.xc X G, k1.xc X G, k2.xc X G, k3.xc X G, k4.xc X G, k5.xc X G, k6.xc X G, k7.xc X G, rc_mk (κ := kap x0 x1 x2 x3 x4 x5 x6 x7) (c := .word) k2 s0 (fun k hk => match k, hk with | .ring, hk => (hk rfl).elim | .size, _ => kit_mk k1 i0_1 (fun _ => i0_2) | .word, _ => kit_mk k2 i0_2 (fun _ => i0_2) | .book, _ => kit_mk k3 i0_3 (fun _ => i0_2) | .bring, _ => kit_mk k4 i0_4 (fun _ => i0_2) | .noword, _ => kit_mk k5 i0_5 (fun _ => i0_2) | .noring, _ => kit_mk k6 i0_6 (fun _ => i0_2) | .nojoin, _ => kit_mk k7 i0_7 (fun _ => i0_2)) (exm_mk k0 e0), rc_mk (κ := kap x0 x1 x2 x3 x4 x5 x6 x7) (c := .size) k1 s1 (fun k hk => match k, hk with | .ring, hk => (hk rfl).elim | .size, _ => kit_mk k1 i1_1 (fun _ => i1_1) | .word, _ => kit_mk k2 i1_2 (fun _ => i1_1) | .book, _ => kit_mk k3 i1_3 (fun _ => i1_1) | .bring, _ => kit_mk k4 i1_4 (fun _ => i1_1) | .noword, _ => kit_mk k5 i1_5 (fun _ => i1_1) | .noring, _ => kit_mk k6 i1_6 (fun _ => i1_1) | .nojoin, _ => kit_mk k7 i1_7 (fun _ => i1_1)) (exm_mk k0 e1), rc_mk (κ := kap x0 x1 x2 x3 x4 x5 x6 x7) (c := .bring) k4 s2 (fun k hk => match k, hk with | .ring, hk => (hk rfl).elim | .size, _ => kit_mk k1 i2_1 (fun _ => i2_4) | .word, _ => kit_mk k2 i2_2 (fun _ => i2_4) | .book, _ => kit_mk k3 i2_3 (fun _ => i2_4) | .bring, _ => kit_mk k4 i2_4 (fun _ => i2_4) | .noword, _ => kit_mk k5 i2_5 (fun _ => i2_4) | .noring, _ => kit_mk k6 i2_6 (fun _ => i2_4) | .nojoin, _ => kit_mk k7 i2_7 (fun _ => i2_4)) (exm_mk k0 e2), rc_mk (κ := kap x0 x1 x2 x3 x4 x5 x6 x7) (c := .noword) k5 s3 (fun k hk => match k, hk with | .ring, hk => (hk rfl).elim | .size, _ => kit_mk k1 i3_1 (fun _ => i3_5) | .word, _ => kit_mk k2 i3_2 (fun _ => i3_5) | .book, _ => kit_mk k3 i3_3 (fun _ => i3_5) | .bring, _ => kit_mk k4 i3_4 (fun _ => i3_5) | .noword, _ => kit_mk k5 i3_5 (fun _ => i3_5) | .noring, _ => kit_mk k6 i3_6 (fun _ => i3_5) | .nojoin, _ => kit_mk k7 i3_7 (fun _ => i3_5)) (exm_mk k0 e3)⟩
  have e := hfa.symm.trans T.D_law.g
  cases e
  refine ⟨T.D_law.fd, fun s u => ?_, fun base _ _ => ok_law T⟩
  obtain ⟨oc, od, kV, doc, pm, an, cdv, ct, osl, e, lk, hcd⟩ := T.D_law.F.ex
  rw [e]
  exact .of_eq rfl
end
theorem walk {l : PySem.W.OpenLaw} {q : Program} {loose : List Str} {XP : (Str → Option Value) → Heap → Prop} {YP : World → Heap → Prop} {d : DefRec} {K : Params → PySem.W.Frag} (hn : l.most = some 63) (hdf : d.params.defaults = [])
    (hY : ∀ (w : World) (h : Heap), YP w h → (K w.params).In h)
    (F : ∀ (w : World) (mg : Str → Option Value) (fa : Addr) (h : Heap), (K w.params).In h → h.Ns mainGlobals mg → mg d.name = some (.ref fa) →
      ∃ fd : FuncData, (∀ (s : Shared) (u : Value), BindsTo s fd ⟨[u], []⟩ [("_law_script", u)]) ∧ ∀ base : Heap, (K w.params).In base → base.Ns mainGlobals mg → FnOk l.prog w (K w.params) mg base (L2.CX l.prog w) 7 fa fd ["_law_script"] (spLaw (K w.params))) :
    PySem.W.WalkO q loose XP YP l.row.toRowW d [] (fun f vs => PySem.call f vs) :=
  L2.walk_of (n := 63) (k := 7) (x := "_law_script") (CX := fun w => L2.CX l.prog w) (sp := fun w => spLaw (K w.params)) hn (by decide) hdf ⟨rfl, by decide, by decide⟩ hY F (fun _ _ a ns hl _ hS => ⟨a, ns, rfl, hS, fun _ => rfl⟩) fun w H s e s' z => by
    obtain ⟨_, _, _, _, _, _, _, _, _, _, _, _, z⟩ := z
    exact z
end L2.Xq.Law
set_option Elab.async false
open PySem PySem.W PyProof.Rows
set_option maxRecDepth 100000 in
set_option maxHeartbeats 0 in
theorem PySem.Challenge.cw_fullring_k03_rings_read_round_holds : PySem.Challenge.rw_fullring_k03_rings_read_round.Holds := by
  w_on; o_law; k_head; (case hw => w_witness2)
  k_fill
  refine L2.Xq.Law.walk (l := PySem.Challenge.rw_fullring_k03_rings_read_round) rfl rfl (fun w h Y => PySem.W.kIn_of Y) ?F
  case F =>
    intro w mg fa h KX G hmg
    refine' L2.Xq.Law.end_mk KX G hmg ?k0 ?k1 ?k2 ?k3 ?k4 ?k5 ?k6 ?k7 ?s0 ?e0 ?i0_1 ?i0_2 ?i0_3 ?i0_4 ?i0_5 ?i0_6 ?i0_7 ?s1 ?e1 ?i1_1 ?i1_2 ?i1_3 ?i1_4 ?i1_5 ?i1_6 ?i1_7 ?s2 ?e2 ?i2_1 ?i2_2 ?i2_3 ?i2_4 ?i2_5 ?i2_6 ?i2_7 ?s3 ?e3 ?i3_1 ?i3_2 ?i3_3 ?i3_4 ?i3_5 ?i3_6 ?i3_7 ?d0 ?d1 ?d2 ?d3 ?d4 ?d5 ?d6 ?d7 ?d8 ?d9 ?d10 ?d11 ?d12 ?d13 ?d14 ?d15 ?d16 ?d17 ?d18 ?d19 ?d20 ?d21 ?d22 ?d23 ?d24 ?c0 ?c1 ?c2 ?m0 ?m1 ?m2 ?m3 ?m4 ?m5 ?m6 ?m7 ?m8 ?m9 ?m10 ?m11
    (case k0 => (refine' ⟨?ka, ?kx, ?kk, ?ks, ?ky, ?kc⟩; (case ka => k_is); (case kx => k_exc); (case kk => k_is); (case ks => first | rfl | k_is); (case ky => k_is); (case kc => k_is)))
    (case k1 => (refine' ⟨?ka, ?kx, ?kk, ?ks, ?ky, ?kc⟩; (case ka => k_is); (case kx => k_exc); (case kk => k_is); (case ks => first | rfl | k_is); (case ky => k_is); (case kc => k_is)))
    (case k2 => (refine' ⟨?ka, ?kx, ?kk, ?ks, ?ky, ?kc⟩; (case ka => k_is); (case kx => k_exc); (case kk => k_is); (case ks => first | rfl | k_is); (case ky => k_is); (case kc => k_is)))
    (case k3 => (refine' ⟨?ka, ?kx, ?kk, ?ks, ?ky, ?kc⟩; (case ka => k_is); (case kx => k_exc); (case kk => k_is); (case ks => first | rfl | k_is); (case ky => k_is); (case kc => k_is)))
    (case k4 => (refine' ⟨?ka, ?kx, ?kk, ?ks, ?ky, ?kc⟩; (case ka => k_is); (case kx => k_exc); (case kk => k_is); (case ks => first | rfl | k_is); (case ky => k_is); (case kc => k_is)))
    (case k5 => (refine' ⟨?ka, ?kx, ?kk, ?ks, ?ky, ?kc⟩; (case ka => k_is); (case kx => k_exc); (case kk => k_is); (case ks => first | rfl | k_is); (case ky => k_is); (case kc => k_is)))
    (case k6 => (refine' ⟨?ka, ?kx, ?kk, ?ks, ?ky, ?kc⟩; (case ka => k_is); (case kx => k_exc); (case kk => k_is); (case ks => first | rfl | k_is); (case ky => k_is); (case kc => k_is)))
    (case k7 => (refine' ⟨?ka, ?kx, ?kk, ?ks, ?ky, ?kc⟩; (case ka => k_is); (case kx => k_exc); (case kk => k_is); (case ks => first | rfl | k_is); (case ky => k_is); (case kc => k_is)))
    (case s0 => (refine' ⟨?hg, ?hk, ?hd, ?ha, ?hn, ?ht, ?hm, ?hv⟩; (case hg => k_is); (case hk => k_is); (case hd => k_is); (case ha => k_is); (case hn => k_is); (case ht => k_is); (case hm => k_is); (case hv => k_is)))
    (case e0 => k_is)
    (case i0_1 => k_is); (case i0_2 => k_is); (case i0_3 => k_is); (case i0_4 => k_is); (case i0_5 => k_is); (case i0_6 => k_is); (case i0_7 => k_is)
    (case s1 => (refine' ⟨?hg, ?hk, ?hd, ?ha, ?hn, ?ht, ?hm, ?hv⟩; (case hg => k_is); (case hk => k_is); (case hd => k_is); (case ha => k_is); (case hn => k_is); (case ht => k_is); (case hm => k_is); (case hv => k_is)))
    (case e1 => k_is)
    (case i1_1 => k_is); (case i1_2 => k_is); (case i1_3 => k_is); (case i1_4 => k_is); (case i1_5 => k_is); (case i1_6 => k_is); (case i1_7 => k_is)
    (case s2 => (refine' ⟨?hg, ?hk, ?hd, ?ha, ?hn, ?ht, ?hm, ?hv⟩; (case hg => k_is); (case hk => k_is); (case hd => k_is); (case ha => k_is); (case hn => k_is); (case ht => k_is); (case hm => k_is); (case hv => k_is)))
    (case e2 => k_is)
    (case i2_1 => k_is); (case i2_2 => k_is); (case i2_3 => k_is); (case i2_4 => k_is); (case i2_5 => k_is); (case i2_6 => k_is); (case i2_7 => k_is)
    (case s3 => (refine' ⟨?hg, ?hk, ?hd, ?ha, ?hn, ?ht, ?hm, ?hv⟩; (case hg => k_is); (case hk => k_is); (case hd => k_is); (case ha => k_is); (case hn => k_is); (case ht => k_is); (case hm => k_is); (case hv => k_is)))
    (case e3 => k_is)
    (case i3_1 => k_is); (case i3_2 => k_is); (case i3_3 => k_is); (case i3_4 => k_is); (case i3_5 => k_is); (case i3_6 => k_is); (case i3_7 => k_is)
    (case d0 => (refine' L2.Xq.df_mk KX G ?da ?dl ?dc ?dk (fun _ _ _ _ _ _ us hl => match us, hl with | [_, _, _], _ => rfl); (case da => k_is); (case dl => k_is); (case dc => k_is); (case dk => k_is)))
    (case d1 => (refine' L2.Xq.df_mk KX G ?da ?dl ?dc ?dk (fun _ _ _ _ _ _ us hl => match us, hl with | [_, _, _], _ => rfl); (case da => k_is); (case dl => k_is); (case dc => k_is); (case dk => k_is)))
    (case d2 => (refine' L2.Xq.df_mk KX G ?da ?dl ?dc ?dk (fun _ _ _ _ _ _ us hl => match us, hl with | [_, _], _ => rfl); (case da => k_is); (case dl => k_is); (case dc => k_is); (case dk => k_is)))
    (case d3 => (refine' L2.Xq.df_mk KX G ?da ?dl ?dc ?dk (fun _ _ _ _ _ _ us hl => match us, hl with | [_], _ => rfl); (case da => k_is); (case dl => k_is); (case dc => k_is); (case dk => k_is)))
    (case d4 => (refine' L2.Xq.df_mk KX G ?da ?dl ?dc ?dk (fun _ _ _ _ _ _ us hl => match us, hl with | [_, _], _ => rfl); (case da => k_is); (case dl => k_is); (case dc => k_is); (case dk => k_is)))
    (case d5 => (refine' L2.Xq.df_mk KX G ?da ?dl ?dc ?dk (fun _ _ _ _ _ _ us hl => match us, hl with | [_], _ => rfl); (case da => k_is); (case dl => k_is); (case dc => k_is); (case dk => k_is)))
    (case d6 => (refine' L2.Xq.df_mk KX G ?da ?dl ?dc ?dk (fun _ _ _ _ _ _ us hl => match us, hl with | [_, _], _ => rfl); (case da => k_is); (case dl => k_is); (case dc => k_is); (case dk => k_is)))
    (case d7 => (refine' L2.Xq.df_mk KX G ?da ?dl ?dc ?dk (fun _ _ _ _ _ _ us hl => match us, hl with | [_, _, _], _ => rfl); (case da => k_is); (case dl => k_is); (case dc => k_is); (case dk => k_is)))
    (case d8 => (refine' L2.Xq.df_mk KX G ?da ?dl ?dc ?dk (fun _ _ _ _ _ _ us hl => match us, hl with | [_, _], _ => rfl); (case da => k_is); (case dl => k_is); (case dc => k_is); (case dk => k_is)))
    (case d9 => (refine' L2.Xq.df_mk KX G ?da ?dl ?dc ?dk (fun _ _ _ _ _ _ us hl => match us, hl with | [_, _, _], _ => rfl); (case da => k_is); (case dl => k_is); (case dc => k_is); (case dk => k_is)))
    (case d10 => (refine' L2.Xq.df_mk KX G ?da ?dl ?dc ?dk (fun _ _ _ _ _ _ us hl => match us, hl with | [_, _], _ => rfl); (case da => k_is); (case dl => k_is); (case dc => k_is); (case dk => k_is)))
    (case d11 => (refine' L2.Xq.df_mk KX G ?da ?dl ?dc ?dk (fun _ _ _ _ _ _ us hl => match us, hl with | [_, _], _ => rfl); (case da => k_is); (case dl => k_is); (case dc => k_is); (case dk => k_is)))
    (case d12 => (refine' L2.Xq.df_mk KX G ?da ?dl ?dc ?dk (fun _ _ _ _ _ _ us hl => match us, hl with | [_, _], _ => rfl); (case da => k_is); (case dl => k_is); (case dc => k_is); (case dk => k_is)))
    (case d13 => (refine' L2.Xq.df_mk KX G ?da ?dl ?dc ?dk (fun _ _ _ _ _ _ us hl => match us, hl with | [_], _ => rfl); (case da => k_is); (case dl => k_is); (case dc => k_is); (case dk => k_is)))
    (case d14 => (refine' L2.Xq.df_mk KX G ?da ?dl ?dc ?dk (fun _ _ _ _ _ _ us hl => match us, hl with | [_], _ => rfl); (case da => k_is); (case dl => k_is); (case dc => k_is); (case dk => k_is)))
    (case d15 => (refine' L2.Xq.df_mk KX G ?da ?dl ?dc ?dk (fun _ _ _ _ _ _ us hl => match us, hl with | [_, _], _ => rfl); (case da => k_is); (case dl => k_is); (case dc => k_is); (case dk => k_is)))
    (case d16 => (refine' L2.Xq.df_mk KX G ?da ?dl ?dc ?dk (fun _ _ _ _ _ _ us hl => match us, hl with | [_], _ => rfl); (case da => k_is); (case dl => k_is); (case dc => k_is); (case dk => k_is)))
    (case d17 => (refine' L2.Xq.df_mk KX G ?da ?dl ?dc ?dk (fun _ _ _ _ _ _ us hl => match us, hl with | [_], _ => rfl); (case da => k_is); (case dl => k_is); (case dc => k_is); (case dk => k_is)))
    (case d18 => (refine' L2.Xq.df_mk KX G ?da ?dl ?dc ?dk (fun _ _ _ _ _ _ us hl => match us, hl with | [_, _, _], _ => rfl); (case da => k_is); (case dl => k_is); (case dc => k_is); (case dk => k_is)))
    (case d19 => (refine' L2.Xq.df_mk KX G ?da ?dl ?dc ?dk (fun _ _ _ _ _ _ us hl => match us, hl with | [_, _, _, _, _], _ => rfl); (case da => k_is); (case dl => k_is); (case dc => k_is); (case dk => k_is)))
    (case d20 => (refine' L2.Xq.df_mk KX G ?da ?dl ?dc ?dk (fun _ _ _ _ _ _ us hl => match us, hl with | [_], _ => rfl); (case da => k_is); (case dl => k_is); (case dc => k_is); (case dk => k_is)))
    (case d21 => (refine' L2.Xq.df_mk KX G ?da ?dl ?dc ?dk (fun _ _ _ _ _ _ us hl => match us, hl with | [_, _, _, _], _ => rfl); (case da => k_is); (case dl => k_is); (case dc => k_is); (case dk => k_is)))
    (case d22 => (refine' L2.Xq.df_mk KX G ?da ?dl ?dc ?dk (fun _ _ _ _ _ _ us hl => match us, hl with | [_], _ => rfl); (case da => k_is); (case dl => k_is); (case dc => k_is); (case dk => k_is)))
    (case d23 => (refine' L2.Xq.df_mk KX G ?da ?dl ?dc ?dk (fun _ _ _ _ _ _ us hl => match us, hl with | [_, _, _, _, _], _ => rfl); (case da => k_is); (case dl => k_is); (case dc => k_is); (case dk => k_is)))
    (case d24 => (refine' L2.Xq.df_mk KX G ?da ?dl ?dc ?dk (fun _ _ _ _ _ _ us hl => match us, hl with | [_], _ => rfl); (case da => k_is); (case dl => k_is); (case dc => k_is); (case dk => k_is)))
    (case c0 => k_is)
    (case c1 => k_is)
    (case c2 => k_is)
    (case m0 => k_is)
    (case m1 => k_is)
    (case m2 => k_is)
    (case m3 => k_is)
    (case m4 => k_is)
    (case m5 => k_is)
    (case m6 => k_is)
    (case m7 => k_is)
    (case m8 => k_is)
    (case m9 => k_is)
    (case m10 => k_is)
    (case m11 => k_is)
