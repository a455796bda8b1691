import PyProof.Rows.All
import Wide.All
import OpenK.AllK
import Wide.FinOn
import HandS.ForMost
import HandS.Evl
import HandS.IsInst
import KE.GoesEnum
import PyProof.EnumMake
import KE.KDictSum
import HandS.Conv
import HandS.ExcOwn
import HandS.ExcValue
import HandS.Zip
import HandS.Star
import HandS.Text
import HandS.Wide
import HandS.Gcd
import HandS.FStr
import PySem.Challenge.RW_cubesums_k20_exact_fractions
set_option Elab.async false
set_option linter.all false
set_option maxRecDepth 100000
set_option maxHeartbeats 2000000
/-! ZBase: values by what they say. A frozen heap G within the heap H, cells of slots (frozen data, or a list that the frame alone changes), what an expression, a test, a row of arguments, a statement comes to, told over cells alone. -/
namespace Z
open PySem L2
open Evl (Ex Ex.refl Ex.trans Ex.new ex_rd ex_l ex_t sq_of st_of fresh_back)

inductive D where
  | non
  | bl (b : Bool)
  | int (i : Int)
  | str (x : Str)
  | lst (l : List D)
  | tup (l : List D)
  | dK (l : List (Key × D))
  | dT (l : List (List Key × D))
  | ins (C : Addr) (l : List (Str × D))
  | rng (lo hi : Int)
  | tupf (l : List D)

/-- a tuple of tuples -/
def Heads (ds : List D) : Prop := ∃ es r, ds = .tup es :: r
/-- the tuple (0, 1) of the module's own -/
def KPair (K : PySem.W.Frag) (a : Addr) : Prop := ∃ (o : Obj) (its : Array Value) (n : Nat), K.lookup a = some o ∧ o.cls = .type "tuple" ∧ o.data = .seq its n ∧ its.size ≤ sizeLine ∧ Vals [.int 0, .int 1] its.toList
section
variable (K : PySem.W.Frag)
mutual
inductive Dz (H : Hp) : V → D → Prop
  | non : Dz H .non .non
  | bl (b : Bool) : Dz H (.bl b) (.bl b)
  | int (i : Int) : Dz H (.int i) (.int i)
  | str (x : Str) : Dz H (.str x) (.str x)
  | lst {a : Addr} {xs : List V} {ds : List D} : SqL K H a xs → Dzs H xs ds → Dz H (.ref a) (.lst ds)
  | tup {a : Addr} {xs : List V} {ds : List D} : H a = some (.tup xs) → Dzs H xs ds → Dz H (.ref a) (.tup ds)
  | zt {a : Addr} : KPair K a → Dz H (.ref a) (.tup [.int 0, .int 1])
  | dK {a : Addr} {xs : List (Key × V)} {ds : List (Key × D)} : H a = some (.dK xs) → DzP H xs ds → Dz H (.ref a) (.dK ds)
  | dT {a : Addr} {xs : List (List Key × V)} {ds : List (List Key × D)} : H a = some (.dT xs) → DzT H xs ds → Dz H (.ref a) (.dT ds)
  | ins {a C dx : Addr} {xs : List (Str × V)} {ds : List (Str × D)} : H a = some (.ins C dx xs) → DzF H xs ds → Dz H (.ref a) (.ins C ds)
  | rng {a : Addr} {lo hi : Int} : H a = some (.rng lo hi) → Dz H (.ref a) (.rng lo hi)
  | ft {a : Addr} {o : Obj} {xs : List V} {ds : List D} : H a = some (.frz o (.tup xs)) → Heads ds → Dzs H xs ds → Dz H (.ref a) (.tup ds)
  | tupf {a : Addr} {o : Obj} {xs : List V} {ds : List D} : H a = some (.frz o (.tup xs)) → o.cls = .type "tuple" → o.dict = none → Heads ds → Dzs H xs ds → Dz H (.ref a) (.tupf ds)
inductive Dzs (H : Hp) : List V → List D → Prop
  | nil : Dzs H [] []
  | cons {v : V} {d : D} {xs : List V} {ds : List D} : Dz H v d → Dzs H xs ds → Dzs H (v :: xs) (d :: ds)
inductive DzP (H : Hp) : List (Key × V) → List (Key × D) → Prop
  | nil : DzP H [] []
  | cons {k : Key} {v : V} {d : D} {xs : List (Key × V)} {ds : List (Key × D)} : Dz H v d → DzP H xs ds → DzP H ((k, v) :: xs) ((k, d) :: ds)
inductive DzT (H : Hp) : List (List Key × V) → List (List Key × D) → Prop
  | nil : DzT H [] []
  | cons {k : List Key} {v : V} {d : D} {xs : List (List Key × V)} {ds : List (List Key × D)} : Dz H v d → DzT H xs ds → DzT H ((k, v) :: xs) ((k, d) :: ds)
inductive DzF (H : Hp) : List (Str × V) → List (Str × D) → Prop
  | nil : DzF H [] []
  | cons {k : Str} {v : V} {d : D} {xs : List (Str × V)} {ds : List (Str × D)} : Dz H v d → DzF H xs ds → DzF H ((k, v) :: xs) ((k, d) :: ds)
end
end

section
variable {K : PySem.W.Frag} {H H' : Hp}
mutual
theorem Dz.mono (e : Ex H H') : ∀ {v : V} {d : D}, Dz K H v d → Dz K H' v d
  | _, _, .non => .non
  | _, _, .bl b => .bl b
  | _, _, .int i => .int i
  | _, _, .str x => .str x
  | _, _, .lst h hs => .lst (ex_l e h) (Dzs.mono e hs)
  | _, _, .tup h hs => .tup (e _ _ h) (Dzs.mono e hs)
  | _, _, .zt h => .zt h
  | _, _, .dK h hs => .dK (e _ _ h) (DzP.mono e hs)
  | _, _, .dT h hs => .dT (e _ _ h) (DzT.mono e hs)
  | _, _, .ins h hs => .ins (e _ _ h) (DzF.mono e hs)
  | _, _, .rng h => .rng (e _ _ h)
  | _, _, .ft h hd hs => .ft (e _ _ h) hd (Dzs.mono e hs)
  | _, _, .tupf h hc hn hd hs => .tupf (e _ _ h) hc hn hd (Dzs.mono e hs)
theorem Dzs.mono (e : Ex H H') : ∀ {xs : List V} {ds : List D}, Dzs K H xs ds → Dzs K H' xs ds
  | _, _, .nil => .nil
  | _, _, .cons h hs => .cons (Dz.mono e h) (Dzs.mono e hs)
theorem DzP.mono (e : Ex H H') : ∀ {xs : List (Key × V)} {ds : List (Key × D)}, DzP K H xs ds → DzP K H' xs ds
  | _, _, .nil => .nil
  | _, _, .cons h hs => .cons (Dz.mono e h) (DzP.mono e hs)
theorem DzT.mono (e : Ex H H') : ∀ {xs : List (List Key × V)} {ds : List (List Key × D)}, DzT K H xs ds → DzT K H' xs ds
  | _, _, .nil => .nil
  | _, _, .cons h hs => .cons (Dz.mono e h) (DzT.mono e hs)
theorem DzF.mono (e : Ex H H') : ∀ {xs : List (Str × V)} {ds : List (Str × D)}, DzF K H xs ds → DzF K H' xs ds
  | _, _, .nil => .nil
  | _, _, .cons h hs => .cons (Dz.mono e h) (DzF.mono e hs)
end
theorem Dzs.len : ∀ {xs : List V} {ds : List D}, Dzs K H xs ds → xs.length = ds.length
  | _, _, .nil => rfl
  | _, _, .cons _ hs => congrArg (· + 1) hs.len
theorem Dzs.get : ∀ {xs : List V} {ds : List D} {i : Nat} {d : D}, Dzs K H xs ds → ds[i]? = some d → ∃ v, xs[i]? = some v ∧ Dz K H v d
  | _, _, 0, _, .cons h _, e => ⟨_, rfl, by have q := Option.some.inj e; subst q; exact h⟩
  | _, _, i + 1, d, .cons (xs := xs) (ds := ds) _ hs, e => Dzs.get (i := i) hs (by simpa using e)
theorem Dzs.app : ∀ {xs ys : List V} {ds es : List D}, Dzs K H xs ds → Dzs K H ys es → Dzs K H (xs ++ ys) (ds ++ es)
  | _, _, _, _, .nil, h => h
  | _, _, _, _, .cons h hs, k => .cons h (hs.app k)
theorem Dzs.snoc {xs : List V} {ds : List D} {v : V} {d : D} (h : Dzs K H xs ds) (k : Dz K H v d) : Dzs K H (xs ++ [v]) (ds ++ [d]) := h.app (.cons k .nil)
theorem Dzs.drop : ∀ {xs : List V} {ds : List D} (n : Nat), Dzs K H xs ds → Dzs K H (xs.drop n) (ds.drop n)
  | _, _, 0, h => h
  | _, _, n + 1, .nil => .nil
  | _, _, n + 1, .cons _ hs => hs.drop n
theorem Dzs.set : ∀ {xs : List V} {ds : List D} {v : V} {d : D} (i : Nat), Dzs K H xs ds → Dz K H v d → Dzs K H (xs.set i v) (ds.set i d)
  | _, _, _, _, _, .nil, _ => .nil
  | _, _, _, _, 0, .cons _ hs, k => .cons k hs
  | _, _, _, _, i + 1, .cons h hs, k => .cons h (hs.set i k)
theorem Dz.int_inv {v : V} {i : Int} : Dz K H v (.int i) → v = .int i | .int _ => rfl
theorem Dz.bl_inv {v : V} {b : Bool} : Dz K H v (.bl b) → v = .bl b | .bl _ => rfl
theorem Dz.str_inv {v : V} {x : Str} : Dz K H v (.str x) → v = .str x | .str _ => rfl
theorem Dz.non_inv {v : V} : Dz K H v .non → v = .non | .non => rfl
theorem Dz.lst_inv {v : V} {ds : List D} : Dz K H v (.lst ds) → ∃ a xs, v = .ref a ∧ SqL K H a xs ∧ Dzs K H xs ds | .lst h hs => ⟨_, _, rfl, h, hs⟩
theorem Dz.tup_inv {v : V} {ds : List D} (h : Dz K H v (.tup ds)) : ∃ a xs, v = .ref a ∧ SqT K H a xs ∧ Dzs K H xs ds := by
  cases h with
  | tup h hs => exact ⟨_, _, rfl, st_of h, hs⟩
  | zt h => exact ⟨_, _, rfl, .inr h, .cons (.int 0) (.cons (.int 1) .nil)⟩
  | ft h _ hs => exact ⟨_, _, rfl, .inl (.inr ⟨_, h⟩), hs⟩
/-- what is read at once: data, or a tuple of the module's own -/
inductive DzR (K : PySem.W.Frag) (H : Hp) (v : V) (d : D) : Prop
  | dz (h : Dz K H v d)
  | kept {a : Addr} {xs : List V} {ds : List D} (hv : v = .ref a) (hd : d = .tup ds) (h : SqT K H a xs) (hs : Dzs K H xs ds)
theorem DzR.tup_inv {v : V} {ds : List D} (h : DzR K H v (.tup ds)) : ∃ a xs, v = .ref a ∧ SqT K H a xs ∧ Dzs K H xs ds := by
  cases h with
  | dz h => exact h.tup_inv
  | kept hv hd h hs => cases hd; exact ⟨_, _, hv, h, hs⟩
theorem DzR.lst_inv {v : V} {ds : List D} (h : DzR K H v (.lst ds)) : ∃ a xs, v = .ref a ∧ SqL K H a xs ∧ Dzs K H xs ds := by
  cases h with
  | dz h => exact h.lst_inv
  | kept hv hd h hs => cases hd
theorem DzR.int_inv {v : V} {i : Int} (h : DzR K H v (.int i)) : v = .int i := by
  cases h with
  | dz h => exact h.int_inv
  | kept hv hd h hs => cases hd
theorem DzR.bl_inv {v : V} {i : Bool} (h : DzR K H v (.bl i)) : v = .bl i := by
  cases h with
  | dz h => exact h.bl_inv
  | kept hv hd h hs => cases hd
theorem DzR.str_inv {v : V} {i : Str} (h : DzR K H v (.str i)) : v = .str i := by
  cases h with
  | dz h => exact h.str_inv
  | kept hv hd h hs => cases hd
theorem DzR.non_inv {v : V} (h : DzR K H v .non) : v = .non := by
  cases h with
  | dz h => exact h.non_inv
  | kept hv hd h hs => cases hd
/-- lists of flat things -/
theorem Dzs.ints : ∀ {xs : List V} {is : List Int}, Dzs K H xs (is.map D.int) → xs = is.map V.int
  | _, [], .nil => rfl
  | _, i :: is, .cons h hs => by rw [h.int_inv, hs.ints]; rfl
theorem Dzs.bls : ∀ {xs : List V} {is : List Bool}, Dzs K H xs (is.map D.bl) → xs = is.map V.bl
  | _, [], .nil => rfl
  | _, i :: is, .cons h hs => by rw [h.bl_inv, hs.bls]; rfl
theorem Dzs.of_ints : ∀ (is : List Int), Dzs K H (is.map V.int) (is.map D.int)
  | [] => .nil
  | i :: is => .cons (.int i) (Dzs.of_ints is)
end

/-- what an object that the frame alone changes holds -/
inductive MO where
  | lst (ds : List D)
  | dK (ds : List (Key × D))
  | dT (ds : List (List Key × D))
  | ins (C : Addr) (ds : List (Str × D))
def MO.d : MO → D
  | .lst ds => .lst ds
  | .dK ds => .dK ds
  | .dT ds => .dT ds
  | .ins C ds => .ins C ds
def MOk (K : PySem.W.Frag) (G : Hp) : HO → MO → Prop
  | .lst vs, .lst ds => Dzs K G vs ds
  | .dK vs, .dK ds => DzP K G vs ds
  | .dT vs, .dT ds => DzT K G vs ds
  | .ins C _ vs, .ins C' ds => C = C' ∧ DzF K G vs ds
  | _, _ => False
theorem MOk.mono {K : PySem.W.Frag} {G G' : Hp} (e : Ex G G') {o : HO} {m : MO} (h : MOk K G o m) : MOk K G' o m := by
  cases o <;> cases m <;> simp only [MOk] at h ⊢
  · exact h.mono e
  · exact h.mono e
  · exact h.mono e
  · exact ⟨h.1, h.2.mono e⟩
theorem MOk.dz {K : PySem.W.Frag} {G : Hp} {o : HO} {m : MO} {p : Addr} (h : MOk K G o m) (hp : G p = some o) : Dz K G (.ref p) m.d := by
  cases o <;> cases m <;> simp only [MOk] at h
  · exact .lst (sq_of hp) h
  · exact .dK hp h
  · exact .dT hp h
  · obtain ⟨rfl, h⟩ := h
    exact .ins hp h
/-- a slot's cell: nothing known; frozen data; an object that the frame alone changes -/
inductive Cell where
  | no
  | fr (d : D)
  | mu (m : MO)
abbrev Cell.own (ds : List D) : Cell := .mu (.lst ds)
abbrev Rho := List Cell
abbrev MS := Addr → Prop

structure Grow (M : MS) (G H G' H' : Hp) : Prop where
  g : Ex G G'
  k : ∀ a o, ¬ M a → H a = some o → H' a = some o
  n : ∀ a, ¬ M a → H a ≠ none → G a = none → G' a = none
  d : ∀ a, H' a = none → H a = none
theorem Grow.refl {M : MS} {G H : Hp} : Grow M G H G H := ⟨Ex.refl _, fun _ _ _ h => h, fun _ _ _ h => h, fun _ h => h⟩
theorem Grow.trans {M : MS} {G H G1 H1 G2 H2 : Hp} (a : Grow M G H G1 H1) (b : Grow M G1 H1 G2 H2) : Grow M G H G2 H2 :=
  ⟨a.g.trans b.g, fun x o m h => b.k x o m (a.k x o m h), fun x m h g => b.n x m (by
    cases e : H x with
    | none => exact absurd e h
    | some o => rw [a.k x o m e]; simp) (a.n x m h g), fun x h => a.d x (b.d x h)⟩
theorem Grow.wk {M M' : MS} {G H G' H' : Hp} (h : Grow M G H G' H') (m : ∀ a, H a ≠ none → M a → M' a) : Grow M' G H G' H' :=
  ⟨h.g, fun a o n e => h.k a o (fun q => n (m a (by rw [e]; simp) q)) e, fun a n e g => h.n a (fun q => n (m a e q)) e g, h.d⟩
theorem upd_none {H : Hp} {p a : Addr} {o : HO} (h : upd H p o a = none) : H a = none := by
  by_cases q : a = p
  · subst q; rw [upd_same] at h; cases h
  · rw [upd_ne q] at h; exact h
/-- something new, frozen or not -/
theorem Grow.new {M : MS} {G H : Hp} {p : Addr} {o : HO} (hp : H p = none) (s : Ex G H) : Grow M G H (upd G p o) (upd H p o) := by
  have gp : G p = none := fresh_back s hp
  refine ⟨Ex.new gp, fun a u _ e => ?_, fun a _ e g => ?_, fun a e => upd_none e⟩
  · rw [upd_ne (ne_of_none e hp)]; exact e
  · have q : a ≠ p := fun z => by rw [z] at e; exact e hp
    rw [upd_ne q]; exact g
theorem Grow.newO {M : MS} {G H : Hp} {p : Addr} {o : HO} (hp : H p = none) : Grow M G H G (upd H p o) := by
  refine ⟨Ex.refl _, fun a u _ e => ?_, fun a _ e g => g, fun a e => upd_none e⟩
  rw [upd_ne (ne_of_none e hp)]; exact e

structure Sim (K : PySem.W.Frag) (M : MS) (G H : Hp) (σ : L2.St) (ρ : Rho) : Prop where
  len : σ.length = ρ.length
  sub : Ex G H
  fr : ∀ {i : Nat} {d : D}, ρ[i]? = some (.fr d) → ∃ v, σ[i]? = some (some v) ∧ Dz K G v d
  mu : ∀ {i : Nat} {m : MO}, ρ[i]? = some (.mu m) → ∃ p o, σ[i]? = some (some (.ref p)) ∧ M p ∧ G p = none ∧ H p = some o ∧ MOk K G o m
  apart : ∀ {i j : Nat} {m n : MO} {p : Addr}, i ≠ j → ρ[i]? = some (.mu m) → ρ[j]? = some (.mu n) → σ[i]? = some (some (.ref p)) → σ[j]? ≠ some (some (.ref p))

section
variable {K : PySem.W.Frag} {M M' : MS} {G H G' H' : Hp} {σ : L2.St} {ρ ρ' : Rho}
theorem mok_lst {o : HO} {ds : List D} (h : MOk K G o (.lst ds)) : ∃ vs, o = .lst vs ∧ Dzs K G vs ds := by
  cases o <;> first | exact ⟨_, rfl, h⟩ | exact h.elim
theorem Sim.own (S : Sim K M G H σ ρ) {i : Nat} {ds : List D} (h : ρ[i]? = some (.own ds)) : ∃ p vs, σ[i]? = some (some (.ref p)) ∧ M p ∧ G p = none ∧ H p = some (.lst vs) ∧ Dzs K G vs ds := by
  obtain ⟨p, o, e, m, g, hp, k⟩ := S.mu h
  obtain ⟨vs, rfl, k⟩ := mok_lst k
  exact ⟨p, vs, e, m, g, hp, k⟩
/-- a growth that leaves the own objects -/
theorem Sim.grow (S : Sim K M G H σ ρ) (s : Ex G' H') (g : Ex G G') (hk : ∀ (p : Addr) (m : MO) (i : Nat), ρ[i]? = some (.mu m) → σ[i]? = some (some (.ref p)) → H' p = H p ∧ G' p = none) : Sim K M G' H' σ ρ where
  len := S.len
  sub := s
  fr := fun h => by
    obtain ⟨v, e, d⟩ := S.fr h
    exact ⟨v, e, d.mono g⟩
  mu := fun {i m} h => by
    obtain ⟨p, o, e, mp, gp, hp, d⟩ := S.mu h
    obtain ⟨k1, k2⟩ := hk p m i h e
    exact ⟨p, o, e, mp, k2, k1.trans hp, d.mono g⟩
  apart := S.apart
/-- the set that may change, made smaller or greater -/
theorem Sim.chM (S : Sim K M G H σ ρ) (h : ∀ p, H p ≠ none → M p → M' p) : Sim K M' G H σ ρ where
  len := S.len
  sub := S.sub
  fr := S.fr
  mu := fun e => by
    obtain ⟨p, o, e, m, gp, hp, d⟩ := S.mu e
    exact ⟨p, o, e, h p (by rw [hp]; simp) m, gp, hp, d⟩
  apart := S.apart
theorem Sim.chMo (S : Sim K M G H σ ρ) (h : ∀ (p : Addr) (m : MO) (i : Nat), ρ[i]? = some (.mu m) → σ[i]? = some (some (.ref p)) → M' p) : Sim K M' G H σ ρ where
  len := S.len
  sub := S.sub
  fr := S.fr
  mu := fun q => by
    obtain ⟨p, o, e, m, gp, hp, d⟩ := S.mu q
    exact ⟨p, o, e, h p _ _ q e, gp, hp, d⟩
  apart := S.apart
theorem Sim.new {p : Addr} {o : HO} (S : Sim K M G H σ ρ) (hp : H p = none) : Sim K M (upd G p o) (upd H p o) σ ρ :=
  S.grow (fun a u e => by
    by_cases q : a = p
    · subst q; rw [upd_same] at e ⊢; exact e
    · rw [upd_ne q] at e ⊢; exact S.sub a u e) (Ex.new (fresh_back S.sub hp)) fun q m i h e => by
    obtain ⟨p', o', e', mp, gp, hp', d⟩ := S.mu h
    have z : q = p' := by rw [e] at e'; cases e'; rfl
    subst z
    have y := ne_of_none hp' hp
    exact ⟨upd_ne y, by rw [upd_ne y]; exact gp⟩
theorem Sim.newO {p : Addr} {o : HO} (S : Sim K M G H σ ρ) (hp : H p = none) : Sim K M G (upd H p o) σ ρ :=
  S.grow (S.sub.trans (Ex.new hp)) (Ex.refl _) fun q m i h e => by
    obtain ⟨p', o', e', mp, gp, hp', d⟩ := S.mu h
    have z : q = p' := by rw [e] at e'; cases e'; rfl
    subst z
    exact ⟨upd_ne (ne_of_none hp' hp), gp⟩
theorem get_set {α : Type} {l : List α} {i j : Nat} {x y : α} (h : (l.set i x)[j]? = some y) : (i = j ∧ y = x ∧ i < l.length) ∨ (i ≠ j ∧ l[j]? = some y) := by
  by_cases e : i = j
  · subst e
    by_cases hl : i < l.length
    · rw [List.getElem?_set_self hl] at h
      exact .inl ⟨rfl, (Option.some.inj h).symm, hl⟩
    · rw [List.getElem?_eq_none (by rw [List.length_set]; omega)] at h
      cases h
  · rw [List.getElem?_set_ne e] at h
    exact .inr ⟨e, h⟩
/-- a slot gets frozen data -/
theorem Sim.setF {i : Nat} {v : V} {d : D} (S : Sim K M G H σ ρ) (hd : Dz K G v d) : Sim K M G H (σ.set i (some v)) (ρ.set i (.fr d)) where
  len := by rw [List.length_set, List.length_set]; exact S.len
  sub := S.sub
  fr := fun {j e} h => by
    rcases get_set h with ⟨ej, ed, hl⟩ | ⟨ej, h⟩
    · subst ej
      cases ed
      exact ⟨v, by rw [List.getElem?_set_self (by rw [S.len]; exact hl)], hd⟩
    · obtain ⟨u, e1, e2⟩ := S.fr h
      exact ⟨u, by rw [List.getElem?_set_ne ej]; exact e1, e2⟩
  mu := fun {j e} h => by
    rcases get_set h with ⟨ej, ed, hl⟩ | ⟨ej, h⟩
    · cases ed
    · obtain ⟨p, o, e1, e2⟩ := S.mu h
      exact ⟨p, o, by rw [List.getElem?_set_ne ej]; exact e1, e2⟩
  apart := fun {j k m n p} hjk h1 h2 h3 h4 => by
    rcases get_set h1 with ⟨ej, ed, hl⟩ | ⟨ej, h1⟩
    · cases ed
    rcases get_set h2 with ⟨ek, ed, hl⟩ | ⟨ek, h2⟩
    · cases ed
    rw [List.getElem?_set_ne ej] at h3
    rw [List.getElem?_set_ne ek] at h4
    exact S.apart hjk h1 h2 h3 h4
/-- a slot gets a new own object -/
theorem Sim.setO {i : Nat} {p : Addr} {o : HO} {m : MO} (S : Sim K M G H σ ρ) (hm : M p) (hg : G p = none) (hp : H p = some o) (hd : MOk K G o m)
    (hn : ∀ (j : Nat) (n : MO), j ≠ i → ρ[j]? = some (.mu n) → σ[j]? ≠ some (some (.ref p))) : Sim K M G H (σ.set i (some (.ref p))) (ρ.set i (.mu m)) where
  len := by rw [List.length_set, List.length_set]; exact S.len
  sub := S.sub
  fr := fun {j e} h => by
    rcases get_set h with ⟨ej, ed, hl⟩ | ⟨ej, h⟩
    · cases ed
    · obtain ⟨u, e1, e2⟩ := S.fr h
      exact ⟨u, by rw [List.getElem?_set_ne ej]; exact e1, e2⟩
  mu := fun {j e} h => by
    rcases get_set h with ⟨ej, ed, hl⟩ | ⟨ej, h⟩
    · subst ej
      cases ed
      exact ⟨p, o, by rw [List.getElem?_set_self (by rw [S.len]; exact hl)], hm, hg, hp, hd⟩
    · obtain ⟨p, vs, e1, e2⟩ := S.mu h
      exact ⟨p, vs, by rw [List.getElem?_set_ne ej]; exact e1, e2⟩
  apart := fun {j k m' n q} hjk h1 h2 h3 h4 => by
    rcases get_set h1 with ⟨ej, ed, hl⟩ | ⟨ej, h1⟩
    · subst ej
      rw [List.getElem?_set_self (by rw [S.len]; exact hl)] at h3
      have ep : p = q := by cases h3; rfl
      subst ep
      rcases get_set h2 with ⟨ek, _, _⟩ | ⟨ek, h2⟩
      · exact hjk ek
      · rw [List.getElem?_set_ne ek] at h4
        exact hn k n (fun z => ek z.symm) h2 h4
    · rw [List.getElem?_set_ne ej] at h3
      rcases get_set h2 with ⟨ek, ed, hl⟩ | ⟨ek, h2⟩
      · subst ek
        rw [List.getElem?_set_self (by rw [S.len]; exact hl)] at h4
        have ep : p = q := by cases h4; rfl
        subst ep
        exact hn j m' (fun z => hjk z) h1 h3
      · rw [List.getElem?_set_ne ek] at h4
        exact S.apart hjk h1 h2 h3 h4
/-- the own object at a slot changes -/
theorem Sim.chU {i : Nat} {p : Addr} {o : HO} {m n : MO} (S : Sim K M G H σ ρ) (h0 : ρ[i]? = some (.mu m)) (hi : σ[i]? = some (some (.ref p))) (hd : MOk K G o n) :
    Sim K M G (upd H p o) σ (ρ.set i (.mu n)) where
  len := by rw [List.length_set]; exact S.len
  sub := fun a u e => by
    obtain ⟨p', o', e', mp, gp, hp', d⟩ := S.mu h0
    have z : p = p' := by rw [hi] at e'; cases e'; rfl
    subst z
    rw [upd_ne (ne_of_none e gp)]
    exact S.sub a u e
  fr := fun {j e} h => by
    rcases get_set h with ⟨ej, ed, hl⟩ | ⟨ej, h⟩
    · cases ed
    · exact S.fr h
  mu := fun {j e} h => by
    obtain ⟨p', o', e', mp, gp, hp', d⟩ := S.mu h0
    have z : p = p' := by rw [hi] at e'; cases e'; rfl
    subst z
    rcases get_set h with ⟨ej, ed, hl⟩ | ⟨ej, h⟩
    · subst ej
      cases ed
      exact ⟨p, o, hi, mp, gp, upd_same, hd⟩
    · obtain ⟨q, vs, e1, m1, g1, h1, d1⟩ := S.mu h
      have ne : q ≠ p := fun z => by
        subst z
        exact S.apart ej h0 h hi e1
      exact ⟨q, vs, e1, m1, g1, by rw [upd_ne ne]; exact h1, d1⟩
  apart := fun {j k m' n' q} hjk h1 h2 h3 h4 => by
    have a1 : ∃ x, ρ[j]? = some (.mu x) := by
      rcases get_set h1 with ⟨ej, _, _⟩ | ⟨_, h1⟩
      · subst ej; exact ⟨_, h0⟩
      · exact ⟨_, h1⟩
    have a2 : ∃ x, ρ[k]? = some (.mu x) := by
      rcases get_set h2 with ⟨ej, _, _⟩ | ⟨_, h2⟩
      · subst ej; exact ⟨_, h0⟩
      · exact ⟨_, h2⟩
    obtain ⟨x, a1⟩ := a1
    obtain ⟨y, a2⟩ := a2
    exact S.apart hjk a1 a2 h3 h4
theorem Sim.chO {i : Nat} {p : Addr} {us : List V} {ds es : List D} (S : Sim K M G H σ ρ) (h0 : ρ[i]? = some (.own ds)) (hi : σ[i]? = some (some (.ref p))) (hd : Dzs K G us es) :
    Sim K M G (upd H p (.lst us)) σ (ρ.set i (.own es)) := S.chU (n := .lst es) h0 hi hd
/-- an own object is frozen -/
theorem Sim.freezeM {i : Nat} {m : MO} (S : Sim K M G H σ ρ) (h0 : ρ[i]? = some (.mu m)) :
    ∃ G', Grow M G H G' H ∧ Sim K M G' H σ (ρ.set i (.fr m.d)) := by
  obtain ⟨p, o, e', mp, gp, hp', d⟩ := S.mu h0
  have eg : Ex G (upd G p o) := Ex.new gp
  refine ⟨upd G p o, ⟨eg, fun _ _ _ h => h, fun a n _ g => ?_, fun _ h => h⟩, ?_⟩
  · have q : a ≠ p := fun z => by subst z; exact n mp
    rw [upd_ne q]; exact g
  · have s : Ex (upd G p o) H := fun a u e => by
      by_cases q : a = p
      · subst q; rw [upd_same] at e; cases e; exact hp'
      · rw [upd_ne q] at e; exact S.sub a u e
    refine ⟨by rw [List.length_set]; exact S.len, s, fun {j e} h => ?_, fun {j e} h => ?_, fun {j k m' n' q} hjk h1 h2 h3 h4 => ?_⟩
    · rcases get_set h with ⟨ej, ed, hl⟩ | ⟨ej, h⟩
      · subst ej
        cases ed
        exact ⟨_, e', (d.mono eg).dz upd_same⟩
      · obtain ⟨u, e1, e2⟩ := S.fr h
        exact ⟨u, e1, e2.mono eg⟩
    · rcases get_set h with ⟨ej, ed, hl⟩ | ⟨ej, h⟩
      · cases ed
      · obtain ⟨q, us, e1, m1, g1, h1, d1⟩ := S.mu h
        have ne : q ≠ p := fun z => by
          subst z
          exact S.apart ej h0 h e' e1
        exact ⟨q, us, e1, m1, by rw [upd_ne ne]; exact g1, h1, d1.mono eg⟩
    · rcases get_set h1 with ⟨_, ed, _⟩ | ⟨_, h1⟩
      · cases ed
      rcases get_set h2 with ⟨_, ed, _⟩ | ⟨_, h2⟩
      · cases ed
      exact S.apart hjk h1 h2 h3 h4
end

/-! ### what things come to -/
section
variable (K : PySem.W.Frag)
/-- an expression gives frozen data -/
def EvZ (te : TE) (ρ ρ' : Rho) (d : D) : Prop := ∀ M G H σ, Sim K M G H σ ρ → ∀ Q : VK, (∀ v G' H', Grow M G H G' H' → Sim K M G' H' σ ρ' → Dz K G' v d → Q v H') → te σ H Q
/-- an expression gives what is read at once (an own list, too) -/
def RdZ (te : TE) (ρ ρ' : Rho) (d : D) : Prop := ∀ M G H σ, Sim K M G H σ ρ → ∀ Q : VK, (∀ v G' H', Grow M G H G' H' → Sim K M G' H' σ ρ' → DzR K H' v d → Q v H') → te σ H Q
def TsZ (tt : TT) (ρ ρ' : Rho) (b : Bool) : Prop := ∀ M G H σ, Sim K M G H σ ρ → ∀ Q : Bool → Hp → Prop, (∀ G' H', Grow M G H G' H' → Sim K M G' H' σ ρ' → Q b H') → tt σ H Q
def AgZ (ta : TA) (ρ ρ' : Rho) (ds : List D) : Prop := ∀ M G H σ, Sim K M G H σ ρ → ∀ Q : List V → Hp → Prop, (∀ vs G' H', Grow M G H G' H' → Sim K M G' H' σ ρ' → Dzs K G' vs ds → Q vs H') → ta σ H Q
end

inductive Out where
  | nx (ρ : Rho)
  | bk (ρ : Rho)
  | ct (ρ : Rho)
  | rt (ρ : Rho) (c : Cell)

def ResOk (K : PySem.W.Frag) (M : MS) (G H : Hp) (v : V) : Cell → Prop
  | .no => True
  | .fr d => Dz K G v d
  | .mu m => ∃ p o, v = .ref p ∧ M p ∧ G p = none ∧ H p = some o ∧ MOk K G o m

/-- slots of S stand as they were -/
def Keep (S : List Nat) (σ σ' : L2.St) : Prop := ∀ i ∈ S, σ'[i]? = σ[i]?
theorem Keep.refl {S : List Nat} {σ : L2.St} : Keep S σ σ := fun _ _ => rfl
theorem Keep.trans {S : List Nat} {σ σ1 σ2 : L2.St} (a : Keep S σ σ1) (b : Keep S σ1 σ2) : Keep S σ σ2 := fun i h => (b i h).trans (a i h)
theorem Keep.set {S : List Nat} {σ : L2.St} {i : Nat} {v : Option V} (h : i ∉ S) : Keep S σ (σ.set i v) := fun j hj => by
  have e : i ≠ j := fun z => by subst z; exact h hj
  rw [List.getElem?_set_ne e]

def PostZ (K : PySem.W.Frag) (S : List Nat) (M : MS) (G H : Hp) (σ : L2.St) (E : Ends) : Out → Prop
  | .nx ρ' => ∀ G' H' σ', Grow M G H G' H' → Keep S σ σ' → Sim K M G' H' σ' ρ' → E.nx σ' H'
  | .bk ρ' => ∀ G' H' σ', Grow M G H G' H' → Keep S σ σ' → Sim K M G' H' σ' ρ' → E.bk σ' H'
  | .ct ρ' => ∀ G' H' σ', Grow M G H G' H' → Keep S σ σ' → Sim K M G' H' σ' ρ' → E.ct σ' H'
  | .rt ρ' c => ∀ v G' H' σ', Grow M G H G' H' → Keep S σ σ' → Sim K M G' H' σ' ρ' → ResOk K M G' H' v c → E.rt v H'
def Fresh (M : MS) (H : Hp) : Prop := ∀ a, H a = none → M a
theorem Fresh.grow {M : MS} {G H G' H' : Hp} (f : Fresh M H) (g : Grow M G H G' H') : Fresh M H' := fun a h => Classical.byContradiction fun n => by
  cases e : H a with
  | none => exact n (f a e)
  | some o => rw [g.k a o n e] at h; cases h
def ExZ (K : PySem.W.Frag) (S : List Nat) (ts : TS) (ρ : Rho) (o : Out) : Prop := ∀ M G H σ (E : Ends), Fresh M H → Sim K M G H σ ρ → PostZ K S M G H σ E o → ts E σ H
theorem PostZ.go {K : PySem.W.Frag} {S : List Nat} {M : MS} {G H G1 H1 : Hp} {σ σ1 : L2.St} {E : Ends} : ∀ {o : Out}, PostZ K S M G H σ E o → Grow M G H G1 H1 → Keep S σ σ1 → PostZ K S M G1 H1 σ1 E o
  | .nx _, h, g, k => fun G' H' σ' g' k' s => h G' H' σ' (g.trans g') (k.trans k') s
  | .bk _, h, g, k => fun G' H' σ' g' k' s => h G' H' σ' (g.trans g') (k.trans k') s
  | .ct _, h, g, k => fun G' H' σ' g' k' s => h G' H' σ' (g.trans g') (k.trans k') s
  | .rt _ _, h, g, k => fun v G' H' σ' g' k' s r => h v G' H' σ' (g.trans g') (k.trans k') s r
end Z

set_option Elab.async false
set_option linter.all false
set_option maxRecDepth 100000
set_option maxHeartbeats 2000000
/-! ZRules: the rules of expressions, tests, arguments, targets, walks, statements, calls over cells. -/
namespace Z
open PySem L2
open Evl (Ex Ex.refl Ex.trans Ex.new ex_rd ex_l ex_t sq_of st_of fresh_back sz_of sz_lt)
variable {K : PySem.W.Frag} {ρ ρ' ρ1 ρ2 ρ3 : Rho} {ta tb tc te tl : TE} {tt tu : TT} {d e x y : D} {ds es xs ys : List D}

/-! ### expressions -/
theorem EvZ.rd (h : EvZ K te ρ ρ' d) : RdZ K te ρ ρ' d := fun M G H σ S Q q => h M G H σ S Q fun v G' H' g s dz => q v G' H' g s (.dz (dz.mono s.sub))
theorem ev_var {i : Nat} (h : ρ[i]? = some (.fr d)) : EvZ K (tVar i) ρ ρ d := fun M G H σ S Q q => by
  obtain ⟨v, e, dz⟩ := S.fr h
  exact ⟨v, e, q v G H .refl S dz⟩
theorem ev_c {v : V} (h : ∀ H, Dz K H v d) : EvZ K (tC v) ρ ρ d := fun M G H σ S Q q => q v G H .refl S (h G)
theorem ev_int {i : Int} : EvZ K (tC (.int i)) ρ ρ (.int i) := ev_c fun _ => .int i
theorem ev_str {i : Str} : EvZ K (tC (.str i)) ρ ρ (.str i) := ev_c fun _ => .str i
theorem ev_bl {i : Bool} : EvZ K (tC (.bl i)) ρ ρ (.bl i) := ev_c fun _ => .bl i
theorem ev_non : EvZ K (tC .non) ρ ρ .non := ev_c fun _ => .non
theorem ev_is (h : EvZ K te ρ ρ' d) (q : d = e) : EvZ K te ρ ρ' e := by subst q; exact h
/-- an operation upon two frozen things that touches nothing -/
theorem ev_op {r : R2} {d1 d2 : D} (ha : EvZ K ta ρ ρ1 d1) (hb : RdZ K tb ρ1 ρ2 d2) (hr : ∀ (u v : V) G H (Q : VK), Ex G H → Dz K G u d1 → DzR K H v d2 → (∀ z, Dz K G z d → Q z H) → r u v H Q) : EvZ K (tOp r ta tb) ρ ρ2 d := fun M G H σ S Q q =>
  ha M G H σ S _ fun u G1 H1 g1 s1 du => hb M G1 H1 σ s1 _ fun v G2 H2 g2 s2 dv => hr u v G2 H2 Q s2.sub (du.mono g2.g) dv fun z dz => q z G2 H2 (g1.trans g2) s2 dz
theorem ev_i0 {g : Int → Int → V} {i j : Int} (ha : EvZ K ta ρ ρ1 (.int i)) (hb : EvZ K tb ρ1 ρ2 (.int j)) (h : ∀ H, Dz K H (g i j) d) : EvZ K (tOp (rI0 g) ta tb) ρ ρ2 d :=
  ev_op ha hb.rd fun u v G H Q _ du dv q => ⟨i, j, du.int_inv, dv.int_inv, q _ (h G)⟩
theorem ev_i {C : Int → Int → Prop} {g : Int → Int → V} {i j : Int} (ha : EvZ K ta ρ ρ1 (.int i)) (hb : EvZ K tb ρ1 ρ2 (.int j)) (hc : C i j) (h : ∀ H, Dz K H (g i j) d) : EvZ K (tOp (rI C g) ta tb) ρ ρ2 d :=
  ev_op ha hb.rd fun u v G H Q _ du dv q => ⟨i, j, du.int_inv, dv.int_inv, hc, q _ (h G)⟩
theorem ev_add {i j : Int} (ha : EvZ K ta ρ ρ1 (.int i)) (hb : EvZ K tb ρ1 ρ2 (.int j)) : EvZ K (tOp (rI0 fun i j => .int (i + j)) ta tb) ρ ρ2 (.int (i + j)) := ev_i0 ha hb fun _ => .int _
theorem ev_sub {i j : Int} (ha : EvZ K ta ρ ρ1 (.int i)) (hb : EvZ K tb ρ1 ρ2 (.int j)) : EvZ K (tOp (rI0 fun i j => .int (i - j)) ta tb) ρ ρ2 (.int (i - j)) := ev_i0 ha hb fun _ => .int _
theorem ev_mul {i j : Int} (ha : EvZ K ta ρ ρ1 (.int i)) (hb : EvZ K tb ρ1 ρ2 (.int j)) (hc : CMul i j) : EvZ K (tOp (rI CMul fun i j => .int (i * j)) ta tb) ρ ρ2 (.int (i * j)) := ev_i ha hb hc fun _ => .int _
theorem ev_mod {i j : Int} (ha : EvZ K ta ρ ρ1 (.int i)) (hb : EvZ K tb ρ1 ρ2 (.int j)) (hc : 0 < j) : EvZ K (tOp (rI (fun _ j => 0 < j) fun i j => .int (i % j)) ta tb) ρ ρ2 (.int (i % j)) := ev_i ha hb hc fun _ => .int _
theorem ev_fdiv {i j : Int} (ha : EvZ K ta ρ ρ1 (.int i)) (hb : EvZ K tb ρ1 ρ2 (.int j)) (hc : CDiv i j) : EvZ K (tOp (rI CDiv fun i j => .int (i / j)) ta tb) ρ ρ2 (.int (i / j)) := ev_i ha hb hc fun _ => .int _
theorem ev_pow {i j : Int} (ha : EvZ K ta ρ ρ1 (.int i)) (hb : EvZ K tb ρ1 ρ2 (.int j)) (hc : CPow i j) : EvZ K (tOp (rI CPow fun i j => .int (i ^ j.toNat)) ta tb) ρ ρ2 (.int (i ^ j.toNat)) := ev_i ha hb hc fun _ => .int _
theorem ev_lt {i j : Int} (ha : EvZ K ta ρ ρ1 (.int i)) (hb : EvZ K tb ρ1 ρ2 (.int j)) : EvZ K (tOp (rI0 fun i j => .bl (decide (i < j))) ta tb) ρ ρ2 (.bl (decide (i < j))) := ev_i0 ha hb fun _ => .bl _
theorem ev_gt {i j : Int} (ha : EvZ K ta ρ ρ1 (.int i)) (hb : EvZ K tb ρ1 ρ2 (.int j)) : EvZ K (tOp (rI0 fun i j => .bl (decide (j < i))) ta tb) ρ ρ2 (.bl (decide (j < i))) := ev_i0 ha hb fun _ => .bl _
theorem ev_ge {i j : Int} (ha : EvZ K ta ρ ρ1 (.int i)) (hb : EvZ K tb ρ1 ρ2 (.int j)) : EvZ K (tOp (rI0 fun i j => .bl (decide (j ≤ i))) ta tb) ρ ρ2 (.bl (decide (j ≤ i))) := ev_i0 ha hb fun _ => .bl _
/-- == of scalars -/
theorem ev_eqI {i j : Int} (ha : EvZ K ta ρ ρ1 (.int i)) (hb : EvZ K tb ρ1 ρ2 (.int j)) : EvZ K (tOp rEq ta tb) ρ ρ2 (.bl (decide (i = j))) :=
  ev_op ha hb.rd fun u v G H Q _ du dv q => by
    rw [du.int_inv, dv.int_inv]
    exact ⟨rfl, q _ (by rw [show decide (V.int i = V.int j) = decide (i = j) by simp]; exact .bl _)⟩
theorem ev_neI {i j : Int} (ha : EvZ K ta ρ ρ1 (.int i)) (hb : EvZ K tb ρ1 ρ2 (.int j)) : EvZ K (tOp rNe ta tb) ρ ρ2 (.bl (!decide (i = j))) :=
  ev_op ha hb.rd fun u v G H Q _ du dv q => by
    rw [du.int_inv, dv.int_inv]
    exact ⟨rfl, q _ (by rw [show decide (V.int i = V.int j) = decide (i = j) by simp]; exact .bl _)⟩
theorem ev_eqS {i j : Str} (ha : EvZ K ta ρ ρ1 (.str i)) (hb : EvZ K tb ρ1 ρ2 (.str j)) : EvZ K (tOp rEq ta tb) ρ ρ2 (.bl (decide (i = j))) :=
  ev_op ha hb.rd fun u v G H Q _ du dv q => by
    rw [du.str_inv, dv.str_inv]
    exact ⟨rfl, q _ (by rw [show decide (V.str i = V.str j) = decide (i = j) by simp]; exact .bl _)⟩
theorem ev_eqB {i j : Bool} (ha : EvZ K ta ρ ρ1 (.bl i)) (hb : EvZ K tb ρ1 ρ2 (.bl j)) : EvZ K (tOp rEq ta tb) ρ ρ2 (.bl (decide (i = j))) :=
  ev_op ha hb.rd fun u v G H Q _ du dv q => by
    rw [du.bl_inv, dv.bl_inv]
    exact ⟨rfl, q _ (by rw [show decide (V.bl i = V.bl j) = decide (i = j) by simp]; exact .bl _)⟩
/-- texts -/
theorem ev_catS {i j : Str} (ha : EvZ K ta ρ ρ1 (.str i)) (hb : EvZ K tb ρ1 ρ2 (.str j)) (hl : i.length + j.length ≤ 100000) :
    EvZ K (tOp (fun x y H Q => ∃ i j, x = .str i ∧ y = .str j ∧ i.length + j.length ≤ sizeLine ∧ Q (.str (i ++ j)) H) ta tb) ρ ρ2 (.str (i ++ j)) :=
  ev_op ha hb.rd fun u v G H Q _ du dv q => ⟨i, j, du.str_inv, dv.str_inv, sz_of hl, q _ (.str _)⟩
/-- items -/
theorem atD {xs : List V} {H : Hp} {i : Int} (h : Dzs K H xs ds) (e : atI ds i = some d) : ∃ v, atI xs i = some v ∧ Dz K H v d := by
  unfold atI at e ⊢
  rw [h.len]
  cases q : ixN ds.length i with
  | none => rw [q] at e; cases e
  | some j =>
    rw [q] at e
    exact h.get e
theorem at_nat {j : Nat} (h : ds[j]? = some d) : atI ds (j : Int) = some d := atI_nat h
theorem at_of {i : Int} {j : Nat} (e : i = (j : Int)) (h : ds[j]? = some d) : atI ds i = some d := by rw [e]; exact atI_nat h
theorem ev_ixL {i : Int} (ha : EvZ K ta ρ ρ1 (.lst ds)) (hb : EvZ K tb ρ1 ρ2 (.int i)) (h : atI ds i = some d) : EvZ K (tOp (rIx K) ta tb) ρ ρ2 d := fun M G H σ S Q q =>
  ha M G H σ S _ fun u G1 H1 g1 s1 du => hb M G1 H1 σ s1 _ fun v G2 H2 g2 s2 dv => by
    obtain ⟨a, xs, e, hs, hz⟩ := (du.mono g2.g).lst_inv
    obtain ⟨w, e1, dw⟩ := atD hz h
    exact .inl ⟨a, xs, i, w, e, dv.int_inv, ex_l s2.sub hs, e1, q w G2 H2 (g1.trans g2) s2 dw⟩
theorem ev_ixT {i : Int} (ha : EvZ K ta ρ ρ1 (.tup ds)) (hb : EvZ K tb ρ1 ρ2 (.int i)) (h : atI ds i = some d) : EvZ K (tOp (rIx K) ta tb) ρ ρ2 d := fun M G H σ S Q q =>
  ha M G H σ S _ fun u G1 H1 g1 s1 du => hb M G1 H1 σ s1 _ fun v G2 H2 g2 s2 dv => by
    obtain ⟨a, xs, e, hs, hz⟩ := (du.mono g2.g).tup_inv
    obtain ⟨w, e1, dw⟩ := atD hz h
    exact .inr (.inl ⟨a, xs, i, w, e, dv.int_inv, ex_t s2.sub hs, e1, q w G2 H2 (g1.trans g2) s2 dw⟩)
/-- an item of an own list -/
theorem ev_ixO {i : Nat} {k : Int} (h : ρ[i]? = some (.own es)) (hb : EvZ K tb ρ ρ' (.int k)) (h' : ρ'[i]? = some (.own ds)) (hk : atI ds k = some d) : EvZ K (tOp (rIx K) (tVar i) tb) ρ ρ' d := fun M G H σ S Q q => by
  obtain ⟨p, vs, e, m, gp, hp, dz⟩ := S.own h
  refine ⟨.ref p, e, hb M G H σ S _ fun v G2 H2 g2 s2 dv => ?_⟩
  obtain ⟨p', us, e', m', gp', hp', dz'⟩ := s2.own h'
  have z : p = p' := by rw [e] at e'; cases e'; rfl
  subst z
  obtain ⟨w, e1, dw⟩ := atD dz' hk
  exact .inl ⟨p, us, k, w, rfl, dv.int_inv, sq_of hp', e1, q w G2 H2 g2 s2 dw⟩
/-- len -/
theorem len_lst {v : V} {H : Hp} (h : DzR K H v (.lst ds)) : LenV K v H ds.length := by
  obtain ⟨a, xs, e, hs, hz⟩ := h.lst_inv
  subst e
  exact .inl ⟨xs, hs, hz.len.symm⟩
theorem len_tup {v : V} {H : Hp} (h : DzR K H v (.tup ds)) : LenV K v H ds.length := by
  obtain ⟨a, xs, e, hs, hz⟩ := h.tup_inv
  subst e
  exact .inr ⟨xs, hs, hz.len.symm⟩
theorem ev_lenL (ha : RdZ K ta ρ ρ' (.lst ds)) : EvZ K (tCB (fun xs H Q => ∃ x n, xs = [x] ∧ LenV K x H n ∧ Q (.int n) H) (tCons ta tNil)) ρ ρ' (.int (ds.length : Int)) := fun M G H σ S Q q =>
  ha M G H σ S _ fun u G1 H1 g1 s1 du => ⟨u, ds.length, rfl, len_lst du, q _ G1 H1 g1 s1 (.int _)⟩
theorem ev_lenT (ha : RdZ K ta ρ ρ' (.tup ds)) : EvZ K (tCB (fun xs H Q => ∃ x n, xs = [x] ∧ LenV K x H n ∧ Q (.int n) H) (tCons ta tNil)) ρ ρ' (.int (ds.length : Int)) := fun M G H σ S Q q =>
  ha M G H σ S _ fun u G1 H1 g1 s1 du => ⟨u, ds.length, rfl, len_tup du, q _ G1 H1 g1 s1 (.int _)⟩
/-- int(n) -/
theorem ev_toInt {i : Int} (ha : EvZ K ta ρ ρ' (.int i)) : EvZ K (tCB (fun xs H Q => (∃ i, xs = [.int i] ∧ Q (.int i) H) ∨ ∃ k, xs = [.bl k] ∧ Q (.int (if k then 1 else 0)) H) (tCons ta tNil)) ρ ρ' (.int i) := fun M G H σ S Q q =>
  ha M G H σ S _ fun u G1 H1 g1 s1 du => .inl ⟨i, by rw [du.int_inv], q _ G1 H1 g1 s1 (.int _)⟩
/-- all(list of truth values) -/
theorem ev_all {bs : List Bool} (ha : RdZ K ta ρ ρ' (.lst (bs.map D.bl))) : EvZ K (tCB (rAll K) (tCons ta tNil)) ρ ρ' (.bl (bs.all id)) := fun M G H σ S Q q =>
  ha M G H σ S _ fun u G1 H1 g1 s1 du => by
    obtain ⟨a, xs, e, hs, hz⟩ := du.lst_inv
    have ex := hz.bls
    subst ex
    exact ⟨a, bs, by rw [e], hs, q _ G1 H1 g1 s1 (.bl _)⟩
/-! ### arguments, displays -/
theorem ag_nil : AgZ K tNil ρ ρ [] := fun M G H σ S Q q => q [] G H .refl S .nil
theorem ag_cons {tr : TA} (h : EvZ K ta ρ ρ1 d) (hr : AgZ K tr ρ1 ρ2 ds) : AgZ K (tCons ta tr) ρ ρ2 (d :: ds) := fun M G H σ S Q q =>
  h M G H σ S _ fun v G1 H1 g1 s1 dv => hr M G1 H1 σ s1 _ fun vs G2 H2 g2 s2 dvs => q (v :: vs) G2 H2 (g1.trans g2) s2 (.cons (dv.mono g2.g) dvs)
/-- a new list: not frozen yet -/
def EvN (K : PySem.W.Frag) (te : TE) (ρ ρ' : Rho) (ds : List D) : Prop := ∀ M G H σ, Sim K M G H σ ρ → ∀ Q : VK, (∀ p vs G' H', Grow M G H G' H' → Sim K M G' H' σ ρ' → H p = none → G' p = none → H' p = some (.lst vs) → Dzs K G' vs ds → Q (.ref p) H') → te σ H Q
theorem Sim.noOwn {M : MS} {G H : Hp} {σ : L2.St} {p : Addr} (S : Sim K M G H σ ρ) (hp : H p = none) : ∀ (j : Nat) (es : MO), ρ[j]? = some (.mu es) → σ[j]? ≠ some (some (.ref p)) := fun j es h e => by
  obtain ⟨q, vs, e', m, gp, hq, dz⟩ := S.mu h
  rw [e] at e'
  cases e'
  rw [hp] at hq
  cases hq
/-- freezing a new list -/
theorem freezeN {M : MS} {G H G' H' : Hp} {σ : L2.St} {p : Addr} {vs : List V} (g : Grow M G H G' H') (s : Sim K M G' H' σ ρ') (hp : H p = none) (gp : G' p = none) (h' : H' p = some (.lst vs)) (hd : Dzs K G' vs ds)
    (hn : ∀ (j : Nat) (es : MO), ρ'[j]? = some (.mu es) → σ[j]? ≠ some (some (.ref p))) :
    Grow M G H (upd G' p (.lst vs)) H' ∧ Sim K M (upd G' p (.lst vs)) H' σ ρ' ∧ Dz K (upd G' p (.lst vs)) (.ref p) (.lst ds) := by
  have eg : Ex G' (upd G' p (.lst vs)) := Ex.new gp
  refine ⟨⟨g.g.trans eg, g.k, fun a m n z => ?_, g.d⟩, s.grow (fun a o e => ?_) eg fun q es i e1 e2 => ?_, .lst (sq_of upd_same) (hd.mono eg)⟩
  · have q : a ≠ p := fun z => by subst z; exact n hp
    rw [upd_ne q]; exact g.n a m n z
  · by_cases q : a = p
    · subst q; rw [upd_same] at e; cases e; exact h'
    · rw [upd_ne q] at e; exact s.sub a o e
  · obtain ⟨q', us, e', m, gq, hq, dz⟩ := s.mu e1
    rw [e2] at e'
    cases e'
    have ne : q ≠ p := fun z => by subst z; exact hn i es e1 e2
    exact ⟨rfl, by rw [upd_ne ne]; exact gq⟩
theorem EvN.noOwn {M : MS} {G H G' H' : Hp} {σ : L2.St} {p : Addr} {vs : List V} (S : Sim K M G H σ ρ) (s : Sim K M G' H' σ ρ') (hp : H p = none) (hρ : ∀ (j : Nat) (es : MO), ρ'[j]? = some (.mu es) → ∃ fs, ρ[j]? = some (.mu fs)) :
    ∀ (j : Nat) (es : MO), ρ'[j]? = some (.mu es) → σ[j]? ≠ some (some (.ref p)) := fun j es h => by
  obtain ⟨fs, e⟩ := hρ j es h
  exact S.noOwn hp j fs e
/-- the own slots of ρ' are own in ρ -/
def OwnIn (ρ' ρ : Rho) : Prop := ∀ (j : Nat) (es : MO), ρ'[j]? = some (.mu es) → ∃ fs, ρ[j]? = some (.mu fs)
theorem OwnIn.refl : OwnIn ρ ρ := fun _ es h => ⟨es, h⟩
theorem OwnIn.trans (a : OwnIn ρ1 ρ) (b : OwnIn ρ2 ρ1) : OwnIn ρ2 ρ := fun j es h => by
  obtain ⟨fs, e⟩ := b j es h
  exact a j fs e
theorem OwnIn.set {i : Nat} {fs gs : MO} (h : ρ[i]? = some (.mu fs)) : OwnIn (ρ.set i (.mu gs)) ρ := fun j es e => by
  rcases get_set e with ⟨ej, _, _⟩ | ⟨_, e⟩
  · subst ej; exact ⟨fs, h⟩
  · exact ⟨es, e⟩
theorem EvN.ev (h : EvN K te ρ ρ' ds) (ho : OwnIn ρ' ρ) : EvZ K te ρ ρ' (.lst ds) := fun M G H σ S Q q => h M G H σ S Q fun p vs G' H' g s hp gp h' hd => by
  obtain ⟨a, b, c⟩ := freezeN g s hp gp h' hd (EvN.noOwn (vs := vs) S s hp ho)
  exact q _ _ _ a b c
theorem EvN.rd (h : EvN K te ρ ρ' ds) : RdZ K te ρ ρ' (.lst ds) := fun M G H σ S Q q => h M G H σ S Q fun p vs G' H' g s hp gp h' hd => q _ _ _ g s (.dz (.lst (sq_of h') (hd.mono s.sub)))
theorem ev_tup {tx : TA} (h : AgZ K tx ρ ρ' ds) (hl : ds.length ≤ 100000) : EvZ K (tTup tx) ρ ρ' (.tup ds) := fun M G H σ S Q q =>
  h M G H σ S _ fun vs G1 H1 g1 s1 dv => ⟨by rw [dv.len]; exact sz_of hl, fun p hp => q _ _ _ (g1.trans (.new hp s1.sub)) (s1.new hp) (.tup upd_same (dv.mono (Ex.new (fresh_back s1.sub hp))))⟩
theorem en_lst {tx : TA} (h : AgZ K tx ρ ρ' ds) (hl : ds.length ≤ 100000) : EvN K (tLst tx) ρ ρ' ds := fun M G H σ S Q q =>
  h M G H σ S _ fun vs G1 H1 g1 s1 dv => ⟨by rw [dv.len]; exact sz_of hl, fun p hp => q p vs G1 _ (g1.trans (.newO hp)) (s1.newO hp) (g1.d p hp) (fresh_back s1.sub hp) upd_same dv⟩
end Z

set_option Elab.async false
set_option linter.all false
set_option maxRecDepth 100000
set_option maxHeartbeats 2000000
/-! ZStm: tests, targets, walks, comprehensions, statements, calls. -/
namespace Z
open PySem L2
open Evl (Ex Ex.refl Ex.trans Ex.new ex_rd ex_l ex_t sq_of st_of fresh_back sz_of sz_lt)
variable {K : PySem.W.Frag} {ρ ρ' ρ1 ρ2 ρ3 : Rho} {ta tb tc te tl : TE} {tt tu : TT} {d e x y : D} {ds es xs ys rs : List D} {b c : Bool}

/-! ### tests -/
theorem ts_test (h : EvZ K te ρ ρ' (.bl b)) : TsZ K (tTest te) ρ ρ' b := fun M G H σ S Q q => h M G H σ S _ fun v G1 H1 g1 s1 dv => ⟨b, dv.bl_inv, q G1 H1 g1 s1⟩
theorem ts_B (h : EvZ K te ρ ρ' (.bl b)) : TsZ K (tB te) ρ ρ' b := fun M G H σ S Q q => h M G H σ S _ fun v G1 H1 g1 s1 dv => ⟨b, dv.bl_inv, q G1 H1 g1 s1⟩
theorem ts_not (h : TsZ K tt ρ ρ' b) : TsZ K (tNot tt) ρ ρ' (!b) := fun M G H σ S Q q => h M G H σ S _ fun G1 H1 g1 s1 => q G1 H1 g1 s1
theorem ts_is (h : TsZ K tt ρ ρ' b) (q : b = c) : TsZ K tt ρ ρ' c := by subst q; exact h
theorem ts_orF (h : TsZ K tt ρ ρ1 false) (k : TsZ K tu ρ1 ρ2 b) : TsZ K (tOr tt tu) ρ ρ2 b := fun M G H σ S Q q => h M G H σ S _ fun G1 H1 g1 s1 => by
  show tu σ H1 Q
  exact k M G1 H1 σ s1 _ fun G2 H2 g2 s2 => q G2 H2 (g1.trans g2) s2
theorem ts_yes : TsZ K tYes ρ ρ true := fun M G H σ S Q q => q G H .refl S
theorem ev_ifT (h : TsZ K tt ρ ρ1 true) (ha : EvZ K ta ρ1 ρ2 d) : EvZ K (tIf tt ta tb) ρ ρ2 d := fun M G H σ S Q q => h M G H σ S _ fun G1 H1 g1 s1 => by
  rw [if_pos rfl]
  exact ha M G1 H1 σ s1 _ fun v G2 H2 g2 s2 dv => q v G2 H2 (g1.trans g2) s2 dv
theorem ev_ifF (h : TsZ K tt ρ ρ1 false) (ha : EvZ K tb ρ1 ρ2 d) : EvZ K (tIf tt ta tb) ρ ρ2 d := fun M G H σ S Q q => h M G H σ S _ fun G1 H1 g1 s1 => by
  rw [if_neg Bool.false_ne_true]
  exact ha M G1 H1 σ s1 _ fun v G2 H2 g2 s2 dv => q v G2 H2 (g1.trans g2) s2 dv
theorem ev_andV (h : EvZ K ta ρ ρ1 (.bl b)) (k : b = true → EvZ K tb ρ1 ρ1 (.bl c)) : EvZ K (tAndV ta tb) ρ ρ1 (.bl (b && c)) := fun M G H σ S Q q => h M G H σ S _ fun v G1 H1 g1 s1 dv => ⟨b, dv.bl_inv, by
  cases b with
  | true =>
    rw [if_pos rfl]
    exact k rfl M G1 H1 σ s1 _ fun v G2 H2 g2 s2 dv => q v G2 H2 (g1.trans g2) s2 dv
  | false =>
    rw [if_neg Bool.false_ne_true]
    exact q _ G1 H1 g1 s1 (.bl false)⟩
theorem ev_notV (h : EvZ K ta ρ ρ1 (.bl b)) : EvZ K (tNotV ta) ρ ρ1 (.bl (!b)) := fun M G H σ S Q q => h M G H σ S _ fun v G1 H1 g1 s1 dv => ⟨b, dv.bl_inv, q _ G1 H1 g1 s1 (.bl _)⟩

/-! ### targets -/
/-- storing frozen data: the slots of A change -/
def TgZ (K : PySem.W.Frag) (g : TG) (A : List Nat) (d : D) (ρ ρ' : Rho) : Prop := ∀ M G H σ v, Sim K M G H σ ρ → Dz K G v d → ∀ Q : L2.St → Hp → Prop, (∀ σ', σ'.length = σ.length → (∀ i, i ∉ A → σ'[i]? = σ[i]?) → Sim K M G H σ' ρ' → Q σ' H) → g v σ H Q
theorem tg_name {i : Nat} : TgZ K (gName i) [i] d ρ (ρ.set i (.fr d)) := fun M G H σ v S dv Q q => q _ (List.length_set ..) (fun j hj => by
  have e : i ≠ j := fun z => hj (by rw [z]; exact List.mem_cons_self)
  rw [List.getElem?_set_ne e]) (S.setF dv)
def TgsZ (K : PySem.W.Frag) (g : TGs) (A : List Nat) (ds : List D) (ρ ρ' : Rho) : Prop := ∀ M G H σ vs, Sim K M G H σ ρ → Dzs K G vs ds → ∀ Q : L2.St → Hp → Prop, (∀ σ', σ'.length = σ.length → (∀ i, i ∉ A → σ'[i]? = σ[i]?) → Sim K M G H σ' ρ' → Q σ' H) → g vs σ H Q
theorem tgs_nil : TgsZ K gNil [] [] ρ ρ := fun M G H σ vs S dv Q q => by
  cases dv
  exact ⟨rfl, q σ rfl (fun _ _ => rfl) S⟩
theorem tgs_cons {g : TG} {u : TGs} {A B : List Nat} (h : TgZ K g A d ρ ρ1) (k : TgsZ K u B ds ρ1 ρ2) : TgsZ K (gCons g u) (A ++ B) (d :: ds) ρ ρ2 := fun M G H σ vs S dv Q q => by
  cases dv with
  | cons h1 h2 =>
    refine ⟨_, _, rfl, h M G H σ _ S h1 _ fun σ1 l1 k1 S1 => k M G H σ1 _ S1 h2 _ fun σ2 l2 k2 S2 => q σ2 (l2.trans l1) (fun i hi => ?_) S2⟩
    exact (k2 i fun z => hi (List.mem_append_right _ z)).trans (k1 i fun z => hi (List.mem_append_left _ z))
theorem tg_tup {n : Nat} {u : TGs} {A : List Nat} (hn : ds.length = n) (h : TgsZ K u A ds ρ ρ1) : TgZ K (gTup K n u) A (.tup ds) ρ ρ1 := fun M G H σ v S dv Q q => by
  obtain ⟨a, xs, e, hs, hz⟩ := dv.tup_inv
  exact ⟨a, xs, e, ex_t S.sub hs, by rw [hz.len]; exact hn, h M G H σ xs S hz Q q⟩
theorem keep_of {S A : List Nat} {σ σ' : L2.St} (h : ∀ i, i ∉ A → σ'[i]? = σ[i]?) (hd : ∀ i ∈ A, i ∉ S) : Keep S σ σ' := fun i hi => h i fun z => hd i z hi

/-! ### walks -/
/-- J gives the items ds, one behind the other, while G stands -/
def Walks (K : PySem.W.Frag) (G0 : Hp) (J : It) (ds : List D) : Prop := ∀ G H, Ex G0 G → Ex G H →
  (∀ (i : Nat) (d : D), ds[i]? = some d → J.go i H ∧ ∀ x H', J.yld i H x H' → ∃ G', Grow (fun _ => False) G H G' H' ∧ Ex G' H' ∧ Dz K G' x d) ∧ J.stop ds.length H
def ItZ (K : PySem.W.Frag) (wi : TI) (ρ ρ' : Rho) (ds : List D) : Prop := ∀ M G H σ, Sim K M G H σ ρ → ∀ R : It → Hp → Prop, (∀ J G' H', Grow M G H G' H' → Sim K M G' H' σ ρ' → Walks K G' J ds → R J H') → wi σ H R
theorem walks_tup {G : Hp} {a : Addr} {vs : List V} (h : SqT K G a vs) (hd : Dzs K G vs ds) : Walks K G (Itt K a) ds := fun G1 H e s => by
  have hH := ex_t (e.trans s) h
  refine ⟨fun i d hi => ?_, ⟨vs, hH, by rw [hd.len]; exact Nat.le_refl _⟩⟩
  obtain ⟨v, ev, dv⟩ := hd.get hi
  refine ⟨⟨vs, v, hH, ev⟩, fun x H' hy => ?_⟩
  obtain ⟨e1, e2⟩ := hy
  have q := e2 vs hH
  rw [ev] at q
  cases q
  subst e1
  exact ⟨G1, .refl, s, dv.mono e⟩
theorem it_tup (h : EvZ K tl ρ ρ' (.tup ds)) : ItZ K (iTup K tl) ρ ρ' ds := fun M G H σ S R q => h M G H σ S _ fun v G1 H1 g1 s1 dv => by
  obtain ⟨a, vs, e, hs, hz⟩ := dv.tup_inv
  exact ⟨a, e, ⟨vs, ex_t s1.sub hs⟩, q _ G1 H1 g1 s1 (walks_tup hs hz)⟩
/-- 0 .. n - 1 -/
def rangeD (lo : Int) (n : Nat) : List D := (List.range n).map fun (i : Nat) => D.int (lo + (i : Int))
theorem rangeD_len {lo : Int} {n : Nat} : (rangeD lo n).length = n := by unfold rangeD; rw [List.length_map, List.length_range]
theorem walks_range {G : Hp} {lo : Int} {n : Nat} : Walks K G (Itr lo n) (rangeD lo n) := fun G1 H e s => by
  refine ⟨fun i d hi => ?_, by rw [rangeD_len]; exact Nat.le_refl _⟩
  unfold rangeD at hi
  rw [List.getElem?_map] at hi
  cases ec : (List.range n)[i]? with
  | none => rw [ec] at hi; cases hi
  | some c =>
    rw [ec] at hi
    cases hi
    obtain ⟨hl, ee⟩ := List.getElem?_eq_some_iff.mp ec
    rw [List.length_range] at hl
    rw [List.getElem_range] at ee
    subst ee
    refine ⟨hl, fun x H' hy => ?_⟩
    obtain ⟨e1, e2⟩ := hy
    subst e1
    rw [e2]
    exact ⟨G1, .refl, s, .int _⟩
theorem it_range1 {tx : TA} {n : Int} (h : AgZ K tx ρ ρ' [.int n]) (hn : -(2 ^ 62) ≤ n ∧ n < 2 ^ 62) : ItZ K (iRng1 tx) ρ ρ' (rangeD 0 n.toNat) := fun M G H σ S R q => h M G H σ S _ fun vs G1 H1 g1 s1 dv => by
  cases dv with
  | cons h1 h2 =>
    cases h2
    exact ⟨n, by rw [h1.int_inv], hn.1, hn.2, q _ G1 H1 g1 s1 walks_range⟩
/-! ### comprehensions -/
/-- the comprehension's own slots forgotten -/
def wipeR (ρ : Rho) : List Nat → Rho
  | [] => ρ
  | v :: vs => (wipeR ρ vs).set v .no
theorem wipeR_len (ρ : Rho) : ∀ vs, (wipeR ρ vs).length = ρ.length
  | [] => rfl
  | v :: vs => by unfold wipeR; rw [List.length_set, wipeR_len ρ vs]
theorem wipeR_get {i : Nat} {c : Cell} (hc : c ≠ .no) : ∀ {vs : List Nat}, (wipeR ρ vs)[i]? = some c → ρ[i]? = some c ∧ i ∉ vs
  | [], h => ⟨h, by simp⟩
  | v :: vs, h => by
    unfold wipeR at h
    rcases get_set h with ⟨_, e, _⟩ | ⟨ne, h⟩
    · exact absurd e hc
    · obtain ⟨a, b⟩ := wipeR_get hc h
      exact ⟨a, fun z => by
        rcases List.mem_cons.mp z with z | z
        · exact ne z.symm
        · exact b z⟩
theorem wipe_get {σ : L2.St} {i : Nat} : ∀ {vs : List Nat}, i ∉ vs → (wipe σ vs)[i]? = σ[i]?
  | [], _ => rfl
  | v :: vs, h => by
    unfold wipe
    rw [List.getElem?_set_ne (fun z => h (by rw [z]; exact List.mem_cons_self)), wipe_get fun z => h (List.mem_cons_of_mem _ z)]
theorem wipe_in {σ σ' : L2.St} {i : Nat} (hl : σ'.length = σ.length) : ∀ {vs : List Nat}, i ∈ vs → (wipe σ' vs)[i]? = (wipe σ vs)[i]?
  | v :: vs, h => by
    unfold wipe
    by_cases e : v = i
    · subst e
      by_cases hv : v < σ.length
      · rw [List.getElem?_set_self (by rw [wipe_length, hl]; exact hv), List.getElem?_set_self (by rw [wipe_length]; exact hv)]
      · rw [List.getElem?_eq_none (by rw [List.length_set, wipe_length, hl]; omega), List.getElem?_eq_none (by rw [List.length_set, wipe_length]; omega)]
    · rw [List.getElem?_set_ne e, List.getElem?_set_ne e]
      exact wipe_in hl (by
        rcases List.mem_cons.mp h with h | h
        · exact absurd h.symm e
        · exact h)
theorem wipe_eq {σ σ' : L2.St} {vs : List Nat} (hl : σ'.length = σ.length) (h : ∀ i, i ∉ vs → σ'[i]? = σ[i]?) : wipe σ' vs = wipe σ vs := by
  apply List.ext_getElem?
  intro i
  by_cases e : i ∈ vs
  · exact wipe_in hl e
  · rw [wipe_get e, wipe_get e, h i e]
theorem Sim.wipe {M : MS} {G H : Hp} {σ σ' : L2.St} {vs : List Nat} (S : Sim K M G H σ ρ) (hl : σ'.length = σ.length) (h : ∀ i, i ∉ vs → σ'[i]? = σ[i]?) : Sim K M G H σ' (wipeR ρ vs) where
  len := by rw [wipeR_len, hl]; exact S.len
  sub := S.sub
  fr := fun {i d} e => by
    obtain ⟨a, b⟩ := wipeR_get (by simp) e
    obtain ⟨v, e1, e2⟩ := S.fr a
    exact ⟨v, by rw [h i b]; exact e1, e2⟩
  mu := fun {i d} e => by
    obtain ⟨a, b⟩ := wipeR_get (by simp) e
    obtain ⟨p, vs, e1, e2⟩ := S.mu a
    exact ⟨p, vs, by rw [h i b]; exact e1, e2⟩
  apart := fun {i j ds es p} ne e1 e2 e3 e4 => by
    obtain ⟨a, b⟩ := wipeR_get (by simp) e1
    obtain ⟨a', b'⟩ := wipeR_get (by simp) e2
    rw [h i b] at e3
    rw [h j b'] at e4
    exact S.apart ne a a' e3 e4
/-- the items ds, one turn behind the other, give rs -/
inductive CompZ (K : PySem.W.Frag) (g : TG) (tt : TT) (te : TE) (vs A : List Nat) : List D → Rho → List D → Rho → Prop
  | nil {ρ : Rho} : CompZ K g tt te vs A [] ρ [] ρ
  | yes {ρ ρ1 ρ2 ρ3 ρ4 : Rho} {d r : D} {ds rs : List D} : TgZ K g A d ρ ρ1 → TsZ K tt ρ1 ρ2 true → EvZ K te ρ2 ρ3 r → CompZ K g tt te vs A ds (wipeR ρ3 vs) rs ρ4 → CompZ K g tt te vs A (d :: ds) ρ (r :: rs) ρ4
  | no {ρ ρ1 ρ2 ρ4 : Rho} {d : D} {ds rs : List D} : TgZ K g A d ρ ρ1 → TsZ K tt ρ1 ρ2 false → CompZ K g tt te vs A ds (wipeR ρ2 vs) rs ρ4 → CompZ K g tt te vs A (d :: ds) ρ rs ρ4
/-- what stands between two turns: rd is made (at D), rl is to come -/
structure CompW (K : PySem.W.Frag) (g : TG) (tt : TT) (te : TE) (vs A : List Nat) (M : MS) (G1 H1 : Hp) (Dl : Addr) (σ : L2.St) (ds rs : List D) (ρ' : Rho) (i : Nat) (H : Hp) : Prop where
  ex : ∃ G ρi rd rl vd, Grow (fun a => M a ∨ a = Dl) G1 H1 G H ∧ Sim K (fun a => M a ∧ a ≠ Dl) G H (L2.wipe σ vs) ρi ∧ CompZ K g tt te vs A (ds.drop i) ρi rl ρ' ∧ rd ++ rl = rs ∧ rd.length ≤ i ∧ G Dl = none ∧ H Dl = some (.lst vd) ∧ Dzs K G vd rd
theorem sim_unwipe {M : MS} {G H : Hp} {σ : L2.St} {vs : List Nat} (S : Sim K M G H (L2.wipe σ vs) ρ) : Sim K M G H σ ρ where
  len := by rw [← S.len, wipe_length]
  sub := S.sub
  fr := fun {j d} e => by
    obtain ⟨v, e1, e2⟩ := S.fr e
    obtain ⟨a, b⟩ := wipe_some e1
    exact ⟨v, a, e2⟩
  mu := fun {j d} e => by
    obtain ⟨p, us, e1, e2⟩ := S.mu e
    obtain ⟨a, b⟩ := wipe_some e1
    exact ⟨p, us, a, e2⟩
  apart := fun {j k ds es p} ne e1 e2 e3 e4 => by
    obtain ⟨p1, us1, f1, _⟩ := S.mu e1
    obtain ⟨p2, us2, f2, _⟩ := S.mu e2
    obtain ⟨a1, b1⟩ := wipe_some f1
    obtain ⟨a2, b2⟩ := wipe_some f2
    refine S.apart ne e1 e2 (p := p) ?_ ?_
    · rw [wipe_get b1]; exact e3
    · rw [wipe_get b2]; exact e4
/-- an object that is no own list's and is not frozen changes -/
theorem Sim.other {M : MS} {G H : Hp} {σ : L2.St} {p : Addr} {o : HO} (S : Sim K M G H σ ρ) (gp : G p = none) (hn : ∀ (j : Nat) (es : MO), ρ[j]? = some (.mu es) → σ[j]? ≠ some (some (.ref p))) : Sim K M G (upd H p o) σ ρ :=
  S.grow (fun a u e => by rw [upd_ne (ne_of_none e gp)]; exact S.sub a u e) (Ex.refl _) fun q es i e1 e2 => by
    obtain ⟨q', us, e', m, gq, hq, dz⟩ := S.mu e1
    rw [e2] at e'
    cases e'
    exact ⟨upd_ne fun z => by subst z; exact hn i es e1 e2, gq⟩
theorem Sim.nin {M : MS} {G H : Hp} {σ : L2.St} {p : Addr} (S : Sim K M G H σ ρ) (h : ¬ M p) : ∀ (j : Nat) (es : MO), ρ[j]? = some (.mu es) → σ[j]? ≠ some (some (.ref p)) := fun j es e1 e2 => by
  obtain ⟨q', us, e', m, gq, hq, dz⟩ := S.mu e1
  rw [e2] at e'
  cases e'
  exact h m
theorem en_lc {wi : TI} {g : TG} {vs A : List Nat} (hi : ItZ K wi ρ ρ1 ds) (hc : CompZ K g tt te vs A ds (wipeR ρ1 vs) rs ρ') (hA : ∀ i ∈ A, i ∈ vs) (hl : ds.length ≤ 99999) : EvN K (tLc wi g tt te vs) ρ ρ' rs := fun M G H σ S Q q =>
  hi M G H σ S _ fun J G1 H1 g1 s1 wk D hD => by
    have hD0 := g1.d D hD
    have s1' : Sim K M G1 H1 (L2.wipe σ vs) (wipeR ρ1 vs) := s1.wipe (wipe_length σ vs) fun i h => wipe_get h
    refine ⟨fun i m Hh => i ≤ ds.length ∧ m = ds.length - i ∧ CompW K g tt te vs A M G1 H1 D σ ds rs ρ' i Hh, ⟨ds.length, Nat.zero_le _, rfl, ⟨G1, wipeR ρ1 vs, [], rs, [], .newO hD, ?_, hc, rfl, Nat.le_refl _, fresh_back s1.sub hD, upd_same, .nil⟩⟩, ?_⟩
    · exact (s1'.newO hD).chMo fun p es i e1 e2 => by
        obtain ⟨p', us, e', m, gp, hp, dz⟩ := s1'.mu e1
        rw [e2] at e'
        cases e'
        exact ⟨m, fun z => by subst z; rw [hD] at hp; cases hp⟩
    · rintro i m Hi ⟨hle, rfl, ⟨Gi, ρi, rd, rl, vd, gi, si, ci, er, hrd, gD, hiD, dD⟩⟩
      obtain ⟨w1, w2⟩ := wk Gi Hi gi.g si.sub
      cases hit : ds[i]? with
      | none =>
        have hge : ds.length ≤ i := List.getElem?_eq_none_iff.mp hit
        have ei : i = ds.length := Nat.le_antisymm hle hge
        subst ei
        refine .inl ⟨w2, ?_⟩
        rw [List.drop_eq_nil_of_le hge] at ci
        cases ci
        rw [List.append_nil] at er
        subst er
        have gg : Grow M G1 H1 Gi Hi := gi.wk fun a e z => by
          rcases z with z | z
          · exact z
          · subst z; exact absurd hD e
        exact q D vd Gi Hi (g1.trans gg) (sim_unwipe (si.chM fun a _ z => z.1)) hD0 gD hiD dD
      | some d =>
        obtain ⟨hlt, ed⟩ := List.getElem?_eq_some_iff.mp hit
        obtain ⟨hgo, hy⟩ := w1 i d hit
        rw [List.drop_eq_getElem_cons hlt, ed] at ci
        refine .inr ⟨hgo, CompW K g tt te vs A M G1 H1 D σ ds rs ρ' (i + 1), fun H' w => ⟨ds.length - (i + 1), by omega, by omega, rfl, w⟩, fun x H' yl => ?_⟩
        obtain ⟨G2, g2, s2, dx⟩ := hy x H' yl
        have S2 : Sim K (fun a => M a ∧ a ≠ D) G2 H' (L2.wipe σ vs) ρi := si.grow s2 g2.g fun p es j e1 e2 => by
          obtain ⟨p', us, e', m, gp, hp, dz⟩ := si.mu e1
          rw [e2] at e'
          cases e'
          exact ⟨(g2.k p _ (fun z => z) hp).trans hp.symm, g2.n p (fun z => z) (by rw [hp]; simp) gp⟩
        have hD2 : H' D = some (.lst vd) := g2.k D _ (fun z => z) hiD
        have gD2 : G2 D = none := g2.n D (fun z => z) (by rw [hiD]; simp) gD
        have gi2 : Grow (fun a => M a ∨ a = D) G1 H1 G2 H' := gi.trans (g2.wk fun a _ z => z.elim)
        have wkM : ∀ {Ga Ha Gb Hb : Hp}, Grow (fun a => M a ∧ a ≠ D) Ga Ha Gb Hb → Grow (fun a => M a ∨ a = D) Ga Ha Gb Hb := fun h => h.wk fun a _ z => .inl z.1
        cases ci with
        | yes t1 t2 t3 t4 =>
          rename_i ρa ρb ρc r rl'
          refine t1 _ G2 H' _ x S2 dx _ fun σa la ka Sa => ⟨?_, ?_⟩
          · refine (wipe_eq (σ := L2.wipe σ vs) (vs := vs) la fun j hj => ka j fun z => hj (hA j z)).trans (wipe_eq (wipe_length σ vs) fun j hj => wipe_get hj)
          · refine t2 _ G2 H' _ Sa _ fun G3 H3 g3 s3 => ?_
            rw [if_pos rfl]
            refine t3 _ G3 H3 _ s3 _ fun v G4 H4 g4 s4 dv => ?_
            have g34 := g3.trans g4
            have hD4 : H4 D = some (.lst vd) := g34.k D _ (fun z => z.2 rfl) hD2
            have gD4 : G4 D = none := g34.n D (fun z => z.2 rfl) (by rw [hD2]; simp) gD2
            have dd : Dzs K G4 (vd ++ [v]) (rd ++ [r]) := (dD.mono (g2.g.trans g34.g)).snoc dv
            have s5 : Sim K (fun a => M a ∧ a ≠ D) G4 (upd H4 D (.lst (vd ++ [v]))) σa ρc := s4.other gD4 (s4.nin fun z => z.2 rfl)
            have ga := gi2.trans (wkM g34)
            refine ⟨vd, hD4, sz_lt (by rw [dD.len]; omega), ⟨G4, wipeR ρc vs, rd ++ [r], rl', vd ++ [v], ?_, ?_, t4, by rw [List.append_assoc]; exact er, by rw [List.length_append]; show rd.length + 1 ≤ i + 1; omega, gD4, upd_same, dd⟩⟩
            · refine ⟨ga.g, fun a o m e => ?_, ga.n, fun a e => ga.d a (upd_none e)⟩
              rw [upd_ne fun z => m (.inr z)]
              exact ga.k a o m e
            · exact s5.wipe (by rw [la, wipe_length]) fun j hj => by rw [ka j fun z => hj (hA j z)]
        | no t1 t2 t4 =>
          rename_i ρa ρb
          refine t1 _ G2 H' _ x S2 dx _ fun σa la ka Sa => ⟨?_, ?_⟩
          · refine (wipe_eq (σ := L2.wipe σ vs) (vs := vs) la fun j hj => ka j fun z => hj (hA j z)).trans (wipe_eq (wipe_length σ vs) fun j hj => wipe_get hj)
          · refine t2 _ G2 H' _ Sa _ fun G3 H3 g3 s3 => ?_
            rw [if_neg Bool.false_ne_true]
            refine ⟨G3, wipeR ρb vs, rd, rl, vd, gi2.trans (wkM g3), ?_, t4, er, Nat.le_succ_of_le hrd, g3.n D (fun z => z.2 rfl) (by rw [hD2]; simp) gD2, g3.k D _ (fun z => z.2 rfl) hD2, dD.mono (g2.g.trans g3.g)⟩
            exact s3.wipe (by rw [la, wipe_length]) fun j hj => by rw [ka j fun z => hj (hA j z)]
end Z

set_option Elab.async false
set_option linter.all false
set_option maxRecDepth 100000
set_option maxHeartbeats 2000000
/-! ZDef: statements, loops, a def's promise, calls. -/
namespace Z
open PySem L2
open Evl (Ex Ex.refl Ex.trans Ex.new ex_rd ex_l ex_t sq_of st_of fresh_back sz_of sz_lt)
variable {K : PySem.W.Frag} {S : List Nat} {ρ ρ' ρ1 ρ2 ρ3 : Rho} {ta tb tc te tl : TE} {tt tu : TT} {ts us : TS} {g : TG} {A : List Nat} {d e x y : D} {ds es xs ys rs : List D} {b c : Bool} {o : Out}

/-! ### statements -/
theorem ex_next : ExZ K S tNext ρ (.nx ρ) := fun M G H σ E f s q => q G H σ .refl .refl s
theorem ex_seq (h : ExZ K S ts ρ (.nx ρ1)) (k : ExZ K S us ρ1 o) : ExZ K S (tSeq ts us) ρ o := fun M G H σ E f s q =>
  h M G H σ { E with nx := us E } f s fun G1 H1 σ1 g1 k1 s1 => k M G1 H1 σ1 E (f.grow g1) s1 (q.go g1 k1)
/-- the first statement leaves -/
theorem ex_seqR {cl : Cell} (h : ExZ K S ts ρ (.rt ρ1 cl)) : ExZ K S (tSeq ts us) ρ (.rt ρ1 cl) := fun M G H σ E f s q => h M G H σ { E with nx := us E } f s q
theorem ex_ifT (h : TsZ K tt ρ ρ1 true) (k : ExZ K S ts ρ1 o) : ExZ K S (tIfS tt ts us) ρ o := fun M G H σ E f s q => h M G H σ s _ fun G1 H1 g1 s1 => by
  rw [if_pos rfl]
  exact k M G1 H1 σ E (f.grow g1) s1 (q.go g1 .refl)
theorem ex_ifF (h : TsZ K tt ρ ρ1 false) (k : ExZ K S us ρ1 o) : ExZ K S (tIfS tt ts us) ρ o := fun M G H σ E f s q => h M G H σ s _ fun G1 H1 g1 s1 => by
  rw [if_neg Bool.false_ne_true]
  exact k M G1 H1 σ E (f.grow g1) s1 (q.go g1 .refl)
theorem ex_asg (h : EvZ K te ρ ρ1 d) (t : TgZ K g A d ρ1 ρ2) (hA : ∀ i ∈ A, i ∉ S) : ExZ K S (tAsg te g) ρ (.nx ρ2) := fun M G H σ E f s q =>
  h M G H σ s _ fun v G1 H1 g1 s1 dv => t M G1 H1 σ v s1 dv _ fun σ2 l2 k2 s2 => q G1 H1 σ2 g1 (keep_of k2 hA) s2
theorem ex_set {i : Nat} (h : EvZ K te ρ ρ1 d) (hi : i ∉ S) : ExZ K S (tAsg te (gName i)) ρ (.nx (ρ1.set i (.fr d))) :=
  ex_asg h tg_name fun j hj => by
    rcases List.mem_cons.mp hj with z | z
    · rw [z]; exact hi
    · cases z
/-- a new list of the frame's own -/
theorem ex_setN {i : Nat} (h : EvN K te ρ ρ1 ds) (ho : OwnIn ρ1 ρ) (hi : i ∉ S) : ExZ K S (tAsg te (gName i)) ρ (.nx (ρ1.set i (.own ds))) := fun M G H σ E f s q =>
  h M G H σ s _ fun p vs G1 H1 g1 s1 hp gp h1 dv => q G1 H1 _ g1 (Keep.set hi) (s1.setO (o := .lst vs) (m := .lst ds) (f p hp) gp h1 dv fun j es _ e => EvN.noOwn (vs := vs) s s1 hp ho j es e)
theorem ex_ret (h : EvZ K te ρ ρ1 d) : ExZ K S (tRet te) ρ (.rt ρ1 (.fr d)) := fun M G H σ E f s q =>
  h M G H σ s _ fun v G1 H1 g1 s1 dv => q v G1 H1 σ g1 .refl s1 dv
theorem ex_retN (h : EvN K te ρ ρ1 ds) : ExZ K S (tRet te) ρ (.rt ρ1 (.own ds)) := fun M G H σ E f s q =>
  h M G H σ s _ fun p vs G1 H1 g1 s1 hp gp h1 dv => q _ G1 H1 σ g1 .refl s1 ⟨p, .lst vs, rfl, f p hp, gp, h1, dv⟩
theorem ex_retM {i : Nat} {m : MO} (h : ρ[i]? = some (.mu m)) : ExZ K S (tRet (tVar i)) ρ (.rt ρ (.mu m)) := fun M G H σ E f s q => by
  obtain ⟨p, o, e, r⟩ := s.mu h
  exact ⟨.ref p, e, q _ G H σ .refl .refl s ⟨p, o, rfl, r⟩⟩
theorem ex_retO {i : Nat} (h : ρ[i]? = some (.own ds)) : ExZ K S (tRet (tVar i)) ρ (.rt ρ (.own ds)) := ex_retM h
/-- freezing an own object -/
theorem ex_freezeM {i : Nat} {m : MO} (h : ρ[i]? = some (.mu m)) (k : ExZ K S ts (ρ.set i (.fr m.d)) o) : ExZ K S ts ρ o := fun M G H σ E f s q => by
  obtain ⟨G', g, s'⟩ := s.freezeM h
  exact k M G' H σ E (f.grow g) s' (q.go g .refl)
theorem ex_freeze {i : Nat} (h : ρ[i]? = some (.own ds)) (k : ExZ K S ts (ρ.set i (.fr (.lst ds))) o) : ExZ K S ts ρ o := ex_freezeM h k
theorem growM {M : MS} {G H : Hp} {σ : L2.St} {i : Nat} {p : Addr} {u : HO} {m : MO} (s : Sim K M G H σ ρ) (h : ρ[i]? = some (.mu m)) (e : σ[i]? = some (some (.ref p))) : Grow M G H G (upd H p u) := by
  obtain ⟨p', vs, e', m, gp, hp, dz⟩ := s.mu h
  rw [e] at e'
  cases e'
  refine ⟨Ex.refl _, fun a o n ha => ?_, fun a _ _ z => z, fun a z => upd_none z⟩
  rw [upd_ne fun z => by subst z; exact n m]
  exact ha
/-- xs.append(e), xs an own list -/
theorem ex_app {i : Nat} (h : EvZ K te ρ ρ1 d) (h0 : ρ[i]? = some (.own es)) (h1 : ρ1[i]? = some (.own ds)) (hl : ds.length < 100000) : ExZ K S (tDrop (tBM K "list" rAppend (tVar i) (tCons te tNil))) ρ (.nx (ρ1.set i (.own (ds ++ [d])))) := fun M G H σ E f s q => by
  obtain ⟨p, vs, e, m, gp, hp, dz⟩ := s.own h0
  refine ⟨.ref p, e, .inl ⟨rfl, vs, sq_of hp⟩, h M G H σ s _ fun v G1 H1 g1 s1 dv => ?_⟩
  obtain ⟨p', us, e', m', gp', hp', dz'⟩ := s1.own h1
  rw [e] at e'
  cases e'
  exact ⟨p, us, v, rfl, rfl, hp', sz_lt (by rw [dz'.len]; exact hl), q G1 _ σ (g1.trans (growM s1 h1 e)) .refl (s1.chO h1 e (dz'.snoc dv))⟩
/-- xs[k] = e, xs an own list -/
theorem ex_setAt {i : Nat} {k : Int} {j : Nat} (h : EvZ K te ρ ρ1 d) (hk : EvZ K tb ρ1 ρ2 (.int k)) (h1 : ρ1[i]? = some (.own es)) (h2 : ρ2[i]? = some (.own ds)) (hj : ixN ds.length k = some j) :
    ExZ K S (tAsg te (gSub (tVar i) tb rSetL)) ρ (.nx (ρ2.set i (.own (ds.set j d)))) := fun M G H σ E f s q =>
  h M G H σ s _ fun v G1 H1 g1 s1 dv => by
    obtain ⟨p, vs, e, m, gp, hp, dz⟩ := s1.own h1
    refine ⟨.ref p, e, hk M G1 H1 σ s1 _ fun w G2 H2 g2 s2 dw => ?_⟩
    obtain ⟨p', us, e', m', gp', hp', dz'⟩ := s2.own h2
    rw [e] at e'
    cases e'
    exact ⟨p, us, k, j, rfl, dw.int_inv, hp', by rw [dz'.len]; exact hj, q G2 _ σ ((g1.trans g2).trans (growM s2 h2 e)) .refl (s2.chO h2 e (dz'.set j (dv.mono g2.g)))⟩
/-! ### loops -/
inductive LoopZ (K : PySem.W.Frag) (S : List Nat) (g : TG) (tb : TS) (A : List Nat) : List D → Rho → Out → Prop
  | nil {ρ : Rho} : LoopZ K S g tb A [] ρ (.nx ρ)
  | step {ρ ρ1 ρ2 : Rho} {d : D} {ds : List D} {o : Out} : TgZ K g A d ρ ρ1 → ExZ K S tb ρ1 (.nx ρ2) → LoopZ K S g tb A ds ρ2 o → LoopZ K S g tb A (d :: ds) ρ o
  | cont {ρ ρ1 ρ2 : Rho} {d : D} {ds : List D} {o : Out} : TgZ K g A d ρ ρ1 → ExZ K S tb ρ1 (.ct ρ2) → LoopZ K S g tb A ds ρ2 o → LoopZ K S g tb A (d :: ds) ρ o
  | brk {ρ ρ1 ρ2 : Rho} {d : D} {ds : List D} : TgZ K g A d ρ ρ1 → ExZ K S tb ρ1 (.bk ρ2) → LoopZ K S g tb A (d :: ds) ρ (.nx ρ2)
  | ret {ρ ρ1 ρ2 : Rho} {d : D} {ds : List D} {c : Cell} : TgZ K g A d ρ ρ1 → ExZ K S tb ρ1 (.rt ρ2 c) → LoopZ K S g tb A (d :: ds) ρ (.rt ρ2 c)
theorem ex_for {wi : TI} {tb : TS} (hi : ItZ K wi ρ ρ1 ds) (hl : LoopZ K S g tb A ds ρ1 o) (hA : ∀ i ∈ A, i ∉ S) : ExZ K S (tFor wi g tb) ρ o := fun M G H σ E f s q =>
  hi M G H σ s _ fun J G1 H1 g1 s1 wk => by
    refine ⟨fun i m σ' H' => i ≤ ds.length ∧ m = ds.length - i ∧ ∃ Gi ρi, Grow M G1 H1 Gi H' ∧ Keep S σ σ' ∧ Sim K M Gi H' σ' ρi ∧ LoopZ K S g tb A (ds.drop i) ρi o, ⟨ds.length, Nat.zero_le _, rfl, G1, ρ1, .refl, .refl, s1, hl⟩, ?_⟩
    rintro i m σi Hi ⟨hle, rfl, Gi, ρi, gi, ki, si, li⟩
    obtain ⟨w1, w2⟩ := wk Gi Hi gi.g si.sub
    cases hit : ds[i]? with
    | none =>
      have hge : ds.length ≤ i := List.getElem?_eq_none_iff.mp hit
      have ei : i = ds.length := Nat.le_antisymm hle hge
      subst ei
      refine .inl ⟨w2, ?_⟩
      rw [List.drop_eq_nil_of_le hge] at li
      cases li
      exact q Gi Hi σi (g1.trans gi) ki si
    | some d =>
      obtain ⟨hlt, ed⟩ := List.getElem?_eq_some_iff.mp hit
      obtain ⟨hgo, hy⟩ := w1 i d hit
      rw [List.drop_eq_getElem_cons hlt, ed] at li
      refine .inr ⟨hgo, fun σ' H' => ∃ Gi ρi, Grow M G1 H1 Gi H' ∧ Keep S σ σ' ∧ Sim K M Gi H' σ' ρi ∧ LoopZ K S g tb A (ds.drop (i + 1)) ρi o, fun σ' H' w => ⟨ds.length - (i + 1), by omega, by omega, rfl, w⟩, fun x H' yl => ?_⟩
      obtain ⟨G2, g2, s2, dx⟩ := hy x H' yl
      have S2 : Sim K M G2 H' σi ρi := si.grow s2 g2.g fun p es j e1 e2 => by
        obtain ⟨p', us, e', m, gp, hp, dz⟩ := si.mu e1
        rw [e2] at e'
        cases e'
        exact ⟨(g2.k p _ (fun z => z) hp).trans hp.symm, g2.n p (fun z => z) (by rw [hp]; simp) gp⟩
      have ga : Grow M G1 H1 G2 H' := gi.trans (g2.wk fun a _ z => z.elim)
      have fr2 : Fresh M H' := f.grow (g1.trans ga)
      cases li with
      | step t1 t2 t3 =>
        refine t1 M G2 H' σi x S2 dx _ fun σa la ka Sa => t2 M G2 H' σa _ fr2 Sa fun G3 H3 σ3 g3 k3 s3 => ⟨G3, _, ga.trans g3, (ki.trans (keep_of ka hA)).trans k3, s3, t3⟩
      | cont t1 t2 t3 =>
        refine t1 M G2 H' σi x S2 dx _ fun σa la ka Sa => t2 M G2 H' σa _ fr2 Sa fun G3 H3 σ3 g3 k3 s3 => ⟨G3, _, ga.trans g3, (ki.trans (keep_of ka hA)).trans k3, s3, t3⟩
      | brk t1 t2 =>
        refine t1 M G2 H' σi x S2 dx _ fun σa la ka Sa => t2 M G2 H' σa _ fr2 Sa fun G3 H3 σ3 g3 k3 s3 => q G3 H3 σ3 ((g1.trans ga).trans g3) ((ki.trans (keep_of ka hA)).trans k3) s3
      | ret t1 t2 =>
        refine t1 M G2 H' σi x S2 dx _ fun σa la ka Sa => t2 M G2 H' σa _ fr2 Sa fun v G3 H3 σ3 g3 k3 s3 r3 => q v G3 H3 σ3 ((g1.trans ga).trans g3) ((ki.trans (keep_of ka hA)).trans k3) s3 r3

/-! ### a def's promise -/
def ResN (K : PySem.W.Frag) (G H0 H : Hp) (v : V) : Cell → Prop
  | .no => True
  | .fr d => Dz K G v d
  | .mu m => ∃ p o, v = .ref p ∧ H0 p = none ∧ G p = none ∧ H p = some o ∧ MOk K G o m
abbrev Rel := List Cell → Cell → List Cell → Prop
/-- called with the cells cs: the answer r, and what the own lists among the arguments are then (cs') -/
def SpZ (K : PySem.W.Frag) (R : Rel) : Sp := fun vs H Q _ => ∃ M G cs r cs', Sim K M G H (vs.map some) cs ∧ R cs r cs' ∧ ∀ v G' H', Grow M G H G' H' → Sim K M G' H' (vs.map some) cs' → ResN K G' H H' v r → Q v H'
theorem spz_len {R : Rel} {n : Nat} (hR : ∀ cs r cs', R cs r cs' → cs.length = n) : ∀ vs H Q E, SpZ K R vs H Q E → vs.length = n := fun vs H Q E ⟨M, G, cs, r, cs', s, h, _⟩ => by
  have := s.len
  rw [List.length_map] at this
  rw [this]
  exact hR _ _ _ h
/-- what the end of a body must say of the arguments -/
structure FinZ (S : List Nat) (cs cs' : List Cell) (ρ' : Rho) (r : Cell) : Prop where
  len : cs'.length = cs.length
  own : ∀ (i : Nat) (ds : MO), cs'[i]? = some (.mu ds) → i ∈ S ∧ ρ'[i]? = some (.mu ds) ∧ ∃ es, cs[i]? = some (.mu es)
  fr : ∀ (i : Nat) (d : D), cs'[i]? = some (.fr d) → cs[i]? = some (.fr d)
  res : ∀ (ds : MO), r = .mu ds → ∀ (i : Nat) (es : MO), cs[i]? ≠ some (.mu es)
theorem fin_fr {S : List Nat} {ds : List D} {ρ' : Rho} {r : Cell} : FinZ S (ds.map .fr) (ds.map .fr) ρ' r := by
  have no : ∀ (i : Nat) (es : MO), (ds.map Cell.fr)[i]? ≠ some (.mu es) := fun i es h => by
    rw [List.getElem?_map] at h
    cases e : ds[i]? with
    | none => rw [e] at h; cases h
    | some d => rw [e] at h; cases h
  exact ⟨rfl, fun i es h => absurd h (no i es), fun i d h => h, fun _ _ => no⟩
/-- the first argument an own list, the others frozen -/
theorem fin_mu {S : List Nat} {ds : List D} {ρ' : Rho} {d : D} {b b' : MO} (h0 : 0 ∈ S) (h : ρ'[0]? = some (.mu b')) : FinZ S (.mu b :: ds.map .fr) (.mu b' :: ds.map .fr) ρ' (.fr d) := by
  refine ⟨rfl, fun i es h1 => ?_, fun i d h1 => ?_, fun _ z => by cases z⟩
  · cases i with
    | zero =>
      have e : b' = es := by
        have q : some (Cell.mu b') = some (Cell.mu es) := h1
        cases q; rfl
      subst e
      exact ⟨h0, h, b, rfl⟩
    | succ i =>
      have q : (ds.map Cell.fr)[i]? = some (.mu es) := h1
      rw [List.getElem?_map] at q
      cases e : ds[i]? with
      | none => rw [e] at q; cases q
      | some d => rw [e] at q; cases q
  · cases i with
    | zero =>
      have q : some (Cell.mu b') = some (Cell.fr d) := h1
      cases q
    | succ i => exact h1
theorem fin_box {S : List Nat} {ds : List D} {ρ' : Rho} {d : D} {b b' : List D} (h0 : 0 ∈ S) (h : ρ'[0]? = some (.own b')) : FinZ S (.own b :: ds.map .fr) (.own b' :: ds.map .fr) ρ' (.fr d) := fin_mu h0 h
theorem sim_start {M : MS} {G H : Hp} {vs : List V} {cs : List Cell} (s : Sim K M G H (vs.map some) cs) (n : Nat) : Sim K M G H (vs.map some ++ List.replicate n none) (cs ++ List.replicate n .no) := by
  have el : vs.length = cs.length := by have := s.len; rw [List.length_map] at this; exact this
  have key : ∀ {i : Nat} {c : Cell}, c ≠ .no → (cs ++ List.replicate n Cell.no)[i]? = some c → cs[i]? = some c ∧ (vs.map some ++ List.replicate n none)[i]? = (vs.map some)[i]? := fun {i c} hc h => by
    by_cases hi : i < cs.length
    · rw [List.getElem?_append_left hi] at h
      exact ⟨h, by rw [List.getElem?_append_left (by rw [List.length_map, el]; exact hi)]⟩
    · rw [List.getElem?_append_right (by omega)] at h
      have q := List.mem_of_getElem? h
      exact absurd (List.eq_of_mem_replicate q) hc
  refine ⟨by rw [List.length_append, List.length_append, List.length_replicate, List.length_replicate, List.length_map, el], s.sub, fun {i d} h => ?_, fun {i d} h => ?_, fun {i j d e p} ne h1 h2 h3 h4 => ?_⟩
  · obtain ⟨a, b⟩ := key (by simp) h
    obtain ⟨v, e1, e2⟩ := s.fr a
    exact ⟨v, by rw [b]; exact e1, e2⟩
  · obtain ⟨a, b⟩ := key (by simp) h
    obtain ⟨p, us, e1, e2⟩ := s.mu a
    exact ⟨p, us, by rw [b]; exact e1, e2⟩
  · obtain ⟨a, b⟩ := key (by simp) h1
    obtain ⟨a', b'⟩ := key (by simp) h2
    rw [b] at h3
    rw [b'] at h4
    exact s.apart ne a a' h3 h4
/-- a def's body -/
theorem body_z {N : List Str} {vs : List V} {H : Hp} {Q : VK} {X : XK} {R : Rel} {t : TS} (S : List Nat) (h : SpZ K R vs H Q X)
    (hb : ∀ cs r cs', R cs r cs' → ∃ ρ', (ExZ K S t (cs ++ List.replicate (N.length - cs.length) .no) (.rt ρ' r) ∨ (r = .fr .non ∧ ExZ K S t (cs ++ List.replicate (N.length - cs.length) .no) (.nx ρ'))) ∧ FinZ S cs cs' ρ' r) : t { nx := fun _ H' => Q .non H', rt := Q } (L2.start N vs) H := by
  obtain ⟨M0, G, cs, r, cs', s, hR, q⟩ := h
  obtain ⟨ρ', hx, fin⟩ := hb cs r cs' hR
  have el : vs.length = cs.length := by have := s.len; rw [List.length_map] at this; exact this
  -- the set that may change: what is new, too; nothing else if the answer is an own list
  have hM : ∃ M1 : MS, (∀ a, M1 a → M0 a) ∧ Sim K M1 G H (vs.map some) cs ∧ (∀ ds : MO, r = .mu ds → ∀ a, ¬ M1 a) := by
    cases r with
    | mu ds => exact ⟨fun _ => False, fun _ z => z.elim, s.chMo fun p es i e1 _ => absurd e1 (fin.res ds rfl i es), fun _ _ _ z => z⟩
    | no => exact ⟨M0, fun _ z => z, s, fun _ z => by cases z⟩
    | fr d => exact ⟨M0, fun _ z => z, s, fun _ z => by cases z⟩
  obtain ⟨M1, m01, s1, hown⟩ := hM
  have st : Sim K (fun a => M1 a ∨ H a = none) G H (L2.start N vs) (cs ++ List.replicate (N.length - cs.length) .no) := by
    unfold L2.start
    rw [el]
    exact sim_start (s1.chM fun p _ m => .inl m) _
  have post : ∀ v G' H' σ', Grow (fun a => M1 a ∨ H a = none) G H G' H' → Keep S (L2.start N vs) σ' → Sim K (fun a => M1 a ∨ H a = none) G' H' σ' ρ' → ResOk K (fun a => M1 a ∨ H a = none) G' H' v r → Q v H' := fun v G' H' σ' g k s' rs => by
    have g0 : Grow M0 G H G' H' := g.wk fun a e z => by
      rcases z with z | z
      · exact m01 a z
      · exact absurd z e
    have back : ∀ (i : Nat) (ds : MO), cs'[i]? = some (.mu ds) → σ'[i]? = (vs.map some)[i]? ∧ ρ'[i]? = some (.mu ds) := fun i ds h1 => by
      obtain ⟨a, b, es, c⟩ := fin.own i ds h1
      have hi : i < vs.length := by rw [el]; exact (List.getElem?_eq_some_iff.mp c).1
      refine ⟨(k i a).trans ?_, b⟩
      unfold L2.start
      rw [List.getElem?_append_left (by rw [List.length_map]; exact hi)]
    refine q v G' H' g0 ⟨by rw [fin.len]; exact s.len, s'.sub, fun {i d} h1 => ?_, fun {i ds} h1 => ?_, fun {i j ds es p} ne h1 h2 h3 h4 => ?_⟩ ?_
    · obtain ⟨w, e1, e2⟩ := s.fr (fin.fr i d h1)
      exact ⟨w, e1, e2.mono g.g⟩
    · obtain ⟨a, b⟩ := back i ds h1
      obtain ⟨_, _, es, c⟩ := fin.own i ds h1
      obtain ⟨p, us, e1, m1, g1, h2, dd⟩ := s'.mu b
      obtain ⟨p0, us0, e0, m0, _⟩ := s.mu c
      rw [a, e0] at e1
      cases e1
      exact ⟨p, us, e0, m0, g1, h2, dd⟩
    · obtain ⟨a1, b1⟩ := back i ds h1
      obtain ⟨a2, b2⟩ := back j es h2
      exact s'.apart ne b1 b2 (a1.trans h3) (a2.trans h4)
    · cases r with
      | no => exact trivial
      | fr d => exact rs
      | mu ds =>
        obtain ⟨p, us, e1, m1, r2⟩ := rs
        refine ⟨p, us, e1, ?_, r2⟩
        rcases m1 with z | z
        · exact absurd z (hown ds rfl p)
        · exact z
  rcases hx with hx | ⟨er, hx⟩
  · exact hx _ G H _ _ (fun a e => .inr e) st post
  · subst er
    exact hx _ G H _ _ (fun a e => .inr e) st fun G' H' σ' g k s' => post .non G' H' σ' g k s' .non

/-! ### calls -/
theorem sim_args {G H : Hp} {vs : List V} (hd : Dzs K G vs ds) (s : Ex G H) : Sim K (fun _ => False) G H (vs.map some) (ds.map .fr) := by
  have no : ∀ {i : Nat} {es : MO}, (ds.map Cell.fr)[i]? = some (.mu es) → False := fun {i es} h => by
    rw [List.getElem?_map] at h
    cases e : ds[i]? with
    | none => rw [e] at h; cases h
    | some d => rw [e] at h; cases h
  refine ⟨by rw [List.length_map, List.length_map, hd.len], s, fun {i d} h => ?_, fun h => (no h).elim, fun _ h => (no h).elim⟩
  rw [List.getElem?_map] at h
  cases e : ds[i]? with
  | none => rw [e] at h; cases h
  | some d' =>
    rw [e] at h
    cases h
    obtain ⟨v, e1, e2⟩ := hd.get e
    exact ⟨v, by rw [List.getElem?_map, e1]; rfl, e2⟩
theorem Sim.after {M : MS} {G H G' H' : Hp} {σ : L2.St} (S : Sim K M G H σ ρ) (g : Grow (fun _ => False) G H G' H') (s : Ex G' H') : Sim K M G' H' σ ρ :=
  S.grow s g.g fun p es j e1 e2 => by
    obtain ⟨p', us, e', m, gp, hp, dz⟩ := S.mu e1
    rw [e2] at e'
    cases e'
    exact ⟨(g.k p _ (fun z => z) hp).trans hp.symm, g.n p (fun z => z) (by rw [hp]; simp) gp⟩
/-- all arguments frozen, the answer frozen -/
theorem ev_callF {R : Rel} {X : XK} {tx : TA} (h : AgZ K tx ρ ρ' ds) (hR : R (ds.map .fr) (.fr d) (ds.map .fr)) : EvZ K (tCall (SpZ K R) [] X tx) ρ ρ' d := fun M G H σ S Q q =>
  h M G H σ S _ fun vs G1 H1 g1 s1 dv => by
    rw [List.append_nil]
    refine ⟨fun _ => False, G1, ds.map .fr, .fr d, ds.map .fr, sim_args dv s1.sub, hR, fun v G' H' g s r => q v G' H' (g1.trans (g.wk fun _ _ z => z.elim)) (s1.after g s.sub) r⟩
/-- all arguments frozen, the answer a new list -/
theorem en_callF {R : Rel} {X : XK} {tx : TA} (h : AgZ K tx ρ ρ' ds) (hR : R (ds.map .fr) (.own es) (ds.map .fr)) : EvN K (tCall (SpZ K R) [] X tx) ρ ρ' es := fun M G H σ S Q q =>
  h M G H σ S _ fun vs G1 H1 g1 s1 dv => by
    rw [List.append_nil]
    refine ⟨fun _ => False, G1, ds.map .fr, .own es, ds.map .fr, sim_args dv s1.sub, hR, fun v G' H' g s r => ?_⟩
    obtain ⟨p, ou, rfl, hp, gp, hp', du⟩ := r
    obtain ⟨us, rfl, du⟩ := mok_lst du
    exact q p us G' H' (g1.trans (g.wk fun _ _ z => z.elim)) (s1.after g s.sub) (g1.d p hp) gp hp' du
/-- the first argument the own object at slot i, the others frozen -/
theorem ev_callM {R : Rel} {X : XK} {tr : TA} {i : Nat} {b0 b1 b2 : MO} (h0 : ρ[i]? = some (.mu b0)) (h : AgZ K tr ρ ρ1 ds) (h1 : ρ1[i]? = some (.mu b1)) (hR : R (.mu b1 :: ds.map .fr) (.fr d) (.mu b2 :: ds.map .fr)) :
    EvZ K (tCall (SpZ K R) [] X (tCons (tVar i) tr)) ρ (ρ1.set i (.mu b2)) d := fun M G H σ S Q q => by
  obtain ⟨p, vs, e, m, gp, hp, dz⟩ := S.mu h0
  refine ⟨.ref p, e, h M G H σ S _ fun ws G1 H1 g1 s1 dv => ?_⟩
  show SpZ K R ((V.ref p :: ws) ++ []) H1 Q X
  rw [List.append_nil]
  obtain ⟨p', us, e', m', gp', hp', dz'⟩ := s1.mu h1
  rw [e] at e'
  cases e'
  have sa := sim_args (K := K) dv s1.sub
  have s0 : Sim K (fun a => a = p) G1 H1 ((V.ref p :: ws).map some) (.mu b1 :: ds.map .fr) := by
    refine ⟨by rw [List.map_cons, List.length_cons, List.length_cons, sa.len], s1.sub, fun {j d} h => ?_, fun {j d} h => ?_, fun {j k d e q} ne h2 h3 h4 h5 => ?_⟩
    · cases j with
      | zero => exact absurd (show some (Cell.mu b1) = some (Cell.fr d) from h) (by simp)
      | succ j => exact sa.fr (i := j) h
    · cases j with
      | zero =>
        have z : some (Cell.mu b1) = some (Cell.mu d) := h
        cases z
        exact ⟨p, us, rfl, rfl, gp', hp', dz'⟩
      | succ j =>
        obtain ⟨_, _, _, z, _⟩ := sa.mu (i := j) h
        exact z.elim
    · cases j with
      | zero =>
        cases k with
        | zero => exact ne rfl
        | succ k =>
          obtain ⟨_, _, _, z, _⟩ := sa.mu (i := k) h3
          exact z.elim
      | succ j =>
        obtain ⟨_, _, _, z, _⟩ := sa.mu (i := j) h2
        exact z.elim
  refine ⟨fun a => a = p, G1, .mu b1 :: ds.map .fr, .fr d, .mu b2 :: ds.map .fr, s0, hR, fun v G' H' g s r => ?_⟩
  have gM : Grow M G1 H1 G' H' := g.wk fun a _ z => by subst z; exact m'
  obtain ⟨p2, us2, e2, m2, gp2, hp2, dz2⟩ := s.mu (i := 0) rfl
  have ep : p = p2 := by cases e2; rfl
  subst ep
  refine q v G' H' (g1.trans gM) ⟨by rw [List.length_set]; exact s1.len, s.sub, fun {j d} h => ?_, fun {j d} h => ?_, fun {j k d e2 q} ne h2 h3 h4 h5 => ?_⟩ r
  · rcases get_set h with ⟨_, z, _⟩ | ⟨_, h⟩
    · cases z
    · obtain ⟨w, a1, a2⟩ := s1.fr h
      exact ⟨w, a1, a2.mono g.g⟩
  · rcases get_set h with ⟨ej, z, _⟩ | ⟨ej, h⟩
    · subst ej
      cases z
      exact ⟨p, us2, e, m', gp2, hp2, dz2⟩
    · obtain ⟨w, ws', a1, a2, a3, a4, a5⟩ := s1.mu h
      have ne : w ≠ p := fun z => by
        subst z
        exact s1.apart ej h1 h e a1
      exact ⟨w, ws', a1, a2, g.n w ne (by rw [a4]; simp) a3, g.k w _ ne a4, a5.mono g.g⟩
  · have a1 : ∃ x, ρ1[j]? = some (.mu x) := by
      rcases get_set h2 with ⟨ej, _, _⟩ | ⟨_, h2⟩
      · subst ej; exact ⟨_, h1⟩
      · exact ⟨_, h2⟩
    have a2 : ∃ x, ρ1[k]? = some (.mu x) := by
      rcases get_set h3 with ⟨ej, _, _⟩ | ⟨_, h3⟩
      · subst ej; exact ⟨_, h1⟩
      · exact ⟨_, h3⟩
    obtain ⟨x, a1⟩ := a1
    obtain ⟨y, a2⟩ := a2
    exact s1.apart ne a1 a2 h4 h5
theorem ev_callB {R : Rel} {X : XK} {tr : TA} {i : Nat} {b0 b1 b2 : List D} (h0 : ρ[i]? = some (.own b0)) (h : AgZ K tr ρ ρ1 ds) (h1 : ρ1[i]? = some (.own b1)) (hR : R (.own b1 :: ds.map .fr) (.fr d) (.own b2 :: ds.map .fr)) :
    EvZ K (tCall (SpZ K R) [] X (tCons (tVar i) tr)) ρ (ρ1.set i (.own b2)) d := ev_callM h0 h h1 hR
end Z

set_option Elab.async false
set_option linter.all false
set_option maxRecDepth 100000
set_option maxHeartbeats 2000000
/-! ZSpec: a def as a relation of cells, its promise, calls by it; short names of readings; isinstance. -/
namespace Z
open PySem PySem.Spec PyProof.Rows L2
open Evl (Ex Ex.refl Ex.trans Ex.new ex_rd ex_l ex_t sq_of st_of fresh_back sz_of sz_lt)

/-- what the body t (n slots, m parameters) makes of the cells cs -/
def RelOf (K : PySem.W.Frag) (S : List Nat) (t : TS) (n m : Nat) : Rel := fun cs r cs' => cs.length = m ∧ ∃ ρ', (ExZ K S t (cs ++ List.replicate (n - m) .no) (.rt ρ' r) ∨ (r = .fr .non ∧ ExZ K S t (cs ++ List.replicate (n - m) .no) (.nx ρ'))) ∧ FinZ S cs cs' ρ' r
/-- R gives, from Pre, an answer of Post -/
def Spec (R : Rel) (Pre : List Cell → Prop) (Post : List Cell → Cell → List Cell → Prop) : Prop := ∀ cs, Pre cs → ∃ r cs', R cs r cs' ∧ Post cs r cs'
/-- the def x keeps the promise of R -/
structure Zdef (P : Program) (w : World) (K : PySem.W.Frag) (mg : Str → Option Value) (base : Heap) (k : Nat) (x : Str) (ps : List Str) (R : Rel) : Prop where
  ex : ∃ (f : Addr) (fd : FuncData), FnOk P w K mg base CX0 k f fd ps (SpZ K R) ∧ mg x = some (.ref f) ∧ PySem.W.keepIn K (.ref f) = true ∧ Binds K fd ps [] ∧ ∃ (oc : Value) (od : Option Addr) (osl : Array (Option Value)), K.lookup f = some ⟨oc, od, .func fd, osl⟩
theorem Fun.look {K : PySem.W.Frag} {x qual : Str} {st : Stmt} {f : Addr} {fd : FuncData} (F : Fun K x qual st f fd) : ∃ (oc : Value) (od : Option Addr) (osl : Array (Option Value)), K.lookup f = some ⟨oc, od, .func fd, osl⟩ := by
  obtain ⟨oc, od, _, _, _, _, _, _, osl, rfl, lk, _⟩ := F.ex
  exact ⟨oc, od, osl, lk⟩
theorem def_z {P : Program} {w : World} {K : PySem.W.Frag} {mg : Str → Option Value} {base : Heap} {x qual : Str} {st : Stmt} {f : Addr} {fd : FuncData} {N ps : List Str} {k n m : Nat} {t : TS} {S : List Nat} (F : Fun K x qual st f fd) (hm : mg x = some (.ref f))
    (Sc : FnScope N ps (defScope st)) (hn : N.length = n) (hp : ps.length = m) (b : Binds K fd ps [])
    (h : ∀ (cdv : Value) (A : Around) (outer : List Env) (s : Shared) (H : Hp) (E : XK), Room k (A.deeper (envOfC qual (defScope st) s.heap.objs.size f cdv)) → PSs (cxOf CX0 P w K mg base N qual (defScope st) f cdv A outer s H E).nox (defBody st) t) :
    Zdef P w K mg base (k + 1) x ps (RelOf K S t n m) := by
  subst hn
  subst hp
  refine ⟨f, fd, F.ok Sc (spz_len fun _ _ _ h => h.1) (fun cdv A outer s H vs Q E hr hsp => ⟨t, h cdv A outer s H E hr, body_z S hsp fun cs r cs' hR => ?_⟩), hm, F.kp, b, Fun.look F⟩
  obtain ⟨hl, ρ', h1, h2⟩ := hR
  rw [hl]
  exact ⟨ρ', h1, h2⟩
theorem pe_callZ {X : Cx} {k : Nat} {x : Str} {ps : List Str} {R : Rel} {e : Expr} {es : List Expr} {p pos : Pos} {t : TA} (G : Zdef X.prog X.w X.K X.mg X.base k x ps R) {j : Nat} (hr : Room j X.A) (hk : k ≤ j) (hg : Gl X x) (ha : PA X (e :: es) t)
    (hdb : (x == ("__debug__" : Str)) = false := by decide) (he : starEach (e :: es) X.env = (false, eval e X.env) :: starEach es X.env := by rfl) (hpl : (backTo pos (starEach es X.env)).any (·.1) = false := by rfl) :
    PE X (.Call (.Name x p) (e :: es) [] pos) (tCall (SpZ X.K R) [] E0 t) := by
  obtain ⟨f, fd, h1, h2, h3, h4, _⟩ := G.ex
  exact pe_call h1 (hr.mono hk) hg h2 h3 h4 .nil pass0 ha hdb he hpl

/-! ### readings by short names -/
abbrev rAddI : R2 := rI0 fun i j => .int (i + j)
abbrev rSubI : R2 := rI0 fun i j => .int (i - j)
abbrev rMulI : R2 := rI CMul fun i j => .int (i * j)
abbrev rModI : R2 := rI (fun _ j => 0 < j) fun i j => .int (i % j)
abbrev rDivI : R2 := rI CDiv fun i j => .int (i / j)
abbrev rPowI : R2 := rI CPow fun i j => .int (i ^ j.toNat)
abbrev rLtI : R2 := rI0 fun i j => .bl (decide (i < j))
abbrev rGtI : R2 := rI0 fun i j => .bl (decide (j < i))
abbrev rGeI : R2 := rI0 fun i j => .bl (decide (j ≤ i))
abbrev rCatS : R2 := fun x y H Q => ∃ i j, x = .str i ∧ y = .str j ∧ i.length + j.length ≤ sizeLine ∧ Q (.str (i ++ j)) H
abbrev rLenX (K : PySem.W.Frag) : List V → Hp → VK → Prop := fun xs H Q => ∃ x n, xs = [x] ∧ LenV K x H n ∧ Q (.int n) H
abbrev rToInt : List V → Hp → VK → Prop := fun xs H Q => (∃ i, xs = [.int i] ∧ Q (.int i) H) ∨ ∃ k, xs = [.bl k] ∧ Q (.int (if k then 1 else 0)) H
abbrev rIsN : R2 := fun x y H Q => y = .non ∧ Q (.bl (decide (x = .non))) H
/-! ### isinstance of data -/
section
variable {K : PySem.W.Frag} {ρ ρ' : Rho} {ta : TE} {d : D}
def tyN : D → String
  | .non => "NoneType"
  | .bl _ => "bool"
  | .int _ => "int"
  | .str _ => "str"
  | .lst _ => "list"
  | .tup _ => "tuple"
  | .dK _ => "dict"
  | .dT _ => "dict"
  | .ins _ _ => ""
  | .rng _ _ => "range"
  | .tupf _ => "tuple"
def notIns : D → Bool
  | .ins _ _ => false
  | .rng _ _ => false
  | .tupf _ => false
  | _ => true
theorem tyx_of {H : Hp} {v : V} (h : Dz K H v d) (hn : notIns d = true) : TyX K H v (.type (tyN d)) := by
  cases h with
  | non => exact .base .non
  | bl b => exact .base (.bl b)
  | int i => exact .base (.int i)
  | str x => exact .base (.str x)
  | lst h _ =>
    rcases h with (h | ⟨o, h⟩) | ⟨o, its, n, h, hc, _⟩
    · exact .base (.lst h)
    · exact .base (.frz h)
    · exact .kList h hc
  | tup h _ => exact .base (.tup h)
  | zt h =>
    obtain ⟨o, its, n, h, hc, _⟩ := h
    exact .kTuple h hc
  | dK h _ => exact .base (.dK h)
  | dT h _ => exact .base (.dT h)
  | ins _ _ => cases hn
  | rng _ => cases hn
  | tupf _ _ _ _ _ => cases hn
  | ft h _ _ => exact .fTuple h
theorem ev_isi {T : String} {b : Bool} (ha : EvZ K ta ρ ρ' d) (hk : PySem.W.kitOne K (.type (tyN d)) (.type T) = some b) (hn : notIns d = true := by rfl) : EvZ K (tCB (rIsi K) (tCons ta (tCons (tC (.ty T)) tNil))) ρ ρ' (.bl b) := fun M G H σ S Q q =>
  ha M G H σ S _ fun u G1 H1 g1 s1 du => ⟨u, .ty T, _, _, b, rfl, .ty T, tyx_of (du.mono s1.sub) hn, hk, q _ G1 H1 g1 s1 (.bl b)⟩
end
example (K : PySem.W.Frag) : PySem.W.kitOne K (.type "bool") (.type "int") = some true := by rfl
example (K : PySem.W.Frag) : PySem.W.kitOne K (.type "bool") (.type "tuple") = some false := by rfl
end Z
namespace Z
open PySem PySem.Spec PyProof.Rows L2
/-- the def never called: it keeps every promise that nothing asks -/
theorem zdef_none {P : Program} {w : World} {K : PySem.W.Frag} {mg : Str → Option Value} {base : Heap} {x qual : Str} {st : Stmt} {f : Addr} {fd : FuncData} {ps : List Str} (F : Fun K x qual st f fd) (hm : mg x = some (.ref f)) (b : Binds K fd ps []) (k : Nat) :
    Zdef P w K mg base k x ps (fun _ _ _ => False) :=
  ⟨f, fd, ⟨fun vs H Q E h => by obtain ⟨_, _, _, _, _, _, h, _⟩ := h; exact h.elim, fun A outer s H args us vs Q E hr he hb hv h => by obtain ⟨_, _, _, _, _, _, h, _⟩ := h; exact h.elim⟩, hm, F.kp, b, Fun.look F⟩
/-- the script's list as data -/
theorem dz_script {K : PySem.W.Frag} {H : Hp} {a : Addr} {ns : List Int} (h : SqL K H a (ns.map V.int)) : Dz K H (.ref a) (.lst (ns.map .int)) := .lst h (.of_ints ns)
/-- the promise of a law: whatever the script, True -/
def SpLaw (K : PySem.W.Frag) : Sp := fun vs H Q _ => ∃ (a : Addr) (ns : List Int), vs = [.ref a] ∧ SqL K H a (ns.map V.int) ∧ ∀ H', Q (.bl true) H'
theorem law_imp {K : PySem.W.Frag} {R : Rel} (hR : ∀ ns : List Int, R [.fr (.lst (ns.map .int))] (.fr (.bl true)) [.fr (.lst (ns.map .int))]) : ∀ vs H Q E, SpLaw K vs H Q E → SpZ K R vs H Q E := fun vs H Q E ⟨a, ns, hv, hs, q⟩ => by
  subst hv
  refine ⟨fun _ => False, H, [.fr (.lst (ns.map .int))], .fr (.bl true), [.fr (.lst (ns.map .int))], sim_args (ds := [.lst (ns.map .int)]) (.cons (dz_script hs) .nil) (fun _ _ h => h), hR ns, fun v G' H' _ _ r => ?_⟩
  have e : v = .bl true := Dz.bl_inv r
  rw [e]
  exact q H'
end Z
namespace Z
open PySem PySem.Spec PyProof.Rows L2
/-- the law's def, by its record -/
theorem law_fd {P : Program} {w : World} {K : PySem.W.Frag} {mg : Str → Option Value} {base : Heap} {k : Nat} {x : Str} {ps : List Str} {R : Rel} {f : Addr} {fd : FuncData} {sp : Sp} {oc : Value} {od : Option Addr} {sl : Array (Option Value)} (Z : Zdef P w K mg base k x ps R) (hf : mg x = some (.ref f))
    (l : K.lookup f = some ⟨oc, od, .func fd, sl⟩) (q : ∀ vs H Q E, sp vs H Q E → SpZ K R vs H Q E) : FnOk P w K mg base CX0 k f fd ps sp := by
  obtain ⟨f', fd', h1, h2, h3, h4, oc', od', sl', l'⟩ := Z.ex
  rw [hf] at h2
  cases h2
  rw [l] at l'
  cases l'
  exact h1.imp q
end Z

set_option Elab.async false
set_option linter.all false
set_option maxRecDepth 100000
set_option maxHeartbeats 2000000
/-! ZMore: forms of the rules that are used often. -/
namespace Z
open PySem PySem.Spec PyProof.Rows L2
open Evl (Ex Ex.refl Ex.trans Ex.new ex_rd ex_l ex_t sq_of st_of fresh_back sz_of sz_lt)
variable {K : PySem.W.Frag} {S : List Nat} {ρ ρ' ρ1 ρ2 ρ3 : Rho} {ta tb tc te tl : TE} {tt tu : TT} {ts us : TS} {g : TG} {A : List Nat} {d e x y : D} {ds es xs ys rs : List D} {b c : Bool} {o : Out}
theorem ex_if (h : TsZ K tt ρ ρ1 b) (h1 : b = true → ExZ K S ts ρ1 o) (h2 : b = false → ExZ K S us ρ1 o) : ExZ K S (tIfS tt ts us) ρ o := by
  cases b with
  | true => exact ex_ifT h (h1 rfl)
  | false => exact ex_ifF h (h2 rfl)
theorem set_no {j : Nat} {c : Cell} (h : ρ[j]? = some .no) : wipeR (ρ.set j c) [j] = ρ := by
  show (ρ.set j c).set j .no = ρ
  rw [List.set_set]
  apply List.ext_getElem?
  intro i
  by_cases e : j = i
  · subst e
    rw [List.getElem?_set_self (List.getElem?_eq_some_iff.mp h).1, h]
  · rw [List.getElem?_set_ne e]
/-- the same where the items are those of a list of something -/
theorem comp_mapA {α : Type} {j : Nat} (u : α → D) (f : α → D) (hj : ρ[j]? = some .no) : ∀ (as : List α), (∀ a ∈ as, EvZ K te (ρ.set j (.fr (u a))) (ρ.set j (.fr (u a))) (f a)) → CompZ K (gName j) tYes te [j] [j] (as.map u) ρ (as.map f) ρ
  | [], _ => .nil
  | d :: ds, h => by
    refine .yes tg_name ts_yes (h d List.mem_cons_self) ?_
    rw [set_no hj]
    exact comp_mapA u f hj ds fun d' hd => h d' (List.mem_cons_of_mem _ hd)
def isNo : D → Bool
  | .non => true
  | _ => false
theorem ev_isN (ha : EvZ K ta ρ ρ1 d) : EvZ K (tOp rIsN ta (tC .non)) ρ ρ1 (.bl (isNo d)) :=
  ev_op ha ev_non.rd fun u v G H Q _ du dv q => by
    refine ⟨dv.non_inv, ?_⟩
    cases du <;> exact q _ (.bl _)
theorem rangeD_cons {m n : Nat} : rangeD (m : Int) (n + 1) = .int (m : Int) :: rangeD ((m + 1 : Nat) : Int) n := by
  unfold rangeD
  rw [List.range_succ_eq_map, List.map_cons, List.map_map]
  have h0 : (m : Int) + ((0 : Nat) : Int) = (m : Int) := by omega
  rw [h0]
  refine congrArg _ (List.map_congr_left fun i _ => ?_)
  show D.int ((m : Int) + ((i + 1 : Nat) : Int)) = D.int (((m + 1 : Nat) : Int) + (i : Int))
  exact congrArg D.int (by omega)
end Z

set_option Elab.async false
set_option linter.all false
set_option maxRecDepth 100000
set_option maxHeartbeats 2000000
/-! LawA: what the helpers of a law that draw from the script come to. -/
namespace Z
open PySem PySem.Spec PyProof.Rows L2
open Evl (Ex Ex.refl Ex.trans Ex.new ex_rd ex_l ex_t sq_of st_of fresh_back sz_of sz_lt)
def t__law_cell (K : PySem.W.Frag) : TS :=
  (tSeq (tIfS (tTest (tOp rLtI (tVar 1) (tCB (rLenX K) (tCons (tVar 0) tNil)))) (tRet (tCB rToInt (tCons (tOp (rIx K) (tVar 0) (tVar 1)) tNil))) tNext)
      (tRet (tC (.int 0))))

def b__law_digits_1 (K : PySem.W.Frag) : TS :=
  (tIfS (tTest (tOp rGtI (tVar 0) (tC (.int 0)))) (tSeq (tDrop (tBM K "list" rAppend (tVar 2) (tCons (tOp rModI (tCB rToInt (tCons (tVar 0) tNil)) (tC (.int 1000))) tNil)))
      (tAsg (tOp rDivI (tVar 0) (tC (.int 1000))) (gName 0))) tNext)
def b__law_digits_2 (K : PySem.W.Frag) : TS :=
  (tSeq (tAsg (tOp rModI (tCB rToInt (tCons (tOp rAddI (tOp rAddI (tOp rMulI (tVar 4) (tC (.int 16807))) (tOp rMulI (tC (.int 7)) (tVar 3))) (tC (.int 1))) tNil)) (tC (.int 2147483647))) (gName 4))
      (tDrop (tBM K "list" rAppend (tVar 2) (tCons (tOp rModI (tCB rToInt (tCons (tOp rDivI (tVar 4) (tC (.int 997))) tNil)) (tC (.int 1000))) tNil))))
def t__law_digits (K : PySem.W.Frag) : TS :=
  (tSeq (tAsg (tLst tNil) (gName 2))
      (tSeq (tIfS (tTest (tOp rLtI (tVar 0) (tC (.int 0)))) (tAsg (tOp rSubI (tC (.int 1)) (tOp rMulI (tC (.int 2)) (tVar 0))) (gName 0)) tNext)
      (tSeq (tIfS (tTest (tOp rGeI (tVar 0) (tOp rPowI (tC (.int 10)) (tC (.int 18))))) (tFor (iRng1 (tCons (tC (.int 60)) tNil)) (gName 3) (b__law_digits_1 K)) (tSeq (tAsg (tOp rModI (tCB rToInt (tCons (tOp rAddI (tOp rAddI (tOp rMulI (tVar 0) (tC (.int 48271))) (tOp rMulI (tVar 1) (tC (.int 69621)))) (tC (.int 11))) tNil)) (tC (.int 2147483647))) (gName 4))
      (tFor (iRng1 (tCons (tC (.int 60)) tNil)) (gName 3) (b__law_digits_2 K))))
      (tRet (tVar 2)))))

def t__law_box (K : PySem.W.Frag) (R__law_cell : Rel) (R__law_digits : Rel) : TS :=
  (tRet (tLst (tCons (tCall (SpZ K R__law_digits) [] E0 (tCons (tCall (SpZ K R__law_cell) [] E0 (tCons (tVar 0) (tCons (tVar 1) tNil))) (tCons (tVar 1) tNil))) (tCons (tC (.int 0)) tNil))))

def t__law_draw (K : PySem.W.Frag) : TS :=
  (tSeq (tAsg (tOp (rIx K) (tVar 0) (tC (.int 1))) (gName 2))
      (tSeq (tAsg (tOp rAddI (tVar 2) (tC (.int 1))) (gSub (tVar 0) (tC (.int 1)) rSetL))
      (tSeq (tIfS (tTest (tOp rLtI (tVar 2) (tCB (rLenX K) (tCons (tOp (rIx K) (tVar 0) (tC (.int 0))) tNil)))) (tRet (tOp rModI (tCB rToInt (tCons (tOp (rIx K) (tOp (rIx K) (tVar 0) (tC (.int 0))) (tVar 2)) tNil)) (tVar 1))) tNext)
      (tRet (tC (.int 0))))))

def t__law_is_integer (K : PySem.W.Frag) : TS :=
  (tRet (tAndV (tCB (rIsi K) (tCons (tVar 0) (tCons (tC (.ty "int")) tNil))) (tNotV (tCB (rIsi K) (tCons (tVar 0) (tCons (tC (.ty "bool")) tNil))))))

def e__law_same_1 (K : PySem.W.Frag) (R__law_is_integer : Rel) (R__law_same : Rel) : TE :=
  (tCall (SpZ K R__law_same) [] E0 (tCons (tOp (rIx K) (tVar 0) (tVar 2)) (tCons (tOp (rIx K) (tVar 1) (tVar 2)) tNil)))
def t__law_same (K : PySem.W.Frag) (R__law_is_integer : Rel) (R__law_same : Rel) : TS :=
  (tSeq (tIfS (tB (tCB (rIsi K) (tCons (tVar 1) (tCons (tC (.ty "tuple")) tNil)))) (tSeq (tIfS (tOr (tNot (tB (tCB (rIsi K) (tCons (tVar 0) (tCons (tC (.ty "tuple")) tNil))))) (tTest (tOp rNe (tCB (rLenX K) (tCons (tVar 0) tNil)) (tCB (rLenX K) (tCons (tVar 1) tNil))))) (tRet (tC (.bl false))) tNext)
      (tRet (tCB (rAll K) (tCons (tLc (iRng1 (tCons (tCB (rLenX K) (tCons (tVar 1) tNil)) tNil)) (gName 2) tYes (e__law_same_1 K R__law_is_integer R__law_same) [2]) tNil)))) tNext)
      (tSeq (tIfS (tB (tCB (rIsi K) (tCons (tVar 1) (tCons (tC (.ty "bool")) tNil)))) (tRet (tAndV (tCB (rIsi K) (tCons (tVar 0) (tCons (tC (.ty "bool")) tNil))) (tOp rEq (tVar 0) (tVar 1)))) tNext)
      (tSeq (tIfS (tB (tCB (rIsi K) (tCons (tVar 1) (tCons (tC (.ty "int")) tNil)))) (tRet (tAndV (tCall (SpZ K R__law_is_integer) [] E0 (tCons (tVar 0) tNil)) (tOp rEq (tVar 0) (tVar 1)))) tNext)
      (tSeq (tIfS (tB (tCB (rIsi K) (tCons (tVar 1) (tCons (tC (.ty "str")) tNil)))) (tRet (tAndV (tCB (rIsi K) (tCons (tVar 0) (tCons (tC (.ty "str")) tNil))) (tOp rEq (tVar 0) (tVar 1)))) tNext)
      (tRet (tAndV (tOp rIsN (tVar 0) (tC .non)) (tOp rIsN (tVar 1) (tC .non))))))))

section
variable {K : PySem.W.Frag}
/-! ### _law_cell -/
def PreCell (cs : List Cell) : Prop := ∃ (ns : List Int) (k : Nat), cs = [.fr (.lst (ns.map .int)), .fr (.int (k : Int))]
def PostCell (cs : List Cell) (r : Cell) (cs' : List Cell) : Prop := cs' = cs ∧ ∃ i : Int, r = .fr (.int i)
theorem sem_cell : Spec (RelOf K [] (t__law_cell K) 2 2) PreCell PostCell := by
  rintro _ ⟨ns, k, rfl⟩
  have key : ∃ (i : Int) (ρ2 : Rho), ExZ K [] (t__law_cell K) [.fr (.lst (ns.map .int)), .fr (.int (k : Int))] (.rt ρ2 (.fr (.int i))) := by
    have ht := ts_test (ev_lt (K := K) (ρ := [.fr (.lst (ns.map .int)), .fr (.int (k : Int))]) (ev_var (i := 1) rfl) (ev_lenL (ev_var (i := 0) rfl).rd))
    by_cases h : k < ns.length
    · refine ⟨ns[k], _, ex_seqR (ex_ifT (ts_is ht ?_) (ex_ret (ev_toInt (ev_ixL (ev_var rfl) (ev_var rfl) (at_nat (j := k) ?_)))))⟩
      · rw [List.length_map]
        exact decide_eq_true (by omega)
      · rw [List.getElem?_map, List.getElem?_eq_getElem h]
        rfl
    · refine ⟨0, _, ex_seq (ex_ifF (ts_is ht ?_) ex_next) (ex_ret ev_int)⟩
      rw [List.length_map]
      exact decide_eq_false (by omega)
  obtain ⟨i, ρ2, h⟩ := key
  exact ⟨_, _, ⟨rfl, ρ2, .inl h, fin_fr (ds := [.lst (ns.map .int), .int (k : Int)])⟩, rfl, i, rfl⟩
/-! ### _law_digits -/
def Nn (ds : List Int) : Prop := ∀ d ∈ ds, 0 ≤ d
theorem Nn.snoc {ds : List Int} {d : Int} (h : Nn ds) (hd : 0 ≤ d) : Nn (ds ++ [d]) := fun x hx => by
  rcases List.mem_append.mp hx with hx | hx
  · exact h x hx
  · rcases List.mem_cons.mp hx with z | z
    · rw [z]; exact hd
    · cases z
def PreDig (cs : List Cell) : Prop := ∃ (c a : Int), cs = [.fr (.int c), .fr (.int a)] ∧ -1000000 ≤ a ∧ a ≤ 1000000
def PostDig (cs : List Cell) (r : Cell) (cs' : List Cell) : Prop := cs' = cs ∧ ∃ ds : List Int, Nn ds ∧ ds.length ≤ 60 ∧ r = .own (ds.map .int)
theorem map_snoc (ds : List Int) (d : Int) : ds.map D.int ++ [D.int d] = (ds ++ [d]).map D.int := by rw [List.map_append]; rfl
theorem dig_loop1 (a : Int) (sv : Cell) : ∀ (n m : Nat) (c : Int) (ds : List Int) (tv : Cell), 0 ≤ c → Nn ds → ds.length ≤ m → m + n ≤ 60 → ∃ c' ds' tv', 0 ≤ c' ∧ Nn ds' ∧ ds'.length ≤ 60 ∧
    LoopZ K [] (gName 3) (b__law_digits_1 K) [3] (rangeD (m : Int) n) [.fr (.int c), .fr (.int a), .own (ds.map .int), tv, sv] (.nx [.fr (.int c'), .fr (.int a), .own (ds'.map .int), tv', sv])
  | 0, m, c, ds, tv, hc, hn, hl, hm => ⟨c, ds, tv, hc, hn, by omega, .nil⟩
  | n + 1, m, c, ds, tv, hc, hn, hl, hm => by
    rw [rangeD_cons]
    have ht := ts_test (ev_gt (K := K) (ρ := [.fr (.int c), .fr (.int a), .own (ds.map .int), .fr (.int (m : Int)), sv]) (ev_var (i := 0) rfl) (ev_int (i := 0)))
    by_cases h : 0 < c
    · obtain ⟨c', ds', tv', h1, h2, h3, h4⟩ := dig_loop1 a sv n (m + 1) (c / 1000) (ds ++ [c % 1000]) (.fr (.int (m : Int))) (by omega) (hn.snoc (by omega)) (by rw [List.length_append]; show ds.length + 1 ≤ m + 1; omega) (by omega)
      refine ⟨c', ds', tv', h1, h2, h3, .step tg_name (ex_ifT (ts_is ht (decide_eq_true h)) (ex_seq (ex_app (i := 2) (ev_mod (ev_toInt (ev_var rfl)) ev_int (by decide)) rfl rfl (by rw [List.length_map]; omega)) (ex_set (i := 0) (ev_fdiv (ev_var rfl) ev_int ⟨by decide, by decide⟩) (by decide)))) ?_⟩
      rw [← map_snoc] at h4
      exact h4
    · obtain ⟨c', ds', tv', h1, h2, h3, h4⟩ := dig_loop1 a sv n (m + 1) c ds (.fr (.int (m : Int))) hc hn (by omega) (by omega)
      exact ⟨c', ds', tv', h1, h2, h3, .step tg_name (ex_ifF (ts_is ht (decide_eq_false h)) ex_next) h4⟩
theorem dig_loop2 (c a : Int) : ∀ (n m : Nat) (s : Int) (ds : List Int) (tv : Cell), 0 ≤ s → s < 2147483647 → Nn ds → ds.length ≤ m → m + n ≤ 60 → ∃ s' ds' tv', Nn ds' ∧ ds'.length ≤ 60 ∧
    LoopZ K [] (gName 3) (b__law_digits_2 K) [3] (rangeD (m : Int) n) [.fr (.int c), .fr (.int a), .own (ds.map .int), tv, .fr (.int s)] (.nx [.fr (.int c), .fr (.int a), .own (ds'.map .int), tv', .fr (.int s')])
  | 0, m, s, ds, tv, h0, h1, hn, hl, hm => ⟨s, ds, tv, hn, by omega, .nil⟩
  | n + 1, m, s, ds, tv, h0, h1, hn, hl, hm => by
    rw [rangeD_cons]
    have hs0 : 0 ≤ (s * 16807 + 7 * (m : Int) + 1) % 2147483647 := by omega
    have hs1 : (s * 16807 + 7 * (m : Int) + 1) % 2147483647 < 2147483647 := by omega
    obtain ⟨s', ds', tv', h2, h3, h4⟩ := dig_loop2 c a n (m + 1) ((s * 16807 + 7 * (m : Int) + 1) % 2147483647) (ds ++ [(s * 16807 + 7 * (m : Int) + 1) % 2147483647 / 997 % 1000]) (.fr (.int (m : Int))) hs0 hs1 (hn.snoc (by omega)) (by rw [List.length_append]; show ds.length + 1 ≤ m + 1; omega) (by omega)
    refine ⟨s', ds', tv', h2, h3, .step tg_name (ex_seq (ex_set (i := 4) (ev_mod (ev_toInt (ev_add (ev_add (ev_mul (ev_var rfl) ev_int (.inl ⟨by omega, by omega⟩)) (ev_mul ev_int (ev_var rfl) (.inl ⟨by decide, by decide⟩))) ev_int)) ev_int (by decide)) (by decide))
      (ex_app (i := 2) (ev_mod (ev_toInt (ev_fdiv (ev_var rfl) ev_int ⟨by decide, by decide⟩)) ev_int (by decide)) rfl rfl (by rw [List.length_map]; omega))) ?_⟩
    rw [← map_snoc] at h4
    exact h4
theorem sem_digits : Spec (RelOf K [] (t__law_digits K) 5 2) PreDig PostDig := by
  rintro _ ⟨c, a, rfl, ha, hb⟩
  have key : ∃ (ds : List Int) (ρ2 : Rho), Nn ds ∧ ds.length ≤ 60 ∧ ExZ K [] (t__law_digits K) [.fr (.int c), .fr (.int a), .no, .no, .no] (.rt ρ2 (.own (ds.map .int))) := by
    -- cell, made at least 0
    have h1 : ∃ c1 : Int, 0 ≤ c1 ∧ ExZ K [] (tIfS (tTest (tOp rLtI (tVar 0) (tC (.int 0)))) (tAsg (tOp rSubI (tC (.int 1)) (tOp rMulI (tC (.int 2)) (tVar 0))) (gName 0)) tNext) [.fr (.int c), .fr (.int a), .own [], .no, .no] (.nx [.fr (.int c1), .fr (.int a), .own [], .no, .no]) := by
      have ht := ts_test (ev_lt (K := K) (ρ := [.fr (.int c), .fr (.int a), .own [], .no, .no]) (ev_var (i := 0) rfl) (ev_int (i := 0)))
      by_cases h : c < 0
      · exact ⟨1 - 2 * c, by omega, ex_ifT (ts_is ht (decide_eq_true h)) (ex_set (i := 0) (ev_sub ev_int (ev_mul ev_int (ev_var rfl) (.inl ⟨by decide, by decide⟩))) (by decide))⟩
      · exact ⟨c, by omega, ex_ifF (ts_is ht (decide_eq_false h)) ex_next⟩
    obtain ⟨c1, hc1, h1⟩ := h1
    have ht := ts_test (ev_ge (K := K) (ρ := [.fr (.int c1), .fr (.int a), .own [], .no, .no]) (ev_var (i := 0) rfl) (ev_pow (ev_int (i := 10)) (ev_int (i := 18)) ⟨by decide, by decide, by decide⟩))
    by_cases h : (10 : Int) ^ (18 : Int).toNat ≤ c1
    · obtain ⟨c', ds', tv', h2, h3, h4, h5⟩ := dig_loop1 (K := K) a .no 60 0 c1 [] .no hc1 (fun _ z => by cases z) (Nat.le_refl 0) (Nat.le_refl 60)
      exact ⟨ds', _, h3, h4, ex_seq (ex_setN (i := 2) (en_lst ag_nil (by decide)) OwnIn.refl (by decide)) (ex_seq h1 (ex_seq (ex_ifT (ts_is ht (decide_eq_true h)) (ex_for (it_range1 (ag_cons ev_int ag_nil) ⟨by decide, by decide⟩) h5 (by decide))) (ex_retO (i := 2) rfl)))⟩
    · have hlt : c1 < 1000000000000000000 := by
        have e : (10 : Int) ^ (18 : Int).toNat = 1000000000000000000 := by decide
        rw [e] at h
        omega
      obtain ⟨s', ds', tv', h3, h4, h5⟩ := dig_loop2 (K := K) c1 a 60 0 ((c1 * 48271 + a * 69621 + 11) % 2147483647) [] .no (by omega) (by omega) (fun _ z => by cases z) (Nat.le_refl 0) (Nat.le_refl 60)
      exact ⟨ds', _, h3, h4, ex_seq (ex_setN (i := 2) (en_lst ag_nil (by decide)) OwnIn.refl (by decide)) (ex_seq h1 (ex_seq (ex_ifF (ts_is ht (decide_eq_false h)) (ex_seq (ex_set (i := 4) (ev_mod (ev_toInt (ev_add (ev_add (ev_mul (ev_var rfl) ev_int (.inl ⟨by omega, by omega⟩)) (ev_mul (ev_var rfl) ev_int (.inl ⟨by omega, by omega⟩))) ev_int)) ev_int (by decide)) (by decide)) (ex_for (it_range1 (ag_cons ev_int ag_nil) ⟨by decide, by decide⟩) h5 (by decide)))) (ex_retO (i := 2) rfl)))⟩
  obtain ⟨ds, ρ2, h1, h2, h3⟩ := key
  exact ⟨_, _, ⟨rfl, ρ2, .inl h3, fin_fr (ds := [.int c, .int a])⟩, rfl, ds, h1, h2, rfl⟩
/-! ### _law_box -/
def GoodBox (b : List D) : Prop := ∃ (ds : List Int) (p : Nat), Nn ds ∧ ds.length ≤ 60 ∧ b = [.lst (ds.map .int), .int (p : Int)]
def PreBox (cs : List Cell) : Prop := ∃ (ns : List Int) (k : Nat), cs = [.fr (.lst (ns.map .int)), .fr (.int (k : Int))] ∧ k ≤ 1000000
def PostBox (cs : List Cell) (r : Cell) (cs' : List Cell) : Prop := cs' = cs ∧ ∃ b, GoodBox b ∧ r = .own b
theorem sem_box {Rc Rd : Rel} (hc : Spec Rc PreCell PostCell) (hd : Spec Rd PreDig PostDig) : Spec (RelOf K [] (t__law_box K Rc Rd) 2 2) PreBox PostBox := by
  rintro _ ⟨ns, k, rfl, hk⟩
  obtain ⟨r1, cs1, h1, rfl, i, rfl⟩ := hc _ ⟨ns, k, rfl⟩
  obtain ⟨r2, cs2, h2, rfl, ds, hn, hl, rfl⟩ := hd _ ⟨i, (k : Int), rfl, by omega, by omega⟩
  refine ⟨_, _, ⟨rfl, _, .inl (ex_retN (en_lst (ag_cons (EvN.ev (en_callF (ds := [.int i, .int (k : Int)]) (ag_cons (ev_callF (ds := [.lst (ns.map .int), .int (k : Int)]) (ag_cons (ev_var rfl) (ag_cons (ev_var rfl) ag_nil)) h1) (ag_cons (ev_var rfl) ag_nil)) h2) OwnIn.refl) (ag_cons ev_int ag_nil)) (by show 2 ≤ 100000; decide))), fin_fr (ds := [.lst (ns.map .int), .int (k : Int)])⟩, rfl, _, ⟨ds, 0, hn, hl, rfl⟩, rfl⟩
/-! ### _law_draw -/
def PreDraw (cs : List Cell) : Prop := ∃ (b : List D) (m : Int), cs = [.own b, .fr (.int m)] ∧ GoodBox b ∧ 0 < m
def PostDraw (cs : List Cell) (r : Cell) (cs' : List Cell) : Prop := ∀ (b : List D) (m : Int), cs = [.own b, .fr (.int m)] → ∃ (v : Int) (b' : List D), cs' = [.own b', .fr (.int m)] ∧ GoodBox b' ∧ 0 ≤ v ∧ v < m ∧ r = .fr (.int v)
theorem sem_draw : Spec (RelOf K [0] (t__law_draw K) 3 2) PreDraw PostDraw := by
  rintro _ ⟨b, m, rfl, ⟨ds, p, hn, hl, rfl⟩, hm⟩
  have key : ∃ (v : Int) (ρ2 : Rho), 0 ≤ v ∧ v < m ∧ ρ2[0]? = some (.own [.lst (ds.map .int), .int ((p + 1 : Nat) : Int)]) ∧ ExZ K [0] (t__law_draw K) [.own [.lst (ds.map .int), .int (p : Int)], .fr (.int m), .no] (.rt ρ2 (.fr (.int v))) := by
    have s1 : ExZ K [0] (tAsg (tOp (rIx K) (tVar 0) (tC (.int 1))) (gName 2)) [.own [.lst (ds.map .int), .int (p : Int)], .fr (.int m), .no] (.nx [.own [.lst (ds.map .int), .int (p : Int)], .fr (.int m), .fr (.int (p : Int))]) :=
      ex_set (i := 2) (ev_ixO (i := 0) (k := 1) rfl ev_int rfl (by rfl)) (by decide)
    have s2 : ExZ K [0] (tAsg (tOp rAddI (tVar 2) (tC (.int 1))) (gSub (tVar 0) (tC (.int 1)) rSetL)) [.own [.lst (ds.map .int), .int (p : Int)], .fr (.int m), .fr (.int (p : Int))] (.nx [.own [.lst (ds.map .int), .int ((p : Int) + 1)], .fr (.int m), .fr (.int (p : Int))]) :=
      ex_setAt (i := 0) (k := 1) (j := 1) (ds := [.lst (ds.map .int), .int (p : Int)]) (ev_add (ev_var rfl) ev_int) ev_int rfl rfl (by rfl)
    have ht := ts_test (ev_lt (K := K) (ρ := [.own [.lst (ds.map .int), .int ((p : Int) + 1)], .fr (.int m), .fr (.int (p : Int))]) (ev_var (i := 2) rfl) (ev_lenL (ev_ixO (i := 0) (k := 0) rfl ev_int rfl (by rfl)).rd))
    by_cases h : p < ds.length
    · refine ⟨ds[p] % m, _, Int.emod_nonneg _ (by omega), Int.emod_lt_of_pos _ hm, rfl, ex_seq s1 (ex_seq s2 (ex_seqR (ex_ifT (ts_is ht ?_) (ex_ret (ev_mod (ev_toInt (ev_ixL (ev_ixO (i := 0) (k := 0) rfl ev_int rfl (by rfl)) (ev_var rfl) (at_nat (j := p) ?_))) (ev_var rfl) hm)))))⟩
      · rw [List.length_map]
        exact decide_eq_true (by omega)
      · rw [List.getElem?_map, List.getElem?_eq_getElem h]
        rfl
    · refine ⟨0, _, Int.le_refl 0, hm, rfl, ex_seq s1 (ex_seq s2 (ex_seq (ex_ifF (ts_is ht ?_) ex_next) (ex_ret ev_int)))⟩
      rw [List.length_map]
      exact decide_eq_false (by omega)
  obtain ⟨v, ρ2, h1, h2, h3, h4⟩ := key
  refine ⟨_, _, ⟨rfl, ρ2, .inl h4, fin_box (ds := [.int m]) (by decide) h3⟩, fun b m' e => ?_⟩
  cases e
  exact ⟨v, _, rfl, ⟨ds, p + 1, hn, hl, rfl⟩, h1, h2, rfl⟩
/-- a draw in a body: i the box's slot -/
theorem ev_draw {R : Rel} (hR : Spec R PreDraw PostDraw) {i : Nat} {ρ ρ1 : Rho} {te : TE} {b0 b : List D} {m : Int} (h0 : ρ[i]? = some (.own b0)) (h : EvZ K te ρ ρ1 (.int m)) (h1 : ρ1[i]? = some (.own b)) (hb : GoodBox b) (hm : 0 < m) :
    ∃ (v : Int) (b' : List D), 0 ≤ v ∧ v < m ∧ GoodBox b' ∧ EvZ K (tCall (SpZ K R) [] E0 (tCons (tVar i) (tCons te tNil))) ρ (ρ1.set i (.own b')) (.int v) := by
  obtain ⟨r, cs', hr, hp⟩ := hR _ ⟨b, m, rfl, hb, hm⟩
  obtain ⟨v, b', rfl, hb', h2, h3, rfl⟩ := hp b m rfl
  exact ⟨v, b', h2, h3, hb', ev_callB (ds := [.int m]) h0 (ag_cons h ag_nil) h1 hr⟩
end
end Z

set_option Elab.async false
set_option linter.all false
set_option maxRecDepth 100000
set_option maxHeartbeats 2000000
/-! LawB: _law_is_integer, _law_same, words, texts; the law k00. -/
namespace Z
open PySem PySem.Spec PyProof.Rows L2
open Evl (Ex Ex.refl Ex.trans Ex.new ex_rd ex_l ex_t sq_of st_of fresh_back sz_of sz_lt)
section
variable {K : PySem.W.Frag}
/-! ### _law_is_integer, _law_same -/
def isI : D → Bool
  | .int _ => true
  | _ => false
def PreInt (cs : List Cell) : Prop := ∃ d, cs = [.fr d] ∧ notIns d = true
def PostInt (cs : List Cell) (r : Cell) (cs' : List Cell) : Prop := cs' = cs ∧ ∀ d, cs = [.fr d] → r = .fr (.bl (isI d))
theorem sem_is_integer : Spec (RelOf K [] (t__law_is_integer K) 1 1) PreInt PostInt := by
  rintro _ ⟨d, rfl, hd⟩
  have key : ExZ K [] (t__law_is_integer K) [.fr d] (.rt [.fr d] (.fr (.bl (isI d)))) := by
    cases d with
    | non => exact ex_ret (ev_is (ev_andV (ev_isi (T := "int") (ev_var rfl) rfl) fun z => by cases z) rfl (d := .bl (false && false)))
    | bl b => exact ex_ret (ev_is (ev_andV (ev_isi (T := "int") (ev_var rfl) rfl) fun _ => ev_notV (ev_isi (T := "bool") (ev_var rfl) rfl)) rfl)
    | int i => exact ex_ret (ev_is (ev_andV (ev_isi (T := "int") (ev_var rfl) rfl) fun _ => ev_notV (ev_isi (T := "bool") (ev_var rfl) rfl)) rfl)
    | str x => exact ex_ret (ev_is (ev_andV (ev_isi (T := "int") (ev_var rfl) rfl) fun z => by cases z) rfl (d := .bl (false && false)))
    | lst l => exact ex_ret (ev_is (ev_andV (ev_isi (T := "int") (ev_var rfl) rfl) fun z => by cases z) rfl (d := .bl (false && false)))
    | tup l => exact ex_ret (ev_is (ev_andV (ev_isi (T := "int") (ev_var rfl) rfl) fun z => by cases z) rfl (d := .bl (false && false)))
    | dK l => exact ex_ret (ev_is (ev_andV (ev_isi (T := "int") (ev_var rfl) rfl) fun z => by cases z) rfl (d := .bl (false && false)))
    | dT l => exact ex_ret (ev_is (ev_andV (ev_isi (T := "int") (ev_var rfl) rfl) fun z => by cases z) rfl (d := .bl (false && false)))
    | ins C l => cases hd
    | rng _ _ => cases hd
    | tupf _ => cases hd
  exact ⟨_, _, ⟨rfl, _, .inl key, fin_fr (ds := [d])⟩, rfl, fun d' e => by cases e; rfl⟩
/-- data of tuples, texts, numbers, truth values, None, nested less than n deep -/
inductive Plain : Nat → D → Prop
  | non {n : Nat} : Plain (n + 1) .non
  | bl {n : Nat} (b : Bool) : Plain (n + 1) (.bl b)
  | int {n : Nat} (i : Int) : Plain (n + 1) (.int i)
  | str {n : Nat} (x : Str) : Plain (n + 1) (.str x)
  | tup {n : Nat} {ds : List D} : (∀ d ∈ ds, Plain n d) → ds.length ≤ 90000 → Plain (n + 1) (.tup ds)
def PreSame (n : Nat) (cs : List Cell) : Prop := ∃ d, cs = [.fr d, .fr d] ∧ Plain n d
def PostSame (cs : List Cell) (r : Cell) (cs' : List Cell) : Prop := cs' = cs ∧ r = .fr (.bl true)
theorem all_true {α : Type} (l : List α) : (l.map fun _ => true).all id = true := by
  induction l with
  | nil => rfl
  | cons a l ih => rw [List.map_cons, List.all_cons, ih]; rfl
theorem sem_same {Ri Rs : Rel} {n : Nat} (hi : Spec Ri PreInt PostInt) (hs : Spec Rs (PreSame n) PostSame) : Spec (RelOf K [] (t__law_same K Ri Rs) 3 2) (PreSame (n + 1)) PostSame := by
  rintro _ ⟨d, rfl, hd⟩
  have key : ∃ ρ2, ExZ K [] (t__law_same K Ri Rs) [.fr d, .fr d, .no] (.rt ρ2 (.fr (.bl true))) := by
    cases hd with
    | non =>
      exact ⟨_, ex_seq (ex_ifF (ts_B (ev_isi (T := "tuple") (ev_var rfl) rfl)) ex_next) (ex_seq (ex_ifF (ts_B (ev_isi (T := "bool") (ev_var rfl) rfl)) ex_next) (ex_seq (ex_ifF (ts_B (ev_isi (T := "int") (ev_var rfl) rfl)) ex_next)
        (ex_seq (ex_ifF (ts_B (ev_isi (T := "str") (ev_var rfl) rfl)) ex_next) (ex_ret (ev_is (ev_andV (ev_isN (ev_var rfl)) fun _ => ev_isN (ev_var rfl)) rfl)))))⟩
    | bl b =>
      exact ⟨_, ex_seq (ex_ifF (ts_B (ev_isi (T := "tuple") (ev_var rfl) rfl)) ex_next) (ex_seqR (ex_ifT (ts_B (ev_isi (T := "bool") (ev_var rfl) rfl)) (ex_ret (ev_is (ev_andV (ev_isi (T := "bool") (ev_var rfl) rfl) fun _ => ev_eqB (ev_var rfl) (ev_var rfl)) (by
        rw [decide_eq_true rfl]; rfl)))))⟩
    | int i =>
      obtain ⟨r, cs', hr, rfl, hv⟩ := hi _ ⟨.int i, rfl, rfl⟩
      obtain rfl := hv _ rfl
      exact ⟨_, ex_seq (ex_ifF (ts_B (ev_isi (T := "tuple") (ev_var rfl) rfl)) ex_next) (ex_seq (ex_ifF (ts_B (ev_isi (T := "bool") (ev_var rfl) rfl)) ex_next) (ex_seqR (ex_ifT (ts_B (ev_isi (T := "int") (ev_var rfl) rfl))
        (ex_ret (ev_is (ev_andV (ev_callF (ds := [.int i]) (ag_cons (ev_var rfl) ag_nil) hr) fun _ => ev_eqI (ev_var rfl) (ev_var rfl)) (by
        rw [decide_eq_true rfl]; rfl))))))⟩
    | str x =>
      exact ⟨_, ex_seq (ex_ifF (ts_B (ev_isi (T := "tuple") (ev_var rfl) rfl)) ex_next) (ex_seq (ex_ifF (ts_B (ev_isi (T := "bool") (ev_var rfl) rfl)) ex_next) (ex_seq (ex_ifF (ts_B (ev_isi (T := "int") (ev_var rfl) rfl)) ex_next)
        (ex_seqR (ex_ifT (ts_B (ev_isi (T := "str") (ev_var rfl) rfl)) (ex_ret (ev_is (ev_andV (ev_isi (T := "str") (ev_var rfl) rfl) fun _ => ev_eqS (ev_var rfl) (ev_var rfl)) (by
        rw [decide_eq_true rfl]; rfl)))))))⟩
    | @tup _ ds hds hl =>
      have hc : CompZ K (gName 2) tYes (e__law_same_1 K Ri Rs) [2] [2] (rangeD 0 ds.length) [.fr (.tup ds), .fr (.tup ds), .no] ((List.range ds.length).map fun _ => D.bl true) [.fr (.tup ds), .fr (.tup ds), .no] := by
        refine comp_mapA (K := K) (ρ := [.fr (.tup ds), .fr (.tup ds), .no]) (j := 2) (fun (i : Nat) => D.int (0 + (i : Int))) (fun _ => D.bl true) rfl (List.range ds.length) fun i hi' => ?_
        have hlt : i < ds.length := List.mem_range.mp hi'
        obtain ⟨r, cs', hr, rfl, rfl⟩ := hs _ ⟨ds[i], rfl, hds _ (List.getElem_mem hlt)⟩
        have ei : (0 : Int) + (i : Int) = (i : Int) := Int.zero_add _
        refine ev_callF (ds := [ds[i], ds[i]]) (ag_cons (ev_ixT (ev_var rfl) (ev_var rfl) (at_of ei (List.getElem?_eq_getElem hlt))) (ag_cons (ev_ixT (ev_var rfl) (ev_var rfl) (at_of ei (List.getElem?_eq_getElem hlt))) ag_nil)) hr
      refine ⟨[.fr (.tup ds), .fr (.tup ds), .no], ex_seqR (ex_ifT (ts_B (ev_isi (T := "tuple") (ev_var rfl) rfl)) (ex_seq (ex_ifF (ts_orF (ts_is (ts_not (b := true) (ts_B (ev_isi (T := "tuple") (ev_var rfl) rfl))) rfl) (ts_is (ts_test (ev_neI (ev_lenT (ev_var (ρ := [.fr (.tup ds), .fr (.tup ds), .no]) (i := 0) rfl).rd) (ev_lenT (ev_var (ρ := [.fr (.tup ds), .fr (.tup ds), .no]) (i := 1) rfl).rd))) ?_)) ex_next)
        (ex_ret (ev_is (ev_all (bs := (List.range ds.length).map fun _ => true) (EvN.rd ?_)) ?_))))⟩
      · rw [decide_eq_true rfl]; rfl
      · have h := en_lc (it_range1 (n := (ds.length : Int)) (ag_cons (ev_lenT (ev_var (ρ := [.fr (.tup ds), .fr (.tup ds), .no]) (i := 1) rfl).rd) ag_nil) ⟨by omega, by omega⟩) (ρ' := [.fr (.tup ds), .fr (.tup ds), .no]) (rs := (List.range ds.length).map fun _ => D.bl true) (A := [2]) (vs := [2]) (tt := tYes) (te := e__law_same_1 K Ri Rs) (g := gName 2)
          (by rw [Int.toNat_natCast]; exact hc) (by decide) (by rw [rangeD_len, Int.toNat_natCast]; omega)
        have e : ((List.range ds.length).map fun _ => true).map D.bl = (List.range ds.length).map fun _ => D.bl true := by rw [List.map_map]; rfl
        rw [e]
        exact h
      · rw [all_true]
  obtain ⟨ρ2, h⟩ := key
  exact ⟨_, _, ⟨rfl, ρ2, .inl h, fin_fr (ds := [d, d])⟩, rfl, rfl⟩
/-! ### words -/
end
end Z

set_option Elab.async false
set_option linter.all false
set_option maxRecDepth 100000
set_option maxHeartbeats 2000000
/-! LawC: _law_a_text; the law k00. -/
namespace Z
open PySem PySem.Spec PyProof.Rows L2
open Evl (Ex Ex.refl Ex.trans Ex.new ex_rd ex_l ex_t sq_of st_of fresh_back sz_of sz_lt)
section
variable {K : PySem.W.Frag}
theorem len_cat (a b : Str) : (a ++ b).length = a.length + b.length := PySem.Str.length_append a b
/-! ### the law -/
section
variable {Rt Rb Rw Rs Ri : Rel}
end
end
end Z

set_option Elab.async false
set_option linter.all false
set_option maxRecDepth 100000
set_option maxHeartbeats 2000000
/-! ZComp2: comprehensions with two for clauses. -/
namespace Z
open PySem PySem.Spec PyProof.Rows L2
open Evl (Ex Ex.refl Ex.trans Ex.new ex_rd ex_l ex_t sq_of st_of fresh_back sz_of sz_lt)
variable {K : PySem.W.Frag} {ρ ρ' ρ1 ρ2 ρ3 ρ4 ρ5 : Rho} {te : TE} {tt tt1 : TT} {g g1 : TG} {wi wi1 : TI} {ds rs : List D} {vs vs1 A A1 : List Nat}
inductive CompZ2 (K : PySem.W.Frag) (g : TG) (tt : TT) (wi1 : TI) (g1 : TG) (tt1 : TT) (te : TE) (vs vs1 A A1 : List Nat) (most : Nat) : List D → Rho → List D → Rho → Prop
  | nil {ρ : Rho} : CompZ2 K g tt wi1 g1 tt1 te vs vs1 A A1 most [] ρ [] ρ
  | step {ρ ρ1 ρ2 ρ3 ρ4 ρ5 : Rho} {d : D} {ds ds1 rs1 rs : List D} : TgZ K g A d ρ ρ1 → TsZ K tt ρ1 ρ2 true → ItZ K wi1 ρ2 ρ3 ds1 → ds1.length ≤ most → CompZ K g1 tt1 te vs1 A1 ds1 (wipeR ρ3 vs1) rs1 ρ4 →
      CompZ2 K g tt wi1 g1 tt1 te vs vs1 A A1 most ds (wipeR ρ4 vs) rs ρ5 → CompZ2 K g tt wi1 g1 tt1 te vs vs1 A A1 most (d :: ds) ρ (rs1 ++ rs) ρ5
/-- what stands between two items (σ the slots, rl to come, rd made, at Dl) -/
structure CW (K : PySem.W.Frag) (Next : Rho → List D → Prop) (M : MS) (G1 H1 : Hp) (Dl : Addr) (σ : L2.St) (rs : List D) (most : Nat) (H : Hp) : Prop where
  ex : ∃ G ρi rd rl vd, Grow (fun a => M a ∨ a = Dl) G1 H1 G H ∧ Sim K (fun a => M a ∧ a ≠ Dl) G H σ ρi ∧ Next ρi rl ∧ rd ++ rl = rs ∧ rd.length ≤ most ∧ G Dl = none ∧ H Dl = some (.lst vd) ∧ Dzs K G vd rd
end Z

set_option Elab.async false
set_option linter.all false
set_option maxRecDepth 100000
set_option maxHeartbeats 2000000
/-! ZEnum: for i, x in enumerate(t), t a tuple. -/
namespace Z
open PySem PySem.Spec PyProof.Rows L2
open Sem (wp)
end Z

set_option Elab.async false
set_option linter.all false
set_option maxRecDepth 100000
set_option maxHeartbeats 2000000
/-! ZTupD: tuple(d), d a dict whose keys are texts or ints. -/
namespace Z
open PySem PySem.Spec PyProof.Rows L2
section
variable {prog : Program} {w : World} {A : Around} {E : Value → Shared → Prop} {s : Shared} {r d : Addr} {n : Nat} {P : Nat → Value → Prop} {OK : Heap → Prop}
end
end Z

set_option Elab.async false
set_option linter.all false
set_option maxRecDepth 100000
set_option maxHeartbeats 2000000
/-! ZSeq: enumerate, zip, a star in a display, slices, conversions, join and split, over cells. -/
namespace Z
open PySem PySem.Spec PyProof.Rows L2
open Evl (Ex Ex.refl Ex.trans Ex.new ex_rd ex_l ex_t sq_of st_of fresh_back sz_of sz_lt)
variable {K : PySem.W.Frag} {ρ ρ' ρ1 ρ2 ρ3 : Rho} {ta tb te : TE} {tx : TA} {d e x y : D} {ds es xs ys : List D}
/-! ### enumerate, zip -/
/-! ### a star in a display -/
/-! ### conversions -/
abbrev rTupOf (K : PySem.W.Frag) : List V → Hp → VK → Prop := fun xs H Q => ∃ p ys, xs = [.ref p] ∧ ((SqL K H p ys ∧ ∀ l, H l = none → Q (.ref l) (upd H l (.tup ys))) ∨ (SqT K H p ys ∧ Q (.ref p) H))
/-- tuple(xs), xs a new list -/
theorem ev_tupN (h : EvN K te ρ ρ' ds) : EvZ K (tCB (rTupOf K) (tCons te tNil)) ρ ρ' (.tup ds) := fun M G H σ S Q q =>
  h M G H σ S _ fun p vs G1 H1 g1 s1 hp gp hp1 dz => ⟨p, vs, rfl, .inl ⟨sq_of hp1, fun l hl => q _ _ _ (g1.trans (.new hl s1.sub)) (s1.new hl) (.tup upd_same (dz.mono (Ex.new (fresh_back s1.sub hl))))⟩⟩
theorem ev_tupL (h : EvZ K te ρ ρ' (.lst ds)) : EvZ K (tCB (rTupOf K) (tCons te tNil)) ρ ρ' (.tup ds) := fun M G H σ S Q q =>
  h M G H σ S _ fun v G1 H1 g1 s1 dz => by
    obtain ⟨a, us, rfl, hs, hz⟩ := dz.lst_inv
    exact ⟨a, us, rfl, .inl ⟨ex_l s1.sub hs, fun l hl => q _ _ _ (g1.trans (.new hl s1.sub)) (s1.new hl) (.tup upd_same (hz.mono (Ex.new (fresh_back s1.sub hl))))⟩⟩
/-- the keys of a dict, in order -/
def keyD : Key → D
  | .inl i => .int i
  | .inr x => .str x
/-- keys other than the pair (0, 1) of the module's own -/
def NotZ (ks : List Key) : Prop := ks ≠ [Sum.inl 0, Sum.inl 1]
theorem NotZ.ne1 {ks : List Key} (h : NotZ ks) : ks.map keyD ≠ [.int 0, .int 1] := fun e => h (by
  match ks, e with
  | [.inl a, .inl b], e =>
    simp only [List.map_cons, List.map_nil, keyD, List.cons.injEq, D.int.injEq, and_true] at e
    rw [e.1, e.2]
  | [.inr a, .inl b], e => simp [keyD] at e
  | [.inl a, .inr b], e => simp [keyD] at e
  | [.inr a, .inr b], e => simp [keyD] at e)
theorem NotZ.ne {ks : List Key} (h : NotZ ks) : ks.map keyD ≠ [.int 0, .int 1] ∧ ¬ Heads (ks.map keyD) := ⟨h.ne1, by
  rintro ⟨es, r, e⟩
  cases ks with
  | nil => cases e
  | cons k ks =>
    rw [List.map_cons] at e
    injection e with e _
    cases k <;> cases e⟩
/-! ### slices -/
/-! ### texts and lists of texts -/
end Z

set_option Elab.async false
set_option linter.all false
set_option maxRecDepth 100000
set_option maxHeartbeats 2000000
/-! ZNum: great numbers (products, quotients of either sign, remainders), gcd, abs, max, texts of numbers, f-strings, while. -/
namespace Z
open PySem PySem.Spec PyProof.Rows L2
open Evl (Ex Ex.refl Ex.trans Ex.new ex_rd ex_l ex_t sq_of st_of fresh_back sz_of sz_lt)
variable {K : PySem.W.Frag} {S : List Nat} {ρ ρ' ρ1 ρ2 ρ3 : Rho} {ta tb tc te tl : TE} {tt tu : TT} {ts us : TS} {d e x y : D} {ds es xs ys rs : List D} {b c : Bool} {o : Out}
/-- // of any quotient, the divisor not 0 -/
def CDivZ (_ j : Int) : Prop := j ≠ 0 ∧ j.natAbs.log2 < 9000
theorem op_fdivZ {X : Cx} : OpR X (binaryOp .FloorDiv) (rI CDivZ fun i j => .int (i.fdiv j)) := opI fun i j _ _ _ _ _ hc q => floordiv_int hc.1 q (.inl (PyProof.noPylong_of_log2 hc.2))
abbrev rDivZ : R2 := rI CDivZ fun i j => .int (i.fdiv j)
abbrev rMulW : R2 := rI CMulW fun i j => .int (i * j)
theorem ev_fdivZ {i j : Int} (ha : EvZ K ta ρ ρ1 (.int i)) (hb : EvZ K tb ρ1 ρ2 (.int j)) (hc : CDivZ i j) : EvZ K (tOp rDivZ ta tb) ρ ρ2 (.int (i.fdiv j)) := ev_i ha hb hc fun _ => .int _
theorem ev_mulW {i j : Int} (ha : EvZ K ta ρ ρ1 (.int i)) (hb : EvZ K tb ρ1 ρ2 (.int j)) (hc : CMulW i j) : EvZ K (tOp rMulW ta tb) ρ ρ2 (.int (i * j)) := ev_i ha hb hc fun _ => .int _
theorem divz_of {i j : Int} {b : Nat} (h : j ≠ 0) (hb : j.natAbs < 2 ^ b) (h0 : 0 < b) (h9 : b ≤ 9000) : CDivZ i j := ⟨h, Nat.lt_of_lt_of_le (PySem.Flt.log2_lt_of h0 hb) h9⟩
/-- gcd, abs, max, -x -/
theorem ev_gcd {i j : Int} (ha : EvZ K ta ρ ρ1 (.int i)) (hb : EvZ K tb ρ1 ρ2 (.int j)) : EvZ K (tCB rGcd (tCons ta (tCons tb tNil))) ρ ρ2 (.int ((Nat.gcd i.natAbs j.natAbs : Nat) : Int)) := fun M G H σ S Q q =>
  ha M G H σ S _ fun u G1 H1 g1 s1 du => hb M G1 H1 σ s1 _ fun v G2 H2 g2 s2 dv => ⟨i, j, by rw [du.int_inv, dv.int_inv], q _ G2 H2 (g1.trans g2) s2 (.int _)⟩
abbrev rAbs : List V → Hp → VK → Prop := fun xs H Q => ∃ i, xs = [.int i] ∧ Q (.int (if i < 0 then -i else i)) H
theorem ev_abs {i : Int} (ha : EvZ K ta ρ ρ1 (.int i)) : EvZ K (tCB rAbs (tCons ta tNil)) ρ ρ1 (.int (i.natAbs : Int)) := fun M G H σ S Q q =>
  ha M G H σ S _ fun u G1 H1 g1 s1 du => ⟨i, by rw [du.int_inv], by
    have e : (if i < 0 then -i else i) = (i.natAbs : Int) := by split <;> omega
    rw [e]
    exact q _ G1 H1 g1 s1 (.int _)⟩
abbrev rMaxI : List V → Hp → VK → Prop := fun xs H Q => ∃ i j, xs = [.int i, .int j] ∧ Q (.int (if j > i then j else i)) H
theorem ev_maxI {i j : Int} (ha : EvZ K ta ρ ρ1 (.int i)) (hb : EvZ K tb ρ1 ρ2 (.int j)) : EvZ K (tCB rMaxI (tCons ta (tCons tb tNil))) ρ ρ2 (.int (max i j)) := fun M G H σ S Q q =>
  ha M G H σ S _ fun u G1 H1 g1 s1 du => hb M G1 H1 σ s1 _ fun v G2 H2 g2 s2 dv => ⟨i, j, by rw [du.int_inv, dv.int_inv], by
    have e : (if j > i then j else i) = max i j := by split <;> omega
    rw [e]
    exact q _ G2 H2 (g1.trans g2) s2 (.int _)⟩
theorem ev_negI {i : Int} (ha : EvZ K ta ρ ρ1 (.int i)) : EvZ K (tUn (rU fun i => .int (-i)) ta) ρ ρ1 (.int (-i)) := fun M G H σ S Q q =>
  ha M G H σ S _ fun u G1 H1 g1 s1 du => ⟨i, du.int_inv, q _ G1 H1 g1 s1 (.int _)⟩
/-- str(n) -/
abbrev rStrI : List V → Hp → VK → Prop := fun xs H Q => ∃ i, xs = [.int i] ∧ i.natAbs.log2 < 1920 ∧ Q (.str (toString i)) H
theorem ev_strI {i : Int} (ha : EvZ K ta ρ ρ1 (.int i)) (hl : i.natAbs.log2 < 1920) : EvZ K (tCB rStrI (tCons ta tNil)) ρ ρ1 (.str (toString i)) := fun M G H σ S Q q =>
  ha M G H σ S _ fun u G1 H1 g1 s1 du => ⟨i, by rw [du.int_inv], hl, q _ G1 H1 g1 s1 (.str _)⟩
/-- f-strings -/
theorem ev_fmtI {i : Int} (ha : EvZ K ta ρ ρ1 (.int i)) (hl : i.natAbs.log2 < 1920) : EvZ K (tFmt ta) ρ ρ1 (.str (toString i)) := fun M G H σ S Q q =>
  ha M G H σ S _ fun u G1 H1 g1 s1 du => .inr ⟨i, du.int_inv, hl, q _ G1 H1 g1 s1 (.str _)⟩
def JsZ (K : PySem.W.Frag) (ts : List TE) (ρ : Rho) (acc : Str) (ρ' : Rho) (z : Str) : Prop := ∀ M G H σ, Sim K M G H σ ρ → ∀ Q : Str → Hp → Prop, (∀ G' H', Grow M G H G' H' → Sim K M G' H' σ ρ' → Q z H') → tJs ts acc σ H Q
theorem js_nil {z : Str} : JsZ K [] ρ z ρ z := fun M G H σ S Q q => q G H .refl S
theorem js_cons {l : List TE} {acc y z : Str} (h : EvZ K te ρ ρ1 (.str y)) (hl : (acc ++ y).length ≤ 90000) (r : JsZ K l ρ1 (acc ++ y) ρ2 z) : JsZ K (te :: l) ρ acc ρ2 z := fun M G H σ S Q q =>
  h M G H σ S _ fun u G1 H1 g1 s1 du => ⟨y, du.str_inv, sz_of (by omega), r M G1 H1 σ s1 Q fun G2 H2 g2 s2 => q G2 H2 (g1.trans g2) s2⟩
abbrev tJoined (l : List TE) : TE := fun σ H Q => tJs l Str.empty σ H fun out H1 => Q (.str out) H1
theorem ev_joined {l : List TE} {z : Str} (h : JsZ K l ρ Str.empty ρ1 z) : EvZ K (tJoined l) ρ ρ1 (.str z) := fun M G H σ S Q q =>
  h M G H σ S _ fun G1 H1 g1 s1 => q _ G1 H1 g1 s1 (.str _)
/-! ### while -/
inductive WhileZ (K : PySem.W.Frag) (S : List Nat) (tt : TT) (tb : TS) : Nat → Rho → Out → Prop
  | stop {n : Nat} {ρ ρ1 : Rho} : TsZ K tt ρ ρ1 false → WhileZ K S tt tb n ρ (.nx ρ1)
  | step {n : Nat} {ρ ρ1 ρ2 : Rho} {o : Out} : TsZ K tt ρ ρ1 true → ExZ K S tb ρ1 (.nx ρ2) → WhileZ K S tt tb n ρ2 o → WhileZ K S tt tb (n + 1) ρ o
  | cont {n : Nat} {ρ ρ1 ρ2 : Rho} {o : Out} : TsZ K tt ρ ρ1 true → ExZ K S tb ρ1 (.ct ρ2) → WhileZ K S tt tb n ρ2 o → WhileZ K S tt tb (n + 1) ρ o
  | brk {n : Nat} {ρ ρ1 ρ2 : Rho} : TsZ K tt ρ ρ1 true → ExZ K S tb ρ1 (.bk ρ2) → WhileZ K S tt tb n ρ (.nx ρ2)
  | ret {n : Nat} {ρ ρ1 ρ2 : Rho} {c : Cell} : TsZ K tt ρ ρ1 true → ExZ K S tb ρ1 (.rt ρ2 c) → WhileZ K S tt tb n ρ (.rt ρ2 c)
theorem ex_while {n : Nat} (h : WhileZ K S tt ts n ρ o) : ExZ K S (tWhile tt ts) ρ o := fun M G H σ E f s q => by
  refine ⟨fun m σ' H' => ∃ Gi ρi, Grow M G H Gi H' ∧ Keep S σ σ' ∧ Sim K M Gi H' σ' ρi ∧ WhileZ K S tt ts m ρi o, ⟨n, G, ρ, .refl, .refl, s, h⟩, ?_⟩
  rintro m σi Hi ⟨Gi, ρi, gi, ki, si, li⟩
  cases li with
  | stop t1 =>
    refine t1 M Gi Hi σi si _ fun G1 H1 g1 s1 => ?_
    rw [if_neg Bool.false_ne_true]
    exact q G1 H1 σi (gi.trans g1) ki s1
  | step t1 t2 t3 =>
    refine t1 M Gi Hi σi si _ fun G1 H1 g1 s1 => ?_
    rw [if_pos rfl]
    exact ⟨fun σ' H' => ∃ Gi ρi, Grow M G H Gi H' ∧ Keep S σ σ' ∧ Sim K M Gi H' σ' ρi ∧ WhileZ K S tt ts _ ρi o, fun σ' H' w => ⟨_, Nat.lt_succ_self _, w⟩, t2 M G1 H1 σi _ (f.grow (gi.trans g1)) s1 fun G3 H3 σ3 g3 k3 s3 => ⟨G3, _, (gi.trans g1).trans g3, ki.trans k3, s3, t3⟩⟩
  | cont t1 t2 t3 =>
    refine t1 M Gi Hi σi si _ fun G1 H1 g1 s1 => ?_
    rw [if_pos rfl]
    exact ⟨fun σ' H' => ∃ Gi ρi, Grow M G H Gi H' ∧ Keep S σ σ' ∧ Sim K M Gi H' σ' ρi ∧ WhileZ K S tt ts _ ρi o, fun σ' H' w => ⟨_, Nat.lt_succ_self _, w⟩, t2 M G1 H1 σi _ (f.grow (gi.trans g1)) s1 fun G3 H3 σ3 g3 k3 s3 => ⟨G3, _, (gi.trans g1).trans g3, ki.trans k3, s3, t3⟩⟩
  | brk t1 t2 =>
    refine t1 M Gi Hi σi si _ fun G1 H1 g1 s1 => ?_
    rw [if_pos rfl]
    exact ⟨fun _ _ => False, fun σ' H' w => w.elim, t2 M G1 H1 σi _ (f.grow (gi.trans g1)) s1 fun G3 H3 σ3 g3 k3 s3 => q G3 H3 σ3 ((gi.trans g1).trans g3) (ki.trans k3) s3⟩
  | ret t1 t2 =>
    refine t1 M Gi Hi σi si _ fun G1 H1 g1 s1 => ?_
    rw [if_pos rfl]
    exact ⟨fun _ _ => False, fun σ' H' w => w.elim, t2 M G1 H1 σi _ (f.grow (gi.trans g1)) s1 fun v G3 H3 σ3 g3 k3 s3 r3 => q v G3 H3 σ3 ((gi.trans g1).trans g3) (ki.trans k3) s3 r3⟩
end Z

set_option Elab.async false
set_option linter.all false
set_option maxRecDepth 100000
set_option maxHeartbeats 2000000
/-! LawN: numbers that laws draw; gcd; fractions. -/
namespace Z
open PySem PySem.Spec PyProof.Rows L2
open Evl (Ex Ex.refl Ex.trans Ex.new ex_rd ex_l ex_t sq_of st_of fresh_back sz_of sz_lt)
def b__law_number_1 (K : PySem.W.Frag) (R__law_draw : Rel) : TS :=
  (tAsg (tOp rAddI (tOp rMulI (tVar 2) (tC (.int 1000))) (tCall (SpZ K R__law_draw) [] E0 (tCons (tVar 0) (tCons (tC (.int 1000)) tNil)))) (gName 2))
def t__law_number (K : PySem.W.Frag) (R__law_draw : Rel) : TS :=
  (tSeq (tAsg (tC (.int 0)) (gName 2))
      (tSeq (tFor (iRng1 (tCons (tOp rAddI (tC (.int 1)) (tCall (SpZ K R__law_draw) [] E0 (tCons (tVar 0) (tCons (tC (.int 4)) tNil)))) tNil)) (gName 3) (b__law_number_1 K R__law_draw))
      (tSeq (tIfS (tTest (tOp rEq (tCall (SpZ K R__law_draw) [] E0 (tCons (tVar 0) (tCons (tC (.int 2)) tNil))) (tC (.int 0)))) (tRet (tOp rModI (tCB rToInt (tCons (tVar 2) tNil)) (tOp rAddI (tVar 1) (tC (.int 1))))) tNext)
      (tRet (tUn (rU fun i => .int (-i)) (tOp rModI (tCB rToInt (tCons (tVar 2) tNil)) (tOp rAddI (tVar 1) (tC (.int 1)))))))))

def b__law_gcd_1 (K : PySem.W.Frag) : TS :=
  (tSeq (tAsg (tOp rModI (tCB rToInt (tCons (tVar 0) tNil)) (tVar 1)) (gName 2))
      (tSeq (tAsg (tVar 1) (gName 0))
      (tAsg (tVar 2) (gName 1))))
def t__law_gcd (K : PySem.W.Frag) : TS :=
  (tSeq (tAsg (tCB rAbs (tCons (tVar 0) tNil)) (gName 0))
      (tSeq (tAsg (tCB rAbs (tCons (tVar 1) tNil)) (gName 1))
      (tSeq (tWhile (tTest (tOp rGtI (tVar 1) (tC (.int 0)))) (b__law_gcd_1 K))
      (tRet (tVar 0)))))

def t__law_fraction (K : PySem.W.Frag) (R__law_gcd : Rel) : TS :=
  (tSeq (tIfS (tTest (tOp rLtI (tVar 1) (tC (.int 0)))) (tSeq (tAsg (tUn (rU fun i => .int (-i)) (tVar 0)) (gName 0))
      (tAsg (tUn (rU fun i => .int (-i)) (tVar 1)) (gName 1))) tNext)
      (tSeq (tAsg (tCB rMaxI (tCons (tCall (SpZ K R__law_gcd) [] E0 (tCons (tVar 0) (tCons (tVar 1) tNil))) (tCons (tC (.int 1)) tNil))) (gName 2))
      (tRet (tTup (tCons (tOp rDivZ (tVar 0) (tVar 2)) (tCons (tCB rMaxI (tCons (tOp rDivZ (tVar 1) (tVar 2)) (tCons (tC (.int 1)) tNil))) tNil))))))

def t_fraction (K : PySem.W.Frag) : TS :=
  (tSeq (tAsg (tCB rGcd (tCons (tVar 0) (tCons (tVar 1) tNil))) (gName 2))
      (tSeq (tIfS (tTest (tOp rLtI (tVar 1) (tC (.int 0)))) (tAsg (tUn (rU fun i => .int (-i)) (tVar 2)) (gName 2)) tNext)
      (tRet (tTup (tCons (tOp rDivZ (tVar 0) (tVar 2)) (tCons (tOp rDivZ (tVar 1) (tVar 2)) tNil))))))

def t_plus (K : PySem.W.Frag) (R_fraction : Rel) : TS :=
  (tRet (tCall (SpZ K R_fraction) [] E0 (tCons (tOp rAddI (tOp rMulW (tOp (rIx K) (tVar 0) (tC (.int 0))) (tOp (rIx K) (tVar 1) (tC (.int 1)))) (tOp rMulW (tOp (rIx K) (tVar 1) (tC (.int 0))) (tOp (rIx K) (tVar 0) (tC (.int 1))))) (tCons (tOp rMulW (tOp (rIx K) (tVar 0) (tC (.int 1))) (tOp (rIx K) (tVar 1) (tC (.int 1)))) tNil))))

def t_minus (K : PySem.W.Frag) (R_fraction : Rel) : TS :=
  (tRet (tCall (SpZ K R_fraction) [] E0 (tCons (tOp rSubI (tOp rMulW (tOp (rIx K) (tVar 0) (tC (.int 0))) (tOp (rIx K) (tVar 1) (tC (.int 1)))) (tOp rMulW (tOp (rIx K) (tVar 1) (tC (.int 0))) (tOp (rIx K) (tVar 0) (tC (.int 1))))) (tCons (tOp rMulW (tOp (rIx K) (tVar 0) (tC (.int 1))) (tOp (rIx K) (tVar 1) (tC (.int 1)))) tNil))))

def t_times (K : PySem.W.Frag) (R_fraction : Rel) : TS :=
  (tRet (tCall (SpZ K R_fraction) [] E0 (tCons (tOp rMulW (tOp (rIx K) (tVar 0) (tC (.int 0))) (tOp (rIx K) (tVar 1) (tC (.int 0)))) (tCons (tOp rMulW (tOp (rIx K) (tVar 0) (tC (.int 1))) (tOp (rIx K) (tVar 1) (tC (.int 1)))) tNil))))

def t_over (K : PySem.W.Frag) (R_fraction : Rel) : TS :=
  (tRet (tCall (SpZ K R_fraction) [] E0 (tCons (tOp rMulW (tOp (rIx K) (tVar 0) (tC (.int 0))) (tOp (rIx K) (tVar 1) (tC (.int 1)))) (tCons (tOp rMulW (tOp (rIx K) (tVar 0) (tC (.int 1))) (tOp (rIx K) (tVar 1) (tC (.int 0)))) tNil))))

def t_below (K : PySem.W.Frag) : TS :=
  (tRet (tOp rLtI (tOp rMulW (tOp (rIx K) (tVar 0) (tC (.int 0))) (tOp (rIx K) (tVar 1) (tC (.int 1)))) (tOp rMulW (tOp (rIx K) (tVar 1) (tC (.int 0))) (tOp (rIx K) (tVar 0) (tC (.int 1))))))

section
variable {K : PySem.W.Frag}
/-! ### sizes -/
def Bd (n : Nat) (i : Int) : Prop := i.natAbs < 2 ^ n
theorem Bd.mul {a b : Nat} {i j : Int} (h : Bd a i) (k : Bd b j) : Bd (a + b) (i * j) := wide_lt h k
theorem Bd.mono {a b : Nat} {i : Int} (h : Bd a i) (hab : a ≤ b) : Bd b i := Nat.lt_of_lt_of_le h (Nat.pow_le_pow_right (by decide) hab)
theorem Bd.le {a : Nat} {i j : Int} (h : Bd a i) (hj : j.natAbs ≤ i.natAbs) : Bd a j := Nat.lt_of_le_of_lt hj h
theorem Bd.add {a : Nat} {i j : Int} (h : Bd a i) (k : Bd a j) : Bd (a + 1) (i + j) := by
  unfold Bd at *
  rw [Nat.pow_succ]
  have := Int.natAbs_add_le i j
  omega
theorem Bd.sub {a : Nat} {i j : Int} (h : Bd a i) (k : Bd a j) : Bd (a + 1) (i - j) := by
  have e : i - j = i + -j := by omega
  rw [e]
  exact h.add (by unfold Bd; rw [Int.natAbs_neg]; exact k)
theorem Bd.mulOk {a b : Nat} {i j : Int} (h : Bd a i) (k : Bd b j) (ha : 0 < a) (hb : 0 < b) (hl : a + b ≤ 1000000) : CMulW i j := wide_mul h k ha hb hl
/-! ### fractions -/
def sgT (t b : Int) : Int := if b < 0 then -t else t
def gcI (t b : Int) : Int := (Nat.gcd t.natAbs b.natAbs : Nat)
/-- in lowest terms, the lower part at least 1 -/
def FR (t b : Int) : Int × Int := ((sgT t b).fdiv (gcI t b), (sgT b b).fdiv (gcI t b))
def frD (p : Int × Int) : D := .tup [.int p.1, .int p.2]
theorem gcI_pos {t b : Int} (h : b ≠ 0) : 0 < gcI t b := by
  unfold gcI
  have : 0 < Nat.gcd t.natAbs b.natAbs := Nat.gcd_pos_of_pos_right _ (by omega)
  omega
theorem gcI_dvd_l (t b : Int) : gcI t b ∣ t := by
  have h : ((Nat.gcd t.natAbs b.natAbs : Nat) : Int) ∣ (t.natAbs : Int) := Int.natCast_dvd_natCast.mpr (Nat.gcd_dvd_left _ _)
  exact Int.dvd_natAbs.mp h
theorem gcI_dvd_r (t b : Int) : gcI t b ∣ b := by
  have h : ((Nat.gcd t.natAbs b.natAbs : Nat) : Int) ∣ (b.natAbs : Int) := Int.natCast_dvd_natCast.mpr (Nat.gcd_dvd_right _ _)
  exact Int.dvd_natAbs.mp h
theorem sgT_abs (t b : Int) : (sgT t b).natAbs = t.natAbs := by unfold sgT; split <;> omega
theorem sgT_dvd {g t b : Int} (h : g ∣ t) : g ∣ sgT t b := by
  unfold sgT
  split
  · exact (Int.dvd_neg).mpr h
  · exact h
theorem FR_mul1 {t b : Int} (h : b ≠ 0) : (FR t b).1 * gcI t b = sgT t b := by
  show (sgT t b).fdiv (gcI t b) * gcI t b = _
  rw [Int.fdiv_eq_ediv_of_nonneg _ (Int.le_of_lt (gcI_pos h))]
  exact Int.ediv_mul_cancel (sgT_dvd (gcI_dvd_l t b))
theorem FR_mul2 {t b : Int} (h : b ≠ 0) : (FR t b).2 * gcI t b = sgT b b := by
  show (sgT b b).fdiv (gcI t b) * gcI t b = _
  rw [Int.fdiv_eq_ediv_of_nonneg _ (Int.le_of_lt (gcI_pos h))]
  exact Int.ediv_mul_cancel (sgT_dvd (gcI_dvd_r t b))
theorem natAbs_le_mul {x g y : Int} (h : x * g = y) (hg : 0 < g) : x.natAbs ≤ y.natAbs := by
  rw [← h, Int.natAbs_mul]
  have : 1 ≤ g.natAbs := by omega
  exact Nat.le_mul_of_pos_right _ this
theorem FR_pos {t b : Int} (h : b ≠ 0) : 1 ≤ (FR t b).2 := by
  have e := FR_mul2 (t := t) h
  have g := gcI_pos (t := t) h
  have s : 0 < sgT b b := by unfold sgT; split <;> omega
  rw [← e] at s
  have := Int.pos_of_mul_pos_left s g
  omega
theorem gcI_bd {n : Nat} {t b : Int} (h : b ≠ 0) (hb : Bd n b) : Bd n (gcI t b) := hb.le (by
  unfold gcI
  rw [Int.natAbs_natCast]
  exact Nat.le_of_dvd (by omega) (Nat.gcd_dvd_right _ _))
/-! ### fraction -/
def CFr (R : Rel) : Prop := ∀ t b : Int, b ≠ 0 → Bd 8000 b → R [.fr (.int t), .fr (.int b)] (.fr (frD (FR t b))) [.fr (.int t), .fr (.int b)]
theorem rel_fraction : CFr (RelOf K [] (t_fraction K) 3 2) := by
  intro t b hb hB
  have hg := gcI_pos (t := t) hb
  have hgB : Bd 8000 (gcI t b) := gcI_bd hb hB
  refine ⟨rfl, ?_⟩
  have s1 : ExZ K [] (tAsg (tCB rGcd (tCons (tVar 0) (tCons (tVar 1) tNil))) (gName 2)) [.fr (.int t), .fr (.int b), .no] (.nx [.fr (.int t), .fr (.int b), .fr (.int (gcI t b))]) := ex_set (i := 2) (ev_gcd (ev_var rfl) (ev_var rfl)) (by decide)
  have ht := ts_test (ev_lt (K := K) (ρ := [.fr (.int t), .fr (.int b), .fr (.int (gcI t b))]) (ev_var (i := 1) rfl) (ev_int (i := 0)))
  by_cases h : b < 0
  · refine ⟨_, .inl (ex_seq s1 (ex_seq (ex_ifT (ts_is ht (decide_eq_true h)) (ex_set (i := 2) (ev_negI (ev_var rfl)) (by decide))) (ex_ret (ev_is (ev_tup (ag_cons (ev_fdivZ (ev_var (i := 0) rfl) (ev_var (i := 2) rfl) (divz_of (b := 8000) (by omega) ?_ (by decide) (by decide))) (ag_cons (ev_fdivZ (ev_var (i := 1) rfl) (ev_var (i := 2) rfl) (divz_of (b := 8000) (by omega) ?_ (by decide) (by decide))) ag_nil)) (by show 2 ≤ 100000; decide)) ?_)))), fin_fr (ds := [.int t, .int b])⟩
    · rw [Int.natAbs_neg]; exact hgB
    · rw [Int.natAbs_neg]; exact hgB
    · unfold frD FR sgT
      rw [if_pos h, if_pos h, ← Int.neg_fdiv_neg (-t), ← Int.neg_fdiv_neg (-b), Int.neg_neg, Int.neg_neg]
  · refine ⟨_, .inl (ex_seq s1 (ex_seq (ex_ifF (ts_is ht (decide_eq_false h)) ex_next) (ex_ret (ev_is (ev_tup (ag_cons (ev_fdivZ (ev_var (i := 0) rfl) (ev_var (i := 2) rfl) (divz_of (b := 8000) (by omega) hgB (by decide) (by decide))) (ag_cons (ev_fdivZ (ev_var (i := 1) rfl) (ev_var (i := 2) rfl) (divz_of (b := 8000) (by omega) hgB (by decide) (by decide))) ag_nil)) (by show 2 ≤ 100000; decide)) ?_)))), fin_fr (ds := [.int t, .int b])⟩
    unfold frD FR sgT
    rw [if_neg h, if_neg h]
/-! ### _law_gcd -/
def CGcd (R : Rel) : Prop := ∀ t b : Int, R [.fr (.int t), .fr (.int b)] (.fr (.int (gcI t b))) [.fr (.int t), .fr (.int b)]
theorem gcd_while : ∀ (n : Nat) (a c : Nat) (rv : Cell), c < n → ∃ rv', WhileZ K [] (tTest (tOp rGtI (tVar 1) (tC (.int 0)))) (b__law_gcd_1 K) n [.fr (.int (a : Int)), .fr (.int (c : Int)), rv] (.nx [.fr (.int ((Nat.gcd a c : Nat) : Int)), .fr (.int 0), rv'])
  | 0, a, c, rv, h => absurd h (Nat.not_lt_zero _)
  | n + 1, a, c, rv, h => by
    have ht := ts_test (ev_gt (K := K) (ρ := [.fr (.int (a : Int)), .fr (.int (c : Int)), rv]) (ev_var (i := 1) rfl) (ev_int (i := 0)))
    by_cases hc : c = 0
    · subst hc
      refine ⟨rv, ?_⟩
      rw [Nat.gcd_zero_right]
      exact .stop (ts_is ht (decide_eq_false (by omega)))
    · have hpos : 0 < c := Nat.pos_of_ne_zero hc
      obtain ⟨rv', lp⟩ := gcd_while n c (a % c) (.fr (.int ((a % c : Nat) : Int))) (by have := Nat.mod_lt a hpos; omega)
      have eg : Nat.gcd a c = Nat.gcd c (a % c) := by
        rw [Nat.gcd_comm a c, Nat.gcd_rec c a, Nat.gcd_comm]
      rw [eg]
      refine ⟨rv', .step (ts_is ht (decide_eq_true (by omega))) (ex_seq (ex_set (i := 2) (ev_is (ev_mod (ev_toInt (ev_var rfl)) (ev_var (i := 1) rfl) (by omega)) (e := .int ((a % c : Nat) : Int)) rfl) (by decide)) (ex_seq (ex_set (i := 0) (ev_var (i := 1) rfl) (by decide)) (ex_set (i := 1) (ev_var (i := 2) rfl) (by decide)))) lp⟩
theorem rel_gcd : CGcd (RelOf K [] (t__law_gcd K) 3 2) := by
  intro t b
  refine ⟨rfl, ?_⟩
  obtain ⟨rv, lp⟩ := gcd_while (K := K) (b.natAbs + 1) t.natAbs b.natAbs .no (Nat.lt_succ_self _)
  exact ⟨_, .inl (ex_seq (ex_set (i := 0) (ev_abs (ev_var rfl)) (by decide)) (ex_seq (ex_set (i := 1) (ev_abs (ev_var rfl)) (by decide)) (ex_seq (ex_while lp) (ex_ret (ev_var rfl))))), fin_fr (ds := [.int t, .int b])⟩
/-! ### _law_fraction -/
theorem rel_law_fraction {Rg : Rel} (hg : CGcd Rg) : CFr (RelOf K [] (t__law_fraction K Rg) 3 2) := by
  intro t b hb hB
  refine ⟨rfl, ?_⟩
  have hgp := gcI_pos (t := t) hb
  have hgB : Bd 8000 (gcI t b) := gcI_bd hb hB
  have egs : gcI (sgT t b) (sgT b b) = gcI t b := by unfold gcI; rw [sgT_abs, sgT_abs]
  have ht := ts_test (ev_lt (K := K) (ρ := [.fr (.int t), .fr (.int b), .no]) (ev_var (i := 1) rfl) (ev_int (i := 0)))
  have s1 : ExZ K [] (tIfS (tTest (tOp rLtI (tVar 1) (tC (.int 0)))) (tSeq (tAsg (tUn (rU fun i => .int (-i)) (tVar 0)) (gName 0)) (tAsg (tUn (rU fun i => .int (-i)) (tVar 1)) (gName 1))) tNext) [.fr (.int t), .fr (.int b), .no] (.nx [.fr (.int (sgT t b)), .fr (.int (sgT b b)), .no]) := by
    by_cases h : b < 0
    · refine ex_ifT (ts_is ht (decide_eq_true h)) (ex_seq (ex_set (i := 0) (ev_is (ev_negI (ev_var rfl)) (e := .int (sgT t b)) ?_) (by decide)) (ex_set (i := 1) (ev_is (ev_negI (ev_var rfl)) (e := .int (sgT b b)) ?_) (by decide)))
      · unfold sgT; rw [if_pos h]
      · unfold sgT; rw [if_pos h]
    · have e1 : sgT t b = t := by unfold sgT; rw [if_neg h]
      have e2 : sgT b b = b := by unfold sgT; rw [if_neg h]
      rw [e1, e2]
      exact ex_ifF (ts_is ht (decide_eq_false h)) ex_next
  have hc : EvZ K (tCall (SpZ K Rg) [] E0 (tCons (tVar 0) (tCons (tVar 1) tNil))) [.fr (.int (sgT t b)), .fr (.int (sgT b b)), .no] [.fr (.int (sgT t b)), .fr (.int (sgT b b)), .no] (.int (gcI t b)) := by
    have q := hg (sgT t b) (sgT b b)
    rw [egs] at q
    exact ev_callF (ds := [.int (sgT t b), .int (sgT b b)]) (ag_cons (ev_var rfl) (ag_cons (ev_var rfl) ag_nil)) q
  refine ⟨_, .inl (ex_seq s1 (ex_seq (ex_set (i := 2) (ev_is (ev_maxI hc (ev_int (i := 1))) (e := .int (gcI t b)) ?_) (by decide)) (ex_ret (ev_is (ev_tup (ag_cons (ev_fdivZ (ev_var (i := 0) rfl) (ev_var (i := 2) rfl) (divz_of (b := 8000) (by omega) hgB (by decide) (by decide))) (ag_cons (ev_maxI (ev_fdivZ (ev_var (i := 1) rfl) (ev_var (i := 2) rfl) (divz_of (b := 8000) (by omega) hgB (by decide) (by decide))) (ev_int (i := 1))) ag_nil)) (by show 2 ≤ 100000; decide)) ?_)))), fin_fr (ds := [.int t, .int b])⟩
  · have : max (gcI t b) 1 = gcI t b := by omega
    rw [this]
  · have h2 := FR_pos (t := t) hb
    have e : max ((sgT b b).fdiv (gcI t b)) 1 = (FR t b).2 := by
      have : (FR t b).2 = (sgT b b).fdiv (gcI t b) := rfl
      rw [this] at h2 ⊢
      omega
    rw [e]
    rfl
/-! ### plus, minus, times, over, below -/
def CPlus (R : Rel) : Prop := ∀ p q : Int × Int, p.2 ≠ 0 → q.2 ≠ 0 → Bd 4000 p.1 → Bd 4000 p.2 → Bd 4000 q.1 → Bd 4000 q.2 → R [.fr (frD p), .fr (frD q)] (.fr (frD (FR (p.1 * q.2 + q.1 * p.2) (p.2 * q.2)))) [.fr (frD p), .fr (frD q)]
def CMinus (R : Rel) : Prop := ∀ p q : Int × Int, p.2 ≠ 0 → q.2 ≠ 0 → Bd 4000 p.1 → Bd 4000 p.2 → Bd 4000 q.1 → Bd 4000 q.2 → R [.fr (frD p), .fr (frD q)] (.fr (frD (FR (p.1 * q.2 - q.1 * p.2) (p.2 * q.2)))) [.fr (frD p), .fr (frD q)]
def CTimes (R : Rel) : Prop := ∀ p q : Int × Int, p.2 ≠ 0 → q.2 ≠ 0 → Bd 4000 p.1 → Bd 4000 p.2 → Bd 4000 q.1 → Bd 4000 q.2 → R [.fr (frD p), .fr (frD q)] (.fr (frD (FR (p.1 * q.1) (p.2 * q.2)))) [.fr (frD p), .fr (frD q)]
def COver (R : Rel) : Prop := ∀ p q : Int × Int, p.2 ≠ 0 → q.1 ≠ 0 → Bd 4000 p.1 → Bd 4000 p.2 → Bd 4000 q.1 → Bd 4000 q.2 → R [.fr (frD p), .fr (frD q)] (.fr (frD (FR (p.1 * q.2) (p.2 * q.1)))) [.fr (frD p), .fr (frD q)]
def CBelow (R : Rel) : Prop := ∀ p q : Int × Int, Bd 4000 p.1 → Bd 4000 p.2 → Bd 4000 q.1 → Bd 4000 q.2 → R [.fr (frD p), .fr (frD q)] (.fr (.bl (decide (p.1 * q.2 < q.1 * p.2)))) [.fr (frD p), .fr (frD q)]
theorem ev_fr1 {ρ : Rho} {i : Nat} {p : Int × Int} (h : ρ[i]? = some (.fr (frD p))) : EvZ K (tOp (rIx K) (tVar i) (tC (.int 0))) ρ ρ (.int p.1) := ev_ixT (ev_var h) ev_int (by rfl)
theorem ev_fr2 {ρ : Rho} {i : Nat} {p : Int × Int} (h : ρ[i]? = some (.fr (frD p))) : EvZ K (tOp (rIx K) (tVar i) (tC (.int 1))) ρ ρ (.int p.2) := ev_ixT (ev_var h) ev_int (by rfl)
theorem mok {i j : Int} (h : Bd 4000 i) (k : Bd 4000 j) : CMulW i j := h.mulOk k (by decide) (by decide) (by decide)
theorem mbd {i j : Int} (h : Bd 4000 i) (k : Bd 4000 j) : Bd 8000 (i * j) := (h.mul k).mono (by decide)
section
variable {Rf : Rel} (hf : CFr Rf)
include hf
theorem rel_plus : CPlus (RelOf K [] (t_plus K Rf) 2 2) := by
  intro p q hp hq b1 b2 b3 b4
  exact ⟨rfl, _, .inl (ex_ret (ev_callF (ds := [.int (p.1 * q.2 + q.1 * p.2), .int (p.2 * q.2)]) (ag_cons (ev_add (ev_mulW (ev_fr1 (p := p) (i := 0) rfl) (ev_fr2 (p := q) (i := 1) rfl) (mok b1 b4)) (ev_mulW (ev_fr1 (p := q) (i := 1) rfl) (ev_fr2 (p := p) (i := 0) rfl) (mok b3 b2))) (ag_cons (ev_mulW (ev_fr2 (p := p) (i := 0) rfl) (ev_fr2 (p := q) (i := 1) rfl) (mok b2 b4)) ag_nil)) (hf _ _ (Int.mul_ne_zero hp hq) (mbd b2 b4)))), fin_fr (ds := [frD p, frD q])⟩
theorem rel_minus : CMinus (RelOf K [] (t_minus K Rf) 2 2) := by
  intro p q hp hq b1 b2 b3 b4
  exact ⟨rfl, _, .inl (ex_ret (ev_callF (ds := [.int (p.1 * q.2 - q.1 * p.2), .int (p.2 * q.2)]) (ag_cons (ev_sub (ev_mulW (ev_fr1 (p := p) (i := 0) rfl) (ev_fr2 (p := q) (i := 1) rfl) (mok b1 b4)) (ev_mulW (ev_fr1 (p := q) (i := 1) rfl) (ev_fr2 (p := p) (i := 0) rfl) (mok b3 b2))) (ag_cons (ev_mulW (ev_fr2 (p := p) (i := 0) rfl) (ev_fr2 (p := q) (i := 1) rfl) (mok b2 b4)) ag_nil)) (hf _ _ (Int.mul_ne_zero hp hq) (mbd b2 b4)))), fin_fr (ds := [frD p, frD q])⟩
theorem rel_times : CTimes (RelOf K [] (t_times K Rf) 2 2) := by
  intro p q hp hq b1 b2 b3 b4
  exact ⟨rfl, _, .inl (ex_ret (ev_callF (ds := [.int (p.1 * q.1), .int (p.2 * q.2)]) (ag_cons (ev_mulW (ev_fr1 (p := p) (i := 0) rfl) (ev_fr1 (p := q) (i := 1) rfl) (mok b1 b3)) (ag_cons (ev_mulW (ev_fr2 (p := p) (i := 0) rfl) (ev_fr2 (p := q) (i := 1) rfl) (mok b2 b4)) ag_nil)) (hf _ _ (Int.mul_ne_zero hp hq) (mbd b2 b4)))), fin_fr (ds := [frD p, frD q])⟩
theorem rel_over : COver (RelOf K [] (t_over K Rf) 2 2) := by
  intro p q hp hq b1 b2 b3 b4
  exact ⟨rfl, _, .inl (ex_ret (ev_callF (ds := [.int (p.1 * q.2), .int (p.2 * q.1)]) (ag_cons (ev_mulW (ev_fr1 (p := p) (i := 0) rfl) (ev_fr2 (p := q) (i := 1) rfl) (mok b1 b4)) (ag_cons (ev_mulW (ev_fr2 (p := p) (i := 0) rfl) (ev_fr1 (p := q) (i := 1) rfl) (mok b2 b3)) ag_nil)) (hf _ _ (Int.mul_ne_zero hp hq) (mbd b2 b3)))), fin_fr (ds := [frD p, frD q])⟩
end
theorem rel_below : CBelow (RelOf K [] (t_below K) 2 2) := by
  intro p q b1 b2 b3 b4
  exact ⟨rfl, _, .inl (ex_ret (ev_lt (ev_mulW (ev_fr1 (p := p) (i := 0) rfl) (ev_fr2 (p := q) (i := 1) rfl) (mok b1 b4)) (ev_mulW (ev_fr1 (p := q) (i := 1) rfl) (ev_fr2 (p := p) (i := 0) rfl) (mok b3 b2)))), fin_fr (ds := [frD p, frD q])⟩
/-! ### _law_number -/
def CNumb (R : Rel) : Prop := ∀ (b : List D) (m : Int), GoodBox b → 0 ≤ m → ∃ (v : Int) (b' : List D), GoodBox b' ∧ -m ≤ v ∧ v ≤ m ∧ R [.own b, .fr (.int m)] (.fr (.int v)) [.own b', .fr (.int m)]
theorem num_loop {Rd : Rel} (hd : Spec Rd PreDraw PostDraw) (mm : Int) : ∀ (n m : Nat) (f : Int) (b : List D) (tv : Cell), GoodBox b → ∃ (f' : Int) (b' : List D) (tv' : Cell), GoodBox b' ∧
    LoopZ K [0] (gName 3) (b__law_number_1 K Rd) [3] (rangeD (m : Int) n) [.own b, .fr (.int mm), .fr (.int f), tv] (.nx [.own b', .fr (.int mm), .fr (.int f'), tv'])
  | 0, m, f, b, tv, hb => ⟨f, b, tv, hb, .nil⟩
  | n + 1, m, f, b, tv, hb => by
    rw [rangeD_cons]
    obtain ⟨v, b1, h0, h1, hb1, he⟩ := ev_draw (K := K) hd (i := 0) (ρ := [.own b, .fr (.int mm), .fr (.int f), .fr (.int (m : Int))]) rfl (ev_int (i := 1000)) rfl hb (by decide)
    obtain ⟨f', b', tv', g1, g2⟩ := num_loop hd mm n (m + 1) (f * 1000 + v) b1 (.fr (.int (m : Int))) hb1
    exact ⟨f', b', tv', g1, .step tg_name (ex_set (i := 2) (ev_add (ev_mul (ev_var rfl) (ev_int (i := 1000)) (.inr ⟨by decide, by decide⟩)) he) (by decide)) g2⟩
theorem rel_number {Rd : Rel} (hd : Spec Rd PreDraw PostDraw) : CNumb (RelOf K [0] (t__law_number K Rd) 4 2) := by
  intro b m hb hm
  have key : ∃ (v : Int) (b' : List D) (ρ2 : Rho), GoodBox b' ∧ -m ≤ v ∧ v ≤ m ∧ ρ2[0]? = some (.own b') ∧ ExZ K [0] (t__law_number K Rd) [.own b, .fr (.int m), .no, .no] (.rt ρ2 (.fr (.int v))) := by
    obtain ⟨n, b1, h0, h1, hb1, he1⟩ := ev_draw (K := K) hd (i := 0) (ρ := [.own b, .fr (.int m), .fr (.int 0), .no]) rfl (ev_int (i := 4)) rfl hb (by decide)
    obtain ⟨f, b2, tv, hb2, lp⟩ := num_loop (K := K) hd m (1 + n).toNat 0 0 b1 .no hb1
    obtain ⟨v, b3, h2, h3, hb3, he3⟩ := ev_draw (K := K) hd (i := 0) (ρ := [.own b2, .fr (.int m), .fr (.int f), tv]) rfl (ev_int (i := 2)) rfl hb2 (by decide)
    have s1 : ExZ K [0] (tAsg (tC (.int 0)) (gName 2)) [.own b, .fr (.int m), .no, .no] (.nx [.own b, .fr (.int m), .fr (.int 0), .no]) := ex_set (i := 2) ev_int (by decide)
    have s2 : ExZ K [0] (tFor (iRng1 (tCons (tOp rAddI (tC (.int 1)) (tCall (SpZ K Rd) [] E0 (tCons (tVar 0) (tCons (tC (.int 4)) tNil)))) tNil)) (gName 3) (b__law_number_1 K Rd)) [.own b, .fr (.int m), .fr (.int 0), .no] (.nx [.own b2, .fr (.int m), .fr (.int f), tv]) :=
      ex_for (it_range1 (ag_cons (ev_add ev_int he1) ag_nil) ⟨by omega, by omega⟩) lp (by decide)
    have ht := ts_test (ev_eqI he3 (ev_int (i := 0)))
    have hr0 := Int.emod_nonneg f (b := m + 1) (by omega)
    have hr1 := Int.emod_lt_of_pos f (b := m + 1) (by omega)
    have hv : EvZ K (tOp rModI (tCB rToInt (tCons (tVar 2) tNil)) (tOp rAddI (tVar 1) (tC (.int 1)))) [.own b3, .fr (.int m), .fr (.int f), tv] [.own b3, .fr (.int m), .fr (.int f), tv] (.int (f % (m + 1))) := ev_mod (ev_toInt (ev_var rfl)) (ev_add (ev_var rfl) ev_int) (by omega)
    by_cases h : v = 0
    · exact ⟨f % (m + 1), b3, _, hb3, by omega, by omega, rfl, ex_seq s1 (ex_seq s2 (ex_seqR (ex_ifT (ts_is ht (decide_eq_true h)) (ex_ret hv))))⟩
    · exact ⟨-(f % (m + 1)), b3, _, hb3, by omega, by omega, rfl, ex_seq s1 (ex_seq s2 (ex_seq (ex_ifF (ts_is ht (decide_eq_false h)) ex_next) (ex_ret (ev_negI hv))))⟩
  obtain ⟨v, b', ρ2, h1, h2, h3, h4, h5⟩ := key
  exact ⟨v, b', h1, h2, h3, rfl, ρ2, .inl h5, fin_box (ds := [.int m]) (by decide) h4⟩
end
end Z

set_option Elab.async false
set_option linter.all false
set_option maxRecDepth 100000
set_option maxHeartbeats 2000000
/-! Law20: the law k20, what its rows come to. -/
namespace Z
open PySem PySem.Spec PyProof.Rows L2
open Evl (Ex Ex.refl Ex.trans Ex.new ex_rd ex_l ex_t sq_of st_of fresh_back sz_of sz_lt)
namespace K20
def t_fraction_text (K : PySem.W.Frag) : TS :=
  (tSeq (tAsg (tVar 0) (gTup K 2 (gCons (gName 1) (gCons (gName 2) gNil))))
      (tRet (tIf (tTest (tOp rEq (tVar 2) (tC (.int 1)))) (tCB rStrI (tCons (tVar 1) tNil)) (tJoined ((tFmt (tVar 1)) :: ((tC (.str "/")) :: ((tFmt (tVar 2)) :: [])))))))

def e_as_fractions_1 (K : PySem.W.Frag) : TE :=
  (tTup (tCons (tVar 1) (tCons (tC (.int 1)) tNil)))
def t_as_fractions (K : PySem.W.Frag) : TS :=
  (tRet (tCB (rTupOf K) (tCons (tLc (iTup K (tVar 0)) (gName 1) tYes (e_as_fractions_1 K) [1]) tNil)))

def t__law_lower (K : PySem.W.Frag) (R__law_number : Rel) : TS :=
  (tSeq (tAsg (tCall (SpZ K R__law_number) [] E0 (tCons (tVar 0) (tCons (tOp rPowI (tC (.int 10)) (tC (.int 12))) tNil))) (gName 1))
      (tSeq (tIfS (tTest (tOp rEq (tVar 1) (tC (.int 0)))) (tRet (tC (.int 1))) tNext)
      (tRet (tVar 1))))

def t__law_text (K : PySem.W.Frag) : TS :=
  (tSeq (tIfS (tTest (tOp rEq (tOp (rIx K) (tVar 0) (tC (.int 1))) (tC (.int 1)))) (tRet (tCB rStrI (tCons (tOp (rIx K) (tVar 0) (tC (.int 0))) tNil))) tNext)
      (tRet (tOp rCatS (tOp rCatS (tCB rStrI (tCons (tOp (rIx K) (tVar 0) (tC (.int 0))) tNil)) (tC (.str "/"))) (tCB rStrI (tCons (tOp (rIx K) (tVar 0) (tC (.int 1))) tNil)))))

def b_law_1 (K : PySem.W.Frag) (R__law_box : Rel) (R__law_fraction : Rel) (R__law_lower : Rel) (R__law_number : Rel) (R__law_same : Rel) (R__law_text : Rel) (R_as_fractions : Rel) (R_below : Rel) (R_fraction : Rel) (R_fraction_text : Rel) (R_minus : Rel) (R_over : Rel) (R_plus : Rel) (R_times : Rel) : TS :=
  (tSeq (tIfS (tNot (tB (tCall (SpZ K R__law_same) [] E0 (tCons (tCall (SpZ K R_fraction) [] E0 (tCons (tOp (rIx K) (tVar 2) (tVar 5)) (tCons (tOp (rIx K) (tVar 3) (tVar 5)) tNil))) (tCons (tOp (rIx K) (tVar 4) (tVar 5)) tNil))))) (tRet (tC (.bl false))) tNext)
      (tIfS (tNot (tB (tCall (SpZ K R__law_same) [] E0 (tCons (tCall (SpZ K R_fraction_text) [] E0 (tCons (tOp (rIx K) (tVar 4) (tVar 5)) tNil)) (tCons (tCall (SpZ K R__law_text) [] E0 (tCons (tOp (rIx K) (tVar 4) (tVar 5)) tNil)) tNil))))) (tRet (tC (.bl false))) tNext))
def e_law_2 (K : PySem.W.Frag) (R__law_box : Rel) (R__law_fraction : Rel) (R__law_lower : Rel) (R__law_number : Rel) (R__law_same : Rel) (R__law_text : Rel) (R_as_fractions : Rel) (R_below : Rel) (R_fraction : Rel) (R_fraction_text : Rel) (R_minus : Rel) (R_over : Rel) (R_plus : Rel) (R_times : Rel) : TE :=
  (tCall (SpZ K R__law_fraction) [] E0 (tCons (tOp (rIx K) (tVar 2) (tVar 5)) (tCons (tOp (rIx K) (tVar 3) (tVar 5)) tNil)))
def t_law (K : PySem.W.Frag) (R__law_box : Rel) (R__law_fraction : Rel) (R__law_lower : Rel) (R__law_number : Rel) (R__law_same : Rel) (R__law_text : Rel) (R_as_fractions : Rel) (R_below : Rel) (R_fraction : Rel) (R_fraction_text : Rel) (R_minus : Rel) (R_over : Rel) (R_plus : Rel) (R_times : Rel) : TS :=
  (tSeq (tAsg (tCall (SpZ K R__law_box) [] E0 (tCons (tVar 0) (tCons (tC (.int 0)) tNil))) (gName 1))
      (tSeq (tAsg (tLst (tCons (tCall (SpZ K R__law_number) [] E0 (tCons (tVar 1) (tCons (tOp rPowI (tC (.int 10)) (tC (.int 12))) tNil))) (tCons (tCall (SpZ K R__law_number) [] E0 (tCons (tVar 1) (tCons (tOp rPowI (tC (.int 10)) (tC (.int 12))) tNil))) tNil))) (gName 2))
      (tSeq (tAsg (tLst (tCons (tCall (SpZ K R__law_lower) [] E0 (tCons (tVar 1) tNil)) (tCons (tCall (SpZ K R__law_lower) [] E0 (tCons (tVar 1) tNil)) tNil))) (gName 3))
      (tSeq (tAsg (tLc (iRng1 (tCons (tC (.int 2)) tNil)) (gName 5) tYes (e_law_2 K R__law_box R__law_fraction R__law_lower R__law_number R__law_same R__law_text R_as_fractions R_below R_fraction R_fraction_text R_minus R_over R_plus R_times) [5]) (gName 4))
      (tSeq (tFor (iRng1 (tCons (tC (.int 2)) tNil)) (gName 5) (b_law_1 K R__law_box R__law_fraction R__law_lower R__law_number R__law_same R__law_text R_as_fractions R_below R_fraction R_fraction_text R_minus R_over R_plus R_times))
      (tSeq (tAsg (tOp (rIx K) (tVar 4) (tC (.int 0))) (gName 6))
      (tSeq (tAsg (tOp (rIx K) (tVar 4) (tC (.int 1))) (gName 7))
      (tSeq (tIfS (tNot (tB (tCall (SpZ K R__law_same) [] E0 (tCons (tCall (SpZ K R_plus) [] E0 (tCons (tVar 6) (tCons (tVar 7) tNil))) (tCons (tCall (SpZ K R__law_fraction) [] E0 (tCons (tOp rAddI (tOp rMulW (tOp (rIx K) (tVar 6) (tC (.int 0))) (tOp (rIx K) (tVar 7) (tC (.int 1)))) (tOp rMulW (tOp (rIx K) (tVar 7) (tC (.int 0))) (tOp (rIx K) (tVar 6) (tC (.int 1))))) (tCons (tOp rMulW (tOp (rIx K) (tVar 6) (tC (.int 1))) (tOp (rIx K) (tVar 7) (tC (.int 1)))) tNil))) tNil))))) (tRet (tC (.bl false))) tNext)
      (tSeq (tIfS (tNot (tB (tCall (SpZ K R__law_same) [] E0 (tCons (tCall (SpZ K R_minus) [] E0 (tCons (tVar 6) (tCons (tVar 7) tNil))) (tCons (tCall (SpZ K R__law_fraction) [] E0 (tCons (tOp rSubI (tOp rMulW (tOp (rIx K) (tVar 6) (tC (.int 0))) (tOp (rIx K) (tVar 7) (tC (.int 1)))) (tOp rMulW (tOp (rIx K) (tVar 7) (tC (.int 0))) (tOp (rIx K) (tVar 6) (tC (.int 1))))) (tCons (tOp rMulW (tOp (rIx K) (tVar 6) (tC (.int 1))) (tOp (rIx K) (tVar 7) (tC (.int 1)))) tNil))) tNil))))) (tRet (tC (.bl false))) tNext)
      (tSeq (tIfS (tNot (tB (tCall (SpZ K R__law_same) [] E0 (tCons (tCall (SpZ K R_times) [] E0 (tCons (tVar 6) (tCons (tVar 7) tNil))) (tCons (tCall (SpZ K R__law_fraction) [] E0 (tCons (tOp rMulW (tOp (rIx K) (tVar 6) (tC (.int 0))) (tOp (rIx K) (tVar 7) (tC (.int 0)))) (tCons (tOp rMulW (tOp (rIx K) (tVar 6) (tC (.int 1))) (tOp (rIx K) (tVar 7) (tC (.int 1)))) tNil))) tNil))))) (tRet (tC (.bl false))) tNext)
      (tSeq (tIfS (tTest (tOp rNe (tOp (rIx K) (tVar 7) (tC (.int 0))) (tC (.int 0)))) (tIfS (tNot (tB (tCall (SpZ K R__law_same) [] E0 (tCons (tCall (SpZ K R_over) [] E0 (tCons (tVar 6) (tCons (tVar 7) tNil))) (tCons (tCall (SpZ K R__law_fraction) [] E0 (tCons (tOp rMulW (tOp (rIx K) (tVar 6) (tC (.int 0))) (tOp (rIx K) (tVar 7) (tC (.int 1)))) (tCons (tOp rMulW (tOp (rIx K) (tVar 6) (tC (.int 1))) (tOp (rIx K) (tVar 7) (tC (.int 0)))) tNil))) tNil))))) (tRet (tC (.bl false))) tNext) tNext)
      (tSeq (tIfS (tNot (tB (tCall (SpZ K R__law_same) [] E0 (tCons (tCall (SpZ K R_below) [] E0 (tCons (tVar 6) (tCons (tVar 7) tNil))) (tCons (tOp rLtI (tOp rMulW (tOp (rIx K) (tVar 6) (tC (.int 0))) (tOp (rIx K) (tVar 7) (tC (.int 1)))) (tOp rMulW (tOp (rIx K) (tVar 7) (tC (.int 0))) (tOp (rIx K) (tVar 6) (tC (.int 1))))) tNil))))) (tRet (tC (.bl false))) tNext)
      (tSeq (tIfS (tNot (tB (tCall (SpZ K R__law_same) [] E0 (tCons (tCall (SpZ K R_below) [] E0 (tCons (tVar 6) (tCons (tVar 6) tNil))) (tCons (tC (.bl false)) tNil))))) (tRet (tC (.bl false))) tNext)
      (tSeq (tAsg (tOp rAddI (tOp rPowI (tC (.int 10)) (tC (.int 12))) (tCB rAbs (tCons (tOp (rIx K) (tVar 2) (tC (.int 0))) tNil))) (gName 8))
      (tSeq (tIfS (tNot (tB (tCall (SpZ K R__law_same) [] E0 (tCons (tCall (SpZ K R_below) [] E0 (tCons (tTup (tCons (tOp rAddI (tVar 8) (tC (.int 2))) (tCons (tOp rAddI (tVar 8) (tC (.int 1))) tNil))) (tCons (tTup (tCons (tOp rAddI (tVar 8) (tC (.int 1))) (tCons (tVar 8) tNil))) tNil))) (tCons (tC (.bl true)) tNil))))) (tRet (tC (.bl false))) tNext)
      (tSeq (tIfS (tNot (tB (tCall (SpZ K R__law_same) [] E0 (tCons (tCall (SpZ K R_below) [] E0 (tCons (tTup (tCons (tOp rAddI (tVar 8) (tC (.int 1))) (tCons (tVar 8) tNil))) (tCons (tTup (tCons (tOp rAddI (tVar 8) (tC (.int 2))) (tCons (tOp rAddI (tVar 8) (tC (.int 1))) tNil))) tNil))) (tCons (tC (.bl false)) tNil))))) (tRet (tC (.bl false))) tNext)
      (tRet (tCall (SpZ K R__law_same) [] E0 (tCons (tCall (SpZ K R_as_fractions) [] E0 (tCons (tCB (rTupOf K) (tCons (tVar 2) tNil)) tNil)) (tCons (tTup (tCons (tTup (tCons (tOp (rIx K) (tVar 2) (tC (.int 0))) (tCons (tC (.int 1)) tNil))) (tCons (tTup (tCons (tOp (rIx K) (tVar 2) (tC (.int 1))) (tCons (tC (.int 1)) tNil))) tNil))) tNil))))))))))))))))))))

section
variable {K : PySem.W.Frag}
/-! ### texts -/
theorem len_nat {v : Int} (h0 : 0 ≤ v) {k : Nat} (hk : 0 < k) (h : v < 10 ^ k) : (Str.ofString (toString v)).length ≤ k := PyProof.Rows.toString_length_le h0 hk h
theorem toString_neg {v : Int} (h : v < 0) : toString v = "-" ++ toString (-v) := by
  cases v with
  | ofNat n => exact absurd h (by simp)
  | negSucc n => rfl
theorem len_toString {v : Int} {k : Nat} (hk : 0 < k) (h : v < 10 ^ k) (h' : -v < 10 ^ k) : (Str.ofString (toString v)).length ≤ k + 1 := by
  by_cases h0 : 0 ≤ v
  · have := len_nat h0 hk h
    omega
  · rw [toString_neg (by omega), PyProof.Rows.ofString_length, String.toList_append, List.length_append]
    have := len_nat (v := -v) (by omega) hk h'
    rw [PyProof.Rows.ofString_length] at this
    have e : ("-" : String).toList.length = 1 := by decide
    omega
theorem empty_cat (z : Str) : Str.empty ++ z = z := by
  cases z with
  | mk a =>
    show Str.mk (#[] ++ a) = ⟨a⟩
    rw [Array.empty_append]
def Sm (i : Int) : Prop := -1000000000000 ≤ i ∧ i ≤ 1000000000000
theorem Sm.bd {i : Int} (h : Sm i) : Bd 4000 i := by
  have : Bd 40 i := by
    unfold Bd
    have e : (2 : Nat) ^ 40 = 1099511627776 := by decide
    rw [e]
    have := h.1
    have := h.2
    omega
  exact this.mono (by decide)
theorem Sm.log {i : Int} (h : Sm i) : i.natAbs.log2 < 1920 := by
  have : i.natAbs < 2 ^ 40 := by
    have e : (2 : Nat) ^ 40 = 1099511627776 := by decide
    rw [e]
    have := h.1
    have := h.2
    omega
  have := PySem.Flt.log2_lt_of (by decide) this
  omega
theorem Sm.len {i : Int} (h : Sm i) : (Str.ofString (toString i)).length ≤ 14 := len_toString (k := 13) (by decide) (by have := h.2; omega) (by have := h.1; omega)
def txt (p : Int × Int) : Str := if p.2 = 1 then Str.ofString (toString p.1) else Str.ofString (toString p.1) ++ "/" ++ Str.ofString (toString p.2)
def CTxt (R : Rel) : Prop := ∀ p : Int × Int, Sm p.1 → Sm p.2 → R [.fr (frD p)] (.fr (.str (txt p))) [.fr (frD p)]
theorem rel_ftext : CTxt (RelOf K [] (t_fraction_text K) 3 1) := by
  intro p h1 h2
  have l1 := h1.len
  have l2 := h2.len
  refine ⟨rfl, ?_⟩
  have s1 : ExZ K [] (tAsg (tVar 0) (gTup K 2 (gCons (gName 1) (gCons (gName 2) gNil)))) [.fr (frD p), .no, .no] (.nx [.fr (frD p), .fr (.int p.1), .fr (.int p.2)]) :=
    ex_asg (ev_var rfl) (tg_tup rfl (tgs_cons tg_name (tgs_cons tg_name tgs_nil))) (by decide)
  have ht := ts_test (ev_eqI (K := K) (ρ := [.fr (frD p), .fr (.int p.1), .fr (.int p.2)]) (ev_var (i := 2) rfl) (ev_int (i := 1)))
  by_cases h : p.2 = 1
  · refine ⟨_, .inl (ex_seq s1 (ex_ret (ev_ifT (ts_is ht (decide_eq_true h)) (ev_is (ev_strI (ev_var (i := 1) rfl) h1.log) ?_)))), fin_fr (ds := [frD p])⟩
    unfold txt
    rw [if_pos h]
  · refine ⟨_, .inl (ex_seq s1 (ex_ret (ev_ifF (ts_is ht (decide_eq_false h)) (ev_is (ev_joined (js_cons (ev_fmtI (ev_var (i := 1) rfl) h1.log) ?_ (js_cons ev_str ?_ (js_cons (ev_fmtI (ev_var (i := 2) rfl) h2.log) ?_ js_nil)))) ?_)))), fin_fr (ds := [frD p])⟩
    · rw [empty_cat]; omega
    · rw [empty_cat, len_cat]
      have : ("/" : Str).length = 1 := by decide
      omega
    · rw [empty_cat, len_cat, len_cat]
      have : ("/" : Str).length = 1 := by decide
      omega
    · unfold txt
      rw [if_neg h, empty_cat]
theorem rel_ltext : CTxt (RelOf K [] (t__law_text K) 1 1) := by
  intro p h1 h2
  have l1 := h1.len
  have l2 := h2.len
  refine ⟨rfl, ?_⟩
  have ht := ts_test (ev_eqI (K := K) (ev_fr2 (p := p) (ρ := [.fr (frD p)]) (i := 0) rfl) (ev_int (i := 1)))
  by_cases h : p.2 = 1
  · refine ⟨_, .inl (ex_seqR (ex_ifT (ts_is ht (decide_eq_true h)) (ex_ret (ev_is (ev_strI (ev_fr1 (p := p) rfl) h1.log) ?_)))), fin_fr (ds := [frD p])⟩
    unfold txt
    rw [if_pos h]
  · refine ⟨_, .inl (ex_seq (ex_ifF (ts_is ht (decide_eq_false h)) ex_next) (ex_ret (ev_is (ev_catS (ev_catS (ev_strI (ev_fr1 (p := p) rfl) h1.log) ev_str ?_) (ev_strI (ev_fr2 (p := p) rfl) h2.log) ?_) ?_))), fin_fr (ds := [frD p])⟩
    · have : ("/" : Str).length = 1 := by decide
      omega
    · rw [len_cat]
      have : ("/" : Str).length = 1 := by decide
      omega
    · unfold txt
      rw [if_neg h]
/-! ### as_fractions, _law_lower -/
def CAs (R : Rel) : Prop := ∀ is : List Int, is.length ≤ 1000 → R [.fr (.tup (is.map .int))] (.fr (.tup (is.map fun i => frD (i, 1)))) [.fr (.tup (is.map .int))]
theorem rel_as : CAs (RelOf K [] (t_as_fractions K) 2 1) := by
  intro is hl
  refine ⟨rfl, [.fr (.tup (is.map .int)), .no], .inl (ex_ret (ev_tupN ?_)), fin_fr (ds := [.tup (is.map .int)])⟩
  refine en_lc (it_tup (ev_var rfl)) (comp_mapA (K := K) (ρ := [.fr (.tup (is.map .int)), .no]) (j := 1) (fun i => D.int i) (fun i => frD (i, 1)) rfl is fun i _ => ?_) (by decide) (by rw [List.length_map]; omega)
  exact ev_tup (ag_cons (ev_var rfl) (ag_cons ev_int ag_nil)) (by show 2 ≤ 100000; decide)
theorem e12 : D.int ((10 : Int) ^ (12 : Int).toNat) = .int 1000000000000 := by
  have : (10 : Int) ^ (12 : Int).toNat = 1000000000000 := by decide
  rw [this]
def CLow (R : Rel) : Prop := ∀ b : List D, GoodBox b → ∃ (v : Int) (b' : List D), GoodBox b' ∧ Sm v ∧ v ≠ 0 ∧ R [.own b] (.fr (.int v)) [.own b']
theorem ev_num {Rn : Rel} (hn : CNumb Rn) {ρ : Rho} {i : Nat} {b : List D} (h : ρ[i]? = some (.own b)) (hb : GoodBox b) : ∃ (v : Int) (b' : List D), GoodBox b' ∧ Sm v ∧ EvZ K (tCall (SpZ K Rn) [] E0 (tCons (tVar i) (tCons (tOp rPowI (tC (.int 10)) (tC (.int 12))) tNil))) ρ (ρ.set i (.own b')) (.int v) := by
  obtain ⟨v, b', h1, h2, h3, h4⟩ := hn b 1000000000000 hb (by decide)
  refine ⟨v, b', h1, ⟨h2, h3⟩, ?_⟩
  have e : EvZ K (tOp rPowI (tC (.int 10)) (tC (.int 12))) ρ ρ (.int 1000000000000) := ev_is (ev_pow (ev_int (i := 10)) (ev_int (i := 12)) ⟨by decide, by decide, by decide⟩) e12
  exact ev_callB (ds := [.int 1000000000000]) h (ag_cons e ag_nil) h h4
theorem rel_low {Rn : Rel} (hn : CNumb Rn) : CLow (RelOf K [0] (t__law_lower K Rn) 2 1) := by
  intro b hb
  obtain ⟨v, b', h1, h2, he⟩ := ev_num (K := K) hn (ρ := [.own b, .no]) (i := 0) rfl hb
  have s1 : ExZ K [0] (tAsg (tCall (SpZ K Rn) [] E0 (tCons (tVar 0) (tCons (tOp rPowI (tC (.int 10)) (tC (.int 12))) tNil))) (gName 1)) [.own b, .no] (.nx [.own b', .fr (.int v)]) := ex_set (i := 1) he (by decide)
  have ht := ts_test (ev_eqI (K := K) (ρ := [.own b', .fr (.int v)]) (ev_var (i := 1) rfl) (ev_int (i := 0)))
  by_cases h : v = 0
  · exact ⟨1, b', h1, ⟨by decide, by decide⟩, by decide, rfl, _, .inl (ex_seq s1 (ex_seqR (ex_ifT (ts_is ht (decide_eq_true h)) (ex_ret ev_int)))), fin_box (ds := []) (by decide) rfl⟩
  · exact ⟨v, b', h1, h2, h, rfl, _, .inl (ex_seq s1 (ex_seq (ex_ifF (ts_is ht (decide_eq_false h)) ex_next) (ex_ret (ev_var rfl)))), fin_box (ds := []) (by decide) rfl⟩
/-! ### the law -/
theorem FR_sm {t b : Int} (hb : b ≠ 0) (h1 : Sm t) (h2 : Sm b) : Sm (FR t b).1 ∧ Sm (FR t b).2 := by
  have e1 := natAbs_le_mul (FR_mul1 (t := t) hb) (gcI_pos hb)
  have e2 := natAbs_le_mul (FR_mul2 (t := t) hb) (gcI_pos hb)
  rw [sgT_abs] at e1 e2
  unfold Sm at *
  omega
theorem pl_fr (p : Int × Int) : Plain 2 (frD p) := .tup (fun d hd => by
  simp only [List.mem_cons, List.not_mem_nil, or_false] at hd
  rcases hd with rfl | rfl <;> exact .int _) (by show 2 ≤ 90000; decide)
theorem pl_fr3 (p : Int × Int) : Plain 3 (frD p) := .tup (fun d hd => by
  simp only [List.mem_cons, List.not_mem_nil, or_false] at hd
  rcases hd with rfl | rfl <;> exact .int _) (by show 2 ≤ 90000; decide)
def CBox (R : Rel) : Prop := ∀ (ns : List Int) (k : Nat), k ≤ 1000000 → ∃ b, GoodBox b ∧ R [.fr (.lst (ns.map .int)), .fr (.int (k : Int))] (.own b) [.fr (.lst (ns.map .int)), .fr (.int (k : Int))]
theorem box_of {Rb : Rel} (hb : Spec Rb PreBox PostBox) : CBox Rb := fun ns k hk => by
  obtain ⟨_, _, g1, rfl, b, hgb, rfl⟩ := hb _ ⟨ns, k, rfl, hk⟩
  exact ⟨b, hgb, g1⟩
def CSame (R : Rel) : Prop := ∀ d : D, Plain 3 d → R [.fr d, .fr d] (.fr (.bl true)) [.fr d, .fr d]
theorem same_of {Rs : Rel} (hs : Spec Rs (PreSame 3) PostSame) : CSame Rs := fun d hd => by
  obtain ⟨_, _, g1, rfl, rfl⟩ := hs _ ⟨d, rfl, hd⟩
  exact g1
section
variable {Rb Rlf Rl Rn Rs Rt Ra Rw Rf Rx Rm Ro Rp Rti : Rel}
variable (hb : CBox Rb) (hlf : CFr Rlf) (hl : CLow Rl) (hn : CNumb Rn) (hs : CSame Rs) (ht : CTxt Rt) (ha : CAs Ra) (hw : CBelow Rw) (hf : CFr Rf) (hx : CTxt Rx) (hm : CMinus Rm) (ho : COver Ro) (hp : CPlus Rp) (hti : CTimes Rti)
/-- if not same(a, b): return False, where both are d -/
theorem ex_check {ta tb : TE} {ρ : Rho} {d : D} (hs : CSame Rs) (hd : Plain 3 d) (ha : EvZ K ta ρ ρ d) (hb : EvZ K tb ρ ρ d) : ExZ K [] (tIfS (tNot (tB (tCall (SpZ K Rs) [] E0 (tCons ta (tCons tb tNil))))) (tRet (tC (.bl false))) tNext) ρ (.nx ρ) :=
  ex_ifF (ts_is (ts_not (b := true) (ts_B (ev_callF (ds := [d, d]) (ag_cons ha (ag_cons hb ag_nil)) (hs d hd)))) rfl) ex_next
theorem sq1 (g : Int) : (g + 2) * g < (g + 1) * (g + 1) := by
  have e1 : (g + 2) * g = g * g + 2 * g := Int.add_mul g 2 g
  have e2 : (g + 1) * (g + 1) = g * g + g + (g + 1) := by rw [Int.add_mul, Int.mul_add, Int.mul_one, Int.one_mul]
  omega
include hb hlf hl hn hs ht ha hw hf hx hm ho hp hti in
theorem sem_law (ns : List Int) : RelOf K [] (t_law K Rb Rlf Rl Rn Rs Rt Ra Rw Rf Rx Rm Ro Rp Rti) 9 1 [.fr (.lst (ns.map .int))] (.fr (.bl true)) [.fr (.lst (ns.map .int))] := by
  refine ⟨rfl, ?_⟩
  have key : ∃ ρ2, ExZ K [] (t_law K Rb Rlf Rl Rn Rs Rt Ra Rw Rf Rx Rm Ro Rp Rti) [.fr (.lst (ns.map .int)), .no, .no, .no, .no, .no, .no, .no, .no] (.rt ρ2 (.fr (.bl true))) := by
    obtain ⟨b, gb, eb⟩ := hb ns 0 (by decide)
    obtain ⟨t0, b1, gb1, st0, et0⟩ := ev_num (K := K) hn (ρ := [.fr (.lst (ns.map .int)), .own b, .no, .no, .no, .no, .no, .no, .no]) (i := 1) rfl gb
    obtain ⟨t1, b2, gb2, st1, et1⟩ := ev_num (K := K) hn (ρ := [.fr (.lst (ns.map .int)), .own b1, .no, .no, .no, .no, .no, .no, .no]) (i := 1) rfl gb1
    obtain ⟨l0, b3, gb3, sl0, nl0, el0⟩ := hl b2 gb2
    obtain ⟨l1, b4, gb4, sl1, nl1, el1⟩ := hl b3 gb3
    obtain ⟨d01, d02⟩ := FR_sm nl0 st0 sl0
    obtain ⟨d11, d12⟩ := FR_sm nl1 st1 sl1
    have p0 := FR_pos (t := t0) nl0
    have p1 := FR_pos (t := t1) nl1
    generalize e0 : FR t0 l0 = p at d01 d02 p0
    generalize e1 : FR t1 l1 = q at d11 d12 p1
    have np : p.2 ≠ 0 := by omega
    have nq : q.2 ≠ 0 := by omega
    have hg1 : 1000000000000 + (t0.natAbs : Int) ≤ 2000000000000 := by have := st0.1; have := st0.2; omega
    have hg0 : 0 ≤ 1000000000000 + (t0.natAbs : Int) := by omega
    generalize eg : 1000000000000 + (t0.natAbs : Int) = g at hg1 hg0
    refine ⟨[.fr (.lst (ns.map .int)), .own b4, .fr (.lst [.int t0, .int t1]), .fr (.lst [.int l0, .int l1]), .fr (.lst [frD p, frD q]), .fr (.int 1), .fr (frD p), .fr (frD q), .fr (.int g)], ex_seq (ex_setN (i := 1) (en_callF (ds := [.lst (ns.map .int), .int ((0 : Nat) : Int)]) (ag_cons (ev_var rfl) (ag_cons ev_int ag_nil)) eb) OwnIn.refl (by decide)) ?_⟩
    refine ex_seq (ex_setN (i := 2) (en_lst (ag_cons et0 (ag_cons et1 ag_nil)) (by show 2 ≤ 100000; decide)) ((OwnIn.set (i := 1) (fs := .lst b) rfl).trans (OwnIn.set (i := 1) (fs := .lst b1) rfl)) (by decide)) (ex_freeze (i := 2) rfl ?_)
    refine ex_seq (ex_setN (i := 3) (en_lst (ag_cons (ev_callB (ds := []) (i := 1) rfl ag_nil rfl el0) (ag_cons (ev_callB (ds := []) (i := 1) rfl ag_nil rfl el1) ag_nil)) (by show 2 ≤ 100000; decide)) ((OwnIn.set (i := 1) (fs := .lst b2) rfl).trans (OwnIn.set (i := 1) (fs := .lst b3) rfl)) (by decide)) (ex_freeze (i := 3) rfl ?_)
    refine ex_seq (ex_setN (i := 4) (ds := [frD p, frD q]) (en_lc (it_range1 (ag_cons ev_int ag_nil) ⟨by decide, by decide⟩) (ρ' := [.fr (.lst (ns.map .int)), .own b4, .fr (.lst [.int t0, .int t1]), .fr (.lst [.int l0, .int l1]), .no, .no, .no, .no, .no]) (A := [5]) (.yes tg_name ts_yes (ev_callF (ds := [.int t0, .int l0]) (ag_cons (ev_ixL (ds := [.int t0, .int t1]) (i := 0) (ev_var rfl) (ev_var rfl) (by rfl)) (ag_cons (ev_ixL (ds := [.int l0, .int l1]) (i := 0) (ev_var rfl) (ev_var rfl) (by rfl)) ag_nil)) (by rw [← e0]; exact hlf t0 l0 nl0 (sl0.bd.mono (by decide))))
      (.yes tg_name ts_yes (ev_callF (ds := [.int t1, .int l1]) (ag_cons (ev_ixL (ds := [.int t0, .int t1]) (i := 1) (ev_var rfl) (ev_var rfl) (by rfl)) (ag_cons (ev_ixL (ds := [.int l0, .int l1]) (i := 1) (ev_var rfl) (ev_var rfl) (by rfl)) ag_nil)) (by rw [← e1]; exact hlf t1 l1 nl1 (sl1.bd.mono (by decide)))) .nil)) (by decide) (by decide)) OwnIn.refl (by decide)) (ex_freeze (i := 4) rfl ?_)
    refine ex_seq (ex_for (A := [5]) (ρ1 := [.fr (.lst (ns.map .int)), .own b4, .fr (.lst [.int t0, .int t1]), .fr (.lst [.int l0, .int l1]), .fr (.lst [frD p, frD q]), .no, .no, .no, .no]) (it_range1 (ag_cons ev_int ag_nil) ⟨by decide, by decide⟩) (o := .nx [.fr (.lst (ns.map .int)), .own b4, .fr (.lst [.int t0, .int t1]), .fr (.lst [.int l0, .int l1]), .fr (.lst [frD p, frD q]), .fr (.int 1), .no, .no, .no]) ?_ (by decide)) ?_
    · refine .step (d := .int 0) (ds := [.int 1]) tg_name (ex_seq (ex_check hs (pl_fr3 p) (ev_callF (ds := [.int t0, .int l0]) (ag_cons (ev_ixL (ds := [.int t0, .int t1]) (i := 0) (ev_var rfl) (ev_var rfl) (by rfl)) (ag_cons (ev_ixL (ds := [.int l0, .int l1]) (i := 0) (ev_var rfl) (ev_var rfl) (by rfl)) ag_nil)) (by rw [← e0]; exact hf t0 l0 nl0 (sl0.bd.mono (by decide)))) (ev_ixL (ds := [frD p, frD q]) (i := 0) (ev_var rfl) (ev_var rfl) (by rfl)))
        (ex_check hs (.str (txt p)) (ev_callF (ds := [frD p]) (ag_cons (ev_ixL (ds := [frD p, frD q]) (i := 0) (ev_var rfl) (ev_var rfl) (by rfl)) ag_nil) (hx p d01 d02)) (ev_callF (ds := [frD p]) (ag_cons (ev_ixL (ds := [frD p, frD q]) (i := 0) (ev_var rfl) (ev_var rfl) (by rfl)) ag_nil) (ht p d01 d02)))) ?_
      exact .step (d := .int 1) (ds := []) tg_name (ex_seq (ex_check hs (pl_fr3 q) (ev_callF (ds := [.int t1, .int l1]) (ag_cons (ev_ixL (ds := [.int t0, .int t1]) (i := 1) (ev_var rfl) (ev_var rfl) (by rfl)) (ag_cons (ev_ixL (ds := [.int l0, .int l1]) (i := 1) (ev_var rfl) (ev_var rfl) (by rfl)) ag_nil)) (by rw [← e1]; exact hf t1 l1 nl1 (sl1.bd.mono (by decide)))) (ev_ixL (ds := [frD p, frD q]) (i := 1) (ev_var rfl) (ev_var rfl) (by rfl)))
        (ex_check hs (.str (txt q)) (ev_callF (ds := [frD q]) (ag_cons (ev_ixL (ds := [frD p, frD q]) (i := 1) (ev_var rfl) (ev_var rfl) (by rfl)) ag_nil) (hx q d11 d12)) (ev_callF (ds := [frD q]) (ag_cons (ev_ixL (ds := [frD p, frD q]) (i := 1) (ev_var rfl) (ev_var rfl) (by rfl)) ag_nil) (ht q d11 d12)))) .nil
    have vp : ∀ {ρ : Rho}, ρ[6]? = some (.fr (frD p)) → ρ[7]? = some (.fr (frD q)) → AgZ K (tCons (tVar 6) (tCons (tVar 7) tNil)) ρ ρ [frD p, frD q] := fun h1 h2 => ag_cons (ev_var h1) (ag_cons (ev_var h2) ag_nil)
    refine ex_seq (ex_set (i := 6) (ev_ixL (ds := [frD p, frD q]) (i := 0) (d := frD p) (ev_var rfl) ev_int (by rfl)) (by decide)) (ex_seq (ex_set (i := 7) (ev_ixL (ds := [frD p, frD q]) (i := 1) (d := frD q) (ev_var rfl) ev_int (by rfl)) (by decide)) ?_)
    have m1 := mok d01.bd d12.bd
    have m2 := mok d11.bd d02.bd
    have m3 := mok d02.bd d12.bd
    refine ex_seq (ex_check hs (pl_fr3 (FR (p.1 * q.2 + q.1 * p.2) (p.2 * q.2))) (ev_callF (ds := [frD p, frD q]) (vp rfl rfl) (hp p q np nq d01.bd d02.bd d11.bd d12.bd)) (ev_callF (ds := [.int (p.1 * q.2 + q.1 * p.2), .int (p.2 * q.2)]) (ag_cons (ev_add (ev_mulW (ev_fr1 (p := p) rfl) (ev_fr2 (p := q) rfl) m1) (ev_mulW (ev_fr1 (p := q) rfl) (ev_fr2 (p := p) rfl) m2)) (ag_cons (ev_mulW (ev_fr2 (p := p) rfl) (ev_fr2 (p := q) rfl) m3) ag_nil)) (hlf _ _ (Int.mul_ne_zero np nq) (mbd d02.bd d12.bd)))) ?_
    refine ex_seq (ex_check hs (pl_fr3 (FR (p.1 * q.2 - q.1 * p.2) (p.2 * q.2))) (ev_callF (ds := [frD p, frD q]) (vp rfl rfl) (hm p q np nq d01.bd d02.bd d11.bd d12.bd)) (ev_callF (ds := [.int (p.1 * q.2 - q.1 * p.2), .int (p.2 * q.2)]) (ag_cons (ev_sub (ev_mulW (ev_fr1 (p := p) rfl) (ev_fr2 (p := q) rfl) m1) (ev_mulW (ev_fr1 (p := q) rfl) (ev_fr2 (p := p) rfl) m2)) (ag_cons (ev_mulW (ev_fr2 (p := p) rfl) (ev_fr2 (p := q) rfl) m3) ag_nil)) (hlf _ _ (Int.mul_ne_zero np nq) (mbd d02.bd d12.bd)))) ?_
    refine ex_seq (ex_check hs (pl_fr3 (FR (p.1 * q.1) (p.2 * q.2))) (ev_callF (ds := [frD p, frD q]) (vp rfl rfl) (hti p q np nq d01.bd d02.bd d11.bd d12.bd)) (ev_callF (ds := [.int (p.1 * q.1), .int (p.2 * q.2)]) (ag_cons (ev_mulW (ev_fr1 (p := p) rfl) (ev_fr1 (p := q) rfl) (mok d01.bd d11.bd)) (ag_cons (ev_mulW (ev_fr2 (p := p) rfl) (ev_fr2 (p := q) rfl) m3) ag_nil)) (hlf _ _ (Int.mul_ne_zero np nq) (mbd d02.bd d12.bd)))) ?_
    refine ex_seq (ex_if (b := !decide (q.1 = 0)) (ts_test (ev_neI (ev_fr1 (p := q) rfl) (ev_int (i := 0)))) (fun h => ?_) (fun _ => ex_next)) ?_
    · have nz : q.1 ≠ 0 := by
        intro z
        rw [decide_eq_true z] at h
        cases h
      exact ex_check hs (pl_fr3 (FR (p.1 * q.2) (p.2 * q.1))) (ev_callF (ds := [frD p, frD q]) (vp rfl rfl) (ho p q np nz d01.bd d02.bd d11.bd d12.bd)) (ev_callF (ds := [.int (p.1 * q.2), .int (p.2 * q.1)]) (ag_cons (ev_mulW (ev_fr1 (p := p) rfl) (ev_fr2 (p := q) rfl) m1) (ag_cons (ev_mulW (ev_fr2 (p := p) rfl) (ev_fr1 (p := q) rfl) (mok d02.bd d11.bd)) ag_nil)) (hlf _ _ (Int.mul_ne_zero np nz) (mbd d02.bd d11.bd)))
    refine ex_seq (ex_check hs (.bl (decide (p.1 * q.2 < q.1 * p.2))) (ev_callF (ds := [frD p, frD q]) (vp rfl rfl) (hw p q d01.bd d02.bd d11.bd d12.bd)) (ev_lt (ev_mulW (ev_fr1 (p := p) rfl) (ev_fr2 (p := q) rfl) m1) (ev_mulW (ev_fr1 (p := q) rfl) (ev_fr2 (p := p) rfl) m2))) ?_
    have hpp := hw p p d01.bd d02.bd d01.bd d02.bd
    rw [decide_eq_false (Int.lt_irrefl _)] at hpp
    refine ex_seq (ex_check hs (.bl false) (ev_callF (ds := [frD p, frD p]) (ag_cons (ev_var rfl) (ag_cons (ev_var rfl) ag_nil)) hpp) ev_bl) ?_
    refine ex_seq (ex_set (i := 8) (d := .int g) (ev_is (ev_add (ev_is (ev_pow (ev_int (i := 10)) (ev_int (i := 12)) ⟨by decide, by decide, by decide⟩) e12) (ev_abs (ev_ixL (ds := [.int t0, .int t1]) (i := 0) (ev_var rfl) ev_int (by rfl)))) (by rw [eg])) (by decide)) ?_
    have bg : ∀ k : Int, 0 ≤ k → k ≤ 2 → Bd 4000 (g + k) := fun k h0 h2 => by
      have : Bd 42 (g + k) := by
        unfold Bd
        have e : (2 : Nat) ^ 42 = 4398046511104 := by decide
        rw [e]
        omega
      exact this.mono (by decide)
    have bg0 : Bd 4000 g := by have := bg 0 (by decide) (by decide); rw [Int.add_zero] at this; exact this
    have w1 := hw (g + 2, g + 1) (g + 1, g) (bg 2 (by decide) (by decide)) (bg 1 (by decide) (by decide)) (bg 1 (by decide) (by decide)) bg0
    have w2 := hw (g + 1, g) (g + 2, g + 1) (bg 1 (by decide) (by decide)) bg0 (bg 2 (by decide) (by decide)) (bg 1 (by decide) (by decide))
    rw [decide_eq_true (sq1 g)] at w1
    rw [decide_eq_false (show ¬ ((g + 1) * (g + 1) < (g + 2) * g) by have := sq1 g; omega)] at w2
    have eA : ∀ {ρ : Rho}, ρ[8]? = some (.fr (.int g)) → EvZ K (tTup (tCons (tOp rAddI (tVar 8) (tC (.int 2))) (tCons (tOp rAddI (tVar 8) (tC (.int 1))) tNil))) ρ ρ (frD (g + 2, g + 1)) := fun h => ev_tup (ag_cons (ev_add (ev_var h) ev_int) (ag_cons (ev_add (ev_var h) ev_int) ag_nil)) (by show 2 ≤ 100000; decide)
    have eB : ∀ {ρ : Rho}, ρ[8]? = some (.fr (.int g)) → EvZ K (tTup (tCons (tOp rAddI (tVar 8) (tC (.int 1))) (tCons (tVar 8) tNil))) ρ ρ (frD (g + 1, g)) := fun h => ev_tup (ag_cons (ev_add (ev_var h) ev_int) (ag_cons (ev_var h) ag_nil)) (by show 2 ≤ 100000; decide)
    refine ex_seq (ex_check hs (.bl true) (ev_callF (ds := [frD (g + 2, g + 1), frD (g + 1, g)]) (ag_cons (eA rfl) (ag_cons (eB rfl) ag_nil)) w1) ev_bl) ?_
    refine ex_seq (ex_check hs (.bl false) (ev_callF (ds := [frD (g + 1, g), frD (g + 2, g + 1)]) (ag_cons (eB rfl) (ag_cons (eA rfl) ag_nil)) w2) ev_bl) ?_
    have hpl : Plain 3 (.tup [frD (t0, 1), frD (t1, 1)]) := .tup (fun d hd => by
      simp only [List.mem_cons, List.not_mem_nil, or_false] at hd
      rcases hd with rfl | rfl <;> exact pl_fr _) (by show 2 ≤ 90000; decide)
    have hi0 : ∀ {ρ : Rho}, ρ[2]? = some (.fr (.lst [.int t0, .int t1])) → EvZ K (tTup (tCons (tOp (rIx K) (tVar 2) (tC (.int 0))) (tCons (tC (.int 1)) tNil))) ρ ρ (frD (t0, 1)) := fun h => ev_tup (ag_cons (ev_ixL (ds := [.int t0, .int t1]) (i := 0) (ev_var h) ev_int (by rfl)) (ag_cons ev_int ag_nil)) (by show 2 ≤ 100000; decide)
    have hi1 : ∀ {ρ : Rho}, ρ[2]? = some (.fr (.lst [.int t0, .int t1])) → EvZ K (tTup (tCons (tOp (rIx K) (tVar 2) (tC (.int 1))) (tCons (tC (.int 1)) tNil))) ρ ρ (frD (t1, 1)) := fun h => ev_tup (ag_cons (ev_ixL (ds := [.int t0, .int t1]) (i := 1) (ev_var h) ev_int (by rfl)) (ag_cons ev_int ag_nil)) (by show 2 ≤ 100000; decide)
    exact ex_ret (ev_callF (ds := [.tup [frD (t0, 1), frD (t1, 1)], .tup [frD (t0, 1), frD (t1, 1)]]) (ag_cons (ev_callF (ds := [.tup [.int t0, .int t1]]) (ag_cons (ev_tupL (ev_var rfl)) ag_nil) (ha [t0, t1] (by show 2 ≤ 1000; decide))) (ag_cons (ev_tup (ag_cons (hi0 rfl) (ag_cons (hi1 rfl) ag_nil)) (by show 2 ≤ 100000; decide)) ag_nil)) (hs _ hpl))
  obtain ⟨ρ2, h⟩ := key
  exact ⟨ρ2, .inl h, fin_fr (ds := [.lst (ns.map .int)])⟩
end
end
end K20
end Z

set_option Elab.async false
set_option linter.all false
set_option maxRecDepth 100000
set_option maxHeartbeats 4000000
namespace Z
open PySem PySem.Spec PyProof.Rows L2
def topS (i : Nat) : Stmt := PySem.Challenge.pw_cubesums_k20_exact_fractions.main.body.getD i (.Pass ⟨0, 0, 0, 0⟩)
abbrev s_fraction : Stmt := topS 2
theorem sc_fraction : FnScope ["top", "bottom", "common"] ["top", "bottom"] (defScope s_fraction) := ⟨rfl, rfl, rfl, by decide +kernel, rfl, by decide +kernel, by decide +kernel⟩
abbrev s_plus : Stmt := topS 3
theorem sc_plus : FnScope ["one", "two"] ["one", "two"] (defScope s_plus) := ⟨rfl, rfl, rfl, by decide +kernel, rfl, by decide +kernel, by decide +kernel⟩
abbrev s_minus : Stmt := topS 4
theorem sc_minus : FnScope ["one", "two"] ["one", "two"] (defScope s_minus) := ⟨rfl, rfl, rfl, by decide +kernel, rfl, by decide +kernel, by decide +kernel⟩
abbrev s_times : Stmt := topS 5
theorem sc_times : FnScope ["one", "two"] ["one", "two"] (defScope s_times) := ⟨rfl, rfl, rfl, by decide +kernel, rfl, by decide +kernel, by decide +kernel⟩
abbrev s_over : Stmt := topS 6
theorem sc_over : FnScope ["one", "two"] ["one", "two"] (defScope s_over) := ⟨rfl, rfl, rfl, by decide +kernel, rfl, by decide +kernel, by decide +kernel⟩
abbrev s_below : Stmt := topS 7
theorem sc_below : FnScope ["one", "two"] ["one", "two"] (defScope s_below) := ⟨rfl, rfl, rfl, by decide +kernel, rfl, by decide +kernel, by decide +kernel⟩
abbrev s_fraction_text : Stmt := topS 8
theorem sc_fraction_text : FnScope ["one", "top", "bottom"] ["one"] (defScope s_fraction_text) := ⟨rfl, rfl, rfl, by decide +kernel, rfl, by decide +kernel, by decide +kernel⟩
abbrev s_as_fractions : Stmt := topS 9
theorem sc_as_fractions : FnScope ["integers", "integer"] ["integers"] (defScope s_as_fractions) := ⟨rfl, rfl, rfl, by decide +kernel, rfl, by decide +kernel, by decide +kernel⟩
abbrev s__law_cell : Stmt := topS 11
theorem sc__law_cell : FnScope ["script", "k"] ["script", "k"] (defScope s__law_cell) := ⟨rfl, rfl, rfl, by decide +kernel, rfl, by decide +kernel, by decide +kernel⟩
abbrev s__law_digits : Stmt := topS 12
theorem sc__law_digits : FnScope ["cell", "at", "digits", "turn", "seed"] ["cell", "at"] (defScope s__law_digits) := ⟨rfl, rfl, rfl, by decide +kernel, rfl, by decide +kernel, by decide +kernel⟩
abbrev s__law_box : Stmt := topS 13
theorem sc__law_box : FnScope ["script", "at"] ["script", "at"] (defScope s__law_box) := ⟨rfl, rfl, rfl, by decide +kernel, rfl, by decide +kernel, by decide +kernel⟩
abbrev s__law_draw : Stmt := topS 14
theorem sc__law_draw : FnScope ["box", "many", "at"] ["box", "many"] (defScope s__law_draw) := ⟨rfl, rfl, rfl, by decide +kernel, rfl, by decide +kernel, by decide +kernel⟩
abbrev s__law_number : Stmt := topS 15
theorem sc__law_number : FnScope ["box", "most", "found", "turn"] ["box", "most"] (defScope s__law_number) := ⟨rfl, rfl, rfl, by decide +kernel, rfl, by decide +kernel, by decide +kernel⟩
abbrev s__law_gcd : Stmt := topS 16
theorem sc__law_gcd : FnScope ["one", "two", "rest"] ["one", "two"] (defScope s__law_gcd) := ⟨rfl, rfl, rfl, by decide +kernel, rfl, by decide +kernel, by decide +kernel⟩
abbrev s__law_is_integer : Stmt := topS 17
theorem sc__law_is_integer : FnScope ["actual"] ["actual"] (defScope s__law_is_integer) := ⟨rfl, rfl, rfl, by decide +kernel, rfl, by decide +kernel, by decide +kernel⟩
abbrev s__law_same : Stmt := topS 18
theorem sc__law_same : FnScope ["actual", "due", "at"] ["actual", "due"] (defScope s__law_same) := ⟨rfl, rfl, rfl, by decide +kernel, rfl, by decide +kernel, by decide +kernel⟩
abbrev s__law_fraction : Stmt := topS 19
theorem sc__law_fraction : FnScope ["top", "bottom", "divisor"] ["top", "bottom"] (defScope s__law_fraction) := ⟨rfl, rfl, rfl, by decide +kernel, rfl, by decide +kernel, by decide +kernel⟩
abbrev s__law_lower : Stmt := topS 20
theorem sc__law_lower : FnScope ["box", "found"] ["box"] (defScope s__law_lower) := ⟨rfl, rfl, rfl, by decide +kernel, rfl, by decide +kernel, by decide +kernel⟩
abbrev s__law_text : Stmt := topS 21
theorem sc__law_text : FnScope ["one"] ["one"] (defScope s__law_text) := ⟨rfl, rfl, rfl, by decide +kernel, rfl, by decide +kernel, by decide +kernel⟩
abbrev s_law : Stmt := topS 22
theorem sc_law : FnScope ["script", "box", "tops", "lowers", "dues", "k", "one", "two", "great"] ["script"] (defScope s_law) := ⟨rfl, rfl, rfl, by decide +kernel, rfl, by decide +kernel, by decide +kernel⟩
structure Top (K : PySem.W.Frag) (mg : Str → Option Value) : Prop where
  n_abs : mg "abs" = none
  n_all : mg "all" = none
  n_bool : mg "bool" = none
  n_gcd : mg "gcd" = some (.builtin "math.gcd")
  n_int : mg "int" = none
  n_isinstance : mg "isinstance" = none
  n_len : mg "len" = none
  n_max : mg "max" = none
  n_range : mg "range" = none
  n_str : mg "str" = none
  n_tuple : mg "tuple" = none
  f_fraction : ∃ (f : Addr) (fd : FuncData), Fun K "fraction" "fraction" s_fraction f fd ∧ mg "fraction" = some (.ref f)
  f_plus : ∃ (f : Addr) (fd : FuncData), Fun K "plus" "plus" s_plus f fd ∧ mg "plus" = some (.ref f)
  f_minus : ∃ (f : Addr) (fd : FuncData), Fun K "minus" "minus" s_minus f fd ∧ mg "minus" = some (.ref f)
  f_times : ∃ (f : Addr) (fd : FuncData), Fun K "times" "times" s_times f fd ∧ mg "times" = some (.ref f)
  f_over : ∃ (f : Addr) (fd : FuncData), Fun K "over" "over" s_over f fd ∧ mg "over" = some (.ref f)
  f_below : ∃ (f : Addr) (fd : FuncData), Fun K "below" "below" s_below f fd ∧ mg "below" = some (.ref f)
  f_fraction_text : ∃ (f : Addr) (fd : FuncData), Fun K "fraction_text" "fraction_text" s_fraction_text f fd ∧ mg "fraction_text" = some (.ref f)
  f_as_fractions : ∃ (f : Addr) (fd : FuncData), Fun K "as_fractions" "as_fractions" s_as_fractions f fd ∧ mg "as_fractions" = some (.ref f)
  f__law_cell : ∃ (f : Addr) (fd : FuncData), Fun K "_law_cell" "_law_cell" s__law_cell f fd ∧ mg "_law_cell" = some (.ref f)
  f__law_digits : ∃ (f : Addr) (fd : FuncData), Fun K "_law_digits" "_law_digits" s__law_digits f fd ∧ mg "_law_digits" = some (.ref f)
  f__law_box : ∃ (f : Addr) (fd : FuncData), Fun K "_law_box" "_law_box" s__law_box f fd ∧ mg "_law_box" = some (.ref f)
  f__law_draw : ∃ (f : Addr) (fd : FuncData), Fun K "_law_draw" "_law_draw" s__law_draw f fd ∧ mg "_law_draw" = some (.ref f)
  f__law_number : ∃ (f : Addr) (fd : FuncData), Fun K "_law_number" "_law_number" s__law_number f fd ∧ mg "_law_number" = some (.ref f)
  f__law_gcd : ∃ (f : Addr) (fd : FuncData), Fun K "_law_gcd" "_law_gcd" s__law_gcd f fd ∧ mg "_law_gcd" = some (.ref f)
  f__law_is_integer : ∃ (f : Addr) (fd : FuncData), Fun K "_law_is_integer" "_law_is_integer" s__law_is_integer f fd ∧ mg "_law_is_integer" = some (.ref f)
  f__law_same : ∃ (f : Addr) (fd : FuncData), Fun K "_law_same" "_law_same" s__law_same f fd ∧ mg "_law_same" = some (.ref f)
  f__law_fraction : ∃ (f : Addr) (fd : FuncData), Fun K "_law_fraction" "_law_fraction" s__law_fraction f fd ∧ mg "_law_fraction" = some (.ref f)
  f__law_lower : ∃ (f : Addr) (fd : FuncData), Fun K "_law_lower" "_law_lower" s__law_lower f fd ∧ mg "_law_lower" = some (.ref f)
  f__law_text : ∃ (f : Addr) (fd : FuncData), Fun K "_law_text" "_law_text" s__law_text f fd ∧ mg "_law_text" = some (.ref f)
  f_law : ∃ (f : Addr) (fd : FuncData), Fun K "law" "law" s_law f fd ∧ mg "law" = some (.ref f)
section
variable {P : Program} {w : World} {K : PySem.W.Frag} {mg : Str → Option Value} {base : Heap}
theorem ok_fraction (T : Top K mg) : Zdef P w K mg base 1 "fraction" ["top", "bottom"] (RelOf K [] (t_fraction K) 3 2) := by
  obtain ⟨f, fd, F, hm⟩ := T.f_fraction
  exact def_z F hm sc_fraction rfl rfl (F.binds fun _ _ _ _ _ _ us hl => match us, hl with | [_, _], _ => rfl) fun cdv A outer s H E hr =>
    (pss_cons (ps_set (i := 2) sc_fraction.nd rfl (Or.inl rfl) (pe_callBfun cr_gcd (by rfl) T.n_gcd (pa_cons (pv 0) (pa_cons (pv 1) pa_nil))))
      (pss_cons (ps_if (pt_cmpR op_lt (pv 1) pe_int (nomark _)) (pss_one (ps_set (i := 2) sc_fraction.nd rfl (Or.inl rfl) (pe_un un_neg (pv 2)))) pss_nil)
      (pss_one (ps_ret (pe_tup (pa_cons (pe_op op_fdivZ (pv 0) (pv 2)) (pa_cons (pe_op op_fdivZ (pv 1) (pv 2)) pa_nil)))))))
theorem ok_plus (T : Top K mg) {R_fraction : Rel} (g_fraction : Zdef P w K mg base 1 "fraction" ["top", "bottom"] R_fraction) : Zdef P w K mg base 2 "plus" ["one", "two"] (RelOf K [] (t_plus K R_fraction) 2 2) := by
  obtain ⟨f, fd, F, hm⟩ := T.f_plus
  exact def_z F hm sc_plus rfl rfl (F.binds fun _ _ _ _ _ _ us hl => match us, hl with | [_, _], _ => rfl) fun cdv A outer s H E hr =>
    (pss_one (ps_ret (pe_callZ g_fraction hr (by omega) (by rfl) (pa_cons (pe_op op_add (pe_op op_mulW (pe_ix ix_seq (pv 0) pe_int (fun _ _ => rfl)) (pe_ix ix_seq (pv 1) pe_int (fun _ _ => rfl))) (pe_op op_mulW (pe_ix ix_seq (pv 1) pe_int (fun _ _ => rfl)) (pe_ix ix_seq (pv 0) pe_int (fun _ _ => rfl)))) (pa_cons (pe_op op_mulW (pe_ix ix_seq (pv 0) pe_int (fun _ _ => rfl)) (pe_ix ix_seq (pv 1) pe_int (fun _ _ => rfl))) pa_nil)))))
theorem ok_minus (T : Top K mg) {R_fraction : Rel} (g_fraction : Zdef P w K mg base 1 "fraction" ["top", "bottom"] R_fraction) : Zdef P w K mg base 2 "minus" ["one", "two"] (RelOf K [] (t_minus K R_fraction) 2 2) := by
  obtain ⟨f, fd, F, hm⟩ := T.f_minus
  exact def_z F hm sc_minus rfl rfl (F.binds fun _ _ _ _ _ _ us hl => match us, hl with | [_, _], _ => rfl) fun cdv A outer s H E hr =>
    (pss_one (ps_ret (pe_callZ g_fraction hr (by omega) (by rfl) (pa_cons (pe_op op_sub (pe_op op_mulW (pe_ix ix_seq (pv 0) pe_int (fun _ _ => rfl)) (pe_ix ix_seq (pv 1) pe_int (fun _ _ => rfl))) (pe_op op_mulW (pe_ix ix_seq (pv 1) pe_int (fun _ _ => rfl)) (pe_ix ix_seq (pv 0) pe_int (fun _ _ => rfl)))) (pa_cons (pe_op op_mulW (pe_ix ix_seq (pv 0) pe_int (fun _ _ => rfl)) (pe_ix ix_seq (pv 1) pe_int (fun _ _ => rfl))) pa_nil)))))
theorem ok_times (T : Top K mg) {R_fraction : Rel} (g_fraction : Zdef P w K mg base 1 "fraction" ["top", "bottom"] R_fraction) : Zdef P w K mg base 2 "times" ["one", "two"] (RelOf K [] (t_times K R_fraction) 2 2) := by
  obtain ⟨f, fd, F, hm⟩ := T.f_times
  exact def_z F hm sc_times rfl rfl (F.binds fun _ _ _ _ _ _ us hl => match us, hl with | [_, _], _ => rfl) fun cdv A outer s H E hr =>
    (pss_one (ps_ret (pe_callZ g_fraction hr (by omega) (by rfl) (pa_cons (pe_op op_mulW (pe_ix ix_seq (pv 0) pe_int (fun _ _ => rfl)) (pe_ix ix_seq (pv 1) pe_int (fun _ _ => rfl))) (pa_cons (pe_op op_mulW (pe_ix ix_seq (pv 0) pe_int (fun _ _ => rfl)) (pe_ix ix_seq (pv 1) pe_int (fun _ _ => rfl))) pa_nil)))))
theorem ok_over (T : Top K mg) {R_fraction : Rel} (g_fraction : Zdef P w K mg base 1 "fraction" ["top", "bottom"] R_fraction) : Zdef P w K mg base 2 "over" ["one", "two"] (RelOf K [] (t_over K R_fraction) 2 2) := by
  obtain ⟨f, fd, F, hm⟩ := T.f_over
  exact def_z F hm sc_over rfl rfl (F.binds fun _ _ _ _ _ _ us hl => match us, hl with | [_, _], _ => rfl) fun cdv A outer s H E hr =>
    (pss_one (ps_ret (pe_callZ g_fraction hr (by omega) (by rfl) (pa_cons (pe_op op_mulW (pe_ix ix_seq (pv 0) pe_int (fun _ _ => rfl)) (pe_ix ix_seq (pv 1) pe_int (fun _ _ => rfl))) (pa_cons (pe_op op_mulW (pe_ix ix_seq (pv 0) pe_int (fun _ _ => rfl)) (pe_ix ix_seq (pv 1) pe_int (fun _ _ => rfl))) pa_nil)))))
theorem ok_below (T : Top K mg) : Zdef P w K mg base 1 "below" ["one", "two"] (RelOf K [] (t_below K) 2 2) := by
  obtain ⟨f, fd, F, hm⟩ := T.f_below
  exact def_z F hm sc_below rfl rfl (F.binds fun _ _ _ _ _ _ us hl => match us, hl with | [_, _], _ => rfl) fun cdv A outer s H E hr =>
    (pss_one (ps_ret (pe_cmpR op_lt (pe_op op_mulW (pe_ix ix_seq (pv 0) pe_int (fun _ _ => rfl)) (pe_ix ix_seq (pv 1) pe_int (fun _ _ => rfl))) (pe_op op_mulW (pe_ix ix_seq (pv 1) pe_int (fun _ _ => rfl)) (pe_ix ix_seq (pv 0) pe_int (fun _ _ => rfl))) (nomark _))))
theorem ok_fraction_text (T : Top K mg) : Zdef P w K mg base 1 "fraction_text" ["one"] (RelOf K [] (K20.t_fraction_text K) 3 1) := by
  obtain ⟨f, fd, F, hm⟩ := T.f_fraction_text
  exact def_z F hm sc_fraction_text rfl rfl (F.binds fun _ _ _ _ _ _ us hl => match us, hl with | [_], _ => rfl) fun cdv A outer s H E hr =>
    (pss_cons (ps_asg (pv 0) (pg_tup rfl (pgs_cons (pg_name (i := 1) sc_fraction_text.nd rfl (Or.inl rfl)) (pgs_cons (pg_name (i := 2) sc_fraction_text.nd rfl (Or.inl rfl)) pgs_nil))))
      (pss_one (ps_ret (pe_ifExp (pt_cmpR op_eq (pv 2) pe_int (nomark _)) (pe_callTy call_str_int (by rfl) T.n_str (by decide +kernel) (pa_cons (pv 1) pa_nil)) (pe_joined (.cons (pe_fmt (pv 1)) (.cons pe_str (.cons (pe_fmt (pv 2)) .nil))))))))
theorem ok_as_fractions (T : Top K mg) : Zdef P w K mg base 1 "as_fractions" ["integers"] (RelOf K [] (K20.t_as_fractions K) 2 1) := by
  obtain ⟨f, fd, F, hm⟩ := T.f_as_fractions
  exact def_z F hm sc_as_fractions rfl rfl (F.binds fun _ _ _ _ _ _ us hl => match us, hl with | [_], _ => rfl) fun cdv A outer s H E hr =>
    (pss_one (ps_ret (pe_callTy call_tuple_of (by rfl) T.n_tuple (by decide +kernel) (pa_cons (pe_lc (own := [("integer", 1)]) (g := (gName 1)) (tt := tYes) rfl sc_as_fractions.nd (pi_tup (pv 0)) (blkOk_by (N := ["integers", "integer"]) (sc := defScope s_as_fractions) (by decide +kernel)) (fun _ _ _ _ _ => (pg_name (i := 1) sc_as_fractions.nd rfl (Or.inl rfl))) (fun _ _ _ _ _ => pts_nil) (fun _ _ _ _ _ => (pe_tup (pa_cons (pv 1) (pa_cons pe_int pa_nil))))) pa_nil))))
theorem ok__law_cell (T : Top K mg) : Zdef P w K mg base 1 "_law_cell" ["script", "k"] (RelOf K [] (t__law_cell K) 2 2) := by
  obtain ⟨f, fd, F, hm⟩ := T.f__law_cell
  exact def_z F hm sc__law_cell rfl rfl (F.binds fun _ _ _ _ _ _ us hl => match us, hl with | [_, _], _ => rfl) fun cdv A outer s H E hr =>
    (pss_cons (ps_if (pt_cmpR op_lt (pv 1) (pe_callB call_len (by rfl) T.n_len (by decide +kernel) (pa_cons (pv 0) pa_nil)) (nomark _)) (pss_one (ps_ret (pe_callTy call_int1 (by rfl) T.n_int (by decide +kernel) (pa_cons (pe_ix ix_seq (pv 0) (pv 1) (fun _ _ => rfl)) pa_nil)))) pss_nil)
      (pss_one (ps_ret pe_int)))
theorem ok__law_digits (T : Top K mg) : Zdef P w K mg base 1 "_law_digits" ["cell", "at"] (RelOf K [] (t__law_digits K) 5 2) := by
  obtain ⟨f, fd, F, hm⟩ := T.f__law_digits
  exact def_z F hm sc__law_digits rfl rfl (F.binds fun _ _ _ _ _ _ us hl => match us, hl with | [_, _], _ => rfl) fun cdv A outer s H E hr =>
    (pss_cons (ps_set (i := 2) sc__law_digits.nd rfl (Or.inl rfl) (pe_lst pa_nil))
      (pss_cons (ps_if (pt_cmpR op_lt (pv 0) pe_int (nomark _)) (pss_one (ps_set (i := 0) sc__law_digits.nd rfl (Or.inl rfl) (pe_op op_sub pe_int (pe_op op_mul pe_int (pv 0))))) pss_nil)
      (pss_cons (ps_if (pt_cmpR op_ge (pv 0) (pe_op op_pow pe_int pe_int) (nomark _)) (pss_one (ps_for PassesOwn.never rfl (pi_range1 (by rfl) T.n_range (pa_cons pe_int pa_nil)) (pg_name (i := 3) sc__law_digits.nd rfl (Or.inl rfl)) (pss_one (ps_if (pt_cmpR op_gt (pv 0) pe_int (nomark _)) (pss_cons (ps_expr (pe_bm PySem.F.plainAttrs_list PySem.F.slot_list_append PySem.F.type_list_append mt_append (pv 2) (pa_cons (pe_op op_mod (pe_callTy call_int1 (by rfl) T.n_int (by decide +kernel) (pa_cons (pv 0) pa_nil)) pe_int) pa_nil)))
      (pss_one (ps_set (i := 0) sc__law_digits.nd rfl (Or.inl rfl) (pe_op op_fdiv (pv 0) pe_int)))) pss_nil)))) (pss_cons (ps_set (i := 4) sc__law_digits.nd rfl (Or.inl rfl) (pe_op op_mod (pe_callTy call_int1 (by rfl) T.n_int (by decide +kernel) (pa_cons (pe_op op_add (pe_op op_add (pe_op op_mul (pv 0) pe_int) (pe_op op_mul (pv 1) pe_int)) pe_int) pa_nil)) pe_int))
      (pss_one (ps_for PassesOwn.never rfl (pi_range1 (by rfl) T.n_range (pa_cons pe_int pa_nil)) (pg_name (i := 3) sc__law_digits.nd rfl (Or.inl rfl)) (pss_cons (ps_set (i := 4) sc__law_digits.nd rfl (Or.inl rfl) (pe_op op_mod (pe_callTy call_int1 (by rfl) T.n_int (by decide +kernel) (pa_cons (pe_op op_add (pe_op op_add (pe_op op_mul (pv 4) pe_int) (pe_op op_mul pe_int (pv 3))) pe_int) pa_nil)) pe_int))
      (pss_one (ps_expr (pe_bm PySem.F.plainAttrs_list PySem.F.slot_list_append PySem.F.type_list_append mt_append (pv 2) (pa_cons (pe_op op_mod (pe_callTy call_int1 (by rfl) T.n_int (by decide +kernel) (pa_cons (pe_op op_fdiv (pv 4) pe_int) pa_nil)) pe_int) pa_nil)))))))))
      (pss_one (ps_ret (pv 2))))))
theorem ok__law_box (T : Top K mg) {R__law_cell : Rel} (g__law_cell : Zdef P w K mg base 1 "_law_cell" ["script", "k"] R__law_cell) {R__law_digits : Rel} (g__law_digits : Zdef P w K mg base 1 "_law_digits" ["cell", "at"] R__law_digits) : Zdef P w K mg base 2 "_law_box" ["script", "at"] (RelOf K [] (t__law_box K R__law_cell R__law_digits) 2 2) := by
  obtain ⟨f, fd, F, hm⟩ := T.f__law_box
  exact def_z F hm sc__law_box rfl rfl (F.binds fun _ _ _ _ _ _ us hl => match us, hl with | [_, _], _ => rfl) fun cdv A outer s H E hr =>
    (pss_one (ps_ret (pe_lst (pa_cons (pe_callZ g__law_digits hr (by omega) (by rfl) (pa_cons (pe_callZ g__law_cell hr (by omega) (by rfl) (pa_cons (pv 0) (pa_cons (pv 1) pa_nil))) (pa_cons (pv 1) pa_nil))) (pa_cons pe_int pa_nil)))))
theorem ok__law_draw (T : Top K mg) : Zdef P w K mg base 1 "_law_draw" ["box", "many"] (RelOf K [0] (t__law_draw K) 3 2) := by
  obtain ⟨f, fd, F, hm⟩ := T.f__law_draw
  exact def_z F hm sc__law_draw rfl rfl (F.binds fun _ _ _ _ _ _ us hl => match us, hl with | [_, _], _ => rfl) fun cdv A outer s H E hr =>
    (pss_cons (ps_set (i := 2) sc__law_draw.nd rfl (Or.inl rfl) (pe_ix ix_seq (pv 0) pe_int (fun _ _ => rfl)))
      (pss_cons (ps_asg (pe_op op_add (pv 2) pe_int) (pg_sub (pv 0) pe_int set_list))
      (pss_cons (ps_if (pt_cmpR op_lt (pv 2) (pe_callB call_len (by rfl) T.n_len (by decide +kernel) (pa_cons (pe_ix ix_seq (pv 0) pe_int (fun _ _ => rfl)) pa_nil)) (nomark _)) (pss_one (ps_ret (pe_op op_mod (pe_callTy call_int1 (by rfl) T.n_int (by decide +kernel) (pa_cons (pe_ix ix_seq (pe_ix ix_seq (pv 0) pe_int (fun _ _ => rfl)) (pv 2) (fun _ _ => rfl)) pa_nil)) (pv 1)))) pss_nil)
      (pss_one (ps_ret pe_int)))))
theorem ok__law_number (T : Top K mg) {R__law_draw : Rel} (g__law_draw : Zdef P w K mg base 1 "_law_draw" ["box", "many"] R__law_draw) : Zdef P w K mg base 2 "_law_number" ["box", "most"] (RelOf K [0] (t__law_number K R__law_draw) 4 2) := by
  obtain ⟨f, fd, F, hm⟩ := T.f__law_number
  exact def_z F hm sc__law_number rfl rfl (F.binds fun _ _ _ _ _ _ us hl => match us, hl with | [_, _], _ => rfl) fun cdv A outer s H E hr =>
    (pss_cons (ps_set (i := 2) sc__law_number.nd rfl (Or.inl rfl) pe_int)
      (pss_cons (ps_for PassesOwn.never rfl (pi_range1 (by rfl) T.n_range (pa_cons (pe_op op_add pe_int (pe_callZ g__law_draw hr (by omega) (by rfl) (pa_cons (pv 0) (pa_cons pe_int pa_nil)))) pa_nil)) (pg_name (i := 3) sc__law_number.nd rfl (Or.inl rfl)) (pss_one (ps_set (i := 2) sc__law_number.nd rfl (Or.inl rfl) (pe_op op_add (pe_op op_mul (pv 2) pe_int) (pe_callZ g__law_draw hr (by omega) (by rfl) (pa_cons (pv 0) (pa_cons pe_int pa_nil)))))))
      (pss_cons (ps_if (pt_cmpR op_eq (pe_callZ g__law_draw hr (by omega) (by rfl) (pa_cons (pv 0) (pa_cons pe_int pa_nil))) pe_int (nomark _)) (pss_one (ps_ret (pe_op op_mod (pe_callTy call_int1 (by rfl) T.n_int (by decide +kernel) (pa_cons (pv 2) pa_nil)) (pe_op op_add (pv 1) pe_int)))) pss_nil)
      (pss_one (ps_ret (pe_un un_neg (pe_op op_mod (pe_callTy call_int1 (by rfl) T.n_int (by decide +kernel) (pa_cons (pv 2) pa_nil)) (pe_op op_add (pv 1) pe_int))))))))
theorem ok__law_gcd (T : Top K mg) : Zdef P w K mg base 1 "_law_gcd" ["one", "two"] (RelOf K [] (t__law_gcd K) 3 2) := by
  obtain ⟨f, fd, F, hm⟩ := T.f__law_gcd
  exact def_z F hm sc__law_gcd rfl rfl (F.binds fun _ _ _ _ _ _ us hl => match us, hl with | [_, _], _ => rfl) fun cdv A outer s H E hr =>
    (pss_cons (ps_set (i := 0) sc__law_gcd.nd rfl (Or.inl rfl) (pe_callB call_abs (by rfl) T.n_abs (by decide +kernel) (pa_cons (pv 0) pa_nil)))
      (pss_cons (ps_set (i := 1) sc__law_gcd.nd rfl (Or.inl rfl) (pe_callB call_abs (by rfl) T.n_abs (by decide +kernel) (pa_cons (pv 1) pa_nil)))
      (pss_cons (ps_while PassesOwn.never (pt_cmpR op_gt (pv 1) pe_int (nomark _)) (pss_cons (ps_set (i := 2) sc__law_gcd.nd rfl (Or.inl rfl) (pe_op op_mod (pe_callTy call_int1 (by rfl) T.n_int (by decide +kernel) (pa_cons (pv 0) pa_nil)) (pv 1)))
      (pss_cons (ps_set (i := 0) sc__law_gcd.nd rfl (Or.inl rfl) (pv 1))
      (pss_one (ps_set (i := 1) sc__law_gcd.nd rfl (Or.inl rfl) (pv 2))))))
      (pss_one (ps_ret (pv 0))))))
theorem ok__law_is_integer (T : Top K mg) : Zdef P w K mg base 1 "_law_is_integer" ["actual"] (RelOf K [] (t__law_is_integer K) 1 1) := by
  obtain ⟨f, fd, F, hm⟩ := T.f__law_is_integer
  exact def_z F hm sc__law_is_integer rfl rfl (F.binds fun _ _ _ _ _ _ us hl => match us, hl with | [_], _ => rfl) fun cdv A outer s H E hr =>
    (pss_one (ps_ret (pe_and (pe_callB call_isi (by rfl) T.n_isinstance (by decide +kernel) (pa_cons (pv 0) (pa_cons (pe_bltn (by rfl) T.n_int (by decide +kernel) rfl) pa_nil))) (pe_one (pe_not (pe_callB call_isi (by rfl) T.n_isinstance (by decide +kernel) (pa_cons (pv 0) (pa_cons (pe_bltn (by rfl) T.n_bool (by decide +kernel) rfl) pa_nil))))))))
theorem ok__law_same {lv : Nat} (T : Top K mg) {R__law_is_integer : Rel} (g__law_is_integer : Zdef P w K mg base 1 "_law_is_integer" ["actual"] R__law_is_integer) {R__law_same : Rel} (g__law_same : Zdef P w K mg base (lv + 1) "_law_same" ["actual", "due"] R__law_same) : Zdef P w K mg base (lv + 2) "_law_same" ["actual", "due"] (RelOf K [] (t__law_same K R__law_is_integer R__law_same) 3 2) := by
  obtain ⟨f, fd, F, hm⟩ := T.f__law_same
  exact def_z F hm sc__law_same rfl rfl (F.binds fun _ _ _ _ _ _ us hl => match us, hl with | [_, _], _ => rfl) fun cdv A outer s H E hr =>
    (pss_cons (ps_if (pt_val (pe_callB call_isi (by rfl) T.n_isinstance (by decide +kernel) (pa_cons (pv 1) (pa_cons (pe_bltn (by rfl) T.n_tuple (by decide +kernel) rfl) pa_nil)))) (pss_cons (ps_if (PW.pt (pw_or (pt_not (pt_val (pe_callB call_isi (by rfl) T.n_isinstance (by decide +kernel) (pa_cons (pv 0) (pa_cons (pe_bltn (by rfl) T.n_tuple (by decide +kernel) rfl) pa_nil))))) (pw_or1 (pt_cmpR op_ne (pe_callB call_len (by rfl) T.n_len (by decide +kernel) (pa_cons (pv 0) pa_nil)) (pe_callB call_len (by rfl) T.n_len (by decide +kernel) (pa_cons (pv 1) pa_nil)) (nomark _))))) (pss_one (ps_ret pe_bl)) pss_nil)
      (pss_one (ps_ret (pe_callB (cr_all rfl) (by rfl) T.n_all (by decide +kernel) (pa_cons (pe_lc (own := [("at", 2)]) (g := (gName 2)) (tt := tYes) rfl sc__law_same.nd (pi_range1 (by rfl) T.n_range (pa_cons (pe_callB call_len (by rfl) T.n_len (by decide +kernel) (pa_cons (pv 1) pa_nil)) pa_nil)) (blkOk_by (N := ["actual", "due", "at"]) (sc := defScope s__law_same) (by decide +kernel)) (fun _ _ _ _ _ => (pg_name (i := 2) sc__law_same.nd rfl (Or.inl rfl))) (fun _ _ _ _ _ => pts_nil) (fun _ _ _ _ _ => (pe_callZ g__law_same hr (by omega) (by rfl) (pa_cons (pe_ix ix_seq (pv 0) (pv 2) (fun _ _ => rfl)) (pa_cons (pe_ix ix_seq (pv 1) (pv 2) (fun _ _ => rfl)) pa_nil))))) pa_nil))))) pss_nil)
      (pss_cons (ps_if (pt_val (pe_callB call_isi (by rfl) T.n_isinstance (by decide +kernel) (pa_cons (pv 1) (pa_cons (pe_bltn (by rfl) T.n_bool (by decide +kernel) rfl) pa_nil)))) (pss_one (ps_ret (pe_and (pe_callB call_isi (by rfl) T.n_isinstance (by decide +kernel) (pa_cons (pv 0) (pa_cons (pe_bltn (by rfl) T.n_bool (by decide +kernel) rfl) pa_nil))) (pe_one (pe_cmpR op_eq (pv 0) (pv 1) (nomark _)))))) pss_nil)
      (pss_cons (ps_if (pt_val (pe_callB call_isi (by rfl) T.n_isinstance (by decide +kernel) (pa_cons (pv 1) (pa_cons (pe_bltn (by rfl) T.n_int (by decide +kernel) rfl) pa_nil)))) (pss_one (ps_ret (pe_and (pe_callZ g__law_is_integer hr (by omega) (by rfl) (pa_cons (pv 0) pa_nil)) (pe_one (pe_cmpR op_eq (pv 0) (pv 1) (nomark _)))))) pss_nil)
      (pss_cons (ps_if (pt_val (pe_callB call_isi (by rfl) T.n_isinstance (by decide +kernel) (pa_cons (pv 1) (pa_cons (pe_bltn (by rfl) T.n_str (by decide +kernel) rfl) pa_nil)))) (pss_one (ps_ret (pe_and (pe_callB call_isi (by rfl) T.n_isinstance (by decide +kernel) (pa_cons (pv 0) (pa_cons (pe_bltn (by rfl) T.n_str (by decide +kernel) rfl) pa_nil))) (pe_one (pe_cmpR op_eq (pv 0) (pv 1) (nomark _)))))) pss_nil)
      (pss_one (ps_ret (pe_and (pe_cmpR op_isN (pv 0) pe_non (nomark _)) (pe_one (pe_cmpR op_isN (pv 1) pe_non (nomark _))))))))))
theorem no__law_same (T : Top K mg) (k : Nat) : Zdef P w K mg base k "_law_same" ["actual", "due"] (fun _ _ _ => False) := by
  obtain ⟨f, fd, F, hm⟩ := T.f__law_same
  exact zdef_none F hm (F.binds fun _ _ _ _ _ _ us hl => match us, hl with | [_, _], _ => rfl) k
theorem ok__law_fraction (T : Top K mg) {R__law_gcd : Rel} (g__law_gcd : Zdef P w K mg base 1 "_law_gcd" ["one", "two"] R__law_gcd) : Zdef P w K mg base 2 "_law_fraction" ["top", "bottom"] (RelOf K [] (t__law_fraction K R__law_gcd) 3 2) := by
  obtain ⟨f, fd, F, hm⟩ := T.f__law_fraction
  exact def_z F hm sc__law_fraction rfl rfl (F.binds fun _ _ _ _ _ _ us hl => match us, hl with | [_, _], _ => rfl) fun cdv A outer s H E hr =>
    (pss_cons (ps_if (pt_cmpR op_lt (pv 1) pe_int (nomark _)) (pss_cons (ps_set (i := 0) sc__law_fraction.nd rfl (Or.inl rfl) (pe_un un_neg (pv 0)))
      (pss_one (ps_set (i := 1) sc__law_fraction.nd rfl (Or.inl rfl) (pe_un un_neg (pv 1))))) pss_nil)
      (pss_cons (ps_set (i := 2) sc__law_fraction.nd rfl (Or.inl rfl) (pe_callB (call_max2 rfl) (by rfl) T.n_max (by decide +kernel) (pa_cons (pe_callZ g__law_gcd hr (by omega) (by rfl) (pa_cons (pv 0) (pa_cons (pv 1) pa_nil))) (pa_cons pe_int pa_nil))))
      (pss_one (ps_ret (pe_tup (pa_cons (pe_op op_fdivZ (pv 0) (pv 2)) (pa_cons (pe_callB (call_max2 rfl) (by rfl) T.n_max (by decide +kernel) (pa_cons (pe_op op_fdivZ (pv 1) (pv 2)) (pa_cons pe_int pa_nil))) pa_nil)))))))
theorem ok__law_lower (T : Top K mg) {R__law_number : Rel} (g__law_number : Zdef P w K mg base 2 "_law_number" ["box", "most"] R__law_number) : Zdef P w K mg base 3 "_law_lower" ["box"] (RelOf K [0] (K20.t__law_lower K R__law_number) 2 1) := by
  obtain ⟨f, fd, F, hm⟩ := T.f__law_lower
  exact def_z F hm sc__law_lower rfl rfl (F.binds fun _ _ _ _ _ _ us hl => match us, hl with | [_], _ => rfl) fun cdv A outer s H E hr =>
    (pss_cons (ps_set (i := 1) sc__law_lower.nd rfl (Or.inl rfl) (pe_callZ g__law_number hr (by omega) (by rfl) (pa_cons (pv 0) (pa_cons (pe_op op_pow pe_int pe_int) pa_nil))))
      (pss_cons (ps_if (pt_cmpR op_eq (pv 1) pe_int (nomark _)) (pss_one (ps_ret pe_int)) pss_nil)
      (pss_one (ps_ret (pv 1)))))
theorem ok__law_text (T : Top K mg) : Zdef P w K mg base 1 "_law_text" ["one"] (RelOf K [] (K20.t__law_text K) 1 1) := by
  obtain ⟨f, fd, F, hm⟩ := T.f__law_text
  exact def_z F hm sc__law_text rfl rfl (F.binds fun _ _ _ _ _ _ us hl => match us, hl with | [_], _ => rfl) fun cdv A outer s H E hr =>
    (pss_cons (ps_if (pt_cmpR op_eq (pe_ix ix_seq (pv 0) pe_int (fun _ _ => rfl)) pe_int (nomark _)) (pss_one (ps_ret (pe_callTy call_str_int (by rfl) T.n_str (by decide +kernel) (pa_cons (pe_ix ix_seq (pv 0) pe_int (fun _ _ => rfl)) pa_nil)))) pss_nil)
      (pss_one (ps_ret (pe_op op_add_str (pe_op op_add_str (pe_callTy call_str_int (by rfl) T.n_str (by decide +kernel) (pa_cons (pe_ix ix_seq (pv 0) pe_int (fun _ _ => rfl)) pa_nil)) pe_str) (pe_callTy call_str_int (by rfl) T.n_str (by decide +kernel) (pa_cons (pe_ix ix_seq (pv 0) pe_int (fun _ _ => rfl)) pa_nil))))))
theorem ok_law (T : Top K mg) {R__law_box : Rel} (g__law_box : Zdef P w K mg base 2 "_law_box" ["script", "at"] R__law_box) {R__law_fraction : Rel} (g__law_fraction : Zdef P w K mg base 2 "_law_fraction" ["top", "bottom"] R__law_fraction) {R__law_lower : Rel} (g__law_lower : Zdef P w K mg base 3 "_law_lower" ["box"] R__law_lower) {R__law_number : Rel} (g__law_number : Zdef P w K mg base 2 "_law_number" ["box", "most"] R__law_number) {R__law_same : Rel} (g__law_same : Zdef P w K mg base 4 "_law_same" ["actual", "due"] R__law_same) {R__law_text : Rel} (g__law_text : Zdef P w K mg base 1 "_law_text" ["one"] R__law_text) {R_as_fractions : Rel} (g_as_fractions : Zdef P w K mg base 1 "as_fractions" ["integers"] R_as_fractions) {R_below : Rel} (g_below : Zdef P w K mg base 1 "below" ["one", "two"] R_below) {R_fraction : Rel} (g_fraction : Zdef P w K mg base 1 "fraction" ["top", "bottom"] R_fraction) {R_fraction_text : Rel} (g_fraction_text : Zdef P w K mg base 1 "fraction_text" ["one"] R_fraction_text) {R_minus : Rel} (g_minus : Zdef P w K mg base 2 "minus" ["one", "two"] R_minus) {R_over : Rel} (g_over : Zdef P w K mg base 2 "over" ["one", "two"] R_over) {R_plus : Rel} (g_plus : Zdef P w K mg base 2 "plus" ["one", "two"] R_plus) {R_times : Rel} (g_times : Zdef P w K mg base 2 "times" ["one", "two"] R_times) : Zdef P w K mg base 5 "law" ["script"] (RelOf K [] (K20.t_law K R__law_box R__law_fraction R__law_lower R__law_number R__law_same R__law_text R_as_fractions R_below R_fraction R_fraction_text R_minus R_over R_plus R_times) 9 1) := by
  obtain ⟨f, fd, F, hm⟩ := T.f_law
  exact def_z F hm sc_law rfl rfl (F.binds fun _ _ _ _ _ _ us hl => match us, hl with | [_], _ => rfl) fun cdv A outer s H E hr =>
    (pss_cons (ps_set (i := 1) sc_law.nd rfl (Or.inl rfl) (pe_callZ g__law_box hr (by omega) (by rfl) (pa_cons (pv 0) (pa_cons pe_int pa_nil))))
      (pss_cons (ps_set (i := 2) sc_law.nd rfl (Or.inr rfl) (pe_lst (pa_cons (pe_callZ g__law_number hr (by omega) (by rfl) (pa_cons (pv 1) (pa_cons (pe_op op_pow pe_int pe_int) pa_nil))) (pa_cons (pe_callZ g__law_number hr (by omega) (by rfl) (pa_cons (pv 1) (pa_cons (pe_op op_pow pe_int pe_int) pa_nil))) pa_nil))))
      (pss_cons (ps_set (i := 3) sc_law.nd rfl (Or.inr rfl) (pe_lst (pa_cons (pe_callZ g__law_lower hr (by omega) (by rfl) (pa_cons (pv 1) pa_nil)) (pa_cons (pe_callZ g__law_lower hr (by omega) (by rfl) (pa_cons (pv 1) pa_nil)) pa_nil))))
      (pss_cons (ps_setLc (i := 4) (own := [("k", 5)]) (g := (gName 5)) (tt := tYes) rfl sc_law.nd rfl rfl (sw_true rfl rfl rfl (by decide +kernel)) (pi_range1 (by rfl) T.n_range (pa_cons pe_int pa_nil)) (blkOk_by (N := ["script", "box", "tops", "lowers", "dues", "k", "one", "two", "great"]) (sc := defScope s_law) (by decide +kernel)) (fun _ _ _ _ _ => (pg_name (i := 5) sc_law.nd rfl (Or.inl rfl))) (fun _ _ _ _ _ => pts_nil) (fun _ _ _ _ _ => (pe_callZ g__law_fraction hr (by omega) (by rfl) (pa_cons (pe_ix ix_seq (pv 2) (pv 5) (fun _ _ => rfl)) (pa_cons (pe_ix ix_seq (pv 3) (pv 5) (fun _ _ => rfl)) pa_nil)))))
      (pss_cons (ps_for PassesOwn.never rfl (pi_range1 (by rfl) T.n_range (pa_cons pe_int pa_nil)) (pg_name (i := 5) sc_law.nd rfl (Or.inl rfl)) (pss_cons (ps_if (pt_not (pt_val (pe_callZ g__law_same hr (by omega) (by rfl) (pa_cons (pe_callZ g_fraction hr (by omega) (by rfl) (pa_cons (pe_ix ix_seq (pv 2) (pv 5) (fun _ _ => rfl)) (pa_cons (pe_ix ix_seq (pv 3) (pv 5) (fun _ _ => rfl)) pa_nil))) (pa_cons (pe_ix ix_seq (pv 4) (pv 5) (fun _ _ => rfl)) pa_nil))))) (pss_one (ps_ret pe_bl)) pss_nil)
      (pss_one (ps_if (pt_not (pt_val (pe_callZ g__law_same hr (by omega) (by rfl) (pa_cons (pe_callZ g_fraction_text hr (by omega) (by rfl) (pa_cons (pe_ix ix_seq (pv 4) (pv 5) (fun _ _ => rfl)) pa_nil)) (pa_cons (pe_callZ g__law_text hr (by omega) (by rfl) (pa_cons (pe_ix ix_seq (pv 4) (pv 5) (fun _ _ => rfl)) pa_nil)) pa_nil))))) (pss_one (ps_ret pe_bl)) pss_nil))))
      (pss_cons (ps_set (i := 6) sc_law.nd rfl (Or.inl rfl) (pe_ix ix_seq (pv 4) pe_int (fun _ _ => rfl)))
      (pss_cons (ps_set (i := 7) sc_law.nd rfl (Or.inl rfl) (pe_ix ix_seq (pv 4) pe_int (fun _ _ => rfl)))
      (pss_cons (ps_if (pt_not (pt_val (pe_callZ g__law_same hr (by omega) (by rfl) (pa_cons (pe_callZ g_plus hr (by omega) (by rfl) (pa_cons (pv 6) (pa_cons (pv 7) pa_nil))) (pa_cons (pe_callZ g__law_fraction hr (by omega) (by rfl) (pa_cons (pe_op op_add (pe_op op_mulW (pe_ix ix_seq (pv 6) pe_int (fun _ _ => rfl)) (pe_ix ix_seq (pv 7) pe_int (fun _ _ => rfl))) (pe_op op_mulW (pe_ix ix_seq (pv 7) pe_int (fun _ _ => rfl)) (pe_ix ix_seq (pv 6) pe_int (fun _ _ => rfl)))) (pa_cons (pe_op op_mulW (pe_ix ix_seq (pv 6) pe_int (fun _ _ => rfl)) (pe_ix ix_seq (pv 7) pe_int (fun _ _ => rfl))) pa_nil))) pa_nil))))) (pss_one (ps_ret pe_bl)) pss_nil)
      (pss_cons (ps_if (pt_not (pt_val (pe_callZ g__law_same hr (by omega) (by rfl) (pa_cons (pe_callZ g_minus hr (by omega) (by rfl) (pa_cons (pv 6) (pa_cons (pv 7) pa_nil))) (pa_cons (pe_callZ g__law_fraction hr (by omega) (by rfl) (pa_cons (pe_op op_sub (pe_op op_mulW (pe_ix ix_seq (pv 6) pe_int (fun _ _ => rfl)) (pe_ix ix_seq (pv 7) pe_int (fun _ _ => rfl))) (pe_op op_mulW (pe_ix ix_seq (pv 7) pe_int (fun _ _ => rfl)) (pe_ix ix_seq (pv 6) pe_int (fun _ _ => rfl)))) (pa_cons (pe_op op_mulW (pe_ix ix_seq (pv 6) pe_int (fun _ _ => rfl)) (pe_ix ix_seq (pv 7) pe_int (fun _ _ => rfl))) pa_nil))) pa_nil))))) (pss_one (ps_ret pe_bl)) pss_nil)
      (pss_cons (ps_if (pt_not (pt_val (pe_callZ g__law_same hr (by omega) (by rfl) (pa_cons (pe_callZ g_times hr (by omega) (by rfl) (pa_cons (pv 6) (pa_cons (pv 7) pa_nil))) (pa_cons (pe_callZ g__law_fraction hr (by omega) (by rfl) (pa_cons (pe_op op_mulW (pe_ix ix_seq (pv 6) pe_int (fun _ _ => rfl)) (pe_ix ix_seq (pv 7) pe_int (fun _ _ => rfl))) (pa_cons (pe_op op_mulW (pe_ix ix_seq (pv 6) pe_int (fun _ _ => rfl)) (pe_ix ix_seq (pv 7) pe_int (fun _ _ => rfl))) pa_nil))) pa_nil))))) (pss_one (ps_ret pe_bl)) pss_nil)
      (pss_cons (ps_if (pt_cmpR op_ne (pe_ix ix_seq (pv 7) pe_int (fun _ _ => rfl)) pe_int (nomark _)) (pss_one (ps_if (pt_not (pt_val (pe_callZ g__law_same hr (by omega) (by rfl) (pa_cons (pe_callZ g_over hr (by omega) (by rfl) (pa_cons (pv 6) (pa_cons (pv 7) pa_nil))) (pa_cons (pe_callZ g__law_fraction hr (by omega) (by rfl) (pa_cons (pe_op op_mulW (pe_ix ix_seq (pv 6) pe_int (fun _ _ => rfl)) (pe_ix ix_seq (pv 7) pe_int (fun _ _ => rfl))) (pa_cons (pe_op op_mulW (pe_ix ix_seq (pv 6) pe_int (fun _ _ => rfl)) (pe_ix ix_seq (pv 7) pe_int (fun _ _ => rfl))) pa_nil))) pa_nil))))) (pss_one (ps_ret pe_bl)) pss_nil)) pss_nil)
      (pss_cons (ps_if (pt_not (pt_val (pe_callZ g__law_same hr (by omega) (by rfl) (pa_cons (pe_callZ g_below hr (by omega) (by rfl) (pa_cons (pv 6) (pa_cons (pv 7) pa_nil))) (pa_cons (pe_cmpR op_lt (pe_op op_mulW (pe_ix ix_seq (pv 6) pe_int (fun _ _ => rfl)) (pe_ix ix_seq (pv 7) pe_int (fun _ _ => rfl))) (pe_op op_mulW (pe_ix ix_seq (pv 7) pe_int (fun _ _ => rfl)) (pe_ix ix_seq (pv 6) pe_int (fun _ _ => rfl))) (nomark _)) pa_nil))))) (pss_one (ps_ret pe_bl)) pss_nil)
      (pss_cons (ps_if (pt_not (pt_val (pe_callZ g__law_same hr (by omega) (by rfl) (pa_cons (pe_callZ g_below hr (by omega) (by rfl) (pa_cons (pv 6) (pa_cons (pv 6) pa_nil))) (pa_cons pe_bl pa_nil))))) (pss_one (ps_ret pe_bl)) pss_nil)
      (pss_cons (ps_set (i := 8) sc_law.nd rfl (Or.inl rfl) (pe_op op_add (pe_op op_pow pe_int pe_int) (pe_callB call_abs (by rfl) T.n_abs (by decide +kernel) (pa_cons (pe_ix ix_seq (pv 2) pe_int (fun _ _ => rfl)) pa_nil))))
      (pss_cons (ps_if (pt_not (pt_val (pe_callZ g__law_same hr (by omega) (by rfl) (pa_cons (pe_callZ g_below hr (by omega) (by rfl) (pa_cons (pe_tup (pa_cons (pe_op op_add (pv 8) pe_int) (pa_cons (pe_op op_add (pv 8) pe_int) pa_nil))) (pa_cons (pe_tup (pa_cons (pe_op op_add (pv 8) pe_int) (pa_cons (pv 8) pa_nil))) pa_nil))) (pa_cons pe_bl pa_nil))))) (pss_one (ps_ret pe_bl)) pss_nil)
      (pss_cons (ps_if (pt_not (pt_val (pe_callZ g__law_same hr (by omega) (by rfl) (pa_cons (pe_callZ g_below hr (by omega) (by rfl) (pa_cons (pe_tup (pa_cons (pe_op op_add (pv 8) pe_int) (pa_cons (pv 8) pa_nil))) (pa_cons (pe_tup (pa_cons (pe_op op_add (pv 8) pe_int) (pa_cons (pe_op op_add (pv 8) pe_int) pa_nil))) pa_nil))) (pa_cons pe_bl pa_nil))))) (pss_one (ps_ret pe_bl)) pss_nil)
      (pss_one (ps_ret (pe_callZ g__law_same hr (by omega) (by rfl) (pa_cons (pe_callZ g_as_fractions hr (by omega) (by rfl) (pa_cons (pe_callTy call_tuple_of (by rfl) T.n_tuple (by decide +kernel) (pa_cons (pv 2) pa_nil)) pa_nil)) (pa_cons (pe_tup (pa_cons (pe_tup (pa_cons (pe_ix ix_seq (pv 2) pe_int (fun _ _ => rfl)) (pa_cons pe_int pa_nil))) (pa_cons (pe_tup (pa_cons (pe_ix ix_seq (pv 2) pe_int (fun _ _ => rfl)) (pa_cons pe_int pa_nil))) pa_nil))) pa_nil)))))))))))))))))))))
end
theorem all_mk {l : PySem.W.OpenLaw} {w : World} {K : PySem.W.Frag} {h : Heap} {mg : Str → Option Value} {fa : Addr} (X : K.In h) (G : h.Ns mainGlobals mg) (hfa : mg "law" = some (.ref fa))
    {f0 : Addr} {od0 an0 : Option Addr} {sl0 : Array (Option Value)} {oc0 kV0 dc0 pm0 cd0 ct0 : Value}
    (a0 : PySem.W.nsIn K mainGlobals "fraction" = some (some (.ref f0))) (l0 : K.lookup f0 = some ⟨oc0, od0, .func (PySem.W.fnOf "fraction" "fraction" (defArgs s_fraction) (defBody s_fraction) (defScope s_fraction) .none kV0 dc0 pm0 an0 cd0 ct0), sl0⟩) (c0 : PySem.W.codeIn K cd0 "fraction" = true) (k0 : PySem.W.keepIn K (.ref f0) = true)
    {f1 : Addr} {od1 an1 : Option Addr} {sl1 : Array (Option Value)} {oc1 kV1 dc1 pm1 cd1 ct1 : Value}
    (a1 : PySem.W.nsIn K mainGlobals "plus" = some (some (.ref f1))) (l1 : K.lookup f1 = some ⟨oc1, od1, .func (PySem.W.fnOf "plus" "plus" (defArgs s_plus) (defBody s_plus) (defScope s_plus) .none kV1 dc1 pm1 an1 cd1 ct1), sl1⟩) (c1 : PySem.W.codeIn K cd1 "plus" = true) (k1 : PySem.W.keepIn K (.ref f1) = true)
    {f2 : Addr} {od2 an2 : Option Addr} {sl2 : Array (Option Value)} {oc2 kV2 dc2 pm2 cd2 ct2 : Value}
    (a2 : PySem.W.nsIn K mainGlobals "minus" = some (some (.ref f2))) (l2 : K.lookup f2 = some ⟨oc2, od2, .func (PySem.W.fnOf "minus" "minus" (defArgs s_minus) (defBody s_minus) (defScope s_minus) .none kV2 dc2 pm2 an2 cd2 ct2), sl2⟩) (c2 : PySem.W.codeIn K cd2 "minus" = true) (k2 : PySem.W.keepIn K (.ref f2) = true)
    {f3 : Addr} {od3 an3 : Option Addr} {sl3 : Array (Option Value)} {oc3 kV3 dc3 pm3 cd3 ct3 : Value}
    (a3 : PySem.W.nsIn K mainGlobals "times" = some (some (.ref f3))) (l3 : K.lookup f3 = some ⟨oc3, od3, .func (PySem.W.fnOf "times" "times" (defArgs s_times) (defBody s_times) (defScope s_times) .none kV3 dc3 pm3 an3 cd3 ct3), sl3⟩) (c3 : PySem.W.codeIn K cd3 "times" = true) (k3 : PySem.W.keepIn K (.ref f3) = true)
    {f4 : Addr} {od4 an4 : Option Addr} {sl4 : Array (Option Value)} {oc4 kV4 dc4 pm4 cd4 ct4 : Value}
    (a4 : PySem.W.nsIn K mainGlobals "over" = some (some (.ref f4))) (l4 : K.lookup f4 = some ⟨oc4, od4, .func (PySem.W.fnOf "over" "over" (defArgs s_over) (defBody s_over) (defScope s_over) .none kV4 dc4 pm4 an4 cd4 ct4), sl4⟩) (c4 : PySem.W.codeIn K cd4 "over" = true) (k4 : PySem.W.keepIn K (.ref f4) = true)
    {f5 : Addr} {od5 an5 : Option Addr} {sl5 : Array (Option Value)} {oc5 kV5 dc5 pm5 cd5 ct5 : Value}
    (a5 : PySem.W.nsIn K mainGlobals "below" = some (some (.ref f5))) (l5 : K.lookup f5 = some ⟨oc5, od5, .func (PySem.W.fnOf "below" "below" (defArgs s_below) (defBody s_below) (defScope s_below) .none kV5 dc5 pm5 an5 cd5 ct5), sl5⟩) (c5 : PySem.W.codeIn K cd5 "below" = true) (k5 : PySem.W.keepIn K (.ref f5) = true)
    {f6 : Addr} {od6 an6 : Option Addr} {sl6 : Array (Option Value)} {oc6 kV6 dc6 pm6 cd6 ct6 : Value}
    (a6 : PySem.W.nsIn K mainGlobals "fraction_text" = some (some (.ref f6))) (l6 : K.lookup f6 = some ⟨oc6, od6, .func (PySem.W.fnOf "fraction_text" "fraction_text" (defArgs s_fraction_text) (defBody s_fraction_text) (defScope s_fraction_text) .none kV6 dc6 pm6 an6 cd6 ct6), sl6⟩) (c6 : PySem.W.codeIn K cd6 "fraction_text" = true) (k6 : PySem.W.keepIn K (.ref f6) = true)
    {f7 : Addr} {od7 an7 : Option Addr} {sl7 : Array (Option Value)} {oc7 kV7 dc7 pm7 cd7 ct7 : Value}
    (a7 : PySem.W.nsIn K mainGlobals "as_fractions" = some (some (.ref f7))) (l7 : K.lookup f7 = some ⟨oc7, od7, .func (PySem.W.fnOf "as_fractions" "as_fractions" (defArgs s_as_fractions) (defBody s_as_fractions) (defScope s_as_fractions) .none kV7 dc7 pm7 an7 cd7 ct7), sl7⟩) (c7 : PySem.W.codeIn K cd7 "as_fractions" = true) (k7 : PySem.W.keepIn K (.ref f7) = true)
    {f8 : Addr} {od8 an8 : Option Addr} {sl8 : Array (Option Value)} {oc8 kV8 dc8 pm8 cd8 ct8 : Value}
    (a8 : PySem.W.nsIn K mainGlobals "_law_cell" = some (some (.ref f8))) (l8 : K.lookup f8 = some ⟨oc8, od8, .func (PySem.W.fnOf "_law_cell" "_law_cell" (defArgs s__law_cell) (defBody s__law_cell) (defScope s__law_cell) .none kV8 dc8 pm8 an8 cd8 ct8), sl8⟩) (c8 : PySem.W.codeIn K cd8 "_law_cell" = true) (k8 : PySem.W.keepIn K (.ref f8) = true)
    {f9 : Addr} {od9 an9 : Option Addr} {sl9 : Array (Option Value)} {oc9 kV9 dc9 pm9 cd9 ct9 : Value}
    (a9 : PySem.W.nsIn K mainGlobals "_law_digits" = some (some (.ref f9))) (l9 : K.lookup f9 = some ⟨oc9, od9, .func (PySem.W.fnOf "_law_digits" "_law_digits" (defArgs s__law_digits) (defBody s__law_digits) (defScope s__law_digits) .none kV9 dc9 pm9 an9 cd9 ct9), sl9⟩) (c9 : PySem.W.codeIn K cd9 "_law_digits" = true) (k9 : PySem.W.keepIn K (.ref f9) = true)
    {f10 : Addr} {od10 an10 : Option Addr} {sl10 : Array (Option Value)} {oc10 kV10 dc10 pm10 cd10 ct10 : Value}
    (a10 : PySem.W.nsIn K mainGlobals "_law_box" = some (some (.ref f10))) (l10 : K.lookup f10 = some ⟨oc10, od10, .func (PySem.W.fnOf "_law_box" "_law_box" (defArgs s__law_box) (defBody s__law_box) (defScope s__law_box) .none kV10 dc10 pm10 an10 cd10 ct10), sl10⟩) (c10 : PySem.W.codeIn K cd10 "_law_box" = true) (k10 : PySem.W.keepIn K (.ref f10) = true)
    {f11 : Addr} {od11 an11 : Option Addr} {sl11 : Array (Option Value)} {oc11 kV11 dc11 pm11 cd11 ct11 : Value}
    (a11 : PySem.W.nsIn K mainGlobals "_law_draw" = some (some (.ref f11))) (l11 : K.lookup f11 = some ⟨oc11, od11, .func (PySem.W.fnOf "_law_draw" "_law_draw" (defArgs s__law_draw) (defBody s__law_draw) (defScope s__law_draw) .none kV11 dc11 pm11 an11 cd11 ct11), sl11⟩) (c11 : PySem.W.codeIn K cd11 "_law_draw" = true) (k11 : PySem.W.keepIn K (.ref f11) = true)
    {f12 : Addr} {od12 an12 : Option Addr} {sl12 : Array (Option Value)} {oc12 kV12 dc12 pm12 cd12 ct12 : Value}
    (a12 : PySem.W.nsIn K mainGlobals "_law_number" = some (some (.ref f12))) (l12 : K.lookup f12 = some ⟨oc12, od12, .func (PySem.W.fnOf "_law_number" "_law_number" (defArgs s__law_number) (defBody s__law_number) (defScope s__law_number) .none kV12 dc12 pm12 an12 cd12 ct12), sl12⟩) (c12 : PySem.W.codeIn K cd12 "_law_number" = true) (k12 : PySem.W.keepIn K (.ref f12) = true)
    {f13 : Addr} {od13 an13 : Option Addr} {sl13 : Array (Option Value)} {oc13 kV13 dc13 pm13 cd13 ct13 : Value}
    (a13 : PySem.W.nsIn K mainGlobals "_law_gcd" = some (some (.ref f13))) (l13 : K.lookup f13 = some ⟨oc13, od13, .func (PySem.W.fnOf "_law_gcd" "_law_gcd" (defArgs s__law_gcd) (defBody s__law_gcd) (defScope s__law_gcd) .none kV13 dc13 pm13 an13 cd13 ct13), sl13⟩) (c13 : PySem.W.codeIn K cd13 "_law_gcd" = true) (k13 : PySem.W.keepIn K (.ref f13) = true)
    {f14 : Addr} {od14 an14 : Option Addr} {sl14 : Array (Option Value)} {oc14 kV14 dc14 pm14 cd14 ct14 : Value}
    (a14 : PySem.W.nsIn K mainGlobals "_law_is_integer" = some (some (.ref f14))) (l14 : K.lookup f14 = some ⟨oc14, od14, .func (PySem.W.fnOf "_law_is_integer" "_law_is_integer" (defArgs s__law_is_integer) (defBody s__law_is_integer) (defScope s__law_is_integer) .none kV14 dc14 pm14 an14 cd14 ct14), sl14⟩) (c14 : PySem.W.codeIn K cd14 "_law_is_integer" = true) (k14 : PySem.W.keepIn K (.ref f14) = true)
    {f15 : Addr} {od15 an15 : Option Addr} {sl15 : Array (Option Value)} {oc15 kV15 dc15 pm15 cd15 ct15 : Value}
    (a15 : PySem.W.nsIn K mainGlobals "_law_same" = some (some (.ref f15))) (l15 : K.lookup f15 = some ⟨oc15, od15, .func (PySem.W.fnOf "_law_same" "_law_same" (defArgs s__law_same) (defBody s__law_same) (defScope s__law_same) .none kV15 dc15 pm15 an15 cd15 ct15), sl15⟩) (c15 : PySem.W.codeIn K cd15 "_law_same" = true) (k15 : PySem.W.keepIn K (.ref f15) = true)
    {f16 : Addr} {od16 an16 : Option Addr} {sl16 : Array (Option Value)} {oc16 kV16 dc16 pm16 cd16 ct16 : Value}
    (a16 : PySem.W.nsIn K mainGlobals "_law_fraction" = some (some (.ref f16))) (l16 : K.lookup f16 = some ⟨oc16, od16, .func (PySem.W.fnOf "_law_fraction" "_law_fraction" (defArgs s__law_fraction) (defBody s__law_fraction) (defScope s__law_fraction) .none kV16 dc16 pm16 an16 cd16 ct16), sl16⟩) (c16 : PySem.W.codeIn K cd16 "_law_fraction" = true) (k16 : PySem.W.keepIn K (.ref f16) = true)
    {f17 : Addr} {od17 an17 : Option Addr} {sl17 : Array (Option Value)} {oc17 kV17 dc17 pm17 cd17 ct17 : Value}
    (a17 : PySem.W.nsIn K mainGlobals "_law_lower" = some (some (.ref f17))) (l17 : K.lookup f17 = some ⟨oc17, od17, .func (PySem.W.fnOf "_law_lower" "_law_lower" (defArgs s__law_lower) (defBody s__law_lower) (defScope s__law_lower) .none kV17 dc17 pm17 an17 cd17 ct17), sl17⟩) (c17 : PySem.W.codeIn K cd17 "_law_lower" = true) (k17 : PySem.W.keepIn K (.ref f17) = true)
    {f18 : Addr} {od18 an18 : Option Addr} {sl18 : Array (Option Value)} {oc18 kV18 dc18 pm18 cd18 ct18 : Value}
    (a18 : PySem.W.nsIn K mainGlobals "_law_text" = some (some (.ref f18))) (l18 : K.lookup f18 = some ⟨oc18, od18, .func (PySem.W.fnOf "_law_text" "_law_text" (defArgs s__law_text) (defBody s__law_text) (defScope s__law_text) .none kV18 dc18 pm18 an18 cd18 ct18), sl18⟩) (c18 : PySem.W.codeIn K cd18 "_law_text" = true) (k18 : PySem.W.keepIn K (.ref f18) = true)
    {f19 : Addr} {od19 an19 : Option Addr} {sl19 : Array (Option Value)} {oc19 kV19 dc19 pm19 cd19 ct19 : Value}
    (a19 : PySem.W.nsIn K mainGlobals "law" = some (some (.ref f19))) (l19 : K.lookup f19 = some ⟨oc19, od19, .func (PySem.W.fnOf "law" "law" (defArgs s_law) (defBody s_law) (defScope s_law) .none kV19 dc19 pm19 an19 cd19 ct19), sl19⟩) (c19 : PySem.W.codeIn K cd19 "law" = true) (k19 : PySem.W.keepIn K (.ref f19) = true)
    (n_abs : PySem.W.nsIn K mainGlobals "abs" = some none)
    (n_all : PySem.W.nsIn K mainGlobals "all" = some none)
    (n_bool : PySem.W.nsIn K mainGlobals "bool" = some none)
    (n_gcd : PySem.W.nsIn K mainGlobals "gcd" = some (some (.builtin "math.gcd")))
    (n_int : PySem.W.nsIn K mainGlobals "int" = some none)
    (n_isinstance : PySem.W.nsIn K mainGlobals "isinstance" = some none)
    (n_len : PySem.W.nsIn K mainGlobals "len" = some none)
    (n_max : PySem.W.nsIn K mainGlobals "max" = some none)
    (n_range : PySem.W.nsIn K mainGlobals "range" = some none)
    (n_str : PySem.W.nsIn K mainGlobals "str" = some none)
    (n_tuple : PySem.W.nsIn K mainGlobals "tuple" = some none)
    : ∃ fd : FuncData, (∀ (s : Shared) (v : Value), BindsTo s fd ⟨[v], []⟩ [("script", v)]) ∧ ∀ base : Heap, K.In base → base.Ns mainGlobals mg → FnOk l.prog w K mg base CX0 5 fa fd ["script"] (SpLaw K) := by
  have e := hfa.symm.trans (PySem.W.mg_of X G a19)
  cases e
  have T : Top K mg   := ⟨PySem.W.mg_none_of X G n_abs, PySem.W.mg_none_of X G n_all, PySem.W.mg_none_of X G n_bool, PySem.W.mg_of X G n_gcd, PySem.W.mg_none_of X G n_int, PySem.W.mg_none_of X G n_isinstance, PySem.W.mg_none_of X G n_len, PySem.W.mg_none_of X G n_max, PySem.W.mg_none_of X G n_range, PySem.W.mg_none_of X G n_str, PySem.W.mg_none_of X G n_tuple, ⟨_, _, fun_mk (st := s_fraction) l0 c0 k0, PySem.W.mg_of X G a0⟩, ⟨_, _, fun_mk (st := s_plus) l1 c1 k1, PySem.W.mg_of X G a1⟩, ⟨_, _, fun_mk (st := s_minus) l2 c2 k2, PySem.W.mg_of X G a2⟩, ⟨_, _, fun_mk (st := s_times) l3 c3 k3, PySem.W.mg_of X G a3⟩, ⟨_, _, fun_mk (st := s_over) l4 c4 k4, PySem.W.mg_of X G a4⟩, ⟨_, _, fun_mk (st := s_below) l5 c5 k5, PySem.W.mg_of X G a5⟩, ⟨_, _, fun_mk (st := s_fraction_text) l6 c6 k6, PySem.W.mg_of X G a6⟩, ⟨_, _, fun_mk (st := s_as_fractions) l7 c7 k7, PySem.W.mg_of X G a7⟩, ⟨_, _, fun_mk (st := s__law_cell) l8 c8 k8, PySem.W.mg_of X G a8⟩, ⟨_, _, fun_mk (st := s__law_digits) l9 c9 k9, PySem.W.mg_of X G a9⟩, ⟨_, _, fun_mk (st := s__law_box) l10 c10 k10, PySem.W.mg_of X G a10⟩, ⟨_, _, fun_mk (st := s__law_draw) l11 c11 k11, PySem.W.mg_of X G a11⟩, ⟨_, _, fun_mk (st := s__law_number) l12 c12 k12, PySem.W.mg_of X G a12⟩, ⟨_, _, fun_mk (st := s__law_gcd) l13 c13 k13, PySem.W.mg_of X G a13⟩, ⟨_, _, fun_mk (st := s__law_is_integer) l14 c14 k14, PySem.W.mg_of X G a14⟩, ⟨_, _, fun_mk (st := s__law_same) l15 c15 k15, PySem.W.mg_of X G a15⟩, ⟨_, _, fun_mk (st := s__law_fraction) l16 c16 k16, PySem.W.mg_of X G a16⟩, ⟨_, _, fun_mk (st := s__law_lower) l17 c17 k17, PySem.W.mg_of X G a17⟩, ⟨_, _, fun_mk (st := s__law_text) l18 c18 k18, PySem.W.mg_of X G a18⟩, ⟨_, _, fun_mk (st := s_law) l19 c19 k19, PySem.W.mg_of X G a19⟩⟩
  refine ⟨PySem.W.fnOf "law" "law" (defArgs s_law) (defBody s_law) (defScope s_law) .none kV19 dc19 pm19 an19 cd19 ct19, fun s v => .of_eq rfl, fun base _ _ => ?_⟩
  have fin : ∀ {R : Rel}, (∀ ns : List Int, R [.fr (.lst (ns.map .int))] (.fr (.bl true)) [.fr (.lst (ns.map .int))]) → Zdef l.prog w K mg base 5 "law" ["script"] R → FnOk l.prog w K mg base CX0 5 fa (PySem.W.fnOf "law" "law" (defArgs s_law) (defBody s_law) (defScope s_law) .none kV19 dc19 pm19 an19 cd19 ct19) ["script"] (SpLaw K) := fun hR Z => law_fd Z hfa l19 (law_imp hR)
  have gfr := ok_fraction (base := base) (P := l.prog) (w := w) T
  have gpl := ok_plus T gfr
  have gmi := ok_minus T gfr
  have gti := ok_times T gfr
  have gov := ok_over T gfr
  have gbe := ok_below (base := base) (P := l.prog) (w := w) T
  have gft := ok_fraction_text (base := base) (P := l.prog) (w := w) T
  have gas := ok_as_fractions (base := base) (P := l.prog) (w := w) T
  have gc := ok__law_cell (base := base) (P := l.prog) (w := w) T
  have gd := ok__law_digits (base := base) (P := l.prog) (w := w) T
  have gb := ok__law_box T gc gd
  have gw := ok__law_draw (base := base) (P := l.prog) (w := w) T
  have gn := ok__law_number T gw
  have gg := ok__law_gcd (base := base) (P := l.prog) (w := w) T
  have gi := ok__law_is_integer (base := base) (P := l.prog) (w := w) T
  have gs := ok__law_same (lv := 2) T gi (ok__law_same (lv := 1) T gi (ok__law_same (lv := 0) T gi (no__law_same T 1)))
  have glf := ok__law_fraction T gg
  have glo := ok__law_lower T gn
  have glt := ok__law_text (base := base) (P := l.prog) (w := w) T
  have z := ok_law T gb glf glo gn gs glt gas gbe gfr gft gmi gov gpl gti
  refine fin (fun ns => ?_) z
  have sn := rel_number (K := K) (sem_draw (K := K))
  have sf := rel_fraction (K := K)
  exact K20.sem_law (K20.box_of (sem_box sem_cell sem_digits)) (rel_law_fraction rel_gcd) (K20.rel_low sn) sn (K20.same_of (sem_same (n := 2) sem_is_integer (sem_same (n := 1) sem_is_integer (sem_same (n := 0) sem_is_integer (fun cs h => by obtain ⟨d, _, h⟩ := h; cases h))))) K20.rel_ltext K20.rel_as rel_below sf K20.rel_ftext (rel_minus sf) (rel_over sf) (rel_plus sf) (rel_times sf) ns
end Z
open PySem PySem.W PyProof.Rows
set_option maxHeartbeats 0 in
theorem PySem.Challenge.cw_cubesums_k20_exact_fractions_holds : PySem.Challenge.rw_cubesums_k20_exact_fractions.Holds := by
  w_on; o_law; k_head; (case hw => w_witness2)
  k_fill
  refine L2.walk_of (l := PySem.Challenge.rw_cubesums_k20_exact_fractions) (n := 63) (k := 5) (x := "script") (CX := fun _ => L2.CX0) (sp := fun w => Z.SpLaw _) rfl (by decide) rfl ⟨rfl, by decide, by decide⟩ (fun w h Y => PySem.W.kIn_of Y) ?F (fun _ _ a ns hl _ hS => ⟨a, ns, rfl, hS, fun _ => rfl⟩) (fun _ _ _ _ _ h => h)
  case F =>
    intro w mg fa h KX G hmg
    refine' Z.all_mk KX G hmg ?a0 ?l0 ?c0 ?k0 ?a1 ?l1 ?c1 ?k1 ?a2 ?l2 ?c2 ?k2 ?a3 ?l3 ?c3 ?k3 ?a4 ?l4 ?c4 ?k4 ?a5 ?l5 ?c5 ?k5 ?a6 ?l6 ?c6 ?k6 ?a7 ?l7 ?c7 ?k7 ?a8 ?l8 ?c8 ?k8 ?a9 ?l9 ?c9 ?k9 ?a10 ?l10 ?c10 ?k10 ?a11 ?l11 ?c11 ?k11 ?a12 ?l12 ?c12 ?k12 ?a13 ?l13 ?c13 ?k13 ?a14 ?l14 ?c14 ?k14 ?a15 ?l15 ?c15 ?k15 ?a16 ?l16 ?c16 ?k16 ?a17 ?l17 ?c17 ?k17 ?a18 ?l18 ?c18 ?k18 ?a19 ?l19 ?c19 ?k19 ?n_abs ?n_all ?n_bool ?n_gcd ?n_int ?n_isinstance ?n_len ?n_max ?n_range ?n_str ?n_tuple
    (case a0 => k_is)
    (case l0 => k_is)
    (case c0 => k_is)
    (case k0 => k_is)
    (case a1 => k_is)
    (case l1 => k_is)
    (case c1 => k_is)
    (case k1 => k_is)
    (case a2 => k_is)
    (case l2 => k_is)
    (case c2 => k_is)
    (case k2 => k_is)
    (case a3 => k_is)
    (case l3 => k_is)
    (case c3 => k_is)
    (case k3 => k_is)
    (case a4 => k_is)
    (case l4 => k_is)
    (case c4 => k_is)
    (case k4 => k_is)
    (case a5 => k_is)
    (case l5 => k_is)
    (case c5 => k_is)
    (case k5 => k_is)
    (case a6 => k_is)
    (case l6 => k_is)
    (case c6 => k_is)
    (case k6 => k_is)
    (case a7 => k_is)
    (case l7 => k_is)
    (case c7 => k_is)
    (case k7 => k_is)
    (case a8 => k_is)
    (case l8 => k_is)
    (case c8 => k_is)
    (case k8 => k_is)
    (case a9 => k_is)
    (case l9 => k_is)
    (case c9 => k_is)
    (case k9 => k_is)
    (case a10 => k_is)
    (case l10 => k_is)
    (case c10 => k_is)
    (case k10 => k_is)
    (case a11 => k_is)
    (case l11 => k_is)
    (case c11 => k_is)
    (case k11 => k_is)
    (case a12 => k_is)
    (case l12 => k_is)
    (case c12 => k_is)
    (case k12 => k_is)
    (case a13 => k_is)
    (case l13 => k_is)
    (case c13 => k_is)
    (case k13 => k_is)
    (case a14 => k_is)
    (case l14 => k_is)
    (case c14 => k_is)
    (case k14 => k_is)
    (case a15 => k_is)
    (case l15 => k_is)
    (case c15 => k_is)
    (case k15 => k_is)
    (case a16 => k_is)
    (case l16 => k_is)
    (case c16 => k_is)
    (case k16 => k_is)
    (case a17 => k_is)
    (case l17 => k_is)
    (case c17 => k_is)
    (case k17 => k_is)
    (case a18 => k_is)
    (case l18 => k_is)
    (case c18 => k_is)
    (case k18 => k_is)
    (case a19 => k_is)
    (case l19 => k_is)
    (case c19 => k_is)
    (case k19 => k_is)
    (case n_abs => k_is)
    (case n_all => k_is)
    (case n_bool => k_is)
    (case n_gcd => k_is)
    (case n_int => k_is)
    (case n_isinstance => k_is)
    (case n_len => k_is)
    (case n_max => k_is)
    (case n_range => k_is)
    (case n_str => k_is)
    (case n_tuple => k_is)

