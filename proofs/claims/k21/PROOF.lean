import PyProof.Rows.All
import Wide.All
import OpenK.AllK
import Wide.FinOn
import HandS.ForMost
import HandS.Evl
import HandS.IsInst
import KE.GoesEnum
import PyProof.EnumMake
import KE.KDictSum
import HandS.Conv
import HandS.ExcOwn
import HandS.ExcValue
import HandS.Zip
import HandS.Star
import HandS.Text
import HandS.Wide
import HandS.Gcd
import HandS.FStr
import HandS.DictComp
import HandS.Strs
import PyProof.Rows.SetFrom
import HandS.SetKeys
import HandS.Rev
import PySem.Challenge.RW_cubesums_k21_primitive_vectors
set_option Elab.async false
set_option linter.all false
set_option maxRecDepth 100000
set_option maxHeartbeats 2000000
/-! ZBase: values by what they say. A frozen heap G within the heap H, cells of slots (frozen data, or a list that the frame alone changes), what an expression, a test, a row of arguments, a statement comes to, told over cells alone. -/
namespace Z
open PySem L2
open Evl (Ex Ex.refl Ex.trans Ex.new ex_rd ex_l ex_t sq_of st_of fresh_back)

inductive D where
  | non
  | bl (b : Bool)
  | int (i : Int)
  | str (x : Str)
  | lst (l : List D)
  | tup (l : List D)
  | dK (l : List (Key × D))
  | dT (l : List (List Key × D))
  | ins (C : Addr) (l : List (Str × D))
  | rng (lo hi : Int)
  | tupf (l : List D)

/-- a tuple of tuples -/
def Heads (ds : List D) : Prop := ∃ es r, ds = .tup es :: r
/-- the tuple (0, 1) of the module's own -/
def KPair (K : PySem.W.Frag) (a : Addr) : Prop := ∃ (o : Obj) (its : Array Value) (n : Nat), K.lookup a = some o ∧ o.cls = .type "tuple" ∧ o.data = .seq its n ∧ its.size ≤ sizeLine ∧ Vals [.int 0, .int 1] its.toList
section
variable (K : PySem.W.Frag)
mutual
inductive Dz (H : Hp) : V → D → Prop
  | non : Dz H .non .non
  | bl (b : Bool) : Dz H (.bl b) (.bl b)
  | int (i : Int) : Dz H (.int i) (.int i)
  | str (x : Str) : Dz H (.str x) (.str x)
  | lst {a : Addr} {xs : List V} {ds : List D} : SqL K H a xs → Dzs H xs ds → Dz H (.ref a) (.lst ds)
  | tup {a : Addr} {xs : List V} {ds : List D} : H a = some (.tup xs) → Dzs H xs ds → Dz H (.ref a) (.tup ds)
  | zt {a : Addr} : KPair K a → Dz H (.ref a) (.tup [.int 0, .int 1])
  | dK {a : Addr} {xs : List (Key × V)} {ds : List (Key × D)} : H a = some (.dK xs) → DzP H xs ds → Dz H (.ref a) (.dK ds)
  | dT {a : Addr} {xs : List (List Key × V)} {ds : List (List Key × D)} : H a = some (.dT xs) → DzT H xs ds → Dz H (.ref a) (.dT ds)
  | ins {a C dx : Addr} {xs : List (Str × V)} {ds : List (Str × D)} : H a = some (.ins C dx xs) → DzF H xs ds → Dz H (.ref a) (.ins C ds)
  | rng {a : Addr} {lo hi : Int} : H a = some (.rng lo hi) → Dz H (.ref a) (.rng lo hi)
  | ft {a : Addr} {o : Obj} {xs : List V} {ds : List D} : H a = some (.frz o (.tup xs)) → Heads ds → Dzs H xs ds → Dz H (.ref a) (.tup ds)
  | tupf {a : Addr} {o : Obj} {xs : List V} {ds : List D} : H a = some (.frz o (.tup xs)) → o.cls = .type "tuple" → o.dict = none → Heads ds → Dzs H xs ds → Dz H (.ref a) (.tupf ds)
inductive Dzs (H : Hp) : List V → List D → Prop
  | nil : Dzs H [] []
  | cons {v : V} {d : D} {xs : List V} {ds : List D} : Dz H v d → Dzs H xs ds → Dzs H (v :: xs) (d :: ds)
inductive DzP (H : Hp) : List (Key × V) → List (Key × D) → Prop
  | nil : DzP H [] []
  | cons {k : Key} {v : V} {d : D} {xs : List (Key × V)} {ds : List (Key × D)} : Dz H v d → DzP H xs ds → DzP H ((k, v) :: xs) ((k, d) :: ds)
inductive DzT (H : Hp) : List (List Key × V) → List (List Key × D) → Prop
  | nil : DzT H [] []
  | cons {k : List Key} {v : V} {d : D} {xs : List (List Key × V)} {ds : List (List Key × D)} : Dz H v d → DzT H xs ds → DzT H ((k, v) :: xs) ((k, d) :: ds)
inductive DzF (H : Hp) : List (Str × V) → List (Str × D) → Prop
  | nil : DzF H [] []
  | cons {k : Str} {v : V} {d : D} {xs : List (Str × V)} {ds : List (Str × D)} : Dz H v d → DzF H xs ds → DzF H ((k, v) :: xs) ((k, d) :: ds)
end
end

section
variable {K : PySem.W.Frag} {H H' : Hp}
mutual
theorem Dz.mono (e : Ex H H') : ∀ {v : V} {d : D}, Dz K H v d → Dz K H' v d
  | _, _, .non => .non
  | _, _, .bl b => .bl b
  | _, _, .int i => .int i
  | _, _, .str x => .str x
  | _, _, .lst h hs => .lst (ex_l e h) (Dzs.mono e hs)
  | _, _, .tup h hs => .tup (e _ _ h) (Dzs.mono e hs)
  | _, _, .zt h => .zt h
  | _, _, .dK h hs => .dK (e _ _ h) (DzP.mono e hs)
  | _, _, .dT h hs => .dT (e _ _ h) (DzT.mono e hs)
  | _, _, .ins h hs => .ins (e _ _ h) (DzF.mono e hs)
  | _, _, .rng h => .rng (e _ _ h)
  | _, _, .ft h hd hs => .ft (e _ _ h) hd (Dzs.mono e hs)
  | _, _, .tupf h hc hn hd hs => .tupf (e _ _ h) hc hn hd (Dzs.mono e hs)
theorem Dzs.mono (e : Ex H H') : ∀ {xs : List V} {ds : List D}, Dzs K H xs ds → Dzs K H' xs ds
  | _, _, .nil => .nil
  | _, _, .cons h hs => .cons (Dz.mono e h) (Dzs.mono e hs)
theorem DzP.mono (e : Ex H H') : ∀ {xs : List (Key × V)} {ds : List (Key × D)}, DzP K H xs ds → DzP K H' xs ds
  | _, _, .nil => .nil
  | _, _, .cons h hs => .cons (Dz.mono e h) (DzP.mono e hs)
theorem DzT.mono (e : Ex H H') : ∀ {xs : List (List Key × V)} {ds : List (List Key × D)}, DzT K H xs ds → DzT K H' xs ds
  | _, _, .nil => .nil
  | _, _, .cons h hs => .cons (Dz.mono e h) (DzT.mono e hs)
theorem DzF.mono (e : Ex H H') : ∀ {xs : List (Str × V)} {ds : List (Str × D)}, DzF K H xs ds → DzF K H' xs ds
  | _, _, .nil => .nil
  | _, _, .cons h hs => .cons (Dz.mono e h) (DzF.mono e hs)
end
theorem Dzs.len : ∀ {xs : List V} {ds : List D}, Dzs K H xs ds → xs.length = ds.length
  | _, _, .nil => rfl
  | _, _, .cons _ hs => congrArg (· + 1) hs.len
theorem Dzs.get : ∀ {xs : List V} {ds : List D} {i : Nat} {d : D}, Dzs K H xs ds → ds[i]? = some d → ∃ v, xs[i]? = some v ∧ Dz K H v d
  | _, _, 0, _, .cons h _, e => ⟨_, rfl, by have q := Option.some.inj e; subst q; exact h⟩
  | _, _, i + 1, d, .cons (xs := xs) (ds := ds) _ hs, e => Dzs.get (i := i) hs (by simpa using e)
theorem Dzs.app : ∀ {xs ys : List V} {ds es : List D}, Dzs K H xs ds → Dzs K H ys es → Dzs K H (xs ++ ys) (ds ++ es)
  | _, _, _, _, .nil, h => h
  | _, _, _, _, .cons h hs, k => .cons h (hs.app k)
theorem Dzs.snoc {xs : List V} {ds : List D} {v : V} {d : D} (h : Dzs K H xs ds) (k : Dz K H v d) : Dzs K H (xs ++ [v]) (ds ++ [d]) := h.app (.cons k .nil)
theorem Dzs.drop : ∀ {xs : List V} {ds : List D} (n : Nat), Dzs K H xs ds → Dzs K H (xs.drop n) (ds.drop n)
  | _, _, 0, h => h
  | _, _, n + 1, .nil => .nil
  | _, _, n + 1, .cons _ hs => hs.drop n
theorem Dzs.set : ∀ {xs : List V} {ds : List D} {v : V} {d : D} (i : Nat), Dzs K H xs ds → Dz K H v d → Dzs K H (xs.set i v) (ds.set i d)
  | _, _, _, _, _, .nil, _ => .nil
  | _, _, _, _, 0, .cons _ hs, k => .cons k hs
  | _, _, _, _, i + 1, .cons h hs, k => .cons h (hs.set i k)
theorem Dz.int_inv {v : V} {i : Int} : Dz K H v (.int i) → v = .int i | .int _ => rfl
theorem Dz.bl_inv {v : V} {b : Bool} : Dz K H v (.bl b) → v = .bl b | .bl _ => rfl
theorem Dz.str_inv {v : V} {x : Str} : Dz K H v (.str x) → v = .str x | .str _ => rfl
theorem Dz.non_inv {v : V} : Dz K H v .non → v = .non | .non => rfl
theorem Dz.lst_inv {v : V} {ds : List D} : Dz K H v (.lst ds) → ∃ a xs, v = .ref a ∧ SqL K H a xs ∧ Dzs K H xs ds | .lst h hs => ⟨_, _, rfl, h, hs⟩
theorem Dz.tup_inv {v : V} {ds : List D} (h : Dz K H v (.tup ds)) : ∃ a xs, v = .ref a ∧ SqT K H a xs ∧ Dzs K H xs ds := by
  cases h with
  | tup h hs => exact ⟨_, _, rfl, st_of h, hs⟩
  | zt h => exact ⟨_, _, rfl, .inr h, .cons (.int 0) (.cons (.int 1) .nil)⟩
  | ft h _ hs => exact ⟨_, _, rfl, .inl (.inr ⟨_, h⟩), hs⟩
/-- what is read at once: data, or a tuple of the module's own -/
inductive DzR (K : PySem.W.Frag) (H : Hp) (v : V) (d : D) : Prop
  | dz (h : Dz K H v d)
  | kept {a : Addr} {xs : List V} {ds : List D} (hv : v = .ref a) (hd : d = .tup ds) (h : SqT K H a xs) (hs : Dzs K H xs ds)
theorem DzR.tup_inv {v : V} {ds : List D} (h : DzR K H v (.tup ds)) : ∃ a xs, v = .ref a ∧ SqT K H a xs ∧ Dzs K H xs ds := by
  cases h with
  | dz h => exact h.tup_inv
  | kept hv hd h hs => cases hd; exact ⟨_, _, hv, h, hs⟩
theorem DzR.lst_inv {v : V} {ds : List D} (h : DzR K H v (.lst ds)) : ∃ a xs, v = .ref a ∧ SqL K H a xs ∧ Dzs K H xs ds := by
  cases h with
  | dz h => exact h.lst_inv
  | kept hv hd h hs => cases hd
theorem DzR.int_inv {v : V} {i : Int} (h : DzR K H v (.int i)) : v = .int i := by
  cases h with
  | dz h => exact h.int_inv
  | kept hv hd h hs => cases hd
theorem DzR.bl_inv {v : V} {i : Bool} (h : DzR K H v (.bl i)) : v = .bl i := by
  cases h with
  | dz h => exact h.bl_inv
  | kept hv hd h hs => cases hd
theorem DzR.str_inv {v : V} {i : Str} (h : DzR K H v (.str i)) : v = .str i := by
  cases h with
  | dz h => exact h.str_inv
  | kept hv hd h hs => cases hd
theorem DzR.non_inv {v : V} (h : DzR K H v .non) : v = .non := by
  cases h with
  | dz h => exact h.non_inv
  | kept hv hd h hs => cases hd
/-- lists of flat things -/
theorem Dzs.ints : ∀ {xs : List V} {is : List Int}, Dzs K H xs (is.map D.int) → xs = is.map V.int
  | _, [], .nil => rfl
  | _, i :: is, .cons h hs => by rw [h.int_inv, hs.ints]; rfl
theorem Dzs.bls : ∀ {xs : List V} {is : List Bool}, Dzs K H xs (is.map D.bl) → xs = is.map V.bl
  | _, [], .nil => rfl
  | _, i :: is, .cons h hs => by rw [h.bl_inv, hs.bls]; rfl
theorem Dzs.of_ints : ∀ (is : List Int), Dzs K H (is.map V.int) (is.map D.int)
  | [] => .nil
  | i :: is => .cons (.int i) (Dzs.of_ints is)
end

/-- what an object that the frame alone changes holds -/
inductive MO where
  | lst (ds : List D)
  | dK (ds : List (Key × D))
  | dT (ds : List (List Key × D))
  | ins (C : Addr) (ds : List (Str × D))
def MO.d : MO → D
  | .lst ds => .lst ds
  | .dK ds => .dK ds
  | .dT ds => .dT ds
  | .ins C ds => .ins C ds
def MOk (K : PySem.W.Frag) (G : Hp) : HO → MO → Prop
  | .lst vs, .lst ds => Dzs K G vs ds
  | .dK vs, .dK ds => DzP K G vs ds
  | .dT vs, .dT ds => DzT K G vs ds
  | .ins C _ vs, .ins C' ds => C = C' ∧ DzF K G vs ds
  | _, _ => False
theorem MOk.mono {K : PySem.W.Frag} {G G' : Hp} (e : Ex G G') {o : HO} {m : MO} (h : MOk K G o m) : MOk K G' o m := by
  cases o <;> cases m <;> simp only [MOk] at h ⊢
  · exact h.mono e
  · exact h.mono e
  · exact h.mono e
  · exact ⟨h.1, h.2.mono e⟩
theorem MOk.dz {K : PySem.W.Frag} {G : Hp} {o : HO} {m : MO} {p : Addr} (h : MOk K G o m) (hp : G p = some o) : Dz K G (.ref p) m.d := by
  cases o <;> cases m <;> simp only [MOk] at h
  · exact .lst (sq_of hp) h
  · exact .dK hp h
  · exact .dT hp h
  · obtain ⟨rfl, h⟩ := h
    exact .ins hp h
/-- a slot's cell: nothing known; frozen data; an object that the frame alone changes -/
inductive Cell where
  | no
  | fr (d : D)
  | mu (m : MO)
abbrev Cell.own (ds : List D) : Cell := .mu (.lst ds)
abbrev Rho := List Cell
abbrev MS := Addr → Prop

structure Grow (M : MS) (G H G' H' : Hp) : Prop where
  g : Ex G G'
  k : ∀ a o, ¬ M a → H a = some o → H' a = some o
  n : ∀ a, ¬ M a → H a ≠ none → G a = none → G' a = none
  d : ∀ a, H' a = none → H a = none
theorem Grow.refl {M : MS} {G H : Hp} : Grow M G H G H := ⟨Ex.refl _, fun _ _ _ h => h, fun _ _ _ h => h, fun _ h => h⟩
theorem Grow.trans {M : MS} {G H G1 H1 G2 H2 : Hp} (a : Grow M G H G1 H1) (b : Grow M G1 H1 G2 H2) : Grow M G H G2 H2 :=
  ⟨a.g.trans b.g, fun x o m h => b.k x o m (a.k x o m h), fun x m h g => b.n x m (by
    cases e : H x with
    | none => exact absurd e h
    | some o => rw [a.k x o m e]; simp) (a.n x m h g), fun x h => a.d x (b.d x h)⟩
theorem Grow.wk {M M' : MS} {G H G' H' : Hp} (h : Grow M G H G' H') (m : ∀ a, H a ≠ none → M a → M' a) : Grow M' G H G' H' :=
  ⟨h.g, fun a o n e => h.k a o (fun q => n (m a (by rw [e]; simp) q)) e, fun a n e g => h.n a (fun q => n (m a e q)) e g, h.d⟩
theorem upd_none {H : Hp} {p a : Addr} {o : HO} (h : upd H p o a = none) : H a = none := by
  by_cases q : a = p
  · subst q; rw [upd_same] at h; cases h
  · rw [upd_ne q] at h; exact h
/-- something new, frozen or not -/
theorem Grow.new {M : MS} {G H : Hp} {p : Addr} {o : HO} (hp : H p = none) (s : Ex G H) : Grow M G H (upd G p o) (upd H p o) := by
  have gp : G p = none := fresh_back s hp
  refine ⟨Ex.new gp, fun a u _ e => ?_, fun a _ e g => ?_, fun a e => upd_none e⟩
  · rw [upd_ne (ne_of_none e hp)]; exact e
  · have q : a ≠ p := fun z => by rw [z] at e; exact e hp
    rw [upd_ne q]; exact g
theorem Grow.newO {M : MS} {G H : Hp} {p : Addr} {o : HO} (hp : H p = none) : Grow M G H G (upd H p o) := by
  refine ⟨Ex.refl _, fun a u _ e => ?_, fun a _ e g => g, fun a e => upd_none e⟩
  rw [upd_ne (ne_of_none e hp)]; exact e

structure Sim (K : PySem.W.Frag) (M : MS) (G H : Hp) (σ : L2.St) (ρ : Rho) : Prop where
  len : σ.length = ρ.length
  sub : Ex G H
  fr : ∀ {i : Nat} {d : D}, ρ[i]? = some (.fr d) → ∃ v, σ[i]? = some (some v) ∧ Dz K G v d
  mu : ∀ {i : Nat} {m : MO}, ρ[i]? = some (.mu m) → ∃ p o, σ[i]? = some (some (.ref p)) ∧ M p ∧ G p = none ∧ H p = some o ∧ MOk K G o m
  apart : ∀ {i j : Nat} {m n : MO} {p : Addr}, i ≠ j → ρ[i]? = some (.mu m) → ρ[j]? = some (.mu n) → σ[i]? = some (some (.ref p)) → σ[j]? ≠ some (some (.ref p))

section
variable {K : PySem.W.Frag} {M M' : MS} {G H G' H' : Hp} {σ : L2.St} {ρ ρ' : Rho}
theorem mok_lst {o : HO} {ds : List D} (h : MOk K G o (.lst ds)) : ∃ vs, o = .lst vs ∧ Dzs K G vs ds := by
  cases o <;> first | exact ⟨_, rfl, h⟩ | exact h.elim
theorem Sim.own (S : Sim K M G H σ ρ) {i : Nat} {ds : List D} (h : ρ[i]? = some (.own ds)) : ∃ p vs, σ[i]? = some (some (.ref p)) ∧ M p ∧ G p = none ∧ H p = some (.lst vs) ∧ Dzs K G vs ds := by
  obtain ⟨p, o, e, m, g, hp, k⟩ := S.mu h
  obtain ⟨vs, rfl, k⟩ := mok_lst k
  exact ⟨p, vs, e, m, g, hp, k⟩
/-- a growth that leaves the own objects -/
theorem Sim.grow (S : Sim K M G H σ ρ) (s : Ex G' H') (g : Ex G G') (hk : ∀ (p : Addr) (m : MO) (i : Nat), ρ[i]? = some (.mu m) → σ[i]? = some (some (.ref p)) → H' p = H p ∧ G' p = none) : Sim K M G' H' σ ρ where
  len := S.len
  sub := s
  fr := fun h => by
    obtain ⟨v, e, d⟩ := S.fr h
    exact ⟨v, e, d.mono g⟩
  mu := fun {i m} h => by
    obtain ⟨p, o, e, mp, gp, hp, d⟩ := S.mu h
    obtain ⟨k1, k2⟩ := hk p m i h e
    exact ⟨p, o, e, mp, k2, k1.trans hp, d.mono g⟩
  apart := S.apart
/-- the set that may change, made smaller or greater -/
theorem Sim.chM (S : Sim K M G H σ ρ) (h : ∀ p, H p ≠ none → M p → M' p) : Sim K M' G H σ ρ where
  len := S.len
  sub := S.sub
  fr := S.fr
  mu := fun e => by
    obtain ⟨p, o, e, m, gp, hp, d⟩ := S.mu e
    exact ⟨p, o, e, h p (by rw [hp]; simp) m, gp, hp, d⟩
  apart := S.apart
theorem Sim.chMo (S : Sim K M G H σ ρ) (h : ∀ (p : Addr) (m : MO) (i : Nat), ρ[i]? = some (.mu m) → σ[i]? = some (some (.ref p)) → M' p) : Sim K M' G H σ ρ where
  len := S.len
  sub := S.sub
  fr := S.fr
  mu := fun q => by
    obtain ⟨p, o, e, m, gp, hp, d⟩ := S.mu q
    exact ⟨p, o, e, h p _ _ q e, gp, hp, d⟩
  apart := S.apart
theorem Sim.new {p : Addr} {o : HO} (S : Sim K M G H σ ρ) (hp : H p = none) : Sim K M (upd G p o) (upd H p o) σ ρ :=
  S.grow (fun a u e => by
    by_cases q : a = p
    · subst q; rw [upd_same] at e ⊢; exact e
    · rw [upd_ne q] at e ⊢; exact S.sub a u e) (Ex.new (fresh_back S.sub hp)) fun q m i h e => by
    obtain ⟨p', o', e', mp, gp, hp', d⟩ := S.mu h
    have z : q = p' := by rw [e] at e'; cases e'; rfl
    subst z
    have y := ne_of_none hp' hp
    exact ⟨upd_ne y, by rw [upd_ne y]; exact gp⟩
theorem Sim.newO {p : Addr} {o : HO} (S : Sim K M G H σ ρ) (hp : H p = none) : Sim K M G (upd H p o) σ ρ :=
  S.grow (S.sub.trans (Ex.new hp)) (Ex.refl _) fun q m i h e => by
    obtain ⟨p', o', e', mp, gp, hp', d⟩ := S.mu h
    have z : q = p' := by rw [e] at e'; cases e'; rfl
    subst z
    exact ⟨upd_ne (ne_of_none hp' hp), gp⟩
theorem get_set {α : Type} {l : List α} {i j : Nat} {x y : α} (h : (l.set i x)[j]? = some y) : (i = j ∧ y = x ∧ i < l.length) ∨ (i ≠ j ∧ l[j]? = some y) := by
  by_cases e : i = j
  · subst e
    by_cases hl : i < l.length
    · rw [List.getElem?_set_self hl] at h
      exact .inl ⟨rfl, (Option.some.inj h).symm, hl⟩
    · rw [List.getElem?_eq_none (by rw [List.length_set]; omega)] at h
      cases h
  · rw [List.getElem?_set_ne e] at h
    exact .inr ⟨e, h⟩
/-- a slot gets frozen data -/
theorem Sim.setF {i : Nat} {v : V} {d : D} (S : Sim K M G H σ ρ) (hd : Dz K G v d) : Sim K M G H (σ.set i (some v)) (ρ.set i (.fr d)) where
  len := by rw [List.length_set, List.length_set]; exact S.len
  sub := S.sub
  fr := fun {j e} h => by
    rcases get_set h with ⟨ej, ed, hl⟩ | ⟨ej, h⟩
    · subst ej
      cases ed
      exact ⟨v, by rw [List.getElem?_set_self (by rw [S.len]; exact hl)], hd⟩
    · obtain ⟨u, e1, e2⟩ := S.fr h
      exact ⟨u, by rw [List.getElem?_set_ne ej]; exact e1, e2⟩
  mu := fun {j e} h => by
    rcases get_set h with ⟨ej, ed, hl⟩ | ⟨ej, h⟩
    · cases ed
    · obtain ⟨p, o, e1, e2⟩ := S.mu h
      exact ⟨p, o, by rw [List.getElem?_set_ne ej]; exact e1, e2⟩
  apart := fun {j k m n p} hjk h1 h2 h3 h4 => by
    rcases get_set h1 with ⟨ej, ed, hl⟩ | ⟨ej, h1⟩
    · cases ed
    rcases get_set h2 with ⟨ek, ed, hl⟩ | ⟨ek, h2⟩
    · cases ed
    rw [List.getElem?_set_ne ej] at h3
    rw [List.getElem?_set_ne ek] at h4
    exact S.apart hjk h1 h2 h3 h4
/-- a slot gets a new own object -/
theorem Sim.setO {i : Nat} {p : Addr} {o : HO} {m : MO} (S : Sim K M G H σ ρ) (hm : M p) (hg : G p = none) (hp : H p = some o) (hd : MOk K G o m)
    (hn : ∀ (j : Nat) (n : MO), j ≠ i → ρ[j]? = some (.mu n) → σ[j]? ≠ some (some (.ref p))) : Sim K M G H (σ.set i (some (.ref p))) (ρ.set i (.mu m)) where
  len := by rw [List.length_set, List.length_set]; exact S.len
  sub := S.sub
  fr := fun {j e} h => by
    rcases get_set h with ⟨ej, ed, hl⟩ | ⟨ej, h⟩
    · cases ed
    · obtain ⟨u, e1, e2⟩ := S.fr h
      exact ⟨u, by rw [List.getElem?_set_ne ej]; exact e1, e2⟩
  mu := fun {j e} h => by
    rcases get_set h with ⟨ej, ed, hl⟩ | ⟨ej, h⟩
    · subst ej
      cases ed
      exact ⟨p, o, by rw [List.getElem?_set_self (by rw [S.len]; exact hl)], hm, hg, hp, hd⟩
    · obtain ⟨p, vs, e1, e2⟩ := S.mu h
      exact ⟨p, vs, by rw [List.getElem?_set_ne ej]; exact e1, e2⟩
  apart := fun {j k m' n q} hjk h1 h2 h3 h4 => by
    rcases get_set h1 with ⟨ej, ed, hl⟩ | ⟨ej, h1⟩
    · subst ej
      rw [List.getElem?_set_self (by rw [S.len]; exact hl)] at h3
      have ep : p = q := by cases h3; rfl
      subst ep
      rcases get_set h2 with ⟨ek, _, _⟩ | ⟨ek, h2⟩
      · exact hjk ek
      · rw [List.getElem?_set_ne ek] at h4
        exact hn k n (fun z => ek z.symm) h2 h4
    · rw [List.getElem?_set_ne ej] at h3
      rcases get_set h2 with ⟨ek, ed, hl⟩ | ⟨ek, h2⟩
      · subst ek
        rw [List.getElem?_set_self (by rw [S.len]; exact hl)] at h4
        have ep : p = q := by cases h4; rfl
        subst ep
        exact hn j m' (fun z => hjk z) h1 h3
      · rw [List.getElem?_set_ne ek] at h4
        exact S.apart hjk h1 h2 h3 h4
/-- the own object at a slot changes -/
theorem Sim.chU {i : Nat} {p : Addr} {o : HO} {m n : MO} (S : Sim K M G H σ ρ) (h0 : ρ[i]? = some (.mu m)) (hi : σ[i]? = some (some (.ref p))) (hd : MOk K G o n) :
    Sim K M G (upd H p o) σ (ρ.set i (.mu n)) where
  len := by rw [List.length_set]; exact S.len
  sub := fun a u e => by
    obtain ⟨p', o', e', mp, gp, hp', d⟩ := S.mu h0
    have z : p = p' := by rw [hi] at e'; cases e'; rfl
    subst z
    rw [upd_ne (ne_of_none e gp)]
    exact S.sub a u e
  fr := fun {j e} h => by
    rcases get_set h with ⟨ej, ed, hl⟩ | ⟨ej, h⟩
    · cases ed
    · exact S.fr h
  mu := fun {j e} h => by
    obtain ⟨p', o', e', mp, gp, hp', d⟩ := S.mu h0
    have z : p = p' := by rw [hi] at e'; cases e'; rfl
    subst z
    rcases get_set h with ⟨ej, ed, hl⟩ | ⟨ej, h⟩
    · subst ej
      cases ed
      exact ⟨p, o, hi, mp, gp, upd_same, hd⟩
    · obtain ⟨q, vs, e1, m1, g1, h1, d1⟩ := S.mu h
      have ne : q ≠ p := fun z => by
        subst z
        exact S.apart ej h0 h hi e1
      exact ⟨q, vs, e1, m1, g1, by rw [upd_ne ne]; exact h1, d1⟩
  apart := fun {j k m' n' q} hjk h1 h2 h3 h4 => by
    have a1 : ∃ x, ρ[j]? = some (.mu x) := by
      rcases get_set h1 with ⟨ej, _, _⟩ | ⟨_, h1⟩
      · subst ej; exact ⟨_, h0⟩
      · exact ⟨_, h1⟩
    have a2 : ∃ x, ρ[k]? = some (.mu x) := by
      rcases get_set h2 with ⟨ej, _, _⟩ | ⟨_, h2⟩
      · subst ej; exact ⟨_, h0⟩
      · exact ⟨_, h2⟩
    obtain ⟨x, a1⟩ := a1
    obtain ⟨y, a2⟩ := a2
    exact S.apart hjk a1 a2 h3 h4
theorem Sim.chO {i : Nat} {p : Addr} {us : List V} {ds es : List D} (S : Sim K M G H σ ρ) (h0 : ρ[i]? = some (.own ds)) (hi : σ[i]? = some (some (.ref p))) (hd : Dzs K G us es) :
    Sim K M G (upd H p (.lst us)) σ (ρ.set i (.own es)) := S.chU (n := .lst es) h0 hi hd
/-- an own object is frozen -/
theorem Sim.freezeM {i : Nat} {m : MO} (S : Sim K M G H σ ρ) (h0 : ρ[i]? = some (.mu m)) :
    ∃ G', Grow M G H G' H ∧ Sim K M G' H σ (ρ.set i (.fr m.d)) := by
  obtain ⟨p, o, e', mp, gp, hp', d⟩ := S.mu h0
  have eg : Ex G (upd G p o) := Ex.new gp
  refine ⟨upd G p o, ⟨eg, fun _ _ _ h => h, fun a n _ g => ?_, fun _ h => h⟩, ?_⟩
  · have q : a ≠ p := fun z => by subst z; exact n mp
    rw [upd_ne q]; exact g
  · have s : Ex (upd G p o) H := fun a u e => by
      by_cases q : a = p
      · subst q; rw [upd_same] at e; cases e; exact hp'
      · rw [upd_ne q] at e; exact S.sub a u e
    refine ⟨by rw [List.length_set]; exact S.len, s, fun {j e} h => ?_, fun {j e} h => ?_, fun {j k m' n' q} hjk h1 h2 h3 h4 => ?_⟩
    · rcases get_set h with ⟨ej, ed, hl⟩ | ⟨ej, h⟩
      · subst ej
        cases ed
        exact ⟨_, e', (d.mono eg).dz upd_same⟩
      · obtain ⟨u, e1, e2⟩ := S.fr h
        exact ⟨u, e1, e2.mono eg⟩
    · rcases get_set h with ⟨ej, ed, hl⟩ | ⟨ej, h⟩
      · cases ed
      · obtain ⟨q, us, e1, m1, g1, h1, d1⟩ := S.mu h
        have ne : q ≠ p := fun z => by
          subst z
          exact S.apart ej h0 h e' e1
        exact ⟨q, us, e1, m1, by rw [upd_ne ne]; exact g1, h1, d1.mono eg⟩
    · rcases get_set h1 with ⟨_, ed, _⟩ | ⟨_, h1⟩
      · cases ed
      rcases get_set h2 with ⟨_, ed, _⟩ | ⟨_, h2⟩
      · cases ed
      exact S.apart hjk h1 h2 h3 h4
end

/-! ### what things come to -/
section
variable (K : PySem.W.Frag)
/-- an expression gives frozen data -/
def EvZ (te : TE) (ρ ρ' : Rho) (d : D) : Prop := ∀ M G H σ, Sim K M G H σ ρ → ∀ Q : VK, (∀ v G' H', Grow M G H G' H' → Sim K M G' H' σ ρ' → Dz K G' v d → Q v H') → te σ H Q
/-- an expression gives what is read at once (an own list, too) -/
def RdZ (te : TE) (ρ ρ' : Rho) (d : D) : Prop := ∀ M G H σ, Sim K M G H σ ρ → ∀ Q : VK, (∀ v G' H', Grow M G H G' H' → Sim K M G' H' σ ρ' → DzR K H' v d → Q v H') → te σ H Q
def TsZ (tt : TT) (ρ ρ' : Rho) (b : Bool) : Prop := ∀ M G H σ, Sim K M G H σ ρ → ∀ Q : Bool → Hp → Prop, (∀ G' H', Grow M G H G' H' → Sim K M G' H' σ ρ' → Q b H') → tt σ H Q
def AgZ (ta : TA) (ρ ρ' : Rho) (ds : List D) : Prop := ∀ M G H σ, Sim K M G H σ ρ → ∀ Q : List V → Hp → Prop, (∀ vs G' H', Grow M G H G' H' → Sim K M G' H' σ ρ' → Dzs K G' vs ds → Q vs H') → ta σ H Q
end

inductive Out where
  | nx (ρ : Rho)
  | bk (ρ : Rho)
  | ct (ρ : Rho)
  | rt (ρ : Rho) (c : Cell)

def ResOk (K : PySem.W.Frag) (M : MS) (G H : Hp) (v : V) : Cell → Prop
  | .no => True
  | .fr d => Dz K G v d
  | .mu m => ∃ p o, v = .ref p ∧ M p ∧ G p = none ∧ H p = some o ∧ MOk K G o m

/-- slots of S stand as they were -/
def Keep (S : List Nat) (σ σ' : L2.St) : Prop := ∀ i ∈ S, σ'[i]? = σ[i]?
theorem Keep.refl {S : List Nat} {σ : L2.St} : Keep S σ σ := fun _ _ => rfl
theorem Keep.trans {S : List Nat} {σ σ1 σ2 : L2.St} (a : Keep S σ σ1) (b : Keep S σ1 σ2) : Keep S σ σ2 := fun i h => (b i h).trans (a i h)
theorem Keep.set {S : List Nat} {σ : L2.St} {i : Nat} {v : Option V} (h : i ∉ S) : Keep S σ (σ.set i v) := fun j hj => by
  have e : i ≠ j := fun z => by subst z; exact h hj
  rw [List.getElem?_set_ne e]

def PostZ (K : PySem.W.Frag) (S : List Nat) (M : MS) (G H : Hp) (σ : L2.St) (E : Ends) : Out → Prop
  | .nx ρ' => ∀ G' H' σ', Grow M G H G' H' → Keep S σ σ' → Sim K M G' H' σ' ρ' → E.nx σ' H'
  | .bk ρ' => ∀ G' H' σ', Grow M G H G' H' → Keep S σ σ' → Sim K M G' H' σ' ρ' → E.bk σ' H'
  | .ct ρ' => ∀ G' H' σ', Grow M G H G' H' → Keep S σ σ' → Sim K M G' H' σ' ρ' → E.ct σ' H'
  | .rt ρ' c => ∀ v G' H' σ', Grow M G H G' H' → Keep S σ σ' → Sim K M G' H' σ' ρ' → ResOk K M G' H' v c → E.rt v H'
def Fresh (M : MS) (H : Hp) : Prop := ∀ a, H a = none → M a
theorem Fresh.grow {M : MS} {G H G' H' : Hp} (f : Fresh M H) (g : Grow M G H G' H') : Fresh M H' := fun a h => Classical.byContradiction fun n => by
  cases e : H a with
  | none => exact n (f a e)
  | some o => rw [g.k a o n e] at h; cases h
def ExZ (K : PySem.W.Frag) (S : List Nat) (ts : TS) (ρ : Rho) (o : Out) : Prop := ∀ M G H σ (E : Ends), Fresh M H → Sim K M G H σ ρ → PostZ K S M G H σ E o → ts E σ H
theorem PostZ.go {K : PySem.W.Frag} {S : List Nat} {M : MS} {G H G1 H1 : Hp} {σ σ1 : L2.St} {E : Ends} : ∀ {o : Out}, PostZ K S M G H σ E o → Grow M G H G1 H1 → Keep S σ σ1 → PostZ K S M G1 H1 σ1 E o
  | .nx _, h, g, k => fun G' H' σ' g' k' s => h G' H' σ' (g.trans g') (k.trans k') s
  | .bk _, h, g, k => fun G' H' σ' g' k' s => h G' H' σ' (g.trans g') (k.trans k') s
  | .ct _, h, g, k => fun G' H' σ' g' k' s => h G' H' σ' (g.trans g') (k.trans k') s
  | .rt _ _, h, g, k => fun v G' H' σ' g' k' s r => h v G' H' σ' (g.trans g') (k.trans k') s r
end Z

set_option Elab.async false
set_option linter.all false
set_option maxRecDepth 100000
set_option maxHeartbeats 2000000
/-! ZRules: the rules of expressions, tests, arguments, targets, walks, statements, calls over cells. -/
namespace Z
open PySem L2
open Evl (Ex Ex.refl Ex.trans Ex.new ex_rd ex_l ex_t sq_of st_of fresh_back sz_of sz_lt)
variable {K : PySem.W.Frag} {ρ ρ' ρ1 ρ2 ρ3 : Rho} {ta tb tc te tl : TE} {tt tu : TT} {d e x y : D} {ds es xs ys : List D}

/-! ### expressions -/
theorem EvZ.rd (h : EvZ K te ρ ρ' d) : RdZ K te ρ ρ' d := fun M G H σ S Q q => h M G H σ S Q fun v G' H' g s dz => q v G' H' g s (.dz (dz.mono s.sub))
theorem ev_var {i : Nat} (h : ρ[i]? = some (.fr d)) : EvZ K (tVar i) ρ ρ d := fun M G H σ S Q q => by
  obtain ⟨v, e, dz⟩ := S.fr h
  exact ⟨v, e, q v G H .refl S dz⟩
theorem ev_c {v : V} (h : ∀ H, Dz K H v d) : EvZ K (tC v) ρ ρ d := fun M G H σ S Q q => q v G H .refl S (h G)
theorem ev_int {i : Int} : EvZ K (tC (.int i)) ρ ρ (.int i) := ev_c fun _ => .int i
theorem ev_non : EvZ K (tC .non) ρ ρ .non := ev_c fun _ => .non
theorem ev_is (h : EvZ K te ρ ρ' d) (q : d = e) : EvZ K te ρ ρ' e := by subst q; exact h
/-- an operation upon two frozen things that touches nothing -/
theorem ev_op {r : R2} {d1 d2 : D} (ha : EvZ K ta ρ ρ1 d1) (hb : RdZ K tb ρ1 ρ2 d2) (hr : ∀ (u v : V) G H (Q : VK), Ex G H → Dz K G u d1 → DzR K H v d2 → (∀ z, Dz K G z d → Q z H) → r u v H Q) : EvZ K (tOp r ta tb) ρ ρ2 d := fun M G H σ S Q q =>
  ha M G H σ S _ fun u G1 H1 g1 s1 du => hb M G1 H1 σ s1 _ fun v G2 H2 g2 s2 dv => hr u v G2 H2 Q s2.sub (du.mono g2.g) dv fun z dz => q z G2 H2 (g1.trans g2) s2 dz
theorem ev_i0 {g : Int → Int → V} {i j : Int} (ha : EvZ K ta ρ ρ1 (.int i)) (hb : EvZ K tb ρ1 ρ2 (.int j)) (h : ∀ H, Dz K H (g i j) d) : EvZ K (tOp (rI0 g) ta tb) ρ ρ2 d :=
  ev_op ha hb.rd fun u v G H Q _ du dv q => ⟨i, j, du.int_inv, dv.int_inv, q _ (h G)⟩
theorem ev_i {C : Int → Int → Prop} {g : Int → Int → V} {i j : Int} (ha : EvZ K ta ρ ρ1 (.int i)) (hb : EvZ K tb ρ1 ρ2 (.int j)) (hc : C i j) (h : ∀ H, Dz K H (g i j) d) : EvZ K (tOp (rI C g) ta tb) ρ ρ2 d :=
  ev_op ha hb.rd fun u v G H Q _ du dv q => ⟨i, j, du.int_inv, dv.int_inv, hc, q _ (h G)⟩
theorem ev_add {i j : Int} (ha : EvZ K ta ρ ρ1 (.int i)) (hb : EvZ K tb ρ1 ρ2 (.int j)) : EvZ K (tOp (rI0 fun i j => .int (i + j)) ta tb) ρ ρ2 (.int (i + j)) := ev_i0 ha hb fun _ => .int _
theorem ev_sub {i j : Int} (ha : EvZ K ta ρ ρ1 (.int i)) (hb : EvZ K tb ρ1 ρ2 (.int j)) : EvZ K (tOp (rI0 fun i j => .int (i - j)) ta tb) ρ ρ2 (.int (i - j)) := ev_i0 ha hb fun _ => .int _
theorem ev_mul {i j : Int} (ha : EvZ K ta ρ ρ1 (.int i)) (hb : EvZ K tb ρ1 ρ2 (.int j)) (hc : CMul i j) : EvZ K (tOp (rI CMul fun i j => .int (i * j)) ta tb) ρ ρ2 (.int (i * j)) := ev_i ha hb hc fun _ => .int _
theorem ev_mod {i j : Int} (ha : EvZ K ta ρ ρ1 (.int i)) (hb : EvZ K tb ρ1 ρ2 (.int j)) (hc : 0 < j) : EvZ K (tOp (rI (fun _ j => 0 < j) fun i j => .int (i % j)) ta tb) ρ ρ2 (.int (i % j)) := ev_i ha hb hc fun _ => .int _
theorem ev_fdiv {i j : Int} (ha : EvZ K ta ρ ρ1 (.int i)) (hb : EvZ K tb ρ1 ρ2 (.int j)) (hc : CDiv i j) : EvZ K (tOp (rI CDiv fun i j => .int (i / j)) ta tb) ρ ρ2 (.int (i / j)) := ev_i ha hb hc fun _ => .int _
theorem ev_pow {i j : Int} (ha : EvZ K ta ρ ρ1 (.int i)) (hb : EvZ K tb ρ1 ρ2 (.int j)) (hc : CPow i j) : EvZ K (tOp (rI CPow fun i j => .int (i ^ j.toNat)) ta tb) ρ ρ2 (.int (i ^ j.toNat)) := ev_i ha hb hc fun _ => .int _
theorem ev_lt {i j : Int} (ha : EvZ K ta ρ ρ1 (.int i)) (hb : EvZ K tb ρ1 ρ2 (.int j)) : EvZ K (tOp (rI0 fun i j => .bl (decide (i < j))) ta tb) ρ ρ2 (.bl (decide (i < j))) := ev_i0 ha hb fun _ => .bl _
theorem ev_gt {i j : Int} (ha : EvZ K ta ρ ρ1 (.int i)) (hb : EvZ K tb ρ1 ρ2 (.int j)) : EvZ K (tOp (rI0 fun i j => .bl (decide (j < i))) ta tb) ρ ρ2 (.bl (decide (j < i))) := ev_i0 ha hb fun _ => .bl _
theorem ev_ge {i j : Int} (ha : EvZ K ta ρ ρ1 (.int i)) (hb : EvZ K tb ρ1 ρ2 (.int j)) : EvZ K (tOp (rI0 fun i j => .bl (decide (j ≤ i))) ta tb) ρ ρ2 (.bl (decide (j ≤ i))) := ev_i0 ha hb fun _ => .bl _
/-- == of scalars -/
theorem ev_eqI {i j : Int} (ha : EvZ K ta ρ ρ1 (.int i)) (hb : EvZ K tb ρ1 ρ2 (.int j)) : EvZ K (tOp rEq ta tb) ρ ρ2 (.bl (decide (i = j))) :=
  ev_op ha hb.rd fun u v G H Q _ du dv q => by
    rw [du.int_inv, dv.int_inv]
    exact ⟨rfl, q _ (by rw [show decide (V.int i = V.int j) = decide (i = j) by simp]; exact .bl _)⟩
theorem ev_neI {i j : Int} (ha : EvZ K ta ρ ρ1 (.int i)) (hb : EvZ K tb ρ1 ρ2 (.int j)) : EvZ K (tOp rNe ta tb) ρ ρ2 (.bl (!decide (i = j))) :=
  ev_op ha hb.rd fun u v G H Q _ du dv q => by
    rw [du.int_inv, dv.int_inv]
    exact ⟨rfl, q _ (by rw [show decide (V.int i = V.int j) = decide (i = j) by simp]; exact .bl _)⟩
theorem ev_eqS {i j : Str} (ha : EvZ K ta ρ ρ1 (.str i)) (hb : EvZ K tb ρ1 ρ2 (.str j)) : EvZ K (tOp rEq ta tb) ρ ρ2 (.bl (decide (i = j))) :=
  ev_op ha hb.rd fun u v G H Q _ du dv q => by
    rw [du.str_inv, dv.str_inv]
    exact ⟨rfl, q _ (by rw [show decide (V.str i = V.str j) = decide (i = j) by simp]; exact .bl _)⟩
theorem ev_eqB {i j : Bool} (ha : EvZ K ta ρ ρ1 (.bl i)) (hb : EvZ K tb ρ1 ρ2 (.bl j)) : EvZ K (tOp rEq ta tb) ρ ρ2 (.bl (decide (i = j))) :=
  ev_op ha hb.rd fun u v G H Q _ du dv q => by
    rw [du.bl_inv, dv.bl_inv]
    exact ⟨rfl, q _ (by rw [show decide (V.bl i = V.bl j) = decide (i = j) by simp]; exact .bl _)⟩
/-- items -/
theorem atD {xs : List V} {H : Hp} {i : Int} (h : Dzs K H xs ds) (e : atI ds i = some d) : ∃ v, atI xs i = some v ∧ Dz K H v d := by
  unfold atI at e ⊢
  rw [h.len]
  cases q : ixN ds.length i with
  | none => rw [q] at e; cases e
  | some j =>
    rw [q] at e
    exact h.get e
theorem at_nat {j : Nat} (h : ds[j]? = some d) : atI ds (j : Int) = some d := atI_nat h
theorem at_of {i : Int} {j : Nat} (e : i = (j : Int)) (h : ds[j]? = some d) : atI ds i = some d := by rw [e]; exact atI_nat h
theorem ev_ixL {i : Int} (ha : EvZ K ta ρ ρ1 (.lst ds)) (hb : EvZ K tb ρ1 ρ2 (.int i)) (h : atI ds i = some d) : EvZ K (tOp (rIx K) ta tb) ρ ρ2 d := fun M G H σ S Q q =>
  ha M G H σ S _ fun u G1 H1 g1 s1 du => hb M G1 H1 σ s1 _ fun v G2 H2 g2 s2 dv => by
    obtain ⟨a, xs, e, hs, hz⟩ := (du.mono g2.g).lst_inv
    obtain ⟨w, e1, dw⟩ := atD hz h
    exact .inl ⟨a, xs, i, w, e, dv.int_inv, ex_l s2.sub hs, e1, q w G2 H2 (g1.trans g2) s2 dw⟩
theorem ev_ixT {i : Int} (ha : EvZ K ta ρ ρ1 (.tup ds)) (hb : EvZ K tb ρ1 ρ2 (.int i)) (h : atI ds i = some d) : EvZ K (tOp (rIx K) ta tb) ρ ρ2 d := fun M G H σ S Q q =>
  ha M G H σ S _ fun u G1 H1 g1 s1 du => hb M G1 H1 σ s1 _ fun v G2 H2 g2 s2 dv => by
    obtain ⟨a, xs, e, hs, hz⟩ := (du.mono g2.g).tup_inv
    obtain ⟨w, e1, dw⟩ := atD hz h
    exact .inr (.inl ⟨a, xs, i, w, e, dv.int_inv, ex_t s2.sub hs, e1, q w G2 H2 (g1.trans g2) s2 dw⟩)
/-- an item of an own list -/
theorem ev_ixO {i : Nat} {k : Int} (h : ρ[i]? = some (.own es)) (hb : EvZ K tb ρ ρ' (.int k)) (h' : ρ'[i]? = some (.own ds)) (hk : atI ds k = some d) : EvZ K (tOp (rIx K) (tVar i) tb) ρ ρ' d := fun M G H σ S Q q => by
  obtain ⟨p, vs, e, m, gp, hp, dz⟩ := S.own h
  refine ⟨.ref p, e, hb M G H σ S _ fun v G2 H2 g2 s2 dv => ?_⟩
  obtain ⟨p', us, e', m', gp', hp', dz'⟩ := s2.own h'
  have z : p = p' := by rw [e] at e'; cases e'; rfl
  subst z
  obtain ⟨w, e1, dw⟩ := atD dz' hk
  exact .inl ⟨p, us, k, w, rfl, dv.int_inv, sq_of hp', e1, q w G2 H2 g2 s2 dw⟩
/-- len -/
theorem len_lst {v : V} {H : Hp} (h : DzR K H v (.lst ds)) : LenV K v H ds.length := by
  obtain ⟨a, xs, e, hs, hz⟩ := h.lst_inv
  subst e
  exact .inl ⟨xs, hs, hz.len.symm⟩
theorem len_tup {v : V} {H : Hp} (h : DzR K H v (.tup ds)) : LenV K v H ds.length := by
  obtain ⟨a, xs, e, hs, hz⟩ := h.tup_inv
  subst e
  exact .inr ⟨xs, hs, hz.len.symm⟩
theorem ev_lenL (ha : RdZ K ta ρ ρ' (.lst ds)) : EvZ K (tCB (fun xs H Q => ∃ x n, xs = [x] ∧ LenV K x H n ∧ Q (.int n) H) (tCons ta tNil)) ρ ρ' (.int (ds.length : Int)) := fun M G H σ S Q q =>
  ha M G H σ S _ fun u G1 H1 g1 s1 du => ⟨u, ds.length, rfl, len_lst du, q _ G1 H1 g1 s1 (.int _)⟩
theorem ev_lenT (ha : RdZ K ta ρ ρ' (.tup ds)) : EvZ K (tCB (fun xs H Q => ∃ x n, xs = [x] ∧ LenV K x H n ∧ Q (.int n) H) (tCons ta tNil)) ρ ρ' (.int (ds.length : Int)) := fun M G H σ S Q q =>
  ha M G H σ S _ fun u G1 H1 g1 s1 du => ⟨u, ds.length, rfl, len_tup du, q _ G1 H1 g1 s1 (.int _)⟩
/-- int(n) -/
theorem ev_toInt {i : Int} (ha : EvZ K ta ρ ρ' (.int i)) : EvZ K (tCB (fun xs H Q => (∃ i, xs = [.int i] ∧ Q (.int i) H) ∨ ∃ k, xs = [.bl k] ∧ Q (.int (if k then 1 else 0)) H) (tCons ta tNil)) ρ ρ' (.int i) := fun M G H σ S Q q =>
  ha M G H σ S _ fun u G1 H1 g1 s1 du => .inl ⟨i, by rw [du.int_inv], q _ G1 H1 g1 s1 (.int _)⟩
/-- all(list of truth values) -/
theorem ev_all {bs : List Bool} (ha : RdZ K ta ρ ρ' (.lst (bs.map D.bl))) : EvZ K (tCB (rAll K) (tCons ta tNil)) ρ ρ' (.bl (bs.all id)) := fun M G H σ S Q q =>
  ha M G H σ S _ fun u G1 H1 g1 s1 du => by
    obtain ⟨a, xs, e, hs, hz⟩ := du.lst_inv
    have ex := hz.bls
    subst ex
    exact ⟨a, bs, by rw [e], hs, q _ G1 H1 g1 s1 (.bl _)⟩
/-! ### arguments, displays -/
theorem ag_nil : AgZ K tNil ρ ρ [] := fun M G H σ S Q q => q [] G H .refl S .nil
theorem ag_cons {tr : TA} (h : EvZ K ta ρ ρ1 d) (hr : AgZ K tr ρ1 ρ2 ds) : AgZ K (tCons ta tr) ρ ρ2 (d :: ds) := fun M G H σ S Q q =>
  h M G H σ S _ fun v G1 H1 g1 s1 dv => hr M G1 H1 σ s1 _ fun vs G2 H2 g2 s2 dvs => q (v :: vs) G2 H2 (g1.trans g2) s2 (.cons (dv.mono g2.g) dvs)
/-- a new list: not frozen yet -/
def EvN (K : PySem.W.Frag) (te : TE) (ρ ρ' : Rho) (ds : List D) : Prop := ∀ M G H σ, Sim K M G H σ ρ → ∀ Q : VK, (∀ p vs G' H', Grow M G H G' H' → Sim K M G' H' σ ρ' → H p = none → G' p = none → H' p = some (.lst vs) → Dzs K G' vs ds → Q (.ref p) H') → te σ H Q
theorem Sim.noOwn {M : MS} {G H : Hp} {σ : L2.St} {p : Addr} (S : Sim K M G H σ ρ) (hp : H p = none) : ∀ (j : Nat) (es : MO), ρ[j]? = some (.mu es) → σ[j]? ≠ some (some (.ref p)) := fun j es h e => by
  obtain ⟨q, vs, e', m, gp, hq, dz⟩ := S.mu h
  rw [e] at e'
  cases e'
  rw [hp] at hq
  cases hq
/-- freezing a new list -/
theorem freezeN {M : MS} {G H G' H' : Hp} {σ : L2.St} {p : Addr} {vs : List V} (g : Grow M G H G' H') (s : Sim K M G' H' σ ρ') (hp : H p = none) (gp : G' p = none) (h' : H' p = some (.lst vs)) (hd : Dzs K G' vs ds)
    (hn : ∀ (j : Nat) (es : MO), ρ'[j]? = some (.mu es) → σ[j]? ≠ some (some (.ref p))) :
    Grow M G H (upd G' p (.lst vs)) H' ∧ Sim K M (upd G' p (.lst vs)) H' σ ρ' ∧ Dz K (upd G' p (.lst vs)) (.ref p) (.lst ds) := by
  have eg : Ex G' (upd G' p (.lst vs)) := Ex.new gp
  refine ⟨⟨g.g.trans eg, g.k, fun a m n z => ?_, g.d⟩, s.grow (fun a o e => ?_) eg fun q es i e1 e2 => ?_, .lst (sq_of upd_same) (hd.mono eg)⟩
  · have q : a ≠ p := fun z => by subst z; exact n hp
    rw [upd_ne q]; exact g.n a m n z
  · by_cases q : a = p
    · subst q; rw [upd_same] at e; cases e; exact h'
    · rw [upd_ne q] at e; exact s.sub a o e
  · obtain ⟨q', us, e', m, gq, hq, dz⟩ := s.mu e1
    rw [e2] at e'
    cases e'
    have ne : q ≠ p := fun z => by subst z; exact hn i es e1 e2
    exact ⟨rfl, by rw [upd_ne ne]; exact gq⟩
theorem EvN.noOwn {M : MS} {G H G' H' : Hp} {σ : L2.St} {p : Addr} {vs : List V} (S : Sim K M G H σ ρ) (s : Sim K M G' H' σ ρ') (hp : H p = none) (hρ : ∀ (j : Nat) (es : MO), ρ'[j]? = some (.mu es) → ∃ fs, ρ[j]? = some (.mu fs)) :
    ∀ (j : Nat) (es : MO), ρ'[j]? = some (.mu es) → σ[j]? ≠ some (some (.ref p)) := fun j es h => by
  obtain ⟨fs, e⟩ := hρ j es h
  exact S.noOwn hp j fs e
/-- the own slots of ρ' are own in ρ -/
def OwnIn (ρ' ρ : Rho) : Prop := ∀ (j : Nat) (es : MO), ρ'[j]? = some (.mu es) → ∃ fs, ρ[j]? = some (.mu fs)
theorem OwnIn.refl : OwnIn ρ ρ := fun _ es h => ⟨es, h⟩
theorem EvN.ev (h : EvN K te ρ ρ' ds) (ho : OwnIn ρ' ρ) : EvZ K te ρ ρ' (.lst ds) := fun M G H σ S Q q => h M G H σ S Q fun p vs G' H' g s hp gp h' hd => by
  obtain ⟨a, b, c⟩ := freezeN g s hp gp h' hd (EvN.noOwn (vs := vs) S s hp ho)
  exact q _ _ _ a b c
theorem EvN.rd (h : EvN K te ρ ρ' ds) : RdZ K te ρ ρ' (.lst ds) := fun M G H σ S Q q => h M G H σ S Q fun p vs G' H' g s hp gp h' hd => q _ _ _ g s (.dz (.lst (sq_of h') (hd.mono s.sub)))
theorem ev_tup {tx : TA} (h : AgZ K tx ρ ρ' ds) (hl : ds.length ≤ 100000) : EvZ K (tTup tx) ρ ρ' (.tup ds) := fun M G H σ S Q q =>
  h M G H σ S _ fun vs G1 H1 g1 s1 dv => ⟨by rw [dv.len]; exact sz_of hl, fun p hp => q _ _ _ (g1.trans (.new hp s1.sub)) (s1.new hp) (.tup upd_same (dv.mono (Ex.new (fresh_back s1.sub hp))))⟩
theorem en_lst {tx : TA} (h : AgZ K tx ρ ρ' ds) (hl : ds.length ≤ 100000) : EvN K (tLst tx) ρ ρ' ds := fun M G H σ S Q q =>
  h M G H σ S _ fun vs G1 H1 g1 s1 dv => ⟨by rw [dv.len]; exact sz_of hl, fun p hp => q p vs G1 _ (g1.trans (.newO hp)) (s1.newO hp) (g1.d p hp) (fresh_back s1.sub hp) upd_same dv⟩
end Z

set_option Elab.async false
set_option linter.all false
set_option maxRecDepth 100000
set_option maxHeartbeats 2000000
/-! ZStm: tests, targets, walks, comprehensions, statements, calls. -/
namespace Z
open PySem L2
open Evl (Ex Ex.refl Ex.trans Ex.new ex_rd ex_l ex_t sq_of st_of fresh_back sz_of sz_lt)
variable {K : PySem.W.Frag} {ρ ρ' ρ1 ρ2 ρ3 : Rho} {ta tb tc te tl : TE} {tt tu : TT} {d e x y : D} {ds es xs ys rs : List D} {b c : Bool}

/-! ### tests -/
theorem ts_test (h : EvZ K te ρ ρ' (.bl b)) : TsZ K (tTest te) ρ ρ' b := fun M G H σ S Q q => h M G H σ S _ fun v G1 H1 g1 s1 dv => ⟨b, dv.bl_inv, q G1 H1 g1 s1⟩
theorem ts_B (h : EvZ K te ρ ρ' (.bl b)) : TsZ K (tB te) ρ ρ' b := fun M G H σ S Q q => h M G H σ S _ fun v G1 H1 g1 s1 dv => ⟨b, dv.bl_inv, q G1 H1 g1 s1⟩
theorem ts_not (h : TsZ K tt ρ ρ' b) : TsZ K (tNot tt) ρ ρ' (!b) := fun M G H σ S Q q => h M G H σ S _ fun G1 H1 g1 s1 => q G1 H1 g1 s1
theorem ts_is (h : TsZ K tt ρ ρ' b) (q : b = c) : TsZ K tt ρ ρ' c := by subst q; exact h
theorem ts_orT (h : TsZ K tt ρ ρ1 true) : TsZ K (tOr tt tu) ρ ρ1 true := fun M G H σ S Q q => h M G H σ S _ fun G1 H1 g1 s1 => q G1 H1 g1 s1
theorem ts_orF (h : TsZ K tt ρ ρ1 false) (k : TsZ K tu ρ1 ρ2 b) : TsZ K (tOr tt tu) ρ ρ2 b := fun M G H σ S Q q => h M G H σ S _ fun G1 H1 g1 s1 => by
  show tu σ H1 Q
  exact k M G1 H1 σ s1 _ fun G2 H2 g2 s2 => q G2 H2 (g1.trans g2) s2
theorem ts_yes : TsZ K tYes ρ ρ true := fun M G H σ S Q q => q G H .refl S
theorem ev_andV (h : EvZ K ta ρ ρ1 (.bl b)) (k : b = true → EvZ K tb ρ1 ρ1 (.bl c)) : EvZ K (tAndV ta tb) ρ ρ1 (.bl (b && c)) := fun M G H σ S Q q => h M G H σ S _ fun v G1 H1 g1 s1 dv => ⟨b, dv.bl_inv, by
  cases b with
  | true =>
    rw [if_pos rfl]
    exact k rfl M G1 H1 σ s1 _ fun v G2 H2 g2 s2 dv => q v G2 H2 (g1.trans g2) s2 dv
  | false =>
    rw [if_neg Bool.false_ne_true]
    exact q _ G1 H1 g1 s1 (.bl false)⟩
theorem ev_orV (h : EvZ K ta ρ ρ1 (.bl b)) (k : b = false → EvZ K tb ρ1 ρ1 (.bl c)) : EvZ K (tOrV ta tb) ρ ρ1 (.bl (b || c)) := fun M G H σ S Q q => h M G H σ S _ fun v G1 H1 g1 s1 dv => ⟨b, dv.bl_inv, by
  cases b with
  | true =>
    rw [if_pos rfl]
    exact q _ G1 H1 g1 s1 (.bl true)
  | false =>
    rw [if_neg Bool.false_ne_true]
    exact k rfl M G1 H1 σ s1 _ fun v G2 H2 g2 s2 dv => q v G2 H2 (g1.trans g2) s2 dv⟩
theorem ev_notV (h : EvZ K ta ρ ρ1 (.bl b)) : EvZ K (tNotV ta) ρ ρ1 (.bl (!b)) := fun M G H σ S Q q => h M G H σ S _ fun v G1 H1 g1 s1 dv => ⟨b, dv.bl_inv, q _ G1 H1 g1 s1 (.bl _)⟩

/-! ### targets -/
/-- storing frozen data: the slots of A change -/
def TgZ (K : PySem.W.Frag) (g : TG) (A : List Nat) (d : D) (ρ ρ' : Rho) : Prop := ∀ M G H σ v, Sim K M G H σ ρ → Dz K G v d → ∀ Q : L2.St → Hp → Prop, (∀ σ', σ'.length = σ.length → (∀ i, i ∉ A → σ'[i]? = σ[i]?) → Sim K M G H σ' ρ' → Q σ' H) → g v σ H Q
theorem tg_name {i : Nat} : TgZ K (gName i) [i] d ρ (ρ.set i (.fr d)) := fun M G H σ v S dv Q q => q _ (List.length_set ..) (fun j hj => by
  have e : i ≠ j := fun z => hj (by rw [z]; exact List.mem_cons_self)
  rw [List.getElem?_set_ne e]) (S.setF dv)
def TgsZ (K : PySem.W.Frag) (g : TGs) (A : List Nat) (ds : List D) (ρ ρ' : Rho) : Prop := ∀ M G H σ vs, Sim K M G H σ ρ → Dzs K G vs ds → ∀ Q : L2.St → Hp → Prop, (∀ σ', σ'.length = σ.length → (∀ i, i ∉ A → σ'[i]? = σ[i]?) → Sim K M G H σ' ρ' → Q σ' H) → g vs σ H Q
theorem tgs_nil : TgsZ K gNil [] [] ρ ρ := fun M G H σ vs S dv Q q => by
  cases dv
  exact ⟨rfl, q σ rfl (fun _ _ => rfl) S⟩
theorem tgs_cons {g : TG} {u : TGs} {A B : List Nat} (h : TgZ K g A d ρ ρ1) (k : TgsZ K u B ds ρ1 ρ2) : TgsZ K (gCons g u) (A ++ B) (d :: ds) ρ ρ2 := fun M G H σ vs S dv Q q => by
  cases dv with
  | cons h1 h2 =>
    refine ⟨_, _, rfl, h M G H σ _ S h1 _ fun σ1 l1 k1 S1 => k M G H σ1 _ S1 h2 _ fun σ2 l2 k2 S2 => q σ2 (l2.trans l1) (fun i hi => ?_) S2⟩
    exact (k2 i fun z => hi (List.mem_append_right _ z)).trans (k1 i fun z => hi (List.mem_append_left _ z))
theorem tg_tup {n : Nat} {u : TGs} {A : List Nat} (hn : ds.length = n) (h : TgsZ K u A ds ρ ρ1) : TgZ K (gTup K n u) A (.tup ds) ρ ρ1 := fun M G H σ v S dv Q q => by
  obtain ⟨a, xs, e, hs, hz⟩ := dv.tup_inv
  exact ⟨a, xs, e, ex_t S.sub hs, by rw [hz.len]; exact hn, h M G H σ xs S hz Q q⟩
theorem keep_of {S A : List Nat} {σ σ' : L2.St} (h : ∀ i, i ∉ A → σ'[i]? = σ[i]?) (hd : ∀ i ∈ A, i ∉ S) : Keep S σ σ' := fun i hi => h i fun z => hd i z hi

/-! ### walks -/
/-- J gives the items ds, one behind the other, while G stands -/
def Walks (K : PySem.W.Frag) (G0 : Hp) (J : It) (ds : List D) : Prop := ∀ G H, Ex G0 G → Ex G H →
  (∀ (i : Nat) (d : D), ds[i]? = some d → J.go i H ∧ ∀ x H', J.yld i H x H' → ∃ G', Grow (fun _ => False) G H G' H' ∧ Ex G' H' ∧ Dz K G' x d) ∧ J.stop ds.length H
def ItZ (K : PySem.W.Frag) (wi : TI) (ρ ρ' : Rho) (ds : List D) : Prop := ∀ M G H σ, Sim K M G H σ ρ → ∀ R : It → Hp → Prop, (∀ J G' H', Grow M G H G' H' → Sim K M G' H' σ ρ' → Walks K G' J ds → R J H') → wi σ H R
theorem walks_list {G : Hp} {a : Addr} {vs : List V} (h : SqL K G a vs) (hd : Dzs K G vs ds) : Walks K G (Itl K a) ds := fun G1 H e s => by
  have hH := ex_l (e.trans s) h
  refine ⟨fun i d hi => ?_, ⟨vs, hH, by rw [hd.len]; exact Nat.le_refl _⟩⟩
  obtain ⟨v, ev, dv⟩ := hd.get hi
  refine ⟨⟨vs, v, hH, ev⟩, fun x H' hy => ?_⟩
  obtain ⟨e1, e2⟩ := hy
  have q := e2 vs hH
  rw [ev] at q
  cases q
  subst e1
  exact ⟨G1, .refl, s, dv.mono e⟩
theorem walks_tup {G : Hp} {a : Addr} {vs : List V} (h : SqT K G a vs) (hd : Dzs K G vs ds) : Walks K G (Itt K a) ds := fun G1 H e s => by
  have hH := ex_t (e.trans s) h
  refine ⟨fun i d hi => ?_, ⟨vs, hH, by rw [hd.len]; exact Nat.le_refl _⟩⟩
  obtain ⟨v, ev, dv⟩ := hd.get hi
  refine ⟨⟨vs, v, hH, ev⟩, fun x H' hy => ?_⟩
  obtain ⟨e1, e2⟩ := hy
  have q := e2 vs hH
  rw [ev] at q
  cases q
  subst e1
  exact ⟨G1, .refl, s, dv.mono e⟩
theorem it_list (h : EvZ K tl ρ ρ' (.lst ds)) : ItZ K (iList K tl) ρ ρ' ds := fun M G H σ S R q => h M G H σ S _ fun v G1 H1 g1 s1 dv => by
  obtain ⟨a, vs, e, hs, hz⟩ := dv.lst_inv
  exact ⟨a, e, ⟨vs, ex_l s1.sub hs⟩, q _ G1 H1 g1 s1 (walks_list hs hz)⟩
theorem it_tup (h : EvZ K tl ρ ρ' (.tup ds)) : ItZ K (iTup K tl) ρ ρ' ds := fun M G H σ S R q => h M G H σ S _ fun v G1 H1 g1 s1 dv => by
  obtain ⟨a, vs, e, hs, hz⟩ := dv.tup_inv
  exact ⟨a, e, ⟨vs, ex_t s1.sub hs⟩, q _ G1 H1 g1 s1 (walks_tup hs hz)⟩
/-- 0 .. n - 1 -/
def rangeD (lo : Int) (n : Nat) : List D := (List.range n).map fun (i : Nat) => D.int (lo + (i : Int))
theorem rangeD_len {lo : Int} {n : Nat} : (rangeD lo n).length = n := by unfold rangeD; rw [List.length_map, List.length_range]
theorem walks_range {G : Hp} {lo : Int} {n : Nat} : Walks K G (Itr lo n) (rangeD lo n) := fun G1 H e s => by
  refine ⟨fun i d hi => ?_, by rw [rangeD_len]; exact Nat.le_refl _⟩
  unfold rangeD at hi
  rw [List.getElem?_map] at hi
  cases ec : (List.range n)[i]? with
  | none => rw [ec] at hi; cases hi
  | some c =>
    rw [ec] at hi
    cases hi
    obtain ⟨hl, ee⟩ := List.getElem?_eq_some_iff.mp ec
    rw [List.length_range] at hl
    rw [List.getElem_range] at ee
    subst ee
    refine ⟨hl, fun x H' hy => ?_⟩
    obtain ⟨e1, e2⟩ := hy
    subst e1
    rw [e2]
    exact ⟨G1, .refl, s, .int _⟩
theorem it_range1 {tx : TA} {n : Int} (h : AgZ K tx ρ ρ' [.int n]) (hn : -(2 ^ 62) ≤ n ∧ n < 2 ^ 62) : ItZ K (iRng1 tx) ρ ρ' (rangeD 0 n.toNat) := fun M G H σ S R q => h M G H σ S _ fun vs G1 H1 g1 s1 dv => by
  cases dv with
  | cons h1 h2 =>
    cases h2
    exact ⟨n, by rw [h1.int_inv], hn.1, hn.2, q _ G1 H1 g1 s1 walks_range⟩
/-! ### comprehensions -/
/-- the comprehension's own slots forgotten -/
def wipeR (ρ : Rho) : List Nat → Rho
  | [] => ρ
  | v :: vs => (wipeR ρ vs).set v .no
theorem wipeR_len (ρ : Rho) : ∀ vs, (wipeR ρ vs).length = ρ.length
  | [] => rfl
  | v :: vs => by unfold wipeR; rw [List.length_set, wipeR_len ρ vs]
theorem wipeR_get {i : Nat} {c : Cell} (hc : c ≠ .no) : ∀ {vs : List Nat}, (wipeR ρ vs)[i]? = some c → ρ[i]? = some c ∧ i ∉ vs
  | [], h => ⟨h, by simp⟩
  | v :: vs, h => by
    unfold wipeR at h
    rcases get_set h with ⟨_, e, _⟩ | ⟨ne, h⟩
    · exact absurd e hc
    · obtain ⟨a, b⟩ := wipeR_get hc h
      exact ⟨a, fun z => by
        rcases List.mem_cons.mp z with z | z
        · exact ne z.symm
        · exact b z⟩
theorem wipe_get {σ : L2.St} {i : Nat} : ∀ {vs : List Nat}, i ∉ vs → (wipe σ vs)[i]? = σ[i]?
  | [], _ => rfl
  | v :: vs, h => by
    unfold wipe
    rw [List.getElem?_set_ne (fun z => h (by rw [z]; exact List.mem_cons_self)), wipe_get fun z => h (List.mem_cons_of_mem _ z)]
theorem wipe_in {σ σ' : L2.St} {i : Nat} (hl : σ'.length = σ.length) : ∀ {vs : List Nat}, i ∈ vs → (wipe σ' vs)[i]? = (wipe σ vs)[i]?
  | v :: vs, h => by
    unfold wipe
    by_cases e : v = i
    · subst e
      by_cases hv : v < σ.length
      · rw [List.getElem?_set_self (by rw [wipe_length, hl]; exact hv), List.getElem?_set_self (by rw [wipe_length]; exact hv)]
      · rw [List.getElem?_eq_none (by rw [List.length_set, wipe_length, hl]; omega), List.getElem?_eq_none (by rw [List.length_set, wipe_length]; omega)]
    · rw [List.getElem?_set_ne e, List.getElem?_set_ne e]
      exact wipe_in hl (by
        rcases List.mem_cons.mp h with h | h
        · exact absurd h.symm e
        · exact h)
theorem wipe_eq {σ σ' : L2.St} {vs : List Nat} (hl : σ'.length = σ.length) (h : ∀ i, i ∉ vs → σ'[i]? = σ[i]?) : wipe σ' vs = wipe σ vs := by
  apply List.ext_getElem?
  intro i
  by_cases e : i ∈ vs
  · exact wipe_in hl e
  · rw [wipe_get e, wipe_get e, h i e]
theorem Sim.wipe {M : MS} {G H : Hp} {σ σ' : L2.St} {vs : List Nat} (S : Sim K M G H σ ρ) (hl : σ'.length = σ.length) (h : ∀ i, i ∉ vs → σ'[i]? = σ[i]?) : Sim K M G H σ' (wipeR ρ vs) where
  len := by rw [wipeR_len, hl]; exact S.len
  sub := S.sub
  fr := fun {i d} e => by
    obtain ⟨a, b⟩ := wipeR_get (by simp) e
    obtain ⟨v, e1, e2⟩ := S.fr a
    exact ⟨v, by rw [h i b]; exact e1, e2⟩
  mu := fun {i d} e => by
    obtain ⟨a, b⟩ := wipeR_get (by simp) e
    obtain ⟨p, vs, e1, e2⟩ := S.mu a
    exact ⟨p, vs, by rw [h i b]; exact e1, e2⟩
  apart := fun {i j ds es p} ne e1 e2 e3 e4 => by
    obtain ⟨a, b⟩ := wipeR_get (by simp) e1
    obtain ⟨a', b'⟩ := wipeR_get (by simp) e2
    rw [h i b] at e3
    rw [h j b'] at e4
    exact S.apart ne a a' e3 e4
/-- the items ds, one turn behind the other, give rs -/
inductive CompZ (K : PySem.W.Frag) (g : TG) (tt : TT) (te : TE) (vs A : List Nat) : List D → Rho → List D → Rho → Prop
  | nil {ρ : Rho} : CompZ K g tt te vs A [] ρ [] ρ
  | yes {ρ ρ1 ρ2 ρ3 ρ4 : Rho} {d r : D} {ds rs : List D} : TgZ K g A d ρ ρ1 → TsZ K tt ρ1 ρ2 true → EvZ K te ρ2 ρ3 r → CompZ K g tt te vs A ds (wipeR ρ3 vs) rs ρ4 → CompZ K g tt te vs A (d :: ds) ρ (r :: rs) ρ4
  | no {ρ ρ1 ρ2 ρ4 : Rho} {d : D} {ds rs : List D} : TgZ K g A d ρ ρ1 → TsZ K tt ρ1 ρ2 false → CompZ K g tt te vs A ds (wipeR ρ2 vs) rs ρ4 → CompZ K g tt te vs A (d :: ds) ρ rs ρ4
/-- what stands between two turns: rd is made (at D), rl is to come -/
structure CompW (K : PySem.W.Frag) (g : TG) (tt : TT) (te : TE) (vs A : List Nat) (M : MS) (G1 H1 : Hp) (Dl : Addr) (σ : L2.St) (ds rs : List D) (ρ' : Rho) (i : Nat) (H : Hp) : Prop where
  ex : ∃ G ρi rd rl vd, Grow (fun a => M a ∨ a = Dl) G1 H1 G H ∧ Sim K (fun a => M a ∧ a ≠ Dl) G H (L2.wipe σ vs) ρi ∧ CompZ K g tt te vs A (ds.drop i) ρi rl ρ' ∧ rd ++ rl = rs ∧ rd.length ≤ i ∧ G Dl = none ∧ H Dl = some (.lst vd) ∧ Dzs K G vd rd
theorem sim_unwipe {M : MS} {G H : Hp} {σ : L2.St} {vs : List Nat} (S : Sim K M G H (L2.wipe σ vs) ρ) : Sim K M G H σ ρ where
  len := by rw [← S.len, wipe_length]
  sub := S.sub
  fr := fun {j d} e => by
    obtain ⟨v, e1, e2⟩ := S.fr e
    obtain ⟨a, b⟩ := wipe_some e1
    exact ⟨v, a, e2⟩
  mu := fun {j d} e => by
    obtain ⟨p, us, e1, e2⟩ := S.mu e
    obtain ⟨a, b⟩ := wipe_some e1
    exact ⟨p, us, a, e2⟩
  apart := fun {j k ds es p} ne e1 e2 e3 e4 => by
    obtain ⟨p1, us1, f1, _⟩ := S.mu e1
    obtain ⟨p2, us2, f2, _⟩ := S.mu e2
    obtain ⟨a1, b1⟩ := wipe_some f1
    obtain ⟨a2, b2⟩ := wipe_some f2
    refine S.apart ne e1 e2 (p := p) ?_ ?_
    · rw [wipe_get b1]; exact e3
    · rw [wipe_get b2]; exact e4
/-- an object that is no own list's and is not frozen changes -/
theorem Sim.other {M : MS} {G H : Hp} {σ : L2.St} {p : Addr} {o : HO} (S : Sim K M G H σ ρ) (gp : G p = none) (hn : ∀ (j : Nat) (es : MO), ρ[j]? = some (.mu es) → σ[j]? ≠ some (some (.ref p))) : Sim K M G (upd H p o) σ ρ :=
  S.grow (fun a u e => by rw [upd_ne (ne_of_none e gp)]; exact S.sub a u e) (Ex.refl _) fun q es i e1 e2 => by
    obtain ⟨q', us, e', m, gq, hq, dz⟩ := S.mu e1
    rw [e2] at e'
    cases e'
    exact ⟨upd_ne fun z => by subst z; exact hn i es e1 e2, gq⟩
theorem Sim.nin {M : MS} {G H : Hp} {σ : L2.St} {p : Addr} (S : Sim K M G H σ ρ) (h : ¬ M p) : ∀ (j : Nat) (es : MO), ρ[j]? = some (.mu es) → σ[j]? ≠ some (some (.ref p)) := fun j es e1 e2 => by
  obtain ⟨q', us, e', m, gq, hq, dz⟩ := S.mu e1
  rw [e2] at e'
  cases e'
  exact h m
theorem en_lc {wi : TI} {g : TG} {vs A : List Nat} (hi : ItZ K wi ρ ρ1 ds) (hc : CompZ K g tt te vs A ds (wipeR ρ1 vs) rs ρ') (hA : ∀ i ∈ A, i ∈ vs) (hl : ds.length ≤ 99999) : EvN K (tLc wi g tt te vs) ρ ρ' rs := fun M G H σ S Q q =>
  hi M G H σ S _ fun J G1 H1 g1 s1 wk D hD => by
    have hD0 := g1.d D hD
    have s1' : Sim K M G1 H1 (L2.wipe σ vs) (wipeR ρ1 vs) := s1.wipe (wipe_length σ vs) fun i h => wipe_get h
    refine ⟨fun i m Hh => i ≤ ds.length ∧ m = ds.length - i ∧ CompW K g tt te vs A M G1 H1 D σ ds rs ρ' i Hh, ⟨ds.length, Nat.zero_le _, rfl, ⟨G1, wipeR ρ1 vs, [], rs, [], .newO hD, ?_, hc, rfl, Nat.le_refl _, fresh_back s1.sub hD, upd_same, .nil⟩⟩, ?_⟩
    · exact (s1'.newO hD).chMo fun p es i e1 e2 => by
        obtain ⟨p', us, e', m, gp, hp, dz⟩ := s1'.mu e1
        rw [e2] at e'
        cases e'
        exact ⟨m, fun z => by subst z; rw [hD] at hp; cases hp⟩
    · rintro i m Hi ⟨hle, rfl, ⟨Gi, ρi, rd, rl, vd, gi, si, ci, er, hrd, gD, hiD, dD⟩⟩
      obtain ⟨w1, w2⟩ := wk Gi Hi gi.g si.sub
      cases hit : ds[i]? with
      | none =>
        have hge : ds.length ≤ i := List.getElem?_eq_none_iff.mp hit
        have ei : i = ds.length := Nat.le_antisymm hle hge
        subst ei
        refine .inl ⟨w2, ?_⟩
        rw [List.drop_eq_nil_of_le hge] at ci
        cases ci
        rw [List.append_nil] at er
        subst er
        have gg : Grow M G1 H1 Gi Hi := gi.wk fun a e z => by
          rcases z with z | z
          · exact z
          · subst z; exact absurd hD e
        exact q D vd Gi Hi (g1.trans gg) (sim_unwipe (si.chM fun a _ z => z.1)) hD0 gD hiD dD
      | some d =>
        obtain ⟨hlt, ed⟩ := List.getElem?_eq_some_iff.mp hit
        obtain ⟨hgo, hy⟩ := w1 i d hit
        rw [List.drop_eq_getElem_cons hlt, ed] at ci
        refine .inr ⟨hgo, CompW K g tt te vs A M G1 H1 D σ ds rs ρ' (i + 1), fun H' w => ⟨ds.length - (i + 1), by omega, by omega, rfl, w⟩, fun x H' yl => ?_⟩
        obtain ⟨G2, g2, s2, dx⟩ := hy x H' yl
        have S2 : Sim K (fun a => M a ∧ a ≠ D) G2 H' (L2.wipe σ vs) ρi := si.grow s2 g2.g fun p es j e1 e2 => by
          obtain ⟨p', us, e', m, gp, hp, dz⟩ := si.mu e1
          rw [e2] at e'
          cases e'
          exact ⟨(g2.k p _ (fun z => z) hp).trans hp.symm, g2.n p (fun z => z) (by rw [hp]; simp) gp⟩
        have hD2 : H' D = some (.lst vd) := g2.k D _ (fun z => z) hiD
        have gD2 : G2 D = none := g2.n D (fun z => z) (by rw [hiD]; simp) gD
        have gi2 : Grow (fun a => M a ∨ a = D) G1 H1 G2 H' := gi.trans (g2.wk fun a _ z => z.elim)
        have wkM : ∀ {Ga Ha Gb Hb : Hp}, Grow (fun a => M a ∧ a ≠ D) Ga Ha Gb Hb → Grow (fun a => M a ∨ a = D) Ga Ha Gb Hb := fun h => h.wk fun a _ z => .inl z.1
        cases ci with
        | yes t1 t2 t3 t4 =>
          rename_i ρa ρb ρc r rl'
          refine t1 _ G2 H' _ x S2 dx _ fun σa la ka Sa => ⟨?_, ?_⟩
          · refine (wipe_eq (σ := L2.wipe σ vs) (vs := vs) la fun j hj => ka j fun z => hj (hA j z)).trans (wipe_eq (wipe_length σ vs) fun j hj => wipe_get hj)
          · refine t2 _ G2 H' _ Sa _ fun G3 H3 g3 s3 => ?_
            rw [if_pos rfl]
            refine t3 _ G3 H3 _ s3 _ fun v G4 H4 g4 s4 dv => ?_
            have g34 := g3.trans g4
            have hD4 : H4 D = some (.lst vd) := g34.k D _ (fun z => z.2 rfl) hD2
            have gD4 : G4 D = none := g34.n D (fun z => z.2 rfl) (by rw [hD2]; simp) gD2
            have dd : Dzs K G4 (vd ++ [v]) (rd ++ [r]) := (dD.mono (g2.g.trans g34.g)).snoc dv
            have s5 : Sim K (fun a => M a ∧ a ≠ D) G4 (upd H4 D (.lst (vd ++ [v]))) σa ρc := s4.other gD4 (s4.nin fun z => z.2 rfl)
            have ga := gi2.trans (wkM g34)
            refine ⟨vd, hD4, sz_lt (by rw [dD.len]; omega), ⟨G4, wipeR ρc vs, rd ++ [r], rl', vd ++ [v], ?_, ?_, t4, by rw [List.append_assoc]; exact er, by rw [List.length_append]; show rd.length + 1 ≤ i + 1; omega, gD4, upd_same, dd⟩⟩
            · refine ⟨ga.g, fun a o m e => ?_, ga.n, fun a e => ga.d a (upd_none e)⟩
              rw [upd_ne fun z => m (.inr z)]
              exact ga.k a o m e
            · exact s5.wipe (by rw [la, wipe_length]) fun j hj => by rw [ka j fun z => hj (hA j z)]
        | no t1 t2 t4 =>
          rename_i ρa ρb
          refine t1 _ G2 H' _ x S2 dx _ fun σa la ka Sa => ⟨?_, ?_⟩
          · refine (wipe_eq (σ := L2.wipe σ vs) (vs := vs) la fun j hj => ka j fun z => hj (hA j z)).trans (wipe_eq (wipe_length σ vs) fun j hj => wipe_get hj)
          · refine t2 _ G2 H' _ Sa _ fun G3 H3 g3 s3 => ?_
            rw [if_neg Bool.false_ne_true]
            refine ⟨G3, wipeR ρb vs, rd, rl, vd, gi2.trans (wkM g3), ?_, t4, er, Nat.le_succ_of_le hrd, g3.n D (fun z => z.2 rfl) (by rw [hD2]; simp) gD2, g3.k D _ (fun z => z.2 rfl) hD2, dD.mono (g2.g.trans g3.g)⟩
            exact s3.wipe (by rw [la, wipe_length]) fun j hj => by rw [ka j fun z => hj (hA j z)]
end Z

set_option Elab.async false
set_option linter.all false
set_option maxRecDepth 100000
set_option maxHeartbeats 2000000
/-! ZDef: statements, loops, a def's promise, calls. -/
namespace Z
open PySem L2
open Evl (Ex Ex.refl Ex.trans Ex.new ex_rd ex_l ex_t sq_of st_of fresh_back sz_of sz_lt)
variable {K : PySem.W.Frag} {S : List Nat} {ρ ρ' ρ1 ρ2 ρ3 : Rho} {ta tb tc te tl : TE} {tt tu : TT} {ts us : TS} {g : TG} {A : List Nat} {d e x y : D} {ds es xs ys rs : List D} {b c : Bool} {o : Out}

/-! ### statements -/
theorem ex_next : ExZ K S tNext ρ (.nx ρ) := fun M G H σ E f s q => q G H σ .refl .refl s
theorem ex_seq (h : ExZ K S ts ρ (.nx ρ1)) (k : ExZ K S us ρ1 o) : ExZ K S (tSeq ts us) ρ o := fun M G H σ E f s q =>
  h M G H σ { E with nx := us E } f s fun G1 H1 σ1 g1 k1 s1 => k M G1 H1 σ1 E (f.grow g1) s1 (q.go g1 k1)
/-- the first statement leaves -/
theorem ex_seqR {cl : Cell} (h : ExZ K S ts ρ (.rt ρ1 cl)) : ExZ K S (tSeq ts us) ρ (.rt ρ1 cl) := fun M G H σ E f s q => h M G H σ { E with nx := us E } f s q
theorem ex_ifT (h : TsZ K tt ρ ρ1 true) (k : ExZ K S ts ρ1 o) : ExZ K S (tIfS tt ts us) ρ o := fun M G H σ E f s q => h M G H σ s _ fun G1 H1 g1 s1 => by
  rw [if_pos rfl]
  exact k M G1 H1 σ E (f.grow g1) s1 (q.go g1 .refl)
theorem ex_ifF (h : TsZ K tt ρ ρ1 false) (k : ExZ K S us ρ1 o) : ExZ K S (tIfS tt ts us) ρ o := fun M G H σ E f s q => h M G H σ s _ fun G1 H1 g1 s1 => by
  rw [if_neg Bool.false_ne_true]
  exact k M G1 H1 σ E (f.grow g1) s1 (q.go g1 .refl)
theorem ex_asg (h : EvZ K te ρ ρ1 d) (t : TgZ K g A d ρ1 ρ2) (hA : ∀ i ∈ A, i ∉ S) : ExZ K S (tAsg te g) ρ (.nx ρ2) := fun M G H σ E f s q =>
  h M G H σ s _ fun v G1 H1 g1 s1 dv => t M G1 H1 σ v s1 dv _ fun σ2 l2 k2 s2 => q G1 H1 σ2 g1 (keep_of k2 hA) s2
theorem ex_set {i : Nat} (h : EvZ K te ρ ρ1 d) (hi : i ∉ S) : ExZ K S (tAsg te (gName i)) ρ (.nx (ρ1.set i (.fr d))) :=
  ex_asg h tg_name fun j hj => by
    rcases List.mem_cons.mp hj with z | z
    · rw [z]; exact hi
    · cases z
/-- a new list of the frame's own -/
theorem ex_setN {i : Nat} (h : EvN K te ρ ρ1 ds) (ho : OwnIn ρ1 ρ) (hi : i ∉ S) : ExZ K S (tAsg te (gName i)) ρ (.nx (ρ1.set i (.own ds))) := fun M G H σ E f s q =>
  h M G H σ s _ fun p vs G1 H1 g1 s1 hp gp h1 dv => q G1 H1 _ g1 (Keep.set hi) (s1.setO (o := .lst vs) (m := .lst ds) (f p hp) gp h1 dv fun j es _ e => EvN.noOwn (vs := vs) s s1 hp ho j es e)
theorem ex_ret (h : EvZ K te ρ ρ1 d) : ExZ K S (tRet te) ρ (.rt ρ1 (.fr d)) := fun M G H σ E f s q =>
  h M G H σ s _ fun v G1 H1 g1 s1 dv => q v G1 H1 σ g1 .refl s1 dv
theorem ex_retN (h : EvN K te ρ ρ1 ds) : ExZ K S (tRet te) ρ (.rt ρ1 (.own ds)) := fun M G H σ E f s q =>
  h M G H σ s _ fun p vs G1 H1 g1 s1 hp gp h1 dv => q _ G1 H1 σ g1 .refl s1 ⟨p, .lst vs, rfl, f p hp, gp, h1, dv⟩
theorem ex_retM {i : Nat} {m : MO} (h : ρ[i]? = some (.mu m)) : ExZ K S (tRet (tVar i)) ρ (.rt ρ (.mu m)) := fun M G H σ E f s q => by
  obtain ⟨p, o, e, r⟩ := s.mu h
  exact ⟨.ref p, e, q _ G H σ .refl .refl s ⟨p, o, rfl, r⟩⟩
theorem ex_retO {i : Nat} (h : ρ[i]? = some (.own ds)) : ExZ K S (tRet (tVar i)) ρ (.rt ρ (.own ds)) := ex_retM h
/-- freezing an own object -/
theorem ex_freezeM {i : Nat} {m : MO} (h : ρ[i]? = some (.mu m)) (k : ExZ K S ts (ρ.set i (.fr m.d)) o) : ExZ K S ts ρ o := fun M G H σ E f s q => by
  obtain ⟨G', g, s'⟩ := s.freezeM h
  exact k M G' H σ E (f.grow g) s' (q.go g .refl)
theorem ex_freeze {i : Nat} (h : ρ[i]? = some (.own ds)) (k : ExZ K S ts (ρ.set i (.fr (.lst ds))) o) : ExZ K S ts ρ o := ex_freezeM h k
theorem growM {M : MS} {G H : Hp} {σ : L2.St} {i : Nat} {p : Addr} {u : HO} {m : MO} (s : Sim K M G H σ ρ) (h : ρ[i]? = some (.mu m)) (e : σ[i]? = some (some (.ref p))) : Grow M G H G (upd H p u) := by
  obtain ⟨p', vs, e', m, gp, hp, dz⟩ := s.mu h
  rw [e] at e'
  cases e'
  refine ⟨Ex.refl _, fun a o n ha => ?_, fun a _ _ z => z, fun a z => upd_none z⟩
  rw [upd_ne fun z => by subst z; exact n m]
  exact ha
/-- xs.append(e), xs an own list -/
theorem ex_app {i : Nat} (h : EvZ K te ρ ρ1 d) (h0 : ρ[i]? = some (.own es)) (h1 : ρ1[i]? = some (.own ds)) (hl : ds.length < 100000) : ExZ K S (tDrop (tBM K "list" rAppend (tVar i) (tCons te tNil))) ρ (.nx (ρ1.set i (.own (ds ++ [d])))) := fun M G H σ E f s q => by
  obtain ⟨p, vs, e, m, gp, hp, dz⟩ := s.own h0
  refine ⟨.ref p, e, .inl ⟨rfl, vs, sq_of hp⟩, h M G H σ s _ fun v G1 H1 g1 s1 dv => ?_⟩
  obtain ⟨p', us, e', m', gp', hp', dz'⟩ := s1.own h1
  rw [e] at e'
  cases e'
  exact ⟨p, us, v, rfl, rfl, hp', sz_lt (by rw [dz'.len]; exact hl), q G1 _ σ (g1.trans (growM s1 h1 e)) .refl (s1.chO h1 e (dz'.snoc dv))⟩
/-- xs[k] = e, xs an own list -/
theorem ex_setAt {i : Nat} {k : Int} {j : Nat} (h : EvZ K te ρ ρ1 d) (hk : EvZ K tb ρ1 ρ2 (.int k)) (h1 : ρ1[i]? = some (.own es)) (h2 : ρ2[i]? = some (.own ds)) (hj : ixN ds.length k = some j) :
    ExZ K S (tAsg te (gSub (tVar i) tb rSetL)) ρ (.nx (ρ2.set i (.own (ds.set j d)))) := fun M G H σ E f s q =>
  h M G H σ s _ fun v G1 H1 g1 s1 dv => by
    obtain ⟨p, vs, e, m, gp, hp, dz⟩ := s1.own h1
    refine ⟨.ref p, e, hk M G1 H1 σ s1 _ fun w G2 H2 g2 s2 dw => ?_⟩
    obtain ⟨p', us, e', m', gp', hp', dz'⟩ := s2.own h2
    rw [e] at e'
    cases e'
    exact ⟨p, us, k, j, rfl, dw.int_inv, hp', by rw [dz'.len]; exact hj, q G2 _ σ ((g1.trans g2).trans (growM s2 h2 e)) .refl (s2.chO h2 e (dz'.set j (dv.mono g2.g)))⟩
/-! ### loops -/
inductive LoopZ (K : PySem.W.Frag) (S : List Nat) (g : TG) (tb : TS) (A : List Nat) : List D → Rho → Out → Prop
  | nil {ρ : Rho} : LoopZ K S g tb A [] ρ (.nx ρ)
  | step {ρ ρ1 ρ2 : Rho} {d : D} {ds : List D} {o : Out} : TgZ K g A d ρ ρ1 → ExZ K S tb ρ1 (.nx ρ2) → LoopZ K S g tb A ds ρ2 o → LoopZ K S g tb A (d :: ds) ρ o
  | cont {ρ ρ1 ρ2 : Rho} {d : D} {ds : List D} {o : Out} : TgZ K g A d ρ ρ1 → ExZ K S tb ρ1 (.ct ρ2) → LoopZ K S g tb A ds ρ2 o → LoopZ K S g tb A (d :: ds) ρ o
  | brk {ρ ρ1 ρ2 : Rho} {d : D} {ds : List D} : TgZ K g A d ρ ρ1 → ExZ K S tb ρ1 (.bk ρ2) → LoopZ K S g tb A (d :: ds) ρ (.nx ρ2)
  | ret {ρ ρ1 ρ2 : Rho} {d : D} {ds : List D} {c : Cell} : TgZ K g A d ρ ρ1 → ExZ K S tb ρ1 (.rt ρ2 c) → LoopZ K S g tb A (d :: ds) ρ (.rt ρ2 c)
theorem ex_for {wi : TI} {tb : TS} (hi : ItZ K wi ρ ρ1 ds) (hl : LoopZ K S g tb A ds ρ1 o) (hA : ∀ i ∈ A, i ∉ S) : ExZ K S (tFor wi g tb) ρ o := fun M G H σ E f s q =>
  hi M G H σ s _ fun J G1 H1 g1 s1 wk => by
    refine ⟨fun i m σ' H' => i ≤ ds.length ∧ m = ds.length - i ∧ ∃ Gi ρi, Grow M G1 H1 Gi H' ∧ Keep S σ σ' ∧ Sim K M Gi H' σ' ρi ∧ LoopZ K S g tb A (ds.drop i) ρi o, ⟨ds.length, Nat.zero_le _, rfl, G1, ρ1, .refl, .refl, s1, hl⟩, ?_⟩
    rintro i m σi Hi ⟨hle, rfl, Gi, ρi, gi, ki, si, li⟩
    obtain ⟨w1, w2⟩ := wk Gi Hi gi.g si.sub
    cases hit : ds[i]? with
    | none =>
      have hge : ds.length ≤ i := List.getElem?_eq_none_iff.mp hit
      have ei : i = ds.length := Nat.le_antisymm hle hge
      subst ei
      refine .inl ⟨w2, ?_⟩
      rw [List.drop_eq_nil_of_le hge] at li
      cases li
      exact q Gi Hi σi (g1.trans gi) ki si
    | some d =>
      obtain ⟨hlt, ed⟩ := List.getElem?_eq_some_iff.mp hit
      obtain ⟨hgo, hy⟩ := w1 i d hit
      rw [List.drop_eq_getElem_cons hlt, ed] at li
      refine .inr ⟨hgo, fun σ' H' => ∃ Gi ρi, Grow M G1 H1 Gi H' ∧ Keep S σ σ' ∧ Sim K M Gi H' σ' ρi ∧ LoopZ K S g tb A (ds.drop (i + 1)) ρi o, fun σ' H' w => ⟨ds.length - (i + 1), by omega, by omega, rfl, w⟩, fun x H' yl => ?_⟩
      obtain ⟨G2, g2, s2, dx⟩ := hy x H' yl
      have S2 : Sim K M G2 H' σi ρi := si.grow s2 g2.g fun p es j e1 e2 => by
        obtain ⟨p', us, e', m, gp, hp, dz⟩ := si.mu e1
        rw [e2] at e'
        cases e'
        exact ⟨(g2.k p _ (fun z => z) hp).trans hp.symm, g2.n p (fun z => z) (by rw [hp]; simp) gp⟩
      have ga : Grow M G1 H1 G2 H' := gi.trans (g2.wk fun a _ z => z.elim)
      have fr2 : Fresh M H' := f.grow (g1.trans ga)
      cases li with
      | step t1 t2 t3 =>
        refine t1 M G2 H' σi x S2 dx _ fun σa la ka Sa => t2 M G2 H' σa _ fr2 Sa fun G3 H3 σ3 g3 k3 s3 => ⟨G3, _, ga.trans g3, (ki.trans (keep_of ka hA)).trans k3, s3, t3⟩
      | cont t1 t2 t3 =>
        refine t1 M G2 H' σi x S2 dx _ fun σa la ka Sa => t2 M G2 H' σa _ fr2 Sa fun G3 H3 σ3 g3 k3 s3 => ⟨G3, _, ga.trans g3, (ki.trans (keep_of ka hA)).trans k3, s3, t3⟩
      | brk t1 t2 =>
        refine t1 M G2 H' σi x S2 dx _ fun σa la ka Sa => t2 M G2 H' σa _ fr2 Sa fun G3 H3 σ3 g3 k3 s3 => q G3 H3 σ3 ((g1.trans ga).trans g3) ((ki.trans (keep_of ka hA)).trans k3) s3
      | ret t1 t2 =>
        refine t1 M G2 H' σi x S2 dx _ fun σa la ka Sa => t2 M G2 H' σa _ fr2 Sa fun v G3 H3 σ3 g3 k3 s3 r3 => q v G3 H3 σ3 ((g1.trans ga).trans g3) ((ki.trans (keep_of ka hA)).trans k3) s3 r3

/-! ### a def's promise -/
def ResN (K : PySem.W.Frag) (G H0 H : Hp) (v : V) : Cell → Prop
  | .no => True
  | .fr d => Dz K G v d
  | .mu m => ∃ p o, v = .ref p ∧ H0 p = none ∧ G p = none ∧ H p = some o ∧ MOk K G o m
abbrev Rel := List Cell → Cell → List Cell → Prop
/-- called with the cells cs: the answer r, and what the own lists among the arguments are then (cs') -/
def SpZ (K : PySem.W.Frag) (R : Rel) : Sp := fun vs H Q _ => ∃ M G cs r cs', Sim K M G H (vs.map some) cs ∧ R cs r cs' ∧ ∀ v G' H', Grow M G H G' H' → Sim K M G' H' (vs.map some) cs' → ResN K G' H H' v r → Q v H'
theorem spz_len {R : Rel} {n : Nat} (hR : ∀ cs r cs', R cs r cs' → cs.length = n) : ∀ vs H Q E, SpZ K R vs H Q E → vs.length = n := fun vs H Q E ⟨M, G, cs, r, cs', s, h, _⟩ => by
  have := s.len
  rw [List.length_map] at this
  rw [this]
  exact hR _ _ _ h
/-- what the end of a body must say of the arguments -/
structure FinZ (S : List Nat) (cs cs' : List Cell) (ρ' : Rho) (r : Cell) : Prop where
  len : cs'.length = cs.length
  own : ∀ (i : Nat) (ds : MO), cs'[i]? = some (.mu ds) → i ∈ S ∧ ρ'[i]? = some (.mu ds) ∧ ∃ es, cs[i]? = some (.mu es)
  fr : ∀ (i : Nat) (d : D), cs'[i]? = some (.fr d) → cs[i]? = some (.fr d)
  res : ∀ (ds : MO), r = .mu ds → ∀ (i : Nat) (es : MO), cs[i]? ≠ some (.mu es)
theorem fin_fr {S : List Nat} {ds : List D} {ρ' : Rho} {r : Cell} : FinZ S (ds.map .fr) (ds.map .fr) ρ' r := by
  have no : ∀ (i : Nat) (es : MO), (ds.map Cell.fr)[i]? ≠ some (.mu es) := fun i es h => by
    rw [List.getElem?_map] at h
    cases e : ds[i]? with
    | none => rw [e] at h; cases h
    | some d => rw [e] at h; cases h
  exact ⟨rfl, fun i es h => absurd h (no i es), fun i d h => h, fun _ _ => no⟩
/-- the first argument an own list, the others frozen -/
theorem fin_mu {S : List Nat} {ds : List D} {ρ' : Rho} {d : D} {b b' : MO} (h0 : 0 ∈ S) (h : ρ'[0]? = some (.mu b')) : FinZ S (.mu b :: ds.map .fr) (.mu b' :: ds.map .fr) ρ' (.fr d) := by
  refine ⟨rfl, fun i es h1 => ?_, fun i d h1 => ?_, fun _ z => by cases z⟩
  · cases i with
    | zero =>
      have e : b' = es := by
        have q : some (Cell.mu b') = some (Cell.mu es) := h1
        cases q; rfl
      subst e
      exact ⟨h0, h, b, rfl⟩
    | succ i =>
      have q : (ds.map Cell.fr)[i]? = some (.mu es) := h1
      rw [List.getElem?_map] at q
      cases e : ds[i]? with
      | none => rw [e] at q; cases q
      | some d => rw [e] at q; cases q
  · cases i with
    | zero =>
      have q : some (Cell.mu b') = some (Cell.fr d) := h1
      cases q
    | succ i => exact h1
theorem fin_box {S : List Nat} {ds : List D} {ρ' : Rho} {d : D} {b b' : List D} (h0 : 0 ∈ S) (h : ρ'[0]? = some (.own b')) : FinZ S (.own b :: ds.map .fr) (.own b' :: ds.map .fr) ρ' (.fr d) := fin_mu h0 h
theorem sim_start {M : MS} {G H : Hp} {vs : List V} {cs : List Cell} (s : Sim K M G H (vs.map some) cs) (n : Nat) : Sim K M G H (vs.map some ++ List.replicate n none) (cs ++ List.replicate n .no) := by
  have el : vs.length = cs.length := by have := s.len; rw [List.length_map] at this; exact this
  have key : ∀ {i : Nat} {c : Cell}, c ≠ .no → (cs ++ List.replicate n Cell.no)[i]? = some c → cs[i]? = some c ∧ (vs.map some ++ List.replicate n none)[i]? = (vs.map some)[i]? := fun {i c} hc h => by
    by_cases hi : i < cs.length
    · rw [List.getElem?_append_left hi] at h
      exact ⟨h, by rw [List.getElem?_append_left (by rw [List.length_map, el]; exact hi)]⟩
    · rw [List.getElem?_append_right (by omega)] at h
      have q := List.mem_of_getElem? h
      exact absurd (List.eq_of_mem_replicate q) hc
  refine ⟨by rw [List.length_append, List.length_append, List.length_replicate, List.length_replicate, List.length_map, el], s.sub, fun {i d} h => ?_, fun {i d} h => ?_, fun {i j d e p} ne h1 h2 h3 h4 => ?_⟩
  · obtain ⟨a, b⟩ := key (by simp) h
    obtain ⟨v, e1, e2⟩ := s.fr a
    exact ⟨v, by rw [b]; exact e1, e2⟩
  · obtain ⟨a, b⟩ := key (by simp) h
    obtain ⟨p, us, e1, e2⟩ := s.mu a
    exact ⟨p, us, by rw [b]; exact e1, e2⟩
  · obtain ⟨a, b⟩ := key (by simp) h1
    obtain ⟨a', b'⟩ := key (by simp) h2
    rw [b] at h3
    rw [b'] at h4
    exact s.apart ne a a' h3 h4
/-- a def's body -/
theorem body_z {N : List Str} {vs : List V} {H : Hp} {Q : VK} {X : XK} {R : Rel} {t : TS} (S : List Nat) (h : SpZ K R vs H Q X)
    (hb : ∀ cs r cs', R cs r cs' → ∃ ρ', (ExZ K S t (cs ++ List.replicate (N.length - cs.length) .no) (.rt ρ' r) ∨ (r = .fr .non ∧ ExZ K S t (cs ++ List.replicate (N.length - cs.length) .no) (.nx ρ'))) ∧ FinZ S cs cs' ρ' r) : t { nx := fun _ H' => Q .non H', rt := Q } (L2.start N vs) H := by
  obtain ⟨M0, G, cs, r, cs', s, hR, q⟩ := h
  obtain ⟨ρ', hx, fin⟩ := hb cs r cs' hR
  have el : vs.length = cs.length := by have := s.len; rw [List.length_map] at this; exact this
  -- the set that may change: what is new, too; nothing else if the answer is an own list
  have hM : ∃ M1 : MS, (∀ a, M1 a → M0 a) ∧ Sim K M1 G H (vs.map some) cs ∧ (∀ ds : MO, r = .mu ds → ∀ a, ¬ M1 a) := by
    cases r with
    | mu ds => exact ⟨fun _ => False, fun _ z => z.elim, s.chMo fun p es i e1 _ => absurd e1 (fin.res ds rfl i es), fun _ _ _ z => z⟩
    | no => exact ⟨M0, fun _ z => z, s, fun _ z => by cases z⟩
    | fr d => exact ⟨M0, fun _ z => z, s, fun _ z => by cases z⟩
  obtain ⟨M1, m01, s1, hown⟩ := hM
  have st : Sim K (fun a => M1 a ∨ H a = none) G H (L2.start N vs) (cs ++ List.replicate (N.length - cs.length) .no) := by
    unfold L2.start
    rw [el]
    exact sim_start (s1.chM fun p _ m => .inl m) _
  have post : ∀ v G' H' σ', Grow (fun a => M1 a ∨ H a = none) G H G' H' → Keep S (L2.start N vs) σ' → Sim K (fun a => M1 a ∨ H a = none) G' H' σ' ρ' → ResOk K (fun a => M1 a ∨ H a = none) G' H' v r → Q v H' := fun v G' H' σ' g k s' rs => by
    have g0 : Grow M0 G H G' H' := g.wk fun a e z => by
      rcases z with z | z
      · exact m01 a z
      · exact absurd z e
    have back : ∀ (i : Nat) (ds : MO), cs'[i]? = some (.mu ds) → σ'[i]? = (vs.map some)[i]? ∧ ρ'[i]? = some (.mu ds) := fun i ds h1 => by
      obtain ⟨a, b, es, c⟩ := fin.own i ds h1
      have hi : i < vs.length := by rw [el]; exact (List.getElem?_eq_some_iff.mp c).1
      refine ⟨(k i a).trans ?_, b⟩
      unfold L2.start
      rw [List.getElem?_append_left (by rw [List.length_map]; exact hi)]
    refine q v G' H' g0 ⟨by rw [fin.len]; exact s.len, s'.sub, fun {i d} h1 => ?_, fun {i ds} h1 => ?_, fun {i j ds es p} ne h1 h2 h3 h4 => ?_⟩ ?_
    · obtain ⟨w, e1, e2⟩ := s.fr (fin.fr i d h1)
      exact ⟨w, e1, e2.mono g.g⟩
    · obtain ⟨a, b⟩ := back i ds h1
      obtain ⟨_, _, es, c⟩ := fin.own i ds h1
      obtain ⟨p, us, e1, m1, g1, h2, dd⟩ := s'.mu b
      obtain ⟨p0, us0, e0, m0, _⟩ := s.mu c
      rw [a, e0] at e1
      cases e1
      exact ⟨p, us, e0, m0, g1, h2, dd⟩
    · obtain ⟨a1, b1⟩ := back i ds h1
      obtain ⟨a2, b2⟩ := back j es h2
      exact s'.apart ne b1 b2 (a1.trans h3) (a2.trans h4)
    · cases r with
      | no => exact trivial
      | fr d => exact rs
      | mu ds =>
        obtain ⟨p, us, e1, m1, r2⟩ := rs
        refine ⟨p, us, e1, ?_, r2⟩
        rcases m1 with z | z
        · exact absurd z (hown ds rfl p)
        · exact z
  rcases hx with hx | ⟨er, hx⟩
  · exact hx _ G H _ _ (fun a e => .inr e) st post
  · subst er
    exact hx _ G H _ _ (fun a e => .inr e) st fun G' H' σ' g k s' => post .non G' H' σ' g k s' .non

/-! ### calls -/
theorem sim_args {G H : Hp} {vs : List V} (hd : Dzs K G vs ds) (s : Ex G H) : Sim K (fun _ => False) G H (vs.map some) (ds.map .fr) := by
  have no : ∀ {i : Nat} {es : MO}, (ds.map Cell.fr)[i]? = some (.mu es) → False := fun {i es} h => by
    rw [List.getElem?_map] at h
    cases e : ds[i]? with
    | none => rw [e] at h; cases h
    | some d => rw [e] at h; cases h
  refine ⟨by rw [List.length_map, List.length_map, hd.len], s, fun {i d} h => ?_, fun h => (no h).elim, fun _ h => (no h).elim⟩
  rw [List.getElem?_map] at h
  cases e : ds[i]? with
  | none => rw [e] at h; cases h
  | some d' =>
    rw [e] at h
    cases h
    obtain ⟨v, e1, e2⟩ := hd.get e
    exact ⟨v, by rw [List.getElem?_map, e1]; rfl, e2⟩
theorem Sim.after {M : MS} {G H G' H' : Hp} {σ : L2.St} (S : Sim K M G H σ ρ) (g : Grow (fun _ => False) G H G' H') (s : Ex G' H') : Sim K M G' H' σ ρ :=
  S.grow s g.g fun p es j e1 e2 => by
    obtain ⟨p', us, e', m, gp, hp, dz⟩ := S.mu e1
    rw [e2] at e'
    cases e'
    exact ⟨(g.k p _ (fun z => z) hp).trans hp.symm, g.n p (fun z => z) (by rw [hp]; simp) gp⟩
/-- all arguments frozen, the answer frozen -/
theorem ev_callF {R : Rel} {X : XK} {tx : TA} (h : AgZ K tx ρ ρ' ds) (hR : R (ds.map .fr) (.fr d) (ds.map .fr)) : EvZ K (tCall (SpZ K R) [] X tx) ρ ρ' d := fun M G H σ S Q q =>
  h M G H σ S _ fun vs G1 H1 g1 s1 dv => by
    rw [List.append_nil]
    refine ⟨fun _ => False, G1, ds.map .fr, .fr d, ds.map .fr, sim_args dv s1.sub, hR, fun v G' H' g s r => q v G' H' (g1.trans (g.wk fun _ _ z => z.elim)) (s1.after g s.sub) r⟩
/-- all arguments frozen, the answer a new list -/
theorem en_callF {R : Rel} {X : XK} {tx : TA} (h : AgZ K tx ρ ρ' ds) (hR : R (ds.map .fr) (.own es) (ds.map .fr)) : EvN K (tCall (SpZ K R) [] X tx) ρ ρ' es := fun M G H σ S Q q =>
  h M G H σ S _ fun vs G1 H1 g1 s1 dv => by
    rw [List.append_nil]
    refine ⟨fun _ => False, G1, ds.map .fr, .own es, ds.map .fr, sim_args dv s1.sub, hR, fun v G' H' g s r => ?_⟩
    obtain ⟨p, ou, rfl, hp, gp, hp', du⟩ := r
    obtain ⟨us, rfl, du⟩ := mok_lst du
    exact q p us G' H' (g1.trans (g.wk fun _ _ z => z.elim)) (s1.after g s.sub) (g1.d p hp) gp hp' du
/-- the first argument the own object at slot i, the others frozen -/
theorem ev_callM {R : Rel} {X : XK} {tr : TA} {i : Nat} {b0 b1 b2 : MO} (h0 : ρ[i]? = some (.mu b0)) (h : AgZ K tr ρ ρ1 ds) (h1 : ρ1[i]? = some (.mu b1)) (hR : R (.mu b1 :: ds.map .fr) (.fr d) (.mu b2 :: ds.map .fr)) :
    EvZ K (tCall (SpZ K R) [] X (tCons (tVar i) tr)) ρ (ρ1.set i (.mu b2)) d := fun M G H σ S Q q => by
  obtain ⟨p, vs, e, m, gp, hp, dz⟩ := S.mu h0
  refine ⟨.ref p, e, h M G H σ S _ fun ws G1 H1 g1 s1 dv => ?_⟩
  show SpZ K R ((V.ref p :: ws) ++ []) H1 Q X
  rw [List.append_nil]
  obtain ⟨p', us, e', m', gp', hp', dz'⟩ := s1.mu h1
  rw [e] at e'
  cases e'
  have sa := sim_args (K := K) dv s1.sub
  have s0 : Sim K (fun a => a = p) G1 H1 ((V.ref p :: ws).map some) (.mu b1 :: ds.map .fr) := by
    refine ⟨by rw [List.map_cons, List.length_cons, List.length_cons, sa.len], s1.sub, fun {j d} h => ?_, fun {j d} h => ?_, fun {j k d e q} ne h2 h3 h4 h5 => ?_⟩
    · cases j with
      | zero => exact absurd (show some (Cell.mu b1) = some (Cell.fr d) from h) (by simp)
      | succ j => exact sa.fr (i := j) h
    · cases j with
      | zero =>
        have z : some (Cell.mu b1) = some (Cell.mu d) := h
        cases z
        exact ⟨p, us, rfl, rfl, gp', hp', dz'⟩
      | succ j =>
        obtain ⟨_, _, _, z, _⟩ := sa.mu (i := j) h
        exact z.elim
    · cases j with
      | zero =>
        cases k with
        | zero => exact ne rfl
        | succ k =>
          obtain ⟨_, _, _, z, _⟩ := sa.mu (i := k) h3
          exact z.elim
      | succ j =>
        obtain ⟨_, _, _, z, _⟩ := sa.mu (i := j) h2
        exact z.elim
  refine ⟨fun a => a = p, G1, .mu b1 :: ds.map .fr, .fr d, .mu b2 :: ds.map .fr, s0, hR, fun v G' H' g s r => ?_⟩
  have gM : Grow M G1 H1 G' H' := g.wk fun a _ z => by subst z; exact m'
  obtain ⟨p2, us2, e2, m2, gp2, hp2, dz2⟩ := s.mu (i := 0) rfl
  have ep : p = p2 := by cases e2; rfl
  subst ep
  refine q v G' H' (g1.trans gM) ⟨by rw [List.length_set]; exact s1.len, s.sub, fun {j d} h => ?_, fun {j d} h => ?_, fun {j k d e2 q} ne h2 h3 h4 h5 => ?_⟩ r
  · rcases get_set h with ⟨_, z, _⟩ | ⟨_, h⟩
    · cases z
    · obtain ⟨w, a1, a2⟩ := s1.fr h
      exact ⟨w, a1, a2.mono g.g⟩
  · rcases get_set h with ⟨ej, z, _⟩ | ⟨ej, h⟩
    · subst ej
      cases z
      exact ⟨p, us2, e, m', gp2, hp2, dz2⟩
    · obtain ⟨w, ws', a1, a2, a3, a4, a5⟩ := s1.mu h
      have ne : w ≠ p := fun z => by
        subst z
        exact s1.apart ej h1 h e a1
      exact ⟨w, ws', a1, a2, g.n w ne (by rw [a4]; simp) a3, g.k w _ ne a4, a5.mono g.g⟩
  · have a1 : ∃ x, ρ1[j]? = some (.mu x) := by
      rcases get_set h2 with ⟨ej, _, _⟩ | ⟨_, h2⟩
      · subst ej; exact ⟨_, h1⟩
      · exact ⟨_, h2⟩
    have a2 : ∃ x, ρ1[k]? = some (.mu x) := by
      rcases get_set h3 with ⟨ej, _, _⟩ | ⟨_, h3⟩
      · subst ej; exact ⟨_, h1⟩
      · exact ⟨_, h3⟩
    obtain ⟨x, a1⟩ := a1
    obtain ⟨y, a2⟩ := a2
    exact s1.apart ne a1 a2 h4 h5
theorem ev_callB {R : Rel} {X : XK} {tr : TA} {i : Nat} {b0 b1 b2 : List D} (h0 : ρ[i]? = some (.own b0)) (h : AgZ K tr ρ ρ1 ds) (h1 : ρ1[i]? = some (.own b1)) (hR : R (.own b1 :: ds.map .fr) (.fr d) (.own b2 :: ds.map .fr)) :
    EvZ K (tCall (SpZ K R) [] X (tCons (tVar i) tr)) ρ (ρ1.set i (.own b2)) d := ev_callM h0 h h1 hR
end Z

set_option Elab.async false
set_option linter.all false
set_option maxRecDepth 100000
set_option maxHeartbeats 2000000
/-! ZSpec: a def as a relation of cells, its promise, calls by it; short names of readings; isinstance. -/
namespace Z
open PySem PySem.Spec PyProof.Rows L2
open Evl (Ex Ex.refl Ex.trans Ex.new ex_rd ex_l ex_t sq_of st_of fresh_back sz_of sz_lt)

/-- what the body t (n slots, m parameters) makes of the cells cs -/
def RelOf (K : PySem.W.Frag) (S : List Nat) (t : TS) (n m : Nat) : Rel := fun cs r cs' => cs.length = m ∧ ∃ ρ', (ExZ K S t (cs ++ List.replicate (n - m) .no) (.rt ρ' r) ∨ (r = .fr .non ∧ ExZ K S t (cs ++ List.replicate (n - m) .no) (.nx ρ'))) ∧ FinZ S cs cs' ρ' r
/-- R gives, from Pre, an answer of Post -/
def Spec (R : Rel) (Pre : List Cell → Prop) (Post : List Cell → Cell → List Cell → Prop) : Prop := ∀ cs, Pre cs → ∃ r cs', R cs r cs' ∧ Post cs r cs'
/-- the def x keeps the promise of R -/
structure Zdef (P : Program) (w : World) (K : PySem.W.Frag) (mg : Str → Option Value) (base : Heap) (k : Nat) (x : Str) (ps : List Str) (R : Rel) : Prop where
  ex : ∃ (f : Addr) (fd : FuncData), FnOk P w K mg base CX0 k f fd ps (SpZ K R) ∧ mg x = some (.ref f) ∧ PySem.W.keepIn K (.ref f) = true ∧ Binds K fd ps [] ∧ ∃ (oc : Value) (od : Option Addr) (osl : Array (Option Value)), K.lookup f = some ⟨oc, od, .func fd, osl⟩
theorem Fun.look {K : PySem.W.Frag} {x qual : Str} {st : Stmt} {f : Addr} {fd : FuncData} (F : Fun K x qual st f fd) : ∃ (oc : Value) (od : Option Addr) (osl : Array (Option Value)), K.lookup f = some ⟨oc, od, .func fd, osl⟩ := by
  obtain ⟨oc, od, _, _, _, _, _, _, osl, rfl, lk, _⟩ := F.ex
  exact ⟨oc, od, osl, lk⟩
theorem def_z {P : Program} {w : World} {K : PySem.W.Frag} {mg : Str → Option Value} {base : Heap} {x qual : Str} {st : Stmt} {f : Addr} {fd : FuncData} {N ps : List Str} {k n m : Nat} {t : TS} {S : List Nat} (F : Fun K x qual st f fd) (hm : mg x = some (.ref f))
    (Sc : FnScope N ps (defScope st)) (hn : N.length = n) (hp : ps.length = m) (b : Binds K fd ps [])
    (h : ∀ (cdv : Value) (A : Around) (outer : List Env) (s : Shared) (H : Hp) (E : XK), Room k (A.deeper (envOfC qual (defScope st) s.heap.objs.size f cdv)) → PSs (cxOf CX0 P w K mg base N qual (defScope st) f cdv A outer s H E).nox (defBody st) t) :
    Zdef P w K mg base (k + 1) x ps (RelOf K S t n m) := by
  subst hn
  subst hp
  refine ⟨f, fd, F.ok Sc (spz_len fun _ _ _ h => h.1) (fun cdv A outer s H vs Q E hr hsp => ⟨t, h cdv A outer s H E hr, body_z S hsp fun cs r cs' hR => ?_⟩), hm, F.kp, b, Fun.look F⟩
  obtain ⟨hl, ρ', h1, h2⟩ := hR
  rw [hl]
  exact ⟨ρ', h1, h2⟩
theorem pe_callZ {X : Cx} {k : Nat} {x : Str} {ps : List Str} {R : Rel} {e : Expr} {es : List Expr} {p pos : Pos} {t : TA} (G : Zdef X.prog X.w X.K X.mg X.base k x ps R) {j : Nat} (hr : Room j X.A) (hk : k ≤ j) (hg : Gl X x) (ha : PA X (e :: es) t)
    (hdb : (x == ("__debug__" : Str)) = false := by decide) (he : starEach (e :: es) X.env = (false, eval e X.env) :: starEach es X.env := by rfl) (hpl : (backTo pos (starEach es X.env)).any (·.1) = false := by rfl) :
    PE X (.Call (.Name x p) (e :: es) [] pos) (tCall (SpZ X.K R) [] E0 t) := by
  obtain ⟨f, fd, h1, h2, h3, h4, _⟩ := G.ex
  exact pe_call h1 (hr.mono hk) hg h2 h3 h4 .nil pass0 ha hdb he hpl

/-! ### readings by short names -/
abbrev rAddI : R2 := rI0 fun i j => .int (i + j)
abbrev rSubI : R2 := rI0 fun i j => .int (i - j)
abbrev rMulI : R2 := rI CMul fun i j => .int (i * j)
abbrev rModI : R2 := rI (fun _ j => 0 < j) fun i j => .int (i % j)
abbrev rDivI : R2 := rI CDiv fun i j => .int (i / j)
abbrev rPowI : R2 := rI CPow fun i j => .int (i ^ j.toNat)
abbrev rLtI : R2 := rI0 fun i j => .bl (decide (i < j))
abbrev rGtI : R2 := rI0 fun i j => .bl (decide (j < i))
abbrev rGeI : R2 := rI0 fun i j => .bl (decide (j ≤ i))
abbrev rLenX (K : PySem.W.Frag) : List V → Hp → VK → Prop := fun xs H Q => ∃ x n, xs = [x] ∧ LenV K x H n ∧ Q (.int n) H
abbrev rToInt : List V → Hp → VK → Prop := fun xs H Q => (∃ i, xs = [.int i] ∧ Q (.int i) H) ∨ ∃ k, xs = [.bl k] ∧ Q (.int (if k then 1 else 0)) H
abbrev rIsN : R2 := fun x y H Q => y = .non ∧ Q (.bl (decide (x = .non))) H
def tTruth (K : PySem.W.Frag) (ta : TE) : TT := fun σ H Q => ta σ H fun x H' => ∃ k, TruV K x H' k ∧ Q k H'

/-! ### isinstance of data -/
section
variable {K : PySem.W.Frag} {ρ ρ' : Rho} {ta : TE} {d : D}
def tyN : D → String
  | .non => "NoneType"
  | .bl _ => "bool"
  | .int _ => "int"
  | .str _ => "str"
  | .lst _ => "list"
  | .tup _ => "tuple"
  | .dK _ => "dict"
  | .dT _ => "dict"
  | .ins _ _ => ""
  | .rng _ _ => "range"
  | .tupf _ => "tuple"
def notIns : D → Bool
  | .ins _ _ => false
  | .rng _ _ => false
  | .tupf _ => false
  | _ => true
theorem tyx_of {H : Hp} {v : V} (h : Dz K H v d) (hn : notIns d = true) : TyX K H v (.type (tyN d)) := by
  cases h with
  | non => exact .base .non
  | bl b => exact .base (.bl b)
  | int i => exact .base (.int i)
  | str x => exact .base (.str x)
  | lst h _ =>
    rcases h with (h | ⟨o, h⟩) | ⟨o, its, n, h, hc, _⟩
    · exact .base (.lst h)
    · exact .base (.frz h)
    · exact .kList h hc
  | tup h _ => exact .base (.tup h)
  | zt h =>
    obtain ⟨o, its, n, h, hc, _⟩ := h
    exact .kTuple h hc
  | dK h _ => exact .base (.dK h)
  | dT h _ => exact .base (.dT h)
  | ins _ _ => cases hn
  | rng _ => cases hn
  | tupf _ _ _ _ _ => cases hn
  | ft h _ _ => exact .fTuple h
theorem ev_isi {T : String} {b : Bool} (ha : EvZ K ta ρ ρ' d) (hk : PySem.W.kitOne K (.type (tyN d)) (.type T) = some b) (hn : notIns d = true := by rfl) : EvZ K (tCB (rIsi K) (tCons ta (tCons (tC (.ty T)) tNil))) ρ ρ' (.bl b) := fun M G H σ S Q q =>
  ha M G H σ S _ fun u G1 H1 g1 s1 du => ⟨u, .ty T, _, _, b, rfl, .ty T, tyx_of (du.mono s1.sub) hn, hk, q _ G1 H1 g1 s1 (.bl b)⟩
end
example (K : PySem.W.Frag) : PySem.W.kitOne K (.type "bool") (.type "int") = some true := by rfl
example (K : PySem.W.Frag) : PySem.W.kitOne K (.type "bool") (.type "tuple") = some false := by rfl
end Z
namespace Z
open PySem PySem.Spec PyProof.Rows L2
/-- the def never called: it keeps every promise that nothing asks -/
theorem zdef_none {P : Program} {w : World} {K : PySem.W.Frag} {mg : Str → Option Value} {base : Heap} {x qual : Str} {st : Stmt} {f : Addr} {fd : FuncData} {ps : List Str} (F : Fun K x qual st f fd) (hm : mg x = some (.ref f)) (b : Binds K fd ps []) (k : Nat) :
    Zdef P w K mg base k x ps (fun _ _ _ => False) :=
  ⟨f, fd, ⟨fun vs H Q E h => by obtain ⟨_, _, _, _, _, _, h, _⟩ := h; exact h.elim, fun A outer s H args us vs Q E hr he hb hv h => by obtain ⟨_, _, _, _, _, _, h, _⟩ := h; exact h.elim⟩, hm, F.kp, b, Fun.look F⟩
/-- the script's list as data -/
theorem dz_script {K : PySem.W.Frag} {H : Hp} {a : Addr} {ns : List Int} (h : SqL K H a (ns.map V.int)) : Dz K H (.ref a) (.lst (ns.map .int)) := .lst h (.of_ints ns)
/-- the promise of a law: whatever the script, True -/
def SpLaw (K : PySem.W.Frag) : Sp := fun vs H Q _ => ∃ (a : Addr) (ns : List Int), vs = [.ref a] ∧ SqL K H a (ns.map V.int) ∧ ∀ H', Q (.bl true) H'
theorem law_imp {K : PySem.W.Frag} {R : Rel} (hR : ∀ ns : List Int, R [.fr (.lst (ns.map .int))] (.fr (.bl true)) [.fr (.lst (ns.map .int))]) : ∀ vs H Q E, SpLaw K vs H Q E → SpZ K R vs H Q E := fun vs H Q E ⟨a, ns, hv, hs, q⟩ => by
  subst hv
  refine ⟨fun _ => False, H, [.fr (.lst (ns.map .int))], .fr (.bl true), [.fr (.lst (ns.map .int))], sim_args (ds := [.lst (ns.map .int)]) (.cons (dz_script hs) .nil) (fun _ _ h => h), hR ns, fun v G' H' _ _ r => ?_⟩
  have e : v = .bl true := Dz.bl_inv r
  rw [e]
  exact q H'
end Z
namespace Z
open PySem PySem.Spec PyProof.Rows L2
/-- the law's def, by its record -/
theorem law_fd {P : Program} {w : World} {K : PySem.W.Frag} {mg : Str → Option Value} {base : Heap} {k : Nat} {x : Str} {ps : List Str} {R : Rel} {f : Addr} {fd : FuncData} {sp : Sp} {oc : Value} {od : Option Addr} {sl : Array (Option Value)} (Z : Zdef P w K mg base k x ps R) (hf : mg x = some (.ref f))
    (l : K.lookup f = some ⟨oc, od, .func fd, sl⟩) (q : ∀ vs H Q E, sp vs H Q E → SpZ K R vs H Q E) : FnOk P w K mg base CX0 k f fd ps sp := by
  obtain ⟨f', fd', h1, h2, h3, h4, oc', od', sl', l'⟩ := Z.ex
  rw [hf] at h2
  cases h2
  rw [l] at l'
  cases l'
  exact h1.imp q
end Z

set_option Elab.async false
set_option linter.all false
set_option maxRecDepth 100000
set_option maxHeartbeats 2000000
/-! ZMore: forms of the rules that are used often. -/
namespace Z
open PySem PySem.Spec PyProof.Rows L2
open Evl (Ex Ex.refl Ex.trans Ex.new ex_rd ex_l ex_t sq_of st_of fresh_back sz_of sz_lt)
variable {K : PySem.W.Frag} {S : List Nat} {ρ ρ' ρ1 ρ2 ρ3 : Rho} {ta tb tc te tl : TE} {tt tu : TT} {ts us : TS} {g : TG} {A : List Nat} {d e x y : D} {ds es xs ys rs : List D} {b c : Bool} {o : Out}
theorem set_no {j : Nat} {c : Cell} (h : ρ[j]? = some .no) : wipeR (ρ.set j c) [j] = ρ := by
  show (ρ.set j c).set j .no = ρ
  rw [List.set_set]
  apply List.ext_getElem?
  intro i
  by_cases e : j = i
  · subst e
    rw [List.getElem?_set_self (List.getElem?_eq_some_iff.mp h).1, h]
  · rw [List.getElem?_set_ne e]
/-- the same where the items are those of a list of something -/
theorem comp_mapA {α : Type} {j : Nat} (u : α → D) (f : α → D) (hj : ρ[j]? = some .no) : ∀ (as : List α), (∀ a ∈ as, EvZ K te (ρ.set j (.fr (u a))) (ρ.set j (.fr (u a))) (f a)) → CompZ K (gName j) tYes te [j] [j] (as.map u) ρ (as.map f) ρ
  | [], _ => .nil
  | d :: ds, h => by
    refine .yes tg_name ts_yes (h d List.mem_cons_self) ?_
    rw [set_no hj]
    exact comp_mapA u f hj ds fun d' hd => h d' (List.mem_cons_of_mem _ hd)
def isNo : D → Bool
  | .non => true
  | _ => false
theorem ev_isN (ha : EvZ K ta ρ ρ1 d) : EvZ K (tOp rIsN ta (tC .non)) ρ ρ1 (.bl (isNo d)) :=
  ev_op ha ev_non.rd fun u v G H Q _ du dv q => by
    refine ⟨dv.non_inv, ?_⟩
    cases du <;> exact q _ (.bl _)
theorem rangeD_cons {m n : Nat} : rangeD (m : Int) (n + 1) = .int (m : Int) :: rangeD ((m + 1 : Nat) : Int) n := by
  unfold rangeD
  rw [List.range_succ_eq_map, List.map_cons, List.map_map]
  have h0 : (m : Int) + ((0 : Nat) : Int) = (m : Int) := by omega
  rw [h0]
  refine congrArg _ (List.map_congr_left fun i _ => ?_)
  show D.int ((m : Int) + ((i + 1 : Nat) : Int)) = D.int (((m + 1 : Nat) : Int) + (i : Int))
  exact congrArg D.int (by omega)
end Z

set_option Elab.async false
set_option linter.all false
set_option maxRecDepth 100000
set_option maxHeartbeats 2000000
/-! LawA: what the helpers of a law that draw from the script come to. -/
namespace Z
open PySem PySem.Spec PyProof.Rows L2
open Evl (Ex Ex.refl Ex.trans Ex.new ex_rd ex_l ex_t sq_of st_of fresh_back sz_of sz_lt)
def t__law_cell (K : PySem.W.Frag) : TS :=
  (tSeq (tIfS (tTest (tOp rLtI (tVar 1) (tCB (rLenX K) (tCons (tVar 0) tNil)))) (tRet (tCB rToInt (tCons (tOp (rIx K) (tVar 0) (tVar 1)) tNil))) tNext)
      (tRet (tC (.int 0))))

def b__law_digits_1 (K : PySem.W.Frag) : TS :=
  (tIfS (tTest (tOp rGtI (tVar 0) (tC (.int 0)))) (tSeq (tDrop (tBM K "list" rAppend (tVar 2) (tCons (tOp rModI (tCB rToInt (tCons (tVar 0) tNil)) (tC (.int 1000))) tNil)))
      (tAsg (tOp rDivI (tVar 0) (tC (.int 1000))) (gName 0))) tNext)
def b__law_digits_2 (K : PySem.W.Frag) : TS :=
  (tSeq (tAsg (tOp rModI (tCB rToInt (tCons (tOp rAddI (tOp rAddI (tOp rMulI (tVar 4) (tC (.int 16807))) (tOp rMulI (tC (.int 7)) (tVar 3))) (tC (.int 1))) tNil)) (tC (.int 2147483647))) (gName 4))
      (tDrop (tBM K "list" rAppend (tVar 2) (tCons (tOp rModI (tCB rToInt (tCons (tOp rDivI (tVar 4) (tC (.int 997))) tNil)) (tC (.int 1000))) tNil))))
def t__law_digits (K : PySem.W.Frag) : TS :=
  (tSeq (tAsg (tLst tNil) (gName 2))
      (tSeq (tIfS (tTest (tOp rLtI (tVar 0) (tC (.int 0)))) (tAsg (tOp rSubI (tC (.int 1)) (tOp rMulI (tC (.int 2)) (tVar 0))) (gName 0)) tNext)
      (tSeq (tIfS (tTest (tOp rGeI (tVar 0) (tOp rPowI (tC (.int 10)) (tC (.int 18))))) (tFor (iRng1 (tCons (tC (.int 60)) tNil)) (gName 3) (b__law_digits_1 K)) (tSeq (tAsg (tOp rModI (tCB rToInt (tCons (tOp rAddI (tOp rAddI (tOp rMulI (tVar 0) (tC (.int 48271))) (tOp rMulI (tVar 1) (tC (.int 69621)))) (tC (.int 11))) tNil)) (tC (.int 2147483647))) (gName 4))
      (tFor (iRng1 (tCons (tC (.int 60)) tNil)) (gName 3) (b__law_digits_2 K))))
      (tRet (tVar 2)))))

def t__law_box (K : PySem.W.Frag) (R__law_cell : Rel) (R__law_digits : Rel) : TS :=
  (tRet (tLst (tCons (tCall (SpZ K R__law_digits) [] E0 (tCons (tCall (SpZ K R__law_cell) [] E0 (tCons (tVar 0) (tCons (tVar 1) tNil))) (tCons (tVar 1) tNil))) (tCons (tC (.int 0)) tNil))))

def t__law_draw (K : PySem.W.Frag) : TS :=
  (tSeq (tAsg (tOp (rIx K) (tVar 0) (tC (.int 1))) (gName 2))
      (tSeq (tAsg (tOp rAddI (tVar 2) (tC (.int 1))) (gSub (tVar 0) (tC (.int 1)) rSetL))
      (tSeq (tIfS (tTest (tOp rLtI (tVar 2) (tCB (rLenX K) (tCons (tOp (rIx K) (tVar 0) (tC (.int 0))) tNil)))) (tRet (tOp rModI (tCB rToInt (tCons (tOp (rIx K) (tOp (rIx K) (tVar 0) (tC (.int 0))) (tVar 2)) tNil)) (tVar 1))) tNext)
      (tRet (tC (.int 0))))))

def t__law_is_integer (K : PySem.W.Frag) : TS :=
  (tRet (tAndV (tCB (rIsi K) (tCons (tVar 0) (tCons (tC (.ty "int")) tNil))) (tNotV (tCB (rIsi K) (tCons (tVar 0) (tCons (tC (.ty "bool")) tNil))))))

def e__law_same_1 (K : PySem.W.Frag) (R__law_is_integer : Rel) (R__law_same : Rel) : TE :=
  (tCall (SpZ K R__law_same) [] E0 (tCons (tOp (rIx K) (tVar 0) (tVar 2)) (tCons (tOp (rIx K) (tVar 1) (tVar 2)) tNil)))
def t__law_same (K : PySem.W.Frag) (R__law_is_integer : Rel) (R__law_same : Rel) : TS :=
  (tSeq (tIfS (tB (tCB (rIsi K) (tCons (tVar 1) (tCons (tC (.ty "tuple")) tNil)))) (tSeq (tIfS (tOr (tNot (tB (tCB (rIsi K) (tCons (tVar 0) (tCons (tC (.ty "tuple")) tNil))))) (tTest (tOp rNe (tCB (rLenX K) (tCons (tVar 0) tNil)) (tCB (rLenX K) (tCons (tVar 1) tNil))))) (tRet (tC (.bl false))) tNext)
      (tRet (tCB (rAll K) (tCons (tLc (iRng1 (tCons (tCB (rLenX K) (tCons (tVar 1) tNil)) tNil)) (gName 2) tYes (e__law_same_1 K R__law_is_integer R__law_same) [2]) tNil)))) tNext)
      (tSeq (tIfS (tB (tCB (rIsi K) (tCons (tVar 1) (tCons (tC (.ty "bool")) tNil)))) (tRet (tAndV (tCB (rIsi K) (tCons (tVar 0) (tCons (tC (.ty "bool")) tNil))) (tOp rEq (tVar 0) (tVar 1)))) tNext)
      (tSeq (tIfS (tB (tCB (rIsi K) (tCons (tVar 1) (tCons (tC (.ty "int")) tNil)))) (tRet (tAndV (tCall (SpZ K R__law_is_integer) [] E0 (tCons (tVar 0) tNil)) (tOp rEq (tVar 0) (tVar 1)))) tNext)
      (tSeq (tIfS (tB (tCB (rIsi K) (tCons (tVar 1) (tCons (tC (.ty "str")) tNil)))) (tRet (tAndV (tCB (rIsi K) (tCons (tVar 0) (tCons (tC (.ty "str")) tNil))) (tOp rEq (tVar 0) (tVar 1)))) tNext)
      (tRet (tAndV (tOp rIsN (tVar 0) (tC .non)) (tOp rIsN (tVar 1) (tC .non))))))))

section
variable {K : PySem.W.Frag}
/-! ### _law_cell -/
def PreCell (cs : List Cell) : Prop := ∃ (ns : List Int) (k : Nat), cs = [.fr (.lst (ns.map .int)), .fr (.int (k : Int))]
def PostCell (cs : List Cell) (r : Cell) (cs' : List Cell) : Prop := cs' = cs ∧ ∃ i : Int, r = .fr (.int i)
theorem sem_cell : Spec (RelOf K [] (t__law_cell K) 2 2) PreCell PostCell := by
  rintro _ ⟨ns, k, rfl⟩
  have key : ∃ (i : Int) (ρ2 : Rho), ExZ K [] (t__law_cell K) [.fr (.lst (ns.map .int)), .fr (.int (k : Int))] (.rt ρ2 (.fr (.int i))) := by
    have ht := ts_test (ev_lt (K := K) (ρ := [.fr (.lst (ns.map .int)), .fr (.int (k : Int))]) (ev_var (i := 1) rfl) (ev_lenL (ev_var (i := 0) rfl).rd))
    by_cases h : k < ns.length
    · refine ⟨ns[k], _, ex_seqR (ex_ifT (ts_is ht ?_) (ex_ret (ev_toInt (ev_ixL (ev_var rfl) (ev_var rfl) (at_nat (j := k) ?_)))))⟩
      · rw [List.length_map]
        exact decide_eq_true (by omega)
      · rw [List.getElem?_map, List.getElem?_eq_getElem h]
        rfl
    · refine ⟨0, _, ex_seq (ex_ifF (ts_is ht ?_) ex_next) (ex_ret ev_int)⟩
      rw [List.length_map]
      exact decide_eq_false (by omega)
  obtain ⟨i, ρ2, h⟩ := key
  exact ⟨_, _, ⟨rfl, ρ2, .inl h, fin_fr (ds := [.lst (ns.map .int), .int (k : Int)])⟩, rfl, i, rfl⟩
/-! ### _law_digits -/
def Nn (ds : List Int) : Prop := ∀ d ∈ ds, 0 ≤ d
theorem Nn.snoc {ds : List Int} {d : Int} (h : Nn ds) (hd : 0 ≤ d) : Nn (ds ++ [d]) := fun x hx => by
  rcases List.mem_append.mp hx with hx | hx
  · exact h x hx
  · rcases List.mem_cons.mp hx with z | z
    · rw [z]; exact hd
    · cases z
def PreDig (cs : List Cell) : Prop := ∃ (c a : Int), cs = [.fr (.int c), .fr (.int a)] ∧ -1000000 ≤ a ∧ a ≤ 1000000
def PostDig (cs : List Cell) (r : Cell) (cs' : List Cell) : Prop := cs' = cs ∧ ∃ ds : List Int, Nn ds ∧ ds.length ≤ 60 ∧ r = .own (ds.map .int)
theorem map_snoc (ds : List Int) (d : Int) : ds.map D.int ++ [D.int d] = (ds ++ [d]).map D.int := by rw [List.map_append]; rfl
theorem dig_loop1 (a : Int) (sv : Cell) : ∀ (n m : Nat) (c : Int) (ds : List Int) (tv : Cell), 0 ≤ c → Nn ds → ds.length ≤ m → m + n ≤ 60 → ∃ c' ds' tv', 0 ≤ c' ∧ Nn ds' ∧ ds'.length ≤ 60 ∧
    LoopZ K [] (gName 3) (b__law_digits_1 K) [3] (rangeD (m : Int) n) [.fr (.int c), .fr (.int a), .own (ds.map .int), tv, sv] (.nx [.fr (.int c'), .fr (.int a), .own (ds'.map .int), tv', sv])
  | 0, m, c, ds, tv, hc, hn, hl, hm => ⟨c, ds, tv, hc, hn, by omega, .nil⟩
  | n + 1, m, c, ds, tv, hc, hn, hl, hm => by
    rw [rangeD_cons]
    have ht := ts_test (ev_gt (K := K) (ρ := [.fr (.int c), .fr (.int a), .own (ds.map .int), .fr (.int (m : Int)), sv]) (ev_var (i := 0) rfl) (ev_int (i := 0)))
    by_cases h : 0 < c
    · obtain ⟨c', ds', tv', h1, h2, h3, h4⟩ := dig_loop1 a sv n (m + 1) (c / 1000) (ds ++ [c % 1000]) (.fr (.int (m : Int))) (by omega) (hn.snoc (by omega)) (by rw [List.length_append]; show ds.length + 1 ≤ m + 1; omega) (by omega)
      refine ⟨c', ds', tv', h1, h2, h3, .step tg_name (ex_ifT (ts_is ht (decide_eq_true h)) (ex_seq (ex_app (i := 2) (ev_mod (ev_toInt (ev_var rfl)) ev_int (by decide)) rfl rfl (by rw [List.length_map]; omega)) (ex_set (i := 0) (ev_fdiv (ev_var rfl) ev_int ⟨by decide, by decide⟩) (by decide)))) ?_⟩
      rw [← map_snoc] at h4
      exact h4
    · obtain ⟨c', ds', tv', h1, h2, h3, h4⟩ := dig_loop1 a sv n (m + 1) c ds (.fr (.int (m : Int))) hc hn (by omega) (by omega)
      exact ⟨c', ds', tv', h1, h2, h3, .step tg_name (ex_ifF (ts_is ht (decide_eq_false h)) ex_next) h4⟩
theorem dig_loop2 (c a : Int) : ∀ (n m : Nat) (s : Int) (ds : List Int) (tv : Cell), 0 ≤ s → s < 2147483647 → Nn ds → ds.length ≤ m → m + n ≤ 60 → ∃ s' ds' tv', Nn ds' ∧ ds'.length ≤ 60 ∧
    LoopZ K [] (gName 3) (b__law_digits_2 K) [3] (rangeD (m : Int) n) [.fr (.int c), .fr (.int a), .own (ds.map .int), tv, .fr (.int s)] (.nx [.fr (.int c), .fr (.int a), .own (ds'.map .int), tv', .fr (.int s')])
  | 0, m, s, ds, tv, h0, h1, hn, hl, hm => ⟨s, ds, tv, hn, by omega, .nil⟩
  | n + 1, m, s, ds, tv, h0, h1, hn, hl, hm => by
    rw [rangeD_cons]
    have hs0 : 0 ≤ (s * 16807 + 7 * (m : Int) + 1) % 2147483647 := by omega
    have hs1 : (s * 16807 + 7 * (m : Int) + 1) % 2147483647 < 2147483647 := by omega
    obtain ⟨s', ds', tv', h2, h3, h4⟩ := dig_loop2 c a n (m + 1) ((s * 16807 + 7 * (m : Int) + 1) % 2147483647) (ds ++ [(s * 16807 + 7 * (m : Int) + 1) % 2147483647 / 997 % 1000]) (.fr (.int (m : Int))) hs0 hs1 (hn.snoc (by omega)) (by rw [List.length_append]; show ds.length + 1 ≤ m + 1; omega) (by omega)
    refine ⟨s', ds', tv', h2, h3, .step tg_name (ex_seq (ex_set (i := 4) (ev_mod (ev_toInt (ev_add (ev_add (ev_mul (ev_var rfl) ev_int (.inl ⟨by omega, by omega⟩)) (ev_mul ev_int (ev_var rfl) (.inl ⟨by decide, by decide⟩))) ev_int)) ev_int (by decide)) (by decide))
      (ex_app (i := 2) (ev_mod (ev_toInt (ev_fdiv (ev_var rfl) ev_int ⟨by decide, by decide⟩)) ev_int (by decide)) rfl rfl (by rw [List.length_map]; omega))) ?_⟩
    rw [← map_snoc] at h4
    exact h4
theorem sem_digits : Spec (RelOf K [] (t__law_digits K) 5 2) PreDig PostDig := by
  rintro _ ⟨c, a, rfl, ha, hb⟩
  have key : ∃ (ds : List Int) (ρ2 : Rho), Nn ds ∧ ds.length ≤ 60 ∧ ExZ K [] (t__law_digits K) [.fr (.int c), .fr (.int a), .no, .no, .no] (.rt ρ2 (.own (ds.map .int))) := by
    -- cell, made at least 0
    have h1 : ∃ c1 : Int, 0 ≤ c1 ∧ ExZ K [] (tIfS (tTest (tOp rLtI (tVar 0) (tC (.int 0)))) (tAsg (tOp rSubI (tC (.int 1)) (tOp rMulI (tC (.int 2)) (tVar 0))) (gName 0)) tNext) [.fr (.int c), .fr (.int a), .own [], .no, .no] (.nx [.fr (.int c1), .fr (.int a), .own [], .no, .no]) := by
      have ht := ts_test (ev_lt (K := K) (ρ := [.fr (.int c), .fr (.int a), .own [], .no, .no]) (ev_var (i := 0) rfl) (ev_int (i := 0)))
      by_cases h : c < 0
      · exact ⟨1 - 2 * c, by omega, ex_ifT (ts_is ht (decide_eq_true h)) (ex_set (i := 0) (ev_sub ev_int (ev_mul ev_int (ev_var rfl) (.inl ⟨by decide, by decide⟩))) (by decide))⟩
      · exact ⟨c, by omega, ex_ifF (ts_is ht (decide_eq_false h)) ex_next⟩
    obtain ⟨c1, hc1, h1⟩ := h1
    have ht := ts_test (ev_ge (K := K) (ρ := [.fr (.int c1), .fr (.int a), .own [], .no, .no]) (ev_var (i := 0) rfl) (ev_pow (ev_int (i := 10)) (ev_int (i := 18)) ⟨by decide, by decide, by decide⟩))
    by_cases h : (10 : Int) ^ (18 : Int).toNat ≤ c1
    · obtain ⟨c', ds', tv', h2, h3, h4, h5⟩ := dig_loop1 (K := K) a .no 60 0 c1 [] .no hc1 (fun _ z => by cases z) (Nat.le_refl 0) (Nat.le_refl 60)
      exact ⟨ds', _, h3, h4, ex_seq (ex_setN (i := 2) (en_lst ag_nil (by decide)) OwnIn.refl (by decide)) (ex_seq h1 (ex_seq (ex_ifT (ts_is ht (decide_eq_true h)) (ex_for (it_range1 (ag_cons ev_int ag_nil) ⟨by decide, by decide⟩) h5 (by decide))) (ex_retO (i := 2) rfl)))⟩
    · have hlt : c1 < 1000000000000000000 := by
        have e : (10 : Int) ^ (18 : Int).toNat = 1000000000000000000 := by decide
        rw [e] at h
        omega
      obtain ⟨s', ds', tv', h3, h4, h5⟩ := dig_loop2 (K := K) c1 a 60 0 ((c1 * 48271 + a * 69621 + 11) % 2147483647) [] .no (by omega) (by omega) (fun _ z => by cases z) (Nat.le_refl 0) (Nat.le_refl 60)
      exact ⟨ds', _, h3, h4, ex_seq (ex_setN (i := 2) (en_lst ag_nil (by decide)) OwnIn.refl (by decide)) (ex_seq h1 (ex_seq (ex_ifF (ts_is ht (decide_eq_false h)) (ex_seq (ex_set (i := 4) (ev_mod (ev_toInt (ev_add (ev_add (ev_mul (ev_var rfl) ev_int (.inl ⟨by omega, by omega⟩)) (ev_mul (ev_var rfl) ev_int (.inl ⟨by omega, by omega⟩))) ev_int)) ev_int (by decide)) (by decide)) (ex_for (it_range1 (ag_cons ev_int ag_nil) ⟨by decide, by decide⟩) h5 (by decide)))) (ex_retO (i := 2) rfl)))⟩
  obtain ⟨ds, ρ2, h1, h2, h3⟩ := key
  exact ⟨_, _, ⟨rfl, ρ2, .inl h3, fin_fr (ds := [.int c, .int a])⟩, rfl, ds, h1, h2, rfl⟩
/-! ### _law_box -/
def GoodBox (b : List D) : Prop := ∃ (ds : List Int) (p : Nat), Nn ds ∧ ds.length ≤ 60 ∧ b = [.lst (ds.map .int), .int (p : Int)]
def PreBox (cs : List Cell) : Prop := ∃ (ns : List Int) (k : Nat), cs = [.fr (.lst (ns.map .int)), .fr (.int (k : Int))] ∧ k ≤ 1000000
def PostBox (cs : List Cell) (r : Cell) (cs' : List Cell) : Prop := cs' = cs ∧ ∃ b, GoodBox b ∧ r = .own b
theorem sem_box {Rc Rd : Rel} (hc : Spec Rc PreCell PostCell) (hd : Spec Rd PreDig PostDig) : Spec (RelOf K [] (t__law_box K Rc Rd) 2 2) PreBox PostBox := by
  rintro _ ⟨ns, k, rfl, hk⟩
  obtain ⟨r1, cs1, h1, rfl, i, rfl⟩ := hc _ ⟨ns, k, rfl⟩
  obtain ⟨r2, cs2, h2, rfl, ds, hn, hl, rfl⟩ := hd _ ⟨i, (k : Int), rfl, by omega, by omega⟩
  refine ⟨_, _, ⟨rfl, _, .inl (ex_retN (en_lst (ag_cons (EvN.ev (en_callF (ds := [.int i, .int (k : Int)]) (ag_cons (ev_callF (ds := [.lst (ns.map .int), .int (k : Int)]) (ag_cons (ev_var rfl) (ag_cons (ev_var rfl) ag_nil)) h1) (ag_cons (ev_var rfl) ag_nil)) h2) OwnIn.refl) (ag_cons ev_int ag_nil)) (by show 2 ≤ 100000; decide))), fin_fr (ds := [.lst (ns.map .int), .int (k : Int)])⟩, rfl, _, ⟨ds, 0, hn, hl, rfl⟩, rfl⟩
/-! ### _law_draw -/
def PreDraw (cs : List Cell) : Prop := ∃ (b : List D) (m : Int), cs = [.own b, .fr (.int m)] ∧ GoodBox b ∧ 0 < m
def PostDraw (cs : List Cell) (r : Cell) (cs' : List Cell) : Prop := ∀ (b : List D) (m : Int), cs = [.own b, .fr (.int m)] → ∃ (v : Int) (b' : List D), cs' = [.own b', .fr (.int m)] ∧ GoodBox b' ∧ 0 ≤ v ∧ v < m ∧ r = .fr (.int v)
theorem sem_draw : Spec (RelOf K [0] (t__law_draw K) 3 2) PreDraw PostDraw := by
  rintro _ ⟨b, m, rfl, ⟨ds, p, hn, hl, rfl⟩, hm⟩
  have key : ∃ (v : Int) (ρ2 : Rho), 0 ≤ v ∧ v < m ∧ ρ2[0]? = some (.own [.lst (ds.map .int), .int ((p + 1 : Nat) : Int)]) ∧ ExZ K [0] (t__law_draw K) [.own [.lst (ds.map .int), .int (p : Int)], .fr (.int m), .no] (.rt ρ2 (.fr (.int v))) := by
    have s1 : ExZ K [0] (tAsg (tOp (rIx K) (tVar 0) (tC (.int 1))) (gName 2)) [.own [.lst (ds.map .int), .int (p : Int)], .fr (.int m), .no] (.nx [.own [.lst (ds.map .int), .int (p : Int)], .fr (.int m), .fr (.int (p : Int))]) :=
      ex_set (i := 2) (ev_ixO (i := 0) (k := 1) rfl ev_int rfl (by rfl)) (by decide)
    have s2 : ExZ K [0] (tAsg (tOp rAddI (tVar 2) (tC (.int 1))) (gSub (tVar 0) (tC (.int 1)) rSetL)) [.own [.lst (ds.map .int), .int (p : Int)], .fr (.int m), .fr (.int (p : Int))] (.nx [.own [.lst (ds.map .int), .int ((p : Int) + 1)], .fr (.int m), .fr (.int (p : Int))]) :=
      ex_setAt (i := 0) (k := 1) (j := 1) (ds := [.lst (ds.map .int), .int (p : Int)]) (ev_add (ev_var rfl) ev_int) ev_int rfl rfl (by rfl)
    have ht := ts_test (ev_lt (K := K) (ρ := [.own [.lst (ds.map .int), .int ((p : Int) + 1)], .fr (.int m), .fr (.int (p : Int))]) (ev_var (i := 2) rfl) (ev_lenL (ev_ixO (i := 0) (k := 0) rfl ev_int rfl (by rfl)).rd))
    by_cases h : p < ds.length
    · refine ⟨ds[p] % m, _, Int.emod_nonneg _ (by omega), Int.emod_lt_of_pos _ hm, rfl, ex_seq s1 (ex_seq s2 (ex_seqR (ex_ifT (ts_is ht ?_) (ex_ret (ev_mod (ev_toInt (ev_ixL (ev_ixO (i := 0) (k := 0) rfl ev_int rfl (by rfl)) (ev_var rfl) (at_nat (j := p) ?_))) (ev_var rfl) hm)))))⟩
      · rw [List.length_map]
        exact decide_eq_true (by omega)
      · rw [List.getElem?_map, List.getElem?_eq_getElem h]
        rfl
    · refine ⟨0, _, Int.le_refl 0, hm, rfl, ex_seq s1 (ex_seq s2 (ex_seq (ex_ifF (ts_is ht ?_) ex_next) (ex_ret ev_int)))⟩
      rw [List.length_map]
      exact decide_eq_false (by omega)
  obtain ⟨v, ρ2, h1, h2, h3, h4⟩ := key
  refine ⟨_, _, ⟨rfl, ρ2, .inl h4, fin_box (ds := [.int m]) (by decide) h3⟩, fun b m' e => ?_⟩
  cases e
  exact ⟨v, _, rfl, ⟨ds, p + 1, hn, hl, rfl⟩, h1, h2, rfl⟩
/-- a draw in a body: i the box's slot -/
theorem ev_draw {R : Rel} (hR : Spec R PreDraw PostDraw) {i : Nat} {ρ ρ1 : Rho} {te : TE} {b0 b : List D} {m : Int} (h0 : ρ[i]? = some (.own b0)) (h : EvZ K te ρ ρ1 (.int m)) (h1 : ρ1[i]? = some (.own b)) (hb : GoodBox b) (hm : 0 < m) :
    ∃ (v : Int) (b' : List D), 0 ≤ v ∧ v < m ∧ GoodBox b' ∧ EvZ K (tCall (SpZ K R) [] E0 (tCons (tVar i) (tCons te tNil))) ρ (ρ1.set i (.own b')) (.int v) := by
  obtain ⟨r, cs', hr, hp⟩ := hR _ ⟨b, m, rfl, hb, hm⟩
  obtain ⟨v, b', rfl, hb', h2, h3, rfl⟩ := hp b m rfl
  exact ⟨v, b', h2, h3, hb', ev_callB (ds := [.int m]) h0 (ag_cons h ag_nil) h1 hr⟩
end
end Z

set_option Elab.async false
set_option linter.all false
set_option maxRecDepth 100000
set_option maxHeartbeats 2000000
/-! LawB: _law_is_integer, _law_same, words, texts; the law k00. -/
namespace Z
open PySem PySem.Spec PyProof.Rows L2
open Evl (Ex Ex.refl Ex.trans Ex.new ex_rd ex_l ex_t sq_of st_of fresh_back sz_of sz_lt)
section
variable {K : PySem.W.Frag}
/-! ### _law_is_integer, _law_same -/
def isI : D → Bool
  | .int _ => true
  | _ => false
def PreInt (cs : List Cell) : Prop := ∃ d, cs = [.fr d] ∧ notIns d = true
def PostInt (cs : List Cell) (r : Cell) (cs' : List Cell) : Prop := cs' = cs ∧ ∀ d, cs = [.fr d] → r = .fr (.bl (isI d))
theorem sem_is_integer : Spec (RelOf K [] (t__law_is_integer K) 1 1) PreInt PostInt := by
  rintro _ ⟨d, rfl, hd⟩
  have key : ExZ K [] (t__law_is_integer K) [.fr d] (.rt [.fr d] (.fr (.bl (isI d)))) := by
    cases d with
    | non => exact ex_ret (ev_is (ev_andV (ev_isi (T := "int") (ev_var rfl) rfl) fun z => by cases z) rfl (d := .bl (false && false)))
    | bl b => exact ex_ret (ev_is (ev_andV (ev_isi (T := "int") (ev_var rfl) rfl) fun _ => ev_notV (ev_isi (T := "bool") (ev_var rfl) rfl)) rfl)
    | int i => exact ex_ret (ev_is (ev_andV (ev_isi (T := "int") (ev_var rfl) rfl) fun _ => ev_notV (ev_isi (T := "bool") (ev_var rfl) rfl)) rfl)
    | str x => exact ex_ret (ev_is (ev_andV (ev_isi (T := "int") (ev_var rfl) rfl) fun z => by cases z) rfl (d := .bl (false && false)))
    | lst l => exact ex_ret (ev_is (ev_andV (ev_isi (T := "int") (ev_var rfl) rfl) fun z => by cases z) rfl (d := .bl (false && false)))
    | tup l => exact ex_ret (ev_is (ev_andV (ev_isi (T := "int") (ev_var rfl) rfl) fun z => by cases z) rfl (d := .bl (false && false)))
    | dK l => exact ex_ret (ev_is (ev_andV (ev_isi (T := "int") (ev_var rfl) rfl) fun z => by cases z) rfl (d := .bl (false && false)))
    | dT l => exact ex_ret (ev_is (ev_andV (ev_isi (T := "int") (ev_var rfl) rfl) fun z => by cases z) rfl (d := .bl (false && false)))
    | ins C l => cases hd
    | rng _ _ => cases hd
    | tupf _ => cases hd
  exact ⟨_, _, ⟨rfl, _, .inl key, fin_fr (ds := [d])⟩, rfl, fun d' e => by cases e; rfl⟩
/-- data of tuples, texts, numbers, truth values, None, nested less than n deep -/
inductive Plain : Nat → D → Prop
  | non {n : Nat} : Plain (n + 1) .non
  | bl {n : Nat} (b : Bool) : Plain (n + 1) (.bl b)
  | int {n : Nat} (i : Int) : Plain (n + 1) (.int i)
  | str {n : Nat} (x : Str) : Plain (n + 1) (.str x)
  | tup {n : Nat} {ds : List D} : (∀ d ∈ ds, Plain n d) → ds.length ≤ 90000 → Plain (n + 1) (.tup ds)
def PreSame (n : Nat) (cs : List Cell) : Prop := ∃ d, cs = [.fr d, .fr d] ∧ Plain n d
def PostSame (cs : List Cell) (r : Cell) (cs' : List Cell) : Prop := cs' = cs ∧ r = .fr (.bl true)
theorem all_true {α : Type} (l : List α) : (l.map fun _ => true).all id = true := by
  induction l with
  | nil => rfl
  | cons a l ih => rw [List.map_cons, List.all_cons, ih]; rfl
theorem sem_same {Ri Rs : Rel} {n : Nat} (hi : Spec Ri PreInt PostInt) (hs : Spec Rs (PreSame n) PostSame) : Spec (RelOf K [] (t__law_same K Ri Rs) 3 2) (PreSame (n + 1)) PostSame := by
  rintro _ ⟨d, rfl, hd⟩
  have key : ∃ ρ2, ExZ K [] (t__law_same K Ri Rs) [.fr d, .fr d, .no] (.rt ρ2 (.fr (.bl true))) := by
    cases hd with
    | non =>
      exact ⟨_, ex_seq (ex_ifF (ts_B (ev_isi (T := "tuple") (ev_var rfl) rfl)) ex_next) (ex_seq (ex_ifF (ts_B (ev_isi (T := "bool") (ev_var rfl) rfl)) ex_next) (ex_seq (ex_ifF (ts_B (ev_isi (T := "int") (ev_var rfl) rfl)) ex_next)
        (ex_seq (ex_ifF (ts_B (ev_isi (T := "str") (ev_var rfl) rfl)) ex_next) (ex_ret (ev_is (ev_andV (ev_isN (ev_var rfl)) fun _ => ev_isN (ev_var rfl)) rfl)))))⟩
    | bl b =>
      exact ⟨_, ex_seq (ex_ifF (ts_B (ev_isi (T := "tuple") (ev_var rfl) rfl)) ex_next) (ex_seqR (ex_ifT (ts_B (ev_isi (T := "bool") (ev_var rfl) rfl)) (ex_ret (ev_is (ev_andV (ev_isi (T := "bool") (ev_var rfl) rfl) fun _ => ev_eqB (ev_var rfl) (ev_var rfl)) (by
        rw [decide_eq_true rfl]; rfl)))))⟩
    | int i =>
      obtain ⟨r, cs', hr, rfl, hv⟩ := hi _ ⟨.int i, rfl, rfl⟩
      obtain rfl := hv _ rfl
      exact ⟨_, ex_seq (ex_ifF (ts_B (ev_isi (T := "tuple") (ev_var rfl) rfl)) ex_next) (ex_seq (ex_ifF (ts_B (ev_isi (T := "bool") (ev_var rfl) rfl)) ex_next) (ex_seqR (ex_ifT (ts_B (ev_isi (T := "int") (ev_var rfl) rfl))
        (ex_ret (ev_is (ev_andV (ev_callF (ds := [.int i]) (ag_cons (ev_var rfl) ag_nil) hr) fun _ => ev_eqI (ev_var rfl) (ev_var rfl)) (by
        rw [decide_eq_true rfl]; rfl))))))⟩
    | str x =>
      exact ⟨_, ex_seq (ex_ifF (ts_B (ev_isi (T := "tuple") (ev_var rfl) rfl)) ex_next) (ex_seq (ex_ifF (ts_B (ev_isi (T := "bool") (ev_var rfl) rfl)) ex_next) (ex_seq (ex_ifF (ts_B (ev_isi (T := "int") (ev_var rfl) rfl)) ex_next)
        (ex_seqR (ex_ifT (ts_B (ev_isi (T := "str") (ev_var rfl) rfl)) (ex_ret (ev_is (ev_andV (ev_isi (T := "str") (ev_var rfl) rfl) fun _ => ev_eqS (ev_var rfl) (ev_var rfl)) (by
        rw [decide_eq_true rfl]; rfl)))))))⟩
    | @tup _ ds hds hl =>
      have hc : CompZ K (gName 2) tYes (e__law_same_1 K Ri Rs) [2] [2] (rangeD 0 ds.length) [.fr (.tup ds), .fr (.tup ds), .no] ((List.range ds.length).map fun _ => D.bl true) [.fr (.tup ds), .fr (.tup ds), .no] := by
        refine comp_mapA (K := K) (ρ := [.fr (.tup ds), .fr (.tup ds), .no]) (j := 2) (fun (i : Nat) => D.int (0 + (i : Int))) (fun _ => D.bl true) rfl (List.range ds.length) fun i hi' => ?_
        have hlt : i < ds.length := List.mem_range.mp hi'
        obtain ⟨r, cs', hr, rfl, rfl⟩ := hs _ ⟨ds[i], rfl, hds _ (List.getElem_mem hlt)⟩
        have ei : (0 : Int) + (i : Int) = (i : Int) := Int.zero_add _
        refine ev_callF (ds := [ds[i], ds[i]]) (ag_cons (ev_ixT (ev_var rfl) (ev_var rfl) (at_of ei (List.getElem?_eq_getElem hlt))) (ag_cons (ev_ixT (ev_var rfl) (ev_var rfl) (at_of ei (List.getElem?_eq_getElem hlt))) ag_nil)) hr
      refine ⟨[.fr (.tup ds), .fr (.tup ds), .no], ex_seqR (ex_ifT (ts_B (ev_isi (T := "tuple") (ev_var rfl) rfl)) (ex_seq (ex_ifF (ts_orF (ts_is (ts_not (b := true) (ts_B (ev_isi (T := "tuple") (ev_var rfl) rfl))) rfl) (ts_is (ts_test (ev_neI (ev_lenT (ev_var (ρ := [.fr (.tup ds), .fr (.tup ds), .no]) (i := 0) rfl).rd) (ev_lenT (ev_var (ρ := [.fr (.tup ds), .fr (.tup ds), .no]) (i := 1) rfl).rd))) ?_)) ex_next)
        (ex_ret (ev_is (ev_all (bs := (List.range ds.length).map fun _ => true) (EvN.rd ?_)) ?_))))⟩
      · rw [decide_eq_true rfl]; rfl
      · have h := en_lc (it_range1 (n := (ds.length : Int)) (ag_cons (ev_lenT (ev_var (ρ := [.fr (.tup ds), .fr (.tup ds), .no]) (i := 1) rfl).rd) ag_nil) ⟨by omega, by omega⟩) (ρ' := [.fr (.tup ds), .fr (.tup ds), .no]) (rs := (List.range ds.length).map fun _ => D.bl true) (A := [2]) (vs := [2]) (tt := tYes) (te := e__law_same_1 K Ri Rs) (g := gName 2)
          (by rw [Int.toNat_natCast]; exact hc) (by decide) (by rw [rangeD_len, Int.toNat_natCast]; omega)
        have e : ((List.range ds.length).map fun _ => true).map D.bl = (List.range ds.length).map fun _ => D.bl true := by rw [List.map_map]; rfl
        rw [e]
        exact h
      · rw [all_true]
  obtain ⟨ρ2, h⟩ := key
  exact ⟨_, _, ⟨rfl, ρ2, .inl h, fin_fr (ds := [d, d])⟩, rfl, rfl⟩
/-! ### words -/
end
end Z

set_option Elab.async false
set_option linter.all false
set_option maxRecDepth 100000
set_option maxHeartbeats 2000000
/-! LawC: _law_a_text; the law k00. -/
namespace Z
open PySem PySem.Spec PyProof.Rows L2
open Evl (Ex Ex.refl Ex.trans Ex.new ex_rd ex_l ex_t sq_of st_of fresh_back sz_of sz_lt)
section
variable {K : PySem.W.Frag}
/-! ### the law -/
section
variable {Rt Rb Rw Rs Ri : Rel}
end
end
end Z

set_option Elab.async false
set_option linter.all false
set_option maxRecDepth 100000
set_option maxHeartbeats 2000000
/-! ZComp2: comprehensions with two for clauses. -/
namespace Z
open PySem PySem.Spec PyProof.Rows L2
open Evl (Ex Ex.refl Ex.trans Ex.new ex_rd ex_l ex_t sq_of st_of fresh_back sz_of sz_lt)
variable {K : PySem.W.Frag} {ρ ρ' ρ1 ρ2 ρ3 ρ4 ρ5 : Rho} {te : TE} {tt tt1 : TT} {g g1 : TG} {wi wi1 : TI} {ds rs : List D} {vs vs1 A A1 : List Nat}
inductive CompZ2 (K : PySem.W.Frag) (g : TG) (tt : TT) (wi1 : TI) (g1 : TG) (tt1 : TT) (te : TE) (vs vs1 A A1 : List Nat) (most : Nat) : List D → Rho → List D → Rho → Prop
  | nil {ρ : Rho} : CompZ2 K g tt wi1 g1 tt1 te vs vs1 A A1 most [] ρ [] ρ
  | step {ρ ρ1 ρ2 ρ3 ρ4 ρ5 : Rho} {d : D} {ds ds1 rs1 rs : List D} : TgZ K g A d ρ ρ1 → TsZ K tt ρ1 ρ2 true → ItZ K wi1 ρ2 ρ3 ds1 → ds1.length ≤ most → CompZ K g1 tt1 te vs1 A1 ds1 (wipeR ρ3 vs1) rs1 ρ4 →
      CompZ2 K g tt wi1 g1 tt1 te vs vs1 A A1 most ds (wipeR ρ4 vs) rs ρ5 → CompZ2 K g tt wi1 g1 tt1 te vs vs1 A A1 most (d :: ds) ρ (rs1 ++ rs) ρ5
/-- what stands between two items (σ the slots, rl to come, rd made, at Dl) -/
structure CW (K : PySem.W.Frag) (Next : Rho → List D → Prop) (M : MS) (G1 H1 : Hp) (Dl : Addr) (σ : L2.St) (rs : List D) (most : Nat) (H : Hp) : Prop where
  ex : ∃ G ρi rd rl vd, Grow (fun a => M a ∨ a = Dl) G1 H1 G H ∧ Sim K (fun a => M a ∧ a ≠ Dl) G H σ ρi ∧ Next ρi rl ∧ rd ++ rl = rs ∧ rd.length ≤ most ∧ G Dl = none ∧ H Dl = some (.lst vd) ∧ Dzs K G vd rd
end Z

set_option Elab.async false
set_option linter.all false
set_option maxRecDepth 100000
set_option maxHeartbeats 2000000
/-! ZEnum: for i, x in enumerate(t), t a tuple. -/
namespace Z
open PySem PySem.Spec PyProof.Rows L2
open Sem (wp)
end Z

set_option Elab.async false
set_option linter.all false
set_option maxRecDepth 100000
set_option maxHeartbeats 2000000
/-! ZTupD: tuple(d), d a dict whose keys are texts or ints. -/
namespace Z
open PySem PySem.Spec PyProof.Rows L2
section
variable {prog : Program} {w : World} {A : Around} {E : Value → Shared → Prop} {s : Shared} {r d : Addr} {n : Nat} {P : Nat → Value → Prop} {OK : Heap → Prop}
end
end Z

set_option Elab.async false
set_option linter.all false
set_option maxRecDepth 100000
set_option maxHeartbeats 2000000
/-! ZSeq: enumerate, zip, a star in a display, slices, conversions, join and split, over cells. -/
namespace Z
open PySem PySem.Spec PyProof.Rows L2
open Evl (Ex Ex.refl Ex.trans Ex.new ex_rd ex_l ex_t sq_of st_of fresh_back sz_of sz_lt)
variable {K : PySem.W.Frag} {ρ ρ' ρ1 ρ2 ρ3 : Rho} {ta tb te : TE} {tx : TA} {d e x y : D} {ds es xs ys : List D}
/-! ### enumerate, zip -/
theorem pair_new {G1 G H : Hp} {T : Addr} {u v : V} {d1 d2 : D} (s : Ex G H) (hT : H T = none) (h1 : Dz K G u d1) (h2 : Dz K G v d2) :
    ∃ G', Grow (fun _ => False) G H G' (upd H T (.tup [u, v])) ∧ Ex G' (upd H T (.tup [u, v])) ∧ Dz K G' (.ref T) (.tup [d1, d2]) := by
  have eg : Ex G (upd G T (.tup [u, v])) := Ex.new (fresh_back s hT)
  refine ⟨upd G T (.tup [u, v]), .new hT s, fun a o e => ?_, .tup upd_same (.cons (h1.mono eg) (.cons (h2.mono eg) .nil))⟩
  by_cases q : a = T
  · subst q; rw [upd_same] at e ⊢; exact e
  · rw [upd_ne q] at e ⊢; exact s a o e
def zipD : List D → List D → List D
  | d :: ds, e :: es => .tup [d, e] :: zipD ds es
  | _, _ => []
theorem zipD_get : ∀ {i : Nat} {ds es : List D} {p : D}, (zipD ds es)[i]? = some p → ∃ d e, ds[i]? = some d ∧ es[i]? = some e ∧ p = .tup [d, e]
  | 0, d :: ds, e :: es, p, h => by
    cases h
    exact ⟨d, e, rfl, rfl, rfl⟩
  | i + 1, d :: ds, e :: es, p, h => by
    obtain ⟨d', e', h1, h2, h3⟩ := zipD_get (i := i) (ds := ds) (es := es) (by simpa [zipD] using h)
    exact ⟨d', e', by simpa using h1, by simpa using h2, h3⟩
  | i, [], es, p, h => by simp [zipD] at h
  | i, d :: ds, [], p, h => by simp [zipD] at h
theorem zipD_len : ∀ (ds es : List D), (zipD ds es).length = min ds.length es.length
  | [], es => by simp [zipD]
  | d :: ds, [] => by simp [zipD]
  | d :: ds, e :: es => by
    show (zipD ds es).length + 1 = min (ds.length + 1) (es.length + 1)
    rw [zipD_len ds es]
    omega
theorem walks_zipT {G : Hp} {a b : Addr} {vs us : List V} (h : SqT K G a vs) (hd : Dzs K G vs ds) (h' : SqT K G b us) (he : Dzs K G us es) : Walks K G (RZ.ItzT K a b) (zipD ds es) := fun G1 H e s => by
  have hH := ex_t (e.trans s) h
  have hH' := ex_t (e.trans s) h'
  refine ⟨fun i p hi => ?_, ⟨vs, us, hH, hH', by rw [zipD_len, hd.len, he.len]; omega⟩⟩
  obtain ⟨d, d', h1, h2, rfl⟩ := zipD_get hi
  obtain ⟨v, ev, dv⟩ := hd.get h1
  obtain ⟨u, eu, du⟩ := he.get h2
  refine ⟨⟨vs, us, v, u, hH, hH', ev, eu⟩, fun x H' hy => ?_⟩
  obtain ⟨T, w, w', rfl, hT, rfl, e2, e3⟩ := hy
  have z := e2 vs hH
  rw [ev] at z
  cases z
  have z := e3 us hH'
  rw [eu] at z
  cases z
  exact pair_new (G1 := G1) s hT (dv.mono e) (du.mono e)
theorem it_zipT (h : AgZ K tx ρ ρ' [.tup ds, .tup es]) : ItZ K (RZ.iZipA K tx) ρ ρ' (zipD ds es) := fun M G H σ S R q => h M G H σ S _ fun vs G1 H1 g1 s1 dv => by
  cases dv with
  | cons h1 h2 =>
    cases h2 with
    | cons h2 h3 =>
      cases h3
      obtain ⟨a, us, rfl, hs, hz⟩ := h1.tup_inv
      obtain ⟨b, ws, rfl, hs', hz'⟩ := h2.tup_inv
      exact ⟨a, b, us, ws, rfl, .inr ⟨ex_t s1.sub hs, ex_t s1.sub hs', q _ G1 H1 g1 s1 (walks_zipT hs hz hs' hz')⟩⟩
/-! ### a star in a display -/
/-! ### conversions -/
abbrev rTupOf (K : PySem.W.Frag) : List V → Hp → VK → Prop := fun xs H Q => ∃ p ys, xs = [.ref p] ∧ ((SqL K H p ys ∧ ∀ l, H l = none → Q (.ref l) (upd H l (.tup ys))) ∨ (SqT K H p ys ∧ Q (.ref p) H))
/-- tuple(xs), xs a new list -/
theorem ev_tupN (h : EvN K te ρ ρ' ds) : EvZ K (tCB (rTupOf K) (tCons te tNil)) ρ ρ' (.tup ds) := fun M G H σ S Q q =>
  h M G H σ S _ fun p vs G1 H1 g1 s1 hp gp hp1 dz => ⟨p, vs, rfl, .inl ⟨sq_of hp1, fun l hl => q _ _ _ (g1.trans (.new hl s1.sub)) (s1.new hl) (.tup upd_same (dz.mono (Ex.new (fresh_back s1.sub hl))))⟩⟩
theorem ev_tupO {i : Nat} (h : ρ[i]? = some (.own ds)) : EvZ K (tCB (rTupOf K) (tCons (tVar i) tNil)) ρ ρ (.tup ds) := fun M G H σ S Q q => by
  obtain ⟨p, vs, e, m, gp, hp, dz⟩ := S.own h
  exact ⟨.ref p, e, p, vs, rfl, .inl ⟨sq_of hp, fun l hl => q _ _ _ (.new hl S.sub) (S.new hl) (.tup upd_same (dz.mono (Ex.new (fresh_back S.sub hl))))⟩⟩
/-- the keys of a dict, in order -/
def keyD : Key → D
  | .inl i => .int i
  | .inr x => .str x
/-- keys other than the pair (0, 1) of the module's own -/
def NotZ (ks : List Key) : Prop := ks ≠ [Sum.inl 0, Sum.inl 1]
/-! ### slices -/
/-! ### texts and lists of texts -/
end Z

set_option Elab.async false
set_option linter.all false
set_option maxRecDepth 100000
set_option maxHeartbeats 2000000
/-! ZNum: great numbers (products, quotients of either sign, remainders), gcd, abs, max, texts of numbers, f-strings, while. -/
namespace Z
open PySem PySem.Spec PyProof.Rows L2
open Evl (Ex Ex.refl Ex.trans Ex.new ex_rd ex_l ex_t sq_of st_of fresh_back sz_of sz_lt)
variable {K : PySem.W.Frag} {S : List Nat} {ρ ρ' ρ1 ρ2 ρ3 : Rho} {ta tb tc te tl : TE} {tt tu : TT} {ts us : TS} {d e x y : D} {ds es xs ys rs : List D} {b c : Bool} {o : Out}
/-- // of any quotient, the divisor not 0 -/
def CDivZ (_ j : Int) : Prop := j ≠ 0 ∧ j.natAbs.log2 < 9000
theorem op_fdivZ {X : Cx} : OpR X (binaryOp .FloorDiv) (rI CDivZ fun i j => .int (i.fdiv j)) := opI fun i j _ _ _ _ _ hc q => floordiv_int hc.1 q (.inl (PyProof.noPylong_of_log2 hc.2))
abbrev rDivZ : R2 := rI CDivZ fun i j => .int (i.fdiv j)
abbrev rMulW : R2 := rI CMulW fun i j => .int (i * j)
theorem ev_fdivZ {i j : Int} (ha : EvZ K ta ρ ρ1 (.int i)) (hb : EvZ K tb ρ1 ρ2 (.int j)) (hc : CDivZ i j) : EvZ K (tOp rDivZ ta tb) ρ ρ2 (.int (i.fdiv j)) := ev_i ha hb hc fun _ => .int _
theorem ev_mulW {i j : Int} (ha : EvZ K ta ρ ρ1 (.int i)) (hb : EvZ K tb ρ1 ρ2 (.int j)) (hc : CMulW i j) : EvZ K (tOp rMulW ta tb) ρ ρ2 (.int (i * j)) := ev_i ha hb hc fun _ => .int _
theorem divz_of {i j : Int} {b : Nat} (h : j ≠ 0) (hb : j.natAbs < 2 ^ b) (h0 : 0 < b) (h9 : b ≤ 9000) : CDivZ i j := ⟨h, Nat.lt_of_lt_of_le (PySem.Flt.log2_lt_of h0 hb) h9⟩
/-- gcd, abs, max, -x -/
theorem ev_gcd {i j : Int} (ha : EvZ K ta ρ ρ1 (.int i)) (hb : EvZ K tb ρ1 ρ2 (.int j)) : EvZ K (tCB rGcd (tCons ta (tCons tb tNil))) ρ ρ2 (.int ((Nat.gcd i.natAbs j.natAbs : Nat) : Int)) := fun M G H σ S Q q =>
  ha M G H σ S _ fun u G1 H1 g1 s1 du => hb M G1 H1 σ s1 _ fun v G2 H2 g2 s2 dv => ⟨i, j, by rw [du.int_inv, dv.int_inv], q _ G2 H2 (g1.trans g2) s2 (.int _)⟩
abbrev rAbs : List V → Hp → VK → Prop := fun xs H Q => ∃ i, xs = [.int i] ∧ Q (.int (if i < 0 then -i else i)) H
theorem ev_abs {i : Int} (ha : EvZ K ta ρ ρ1 (.int i)) : EvZ K (tCB rAbs (tCons ta tNil)) ρ ρ1 (.int (i.natAbs : Int)) := fun M G H σ S Q q =>
  ha M G H σ S _ fun u G1 H1 g1 s1 du => ⟨i, by rw [du.int_inv], by
    have e : (if i < 0 then -i else i) = (i.natAbs : Int) := by split <;> omega
    rw [e]
    exact q _ G1 H1 g1 s1 (.int _)⟩
abbrev rMaxI : List V → Hp → VK → Prop := fun xs H Q => ∃ i j, xs = [.int i, .int j] ∧ Q (.int (if j > i then j else i)) H
theorem ev_maxI {i j : Int} (ha : EvZ K ta ρ ρ1 (.int i)) (hb : EvZ K tb ρ1 ρ2 (.int j)) : EvZ K (tCB rMaxI (tCons ta (tCons tb tNil))) ρ ρ2 (.int (max i j)) := fun M G H σ S Q q =>
  ha M G H σ S _ fun u G1 H1 g1 s1 du => hb M G1 H1 σ s1 _ fun v G2 H2 g2 s2 dv => ⟨i, j, by rw [du.int_inv, dv.int_inv], by
    have e : (if j > i then j else i) = max i j := by split <;> omega
    rw [e]
    exact q _ G2 H2 (g1.trans g2) s2 (.int _)⟩
theorem ev_negI {i : Int} (ha : EvZ K ta ρ ρ1 (.int i)) : EvZ K (tUn (rU fun i => .int (-i)) ta) ρ ρ1 (.int (-i)) := fun M G H σ S Q q =>
  ha M G H σ S _ fun u G1 H1 g1 s1 du => ⟨i, du.int_inv, q _ G1 H1 g1 s1 (.int _)⟩
/-! ### while -/
inductive WhileZ (K : PySem.W.Frag) (S : List Nat) (tt : TT) (tb : TS) : Nat → Rho → Out → Prop
  | stop {n : Nat} {ρ ρ1 : Rho} : TsZ K tt ρ ρ1 false → WhileZ K S tt tb n ρ (.nx ρ1)
  | step {n : Nat} {ρ ρ1 ρ2 : Rho} {o : Out} : TsZ K tt ρ ρ1 true → ExZ K S tb ρ1 (.nx ρ2) → WhileZ K S tt tb n ρ2 o → WhileZ K S tt tb (n + 1) ρ o
  | cont {n : Nat} {ρ ρ1 ρ2 : Rho} {o : Out} : TsZ K tt ρ ρ1 true → ExZ K S tb ρ1 (.ct ρ2) → WhileZ K S tt tb n ρ2 o → WhileZ K S tt tb (n + 1) ρ o
  | brk {n : Nat} {ρ ρ1 ρ2 : Rho} : TsZ K tt ρ ρ1 true → ExZ K S tb ρ1 (.bk ρ2) → WhileZ K S tt tb n ρ (.nx ρ2)
  | ret {n : Nat} {ρ ρ1 ρ2 : Rho} {c : Cell} : TsZ K tt ρ ρ1 true → ExZ K S tb ρ1 (.rt ρ2 c) → WhileZ K S tt tb n ρ (.rt ρ2 c)
theorem ex_while {n : Nat} (h : WhileZ K S tt ts n ρ o) : ExZ K S (tWhile tt ts) ρ o := fun M G H σ E f s q => by
  refine ⟨fun m σ' H' => ∃ Gi ρi, Grow M G H Gi H' ∧ Keep S σ σ' ∧ Sim K M Gi H' σ' ρi ∧ WhileZ K S tt ts m ρi o, ⟨n, G, ρ, .refl, .refl, s, h⟩, ?_⟩
  rintro m σi Hi ⟨Gi, ρi, gi, ki, si, li⟩
  cases li with
  | stop t1 =>
    refine t1 M Gi Hi σi si _ fun G1 H1 g1 s1 => ?_
    rw [if_neg Bool.false_ne_true]
    exact q G1 H1 σi (gi.trans g1) ki s1
  | step t1 t2 t3 =>
    refine t1 M Gi Hi σi si _ fun G1 H1 g1 s1 => ?_
    rw [if_pos rfl]
    exact ⟨fun σ' H' => ∃ Gi ρi, Grow M G H Gi H' ∧ Keep S σ σ' ∧ Sim K M Gi H' σ' ρi ∧ WhileZ K S tt ts _ ρi o, fun σ' H' w => ⟨_, Nat.lt_succ_self _, w⟩, t2 M G1 H1 σi _ (f.grow (gi.trans g1)) s1 fun G3 H3 σ3 g3 k3 s3 => ⟨G3, _, (gi.trans g1).trans g3, ki.trans k3, s3, t3⟩⟩
  | cont t1 t2 t3 =>
    refine t1 M Gi Hi σi si _ fun G1 H1 g1 s1 => ?_
    rw [if_pos rfl]
    exact ⟨fun σ' H' => ∃ Gi ρi, Grow M G H Gi H' ∧ Keep S σ σ' ∧ Sim K M Gi H' σ' ρi ∧ WhileZ K S tt ts _ ρi o, fun σ' H' w => ⟨_, Nat.lt_succ_self _, w⟩, t2 M G1 H1 σi _ (f.grow (gi.trans g1)) s1 fun G3 H3 σ3 g3 k3 s3 => ⟨G3, _, (gi.trans g1).trans g3, ki.trans k3, s3, t3⟩⟩
  | brk t1 t2 =>
    refine t1 M Gi Hi σi si _ fun G1 H1 g1 s1 => ?_
    rw [if_pos rfl]
    exact ⟨fun _ _ => False, fun σ' H' w => w.elim, t2 M G1 H1 σi _ (f.grow (gi.trans g1)) s1 fun G3 H3 σ3 g3 k3 s3 => q G3 H3 σ3 ((gi.trans g1).trans g3) (ki.trans k3) s3⟩
  | ret t1 t2 =>
    refine t1 M Gi Hi σi si _ fun G1 H1 g1 s1 => ?_
    rw [if_pos rfl]
    exact ⟨fun _ _ => False, fun σ' H' w => w.elim, t2 M G1 H1 σi _ (f.grow (gi.trans g1)) s1 fun v G3 H3 σ3 g3 k3 s3 r3 => q v G3 H3 σ3 ((gi.trans g1).trans g3) (ki.trans k3) s3 r3⟩
end Z

set_option Elab.async false
set_option linter.all false
set_option maxRecDepth 100000
set_option maxHeartbeats 2000000
/-! LawN: numbers that laws draw; gcd; fractions. -/
namespace Z
open PySem PySem.Spec PyProof.Rows L2
open Evl (Ex Ex.refl Ex.trans Ex.new ex_rd ex_l ex_t sq_of st_of fresh_back sz_of sz_lt)
def b__law_number_1 (K : PySem.W.Frag) (R__law_draw : Rel) : TS :=
  (tAsg (tOp rAddI (tOp rMulI (tVar 2) (tC (.int 1000))) (tCall (SpZ K R__law_draw) [] E0 (tCons (tVar 0) (tCons (tC (.int 1000)) tNil)))) (gName 2))
def t__law_number (K : PySem.W.Frag) (R__law_draw : Rel) : TS :=
  (tSeq (tAsg (tC (.int 0)) (gName 2))
      (tSeq (tFor (iRng1 (tCons (tOp rAddI (tC (.int 1)) (tCall (SpZ K R__law_draw) [] E0 (tCons (tVar 0) (tCons (tC (.int 4)) tNil)))) tNil)) (gName 3) (b__law_number_1 K R__law_draw))
      (tSeq (tIfS (tTest (tOp rEq (tCall (SpZ K R__law_draw) [] E0 (tCons (tVar 0) (tCons (tC (.int 2)) tNil))) (tC (.int 0)))) (tRet (tOp rModI (tCB rToInt (tCons (tVar 2) tNil)) (tOp rAddI (tVar 1) (tC (.int 1))))) tNext)
      (tRet (tUn (rU fun i => .int (-i)) (tOp rModI (tCB rToInt (tCons (tVar 2) tNil)) (tOp rAddI (tVar 1) (tC (.int 1)))))))))

def b__law_gcd_1 (K : PySem.W.Frag) : TS :=
  (tSeq (tAsg (tOp rModI (tCB rToInt (tCons (tVar 0) tNil)) (tVar 1)) (gName 2))
      (tSeq (tAsg (tVar 1) (gName 0))
      (tAsg (tVar 2) (gName 1))))
def t__law_gcd (K : PySem.W.Frag) : TS :=
  (tSeq (tAsg (tCB rAbs (tCons (tVar 0) tNil)) (gName 0))
      (tSeq (tAsg (tCB rAbs (tCons (tVar 1) tNil)) (gName 1))
      (tSeq (tWhile (tTest (tOp rGtI (tVar 1) (tC (.int 0)))) (b__law_gcd_1 K))
      (tRet (tVar 0)))))

def t__law_fraction (K : PySem.W.Frag) (R__law_gcd : Rel) : TS :=
  (tSeq (tIfS (tTest (tOp rLtI (tVar 1) (tC (.int 0)))) (tSeq (tAsg (tUn (rU fun i => .int (-i)) (tVar 0)) (gName 0))
      (tAsg (tUn (rU fun i => .int (-i)) (tVar 1)) (gName 1))) tNext)
      (tSeq (tAsg (tCB rMaxI (tCons (tCall (SpZ K R__law_gcd) [] E0 (tCons (tVar 0) (tCons (tVar 1) tNil))) (tCons (tC (.int 1)) tNil))) (gName 2))
      (tRet (tTup (tCons (tOp rDivZ (tVar 0) (tVar 2)) (tCons (tCB rMaxI (tCons (tOp rDivZ (tVar 1) (tVar 2)) (tCons (tC (.int 1)) tNil))) tNil))))))

def t_fraction (K : PySem.W.Frag) : TS :=
  (tSeq (tAsg (tCB rGcd (tCons (tVar 0) (tCons (tVar 1) tNil))) (gName 2))
      (tSeq (tIfS (tTest (tOp rLtI (tVar 1) (tC (.int 0)))) (tAsg (tUn (rU fun i => .int (-i)) (tVar 2)) (gName 2)) tNext)
      (tRet (tTup (tCons (tOp rDivZ (tVar 0) (tVar 2)) (tCons (tOp rDivZ (tVar 1) (tVar 2)) tNil))))))

def t_plus (K : PySem.W.Frag) (R_fraction : Rel) : TS :=
  (tRet (tCall (SpZ K R_fraction) [] E0 (tCons (tOp rAddI (tOp rMulW (tOp (rIx K) (tVar 0) (tC (.int 0))) (tOp (rIx K) (tVar 1) (tC (.int 1)))) (tOp rMulW (tOp (rIx K) (tVar 1) (tC (.int 0))) (tOp (rIx K) (tVar 0) (tC (.int 1))))) (tCons (tOp rMulW (tOp (rIx K) (tVar 0) (tC (.int 1))) (tOp (rIx K) (tVar 1) (tC (.int 1)))) tNil))))

def t_times (K : PySem.W.Frag) (R_fraction : Rel) : TS :=
  (tRet (tCall (SpZ K R_fraction) [] E0 (tCons (tOp rMulW (tOp (rIx K) (tVar 0) (tC (.int 0))) (tOp (rIx K) (tVar 1) (tC (.int 0)))) (tCons (tOp rMulW (tOp (rIx K) (tVar 0) (tC (.int 1))) (tOp (rIx K) (tVar 1) (tC (.int 1)))) tNil))))

section
variable {K : PySem.W.Frag}
/-! ### sizes -/
def Bd (n : Nat) (i : Int) : Prop := i.natAbs < 2 ^ n
theorem Bd.mul {a b : Nat} {i j : Int} (h : Bd a i) (k : Bd b j) : Bd (a + b) (i * j) := wide_lt h k
theorem Bd.mono {a b : Nat} {i : Int} (h : Bd a i) (hab : a ≤ b) : Bd b i := Nat.lt_of_lt_of_le h (Nat.pow_le_pow_right (by decide) hab)
theorem Bd.le {a : Nat} {i j : Int} (h : Bd a i) (hj : j.natAbs ≤ i.natAbs) : Bd a j := Nat.lt_of_le_of_lt hj h
theorem Bd.add {a : Nat} {i j : Int} (h : Bd a i) (k : Bd a j) : Bd (a + 1) (i + j) := by
  unfold Bd at *
  rw [Nat.pow_succ]
  have := Int.natAbs_add_le i j
  omega
theorem Bd.sub {a : Nat} {i j : Int} (h : Bd a i) (k : Bd a j) : Bd (a + 1) (i - j) := by
  have e : i - j = i + -j := by omega
  rw [e]
  exact h.add (by unfold Bd; rw [Int.natAbs_neg]; exact k)
theorem Bd.mulOk {a b : Nat} {i j : Int} (h : Bd a i) (k : Bd b j) (ha : 0 < a) (hb : 0 < b) (hl : a + b ≤ 1000000) : CMulW i j := wide_mul h k ha hb hl
/-! ### fractions -/
def sgT (t b : Int) : Int := if b < 0 then -t else t
def gcI (t b : Int) : Int := (Nat.gcd t.natAbs b.natAbs : Nat)
/-- in lowest terms, the lower part at least 1 -/
def FR (t b : Int) : Int × Int := ((sgT t b).fdiv (gcI t b), (sgT b b).fdiv (gcI t b))
def frD (p : Int × Int) : D := .tup [.int p.1, .int p.2]
theorem gcI_pos {t b : Int} (h : b ≠ 0) : 0 < gcI t b := by
  unfold gcI
  have : 0 < Nat.gcd t.natAbs b.natAbs := Nat.gcd_pos_of_pos_right _ (by omega)
  omega
theorem gcI_dvd_l (t b : Int) : gcI t b ∣ t := by
  have h : ((Nat.gcd t.natAbs b.natAbs : Nat) : Int) ∣ (t.natAbs : Int) := Int.natCast_dvd_natCast.mpr (Nat.gcd_dvd_left _ _)
  exact Int.dvd_natAbs.mp h
theorem gcI_dvd_r (t b : Int) : gcI t b ∣ b := by
  have h : ((Nat.gcd t.natAbs b.natAbs : Nat) : Int) ∣ (b.natAbs : Int) := Int.natCast_dvd_natCast.mpr (Nat.gcd_dvd_right _ _)
  exact Int.dvd_natAbs.mp h
theorem sgT_abs (t b : Int) : (sgT t b).natAbs = t.natAbs := by unfold sgT; split <;> omega
theorem sgT_dvd {g t b : Int} (h : g ∣ t) : g ∣ sgT t b := by
  unfold sgT
  split
  · exact (Int.dvd_neg).mpr h
  · exact h
theorem FR_mul1 {t b : Int} (h : b ≠ 0) : (FR t b).1 * gcI t b = sgT t b := by
  show (sgT t b).fdiv (gcI t b) * gcI t b = _
  rw [Int.fdiv_eq_ediv_of_nonneg _ (Int.le_of_lt (gcI_pos h))]
  exact Int.ediv_mul_cancel (sgT_dvd (gcI_dvd_l t b))
theorem FR_mul2 {t b : Int} (h : b ≠ 0) : (FR t b).2 * gcI t b = sgT b b := by
  show (sgT b b).fdiv (gcI t b) * gcI t b = _
  rw [Int.fdiv_eq_ediv_of_nonneg _ (Int.le_of_lt (gcI_pos h))]
  exact Int.ediv_mul_cancel (sgT_dvd (gcI_dvd_r t b))
theorem natAbs_le_mul {x g y : Int} (h : x * g = y) (hg : 0 < g) : x.natAbs ≤ y.natAbs := by
  rw [← h, Int.natAbs_mul]
  have : 1 ≤ g.natAbs := by omega
  exact Nat.le_mul_of_pos_right _ this
theorem FR_pos {t b : Int} (h : b ≠ 0) : 1 ≤ (FR t b).2 := by
  have e := FR_mul2 (t := t) h
  have g := gcI_pos (t := t) h
  have s : 0 < sgT b b := by unfold sgT; split <;> omega
  rw [← e] at s
  have := Int.pos_of_mul_pos_left s g
  omega
theorem FR_bd1 {n : Nat} {t b : Int} (h : b ≠ 0) (ht : Bd n t) : Bd n (FR t b).1 := ht.le (by
  have := natAbs_le_mul (FR_mul1 (t := t) h) (gcI_pos h)
  rw [sgT_abs] at this
  exact this)
theorem FR_bd2 {n : Nat} {t b : Int} (h : b ≠ 0) (hb : Bd n b) : Bd n (FR t b).2 := hb.le (by
  have := natAbs_le_mul (FR_mul2 (t := t) h) (gcI_pos h)
  rw [sgT_abs] at this
  exact this)
theorem gcI_bd {n : Nat} {t b : Int} (h : b ≠ 0) (hb : Bd n b) : Bd n (gcI t b) := hb.le (by
  unfold gcI
  rw [Int.natAbs_natCast]
  exact Nat.le_of_dvd (by omega) (Nat.gcd_dvd_right _ _))
/-! ### fraction -/
def CFr (R : Rel) : Prop := ∀ t b : Int, b ≠ 0 → Bd 8000 b → R [.fr (.int t), .fr (.int b)] (.fr (frD (FR t b))) [.fr (.int t), .fr (.int b)]
theorem rel_fraction : CFr (RelOf K [] (t_fraction K) 3 2) := by
  intro t b hb hB
  have hg := gcI_pos (t := t) hb
  have hgB : Bd 8000 (gcI t b) := gcI_bd hb hB
  refine ⟨rfl, ?_⟩
  have s1 : ExZ K [] (tAsg (tCB rGcd (tCons (tVar 0) (tCons (tVar 1) tNil))) (gName 2)) [.fr (.int t), .fr (.int b), .no] (.nx [.fr (.int t), .fr (.int b), .fr (.int (gcI t b))]) := ex_set (i := 2) (ev_gcd (ev_var rfl) (ev_var rfl)) (by decide)
  have ht := ts_test (ev_lt (K := K) (ρ := [.fr (.int t), .fr (.int b), .fr (.int (gcI t b))]) (ev_var (i := 1) rfl) (ev_int (i := 0)))
  by_cases h : b < 0
  · refine ⟨_, .inl (ex_seq s1 (ex_seq (ex_ifT (ts_is ht (decide_eq_true h)) (ex_set (i := 2) (ev_negI (ev_var rfl)) (by decide))) (ex_ret (ev_is (ev_tup (ag_cons (ev_fdivZ (ev_var (i := 0) rfl) (ev_var (i := 2) rfl) (divz_of (b := 8000) (by omega) ?_ (by decide) (by decide))) (ag_cons (ev_fdivZ (ev_var (i := 1) rfl) (ev_var (i := 2) rfl) (divz_of (b := 8000) (by omega) ?_ (by decide) (by decide))) ag_nil)) (by show 2 ≤ 100000; decide)) ?_)))), fin_fr (ds := [.int t, .int b])⟩
    · rw [Int.natAbs_neg]; exact hgB
    · rw [Int.natAbs_neg]; exact hgB
    · unfold frD FR sgT
      rw [if_pos h, if_pos h, ← Int.neg_fdiv_neg (-t), ← Int.neg_fdiv_neg (-b), Int.neg_neg, Int.neg_neg]
  · refine ⟨_, .inl (ex_seq s1 (ex_seq (ex_ifF (ts_is ht (decide_eq_false h)) ex_next) (ex_ret (ev_is (ev_tup (ag_cons (ev_fdivZ (ev_var (i := 0) rfl) (ev_var (i := 2) rfl) (divz_of (b := 8000) (by omega) hgB (by decide) (by decide))) (ag_cons (ev_fdivZ (ev_var (i := 1) rfl) (ev_var (i := 2) rfl) (divz_of (b := 8000) (by omega) hgB (by decide) (by decide))) ag_nil)) (by show 2 ≤ 100000; decide)) ?_)))), fin_fr (ds := [.int t, .int b])⟩
    unfold frD FR sgT
    rw [if_neg h, if_neg h]
/-! ### _law_gcd -/
def CGcd (R : Rel) : Prop := ∀ t b : Int, R [.fr (.int t), .fr (.int b)] (.fr (.int (gcI t b))) [.fr (.int t), .fr (.int b)]
theorem gcd_while : ∀ (n : Nat) (a c : Nat) (rv : Cell), c < n → ∃ rv', WhileZ K [] (tTest (tOp rGtI (tVar 1) (tC (.int 0)))) (b__law_gcd_1 K) n [.fr (.int (a : Int)), .fr (.int (c : Int)), rv] (.nx [.fr (.int ((Nat.gcd a c : Nat) : Int)), .fr (.int 0), rv'])
  | 0, a, c, rv, h => absurd h (Nat.not_lt_zero _)
  | n + 1, a, c, rv, h => by
    have ht := ts_test (ev_gt (K := K) (ρ := [.fr (.int (a : Int)), .fr (.int (c : Int)), rv]) (ev_var (i := 1) rfl) (ev_int (i := 0)))
    by_cases hc : c = 0
    · subst hc
      refine ⟨rv, ?_⟩
      rw [Nat.gcd_zero_right]
      exact .stop (ts_is ht (decide_eq_false (by omega)))
    · have hpos : 0 < c := Nat.pos_of_ne_zero hc
      obtain ⟨rv', lp⟩ := gcd_while n c (a % c) (.fr (.int ((a % c : Nat) : Int))) (by have := Nat.mod_lt a hpos; omega)
      have eg : Nat.gcd a c = Nat.gcd c (a % c) := by
        rw [Nat.gcd_comm a c, Nat.gcd_rec c a, Nat.gcd_comm]
      rw [eg]
      refine ⟨rv', .step (ts_is ht (decide_eq_true (by omega))) (ex_seq (ex_set (i := 2) (ev_is (ev_mod (ev_toInt (ev_var rfl)) (ev_var (i := 1) rfl) (by omega)) (e := .int ((a % c : Nat) : Int)) rfl) (by decide)) (ex_seq (ex_set (i := 0) (ev_var (i := 1) rfl) (by decide)) (ex_set (i := 1) (ev_var (i := 2) rfl) (by decide)))) lp⟩
theorem rel_gcd : CGcd (RelOf K [] (t__law_gcd K) 3 2) := by
  intro t b
  refine ⟨rfl, ?_⟩
  obtain ⟨rv, lp⟩ := gcd_while (K := K) (b.natAbs + 1) t.natAbs b.natAbs .no (Nat.lt_succ_self _)
  exact ⟨_, .inl (ex_seq (ex_set (i := 0) (ev_abs (ev_var rfl)) (by decide)) (ex_seq (ex_set (i := 1) (ev_abs (ev_var rfl)) (by decide)) (ex_seq (ex_while lp) (ex_ret (ev_var rfl))))), fin_fr (ds := [.int t, .int b])⟩
/-! ### _law_fraction -/
theorem rel_law_fraction {Rg : Rel} (hg : CGcd Rg) : CFr (RelOf K [] (t__law_fraction K Rg) 3 2) := by
  intro t b hb hB
  refine ⟨rfl, ?_⟩
  have hgp := gcI_pos (t := t) hb
  have hgB : Bd 8000 (gcI t b) := gcI_bd hb hB
  have egs : gcI (sgT t b) (sgT b b) = gcI t b := by unfold gcI; rw [sgT_abs, sgT_abs]
  have ht := ts_test (ev_lt (K := K) (ρ := [.fr (.int t), .fr (.int b), .no]) (ev_var (i := 1) rfl) (ev_int (i := 0)))
  have s1 : ExZ K [] (tIfS (tTest (tOp rLtI (tVar 1) (tC (.int 0)))) (tSeq (tAsg (tUn (rU fun i => .int (-i)) (tVar 0)) (gName 0)) (tAsg (tUn (rU fun i => .int (-i)) (tVar 1)) (gName 1))) tNext) [.fr (.int t), .fr (.int b), .no] (.nx [.fr (.int (sgT t b)), .fr (.int (sgT b b)), .no]) := by
    by_cases h : b < 0
    · refine ex_ifT (ts_is ht (decide_eq_true h)) (ex_seq (ex_set (i := 0) (ev_is (ev_negI (ev_var rfl)) (e := .int (sgT t b)) ?_) (by decide)) (ex_set (i := 1) (ev_is (ev_negI (ev_var rfl)) (e := .int (sgT b b)) ?_) (by decide)))
      · unfold sgT; rw [if_pos h]
      · unfold sgT; rw [if_pos h]
    · have e1 : sgT t b = t := by unfold sgT; rw [if_neg h]
      have e2 : sgT b b = b := by unfold sgT; rw [if_neg h]
      rw [e1, e2]
      exact ex_ifF (ts_is ht (decide_eq_false h)) ex_next
  have hc : EvZ K (tCall (SpZ K Rg) [] E0 (tCons (tVar 0) (tCons (tVar 1) tNil))) [.fr (.int (sgT t b)), .fr (.int (sgT b b)), .no] [.fr (.int (sgT t b)), .fr (.int (sgT b b)), .no] (.int (gcI t b)) := by
    have q := hg (sgT t b) (sgT b b)
    rw [egs] at q
    exact ev_callF (ds := [.int (sgT t b), .int (sgT b b)]) (ag_cons (ev_var rfl) (ag_cons (ev_var rfl) ag_nil)) q
  refine ⟨_, .inl (ex_seq s1 (ex_seq (ex_set (i := 2) (ev_is (ev_maxI hc (ev_int (i := 1))) (e := .int (gcI t b)) ?_) (by decide)) (ex_ret (ev_is (ev_tup (ag_cons (ev_fdivZ (ev_var (i := 0) rfl) (ev_var (i := 2) rfl) (divz_of (b := 8000) (by omega) hgB (by decide) (by decide))) (ag_cons (ev_maxI (ev_fdivZ (ev_var (i := 1) rfl) (ev_var (i := 2) rfl) (divz_of (b := 8000) (by omega) hgB (by decide) (by decide))) (ev_int (i := 1))) ag_nil)) (by show 2 ≤ 100000; decide)) ?_)))), fin_fr (ds := [.int t, .int b])⟩
  · have : max (gcI t b) 1 = gcI t b := by omega
    rw [this]
  · have h2 := FR_pos (t := t) hb
    have e : max ((sgT b b).fdiv (gcI t b)) 1 = (FR t b).2 := by
      have : (FR t b).2 = (sgT b b).fdiv (gcI t b) := rfl
      rw [this] at h2 ⊢
      omega
    rw [e]
    rfl
/-! ### plus, minus, times, over, below -/
def CPlus (R : Rel) : Prop := ∀ p q : Int × Int, p.2 ≠ 0 → q.2 ≠ 0 → Bd 4000 p.1 → Bd 4000 p.2 → Bd 4000 q.1 → Bd 4000 q.2 → R [.fr (frD p), .fr (frD q)] (.fr (frD (FR (p.1 * q.2 + q.1 * p.2) (p.2 * q.2)))) [.fr (frD p), .fr (frD q)]
def CTimes (R : Rel) : Prop := ∀ p q : Int × Int, p.2 ≠ 0 → q.2 ≠ 0 → Bd 4000 p.1 → Bd 4000 p.2 → Bd 4000 q.1 → Bd 4000 q.2 → R [.fr (frD p), .fr (frD q)] (.fr (frD (FR (p.1 * q.1) (p.2 * q.2)))) [.fr (frD p), .fr (frD q)]
theorem ev_fr1 {ρ : Rho} {i : Nat} {p : Int × Int} (h : ρ[i]? = some (.fr (frD p))) : EvZ K (tOp (rIx K) (tVar i) (tC (.int 0))) ρ ρ (.int p.1) := ev_ixT (ev_var h) ev_int (by rfl)
theorem ev_fr2 {ρ : Rho} {i : Nat} {p : Int × Int} (h : ρ[i]? = some (.fr (frD p))) : EvZ K (tOp (rIx K) (tVar i) (tC (.int 1))) ρ ρ (.int p.2) := ev_ixT (ev_var h) ev_int (by rfl)
theorem mok {i j : Int} (h : Bd 4000 i) (k : Bd 4000 j) : CMulW i j := h.mulOk k (by decide) (by decide) (by decide)
theorem mbd {i j : Int} (h : Bd 4000 i) (k : Bd 4000 j) : Bd 8000 (i * j) := (h.mul k).mono (by decide)
section
variable {Rf : Rel} (hf : CFr Rf)
include hf
theorem rel_plus : CPlus (RelOf K [] (t_plus K Rf) 2 2) := by
  intro p q hp hq b1 b2 b3 b4
  exact ⟨rfl, _, .inl (ex_ret (ev_callF (ds := [.int (p.1 * q.2 + q.1 * p.2), .int (p.2 * q.2)]) (ag_cons (ev_add (ev_mulW (ev_fr1 (p := p) (i := 0) rfl) (ev_fr2 (p := q) (i := 1) rfl) (mok b1 b4)) (ev_mulW (ev_fr1 (p := q) (i := 1) rfl) (ev_fr2 (p := p) (i := 0) rfl) (mok b3 b2))) (ag_cons (ev_mulW (ev_fr2 (p := p) (i := 0) rfl) (ev_fr2 (p := q) (i := 1) rfl) (mok b2 b4)) ag_nil)) (hf _ _ (Int.mul_ne_zero hp hq) (mbd b2 b4)))), fin_fr (ds := [frD p, frD q])⟩
theorem rel_times : CTimes (RelOf K [] (t_times K Rf) 2 2) := by
  intro p q hp hq b1 b2 b3 b4
  exact ⟨rfl, _, .inl (ex_ret (ev_callF (ds := [.int (p.1 * q.1), .int (p.2 * q.2)]) (ag_cons (ev_mulW (ev_fr1 (p := p) (i := 0) rfl) (ev_fr1 (p := q) (i := 1) rfl) (mok b1 b3)) (ag_cons (ev_mulW (ev_fr2 (p := p) (i := 0) rfl) (ev_fr2 (p := q) (i := 1) rfl) (mok b2 b4)) ag_nil)) (hf _ _ (Int.mul_ne_zero hp hq) (mbd b2 b4)))), fin_fr (ds := [frD p, frD q])⟩
end
/-! ### _law_number -/
def CNumb (R : Rel) : Prop := ∀ (b : List D) (m : Int), GoodBox b → 0 ≤ m → ∃ (v : Int) (b' : List D), GoodBox b' ∧ -m ≤ v ∧ v ≤ m ∧ R [.own b, .fr (.int m)] (.fr (.int v)) [.own b', .fr (.int m)]
theorem num_loop {Rd : Rel} (hd : Spec Rd PreDraw PostDraw) (mm : Int) : ∀ (n m : Nat) (f : Int) (b : List D) (tv : Cell), GoodBox b → ∃ (f' : Int) (b' : List D) (tv' : Cell), GoodBox b' ∧
    LoopZ K [0] (gName 3) (b__law_number_1 K Rd) [3] (rangeD (m : Int) n) [.own b, .fr (.int mm), .fr (.int f), tv] (.nx [.own b', .fr (.int mm), .fr (.int f'), tv'])
  | 0, m, f, b, tv, hb => ⟨f, b, tv, hb, .nil⟩
  | n + 1, m, f, b, tv, hb => by
    rw [rangeD_cons]
    obtain ⟨v, b1, h0, h1, hb1, he⟩ := ev_draw (K := K) hd (i := 0) (ρ := [.own b, .fr (.int mm), .fr (.int f), .fr (.int (m : Int))]) rfl (ev_int (i := 1000)) rfl hb (by decide)
    obtain ⟨f', b', tv', g1, g2⟩ := num_loop hd mm n (m + 1) (f * 1000 + v) b1 (.fr (.int (m : Int))) hb1
    exact ⟨f', b', tv', g1, .step tg_name (ex_set (i := 2) (ev_add (ev_mul (ev_var rfl) (ev_int (i := 1000)) (.inr ⟨by decide, by decide⟩)) he) (by decide)) g2⟩
theorem rel_number {Rd : Rel} (hd : Spec Rd PreDraw PostDraw) : CNumb (RelOf K [0] (t__law_number K Rd) 4 2) := by
  intro b m hb hm
  have key : ∃ (v : Int) (b' : List D) (ρ2 : Rho), GoodBox b' ∧ -m ≤ v ∧ v ≤ m ∧ ρ2[0]? = some (.own b') ∧ ExZ K [0] (t__law_number K Rd) [.own b, .fr (.int m), .no, .no] (.rt ρ2 (.fr (.int v))) := by
    obtain ⟨n, b1, h0, h1, hb1, he1⟩ := ev_draw (K := K) hd (i := 0) (ρ := [.own b, .fr (.int m), .fr (.int 0), .no]) rfl (ev_int (i := 4)) rfl hb (by decide)
    obtain ⟨f, b2, tv, hb2, lp⟩ := num_loop (K := K) hd m (1 + n).toNat 0 0 b1 .no hb1
    obtain ⟨v, b3, h2, h3, hb3, he3⟩ := ev_draw (K := K) hd (i := 0) (ρ := [.own b2, .fr (.int m), .fr (.int f), tv]) rfl (ev_int (i := 2)) rfl hb2 (by decide)
    have s1 : ExZ K [0] (tAsg (tC (.int 0)) (gName 2)) [.own b, .fr (.int m), .no, .no] (.nx [.own b, .fr (.int m), .fr (.int 0), .no]) := ex_set (i := 2) ev_int (by decide)
    have s2 : ExZ K [0] (tFor (iRng1 (tCons (tOp rAddI (tC (.int 1)) (tCall (SpZ K Rd) [] E0 (tCons (tVar 0) (tCons (tC (.int 4)) tNil)))) tNil)) (gName 3) (b__law_number_1 K Rd)) [.own b, .fr (.int m), .fr (.int 0), .no] (.nx [.own b2, .fr (.int m), .fr (.int f), tv]) :=
      ex_for (it_range1 (ag_cons (ev_add ev_int he1) ag_nil) ⟨by omega, by omega⟩) lp (by decide)
    have ht := ts_test (ev_eqI he3 (ev_int (i := 0)))
    have hr0 := Int.emod_nonneg f (b := m + 1) (by omega)
    have hr1 := Int.emod_lt_of_pos f (b := m + 1) (by omega)
    have hv : EvZ K (tOp rModI (tCB rToInt (tCons (tVar 2) tNil)) (tOp rAddI (tVar 1) (tC (.int 1)))) [.own b3, .fr (.int m), .fr (.int f), tv] [.own b3, .fr (.int m), .fr (.int f), tv] (.int (f % (m + 1))) := ev_mod (ev_toInt (ev_var rfl)) (ev_add (ev_var rfl) ev_int) (by omega)
    by_cases h : v = 0
    · exact ⟨f % (m + 1), b3, _, hb3, by omega, by omega, rfl, ex_seq s1 (ex_seq s2 (ex_seqR (ex_ifT (ts_is ht (decide_eq_true h)) (ex_ret hv))))⟩
    · exact ⟨-(f % (m + 1)), b3, _, hb3, by omega, by omega, rfl, ex_seq s1 (ex_seq s2 (ex_seq (ex_ifF (ts_is ht (decide_eq_false h)) ex_next) (ex_ret (ev_negI hv))))⟩
  obtain ⟨v, b', ρ2, h1, h2, h3, h4, h5⟩ := key
  exact ⟨v, b', h1, h2, h3, rfl, ρ2, .inl h5, fin_box (ds := [.int m]) (by decide) h4⟩
end
end Z

set_option Elab.async false
set_option linter.all false
set_option maxRecDepth 100000
set_option maxHeartbeats 4000000
/-! ZDcT: a dict comprehension whose keys are tuples of ints and texts. -/
namespace Z
open PySem PySem.Spec PyProof.Rows L2
section
variable {X : Cx}
/-- what a block of this def's asks of its parts -/
structure Parts (X : Cx) (scope : Scope) (tg : Expr) (ifs : List Expr) (kx vx : Expr) (g : TG) (tt : TT) (tk tv : TE) : Prop where
  g : ∀ (s : Shared) (H : Hp) (C : Addr) (cl : List (Str × Addr)) (fp : List Addr), PG (X.blk s H scope (compEnvC scope cl C X.env) fp) tg g
  t : ∀ (s : Shared) (H : Hp) (C : Addr) (cl : List (Str × Addr)) (fp : List Addr), PTs (X.blk s H scope (compEnvC scope cl C X.env) fp) ifs tt
  k : ∀ (s : Shared) (H : Hp) (C : Addr) (cl : List (Str × Addr)) (fp : List Addr), PE (X.blk s H scope (compEnvC scope cl C X.env) fp) kx tk
  v : ∀ (s : Shared) (H : Hp) (C : Addr) (cl : List (Str × Addr)) (fp : List Addr), PE (X.blk s H scope (compEnvC scope cl C X.env) fp) vx tv
end
end Z

set_option Elab.async false
set_option linter.all false
set_option maxRecDepth 100000
set_option maxHeartbeats 4000000
/-! ZSetS: len(set(xs)), xs a list of texts. -/
namespace Z
open PySem PySem.Spec PyProof.Rows L2
def addS (acc : List Str) (x : Str) : List Str := if x ∈ acc then acc else acc ++ [x]
/-- each text once, where it is met first -/
def met (xs : List Str) : List Str := xs.foldl addS []
section
variable {prog : Program} {w : World} {A : Around} {R : Result → Shared → Prop} {I : Addr} {fp wr : List Addr} {G : Array GenState → Array GenState → Prop} {n : Nat} {P : Nat → Value → Prop} {St : Nat → Shared → Prop}
/-- the set at S holds what of xs was met -/
abbrev Holds (prog : Program) (w : World) (h : Heap) (S : Addr) (xs : List Str) : Prop := h.SetOf (strKind prog w) S (fun k => (met xs).any (· == k)) (met xs).length
end
section
variable {prog : Program} {w : World} {A : Around} {E : Value → Shared → Prop} {s : Shared}
end
end Z

set_option Elab.async false
set_option linter.all false
set_option maxRecDepth 100000
set_option maxHeartbeats 2000000
/-! ZDict: dicts, fields, methods, new instances, over cells. -/
namespace Z
open PySem PySem.Spec PyProof.Rows L2
open Evl (Ex Ex.refl Ex.trans Ex.new ex_rd ex_l ex_t sq_of st_of fresh_back sz_of sz_lt)
section
variable {κ : Type} [DecidableEq κ]
def putD (kds : List (κ × D)) (k : κ) (v : D) : List (κ × D) :=
  if (kds.any fun kv => decide (kv.1 = k)) = true then kds.map (fun kv => if kv.1 = k then (kv.1, v) else kv) else kds ++ [(k, v)]
end
variable {K : PySem.W.Frag} {S : List Nat} {ρ ρ' ρ1 ρ2 ρ3 ρ4 : Rho} {ta tb td tk tv ty te : TE} {tt : TT} {g : TG} {tx : TA} {d e x y : D} {ds es rs : List D} {H : Hp}
/-! ### what stands at a key -/
theorem DzP.len : ∀ {xs : List (Key × V)} {kds : List (Key × D)}, DzP K H xs kds → xs.length = kds.length
  | _, _, .nil => rfl
  | _, _, .cons _ hs => congrArg (· + 1) hs.len
theorem DzT.len : ∀ {xs : List (List Key × V)} {kds : List (List Key × D)}, DzT K H xs kds → xs.length = kds.length
  | _, _, .nil => rfl
  | _, _, .cons _ hs => congrArg (· + 1) hs.len
theorem DzP.any (k : Key) : ∀ {xs : List (Key × V)} {kds : List (Key × D)}, DzP K H xs kds → (xs.any fun kv => decide (kv.1 = k)) = (kds.any fun kv => decide (kv.1 = k))
  | _, _, .nil => rfl
  | _, _, .cons _ hs => by rw [List.any_cons, List.any_cons, DzP.any k hs]
theorem DzT.any (k : List Key) : ∀ {xs : List (List Key × V)} {kds : List (List Key × D)}, DzT K H xs kds → (xs.any fun kv => decide (kv.1 = k)) = (kds.any fun kv => decide (kv.1 = k))
  | _, _, .nil => rfl
  | _, _, .cons _ hs => by rw [List.any_cons, List.any_cons, DzT.any k hs]
/-! ### looking up -/
/-! ### a dict of the frame's own -/
/-! ### fields -/
/-! ### methods, new instances -/
end Z

set_option Elab.async false
set_option linter.all false
set_option maxRecDepth 100000
set_option maxHeartbeats 2000000
/-! ZDc: dict comprehensions over cells. -/
namespace Z
open PySem PySem.Spec PyProof.Rows L2
open Evl (Ex Ex.refl Ex.trans Ex.new ex_rd ex_l ex_t sq_of st_of fresh_back sz_of sz_lt)
variable {K : PySem.W.Frag} {ρ ρ' ρ1 ρ2 ρ3 : Rho} {tk tv te ta tb : TE} {tt : TT} {ds es : List D} {d : D}
/-- the items ds, one turn behind the other: acc becomes out -/
inductive CompDK (K : PySem.W.Frag) (g : TG) (tt : TT) (tk tv : TE) (vs A : List Nat) : List D → Rho → List (Key × D) → List (Key × D) → Rho → Prop
  | nil {ρ : Rho} {acc : List (Key × D)} : CompDK K g tt tk tv vs A [] ρ acc acc ρ
  | yes {ρ ρ1 ρ2 ρ3 ρ4 ρ5 : Rho} {d r : D} {k : Key} {ds : List D} {acc out : List (Key × D)} : TgZ K g A d ρ ρ1 → TsZ K tt ρ1 ρ2 true → EvZ K tk ρ2 ρ3 (keyD k) → EvZ K tv ρ3 ρ4 r → CompDK K g tt tk tv vs A ds (wipeR ρ4 vs) (putD acc k r) out ρ5 → CompDK K g tt tk tv vs A (d :: ds) ρ acc out ρ5
structure CWDK (K : PySem.W.Frag) (g : TG) (tt : TT) (tk tv : TE) (vs A : List Nat) (M : MS) (G1 H1 : Hp) (Dl : Addr) (σ : L2.St) (ds : List D) (out : List (Key × D)) (ρ' : Rho) (i : Nat) (H : Hp) : Prop where
  ex : ∃ G ρi acc vd, Grow (fun a => M a ∨ a = Dl) G1 H1 G H ∧ Sim K (fun a => M a ∧ a ≠ Dl) G H (L2.wipe σ vs) ρi ∧ CompDK K g tt tk tv vs A (ds.drop i) ρi acc out ρ' ∧ acc.length ≤ i ∧ G Dl = none ∧ H Dl = some (.dK vd) ∧ DzP K G vd acc
/-- the items ds, one turn behind the other: acc becomes out -/
inductive CompDT (K : PySem.W.Frag) (g : TG) (tt : TT) (tk tv : TE) (vs A : List Nat) : List D → Rho → List (List Key × D) → List (List Key × D) → Rho → Prop
  | nil {ρ : Rho} {acc : List (List Key × D)} : CompDT K g tt tk tv vs A [] ρ acc acc ρ
  | yes {ρ ρ1 ρ2 ρ3 ρ4 ρ5 : Rho} {d r : D} {k : List Key} {ds : List D} {acc out : List (List Key × D)} : TgZ K g A d ρ ρ1 → TsZ K tt ρ1 ρ2 true → EvZ K tk ρ2 ρ3 (D.tup (k.map keyD)) → NotZ k → EvZ K tv ρ3 ρ4 r → CompDT K g tt tk tv vs A ds (wipeR ρ4 vs) (putD acc k r) out ρ5 → CompDT K g tt tk tv vs A (d :: ds) ρ acc out ρ5
structure CWDT (K : PySem.W.Frag) (g : TG) (tt : TT) (tk tv : TE) (vs A : List Nat) (M : MS) (G1 H1 : Hp) (Dl : Addr) (σ : L2.St) (ds : List D) (out : List (List Key × D)) (ρ' : Rho) (i : Nat) (H : Hp) : Prop where
  ex : ∃ G ρi acc vd, Grow (fun a => M a ∨ a = Dl) G1 H1 G H ∧ Sim K (fun a => M a ∧ a ≠ Dl) G H (L2.wipe σ vs) ρi ∧ CompDT K g tt tk tv vs A (ds.drop i) ρi acc out ρ' ∧ acc.length ≤ i ∧ G Dl = none ∧ H Dl = some (.dT vd) ∧ DzT K G vd acc
end Z

set_option Elab.async false
set_option linter.all false
set_option maxRecDepth 100000
set_option maxHeartbeats 2000000
/-! ZObj: methods and constructors as relations of cells. -/
namespace Z
open PySem PySem.Spec PyProof.Rows L2
open Evl (Ex Ex.refl Ex.trans Ex.new ex_rd ex_l ex_t sq_of st_of fresh_back sz_of sz_lt)
/-- the method m of the class at C keeps the promise of R -/
structure Zmet (P : Program) (w : World) (K : PySem.W.Frag) (mg : Str → Option Value) (base : Heap) (k : Nat) (C : Addr) (m : Str) (ps : List Str) (R : Rel) : Prop where
  ex : ∃ (f : Addr) (fd : FuncData), FnOk P w K mg base CX0 k f fd ps (SpZ K R) ∧ Meth K C m f ∧ Binds K fd ps [] ∧ ∃ (oc : Value) (od : Option Addr) (osl : Array (Option Value)), K.lookup f = some ⟨oc, od, .func fd, osl⟩
/-- the class x, at C, makes its instances by an __init__ that keeps the promise of R -/
structure Zmak (P : Program) (w : World) (K : PySem.W.Frag) (mg : Str → Option Value) (base : Heap) (k : Nat) (x : Str) (C : Addr) (ps : List Str) (R : Rel) : Prop where
  ex : ∃ (f : Addr) (fd : FuncData), FnOk P w K mg base CX0 k f fd ps (SpZ K R) ∧ Mk K C f ∧ mg x = some (.ref C) ∧ Binds K fd ps []
section
variable {P : Program} {w : World} {K : PySem.W.Frag} {mg : Str → Option Value} {base : Heap} {x m qual : Str} {st : Stmt} {f C : Addr} {fd : FuncData} {N ps : List Str} {k n l : Nat} {t : TS} {S : List Nat}
end
section
variable {X : Cx} {k j : Nat} {x m : Str} {C : Addr} {ps : List Str} {R : Rel} {o e : Expr} {es : List Expr} {p pos apos : Pos} {to : TE} {t : TA}
end
/-! ### reversed -/
variable {K : PySem.W.Frag} {ρ ρ' : Rho} {te : TE} {ds : List D}
end Z

set_option Elab.async false
set_option linter.all false
set_option maxRecDepth 100000
set_option maxHeartbeats 2000000
/-! ZItem: for x in xs where xs is now a list, now a tuple; sorted texts; min, max. -/
namespace L2
open PySem PySem.Spec PyProof.Rows
end L2
namespace Z
open PySem PySem.Spec PyProof.Rows L2
open Evl (Ex Ex.refl Ex.trans Ex.new ex_rd ex_l ex_t sq_of st_of fresh_back sz_of sz_lt)
variable {K : PySem.W.Frag} {ρ ρ' ρ1 ρ2 : Rho} {te ta tb tl : TE} {ds : List D}
end Z

set_option Elab.async false
set_option linter.all false
set_option maxRecDepth 100000
set_option maxHeartbeats 2000000
/-! ZCall2: a call with two lists of the frame's own; equalities. -/
namespace Z
open PySem PySem.Spec PyProof.Rows L2
open Evl (Ex Ex.refl Ex.trans Ex.new ex_rd ex_l ex_t sq_of st_of fresh_back sz_of sz_lt)
variable {K : PySem.W.Frag} {ρ ρ' ρ1 ρ2 : Rho} {te ta tb : TE} {d : D}
/-! ### equalities -/
theorem ev_neB {i j : Bool} (ha : EvZ K ta ρ ρ1 (.bl i)) (hb : EvZ K tb ρ1 ρ2 (.bl j)) : EvZ K (tOp rNe ta tb) ρ ρ2 (.bl (!decide (i = j))) :=
  ev_op ha hb.rd fun u v G H Q _ du dv q => by
    rw [du.bl_inv, dv.bl_inv]
    exact ⟨rfl, q _ (by rw [show decide (V.bl i = V.bl j) = decide (i = j) by simp]; exact .bl _)⟩
end Z

set_option Elab.async false
set_option linter.all false
set_option maxRecDepth 100000
set_option maxHeartbeats 2000000
/-! ZNum2: lcm; a call with a list made for it and more arguments; comprehensions over tuples of names. -/
namespace Z
open PySem PySem.Spec PyProof.Rows L2
open Evl (Ex Ex.refl Ex.trans Ex.new ex_rd ex_l ex_t sq_of st_of fresh_back sz_of sz_lt)
variable {K : PySem.W.Frag} {S : List Nat} {ρ ρ' ρ1 ρ2 ρ3 : Rho} {ta tb tc te tl : TE} {tt tu : TT} {ts us : TS} {tr tx : TA} {d e x y : D} {ds es xs ys rs : List D} {b c : Bool} {o : Out}
def CLcm (i j : Int) : Prop := i.natAbs < 2 ^ 4000 ∧ j.natAbs < 2 ^ 4000
def rLcm : List V → Hp → VK → Prop := fun vs H Q => ∃ a b : Int, vs = [.int a, .int b] ∧ CLcm a b ∧ Q (.int ((Nat.lcm a.natAbs b.natAbs : Nat) : Int)) H
theorem log_le {n k : Nat} (h : n < 2 ^ k) (hk : 0 < k) : n.log2 < k := PySem.Flt.log2_lt_of hk h
theorem lcm_le_mul (a b : Nat) : Nat.lcm a b ≤ a * b := by
  unfold Nat.lcm
  exact Nat.div_le_self _ _
theorem cr_lcm {X : Cx} : CallR X (.builtin "math.lcm") rLcm := by
  intro pins s σ H vs us Q I r h
  obtain ⟨a, b, rfl, ⟨ha, hb⟩, q⟩ := h
  obtain ⟨t, u, rfl⟩ := Vals.int2 r
  have p1 : (1 : Nat) < 2 ^ 4000 := Nat.one_lt_two_pow (by decide)
  have h1 : (max 1 a.natAbs).log2 < 4000 := log_le (Nat.max_lt.mpr ⟨p1, ha⟩) (by decide)
  have h2 : (max a.natAbs b.natAbs).log2 < 4000 := log_le (Nat.max_lt.mpr ⟨ha, hb⟩) (by decide)
  have e1 : Nat.lcm 1 a.natAbs = a.natAbs := Nat.lcm_one_left _
  have h3 : (Nat.lcm a.natAbs b.natAbs) < 2 ^ 8000 := by
    refine Nat.lt_of_le_of_lt (lcm_le_mul _ _) ?_
    have : (2 : Nat) ^ 8000 = 2 ^ 4000 * 2 ^ 4000 := by rw [← Nat.pow_add]
    rw [this]
    exact Nat.mul_lt_mul'' ha hb
  have h4 := log_le h3 (by decide)
  have eb : bitsLine = 134217728 := by decide
  refine call_function_meets PySem.W.MGF.kind_lcm PySem.W.MGF.plain_lcm PySem.W.MGF.entry_lcm (PySem.W.MGF.args_lcm _ _) (PySem.W.mg_run_lcm a t b u (by omega) (by omega) ?_).meets ?_
  · rw [e1, Int.natAbs_natCast, eb]
    omega
  · rw [e1]
    exact ⟨.int _, H, I.tok _, ⟨_, rfl⟩, q⟩
theorem ev_lcm {i j : Int} (ha : EvZ K ta ρ ρ1 (.int i)) (hb : EvZ K tb ρ1 ρ2 (.int j)) (hc : CLcm i j) : EvZ K (tCB rLcm (tCons ta (tCons tb tNil))) ρ ρ2 (.int ((Nat.lcm i.natAbs j.natAbs : Nat) : Int)) := fun M G H σ S Q q =>
  ha M G H σ S _ fun u G1 H1 g1 s1 du => hb M G1 H1 σ s1 _ fun v G2 H2 g2 s2 dv => ⟨i, j, by rw [du.int_inv, dv.int_inv], hc, q _ G2 H2 (g1.trans g2) s2 (.int _)⟩
theorem ts_truthB (h : EvZ K te ρ ρ' (.bl b)) : TsZ K (tTruth K te) ρ ρ' b := fun M G H σ S Q q => h M G H σ S _ fun v G1 H1 g1 s1 dv => ⟨b, by rw [dv.bl_inv]; rfl, q G1 H1 g1 s1⟩
/-- a call whose first argument is a list made for it, the others frozen -/
theorem ev_callBNs {R : Rel} {X : XK} {b1 b2 : List D} (h : EvN K te ρ ρ1 b1) (ho : OwnIn ρ1 ρ) (hr : AgZ K tr ρ1 ρ2 ds) (ho2 : OwnIn ρ2 ρ1) (hR : R (.own b1 :: ds.map .fr) (.fr d) (.own b2 :: ds.map .fr)) : EvZ K (tCall (SpZ K R) [] X (tCons te tr)) ρ ρ2 d := fun M G H σ S Q q =>
  h M G H σ S _ fun p vs G1 H1 g1 s1 hp gp hp1 dz => by
    have nw := EvN.noOwn (vs := vs) S s1 hp ho
    have s1' : Sim K (fun a => M a ∧ a ≠ p) G1 H1 σ ρ1 := s1.chMo fun a m i e1 e2 => by
      obtain ⟨p', o', e', mp, _⟩ := s1.mu e1
      rw [e2] at e'
      cases e'
      exact ⟨mp, fun z => by subst z; exact nw i m e1 e2⟩
    refine hr _ G1 H1 σ s1' _ fun ws G2 H2 g2 s2 dv => ?_
    show SpZ K R ((V.ref p :: ws) ++ []) H2 Q X
    rw [List.append_nil]
    have hp2 : H2 p = some (.lst vs) := g2.k p _ (fun z => z.2 rfl) hp1
    have gp2 : G2 p = none := g2.n p (fun z => z.2 rfl) (by rw [hp1]; simp) gp
    have sa := sim_args (K := K) dv s2.sub
    have s0 : Sim K (fun a => a = p) G2 H2 ((V.ref p :: ws).map some) (.own b1 :: ds.map .fr) := by
      refine ⟨by rw [List.map_cons, List.length_cons, List.length_cons, sa.len], s2.sub, fun {j d} h => ?_, fun {j d} h => ?_, fun {j k d e q} ne h2 h3 h4 h5 => ?_⟩
      · cases j with
        | zero => exact absurd (show some (Cell.own b1) = some (Cell.fr d) from h) (by simp)
        | succ j => exact sa.fr (i := j) h
      · cases j with
        | zero =>
          have z : some (Cell.own b1) = some (Cell.mu d) := h
          cases z
          exact ⟨p, .lst vs, rfl, rfl, gp2, hp2, dz.mono g2.g⟩
        | succ j =>
          obtain ⟨_, _, _, z, _⟩ := sa.mu (i := j) h
          exact z.elim
      · cases j with
        | zero =>
          cases k with
          | zero => exact ne rfl
          | succ k =>
            obtain ⟨_, _, _, z, _⟩ := sa.mu (i := k) h3
            exact z.elim
        | succ j =>
          obtain ⟨_, _, _, z, _⟩ := sa.mu (i := j) h2
          exact z.elim
    refine ⟨fun a => a = p, G2, .own b1 :: ds.map .fr, .fr d, .own b2 :: ds.map .fr, s0, hR, fun v G' H' g s r => ?_⟩
    have g2M : Grow M G1 H1 G2 H2 := g2.wk fun a _ z => z.1
    have g12 := g1.trans g2M
    have nw2 : ∀ (j : Nat) (es : MO), ρ2[j]? = some (.mu es) → σ[j]? ≠ some (some (.ref p)) := fun j es e1 => by
      obtain ⟨fs, e⟩ := ho2 j es e1
      exact nw j fs e
    have s2M : Sim K M G2 H2 σ ρ2 := s2.chMo fun a m i e1 e2 => by
      obtain ⟨p', o', e', mp, _⟩ := s2.mu e1
      rw [e2] at e'
      cases e'
      exact mp.1
    refine q v G' H' ⟨g12.g.trans g.g, fun a o n e => g.k a o (fun z => by subst z; rw [hp] at e; cases e) (g12.k a o n e), fun a n e z => g.n a (fun y => by subst y; exact e hp) ?_ (g12.n a n e z), fun a z => g12.d a (g.d a z)⟩ (s2M.grow s.sub g.g fun q' es i e1 e2 => ?_) r
    · cases e1 : H2 a with
      | none => exact absurd (g12.d a e1) e
      | some o => simp
    · have ne : q' ≠ p := fun z => by subst z; exact nw2 i es e1 e2
      obtain ⟨q2, us, e', m, gq, hq, dq⟩ := s2M.mu e1
      rw [e2] at e'
      cases e'
      exact ⟨(g.k q' _ ne hq).trans hq.symm, g.n q' ne (by rw [hq]; simp) gq⟩
/-- a comprehension without a test, whatever its target; each turn gives back the cells ρ -/
theorem comp_mapG {α : Type} {g : TG} {vs A : List Nat} (u : α → D) (f : α → D) : ∀ (as : List α), (∀ a ∈ as, ∃ ρ1 ρ2, TgZ K g A (u a) ρ ρ1 ∧ EvZ K te ρ1 ρ2 (f a) ∧ wipeR ρ2 vs = ρ) → CompZ K g tYes te vs A (as.map u) ρ (as.map f) ρ
  | [], _ => .nil
  | a :: as, h => by
    obtain ⟨r1, r2, h1, h2, h3⟩ := h a List.mem_cons_self
    refine .yes h1 ts_yes h2 ?_
    rw [h3]
    exact comp_mapG u f as fun x hx => h x (List.mem_cons_of_mem _ hx)
end Z

set_option Elab.async false
set_option linter.all false
set_option maxRecDepth 100000
set_option maxHeartbeats 2000000
/-! LawV: vectors of fractions: inner products, primitive forms. -/
namespace Z
open PySem PySem.Spec PyProof.Rows L2
open Evl (Ex Ex.refl Ex.trans Ex.new ex_rd ex_l ex_t sq_of st_of fresh_back sz_of sz_lt)
def b_inner_1 (K : PySem.W.Frag) (R_plus : Rel) (R_times : Rel) (c_ZERO : V) : TS :=
  (tAsg (tCall (SpZ K R_plus) [] E0 (tCons (tVar 2) (tCons (tCall (SpZ K R_times) [] E0 (tCons (tVar 3) (tCons (tVar 4) tNil))) tNil))) (gName 2))
def t_inner (K : PySem.W.Frag) (R_plus : Rel) (R_times : Rel) (c_ZERO : V) : TS :=
  (tSeq (tAsg (tC c_ZERO) (gName 2))
      (tSeq (tFor (RZ.iZipA K (tCons (tVar 0) (tCons (tVar 1) tNil))) (gTup K 2 (gCons (gName 3) (gCons (gName 4) gNil))) (b_inner_1 K R_plus R_times c_ZERO))
      (tRet (tVar 2))))

def e_primitive_1 (K : PySem.W.Frag) : TE :=
  (tOp rDivZ (tVar 6) (tCB rMaxI (tCons (tVar 5) (tCons (tC (.int 1)) tNil))))
def b_primitive_2 (K : PySem.W.Frag) : TS :=
  (tAsg (tCB rGcd (tCons (tVar 5) (tCons (tVar 6) tNil))) (gName 5))
def e_primitive_3 (K : PySem.W.Frag) : TE :=
  (tOp rMulW (tVar 7) (tOp rDivZ (tVar 1) (tVar 3)))
def b_primitive_4 (K : PySem.W.Frag) : TS :=
  (tAsg (tCB rLcm (tCons (tVar 1) (tCons (tVar 3) tNil))) (gName 1))
def t_primitive (K : PySem.W.Frag) : TS :=
  (tSeq (tAsg (tC (.int 1)) (gName 1))
      (tSeq (tFor (iTup K (tVar 0)) (gTup K 2 (gCons (gName 2) (gCons (gName 3) gNil))) (b_primitive_4 K))
      (tSeq (tAsg (tLc (iTup K (tVar 0)) (gTup K 2 (gCons (gName 7) (gCons (gName 3) gNil))) tYes (e_primitive_3 K) [7, 3]) (gName 4))
      (tSeq (tAsg (tC (.int 0)) (gName 5))
      (tSeq (tFor (iList K (tVar 4)) (gName 6) (b_primitive_2 K))
      (tRet (tCB (rTupOf K) (tCons (tLc (iList K (tVar 4)) (gName 6) tYes (e_primitive_1 K) [6]) tNil))))))))

section
variable {K : PySem.W.Frag}
abbrev Fra := Int × Int
def vecD (ps : List Fra) : D := .tup (ps.map frD)
/-- a fraction of small parts -/
def FraOk (n : Nat) (p : Fra) : Prop := Bd n p.1 ∧ Bd n p.2 ∧ 1 ≤ p.2
theorem FraOk.mono {n m : Nat} {p : Fra} (h : FraOk n p) (hm : n ≤ m) : FraOk m p := ⟨h.1.mono hm, h.2.1.mono hm, h.2.2⟩
theorem FraOk.ne {n : Nat} {p : Fra} (h : FraOk n p) : p.2 ≠ 0 := by have := h.2.2; omega
def fTimes (p q : Fra) : Fra := FR (p.1 * q.1) (p.2 * q.2)
def fPlus (p q : Fra) : Fra := FR (p.1 * q.2 + q.1 * p.2) (p.2 * q.2)
theorem fTimes_ok {n m : Nat} {p q : Fra} (h : FraOk n p) (k : FraOk m q) : FraOk (n + m) (fTimes p q) :=
  have hb := Int.mul_ne_zero h.ne k.ne
  ⟨FR_bd1 hb (h.1.mul k.1), FR_bd2 hb (h.2.1.mul k.2.1), FR_pos hb⟩
theorem fPlus_ok {n m : Nat} {p q : Fra} (h : FraOk n p) (k : FraOk m q) : FraOk (n + m + 1) (fPlus p q) :=
  have hb := Int.mul_ne_zero h.ne k.ne
  ⟨FR_bd1 hb ((h.1.mul k.2.1).add ((Nat.add_comm n m ▸ k.1.mul h.2.1 : Bd (n + m) (q.1 * p.2)))), FR_bd2 hb ((h.2.1.mul k.2.1).mono (by omega)), FR_pos hb⟩
theorem cplus {R : Rel} (h : CPlus R) {p q : Fra} (hp : FraOk 4000 p) (hq : FraOk 4000 q) : R [.fr (frD p), .fr (frD q)] (.fr (frD (fPlus p q))) [.fr (frD p), .fr (frD q)] := h p q hp.ne hq.ne hp.1 hp.2.1 hq.1 hq.2.1
theorem ctimes {R : Rel} (h : CTimes R) {p q : Fra} (hp : FraOk 4000 p) (hq : FraOk 4000 q) : R [.fr (frD p), .fr (frD q)] (.fr (frD (fTimes p q))) [.fr (frD p), .fr (frD q)] := h p q hp.ne hq.ne hp.1 hp.2.1 hq.1 hq.2.1
/-! ### inner -/
def innerV : Fra → List (Fra × Fra) → Fra
  | t, [] => t
  | t, (p, q) :: l => innerV (fPlus t (fTimes p q)) l
def CInner (R : Rel) : Prop := ∀ ps qs : List Fra, ps.length = qs.length → ps.length ≤ 20 → (∀ p ∈ ps, FraOk 40 p) → (∀ p ∈ qs, FraOk 40 p) → R [.fr (vecD ps), .fr (vecD qs)] (.fr (frD (innerV (0, 1) (ps.zip qs)))) [.fr (vecD ps), .fr (vecD qs)]
theorem zipD_map {α β : Type} (f : α → D) (g : β → D) : ∀ (as : List α) (bs : List β), zipD (as.map f) (bs.map g) = (as.zip bs).map fun ab => .tup [f ab.1, g ab.2]
  | [], _ => by simp [zipD]
  | _ :: _, [] => by simp [zipD]
  | a :: as, b :: bs => by simp [zipD, zipD_map f g as bs]
theorem fra0 : FraOk 1 (0, 1) := ⟨by unfold Bd; decide, by unfold Bd; decide, by decide⟩
theorem inner_loop {Rp Rt : Rel} {cz : V} (hp : CPlus Rp) (ht : CTimes Rt) (P Q : Cell) : ∀ (l : List (Fra × Fra)) (t : Fra) (n : Nat) (av bv : Cell), FraOk n t → n + 81 * l.length ≤ 1999 → (∀ x ∈ l, FraOk 40 x.1 ∧ FraOk 40 x.2) → ∃ av' bv',
    LoopZ K [] (gTup K 2 (gCons (gName 3) (gCons (gName 4) gNil))) (b_inner_1 K Rp Rt cz) [3, 4] (l.map fun x => .tup [frD x.1, frD x.2]) [P, Q, .fr (frD t), av, bv] (.nx [P, Q, .fr (frD (innerV t l)), av', bv'])
  | [], t, n, av, bv, _, _, _ => ⟨av, bv, .nil⟩
  | (p, q) :: l, t, n, av, bv, ht0, hn, hl => by
    obtain ⟨h1, h2⟩ := hl (p, q) List.mem_cons_self
    rw [List.length_cons] at hn
    have h3 := fTimes_ok h1 h2
    have h4 := fPlus_ok ht0 h3
    obtain ⟨av', bv', lp⟩ := inner_loop hp ht P Q l (fPlus t (fTimes p q)) (n + (40 + 40) + 1) (.fr (frD p)) (.fr (frD q)) h4 (by omega) (fun x hx => hl x (List.mem_cons_of_mem _ hx))
    refine ⟨av', bv', .step (tg_tup rfl (tgs_cons tg_name (tgs_cons tg_name tgs_nil))) (ex_set (i := 2) (ev_callF (ds := [frD t, frD (fTimes p q)]) (ag_cons (ev_var rfl) (ag_cons (ev_callF (ds := [frD p, frD q]) (ag_cons (ev_var rfl) (ag_cons (ev_var rfl) ag_nil)) (ctimes ht (h1.mono (by decide)) (h2.mono (by decide)))) ag_nil)) (cplus hp (ht0.mono (by omega)) (h3.mono (by decide)))) (by decide)) lp⟩
theorem rel_inner {Rp Rt : Rel} {cz : V} (hc : ∀ ρ, EvZ K (tC cz) ρ ρ (frD (0, 1))) (hp : CPlus Rp) (ht : CTimes Rt) : CInner (RelOf K [] (t_inner K Rp Rt cz) 5 2) := by
  intro ps qs hl hn h1 h2
  refine ⟨rfl, ?_⟩
  obtain ⟨av, bv, lp⟩ := inner_loop (K := K) (cz := cz) hp ht (.fr (vecD ps)) (.fr (vecD qs)) (ps.zip qs) (0, 1) 1 .no .no fra0 (by rw [List.length_zip]; omega) (fun x hx => by
    obtain ⟨a, b⟩ := List.of_mem_zip hx
    exact ⟨h1 _ a, h2 _ b⟩)
  refine ⟨_, .inl (ex_seq (ex_set (i := 2) (hc _) (by decide)) (ex_seq (ex_for (it_zipT (ag_cons (ev_var rfl) (ag_cons (ev_var rfl) ag_nil))) (o := .nx [.fr (vecD ps), .fr (vecD qs), .fr (frD (innerV (0, 1) (ps.zip qs))), av, bv]) ?_ (A := [3, 4]) (by decide)) (ex_ret (ev_var rfl)))), fin_fr (ds := [vecD ps, vecD qs])⟩
  rw [zipD_map]
  exact lp
/-! ### primitive -/
def lcmL (l : Int) (ps : List Fra) : Int := ps.foldl (fun l p => ((Nat.lcm l.natAbs p.2.natAbs : Nat) : Int)) l
def gcdL (g : Int) (xs : List Int) : Int := xs.foldl (fun g x => gcI g x) g
def priI (ps : List Fra) : List Int := ps.map fun p => p.1 * (lcmL 1 ps).fdiv p.2
def priV (ps : List Fra) : List Int := (priI ps).map fun i => i.fdiv (max (gcdL 0 (priI ps)) 1)
theorem lcm_bd {a b : Nat} {i j : Int} (h : Bd a i) (k : Bd b j) : Bd (a + b) ((Nat.lcm i.natAbs j.natAbs : Nat) : Int) := by
  unfold Bd at *
  rw [Int.natAbs_natCast, Nat.pow_add]
  exact Nat.lt_of_le_of_lt (lcm_le_mul _ _) (Nat.mul_lt_mul'' h k)
theorem lcm_pos' {i j : Int} (h : 1 ≤ i) (k : 1 ≤ j) : 1 ≤ ((Nat.lcm i.natAbs j.natAbs : Nat) : Int) := by
  have := Nat.lcm_pos (m := i.natAbs) (n := j.natAbs) (by omega) (by omega)
  omega
theorem lcmL_facts : ∀ (ps : List Fra) (l : Int) (n : Nat), 1 ≤ l → Bd n l → (∀ p ∈ ps, FraOk 40 p) → 1 ≤ lcmL l ps ∧ Bd (n + 40 * ps.length) (lcmL l ps) ∧ l ∣ lcmL l ps ∧ ∀ p ∈ ps, p.2 ∣ lcmL l ps
  | [], l, n, h1, h2, _ => ⟨h1, h2, Int.dvd_refl _, fun p hp => by cases hp⟩
  | p :: ps, l, n, h1, h2, h3 => by
    have hp := h3 p List.mem_cons_self
    obtain ⟨a, b, c, d⟩ := lcmL_facts ps ((Nat.lcm l.natAbs p.2.natAbs : Nat) : Int) (n + 40) (lcm_pos' h1 hp.2.2) (lcm_bd h2 hp.2.1) (fun x hx => h3 x (List.mem_cons_of_mem _ hx))
    refine ⟨a, b.mono (by rw [List.length_cons]; omega), Int.dvd_trans ?_ c, fun q hq => ?_⟩
    · exact Int.natAbs_dvd_natAbs.mp (by rw [Int.natAbs_natCast]; exact Nat.dvd_lcm_left _ _)
    · rcases List.mem_cons.mp hq with rfl | hq
      · exact Int.dvd_trans (Int.natAbs_dvd_natAbs.mp (by rw [Int.natAbs_natCast]; exact Nat.dvd_lcm_right _ _)) c
      · exact d q hq
def VecOk (ps : List Fra) : Prop := ps.length ≤ 20 ∧ ∀ p ∈ ps, FraOk 40 p
theorem bd_one : Bd 1 1 := by unfold Bd; decide
theorem VecOk.lcm {ps : List Fra} (h : VecOk ps) : 1 ≤ lcmL 1 ps ∧ Bd 900 (lcmL 1 ps) ∧ ∀ p ∈ ps, p.2 ∣ lcmL 1 ps := by
  obtain ⟨a, b, _, d⟩ := lcmL_facts ps 1 1 (by decide) bd_one h.2
  exact ⟨a, b.mono (by have := h.1; omega), d⟩
theorem quo {l m : Int} (hl : 1 ≤ l) (hm : 1 ≤ m) (hd : m ∣ l) : l.fdiv m * m = l ∧ 1 ≤ l.fdiv m ∧ (l.fdiv m).natAbs ≤ l.natAbs := by
  have e : l.fdiv m * m = l := by
    rw [Int.fdiv_eq_ediv_of_nonneg _ (by omega)]
    exact Int.ediv_mul_cancel hd
  refine ⟨e, ?_, natAbs_le_mul e (by omega)⟩
  have : 0 < l.fdiv m * m := by omega
  have := Int.pos_of_mul_pos_left this (by omega)
  omega
theorem gcI_bd0 {n : Nat} {t b : Int} (h : Bd n t) (hb : Bd n b) : Bd n (gcI t b) := by
  by_cases z : b = 0
  · subst z
    unfold gcI Bd at *
    rw [Int.natAbs_natCast]
    show Nat.gcd t.natAbs 0 < _
    rw [Nat.gcd_zero_right]
    exact h
  · exact gcI_bd z hb
theorem gcdL_bd : ∀ (xs : List Int) (g : Int) (n : Nat), Bd n g → (∀ x ∈ xs, Bd n x) → Bd n (gcdL g xs)
  | [], g, n, h, _ => h
  | x :: xs, g, n, h, hx => gcdL_bd xs (gcI g x) n (gcI_bd0 h (hx x List.mem_cons_self)) fun y hy => hx y (List.mem_cons_of_mem _ hy)
theorem gcdL_nn : ∀ (xs : List Int) (g : Int), 0 ≤ g → 0 ≤ gcdL g xs
  | [], g, h => h
  | x :: xs, g, h => gcdL_nn xs (gcI g x) (by unfold gcI; omega)
theorem priI_bd {ps : List Fra} (h : VecOk ps) : ∀ i ∈ priI ps, Bd 940 i := fun i hi => by
  obtain ⟨p, hp, rfl⟩ := List.mem_map.mp hi
  obtain ⟨a, b, d⟩ := h.lcm
  have q := quo a (h.2 p hp).2.2 (d p hp)
  have := (h.2 p hp).1.mul (b.le q.2.2)
  exact this.mono (by decide)
def CPri (R : Rel) : Prop := ∀ ps : List Fra, VecOk ps → R [.fr (vecD ps)] (.fr (.tup ((priV ps).map .int))) [.fr (vecD ps)]
theorem lcm_loop (P : Cell) (c4 c5 c6 c7 : Cell) : ∀ (ps : List Fra) (l : Int) (n : Nat) (av bv : Cell), 1 ≤ l → Bd n l → n + 40 * ps.length ≤ 3000 → (∀ p ∈ ps, FraOk 40 p) → ∃ av' bv',
    LoopZ K [] (gTup K 2 (gCons (gName 2) (gCons (gName 3) gNil))) (b_primitive_4 K) [2, 3] (ps.map frD) [P, .fr (.int l), av, bv, c4, c5, c6, c7] (.nx [P, .fr (.int (lcmL l ps)), av', bv', c4, c5, c6, c7])
  | [], l, n, av, bv, _, _, _, _ => ⟨av, bv, .nil⟩
  | p :: ps, l, n, av, bv, h1, h2, h3, h4 => by
    have hp := h4 p List.mem_cons_self
    rw [List.length_cons] at h3
    obtain ⟨av', bv', lp⟩ := lcm_loop P c4 c5 c6 c7 ps ((Nat.lcm l.natAbs p.2.natAbs : Nat) : Int) (n + 40) (.fr (.int p.1)) (.fr (.int p.2)) (lcm_pos' h1 hp.2.2) (lcm_bd h2 hp.2.1) (by omega) (fun x hx => h4 x (List.mem_cons_of_mem _ hx))
    exact ⟨av', bv', .step (tg_tup rfl (tgs_cons tg_name (tgs_cons tg_name tgs_nil))) (ex_set (i := 1) (ev_lcm (ev_var rfl) (ev_var rfl) ⟨h2.mono (by omega), hp.2.1.mono (by decide)⟩) (by decide)) lp⟩
theorem gcd_loop (c0 c1 c2 c3 c4 c7 : Cell) : ∀ (xs : List Int) (g : Int) (iv : Cell), ∃ iv',
    LoopZ K [] (gName 6) (b_primitive_2 K) [6] (xs.map .int) [c0, c1, c2, c3, c4, .fr (.int g), iv, c7] (.nx [c0, c1, c2, c3, c4, .fr (.int (gcdL g xs)), iv', c7])
  | [], g, iv => ⟨iv, .nil⟩
  | x :: xs, g, iv => by
    obtain ⟨iv', lp⟩ := gcd_loop c0 c1 c2 c3 c4 c7 xs (gcI g x) (.fr (.int x))
    exact ⟨iv', .step tg_name (ex_set (i := 5) (ev_gcd (ev_var rfl) (ev_var rfl)) (by decide)) lp⟩
theorem rel_primitive : CPri (RelOf K [] (t_primitive K) 8 1) := by
  intro ps h
  obtain ⟨l1, l2, l3⟩ := h.lcm
  obtain ⟨av, bv, lp⟩ := lcm_loop (K := K) (.fr (vecD ps)) .no .no .no .no ps 1 1 .no .no (by decide) bd_one (by have := h.1; omega) h.2
  have hb := priI_bd h
  refine ⟨rfl, ?_⟩
  have c1 : CompZ K (gTup K 2 (gCons (gName 7) (gCons (gName 3) gNil))) tYes (e_primitive_3 K) [7, 3] [7, 3] (ps.map frD) [.fr (vecD ps), .fr (.int (lcmL 1 ps)), av, .no, .no, .no, .no, .no] ((priI ps).map .int) [.fr (vecD ps), .fr (.int (lcmL 1 ps)), av, .no, .no, .no, .no, .no] := by
    unfold priI
    rw [List.map_map]
    refine comp_mapG frD _ ps fun p hp => ⟨_, _, tg_tup rfl (tgs_cons tg_name (tgs_cons tg_name tgs_nil)), ev_mulW (ev_var (i := 7) rfl) (ev_fdivZ (ev_var (i := 1) rfl) (ev_var (i := 3) rfl) (divz_of (b := 8000) (h.2 p hp).ne ((h.2 p hp).2.1.mono (by decide)) (by decide) (by decide))) ?_, rfl⟩
    exact (h.2 p hp).1.mulOk (l2.le (quo l1 (h.2 p hp).2.2 (l3 p hp)).2.2) (by decide) (by decide) (by decide)
  obtain ⟨iv, lg⟩ := gcd_loop (K := K) (.fr (vecD ps)) (.fr (.int (lcmL 1 ps))) av .no (.fr (.lst ((priI ps).map .int))) .no (priI ps) 0 .no
  have hlen : (priI ps).length = ps.length := by unfold priI; rw [List.length_map]
  have hg : Bd 8000 (max (gcdL 0 (priI ps)) 1) := by
    have a := gcdL_bd (priI ps) 0 940 (by unfold Bd; exact Nat.two_pow_pos _) hb
    by_cases z : gcdL 0 (priI ps) ≤ 1
    · have : max (gcdL 0 (priI ps)) 1 = 1 := by omega
      rw [this]
      exact bd_one.mono (by decide)
    · have : max (gcdL 0 (priI ps)) 1 = gcdL 0 (priI ps) := by omega
      rw [this]
      exact a.mono (by decide)
  have c2 : CompZ K (gName 6) tYes (e_primitive_1 K) [6] [6] ((priI ps).map .int) [.fr (vecD ps), .fr (.int (lcmL 1 ps)), av, .no, .fr (.lst ((priI ps).map .int)), .fr (.int (gcdL 0 (priI ps))), .no, .no] ((priV ps).map .int) [.fr (vecD ps), .fr (.int (lcmL 1 ps)), av, .no, .fr (.lst ((priI ps).map .int)), .fr (.int (gcdL 0 (priI ps))), .no, .no] := by
    unfold priV
    rw [List.map_map]
    exact comp_mapG D.int _ (priI ps) fun i hi => ⟨_, _, tg_name, ev_fdivZ (ev_var (i := 6) rfl) (ev_maxI (ev_var (i := 5) rfl) (ev_int (i := 1))) (divz_of (b := 8000) (by omega) hg (by decide) (by decide)), rfl⟩
  exact ⟨_, .inl (ex_seq (ex_set (i := 1) ev_int (by decide)) (ex_seq (ex_for (it_tup (ev_var rfl)) lp (by decide)) (ex_seq (ex_setN (i := 4) (en_lc (it_tup (ev_var rfl)) c1 (by decide) (by rw [List.length_map]; have := h.1; omega)) (fun j es e => by
      rcases j with _ | _ | _ | _ | _ | _ | _ | _ | j <;> first | exact ⟨es, e⟩ | cases e | exact absurd e (by simp)) (by decide)) (ex_freeze (i := 4) rfl (ex_seq (ex_set (i := 5) ev_int (by decide)) (ex_seq (ex_for (it_list (ev_var rfl)) lg (by decide)) (ex_ret (ev_tupN (en_lc (it_list (ev_var (i := 4) rfl)) c2 (by decide) (by rw [List.length_map, hlen]; have := h.1; omega)))))))))), fin_fr (ds := [vecD ps])⟩
/-! ### what primitive forms are -/
theorem gcdL_dvd : ∀ (xs : List Int) (g : Int), gcdL g xs ∣ g ∧ ∀ x ∈ xs, gcdL g xs ∣ x
  | [], g => ⟨Int.dvd_refl _, fun x hx => by cases hx⟩
  | x :: xs, g => by
    obtain ⟨a, b⟩ := gcdL_dvd xs (gcI g x)
    refine ⟨Int.dvd_trans a (gcI_dvd_l g x), fun y hy => ?_⟩
    rcases List.mem_cons.mp hy with rfl | hy
    · exact Int.dvd_trans a (gcI_dvd_r g y)
    · exact b y hy
theorem gcI_scale (g x m : Int) (hm : 0 ≤ m) : gcI (g * m) (x * m) = gcI g x * m := by
  unfold gcI
  rw [Int.natAbs_mul, Int.natAbs_mul, Nat.gcd_mul_right, Int.natCast_mul, Int.natAbs_of_nonneg hm]
theorem gcdL_scale (m : Int) (hm : 0 ≤ m) : ∀ (xs : List Int) (g : Int), gcdL (g * m) (xs.map (· * m)) = gcdL g xs * m
  | [], g => rfl
  | x :: xs, g => by
    show gcdL (gcI (g * m) (x * m)) (xs.map (· * m)) = _
    rw [gcI_scale g x m hm]
    exact gcdL_scale m hm xs (gcI g x)
theorem dvd_zero_eq {a b : Int} (h : a ∣ b) (z : a = 0) : b = 0 := by
  subst z
  exact Int.zero_dvd.mp h
theorem priV_mul {ps : List Fra} : ∀ i ∈ priI ps, i.fdiv (max (gcdL 0 (priI ps)) 1) * max (gcdL 0 (priI ps)) 1 = i := fun i hi => by
  have hd := (gcdL_dvd (priI ps) 0).2 i hi
  have hn := gcdL_nn (priI ps) 0 (Int.le_refl _)
  by_cases z : gcdL 0 (priI ps) = 0
  · have := dvd_zero_eq hd z
    subst this
    rw [z]
    rfl
  · have e : max (gcdL 0 (priI ps)) 1 = gcdL 0 (priI ps) := by omega
    rw [e, Int.fdiv_eq_ediv_of_nonneg _ hn]
    exact Int.ediv_mul_cancel hd
theorem priV_len (ps : List Fra) : (priV ps).length = ps.length := by unfold priV priI; rw [List.length_map, List.length_map]
theorem priV_bd {ps : List Fra} (h : VecOk ps) : ∀ x ∈ priV ps, Bd 940 x := fun x hx => by
  obtain ⟨i, hi, rfl⟩ := List.mem_map.mp hx
  exact (priI_bd h i hi).le (natAbs_le_mul (priV_mul i hi) (by omega))
/-- the entry x of the primitive form for p: there are q, m above 0 with x * m = p.1 * q, q * p.2 = l -/
theorem priV_get {ps : List Fra} (h : VecOk ps) {i : Nat} {p : Fra} (hp : ps[i]? = some p) : ∃ x q, (priV ps)[i]? = some x ∧ 1 ≤ q ∧ q * p.2 = lcmL 1 ps ∧ x * max (gcdL 0 (priI ps)) 1 = p.1 * q := by
  have hm := List.mem_of_getElem? hp
  obtain ⟨l1, l2, l3⟩ := h.lcm
  obtain ⟨a, b, c⟩ := quo l1 (h.2 p hm).2.2 (l3 p hm)
  have hi : p.1 * (lcmL 1 ps).fdiv p.2 ∈ priI ps := List.mem_map_of_mem (f := fun p : Fra => p.1 * (lcmL 1 ps).fdiv p.2) hm
  refine ⟨_, _, ?_, b, a, priV_mul _ hi⟩
  unfold priV
  rw [List.getElem?_map]
  have : (priI ps)[i]? = some (p.1 * (lcmL 1 ps).fdiv p.2) := by
    unfold priI
    rw [List.getElem?_map, hp]
    rfl
  rw [this]
  rfl
theorem mul_pos_zero {x m y q : Int} (h : x * m = y * q) (hm : 1 ≤ m) (hq : 1 ≤ q) : (x = 0 ↔ y = 0) ∧ 0 ≤ x * y := by
  constructor
  · constructor
    · intro z
      rw [z, Int.zero_mul] at h
      rcases Int.mul_eq_zero.mp h.symm with z | z
      · exact z
      · omega
    · intro z
      rw [z, Int.zero_mul] at h
      rcases Int.mul_eq_zero.mp h with z | z
      · exact z
      · omega
  · have e : x * y * (m * q) = (y * q) * (y * q) := by
      rw [show x * y * (m * q) = (x * m) * (y * q) by simp only [Int.mul_assoc, Int.mul_left_comm, Int.mul_comm], h]
    have hs : 0 ≤ (y * q) * (y * q) := by
      rcases Int.le_total 0 (y * q) with z | z
      · exact Int.mul_nonneg z z
      · have := Int.mul_nonneg (Int.neg_nonneg.mpr z) (Int.neg_nonneg.mpr z)
        rw [Int.neg_mul_neg] at this
        exact this
    have hmq : 0 < m * q := Int.mul_pos (by omega) (by omega)
    rw [← e] at hs
    rcases Int.lt_or_le (x * y) 0 with z | z
    · have := Int.mul_neg_of_neg_of_pos z hmq
      omega
    · exact z
theorem cross {x y m a b c d q r l : Int} (hm : 1 ≤ m) (h1 : x * m = a * q) (h2 : y * m = c * r) (h3 : q * b = l) (h4 : r * d = l) : x * c * b = y * a * d := by
  have e : x * c * b * m = y * a * d * m := by
    calc x * c * b * m = (x * m) * (c * b) := by simp only [Int.mul_assoc, Int.mul_left_comm, Int.mul_comm]
      _ = (a * q) * (c * b) := by rw [h1]
      _ = (q * b) * (a * c) := by simp only [Int.mul_assoc, Int.mul_left_comm, Int.mul_comm]
      _ = (r * d) * (a * c) := by rw [h3, h4]
      _ = (c * r) * (a * d) := by simp only [Int.mul_assoc, Int.mul_left_comm, Int.mul_comm]
      _ = (y * m) * (a * d) := by rw [h2]
      _ = y * a * d * m := by simp only [Int.mul_assoc, Int.mul_left_comm, Int.mul_comm]
  exact Int.eq_of_mul_eq_mul_right (by omega) e
theorem pri_one {ps : List Fra} (h : VecOk ps) : gcdL 0 (priV ps) = 1 ∨ ∀ p ∈ ps, p.1 = 0 := by
  have hn := gcdL_nn (priI ps) 0 (Int.le_refl _)
  have e : priI ps = (priV ps).map (· * max (gcdL 0 (priI ps)) 1) := by
    unfold priV
    rw [List.map_map]
    refine (List.map_id (priI ps)).symm.trans (List.map_congr_left fun i hi => ?_)
    exact (priV_mul i hi).symm
  by_cases z : gcdL 0 (priI ps) = 0
  · right
    intro p hp
    obtain ⟨l1, l2, l3⟩ := h.lcm
    obtain ⟨a, b, c⟩ := quo l1 (h.2 p hp).2.2 (l3 p hp)
    have hi : p.1 * (lcmL 1 ps).fdiv p.2 ∈ priI ps := List.mem_map_of_mem (f := fun p : Fra => p.1 * (lcmL 1 ps).fdiv p.2) hp
    have := dvd_zero_eq ((gcdL_dvd (priI ps) 0).2 _ hi) z
    rcases Int.mul_eq_zero.mp this with y | y
    · exact y
    · omega
  · left
    have hM : max (gcdL 0 (priI ps)) 1 = gcdL 0 (priI ps) := by omega
    have s := gcdL_scale (max (gcdL 0 (priI ps)) 1) (by omega) (priV ps) 0
    rw [← e, Int.zero_mul, hM] at s
    have : gcdL 0 (priV ps) * gcdL 0 (priI ps) = 1 * gcdL 0 (priI ps) := by rw [← s, Int.one_mul]
    exact Int.eq_of_mul_eq_mul_right z this
end
end Z

set_option Elab.async false
set_option linter.all false
set_option maxRecDepth 100000
set_option maxHeartbeats 2000000
/-! Law21: the law k21, what its rows come to. -/
namespace Z
open PySem PySem.Spec PyProof.Rows L2
open Evl (Ex Ex.refl Ex.trans Ex.new ex_rd ex_l ex_t sq_of st_of fresh_back sz_of sz_lt)
namespace K21
def e__law_is_integers_1 (K : PySem.W.Frag) (R__law_is_integer : Rel) : TE :=
  (tCall (SpZ K R__law_is_integer) [] E0 (tCons (tVar 2) tNil))
def t__law_is_integers (K : PySem.W.Frag) (R__law_is_integer : Rel) : TS :=
  (tSeq (tIfS (tOr (tNot (tB (tCB (rIsi K) (tCons (tVar 0) (tCons (tC (.ty "tuple")) tNil))))) (tTest (tOp rNe (tCB (rLenX K) (tCons (tVar 0) tNil)) (tVar 1)))) (tRet (tC (.bl false))) tNext)
      (tRet (tCB (rAll K) (tCons (tLc (iTup K (tVar 0)) (gName 2) tYes (e__law_is_integers_1 K R__law_is_integer) [2]) tNil))))

def t__law_add (K : PySem.W.Frag) (R__law_fraction : Rel) : TS :=
  (tRet (tCall (SpZ K R__law_fraction) [] E0 (tCons (tOp rAddI (tOp rMulW (tOp (rIx K) (tVar 0) (tC (.int 0))) (tOp (rIx K) (tVar 1) (tC (.int 1)))) (tOp rMulW (tOp (rIx K) (tVar 1) (tC (.int 0))) (tOp (rIx K) (tVar 0) (tC (.int 1))))) (tCons (tOp rMulW (tOp (rIx K) (tVar 0) (tC (.int 1))) (tOp (rIx K) (tVar 1) (tC (.int 1)))) tNil))))

def t__law_a_fraction (K : PySem.W.Frag) (R__law_fraction : Rel) (R__law_number : Rel) : TS :=
  (tRet (tCall (SpZ K R__law_fraction) [] E0 (tCons (tCall (SpZ K R__law_number) [] E0 (tCons (tVar 0) (tCons (tVar 1) tNil))) (tCons (tOp rAddI (tC (.int 1)) (tCB rAbs (tCons (tCall (SpZ K R__law_number) [] E0 (tCons (tVar 0) (tCons (tVar 1) tNil))) tNil))) tNil))))

def b__law_vector_1 (K : PySem.W.Frag) (R__law_a_fraction : Rel) (R__law_draw : Rel) : TS :=
  (tIfS (tOr (tTruth K (tVar 2)) (tTest (tOp rEq (tCall (SpZ K R__law_draw) [] E0 (tCons (tVar 0) (tCons (tC (.int 3)) tNil))) (tC (.int 0))))) (tDrop (tBM K "list" rAppend (tVar 3) (tCons (tTup (tCons (tC (.int 0)) (tCons (tC (.int 1)) tNil))) tNil))) (tDrop (tBM K "list" rAppend (tVar 3) (tCons (tCall (SpZ K R__law_a_fraction) [] E0 (tCons (tVar 0) (tCons (tOp rPowI (tC (.int 10)) (tC (.int 6))) tNil))) tNil))))
def t__law_vector (K : PySem.W.Frag) (R__law_a_fraction : Rel) (R__law_draw : Rel) : TS :=
  (tSeq (tAsg (tOp rEq (tCall (SpZ K R__law_draw) [] E0 (tCons (tVar 0) (tCons (tC (.int 5)) tNil))) (tC (.int 0))) (gName 2))
      (tSeq (tAsg (tLst tNil) (gName 3))
      (tSeq (tFor (iRng1 (tCons (tVar 1) tNil)) (gName 4) (b__law_vector_1 K R__law_a_fraction R__law_draw))
      (tRet (tCB (rTupOf K) (tCons (tVar 3) tNil))))))

def b__law_inner_1 (K : PySem.W.Frag) (R__law_add : Rel) (R__law_fraction : Rel) : TS :=
  (tAsg (tCall (SpZ K R__law_add) [] E0 (tCons (tVar 2) (tCons (tCall (SpZ K R__law_fraction) [] E0 (tCons (tOp rMulW (tOp (rIx K) (tOp (rIx K) (tVar 0) (tVar 3)) (tC (.int 0))) (tOp (rIx K) (tOp (rIx K) (tVar 1) (tVar 3)) (tC (.int 0)))) (tCons (tOp rMulW (tOp (rIx K) (tOp (rIx K) (tVar 0) (tVar 3)) (tC (.int 1))) (tOp (rIx K) (tOp (rIx K) (tVar 1) (tVar 3)) (tC (.int 1)))) tNil))) tNil))) (gName 2))
def t__law_inner (K : PySem.W.Frag) (R__law_add : Rel) (R__law_fraction : Rel) : TS :=
  (tSeq (tAsg (tTup (tCons (tC (.int 0)) (tCons (tC (.int 1)) tNil))) (gName 2))
      (tSeq (tFor (iRng1 (tCons (tCB (rLenX K) (tCons (tVar 0) tNil)) tNil)) (gName 3) (b__law_inner_1 K R__law_add R__law_fraction))
      (tRet (tVar 2))))

def e_law_1 (K : PySem.W.Frag) (R__law_box : Rel) (R__law_draw : Rel) (R__law_gcd : Rel) (R__law_inner : Rel) (R__law_is_integers : Rel) (R__law_same : Rel) (R__law_vector : Rel) (R_inner : Rel) (R_primitive : Rel) : TE :=
  (tOp rEq (tOp (rIx K) (tVar 9) (tC (.int 0))) (tC (.int 0)))
def b_law_2 (K : PySem.W.Frag) (R__law_box : Rel) (R__law_draw : Rel) (R__law_gcd : Rel) (R__law_inner : Rel) (R__law_is_integers : Rel) (R__law_same : Rel) (R__law_vector : Rel) (R_inner : Rel) (R_primitive : Rel) : TS :=
  (tIfS (tTest (tOp rNe (tOp rMulW (tOp rMulW (tOp (rIx K) (tVar 5) (tVar 7)) (tOp (rIx K) (tOp (rIx K) (tVar 3) (tVar 8)) (tC (.int 0)))) (tOp (rIx K) (tOp (rIx K) (tVar 3) (tVar 7)) (tC (.int 1)))) (tOp rMulW (tOp rMulW (tOp (rIx K) (tVar 5) (tVar 8)) (tOp (rIx K) (tOp (rIx K) (tVar 3) (tVar 7)) (tC (.int 0)))) (tOp (rIx K) (tOp (rIx K) (tVar 3) (tVar 8)) (tC (.int 1)))))) (tRet (tC (.bl false))) tNext)
def b_law_3 (K : PySem.W.Frag) (R__law_box : Rel) (R__law_draw : Rel) (R__law_gcd : Rel) (R__law_inner : Rel) (R__law_is_integers : Rel) (R__law_same : Rel) (R__law_vector : Rel) (R_inner : Rel) (R_primitive : Rel) : TS :=
  (tSeq (tAsg (tCall (SpZ K R__law_gcd) [] E0 (tCons (tVar 6) (tCons (tOp (rIx K) (tVar 5) (tVar 7)) tNil))) (gName 6))
      (tSeq (tIfS (tOr (tTest (tOp rNe (tOp rEq (tOp (rIx K) (tVar 5) (tVar 7)) (tC (.int 0))) (tOp rEq (tOp (rIx K) (tOp (rIx K) (tVar 3) (tVar 7)) (tC (.int 0))) (tC (.int 0))))) (tTest (tOp rLtI (tOp rMulW (tOp (rIx K) (tVar 5) (tVar 7)) (tOp (rIx K) (tOp (rIx K) (tVar 3) (tVar 7)) (tC (.int 0)))) (tC (.int 0))))) (tRet (tC (.bl false))) tNext)
      (tFor (iRng1 (tCons (tVar 2) tNil)) (gName 8) (b_law_2 K R__law_box R__law_draw R__law_gcd R__law_inner R__law_is_integers R__law_same R__law_vector R_inner R_primitive))))
def t_law (K : PySem.W.Frag) (R__law_box : Rel) (R__law_draw : Rel) (R__law_gcd : Rel) (R__law_inner : Rel) (R__law_is_integers : Rel) (R__law_same : Rel) (R__law_vector : Rel) (R_inner : Rel) (R_primitive : Rel) : TS :=
  (tSeq (tAsg (tCall (SpZ K R__law_box) [] E0 (tCons (tVar 0) (tCons (tC (.int 0)) tNil))) (gName 1))
      (tSeq (tAsg (tOp rAddI (tC (.int 1)) (tCall (SpZ K R__law_draw) [] E0 (tCons (tVar 1) (tCons (tC (.int 8)) tNil)))) (gName 2))
      (tSeq (tAsg (tCall (SpZ K R__law_vector) [] E0 (tCons (tCall (SpZ K R__law_box) [] E0 (tCons (tVar 0) (tCons (tC (.int 1)) tNil))) (tCons (tVar 2) tNil))) (gName 3))
      (tSeq (tAsg (tCall (SpZ K R__law_vector) [] E0 (tCons (tCall (SpZ K R__law_box) [] E0 (tCons (tVar 0) (tCons (tC (.int 2)) tNil))) (tCons (tVar 2) tNil))) (gName 4))
      (tSeq (tIfS (tNot (tB (tCall (SpZ K R__law_same) [] E0 (tCons (tCall (SpZ K R_inner) [] E0 (tCons (tVar 3) (tCons (tVar 4) tNil))) (tCons (tCall (SpZ K R__law_inner) [] E0 (tCons (tVar 3) (tCons (tVar 4) tNil))) tNil))))) (tRet (tC (.bl false))) tNext)
      (tSeq (tAsg (tCall (SpZ K R_primitive) [] E0 (tCons (tVar 3) tNil)) (gName 5))
      (tSeq (tIfS (tNot (tB (tCall (SpZ K R__law_is_integers) [] E0 (tCons (tVar 5) (tCons (tVar 2) tNil))))) (tRet (tC (.bl false))) tNext)
      (tSeq (tAsg (tC (.int 0)) (gName 6))
      (tSeq (tFor (iRng1 (tCons (tVar 2) tNil)) (gName 7) (b_law_3 K R__law_box R__law_draw R__law_gcd R__law_inner R__law_is_integers R__law_same R__law_vector R_inner R_primitive))
      (tRet (tOrV (tOp rEq (tVar 6) (tC (.int 1))) (tCB (rAll K) (tCons (tLc (iTup K (tVar 3)) (gName 9) tYes (e_law_1 K R__law_box R__law_draw R__law_gcd R__law_inner R__law_is_integers R__law_same R__law_vector R_inner R_primitive) [9]) tNil)))))))))))))

section
variable {K : PySem.W.Frag}
/-! ### _law_is_integers -/
def CInts (R : Rel) : Prop := ∀ is : List Int, is.length ≤ 1000 → R [.fr (.tup (is.map .int)), .fr (.int (is.length : Int))] (.fr (.bl true)) [.fr (.tup (is.map .int)), .fr (.int (is.length : Int))]
theorem rel_ints {Ri : Rel} (hi : Spec Ri PreInt PostInt) : CInts (RelOf K [] (t__law_is_integers K Ri) 3 2) := by
  intro is hl
  refine ⟨rfl, [.fr (.tup (is.map .int)), .fr (.int (is.length : Int)), .no], .inl (ex_seq (ex_ifF (ts_orF (ts_is (ts_not (b := true) (ts_B (ev_isi (T := "tuple") (ev_var rfl) rfl))) rfl) (ts_is (ts_test (ev_neI (ev_lenT (ev_var (i := 0) rfl).rd) (ev_var (i := 1) rfl))) ?_)) ex_next) (ex_ret (ev_is (ev_all (bs := is.map fun _ => true) (EvN.rd ?_)) ?_))), fin_fr (ds := [.tup (is.map .int), .int (is.length : Int)])⟩
  · rw [List.length_map, decide_eq_true rfl]; rfl
  · have c : CompZ K (gName 2) tYes (e__law_is_integers_1 K Ri) [2] [2] (is.map .int) [.fr (.tup (is.map .int)), .fr (.int (is.length : Int)), .no] ((is.map fun _ => true).map .bl) [.fr (.tup (is.map .int)), .fr (.int (is.length : Int)), .no] := by
      rw [List.map_map]
      refine comp_mapA (K := K) (j := 2) D.int _ rfl is fun i _ => ?_
      obtain ⟨r, cs', hr, rfl, hv⟩ := hi _ ⟨.int i, rfl, rfl⟩
      obtain rfl := hv _ rfl
      exact ev_callF (ds := [.int i]) (ag_cons (ev_var rfl) ag_nil) hr
    exact en_lc (it_tup (ev_var rfl)) c (by decide) (by rw [List.length_map]; omega)
  · rw [all_true]
/-! ### _law_add, _law_a_fraction, _law_vector, _law_inner -/
theorem rel_add {Rf : Rel} (hf : CFr Rf) : CPlus (RelOf K [] (t__law_add K Rf) 2 2) := by
  intro p q hp hq b1 b2 b3 b4
  exact ⟨rfl, _, .inl (ex_ret (ev_callF (ds := [.int (p.1 * q.2 + q.1 * p.2), .int (p.2 * q.2)]) (ag_cons (ev_add (ev_mulW (ev_fr1 (p := p) (i := 0) rfl) (ev_fr2 (p := q) (i := 1) rfl) (mok b1 b4)) (ev_mulW (ev_fr1 (p := q) (i := 1) rfl) (ev_fr2 (p := p) (i := 0) rfl) (mok b3 b2))) (ag_cons (ev_mulW (ev_fr2 (p := p) (i := 0) rfl) (ev_fr2 (p := q) (i := 1) rfl) (mok b2 b4)) ag_nil)) (hf _ _ (Int.mul_ne_zero hp hq) (mbd b2 b4)))), fin_fr (ds := [frD p, frD q])⟩
theorem bd_of {n : Nat} {v : Int} (h1 : -1000000 ≤ v) (h2 : v ≤ 1000001) (hn : 20 ≤ n) : Bd n v := by
  have : Bd 20 v := by
    unfold Bd
    have e : (2 : Nat) ^ 20 = 1048576 := by decide
    rw [e]
    omega
  exact this.mono hn
def CAfr (R : Rel) : Prop := ∀ b : List D, GoodBox b → ∃ (p : Fra) (b' : List D), GoodBox b' ∧ FraOk 40 p ∧ R [.own b, .fr (.int 1000000)] (.fr (frD p)) [.own b', .fr (.int 1000000)]
theorem rel_afr {Rf Rn : Rel} (hf : CFr Rf) (hn : CNumb Rn) : CAfr (RelOf K [0] (t__law_a_fraction K Rf Rn) 2 2) := by
  intro b hb
  obtain ⟨v, b1, g1, l1, u1, r1⟩ := hn b 1000000 hb (by decide)
  obtain ⟨w, b2, g2, l2, u2, r2⟩ := hn b1 1000000 g1 (by decide)
  have hne : 1 + (w.natAbs : Int) ≠ 0 := by omega
  have hb2 : Bd 20 (1 + (w.natAbs : Int)) := bd_of (by omega) (by omega) (by decide)
  refine ⟨FR v (1 + (w.natAbs : Int)), b2, g2, ⟨FR_bd1 hne (bd_of l1 (by omega) (by decide)), FR_bd2 hne (hb2.mono (by decide)), FR_pos hne⟩, rfl, [.own b2, .fr (.int 1000000)], .inl (ex_ret (ev_callF (ds := [.int v, .int (1 + (w.natAbs : Int))]) (ag_cons (ρ1 := [.own b1, .fr (.int 1000000)]) (ev_callB (ds := [.int 1000000]) (i := 0) rfl (ag_cons (ev_var rfl) ag_nil) rfl r1) (ag_cons (ev_add ev_int (ev_abs (ev_callB (ds := [.int 1000000]) (i := 0) rfl (ag_cons (ev_var rfl) ag_nil) rfl r2))) ag_nil)) (hf _ _ hne (hb2.mono (by decide))))), fin_box (ds := [.int 1000000]) (by decide) rfl⟩
def CVec (R : Rel) : Prop := ∀ (b : List D) (m : Nat), GoodBox b → m ≤ 20 → ∃ (ps : List Fra) (b' : List D), GoodBox b' ∧ ps.length = m ∧ (∀ p ∈ ps, FraOk 40 p) ∧ R [.own b, .fr (.int (m : Int))] (.fr (vecD ps)) [.own b', .fr (.int (m : Int))]
theorem vec_loop {Ra Rd : Rel} (ha : CAfr Ra) (hd : Spec Rd PreDraw PostDraw) (M : Cell) (e : Bool) : ∀ (n m : Nat) (ps : List Fra) (b : List D) (av : Cell), GoodBox b → (∀ p ∈ ps, FraOk 40 p) → ps.length + n ≤ 20 → ∃ (ps' : List Fra) (b' : List D) (av' : Cell), GoodBox b' ∧ ps'.length = ps.length + n ∧ (∀ p ∈ ps', FraOk 40 p) ∧
    LoopZ K [0] (gName 4) (b__law_vector_1 K Ra Rd) [4] (rangeD (m : Int) n) [.own b, M, .fr (.bl e), .own (ps.map frD), av] (.nx [.own b', M, .fr (.bl e), .own (ps'.map frD), av'])
  | 0, m, ps, b, av, hb, hp, hl => ⟨ps, b, av, hb, rfl, hp, .nil⟩
  | n + 1, m, ps, b, av, hb, hp, hl => by
    rw [rangeD_cons]
    have key : ∃ (q : Fra) (b1 : List D), GoodBox b1 ∧ FraOk 40 q ∧ ExZ K [0] (b__law_vector_1 K Ra Rd) [.own b, M, .fr (.bl e), .own (ps.map frD), .fr (.int (m : Int))] (.nx [.own b1, M, .fr (.bl e), .own (ps.map frD ++ [frD q]), .fr (.int (m : Int))]) := by
      have hle : (ps.map frD).length < 100000 := by rw [List.length_map]; omega
      have app0 : ∀ b1 : List D, ExZ K [0] (tDrop (tBM K "list" rAppend (tVar 3) (tCons (tTup (tCons (tC (.int 0)) (tCons (tC (.int 1)) tNil))) tNil))) [.own b1, M, .fr (.bl e), .own (ps.map frD), .fr (.int (m : Int))] (.nx [.own b1, M, .fr (.bl e), .own (ps.map frD ++ [frD (0, 1)]), .fr (.int (m : Int))]) := fun b1 =>
        ex_app (i := 3) (ev_tup (ds := [.int 0, .int 1]) (ag_cons ev_int (ag_cons ev_int ag_nil)) (by decide)) rfl rfl hle
      cases e with
      | true => exact ⟨(0, 1), b, hb, fra0.mono (by decide), ex_ifT (ts_orT (ts_truthB (ev_var rfl))) (app0 b)⟩
      | false =>
        obtain ⟨v, b1, h0, h1, hb1, he⟩ := ev_draw (K := K) hd (i := 0) (ρ := [.own b, M, .fr (.bl false), .own (ps.map frD), .fr (.int (m : Int))]) rfl (ev_int (i := 3)) rfl hb (by decide)
        have ht := ts_test (ev_eqI he (ev_int (i := 0)))
        by_cases hv : v = 0
        · exact ⟨(0, 1), b1, hb1, fra0.mono (by decide), ex_ifT (ts_orF (ts_truthB (ev_var rfl)) (ts_is ht (decide_eq_true hv))) (app0 b1)⟩
        · obtain ⟨q, b2, hb2, hq, hr⟩ := ha b1 hb1
          have e6 : EvZ K (tOp rPowI (tC (.int 10)) (tC (.int 6))) [.own b1, M, .fr (.bl false), .own (ps.map frD), .fr (.int (m : Int))] [.own b1, M, .fr (.bl false), .own (ps.map frD), .fr (.int (m : Int))] (.int 1000000) := ev_is (ev_pow (ev_int (i := 10)) (ev_int (i := 6)) ⟨by decide, by decide, by decide⟩) (by
            have : (10 : Int) ^ (6 : Int).toNat = 1000000 := by decide
            rw [this])
          exact ⟨q, b2, hb2, hq, ex_ifF (ts_orF (ts_truthB (ev_var rfl)) (ts_is ht (decide_eq_false hv))) (ex_app (i := 3) (ev_callB (ds := [.int 1000000]) (i := 0) rfl (ag_cons e6 ag_nil) rfl hr) rfl rfl hle)⟩
    obtain ⟨q, b1, hb1, hq, hx⟩ := key
    obtain ⟨ps', b', av', g1, g2, g3, g4⟩ := vec_loop ha hd M e n (m + 1) (ps ++ [q]) b1 (.fr (.int (m : Int))) hb1 (fun p hp' => by
      rcases List.mem_append.mp hp' with z | z
      · exact hp p z
      · rcases List.mem_cons.mp z with rfl | z
        · exact hq
        · cases z) (by rw [List.length_append]; show ps.length + 1 + n ≤ 20; omega)
    refine ⟨ps', b', av', g1, by rw [g2, List.length_append]; show ps.length + 1 + n = _; omega, g3, .step tg_name hx ?_⟩
    rw [List.map_append] at g4
    exact g4
theorem rel_vec {Ra Rd : Rel} (ha : CAfr Ra) (hd : Spec Rd PreDraw PostDraw) : CVec (RelOf K [0] (t__law_vector K Ra Rd) 5 2) := by
  intro b m hb hm
  obtain ⟨v, b1, h0, h1, hb1, he⟩ := ev_draw (K := K) hd (i := 0) (ρ := [.own b, .fr (.int (m : Int)), .no, .no, .no]) rfl (ev_int (i := 5)) rfl hb (by decide)
  obtain ⟨ps, b2, av, g1, g2, g3, g4⟩ := vec_loop (K := K) ha hd (.fr (.int (m : Int))) (decide (v = 0)) m 0 [] b1 .no hb1 (fun p z => by cases z) (by show 0 + m ≤ 20; omega)
  have hl : ps.length = m := by rw [g2]; show 0 + m = m; omega
  refine ⟨ps, b2, g1, hl, g3, rfl, _, .inl (ex_seq (ex_set (i := 2) (ev_eqI he ev_int) (by decide)) (ex_seq (ex_setN (i := 3) (en_lst ag_nil (by decide)) OwnIn.refl (by decide)) (ex_seq (ex_for (it_range1 (n := (m : Int)) (ag_cons (ev_var rfl) ag_nil) ⟨by omega, by omega⟩) (by rw [Int.toNat_natCast]; exact g4) (by decide)) (ex_ret (ev_tupO (i := 3) (ds := ps.map frD) rfl))))), fin_box (ds := [.int (m : Int)]) (by decide) rfl⟩
theorem linner_loop {Ra Rf : Rel} (ha : CPlus Ra) (hf : CFr Rf) (ps qs : List Fra) (hl : ps.length = qs.length) (h1 : ∀ p ∈ ps, FraOk 40 p) (h2 : ∀ p ∈ qs, FraOk 40 p) : ∀ (n m : Nat) (t : Fra) (k : Nat) (av : Cell), m + n = ps.length → FraOk k t → k + 81 * n ≤ 1999 → ∃ av',
    LoopZ K [] (gName 3) (b__law_inner_1 K Ra Rf) [3] (rangeD (m : Int) n) [.fr (vecD ps), .fr (vecD qs), .fr (frD t), av] (.nx [.fr (vecD ps), .fr (vecD qs), .fr (frD (innerV t ((ps.zip qs).drop m))), av'])
  | 0, m, t, k, av, hm, ht, hk => ⟨av, by
    rw [List.drop_eq_nil_of_le (by rw [List.length_zip]; omega)]
    exact .nil⟩
  | n + 1, m, t, k, av, hm, ht, hk => by
    rw [rangeD_cons]
    have m1 : m < ps.length := by omega
    have m2 : m < qs.length := by omega
    have f1 := h1 _ (List.getElem_mem m1)
    have f2 := h2 _ (List.getElem_mem m2)
    have f3 := fTimes_ok f1 f2
    obtain ⟨av', lp⟩ := linner_loop ha hf ps qs hl h1 h2 n (m + 1) (fPlus t (fTimes ps[m] qs[m])) (k + (40 + 40) + 1) (.fr (.int (m : Int))) (by omega) (fPlus_ok ht f3) (by omega)
    have ed : (ps.zip qs).drop m = (ps[m], qs[m]) :: (ps.zip qs).drop (m + 1) := by
      rw [List.drop_eq_getElem_cons (by rw [List.length_zip]; omega), List.getElem_zip]
    rw [ed]
    have at1 : ∀ {ρ : Rho}, ρ[0]? = some (.fr (vecD ps)) → ρ[3]? = some (.fr (.int (m : Int))) → EvZ K (tOp (rIx K) (tVar 0) (tVar 3)) ρ ρ (frD ps[m]) := fun e1 e2 => ev_ixT (ev_var e1) (ev_var e2) (at_nat (j := m) (by rw [List.getElem?_map, List.getElem?_eq_getElem m1]; rfl))
    have at2 : ∀ {ρ : Rho}, ρ[1]? = some (.fr (vecD qs)) → ρ[3]? = some (.fr (.int (m : Int))) → EvZ K (tOp (rIx K) (tVar 1) (tVar 3)) ρ ρ (frD qs[m]) := fun e1 e2 => ev_ixT (ev_var e1) (ev_var e2) (at_nat (j := m) (by rw [List.getElem?_map, List.getElem?_eq_getElem m2]; rfl))
    have i1 : ∀ {ρ : Rho} {te : TE} {p : Fra}, EvZ K te ρ ρ (frD p) → EvZ K (tOp (rIx K) te (tC (.int 0))) ρ ρ (.int p.1) := fun h => ev_ixT h ev_int (by rfl)
    have i2 : ∀ {ρ : Rho} {te : TE} {p : Fra}, EvZ K te ρ ρ (frD p) → EvZ K (tOp (rIx K) te (tC (.int 1))) ρ ρ (.int p.2) := fun h => ev_ixT h ev_int (by rfl)
    exact ⟨av', .step tg_name (ex_set (i := 2) (ev_callF (ds := [frD t, frD (fTimes ps[m] qs[m])]) (ag_cons (ev_var rfl) (ag_cons (ev_callF (ds := [.int (ps[m].1 * qs[m].1), .int (ps[m].2 * qs[m].2)]) (ag_cons (ev_mulW (i1 (at1 rfl rfl)) (i1 (at2 rfl rfl)) (f1.1.mulOk f2.1 (by decide) (by decide) (by decide))) (ag_cons (ev_mulW (i2 (at1 rfl rfl)) (i2 (at2 rfl rfl)) (f1.2.1.mulOk f2.2.1 (by decide) (by decide) (by decide))) ag_nil)) (hf _ _ (Int.mul_ne_zero f1.ne f2.ne) ((f1.2.1.mul f2.2.1).mono (by decide)))) ag_nil)) (cplus ha (ht.mono (by omega)) (f3.mono (by decide)))) (by decide)) lp⟩
theorem rel_linner {Ra Rf : Rel} (ha : CPlus Ra) (hf : CFr Rf) : CInner (RelOf K [] (t__law_inner K Ra Rf) 4 2) := by
  intro ps qs hl hn h1 h2
  obtain ⟨av, lp⟩ := linner_loop (K := K) ha hf ps qs hl h1 h2 ps.length 0 (0, 1) 1 .no (by omega) fra0 (by omega)
  refine ⟨rfl, _, .inl (ex_seq (ex_set (i := 2) (d := frD (0, 1)) (ev_tup (ag_cons ev_int (ag_cons ev_int ag_nil)) (by decide)) (by decide)) (ex_seq (ex_for (it_range1 (n := ((ps.map frD).length : Int)) (ag_cons (ev_lenT (ev_var rfl).rd) ag_nil) ⟨by omega, by rw [List.length_map]; omega⟩) (by rw [List.length_map, Int.toNat_natCast]; exact lp) (by decide)) (ex_ret (ev_var rfl)))), fin_fr (ds := [vecD ps, vecD qs])⟩
/-! ### the law -/
def CBox (R : Rel) : Prop := ∀ (ns : List Int) (k : Nat), k ≤ 1000000 → ∃ b, GoodBox b ∧ R [.fr (.lst (ns.map .int)), .fr (.int (k : Int))] (.own b) [.fr (.lst (ns.map .int)), .fr (.int (k : Int))]
theorem box_of {Rb : Rel} (hb : Spec Rb PreBox PostBox) : CBox Rb := fun ns k hk => by
  obtain ⟨_, _, g1, rfl, b, hgb, rfl⟩ := hb _ ⟨ns, k, rfl, hk⟩
  exact ⟨b, hgb, g1⟩
def CSame (n : Nat) (R : Rel) : Prop := ∀ d : D, Plain n d → R [.fr d, .fr d] (.fr (.bl true)) [.fr d, .fr d]
theorem same_of {Rs : Rel} {n : Nat} (hs : Spec Rs (PreSame n) PostSame) : CSame n Rs := fun d hd => by
  obtain ⟨_, _, g1, rfl, rfl⟩ := hs _ ⟨d, rfl, hd⟩
  exact g1
theorem pl_fr (p : Fra) : Plain 2 (frD p) := .tup (fun d hd => by
  simp only [List.mem_cons, List.not_mem_nil, or_false] at hd
  rcases hd with rfl | rfl <;> exact .int _) (by show 2 ≤ 90000; decide)
theorem ex_check {Rs : Rel} {n : Nat} {ta tb : TE} {ρ : Rho} {d : D} (hs : CSame n Rs) (hd : Plain n d) (ha : EvZ K ta ρ ρ d) (hb : EvZ K tb ρ ρ d) : ExZ K [] (tIfS (tNot (tB (tCall (SpZ K Rs) [] E0 (tCons ta (tCons tb tNil))))) (tRet (tC (.bl false))) tNext) ρ (.nx ρ) :=
  ex_ifF (ts_is (ts_not (b := true) (ts_B (ev_callF (ds := [d, d]) (ag_cons ha (ag_cons hb ag_nil)) (hs d hd)))) rfl) ex_next
section
variable {Rb Rd Rg Rli Rii Rs Rv Ri Rp : Rel}
variable {ps : List Fra} (h : VecOk ps)
theorem at_one {ρ : Rho} {i k : Nat} {p : Fra} (hp : ps[k]? = some p) (e1 : ρ[3]? = some (.fr (vecD ps))) (e2 : ρ[i]? = some (.fr (.int (k : Int)))) : EvZ K (tOp (rIx K) (tVar 3) (tVar i)) ρ ρ (frD p) := ev_ixT (ev_var e1) (ev_var e2) (at_nat (j := k) (by rw [List.getElem?_map, hp]; rfl))
theorem at_f {ρ : Rho} {i k : Nat} {x : Int} (hx : (priV ps)[k]? = some x) (e1 : ρ[5]? = some (.fr (.tup ((priV ps).map .int)))) (e2 : ρ[i]? = some (.fr (.int (k : Int)))) : EvZ K (tOp (rIx K) (tVar 5) (tVar i)) ρ ρ (.int x) := ev_ixT (ev_var e1) (ev_var e2) (at_nat (j := k) (by rw [List.getElem?_map, hx]; rfl))
theorem f1 {ρ : Rho} {te : TE} {p : Fra} (h : EvZ K te ρ ρ (frD p)) : EvZ K (tOp (rIx K) te (tC (.int 0))) ρ ρ (.int p.1) := ev_ixT h ev_int (by rfl)
theorem f2 {ρ : Rho} {te : TE} {p : Fra} (h : EvZ K te ρ ρ (frD p)) : EvZ K (tOp (rIx K) te (tC (.int 1))) ρ ρ (.int p.2) := ev_ixT h ev_int (by rfl)
def rr (c0 c1 c2 c4 c6 c7 c8 c9 : Cell) (ps : List Fra) : Rho := [c0, c1, c2, .fr (vecD ps), c4, .fr (.tup ((priV ps).map .int)), c6, c7, c8, c9]
include h in
theorem in_loop (c0 c1 c2 c4 c6 c9 : Cell) {k : Nat} {p : Fra} (hk : ps[k]? = some p) : ∀ (n m : Nat) (ov : Cell), m + n = ps.length → ∃ ov', LoopZ K [] (gName 8) (b_law_2 K Rb Rd Rg Rli Rii Rs Rv Ri Rp) [8] (rangeD (m : Int) n) (rr c0 c1 c2 c4 c6 (.fr (.int (k : Int))) ov c9 ps) (.nx (rr c0 c1 c2 c4 c6 (.fr (.int (k : Int))) ov' c9 ps))
  | 0, m, ov, _ => ⟨ov, .nil⟩
  | n + 1, m, ov, hm => by
    rw [rangeD_cons]
    obtain ⟨ov', lp⟩ := in_loop c0 c1 c2 c4 c6 c9 hk n (m + 1) (.fr (.int (m : Int))) (by omega)
    have hmp : m < ps.length := by omega
    have hq := List.getElem?_eq_getElem hmp
    obtain ⟨x, q, gx, hq1, hq2, hx⟩ := priV_get h hk
    obtain ⟨y, r, gy, hr1, hr2, hy⟩ := priV_get h hq
    have bx := priV_bd h x (List.mem_of_getElem? gx)
    have by' := priV_bd h y (List.mem_of_getElem? gy)
    have op := h.2 p (List.mem_of_getElem? hk)
    have oq := h.2 _ (List.mem_of_getElem? hq)
    have ec := cross (by omega) hx hy hq2 hr2
    refine ⟨ov', .step tg_name (ex_ifF (ts_is (ts_test (ev_neI (ev_mulW (ev_mulW (at_f gx rfl rfl) (f1 (at_one hq rfl rfl)) (bx.mulOk oq.1 (by decide) (by decide) (by decide))) (f2 (at_one hk rfl rfl)) ((bx.mul oq.1).mulOk op.2.1 (by decide) (by decide) (by decide))) (ev_mulW (ev_mulW (at_f gy rfl rfl) (f1 (at_one hk rfl rfl)) (by'.mulOk op.1 (by decide) (by decide) (by decide))) (f2 (at_one hq rfl rfl)) ((by'.mul op.1).mulOk oq.2.1 (by decide) (by decide) (by decide))))) ?_) ex_next) lp⟩
    rw [decide_eq_true ec]
    rfl
include h in
theorem out_loop (hg : CGcd Rg) (c0 c1 c4 c9 : Cell) : ∀ (n m : Nat) (d : Int) (av ov : Cell), m + n = ps.length → ∃ av' ov', LoopZ K [] (gName 7) (b_law_3 K Rb Rd Rg Rli Rii Rs Rv Ri Rp) [7] (rangeD (m : Int) n) (rr c0 c1 (.fr (.int (ps.length : Int))) c4 (.fr (.int d)) av ov c9 ps) (.nx (rr c0 c1 (.fr (.int (ps.length : Int))) c4 (.fr (.int (gcdL d ((priV ps).drop m)))) av' ov' c9 ps))
  | 0, m, d, av, ov, hm => ⟨av, ov, by
    rw [List.drop_eq_nil_of_le (by rw [priV_len]; omega)]
    exact .nil⟩
  | n + 1, m, d, av, ov, hm => by
    rw [rangeD_cons]
    have hmp : m < ps.length := by omega
    have hk := List.getElem?_eq_getElem hmp
    obtain ⟨x, q, gx, hq1, hq2, hx⟩ := priV_get h hk
    obtain ⟨z1, z2⟩ := mul_pos_zero hx (by omega) hq1
    have bx := priV_bd h x (List.mem_of_getElem? gx)
    have op := h.2 _ (List.mem_of_getElem? hk)
    obtain ⟨ov1, lp1⟩ := in_loop (K := K) (Rb := Rb) (Rd := Rd) (Rg := Rg) (Rli := Rli) (Rii := Rii) (Rs := Rs) (Rv := Rv) (Ri := Ri) (Rp := Rp) h c0 c1 (.fr (.int (ps.length : Int))) c4 (.fr (.int (gcI d x))) c9 hk ps.length 0 ov (by omega)
    obtain ⟨av', ov', lp⟩ := out_loop hg c0 c1 c4 c9 n (m + 1) (gcI d x) (.fr (.int (m : Int))) ov1 (by omega)
    have ed : (priV ps).drop m = x :: (priV ps).drop (m + 1) := by
      obtain ⟨hlt, e⟩ := List.getElem?_eq_some_iff.mp gx
      rw [List.drop_eq_getElem_cons hlt, e]
    rw [ed]
    have t1 : TsZ K (tTest (tOp rNe (tOp rEq (tOp (rIx K) (tVar 5) (tVar 7)) (tC (.int 0))) (tOp rEq (tOp (rIx K) (tOp (rIx K) (tVar 3) (tVar 7)) (tC (.int 0))) (tC (.int 0))))) (rr c0 c1 (.fr (.int (ps.length : Int))) c4 (.fr (.int (gcI d x))) (.fr (.int (m : Int))) ov c9 ps) (rr c0 c1 (.fr (.int (ps.length : Int))) c4 (.fr (.int (gcI d x))) (.fr (.int (m : Int))) ov c9 ps) false := by
      refine ts_is (ts_test (ev_neB (ev_eqI (at_f gx rfl rfl) ev_int) (ev_eqI (f1 (at_one hk rfl rfl)) ev_int))) ?_
      by_cases z : x = 0
      · rw [decide_eq_true z, decide_eq_true (z1.mp z)]; rfl
      · rw [decide_eq_false z, decide_eq_false (fun y => z (z1.mpr y))]; rfl
    have t2 : TsZ K (tTest (tOp rLtI (tOp rMulW (tOp (rIx K) (tVar 5) (tVar 7)) (tOp (rIx K) (tOp (rIx K) (tVar 3) (tVar 7)) (tC (.int 0)))) (tC (.int 0)))) (rr c0 c1 (.fr (.int (ps.length : Int))) c4 (.fr (.int (gcI d x))) (.fr (.int (m : Int))) ov c9 ps) (rr c0 c1 (.fr (.int (ps.length : Int))) c4 (.fr (.int (gcI d x))) (.fr (.int (m : Int))) ov c9 ps) false := by
      refine ts_is (ts_test (ev_lt (ev_mulW (at_f gx rfl rfl) (f1 (at_one hk rfl rfl)) (bx.mulOk op.1 (by decide) (by decide) (by decide))) ev_int)) ?_
      exact decide_eq_false (by omega)
    exact ⟨av', ov', .step tg_name (ex_seq (ex_set (i := 6) (ev_callF (ds := [.int d, .int x]) (ag_cons (ev_var rfl) (ag_cons (at_f gx rfl rfl) ag_nil)) (hg d x)) (by decide)) (ex_seq (ex_ifF (ts_orF t1 t2) ex_next) (ex_for (it_range1 (n := (ps.length : Int)) (ag_cons (ev_var rfl) ag_nil) ⟨by omega, by have := h.1; omega⟩) (by rw [Int.toNat_natCast]; exact lp1) (by decide)))) lp⟩
end
section
variable {Rb Rd Rg Rli Rii Rs Rv Ri Rp : Rel} (hb : CBox Rb) (hd : Spec Rd PreDraw PostDraw) (hg : CGcd Rg) (hli : CInner Rli) (hii : CInts Rii) (hs : CSame 2 Rs) (hv : CVec Rv) (hi : CInner Ri) (hp : CPri Rp)
include hb hd hg hli hii hs hv hi hp in
theorem sem_law (ns : List Int) : RelOf K [] (t_law K Rb Rd Rg Rli Rii Rs Rv Ri Rp) 10 1 [.fr (.lst (ns.map .int))] (.fr (.bl true)) [.fr (.lst (ns.map .int))] := by
  refine ⟨rfl, ?_⟩
  obtain ⟨b, gb, eb⟩ := hb ns 0 (by decide)
  obtain ⟨v, b', v0, v1, gb', ev⟩ := ev_draw (K := K) hd (i := 1) (ρ := [.fr (.lst (ns.map .int)), .own b, .no, .no, .no, .no, .no, .no, .no, .no]) rfl (ev_int (i := 8)) rfl gb (by decide)
  obtain ⟨m, hm⟩ : ∃ m : Nat, (1 + v) = (m : Int) := ⟨(1 + v).toNat, by omega⟩
  obtain ⟨b1, gb1, eb1⟩ := hb ns 1 (by decide)
  obtain ⟨b2, gb2, eb2⟩ := hb ns 2 (by decide)
  obtain ⟨ps, b1', _, l1, o1, r1⟩ := hv b1 m gb1 (by omega)
  obtain ⟨qs, b2', _, l2, o2, r2⟩ := hv b2 m gb2 (by omega)
  have h : VecOk ps := ⟨by omega, o1⟩
  have ci := hi ps qs (by omega) (by omega) o1 o2
  have cl := hli ps qs (by omega) (by omega) o1 o2
  obtain ⟨av, ov, lp⟩ := out_loop (K := K) (Rb := Rb) (Rd := Rd) (Rg := Rg) (Rli := Rli) (Rii := Rii) (Rs := Rs) (Rv := Rv) (Ri := Ri) (Rp := Rp) h hg (.fr (.lst (ns.map .int))) (.own b') (.fr (vecD qs)) .no ps.length 0 0 .no .no (by omega)
  have hci := hii (priV ps) (by rw [priV_len]; omega)
  rw [priV_len] at hci
  have el : (m : Int) = (ps.length : Int) := by omega
  refine ⟨rr (.fr (.lst (ns.map .int))) (.own b') (.fr (.int (ps.length : Int))) (.fr (vecD qs)) (.fr (.int (gcdL 0 (priV ps)))) av ov .no ps, .inl ?_, fin_fr (ds := [.lst (ns.map .int)])⟩
  refine ex_seq (ex_setN (i := 1) (en_callF (ds := [.lst (ns.map .int), .int ((0 : Nat) : Int)]) (ag_cons (ev_var rfl) (ag_cons ev_int ag_nil)) eb) OwnIn.refl (by decide)) ?_
  refine ex_seq (ex_set (i := 2) (ev_is (ev_add ev_int ev) (e := .int (ps.length : Int)) (by rw [hm, el])) (by decide)) ?_
  rw [el] at r1 r2
  refine ex_seq (ex_set (i := 3) (d := vecD ps) (ev_callBNs (ds := [.int (ps.length : Int)]) (en_callF (ds := [.lst (ns.map .int), .int ((1 : Nat) : Int)]) (ag_cons (ev_var rfl) (ag_cons ev_int ag_nil)) eb1) OwnIn.refl (ag_cons (ev_var (i := 2) rfl) ag_nil) OwnIn.refl r1) (by decide)) ?_
  refine ex_seq (ex_set (i := 4) (d := vecD qs) (ev_callBNs (ds := [.int (ps.length : Int)]) (en_callF (ds := [.lst (ns.map .int), .int ((2 : Nat) : Int)]) (ag_cons (ev_var rfl) (ag_cons ev_int ag_nil)) eb2) OwnIn.refl (ag_cons (ev_var (i := 2) rfl) ag_nil) OwnIn.refl r2) (by decide)) ?_
  refine ex_seq (ex_check hs (pl_fr _) (ev_callF (ds := [vecD ps, vecD qs]) (ag_cons (ev_var rfl) (ag_cons (ev_var rfl) ag_nil)) ci) (ev_callF (ds := [vecD ps, vecD qs]) (ag_cons (ev_var rfl) (ag_cons (ev_var rfl) ag_nil)) cl)) ?_
  refine ex_seq (ex_set (i := 5) (ev_callF (ds := [vecD ps]) (ag_cons (ev_var rfl) ag_nil) (hp ps h)) (by decide)) ?_
  refine ex_seq (ex_ifF (ts_is (ts_not (b := true) (ts_B (ev_callF (ds := [.tup ((priV ps).map .int), .int (ps.length : Int)]) (ag_cons (ev_var rfl) (ag_cons (ev_var rfl) ag_nil)) hci))) rfl) ex_next) ?_
  refine ex_seq (ex_set (i := 6) ev_int (by decide)) ?_
  refine ex_seq (ex_for (it_range1 (n := (ps.length : Int)) (ag_cons (ev_var (i := 2) rfl) ag_nil) ⟨by omega, by omega⟩) (by rw [Int.toNat_natCast]; exact lp) (by decide)) ?_
  refine ex_ret (ev_is (ev_orV (c := true) (ev_eqI (ev_var (i := 6) rfl) ev_int) fun hne => ?_) (by rw [Bool.or_true]))
  have hz : ∀ p ∈ ps, p.1 = 0 := by
    rcases pri_one h with z | z
    · rw [show gcdL 0 ((priV ps).drop 0) = 1 from z] at hne
      exact absurd hne (by decide)
    · exact z
  refine ev_is (ev_all (bs := ps.map fun _ => true) (EvN.rd (en_lc (it_tup (ev_var (i := 3) rfl)) (ρ' := rr (.fr (.lst (ns.map .int))) (.own b') (.fr (.int (ps.length : Int))) (.fr (vecD qs)) (.fr (.int (gcdL 0 (priV ps)))) av ov .no ps) ?_ (A := [9]) (by decide) (by rw [List.length_map]; omega)))) (by rw [all_true])
  rw [List.map_map]
  refine comp_mapA (K := K) (j := 9) frD _ rfl ps fun p hp' => ?_
  refine ev_is (ev_eqI (f1 (ev_var (i := 9) rfl)) ev_int) (by rw [decide_eq_true (hz p hp')]; rfl)
end
end
end K21
end Z

set_option Elab.async false
set_option linter.all false
set_option maxRecDepth 100000
set_option maxHeartbeats 4000000
namespace Z
open PySem PySem.Spec PyProof.Rows L2
def topS (i : Nat) : Stmt := PySem.Challenge.pw_cubesums_k21_primitive_vectors.main.body.getD i (.Pass ⟨0, 0, 0, 0⟩)
abbrev s_fraction : Stmt := topS 3
theorem sc_fraction : FnScope ["top", "bottom", "common"] ["top", "bottom"] (defScope s_fraction) := ⟨rfl, rfl, rfl, by decide +kernel, rfl, by decide +kernel, by decide +kernel⟩
abbrev s_plus : Stmt := topS 4
theorem sc_plus : FnScope ["one", "two"] ["one", "two"] (defScope s_plus) := ⟨rfl, rfl, rfl, by decide +kernel, rfl, by decide +kernel, by decide +kernel⟩
abbrev s_times : Stmt := topS 5
theorem sc_times : FnScope ["one", "two"] ["one", "two"] (defScope s_times) := ⟨rfl, rfl, rfl, by decide +kernel, rfl, by decide +kernel, by decide +kernel⟩
abbrev s_inner : Stmt := topS 6
theorem sc_inner : FnScope ["first", "second", "total", "one", "two"] ["first", "second"] (defScope s_inner) := ⟨rfl, rfl, rfl, by decide +kernel, rfl, by decide +kernel, by decide +kernel⟩
abbrev s_primitive : Stmt := topS 7
theorem sc_primitive : FnScope ["vector", "bottom", "_", "part", "integers", "common", "integer", "top"] ["vector"] (defScope s_primitive) := ⟨rfl, rfl, rfl, by decide +kernel, rfl, by decide +kernel, by decide +kernel⟩
abbrev s__law_cell : Stmt := topS 9
theorem sc__law_cell : FnScope ["script", "k"] ["script", "k"] (defScope s__law_cell) := ⟨rfl, rfl, rfl, by decide +kernel, rfl, by decide +kernel, by decide +kernel⟩
abbrev s__law_digits : Stmt := topS 10
theorem sc__law_digits : FnScope ["cell", "at", "digits", "turn", "seed"] ["cell", "at"] (defScope s__law_digits) := ⟨rfl, rfl, rfl, by decide +kernel, rfl, by decide +kernel, by decide +kernel⟩
abbrev s__law_box : Stmt := topS 11
theorem sc__law_box : FnScope ["script", "at"] ["script", "at"] (defScope s__law_box) := ⟨rfl, rfl, rfl, by decide +kernel, rfl, by decide +kernel, by decide +kernel⟩
abbrev s__law_draw : Stmt := topS 12
theorem sc__law_draw : FnScope ["box", "many", "at"] ["box", "many"] (defScope s__law_draw) := ⟨rfl, rfl, rfl, by decide +kernel, rfl, by decide +kernel, by decide +kernel⟩
abbrev s__law_number : Stmt := topS 13
theorem sc__law_number : FnScope ["box", "most", "found", "turn"] ["box", "most"] (defScope s__law_number) := ⟨rfl, rfl, rfl, by decide +kernel, rfl, by decide +kernel, by decide +kernel⟩
abbrev s__law_gcd : Stmt := topS 14
theorem sc__law_gcd : FnScope ["one", "two", "rest"] ["one", "two"] (defScope s__law_gcd) := ⟨rfl, rfl, rfl, by decide +kernel, rfl, by decide +kernel, by decide +kernel⟩
abbrev s__law_is_integer : Stmt := topS 15
theorem sc__law_is_integer : FnScope ["actual"] ["actual"] (defScope s__law_is_integer) := ⟨rfl, rfl, rfl, by decide +kernel, rfl, by decide +kernel, by decide +kernel⟩
abbrev s__law_is_integers : Stmt := topS 16
theorem sc__law_is_integers : FnScope ["actual", "many", "part"] ["actual", "many"] (defScope s__law_is_integers) := ⟨rfl, rfl, rfl, by decide +kernel, rfl, by decide +kernel, by decide +kernel⟩
abbrev s__law_same : Stmt := topS 17
theorem sc__law_same : FnScope ["actual", "due", "at"] ["actual", "due"] (defScope s__law_same) := ⟨rfl, rfl, rfl, by decide +kernel, rfl, by decide +kernel, by decide +kernel⟩
abbrev s__law_fraction : Stmt := topS 18
theorem sc__law_fraction : FnScope ["top", "bottom", "divisor"] ["top", "bottom"] (defScope s__law_fraction) := ⟨rfl, rfl, rfl, by decide +kernel, rfl, by decide +kernel, by decide +kernel⟩
abbrev s__law_add : Stmt := topS 19
theorem sc__law_add : FnScope ["one", "two"] ["one", "two"] (defScope s__law_add) := ⟨rfl, rfl, rfl, by decide +kernel, rfl, by decide +kernel, by decide +kernel⟩
abbrev s__law_a_fraction : Stmt := topS 20
theorem sc__law_a_fraction : FnScope ["box", "most"] ["box", "most"] (defScope s__law_a_fraction) := ⟨rfl, rfl, rfl, by decide +kernel, rfl, by decide +kernel, by decide +kernel⟩
abbrev s__law_vector : Stmt := topS 21
theorem sc__law_vector : FnScope ["box", "many", "empty", "found", "at"] ["box", "many"] (defScope s__law_vector) := ⟨rfl, rfl, rfl, by decide +kernel, rfl, by decide +kernel, by decide +kernel⟩
abbrev s__law_inner : Stmt := topS 22
theorem sc__law_inner : FnScope ["one", "two", "found", "at"] ["one", "two"] (defScope s__law_inner) := ⟨rfl, rfl, rfl, by decide +kernel, rfl, by decide +kernel, by decide +kernel⟩
abbrev s_law : Stmt := topS 23
theorem sc_law : FnScope ["script", "box", "many", "one", "two", "found", "divisor", "at", "other", "part"] ["script"] (defScope s_law) := ⟨rfl, rfl, rfl, by decide +kernel, rfl, by decide +kernel, by decide +kernel⟩
structure Top (K : PySem.W.Frag) (mg : Str → Option Value) (c_ZERO : V) : Prop where
  n_abs : mg "abs" = none
  n_all : mg "all" = none
  n_bool : mg "bool" = none
  n_gcd : mg "gcd" = some (.builtin "math.gcd")
  n_int : mg "int" = none
  n_isinstance : mg "isinstance" = none
  n_lcm : mg "lcm" = some (.builtin "math.lcm")
  n_len : mg "len" = none
  n_max : mg "max" = none
  n_range : mg "range" = none
  n_str : mg "str" = none
  n_tuple : mg "tuple" = none
  n_zip : mg "zip" = none
  c_ZERO : ∃ u, mg "ZERO" = some u ∧ RelV c_ZERO u
  f_fraction : ∃ (f : Addr) (fd : FuncData), Fun K "fraction" "fraction" s_fraction f fd ∧ mg "fraction" = some (.ref f)
  f_plus : ∃ (f : Addr) (fd : FuncData), Fun K "plus" "plus" s_plus f fd ∧ mg "plus" = some (.ref f)
  f_times : ∃ (f : Addr) (fd : FuncData), Fun K "times" "times" s_times f fd ∧ mg "times" = some (.ref f)
  f_inner : ∃ (f : Addr) (fd : FuncData), Fun K "inner" "inner" s_inner f fd ∧ mg "inner" = some (.ref f)
  f_primitive : ∃ (f : Addr) (fd : FuncData), Fun K "primitive" "primitive" s_primitive f fd ∧ mg "primitive" = some (.ref f)
  f__law_cell : ∃ (f : Addr) (fd : FuncData), Fun K "_law_cell" "_law_cell" s__law_cell f fd ∧ mg "_law_cell" = some (.ref f)
  f__law_digits : ∃ (f : Addr) (fd : FuncData), Fun K "_law_digits" "_law_digits" s__law_digits f fd ∧ mg "_law_digits" = some (.ref f)
  f__law_box : ∃ (f : Addr) (fd : FuncData), Fun K "_law_box" "_law_box" s__law_box f fd ∧ mg "_law_box" = some (.ref f)
  f__law_draw : ∃ (f : Addr) (fd : FuncData), Fun K "_law_draw" "_law_draw" s__law_draw f fd ∧ mg "_law_draw" = some (.ref f)
  f__law_number : ∃ (f : Addr) (fd : FuncData), Fun K "_law_number" "_law_number" s__law_number f fd ∧ mg "_law_number" = some (.ref f)
  f__law_gcd : ∃ (f : Addr) (fd : FuncData), Fun K "_law_gcd" "_law_gcd" s__law_gcd f fd ∧ mg "_law_gcd" = some (.ref f)
  f__law_is_integer : ∃ (f : Addr) (fd : FuncData), Fun K "_law_is_integer" "_law_is_integer" s__law_is_integer f fd ∧ mg "_law_is_integer" = some (.ref f)
  f__law_is_integers : ∃ (f : Addr) (fd : FuncData), Fun K "_law_is_integers" "_law_is_integers" s__law_is_integers f fd ∧ mg "_law_is_integers" = some (.ref f)
  f__law_same : ∃ (f : Addr) (fd : FuncData), Fun K "_law_same" "_law_same" s__law_same f fd ∧ mg "_law_same" = some (.ref f)
  f__law_fraction : ∃ (f : Addr) (fd : FuncData), Fun K "_law_fraction" "_law_fraction" s__law_fraction f fd ∧ mg "_law_fraction" = some (.ref f)
  f__law_add : ∃ (f : Addr) (fd : FuncData), Fun K "_law_add" "_law_add" s__law_add f fd ∧ mg "_law_add" = some (.ref f)
  f__law_a_fraction : ∃ (f : Addr) (fd : FuncData), Fun K "_law_a_fraction" "_law_a_fraction" s__law_a_fraction f fd ∧ mg "_law_a_fraction" = some (.ref f)
  f__law_vector : ∃ (f : Addr) (fd : FuncData), Fun K "_law_vector" "_law_vector" s__law_vector f fd ∧ mg "_law_vector" = some (.ref f)
  f__law_inner : ∃ (f : Addr) (fd : FuncData), Fun K "_law_inner" "_law_inner" s__law_inner f fd ∧ mg "_law_inner" = some (.ref f)
  f_law : ∃ (f : Addr) (fd : FuncData), Fun K "law" "law" s_law f fd ∧ mg "law" = some (.ref f)
section
variable {P : Program} {w : World} {K : PySem.W.Frag} {mg : Str → Option Value} {base : Heap} {c_ZERO : V}
theorem ok_fraction (T : Top K mg c_ZERO) : Zdef P w K mg base 1 "fraction" ["top", "bottom"] (RelOf K [] (t_fraction K) 3 2) := by
  obtain ⟨f, fd, F, hm⟩ := T.f_fraction
  exact def_z F hm sc_fraction rfl rfl (F.binds fun _ _ _ _ _ _ us hl => match us, hl with | [_, _], _ => rfl) fun cdv A outer s H E hr =>
    (pss_cons (ps_set (i := 2) sc_fraction.nd rfl (Or.inl rfl) (pe_callBfun cr_gcd (by rfl) T.n_gcd (pa_cons (pv 0) (pa_cons (pv 1) pa_nil))))
      (pss_cons (ps_if (pt_cmpR op_lt (pv 1) pe_int (nomark _)) (pss_one (ps_set (i := 2) sc_fraction.nd rfl (Or.inl rfl) (pe_un un_neg (pv 2)))) pss_nil)
      (pss_one (ps_ret (pe_tup (pa_cons (pe_op op_fdivZ (pv 0) (pv 2)) (pa_cons (pe_op op_fdivZ (pv 1) (pv 2)) pa_nil)))))))
theorem ok_plus (T : Top K mg c_ZERO) {R_fraction : Rel} (g_fraction : Zdef P w K mg base 1 "fraction" ["top", "bottom"] R_fraction) : Zdef P w K mg base 2 "plus" ["one", "two"] (RelOf K [] (t_plus K R_fraction) 2 2) := by
  obtain ⟨f, fd, F, hm⟩ := T.f_plus
  exact def_z F hm sc_plus rfl rfl (F.binds fun _ _ _ _ _ _ us hl => match us, hl with | [_, _], _ => rfl) fun cdv A outer s H E hr =>
    (pss_one (ps_ret (pe_callZ g_fraction hr (by omega) (by rfl) (pa_cons (pe_op op_add (pe_op op_mulW (pe_ix ix_seq (pv 0) pe_int (fun _ _ => rfl)) (pe_ix ix_seq (pv 1) pe_int (fun _ _ => rfl))) (pe_op op_mulW (pe_ix ix_seq (pv 1) pe_int (fun _ _ => rfl)) (pe_ix ix_seq (pv 0) pe_int (fun _ _ => rfl)))) (pa_cons (pe_op op_mulW (pe_ix ix_seq (pv 0) pe_int (fun _ _ => rfl)) (pe_ix ix_seq (pv 1) pe_int (fun _ _ => rfl))) pa_nil)))))
theorem ok_times (T : Top K mg c_ZERO) {R_fraction : Rel} (g_fraction : Zdef P w K mg base 1 "fraction" ["top", "bottom"] R_fraction) : Zdef P w K mg base 2 "times" ["one", "two"] (RelOf K [] (t_times K R_fraction) 2 2) := by
  obtain ⟨f, fd, F, hm⟩ := T.f_times
  exact def_z F hm sc_times rfl rfl (F.binds fun _ _ _ _ _ _ us hl => match us, hl with | [_, _], _ => rfl) fun cdv A outer s H E hr =>
    (pss_one (ps_ret (pe_callZ g_fraction hr (by omega) (by rfl) (pa_cons (pe_op op_mulW (pe_ix ix_seq (pv 0) pe_int (fun _ _ => rfl)) (pe_ix ix_seq (pv 1) pe_int (fun _ _ => rfl))) (pa_cons (pe_op op_mulW (pe_ix ix_seq (pv 0) pe_int (fun _ _ => rfl)) (pe_ix ix_seq (pv 1) pe_int (fun _ _ => rfl))) pa_nil)))))
theorem ok_inner (T : Top K mg c_ZERO) {R_plus : Rel} (g_plus : Zdef P w K mg base 2 "plus" ["one", "two"] R_plus) {R_times : Rel} (g_times : Zdef P w K mg base 2 "times" ["one", "two"] R_times) : Zdef P w K mg base 3 "inner" ["first", "second"] (RelOf K [] (t_inner K R_plus R_times c_ZERO) 5 2) := by
  obtain ⟨f, fd, F, hm⟩ := T.f_inner
  exact def_z F hm sc_inner rfl rfl (F.binds fun _ _ _ _ _ _ us hl => match us, hl with | [_, _], _ => rfl) fun cdv A outer s H E hr =>
    (pss_cons (ps_set (i := 2) sc_inner.nd rfl (Or.inl rfl) (pe_glob (by rfl) (T.c_ZERO).choose_spec.1 (T.c_ZERO).choose_spec.2))
      (pss_cons (ps_for PassesOwn.never rfl (RZ.pi_zipA (by rfl) T.n_zip (pa_cons (pv 0) (pa_cons (pv 1) pa_nil))) (pg_tup rfl (pgs_cons (pg_name (i := 3) sc_inner.nd rfl (Or.inl rfl)) (pgs_cons (pg_name (i := 4) sc_inner.nd rfl (Or.inl rfl)) pgs_nil))) (pss_one (ps_set (i := 2) sc_inner.nd rfl (Or.inl rfl) (pe_callZ g_plus hr (by omega) (by rfl) (pa_cons (pv 2) (pa_cons (pe_callZ g_times hr (by omega) (by rfl) (pa_cons (pv 3) (pa_cons (pv 4) pa_nil))) pa_nil))))))
      (pss_one (ps_ret (pv 2)))))
theorem ok_primitive (T : Top K mg c_ZERO) : Zdef P w K mg base 1 "primitive" ["vector"] (RelOf K [] (t_primitive K) 8 1) := by
  obtain ⟨f, fd, F, hm⟩ := T.f_primitive
  exact def_z F hm sc_primitive rfl rfl (F.binds fun _ _ _ _ _ _ us hl => match us, hl with | [_], _ => rfl) fun cdv A outer s H E hr =>
    (pss_cons (ps_set (i := 1) sc_primitive.nd rfl (Or.inr rfl) pe_int)
      (pss_cons (ps_for PassesOwn.never rfl (pi_tup (pv 0)) (pg_tup rfl (pgs_cons (pg_name (i := 2) sc_primitive.nd rfl (Or.inl rfl)) (pgs_cons (pg_name (i := 3) sc_primitive.nd rfl (Or.inl rfl)) pgs_nil))) (pss_one (ps_set (i := 1) sc_primitive.nd rfl (Or.inr rfl) (pe_callBfun cr_lcm (by rfl) T.n_lcm (pa_cons (pv 1) (pa_cons (pv 3) pa_nil))))))
      (pss_cons (ps_setLc (i := 4) (own := [("top", 7), ("part", 3)]) (g := (gTup K 2 (gCons (gName 7) (gCons (gName 3) gNil)))) (tt := tYes) rfl sc_primitive.nd rfl rfl (sw_true rfl rfl rfl (by decide +kernel)) (pi_tup (pv 0)) (blkOk_by (N := ["vector", "bottom", "_", "part", "integers", "common", "integer", "top"]) (sc := defScope s_primitive) (by decide +kernel)) (fun _ _ _ _ _ => (pg_tup rfl (pgs_cons (pg_name (i := 7) sc_primitive.nd rfl (Or.inl rfl)) (pgs_cons (pg_name (i := 3) sc_primitive.nd rfl (Or.inl rfl)) pgs_nil)))) (fun _ _ _ _ _ => pts_nil) (fun _ _ _ _ _ => (pe_op op_mulW (pv 7) (pe_op op_fdivZ (pv 1) (pv 3)))))
      (pss_cons (ps_set (i := 5) sc_primitive.nd rfl (Or.inr rfl) pe_int)
      (pss_cons (ps_for PassesOwn.never rfl (pi_list (pv 4)) (pg_name (i := 6) sc_primitive.nd rfl (Or.inl rfl)) (pss_one (ps_set (i := 5) sc_primitive.nd rfl (Or.inr rfl) (pe_callBfun cr_gcd (by rfl) T.n_gcd (pa_cons (pv 5) (pa_cons (pv 6) pa_nil))))))
      (pss_one (ps_ret (pe_callTy call_tuple_of (by rfl) T.n_tuple (by decide +kernel) (pa_cons (pe_lc (own := [("integer", 6)]) (g := (gName 6)) (tt := tYes) rfl sc_primitive.nd (pi_list (pv 4)) (blkOk_by (N := ["vector", "bottom", "_", "part", "integers", "common", "integer", "top"]) (sc := defScope s_primitive) (by decide +kernel)) (fun _ _ _ _ _ => (pg_name (i := 6) sc_primitive.nd rfl (Or.inl rfl))) (fun _ _ _ _ _ => pts_nil) (fun _ _ _ _ _ => (pe_op op_fdivZ (pv 6) (pe_callB (call_max2 rfl) (by rfl) T.n_max (by decide +kernel) (pa_cons (pv 5) (pa_cons pe_int pa_nil)))))) pa_nil)))))))))
theorem ok__law_cell (T : Top K mg c_ZERO) : Zdef P w K mg base 1 "_law_cell" ["script", "k"] (RelOf K [] (t__law_cell K) 2 2) := by
  obtain ⟨f, fd, F, hm⟩ := T.f__law_cell
  exact def_z F hm sc__law_cell rfl rfl (F.binds fun _ _ _ _ _ _ us hl => match us, hl with | [_, _], _ => rfl) fun cdv A outer s H E hr =>
    (pss_cons (ps_if (pt_cmpR op_lt (pv 1) (pe_callB call_len (by rfl) T.n_len (by decide +kernel) (pa_cons (pv 0) pa_nil)) (nomark _)) (pss_one (ps_ret (pe_callTy call_int1 (by rfl) T.n_int (by decide +kernel) (pa_cons (pe_ix ix_seq (pv 0) (pv 1) (fun _ _ => rfl)) pa_nil)))) pss_nil)
      (pss_one (ps_ret pe_int)))
theorem ok__law_digits (T : Top K mg c_ZERO) : Zdef P w K mg base 1 "_law_digits" ["cell", "at"] (RelOf K [] (t__law_digits K) 5 2) := by
  obtain ⟨f, fd, F, hm⟩ := T.f__law_digits
  exact def_z F hm sc__law_digits rfl rfl (F.binds fun _ _ _ _ _ _ us hl => match us, hl with | [_, _], _ => rfl) fun cdv A outer s H E hr =>
    (pss_cons (ps_set (i := 2) sc__law_digits.nd rfl (Or.inl rfl) (pe_lst pa_nil))
      (pss_cons (ps_if (pt_cmpR op_lt (pv 0) pe_int (nomark _)) (pss_one (ps_set (i := 0) sc__law_digits.nd rfl (Or.inl rfl) (pe_op op_sub pe_int (pe_op op_mul pe_int (pv 0))))) pss_nil)
      (pss_cons (ps_if (pt_cmpR op_ge (pv 0) (pe_op op_pow pe_int pe_int) (nomark _)) (pss_one (ps_for PassesOwn.never rfl (pi_range1 (by rfl) T.n_range (pa_cons pe_int pa_nil)) (pg_name (i := 3) sc__law_digits.nd rfl (Or.inl rfl)) (pss_one (ps_if (pt_cmpR op_gt (pv 0) pe_int (nomark _)) (pss_cons (ps_expr (pe_bm PySem.F.plainAttrs_list PySem.F.slot_list_append PySem.F.type_list_append mt_append (pv 2) (pa_cons (pe_op op_mod (pe_callTy call_int1 (by rfl) T.n_int (by decide +kernel) (pa_cons (pv 0) pa_nil)) pe_int) pa_nil)))
      (pss_one (ps_set (i := 0) sc__law_digits.nd rfl (Or.inl rfl) (pe_op op_fdiv (pv 0) pe_int)))) pss_nil)))) (pss_cons (ps_set (i := 4) sc__law_digits.nd rfl (Or.inl rfl) (pe_op op_mod (pe_callTy call_int1 (by rfl) T.n_int (by decide +kernel) (pa_cons (pe_op op_add (pe_op op_add (pe_op op_mul (pv 0) pe_int) (pe_op op_mul (pv 1) pe_int)) pe_int) pa_nil)) pe_int))
      (pss_one (ps_for PassesOwn.never rfl (pi_range1 (by rfl) T.n_range (pa_cons pe_int pa_nil)) (pg_name (i := 3) sc__law_digits.nd rfl (Or.inl rfl)) (pss_cons (ps_set (i := 4) sc__law_digits.nd rfl (Or.inl rfl) (pe_op op_mod (pe_callTy call_int1 (by rfl) T.n_int (by decide +kernel) (pa_cons (pe_op op_add (pe_op op_add (pe_op op_mul (pv 4) pe_int) (pe_op op_mul pe_int (pv 3))) pe_int) pa_nil)) pe_int))
      (pss_one (ps_expr (pe_bm PySem.F.plainAttrs_list PySem.F.slot_list_append PySem.F.type_list_append mt_append (pv 2) (pa_cons (pe_op op_mod (pe_callTy call_int1 (by rfl) T.n_int (by decide +kernel) (pa_cons (pe_op op_fdiv (pv 4) pe_int) pa_nil)) pe_int) pa_nil)))))))))
      (pss_one (ps_ret (pv 2))))))
theorem ok__law_box (T : Top K mg c_ZERO) {R__law_cell : Rel} (g__law_cell : Zdef P w K mg base 1 "_law_cell" ["script", "k"] R__law_cell) {R__law_digits : Rel} (g__law_digits : Zdef P w K mg base 1 "_law_digits" ["cell", "at"] R__law_digits) : Zdef P w K mg base 2 "_law_box" ["script", "at"] (RelOf K [] (t__law_box K R__law_cell R__law_digits) 2 2) := by
  obtain ⟨f, fd, F, hm⟩ := T.f__law_box
  exact def_z F hm sc__law_box rfl rfl (F.binds fun _ _ _ _ _ _ us hl => match us, hl with | [_, _], _ => rfl) fun cdv A outer s H E hr =>
    (pss_one (ps_ret (pe_lst (pa_cons (pe_callZ g__law_digits hr (by omega) (by rfl) (pa_cons (pe_callZ g__law_cell hr (by omega) (by rfl) (pa_cons (pv 0) (pa_cons (pv 1) pa_nil))) (pa_cons (pv 1) pa_nil))) (pa_cons pe_int pa_nil)))))
theorem ok__law_draw (T : Top K mg c_ZERO) : Zdef P w K mg base 1 "_law_draw" ["box", "many"] (RelOf K [0] (t__law_draw K) 3 2) := by
  obtain ⟨f, fd, F, hm⟩ := T.f__law_draw
  exact def_z F hm sc__law_draw rfl rfl (F.binds fun _ _ _ _ _ _ us hl => match us, hl with | [_, _], _ => rfl) fun cdv A outer s H E hr =>
    (pss_cons (ps_set (i := 2) sc__law_draw.nd rfl (Or.inl rfl) (pe_ix ix_seq (pv 0) pe_int (fun _ _ => rfl)))
      (pss_cons (ps_asg (pe_op op_add (pv 2) pe_int) (pg_sub (pv 0) pe_int set_list))
      (pss_cons (ps_if (pt_cmpR op_lt (pv 2) (pe_callB call_len (by rfl) T.n_len (by decide +kernel) (pa_cons (pe_ix ix_seq (pv 0) pe_int (fun _ _ => rfl)) pa_nil)) (nomark _)) (pss_one (ps_ret (pe_op op_mod (pe_callTy call_int1 (by rfl) T.n_int (by decide +kernel) (pa_cons (pe_ix ix_seq (pe_ix ix_seq (pv 0) pe_int (fun _ _ => rfl)) (pv 2) (fun _ _ => rfl)) pa_nil)) (pv 1)))) pss_nil)
      (pss_one (ps_ret pe_int)))))
theorem ok__law_number (T : Top K mg c_ZERO) {R__law_draw : Rel} (g__law_draw : Zdef P w K mg base 1 "_law_draw" ["box", "many"] R__law_draw) : Zdef P w K mg base 2 "_law_number" ["box", "most"] (RelOf K [0] (t__law_number K R__law_draw) 4 2) := by
  obtain ⟨f, fd, F, hm⟩ := T.f__law_number
  exact def_z F hm sc__law_number rfl rfl (F.binds fun _ _ _ _ _ _ us hl => match us, hl with | [_, _], _ => rfl) fun cdv A outer s H E hr =>
    (pss_cons (ps_set (i := 2) sc__law_number.nd rfl (Or.inl rfl) pe_int)
      (pss_cons (ps_for PassesOwn.never rfl (pi_range1 (by rfl) T.n_range (pa_cons (pe_op op_add pe_int (pe_callZ g__law_draw hr (by omega) (by rfl) (pa_cons (pv 0) (pa_cons pe_int pa_nil)))) pa_nil)) (pg_name (i := 3) sc__law_number.nd rfl (Or.inl rfl)) (pss_one (ps_set (i := 2) sc__law_number.nd rfl (Or.inl rfl) (pe_op op_add (pe_op op_mul (pv 2) pe_int) (pe_callZ g__law_draw hr (by omega) (by rfl) (pa_cons (pv 0) (pa_cons pe_int pa_nil)))))))
      (pss_cons (ps_if (pt_cmpR op_eq (pe_callZ g__law_draw hr (by omega) (by rfl) (pa_cons (pv 0) (pa_cons pe_int pa_nil))) pe_int (nomark _)) (pss_one (ps_ret (pe_op op_mod (pe_callTy call_int1 (by rfl) T.n_int (by decide +kernel) (pa_cons (pv 2) pa_nil)) (pe_op op_add (pv 1) pe_int)))) pss_nil)
      (pss_one (ps_ret (pe_un un_neg (pe_op op_mod (pe_callTy call_int1 (by rfl) T.n_int (by decide +kernel) (pa_cons (pv 2) pa_nil)) (pe_op op_add (pv 1) pe_int))))))))
theorem ok__law_gcd (T : Top K mg c_ZERO) : Zdef P w K mg base 1 "_law_gcd" ["one", "two"] (RelOf K [] (t__law_gcd K) 3 2) := by
  obtain ⟨f, fd, F, hm⟩ := T.f__law_gcd
  exact def_z F hm sc__law_gcd rfl rfl (F.binds fun _ _ _ _ _ _ us hl => match us, hl with | [_, _], _ => rfl) fun cdv A outer s H E hr =>
    (pss_cons (ps_set (i := 0) sc__law_gcd.nd rfl (Or.inl rfl) (pe_callB call_abs (by rfl) T.n_abs (by decide +kernel) (pa_cons (pv 0) pa_nil)))
      (pss_cons (ps_set (i := 1) sc__law_gcd.nd rfl (Or.inl rfl) (pe_callB call_abs (by rfl) T.n_abs (by decide +kernel) (pa_cons (pv 1) pa_nil)))
      (pss_cons (ps_while PassesOwn.never (pt_cmpR op_gt (pv 1) pe_int (nomark _)) (pss_cons (ps_set (i := 2) sc__law_gcd.nd rfl (Or.inl rfl) (pe_op op_mod (pe_callTy call_int1 (by rfl) T.n_int (by decide +kernel) (pa_cons (pv 0) pa_nil)) (pv 1)))
      (pss_cons (ps_set (i := 0) sc__law_gcd.nd rfl (Or.inl rfl) (pv 1))
      (pss_one (ps_set (i := 1) sc__law_gcd.nd rfl (Or.inl rfl) (pv 2))))))
      (pss_one (ps_ret (pv 0))))))
theorem ok__law_is_integer (T : Top K mg c_ZERO) : Zdef P w K mg base 1 "_law_is_integer" ["actual"] (RelOf K [] (t__law_is_integer K) 1 1) := by
  obtain ⟨f, fd, F, hm⟩ := T.f__law_is_integer
  exact def_z F hm sc__law_is_integer rfl rfl (F.binds fun _ _ _ _ _ _ us hl => match us, hl with | [_], _ => rfl) fun cdv A outer s H E hr =>
    (pss_one (ps_ret (pe_and (pe_callB call_isi (by rfl) T.n_isinstance (by decide +kernel) (pa_cons (pv 0) (pa_cons (pe_bltn (by rfl) T.n_int (by decide +kernel) rfl) pa_nil))) (pe_one (pe_not (pe_callB call_isi (by rfl) T.n_isinstance (by decide +kernel) (pa_cons (pv 0) (pa_cons (pe_bltn (by rfl) T.n_bool (by decide +kernel) rfl) pa_nil))))))))
theorem ok__law_is_integers (T : Top K mg c_ZERO) {R__law_is_integer : Rel} (g__law_is_integer : Zdef P w K mg base 1 "_law_is_integer" ["actual"] R__law_is_integer) : Zdef P w K mg base 2 "_law_is_integers" ["actual", "many"] (RelOf K [] (K21.t__law_is_integers K R__law_is_integer) 3 2) := by
  obtain ⟨f, fd, F, hm⟩ := T.f__law_is_integers
  exact def_z F hm sc__law_is_integers rfl rfl (F.binds fun _ _ _ _ _ _ us hl => match us, hl with | [_, _], _ => rfl) fun cdv A outer s H E hr =>
    (pss_cons (ps_if (PW.pt (pw_or (pt_not (pt_val (pe_callB call_isi (by rfl) T.n_isinstance (by decide +kernel) (pa_cons (pv 0) (pa_cons (pe_bltn (by rfl) T.n_tuple (by decide +kernel) rfl) pa_nil))))) (pw_or1 (pt_cmpR op_ne (pe_callB call_len (by rfl) T.n_len (by decide +kernel) (pa_cons (pv 0) pa_nil)) (pv 1) (nomark _))))) (pss_one (ps_ret pe_bl)) pss_nil)
      (pss_one (ps_ret (pe_callB (cr_all rfl) (by rfl) T.n_all (by decide +kernel) (pa_cons (pe_lc (own := [("part", 2)]) (g := (gName 2)) (tt := tYes) rfl sc__law_is_integers.nd (pi_tup (pv 0)) (blkOk_by (N := ["actual", "many", "part"]) (sc := defScope s__law_is_integers) (by decide +kernel)) (fun _ _ _ _ _ => (pg_name (i := 2) sc__law_is_integers.nd rfl (Or.inl rfl))) (fun _ _ _ _ _ => pts_nil) (fun _ _ _ _ _ => (pe_callZ g__law_is_integer hr (by omega) (by rfl) (pa_cons (pv 2) pa_nil)))) pa_nil)))))
theorem ok__law_same {lv : Nat} (T : Top K mg c_ZERO) {R__law_is_integer : Rel} (g__law_is_integer : Zdef P w K mg base 1 "_law_is_integer" ["actual"] R__law_is_integer) {R__law_same : Rel} (g__law_same : Zdef P w K mg base (lv + 1) "_law_same" ["actual", "due"] R__law_same) : Zdef P w K mg base (lv + 2) "_law_same" ["actual", "due"] (RelOf K [] (t__law_same K R__law_is_integer R__law_same) 3 2) := by
  obtain ⟨f, fd, F, hm⟩ := T.f__law_same
  exact def_z F hm sc__law_same rfl rfl (F.binds fun _ _ _ _ _ _ us hl => match us, hl with | [_, _], _ => rfl) fun cdv A outer s H E hr =>
    (pss_cons (ps_if (pt_val (pe_callB call_isi (by rfl) T.n_isinstance (by decide +kernel) (pa_cons (pv 1) (pa_cons (pe_bltn (by rfl) T.n_tuple (by decide +kernel) rfl) pa_nil)))) (pss_cons (ps_if (PW.pt (pw_or (pt_not (pt_val (pe_callB call_isi (by rfl) T.n_isinstance (by decide +kernel) (pa_cons (pv 0) (pa_cons (pe_bltn (by rfl) T.n_tuple (by decide +kernel) rfl) pa_nil))))) (pw_or1 (pt_cmpR op_ne (pe_callB call_len (by rfl) T.n_len (by decide +kernel) (pa_cons (pv 0) pa_nil)) (pe_callB call_len (by rfl) T.n_len (by decide +kernel) (pa_cons (pv 1) pa_nil)) (nomark _))))) (pss_one (ps_ret pe_bl)) pss_nil)
      (pss_one (ps_ret (pe_callB (cr_all rfl) (by rfl) T.n_all (by decide +kernel) (pa_cons (pe_lc (own := [("at", 2)]) (g := (gName 2)) (tt := tYes) rfl sc__law_same.nd (pi_range1 (by rfl) T.n_range (pa_cons (pe_callB call_len (by rfl) T.n_len (by decide +kernel) (pa_cons (pv 1) pa_nil)) pa_nil)) (blkOk_by (N := ["actual", "due", "at"]) (sc := defScope s__law_same) (by decide +kernel)) (fun _ _ _ _ _ => (pg_name (i := 2) sc__law_same.nd rfl (Or.inl rfl))) (fun _ _ _ _ _ => pts_nil) (fun _ _ _ _ _ => (pe_callZ g__law_same hr (by omega) (by rfl) (pa_cons (pe_ix ix_seq (pv 0) (pv 2) (fun _ _ => rfl)) (pa_cons (pe_ix ix_seq (pv 1) (pv 2) (fun _ _ => rfl)) pa_nil))))) pa_nil))))) pss_nil)
      (pss_cons (ps_if (pt_val (pe_callB call_isi (by rfl) T.n_isinstance (by decide +kernel) (pa_cons (pv 1) (pa_cons (pe_bltn (by rfl) T.n_bool (by decide +kernel) rfl) pa_nil)))) (pss_one (ps_ret (pe_and (pe_callB call_isi (by rfl) T.n_isinstance (by decide +kernel) (pa_cons (pv 0) (pa_cons (pe_bltn (by rfl) T.n_bool (by decide +kernel) rfl) pa_nil))) (pe_one (pe_cmpR op_eq (pv 0) (pv 1) (nomark _)))))) pss_nil)
      (pss_cons (ps_if (pt_val (pe_callB call_isi (by rfl) T.n_isinstance (by decide +kernel) (pa_cons (pv 1) (pa_cons (pe_bltn (by rfl) T.n_int (by decide +kernel) rfl) pa_nil)))) (pss_one (ps_ret (pe_and (pe_callZ g__law_is_integer hr (by omega) (by rfl) (pa_cons (pv 0) pa_nil)) (pe_one (pe_cmpR op_eq (pv 0) (pv 1) (nomark _)))))) pss_nil)
      (pss_cons (ps_if (pt_val (pe_callB call_isi (by rfl) T.n_isinstance (by decide +kernel) (pa_cons (pv 1) (pa_cons (pe_bltn (by rfl) T.n_str (by decide +kernel) rfl) pa_nil)))) (pss_one (ps_ret (pe_and (pe_callB call_isi (by rfl) T.n_isinstance (by decide +kernel) (pa_cons (pv 0) (pa_cons (pe_bltn (by rfl) T.n_str (by decide +kernel) rfl) pa_nil))) (pe_one (pe_cmpR op_eq (pv 0) (pv 1) (nomark _)))))) pss_nil)
      (pss_one (ps_ret (pe_and (pe_cmpR op_isN (pv 0) pe_non (nomark _)) (pe_one (pe_cmpR op_isN (pv 1) pe_non (nomark _))))))))))
theorem no__law_same (T : Top K mg c_ZERO) (k : Nat) : Zdef P w K mg base k "_law_same" ["actual", "due"] (fun _ _ _ => False) := by
  obtain ⟨f, fd, F, hm⟩ := T.f__law_same
  exact zdef_none F hm (F.binds fun _ _ _ _ _ _ us hl => match us, hl with | [_, _], _ => rfl) k
theorem ok__law_fraction (T : Top K mg c_ZERO) {R__law_gcd : Rel} (g__law_gcd : Zdef P w K mg base 1 "_law_gcd" ["one", "two"] R__law_gcd) : Zdef P w K mg base 2 "_law_fraction" ["top", "bottom"] (RelOf K [] (t__law_fraction K R__law_gcd) 3 2) := by
  obtain ⟨f, fd, F, hm⟩ := T.f__law_fraction
  exact def_z F hm sc__law_fraction rfl rfl (F.binds fun _ _ _ _ _ _ us hl => match us, hl with | [_, _], _ => rfl) fun cdv A outer s H E hr =>
    (pss_cons (ps_if (pt_cmpR op_lt (pv 1) pe_int (nomark _)) (pss_cons (ps_set (i := 0) sc__law_fraction.nd rfl (Or.inl rfl) (pe_un un_neg (pv 0)))
      (pss_one (ps_set (i := 1) sc__law_fraction.nd rfl (Or.inl rfl) (pe_un un_neg (pv 1))))) pss_nil)
      (pss_cons (ps_set (i := 2) sc__law_fraction.nd rfl (Or.inl rfl) (pe_callB (call_max2 rfl) (by rfl) T.n_max (by decide +kernel) (pa_cons (pe_callZ g__law_gcd hr (by omega) (by rfl) (pa_cons (pv 0) (pa_cons (pv 1) pa_nil))) (pa_cons pe_int pa_nil))))
      (pss_one (ps_ret (pe_tup (pa_cons (pe_op op_fdivZ (pv 0) (pv 2)) (pa_cons (pe_callB (call_max2 rfl) (by rfl) T.n_max (by decide +kernel) (pa_cons (pe_op op_fdivZ (pv 1) (pv 2)) (pa_cons pe_int pa_nil))) pa_nil)))))))
theorem ok__law_add (T : Top K mg c_ZERO) {R__law_fraction : Rel} (g__law_fraction : Zdef P w K mg base 2 "_law_fraction" ["top", "bottom"] R__law_fraction) : Zdef P w K mg base 3 "_law_add" ["one", "two"] (RelOf K [] (K21.t__law_add K R__law_fraction) 2 2) := by
  obtain ⟨f, fd, F, hm⟩ := T.f__law_add
  exact def_z F hm sc__law_add rfl rfl (F.binds fun _ _ _ _ _ _ us hl => match us, hl with | [_, _], _ => rfl) fun cdv A outer s H E hr =>
    (pss_one (ps_ret (pe_callZ g__law_fraction hr (by omega) (by rfl) (pa_cons (pe_op op_add (pe_op op_mulW (pe_ix ix_seq (pv 0) pe_int (fun _ _ => rfl)) (pe_ix ix_seq (pv 1) pe_int (fun _ _ => rfl))) (pe_op op_mulW (pe_ix ix_seq (pv 1) pe_int (fun _ _ => rfl)) (pe_ix ix_seq (pv 0) pe_int (fun _ _ => rfl)))) (pa_cons (pe_op op_mulW (pe_ix ix_seq (pv 0) pe_int (fun _ _ => rfl)) (pe_ix ix_seq (pv 1) pe_int (fun _ _ => rfl))) pa_nil)))))
theorem ok__law_a_fraction (T : Top K mg c_ZERO) {R__law_fraction : Rel} (g__law_fraction : Zdef P w K mg base 2 "_law_fraction" ["top", "bottom"] R__law_fraction) {R__law_number : Rel} (g__law_number : Zdef P w K mg base 2 "_law_number" ["box", "most"] R__law_number) : Zdef P w K mg base 3 "_law_a_fraction" ["box", "most"] (RelOf K [0] (K21.t__law_a_fraction K R__law_fraction R__law_number) 2 2) := by
  obtain ⟨f, fd, F, hm⟩ := T.f__law_a_fraction
  exact def_z F hm sc__law_a_fraction rfl rfl (F.binds fun _ _ _ _ _ _ us hl => match us, hl with | [_, _], _ => rfl) fun cdv A outer s H E hr =>
    (pss_one (ps_ret (pe_callZ g__law_fraction hr (by omega) (by rfl) (pa_cons (pe_callZ g__law_number hr (by omega) (by rfl) (pa_cons (pv 0) (pa_cons (pv 1) pa_nil))) (pa_cons (pe_op op_add pe_int (pe_callB call_abs (by rfl) T.n_abs (by decide +kernel) (pa_cons (pe_callZ g__law_number hr (by omega) (by rfl) (pa_cons (pv 0) (pa_cons (pv 1) pa_nil))) pa_nil))) pa_nil)))))
theorem ok__law_vector (T : Top K mg c_ZERO) {R__law_a_fraction : Rel} (g__law_a_fraction : Zdef P w K mg base 3 "_law_a_fraction" ["box", "most"] R__law_a_fraction) {R__law_draw : Rel} (g__law_draw : Zdef P w K mg base 1 "_law_draw" ["box", "many"] R__law_draw) : Zdef P w K mg base 4 "_law_vector" ["box", "many"] (RelOf K [0] (K21.t__law_vector K R__law_a_fraction R__law_draw) 5 2) := by
  obtain ⟨f, fd, F, hm⟩ := T.f__law_vector
  exact def_z F hm sc__law_vector rfl rfl (F.binds fun _ _ _ _ _ _ us hl => match us, hl with | [_, _], _ => rfl) fun cdv A outer s H E hr =>
    (pss_cons (ps_set (i := 2) sc__law_vector.nd rfl (Or.inl rfl) (pe_cmpR op_eq (pe_callZ g__law_draw hr (by omega) (by rfl) (pa_cons (pv 0) (pa_cons pe_int pa_nil))) pe_int (nomark _)))
      (pss_cons (ps_set (i := 3) sc__law_vector.nd rfl (Or.inl rfl) (pe_lst pa_nil))
      (pss_cons (ps_for PassesOwn.never rfl (pi_range1 (by rfl) T.n_range (pa_cons (pv 1) pa_nil)) (pg_name (i := 4) sc__law_vector.nd rfl (Or.inl rfl)) (pss_one (ps_if (PW.pt (pw_or (pt_truth (pv 2) (by intro _; rfl)) (pw_or1 (pt_cmpR op_eq (pe_callZ g__law_draw hr (by omega) (by rfl) (pa_cons (pv 0) (pa_cons pe_int pa_nil))) pe_int (nomark _))))) (pss_one (ps_expr (pe_bm PySem.F.plainAttrs_list PySem.F.slot_list_append PySem.F.type_list_append mt_append (pv 3) (pa_cons (pe_tup (pa_cons pe_int (pa_cons pe_int pa_nil))) pa_nil)))) (pss_one (ps_expr (pe_bm PySem.F.plainAttrs_list PySem.F.slot_list_append PySem.F.type_list_append mt_append (pv 3) (pa_cons (pe_callZ g__law_a_fraction hr (by omega) (by rfl) (pa_cons (pv 0) (pa_cons (pe_op op_pow pe_int pe_int) pa_nil))) pa_nil)))))))
      (pss_one (ps_ret (pe_callTy call_tuple_of (by rfl) T.n_tuple (by decide +kernel) (pa_cons (pv 3) pa_nil)))))))
theorem ok__law_inner (T : Top K mg c_ZERO) {R__law_add : Rel} (g__law_add : Zdef P w K mg base 3 "_law_add" ["one", "two"] R__law_add) {R__law_fraction : Rel} (g__law_fraction : Zdef P w K mg base 2 "_law_fraction" ["top", "bottom"] R__law_fraction) : Zdef P w K mg base 4 "_law_inner" ["one", "two"] (RelOf K [] (K21.t__law_inner K R__law_add R__law_fraction) 4 2) := by
  obtain ⟨f, fd, F, hm⟩ := T.f__law_inner
  exact def_z F hm sc__law_inner rfl rfl (F.binds fun _ _ _ _ _ _ us hl => match us, hl with | [_, _], _ => rfl) fun cdv A outer s H E hr =>
    (pss_cons (ps_set (i := 2) sc__law_inner.nd rfl (Or.inl rfl) (pe_tup (pa_cons pe_int (pa_cons pe_int pa_nil))))
      (pss_cons (ps_for PassesOwn.never rfl (pi_range1 (by rfl) T.n_range (pa_cons (pe_callB call_len (by rfl) T.n_len (by decide +kernel) (pa_cons (pv 0) pa_nil)) pa_nil)) (pg_name (i := 3) sc__law_inner.nd rfl (Or.inl rfl)) (pss_one (ps_set (i := 2) sc__law_inner.nd rfl (Or.inl rfl) (pe_callZ g__law_add hr (by omega) (by rfl) (pa_cons (pv 2) (pa_cons (pe_callZ g__law_fraction hr (by omega) (by rfl) (pa_cons (pe_op op_mulW (pe_ix ix_seq (pe_ix ix_seq (pv 0) (pv 3) (fun _ _ => rfl)) pe_int (fun _ _ => rfl)) (pe_ix ix_seq (pe_ix ix_seq (pv 1) (pv 3) (fun _ _ => rfl)) pe_int (fun _ _ => rfl))) (pa_cons (pe_op op_mulW (pe_ix ix_seq (pe_ix ix_seq (pv 0) (pv 3) (fun _ _ => rfl)) pe_int (fun _ _ => rfl)) (pe_ix ix_seq (pe_ix ix_seq (pv 1) (pv 3) (fun _ _ => rfl)) pe_int (fun _ _ => rfl))) pa_nil))) pa_nil))))))
      (pss_one (ps_ret (pv 2)))))
theorem ok_law (T : Top K mg c_ZERO) {R__law_box : Rel} (g__law_box : Zdef P w K mg base 2 "_law_box" ["script", "at"] R__law_box) {R__law_draw : Rel} (g__law_draw : Zdef P w K mg base 1 "_law_draw" ["box", "many"] R__law_draw) {R__law_gcd : Rel} (g__law_gcd : Zdef P w K mg base 1 "_law_gcd" ["one", "two"] R__law_gcd) {R__law_inner : Rel} (g__law_inner : Zdef P w K mg base 4 "_law_inner" ["one", "two"] R__law_inner) {R__law_is_integers : Rel} (g__law_is_integers : Zdef P w K mg base 2 "_law_is_integers" ["actual", "many"] R__law_is_integers) {R__law_same : Rel} (g__law_same : Zdef P w K mg base 3 "_law_same" ["actual", "due"] R__law_same) {R__law_vector : Rel} (g__law_vector : Zdef P w K mg base 4 "_law_vector" ["box", "many"] R__law_vector) {R_inner : Rel} (g_inner : Zdef P w K mg base 3 "inner" ["first", "second"] R_inner) {R_primitive : Rel} (g_primitive : Zdef P w K mg base 1 "primitive" ["vector"] R_primitive) : Zdef P w K mg base 5 "law" ["script"] (RelOf K [] (K21.t_law K R__law_box R__law_draw R__law_gcd R__law_inner R__law_is_integers R__law_same R__law_vector R_inner R_primitive) 10 1) := by
  obtain ⟨f, fd, F, hm⟩ := T.f_law
  exact def_z F hm sc_law rfl rfl (F.binds fun _ _ _ _ _ _ us hl => match us, hl with | [_], _ => rfl) fun cdv A outer s H E hr =>
    (pss_cons (ps_set (i := 1) sc_law.nd rfl (Or.inl rfl) (pe_callZ g__law_box hr (by omega) (by rfl) (pa_cons (pv 0) (pa_cons pe_int pa_nil))))
      (pss_cons (ps_set (i := 2) sc_law.nd rfl (Or.inl rfl) (pe_op op_add pe_int (pe_callZ g__law_draw hr (by omega) (by rfl) (pa_cons (pv 1) (pa_cons pe_int pa_nil)))))
      (pss_cons (ps_set (i := 3) sc_law.nd rfl (Or.inl rfl) (pe_callZ g__law_vector hr (by omega) (by rfl) (pa_cons (pe_callZ g__law_box hr (by omega) (by rfl) (pa_cons (pv 0) (pa_cons pe_int pa_nil))) (pa_cons (pv 2) pa_nil))))
      (pss_cons (ps_set (i := 4) sc_law.nd rfl (Or.inl rfl) (pe_callZ g__law_vector hr (by omega) (by rfl) (pa_cons (pe_callZ g__law_box hr (by omega) (by rfl) (pa_cons (pv 0) (pa_cons pe_int pa_nil))) (pa_cons (pv 2) pa_nil))))
      (pss_cons (ps_if (pt_not (pt_val (pe_callZ g__law_same hr (by omega) (by rfl) (pa_cons (pe_callZ g_inner hr (by omega) (by rfl) (pa_cons (pv 3) (pa_cons (pv 4) pa_nil))) (pa_cons (pe_callZ g__law_inner hr (by omega) (by rfl) (pa_cons (pv 3) (pa_cons (pv 4) pa_nil))) pa_nil))))) (pss_one (ps_ret pe_bl)) pss_nil)
      (pss_cons (ps_set (i := 5) sc_law.nd rfl (Or.inl rfl) (pe_callZ g_primitive hr (by omega) (by rfl) (pa_cons (pv 3) pa_nil)))
      (pss_cons (ps_if (pt_not (pt_val (pe_callZ g__law_is_integers hr (by omega) (by rfl) (pa_cons (pv 5) (pa_cons (pv 2) pa_nil))))) (pss_one (ps_ret pe_bl)) pss_nil)
      (pss_cons (ps_set (i := 6) sc_law.nd rfl (Or.inl rfl) pe_int)
      (pss_cons (ps_for PassesOwn.never rfl (pi_range1 (by rfl) T.n_range (pa_cons (pv 2) pa_nil)) (pg_name (i := 7) sc_law.nd rfl (Or.inl rfl)) (pss_cons (ps_set (i := 6) sc_law.nd rfl (Or.inl rfl) (pe_callZ g__law_gcd hr (by omega) (by rfl) (pa_cons (pv 6) (pa_cons (pe_ix ix_seq (pv 5) (pv 7) (fun _ _ => rfl)) pa_nil))))
      (pss_cons (ps_if (PW.pt (pw_or (pt_cmpR op_ne (pe_cmpR op_eq (pe_ix ix_seq (pv 5) (pv 7) (fun _ _ => rfl)) pe_int (nomark _)) (pe_cmpR op_eq (pe_ix ix_seq (pe_ix ix_seq (pv 3) (pv 7) (fun _ _ => rfl)) pe_int (fun _ _ => rfl)) pe_int (nomark _)) (nomark _)) (pw_or1 (pt_cmpR op_lt (pe_op op_mulW (pe_ix ix_seq (pv 5) (pv 7) (fun _ _ => rfl)) (pe_ix ix_seq (pe_ix ix_seq (pv 3) (pv 7) (fun _ _ => rfl)) pe_int (fun _ _ => rfl))) pe_int (nomark _))))) (pss_one (ps_ret pe_bl)) pss_nil)
      (pss_one (ps_for PassesOwn.never rfl (pi_range1 (by rfl) T.n_range (pa_cons (pv 2) pa_nil)) (pg_name (i := 8) sc_law.nd rfl (Or.inl rfl)) (pss_one (ps_if (pt_cmpR op_ne (pe_op op_mulW (pe_op op_mulW (pe_ix ix_seq (pv 5) (pv 7) (fun _ _ => rfl)) (pe_ix ix_seq (pe_ix ix_seq (pv 3) (pv 8) (fun _ _ => rfl)) pe_int (fun _ _ => rfl))) (pe_ix ix_seq (pe_ix ix_seq (pv 3) (pv 7) (fun _ _ => rfl)) pe_int (fun _ _ => rfl))) (pe_op op_mulW (pe_op op_mulW (pe_ix ix_seq (pv 5) (pv 8) (fun _ _ => rfl)) (pe_ix ix_seq (pe_ix ix_seq (pv 3) (pv 7) (fun _ _ => rfl)) pe_int (fun _ _ => rfl))) (pe_ix ix_seq (pe_ix ix_seq (pv 3) (pv 8) (fun _ _ => rfl)) pe_int (fun _ _ => rfl))) (nomark _)) (pss_one (ps_ret pe_bl)) pss_nil)))))))
      (pss_one (ps_ret (pe_or (pe_cmpR op_eq (pv 6) pe_int (nomark _)) (pe_one (pe_callB (cr_all rfl) (by rfl) T.n_all (by decide +kernel) (pa_cons (pe_lc (own := [("part", 9)]) (g := (gName 9)) (tt := tYes) rfl sc_law.nd (pi_tup (pv 3)) (blkOk_by (N := ["script", "box", "many", "one", "two", "found", "divisor", "at", "other", "part"]) (sc := defScope s_law) (by decide +kernel)) (fun _ _ _ _ _ => (pg_name (i := 9) sc_law.nd rfl (Or.inl rfl))) (fun _ _ _ _ _ => pts_nil) (fun _ _ _ _ _ => (pe_cmpR op_eq (pe_ix ix_seq (pv 9) pe_int (fun _ _ => rfl)) pe_int (nomark _)))) pa_nil)))))))))))))))
end
theorem all_mk {l : PySem.W.OpenLaw} {w : World} {K : PySem.W.Frag} {h : Heap} {mg : Str → Option Value} {fa : Addr} (X : K.In h) (G : h.Ns mainGlobals mg) (hfa : mg "law" = some (.ref fa))
    {f0 : Addr} {od0 an0 : Option Addr} {sl0 : Array (Option Value)} {oc0 kV0 dc0 pm0 cd0 ct0 : Value}
    (a0 : PySem.W.nsIn K mainGlobals "fraction" = some (some (.ref f0))) (l0 : K.lookup f0 = some ⟨oc0, od0, .func (PySem.W.fnOf "fraction" "fraction" (defArgs s_fraction) (defBody s_fraction) (defScope s_fraction) .none kV0 dc0 pm0 an0 cd0 ct0), sl0⟩) (c0 : PySem.W.codeIn K cd0 "fraction" = true) (k0 : PySem.W.keepIn K (.ref f0) = true)
    {f1 : Addr} {od1 an1 : Option Addr} {sl1 : Array (Option Value)} {oc1 kV1 dc1 pm1 cd1 ct1 : Value}
    (a1 : PySem.W.nsIn K mainGlobals "plus" = some (some (.ref f1))) (l1 : K.lookup f1 = some ⟨oc1, od1, .func (PySem.W.fnOf "plus" "plus" (defArgs s_plus) (defBody s_plus) (defScope s_plus) .none kV1 dc1 pm1 an1 cd1 ct1), sl1⟩) (c1 : PySem.W.codeIn K cd1 "plus" = true) (k1 : PySem.W.keepIn K (.ref f1) = true)
    {f2 : Addr} {od2 an2 : Option Addr} {sl2 : Array (Option Value)} {oc2 kV2 dc2 pm2 cd2 ct2 : Value}
    (a2 : PySem.W.nsIn K mainGlobals "times" = some (some (.ref f2))) (l2 : K.lookup f2 = some ⟨oc2, od2, .func (PySem.W.fnOf "times" "times" (defArgs s_times) (defBody s_times) (defScope s_times) .none kV2 dc2 pm2 an2 cd2 ct2), sl2⟩) (c2 : PySem.W.codeIn K cd2 "times" = true) (k2 : PySem.W.keepIn K (.ref f2) = true)
    {f3 : Addr} {od3 an3 : Option Addr} {sl3 : Array (Option Value)} {oc3 kV3 dc3 pm3 cd3 ct3 : Value}
    (a3 : PySem.W.nsIn K mainGlobals "inner" = some (some (.ref f3))) (l3 : K.lookup f3 = some ⟨oc3, od3, .func (PySem.W.fnOf "inner" "inner" (defArgs s_inner) (defBody s_inner) (defScope s_inner) .none kV3 dc3 pm3 an3 cd3 ct3), sl3⟩) (c3 : PySem.W.codeIn K cd3 "inner" = true) (k3 : PySem.W.keepIn K (.ref f3) = true)
    {f4 : Addr} {od4 an4 : Option Addr} {sl4 : Array (Option Value)} {oc4 kV4 dc4 pm4 cd4 ct4 : Value}
    (a4 : PySem.W.nsIn K mainGlobals "primitive" = some (some (.ref f4))) (l4 : K.lookup f4 = some ⟨oc4, od4, .func (PySem.W.fnOf "primitive" "primitive" (defArgs s_primitive) (defBody s_primitive) (defScope s_primitive) .none kV4 dc4 pm4 an4 cd4 ct4), sl4⟩) (c4 : PySem.W.codeIn K cd4 "primitive" = true) (k4 : PySem.W.keepIn K (.ref f4) = true)
    {f5 : Addr} {od5 an5 : Option Addr} {sl5 : Array (Option Value)} {oc5 kV5 dc5 pm5 cd5 ct5 : Value}
    (a5 : PySem.W.nsIn K mainGlobals "_law_cell" = some (some (.ref f5))) (l5 : K.lookup f5 = some ⟨oc5, od5, .func (PySem.W.fnOf "_law_cell" "_law_cell" (defArgs s__law_cell) (defBody s__law_cell) (defScope s__law_cell) .none kV5 dc5 pm5 an5 cd5 ct5), sl5⟩) (c5 : PySem.W.codeIn K cd5 "_law_cell" = true) (k5 : PySem.W.keepIn K (.ref f5) = true)
    {f6 : Addr} {od6 an6 : Option Addr} {sl6 : Array (Option Value)} {oc6 kV6 dc6 pm6 cd6 ct6 : Value}
    (a6 : PySem.W.nsIn K mainGlobals "_law_digits" = some (some (.ref f6))) (l6 : K.lookup f6 = some ⟨oc6, od6, .func (PySem.W.fnOf "_law_digits" "_law_digits" (defArgs s__law_digits) (defBody s__law_digits) (defScope s__law_digits) .none kV6 dc6 pm6 an6 cd6 ct6), sl6⟩) (c6 : PySem.W.codeIn K cd6 "_law_digits" = true) (k6 : PySem.W.keepIn K (.ref f6) = true)
    {f7 : Addr} {od7 an7 : Option Addr} {sl7 : Array (Option Value)} {oc7 kV7 dc7 pm7 cd7 ct7 : Value}
    (a7 : PySem.W.nsIn K mainGlobals "_law_box" = some (some (.ref f7))) (l7 : K.lookup f7 = some ⟨oc7, od7, .func (PySem.W.fnOf "_law_box" "_law_box" (defArgs s__law_box) (defBody s__law_box) (defScope s__law_box) .none kV7 dc7 pm7 an7 cd7 ct7), sl7⟩) (c7 : PySem.W.codeIn K cd7 "_law_box" = true) (k7 : PySem.W.keepIn K (.ref f7) = true)
    {f8 : Addr} {od8 an8 : Option Addr} {sl8 : Array (Option Value)} {oc8 kV8 dc8 pm8 cd8 ct8 : Value}
    (a8 : PySem.W.nsIn K mainGlobals "_law_draw" = some (some (.ref f8))) (l8 : K.lookup f8 = some ⟨oc8, od8, .func (PySem.W.fnOf "_law_draw" "_law_draw" (defArgs s__law_draw) (defBody s__law_draw) (defScope s__law_draw) .none kV8 dc8 pm8 an8 cd8 ct8), sl8⟩) (c8 : PySem.W.codeIn K cd8 "_law_draw" = true) (k8 : PySem.W.keepIn K (.ref f8) = true)
    {f9 : Addr} {od9 an9 : Option Addr} {sl9 : Array (Option Value)} {oc9 kV9 dc9 pm9 cd9 ct9 : Value}
    (a9 : PySem.W.nsIn K mainGlobals "_law_number" = some (some (.ref f9))) (l9 : K.lookup f9 = some ⟨oc9, od9, .func (PySem.W.fnOf "_law_number" "_law_number" (defArgs s__law_number) (defBody s__law_number) (defScope s__law_number) .none kV9 dc9 pm9 an9 cd9 ct9), sl9⟩) (c9 : PySem.W.codeIn K cd9 "_law_number" = true) (k9 : PySem.W.keepIn K (.ref f9) = true)
    {f10 : Addr} {od10 an10 : Option Addr} {sl10 : Array (Option Value)} {oc10 kV10 dc10 pm10 cd10 ct10 : Value}
    (a10 : PySem.W.nsIn K mainGlobals "_law_gcd" = some (some (.ref f10))) (l10 : K.lookup f10 = some ⟨oc10, od10, .func (PySem.W.fnOf "_law_gcd" "_law_gcd" (defArgs s__law_gcd) (defBody s__law_gcd) (defScope s__law_gcd) .none kV10 dc10 pm10 an10 cd10 ct10), sl10⟩) (c10 : PySem.W.codeIn K cd10 "_law_gcd" = true) (k10 : PySem.W.keepIn K (.ref f10) = true)
    {f11 : Addr} {od11 an11 : Option Addr} {sl11 : Array (Option Value)} {oc11 kV11 dc11 pm11 cd11 ct11 : Value}
    (a11 : PySem.W.nsIn K mainGlobals "_law_is_integer" = some (some (.ref f11))) (l11 : K.lookup f11 = some ⟨oc11, od11, .func (PySem.W.fnOf "_law_is_integer" "_law_is_integer" (defArgs s__law_is_integer) (defBody s__law_is_integer) (defScope s__law_is_integer) .none kV11 dc11 pm11 an11 cd11 ct11), sl11⟩) (c11 : PySem.W.codeIn K cd11 "_law_is_integer" = true) (k11 : PySem.W.keepIn K (.ref f11) = true)
    {f12 : Addr} {od12 an12 : Option Addr} {sl12 : Array (Option Value)} {oc12 kV12 dc12 pm12 cd12 ct12 : Value}
    (a12 : PySem.W.nsIn K mainGlobals "_law_is_integers" = some (some (.ref f12))) (l12 : K.lookup f12 = some ⟨oc12, od12, .func (PySem.W.fnOf "_law_is_integers" "_law_is_integers" (defArgs s__law_is_integers) (defBody s__law_is_integers) (defScope s__law_is_integers) .none kV12 dc12 pm12 an12 cd12 ct12), sl12⟩) (c12 : PySem.W.codeIn K cd12 "_law_is_integers" = true) (k12 : PySem.W.keepIn K (.ref f12) = true)
    {f13 : Addr} {od13 an13 : Option Addr} {sl13 : Array (Option Value)} {oc13 kV13 dc13 pm13 cd13 ct13 : Value}
    (a13 : PySem.W.nsIn K mainGlobals "_law_same" = some (some (.ref f13))) (l13 : K.lookup f13 = some ⟨oc13, od13, .func (PySem.W.fnOf "_law_same" "_law_same" (defArgs s__law_same) (defBody s__law_same) (defScope s__law_same) .none kV13 dc13 pm13 an13 cd13 ct13), sl13⟩) (c13 : PySem.W.codeIn K cd13 "_law_same" = true) (k13 : PySem.W.keepIn K (.ref f13) = true)
    {f14 : Addr} {od14 an14 : Option Addr} {sl14 : Array (Option Value)} {oc14 kV14 dc14 pm14 cd14 ct14 : Value}
    (a14 : PySem.W.nsIn K mainGlobals "_law_fraction" = some (some (.ref f14))) (l14 : K.lookup f14 = some ⟨oc14, od14, .func (PySem.W.fnOf "_law_fraction" "_law_fraction" (defArgs s__law_fraction) (defBody s__law_fraction) (defScope s__law_fraction) .none kV14 dc14 pm14 an14 cd14 ct14), sl14⟩) (c14 : PySem.W.codeIn K cd14 "_law_fraction" = true) (k14 : PySem.W.keepIn K (.ref f14) = true)
    {f15 : Addr} {od15 an15 : Option Addr} {sl15 : Array (Option Value)} {oc15 kV15 dc15 pm15 cd15 ct15 : Value}
    (a15 : PySem.W.nsIn K mainGlobals "_law_add" = some (some (.ref f15))) (l15 : K.lookup f15 = some ⟨oc15, od15, .func (PySem.W.fnOf "_law_add" "_law_add" (defArgs s__law_add) (defBody s__law_add) (defScope s__law_add) .none kV15 dc15 pm15 an15 cd15 ct15), sl15⟩) (c15 : PySem.W.codeIn K cd15 "_law_add" = true) (k15 : PySem.W.keepIn K (.ref f15) = true)
    {f16 : Addr} {od16 an16 : Option Addr} {sl16 : Array (Option Value)} {oc16 kV16 dc16 pm16 cd16 ct16 : Value}
    (a16 : PySem.W.nsIn K mainGlobals "_law_a_fraction" = some (some (.ref f16))) (l16 : K.lookup f16 = some ⟨oc16, od16, .func (PySem.W.fnOf "_law_a_fraction" "_law_a_fraction" (defArgs s__law_a_fraction) (defBody s__law_a_fraction) (defScope s__law_a_fraction) .none kV16 dc16 pm16 an16 cd16 ct16), sl16⟩) (c16 : PySem.W.codeIn K cd16 "_law_a_fraction" = true) (k16 : PySem.W.keepIn K (.ref f16) = true)
    {f17 : Addr} {od17 an17 : Option Addr} {sl17 : Array (Option Value)} {oc17 kV17 dc17 pm17 cd17 ct17 : Value}
    (a17 : PySem.W.nsIn K mainGlobals "_law_vector" = some (some (.ref f17))) (l17 : K.lookup f17 = some ⟨oc17, od17, .func (PySem.W.fnOf "_law_vector" "_law_vector" (defArgs s__law_vector) (defBody s__law_vector) (defScope s__law_vector) .none kV17 dc17 pm17 an17 cd17 ct17), sl17⟩) (c17 : PySem.W.codeIn K cd17 "_law_vector" = true) (k17 : PySem.W.keepIn K (.ref f17) = true)
    {f18 : Addr} {od18 an18 : Option Addr} {sl18 : Array (Option Value)} {oc18 kV18 dc18 pm18 cd18 ct18 : Value}
    (a18 : PySem.W.nsIn K mainGlobals "_law_inner" = some (some (.ref f18))) (l18 : K.lookup f18 = some ⟨oc18, od18, .func (PySem.W.fnOf "_law_inner" "_law_inner" (defArgs s__law_inner) (defBody s__law_inner) (defScope s__law_inner) .none kV18 dc18 pm18 an18 cd18 ct18), sl18⟩) (c18 : PySem.W.codeIn K cd18 "_law_inner" = true) (k18 : PySem.W.keepIn K (.ref f18) = true)
    {f19 : Addr} {od19 an19 : Option Addr} {sl19 : Array (Option Value)} {oc19 kV19 dc19 pm19 cd19 ct19 : Value}
    (a19 : PySem.W.nsIn K mainGlobals "law" = some (some (.ref f19))) (l19 : K.lookup f19 = some ⟨oc19, od19, .func (PySem.W.fnOf "law" "law" (defArgs s_law) (defBody s_law) (defScope s_law) .none kV19 dc19 pm19 an19 cd19 ct19), sl19⟩) (c19 : PySem.W.codeIn K cd19 "law" = true) (k19 : PySem.W.keepIn K (.ref f19) = true)
    (n_abs : PySem.W.nsIn K mainGlobals "abs" = some none)
    (n_all : PySem.W.nsIn K mainGlobals "all" = some none)
    (n_bool : PySem.W.nsIn K mainGlobals "bool" = some none)
    (n_gcd : PySem.W.nsIn K mainGlobals "gcd" = some (some (.builtin "math.gcd")))
    (n_int : PySem.W.nsIn K mainGlobals "int" = some none)
    (n_isinstance : PySem.W.nsIn K mainGlobals "isinstance" = some none)
    (n_lcm : PySem.W.nsIn K mainGlobals "lcm" = some (some (.builtin "math.lcm")))
    (n_len : PySem.W.nsIn K mainGlobals "len" = some none)
    (n_max : PySem.W.nsIn K mainGlobals "max" = some none)
    (n_range : PySem.W.nsIn K mainGlobals "range" = some none)
    (n_str : PySem.W.nsIn K mainGlobals "str" = some none)
    (n_tuple : PySem.W.nsIn K mainGlobals "tuple" = some none)
    (n_zip : PySem.W.nsIn K mainGlobals "zip" = some none)
    {a_ZERO : Addr} {t_ZERO_0 t_ZERO_1 : Tok} {n_ZERO : Nat} {oc_ZERO : Option Addr} {sl_ZERO : Array (Option Value)} (v_ZERO : PySem.W.nsIn K mainGlobals "ZERO" = some (some (.ref a_ZERO))) (u_ZERO : K.lookup a_ZERO = some ⟨.type "tuple", oc_ZERO, .seq #[.int 0 t_ZERO_0, .int 1 t_ZERO_1] n_ZERO, sl_ZERO⟩)
    : ∃ fd : FuncData, (∀ (s : Shared) (v : Value), BindsTo s fd ⟨[v], []⟩ [("script", v)]) ∧ ∀ base : Heap, K.In base → base.Ns mainGlobals mg → FnOk l.prog w K mg base CX0 5 fa fd ["script"] (SpLaw K) := by
  have e := hfa.symm.trans (PySem.W.mg_of X G a19)
  cases e
  have T : Top K mg (.ref a_ZERO)  := ⟨PySem.W.mg_none_of X G n_abs, PySem.W.mg_none_of X G n_all, PySem.W.mg_none_of X G n_bool, PySem.W.mg_of X G n_gcd, PySem.W.mg_none_of X G n_int, PySem.W.mg_none_of X G n_isinstance, PySem.W.mg_of X G n_lcm, PySem.W.mg_none_of X G n_len, PySem.W.mg_none_of X G n_max, PySem.W.mg_none_of X G n_range, PySem.W.mg_none_of X G n_str, PySem.W.mg_none_of X G n_tuple, PySem.W.mg_none_of X G n_zip, ⟨_, PySem.W.mg_of X G v_ZERO, rfl⟩, ⟨_, _, fun_mk (st := s_fraction) l0 c0 k0, PySem.W.mg_of X G a0⟩, ⟨_, _, fun_mk (st := s_plus) l1 c1 k1, PySem.W.mg_of X G a1⟩, ⟨_, _, fun_mk (st := s_times) l2 c2 k2, PySem.W.mg_of X G a2⟩, ⟨_, _, fun_mk (st := s_inner) l3 c3 k3, PySem.W.mg_of X G a3⟩, ⟨_, _, fun_mk (st := s_primitive) l4 c4 k4, PySem.W.mg_of X G a4⟩, ⟨_, _, fun_mk (st := s__law_cell) l5 c5 k5, PySem.W.mg_of X G a5⟩, ⟨_, _, fun_mk (st := s__law_digits) l6 c6 k6, PySem.W.mg_of X G a6⟩, ⟨_, _, fun_mk (st := s__law_box) l7 c7 k7, PySem.W.mg_of X G a7⟩, ⟨_, _, fun_mk (st := s__law_draw) l8 c8 k8, PySem.W.mg_of X G a8⟩, ⟨_, _, fun_mk (st := s__law_number) l9 c9 k9, PySem.W.mg_of X G a9⟩, ⟨_, _, fun_mk (st := s__law_gcd) l10 c10 k10, PySem.W.mg_of X G a10⟩, ⟨_, _, fun_mk (st := s__law_is_integer) l11 c11 k11, PySem.W.mg_of X G a11⟩, ⟨_, _, fun_mk (st := s__law_is_integers) l12 c12 k12, PySem.W.mg_of X G a12⟩, ⟨_, _, fun_mk (st := s__law_same) l13 c13 k13, PySem.W.mg_of X G a13⟩, ⟨_, _, fun_mk (st := s__law_fraction) l14 c14 k14, PySem.W.mg_of X G a14⟩, ⟨_, _, fun_mk (st := s__law_add) l15 c15 k15, PySem.W.mg_of X G a15⟩, ⟨_, _, fun_mk (st := s__law_a_fraction) l16 c16 k16, PySem.W.mg_of X G a16⟩, ⟨_, _, fun_mk (st := s__law_vector) l17 c17 k17, PySem.W.mg_of X G a17⟩, ⟨_, _, fun_mk (st := s__law_inner) l18 c18 k18, PySem.W.mg_of X G a18⟩, ⟨_, _, fun_mk (st := s_law) l19 c19 k19, PySem.W.mg_of X G a19⟩⟩
  have d_ZERO : ∀ H, Dz K H (.ref a_ZERO) (frD (0, 1)) := fun _ => .zt ⟨_, _, _, u_ZERO, rfl, rfl, by show 2 ≤ sizeLine; decide, .cons ⟨_, rfl⟩ (.cons ⟨_, rfl⟩ .nil)⟩
  refine ⟨PySem.W.fnOf "law" "law" (defArgs s_law) (defBody s_law) (defScope s_law) .none kV19 dc19 pm19 an19 cd19 ct19, fun s v => .of_eq rfl, fun base _ _ => ?_⟩
  have fin : ∀ {R : Rel}, (∀ ns : List Int, R [.fr (.lst (ns.map .int))] (.fr (.bl true)) [.fr (.lst (ns.map .int))]) → Zdef l.prog w K mg base 5 "law" ["script"] R → FnOk l.prog w K mg base CX0 5 fa (PySem.W.fnOf "law" "law" (defArgs s_law) (defBody s_law) (defScope s_law) .none kV19 dc19 pm19 an19 cd19 ct19) ["script"] (SpLaw K) := fun hR Z => law_fd Z hfa l19 (law_imp hR)
  have gfr := ok_fraction (base := base) (P := l.prog) (w := w) T
  have gpl := ok_plus T gfr
  have gti := ok_times T gfr
  have gin := ok_inner T gpl gti
  have gpr := ok_primitive (base := base) (P := l.prog) (w := w) T
  have gc := ok__law_cell (base := base) (P := l.prog) (w := w) T
  have gd := ok__law_digits (base := base) (P := l.prog) (w := w) T
  have gb := ok__law_box T gc gd
  have gw := ok__law_draw (base := base) (P := l.prog) (w := w) T
  have gn := ok__law_number T gw
  have gg := ok__law_gcd (base := base) (P := l.prog) (w := w) T
  have gi := ok__law_is_integer (base := base) (P := l.prog) (w := w) T
  have gii := ok__law_is_integers T gi
  have gs := ok__law_same (lv := 1) T gi (ok__law_same (lv := 0) T gi (no__law_same T 1))
  have glf := ok__law_fraction T gg
  have gla := ok__law_add T glf
  have gaf := ok__law_a_fraction T glf gn
  have gve := ok__law_vector T gaf gw
  have gli := ok__law_inner T gla glf
  have z := ok_law T gb gw gg gli gii gs gve gin gpr
  refine fin (fun ns => ?_) z
  have sn := rel_number (K := K) (sem_draw (K := K))
  have sf := rel_fraction (K := K)
  have lf := rel_law_fraction (K := K) (rel_gcd (K := K))
  have hz : ∀ ρ, EvZ K (tC (.ref a_ZERO)) ρ ρ (frD (0, 1)) := fun ρ => ev_c d_ZERO
  exact K21.sem_law (K21.box_of (sem_box sem_cell sem_digits)) sem_draw rel_gcd (K21.rel_linner (K21.rel_add lf) lf) (K21.rel_ints sem_is_integer) (K21.same_of (sem_same (n := 1) sem_is_integer (sem_same (n := 0) sem_is_integer (fun cs h => by obtain ⟨d, _, h⟩ := h; cases h)))) (K21.rel_vec (K21.rel_afr lf sn) sem_draw) (rel_inner hz (rel_plus sf) (rel_times sf)) rel_primitive ns
end Z
open PySem PySem.W PyProof.Rows
set_option maxHeartbeats 0 in
theorem PySem.Challenge.cw_cubesums_k21_primitive_vectors_holds : PySem.Challenge.rw_cubesums_k21_primitive_vectors.Holds := by
  w_on; o_law; k_head; (case hw => w_witness2)
  k_fill
  refine L2.walk_of (l := PySem.Challenge.rw_cubesums_k21_primitive_vectors) (n := 63) (k := 5) (x := "script") (CX := fun _ => L2.CX0) (sp := fun w => Z.SpLaw _) rfl (by decide) rfl ⟨rfl, by decide, by decide⟩ (fun w h Y => PySem.W.kIn_of Y) ?F (fun _ _ a ns hl _ hS => ⟨a, ns, rfl, hS, fun _ => rfl⟩) (fun _ _ _ _ _ h => h)
  case F =>
    intro w mg fa h KX G hmg
    refine' Z.all_mk KX G hmg ?a0 ?l0 ?c0 ?k0 ?a1 ?l1 ?c1 ?k1 ?a2 ?l2 ?c2 ?k2 ?a3 ?l3 ?c3 ?k3 ?a4 ?l4 ?c4 ?k4 ?a5 ?l5 ?c5 ?k5 ?a6 ?l6 ?c6 ?k6 ?a7 ?l7 ?c7 ?k7 ?a8 ?l8 ?c8 ?k8 ?a9 ?l9 ?c9 ?k9 ?a10 ?l10 ?c10 ?k10 ?a11 ?l11 ?c11 ?k11 ?a12 ?l12 ?c12 ?k12 ?a13 ?l13 ?c13 ?k13 ?a14 ?l14 ?c14 ?k14 ?a15 ?l15 ?c15 ?k15 ?a16 ?l16 ?c16 ?k16 ?a17 ?l17 ?c17 ?k17 ?a18 ?l18 ?c18 ?k18 ?a19 ?l19 ?c19 ?k19 ?n_abs ?n_all ?n_bool ?n_gcd ?n_int ?n_isinstance ?n_lcm ?n_len ?n_max ?n_range ?n_str ?n_tuple ?n_zip ?v_ZERO ?u_ZERO
    (case a0 => k_is)
    (case l0 => k_is)
    (case c0 => k_is)
    (case k0 => k_is)
    (case a1 => k_is)
    (case l1 => k_is)
    (case c1 => k_is)
    (case k1 => k_is)
    (case a2 => k_is)
    (case l2 => k_is)
    (case c2 => k_is)
    (case k2 => k_is)
    (case a3 => k_is)
    (case l3 => k_is)
    (case c3 => k_is)
    (case k3 => k_is)
    (case a4 => k_is)
    (case l4 => k_is)
    (case c4 => k_is)
    (case k4 => k_is)
    (case a5 => k_is)
    (case l5 => k_is)
    (case c5 => k_is)
    (case k5 => k_is)
    (case a6 => k_is)
    (case l6 => k_is)
    (case c6 => k_is)
    (case k6 => k_is)
    (case a7 => k_is)
    (case l7 => k_is)
    (case c7 => k_is)
    (case k7 => k_is)
    (case a8 => k_is)
    (case l8 => k_is)
    (case c8 => k_is)
    (case k8 => k_is)
    (case a9 => k_is)
    (case l9 => k_is)
    (case c9 => k_is)
    (case k9 => k_is)
    (case a10 => k_is)
    (case l10 => k_is)
    (case c10 => k_is)
    (case k10 => k_is)
    (case a11 => k_is)
    (case l11 => k_is)
    (case c11 => k_is)
    (case k11 => k_is)
    (case a12 => k_is)
    (case l12 => k_is)
    (case c12 => k_is)
    (case k12 => k_is)
    (case a13 => k_is)
    (case l13 => k_is)
    (case c13 => k_is)
    (case k13 => k_is)
    (case a14 => k_is)
    (case l14 => k_is)
    (case c14 => k_is)
    (case k14 => k_is)
    (case a15 => k_is)
    (case l15 => k_is)
    (case c15 => k_is)
    (case k15 => k_is)
    (case a16 => k_is)
    (case l16 => k_is)
    (case c16 => k_is)
    (case k16 => k_is)
    (case a17 => k_is)
    (case l17 => k_is)
    (case c17 => k_is)
    (case k17 => k_is)
    (case a18 => k_is)
    (case l18 => k_is)
    (case c18 => k_is)
    (case k18 => k_is)
    (case a19 => k_is)
    (case l19 => k_is)
    (case c19 => k_is)
    (case k19 => k_is)
    (case n_abs => k_is)
    (case n_all => k_is)
    (case n_bool => k_is)
    (case n_gcd => k_is)
    (case n_int => k_is)
    (case n_isinstance => k_is)
    (case n_lcm => k_is)
    (case n_len => k_is)
    (case n_max => k_is)
    (case n_range => k_is)
    (case n_str => k_is)
    (case n_tuple => k_is)
    (case n_zip => k_is)
    (case v_ZERO => k_is)
    (case u_ZERO => k_is)

